import Derived.Test.YtejchncdimcdbaaGreatDoorTopA
import Derived.Test.YtejchncdimcdbaaGreatDoorWNew
import Derived.Deep.RegionHeld3
import Derived.Defers
import Derived.Recover
import Derived.Deep.RegionLaw
import Derived.Test.YtejchncdimcdbaaGreatDoorQTail
import Derived.Laws.Rows
import Derived.Test.YtejchncdimcdbaaGreatDoorBase
import Derived.Laws.StructEq
import Derived.BigFrame
import Derived.Deep.MidRow
import Derived.Lib.SlBytesConst
import Derived.Laws.ShiftsVarLaws
namespace Go.Proofs.YtejchncdimcdbaaGreatDoor
open Go.RowKit Go.BigFrame
set_option linter.unusedVariables false
set_option linter.unusedSimpArgs false

/-- An entry: its kind, key, value. -/
structure En where
  k : Nat
  key : List Nat
  val : List Nat
deriving DecidableEq
def enC (e : En) (kv vv : Value) : Array Value := #[.int .u8 (e.k : Int), kv, vv]
structure OkE (w : World) (e : En) (kv vv : Value) : Prop where
  k : e.k < 256
  key : Rd w kv e.key
  val : Rd w vv e.val
theorem OkE.old {w w' : World} {e : En} {kv vv : Value} (h : OkE w e kv vv) (k : Kept [] w w') : OkE w' e kv vv := ⟨h.k, h.key.old k (by simp), h.val.old k (by simp)⟩
def chkE (e : En) : Nat := if 64 < e.key.length ∨ 256 < e.val.length then 2 else if (e.k ≠ 1 ∧ e.k ≠ 2) ∨ (e.k = 2 ∧ 0 < e.val.length) then 3 else 0
def enB (e : En) : List Nat := e.k :: (uv e.key.length ++ e.key ++ (if e.k = 1 then uv e.val.length ++ e.val else []))
set_option maxRecDepth 100000 in
set_option maxHeartbeats 1000000 in
theorem isKind_any (k : Nat) (w : World) :
    Calls Tryz.prog 232 #[.int .u8 k] w fun e w' => e = .returned (.bool (decide (k = 1 ∨ k = 2))) ∧ w' = w := by
  by_cases h1 : k = 1
  · have HD := hide (decide_eq_true (Or.inl h1 : k = 1 ∨ k = 2))
    have e1 : ((k : Int) == 1) = true := by rw [h1]; rfl
    clear h1
    go_enter Tryz.func232, Tryz.ntmps232
    go_wp2
    go_ret
    exact ⟨by rw [unhide HD]; rfl, rfl⟩
  · have e1 : ((k : Int) == 1) = false := by rw [beq_eq_false_iff_ne]; omega
    by_cases h2 : k = 2
    · have HD := hide (decide_eq_true (Or.inr h2 : k = 1 ∨ k = 2))
      have e2 : ((k : Int) == 2) = true := by rw [h2]; rfl
      clear h1 h2
      go_enter Tryz.func232, Tryz.ntmps232
      go_wp2
      go_ret
      exact ⟨by rw [unhide HD]; rfl, rfl⟩
    · have HD := hide (decide_eq_false (by omega : ¬ (k = 1 ∨ k = 2)))
      have e2 : ((k : Int) == 2) = false := by rw [beq_eq_false_iff_ne]; omega
      clear h1 h2
      go_enter Tryz.func232, Tryz.ntmps232
      go_wp2
      go_ret
      exact ⟨by rw [unhide HD]; rfl, rfl⟩
set_option maxRecDepth 100000 in
set_option maxHeartbeats 1000000 in
theorem check_any (e : En) (kv vv : Value) (w : World) (h : OkE w e kv vv) :
    Calls Tryz.prog 189 #[.agg (enC e kv vv)] w fun r w' => r = .returned (.int .i64 (chkE e)) ∧ Kept [] w w' := by
  obtain ⟨E, hE⟩ : ∃ E, chkE e = E := ⟨_, rfl⟩
  rw [hE]
  have HE := hide hE
  clear hE
  obtain ⟨a1, n1, c1, rfl, hn1, _⟩ := id h.key
  obtain ⟨a2, n2, c2, rfl, hn2, _⟩ := id h.val
  obtain ⟨k, key, val⟩ := e
  simp only at hn1 hn2
  subst hn1
  subst hn2
  unfold enC
  have HK0 := hide ((Kept.refl [] w).alloc (.cells #[.int .u8 (k : Int), .slice a1 key.length c1, .slice a2 val.length c2] 89))
  go_enter Tryz.func189, Tryz.ntmps189
  by_cases h1 : 64 < key.length
  · have h1' : (64 : Int) < key.length := by omega
    have HE2 := hide (by rw [← unhide HE]; simp [chkE, h1] : E = 2)
    go_wp2
    go_ret
    exact ⟨by rw [unhide HE2]; rfl, unhide HK0⟩
  · have h1' : ¬ (64 : Int) < key.length := by omega
    by_cases h2 : 256 < val.length
    · have h2' : (256 : Int) < val.length := by omega
      have HE2 := hide (by rw [← unhide HE]; simp [chkE, h2] : E = 2)
      go_wp2
      go_ret
      exact ⟨by rw [unhide HE2]; rfl, unhide HK0⟩
    · have h2' : ¬ (256 : Int) < val.length := by omega
      go_wp2_with fail
      refine Calls.mono (isKind_any k _) ?_
      rintro r w1 ⟨rfl, rfl⟩
      by_cases hk : k = 1 ∨ k = 2
      · rw [decide_eq_true hk]
        by_cases hk2 : k = 2
        · have e2 : ((k : Int) == 2) = true := by rw [hk2]; rfl
          by_cases hv : 0 < val.length
          · have hv' : (0 : Int) < val.length := by omega
            have HE2 := hide (by rw [← unhide HE]; simp [chkE, h1, h2, hk2, hv] : E = 3)
            clear hk hk2
            go_wp2
            go_ret
            exact ⟨by rw [unhide HE2]; rfl, unhide HK0⟩
          · have hv' : ¬ (0 : Int) < val.length := by omega
            have HE2 := hide (by rw [← unhide HE]; simp [chkE, h1, h2, hk2, hv] : E = 0)
            clear hk hk2
            go_wp2
            go_ret
            exact ⟨by rw [unhide HE2]; rfl, unhide HK0⟩
        · have e2 : ((k : Int) == 2) = false := by rw [beq_eq_false_iff_ne]; omega
          have HE2 := hide (by rw [← unhide HE]; have hk1 : k = 1 := by omega
                               simp [chkE, h1, h2, hk1] : E = 0)
          clear hk hk2
          go_wp2
          go_ret
          exact ⟨by rw [unhide HE2]; rfl, unhide HK0⟩
      · rw [decide_eq_false hk]
        have HE2 := hide (by rw [← unhide HE]; have hk1 : k ≠ 1 ∧ k ≠ 2 := by omega
                             simp [chkE, h1, h2, hk1] : E = 3)
        clear hk
        go_wp2
        go_ret
        exact ⟨by rw [unhide HE2]; rfl, unhide HK0⟩
end Go.Proofs.YtejchncdimcdbaaGreatDoor
namespace Go.Proofs.YtejchncdimcdbaaGreatDoor
open Go.RowKit Go.BigFrame
set_option linter.unusedVariables false
set_option linter.unusedSimpArgs false

theorem Wn.notNew {w0 w : World} {b : Nat} {v : Value} {bs : List Nat} (h : Wn w0 w b v bs) : w.heap.size ∉ b :: v.ownBlock.toList := by
  intro hx
  rcases List.mem_cons.1 hx with hx | hx
  · have := h.at_.lt; omega
  · have := h.at_.ownlt (g := w.heap.size) (by simpa [Option.mem_toList] using hx); omega
theorem alloc_at (w : World) (a : Obj) (b : Obj) : ((w.alloc a).alloc b).heap[w.heap.size + 1]? = some b := by
  have h9 := heap_alloc_new (w.alloc a) b
  have e : (w.alloc a).heap.size = w.heap.size + 1 := Array.size_push _
  rw [e] at h9
  exact h9
set_option maxRecDepth 100000 in
set_option maxHeartbeats 1000000 in
theorem layEntry_any {w0 w : World} {b : Nat} {v : Value} {bs : List Nat} (e : En) (kv vv : Value) (h : Wn w0 w b v bs) (he : OkE w0 e kv vv) (hl : bs.length + e.key.length + e.val.length ≤ 1000000000000) :
    Calls Tryz.prog 146 #[.pointer (some ⟨b, 0, none⟩), .agg (enC e kv vv)] w fun r w' => r = .returned (.tuple #[]) ∧ ∃ v', Wn w0 w' b v' (bs ++ enB e) := by
  have HW := hide h
  have HE := hide he
  have hk := he.k
  obtain ⟨a1, n1, c1, rfl, hn1, _⟩ := id he.key
  obtain ⟨a2, n2, c2, rfl, hn2, _⟩ := id he.val
  obtain ⟨k, key, val⟩ := e
  simp only at hn1 hn2 hk hl
  subst hn1
  subst hn2
  clear h he
  unfold enC
  have HG := hide (heap_alloc_new w (.cells #[.int .u8 (k : Int), .slice a1 key.length c1, .slice a2 val.length c2] 89))
  have HWW := hide ((unhide HW).pass ((Kept.refl [] w).alloc (.cells #[.int .u8 (k : Int), .slice a1 key.length c1, .slice a2 val.length c2] 89)))
  have HNN := hide (unhide HW).notNew
  go_enter Tryz.func146, Tryz.ntmps146
  go_wp2_with fail
  obtain ⟨W, hW⟩ : ∃ W, w.alloc (.cells #[.int .u8 (k : Int), .slice a1 key.length c1, .slice a2 val.length c2] 89) = W := ⟨_, rfl⟩
  rw [hW] at HG HWW ⊢
  clear hW
  have HC0 := hide (by rw [cell_of_row _ _ _ _ _ _ (unhide HG)]; rfl : W.cell? ⟨w.heap.size, 0, none⟩ = some (.int .u8 (k : Int)))
  have HC1 := hide (by rw [cell_of_row _ _ _ _ _ _ (unhide HG)]; rfl : W.cell? ⟨w.heap.size, 1, none⟩ = some (.slice a1 key.length c1))
  have HC2 := hide (by rw [cell_of_row _ _ _ _ _ _ (unhide HG)]; rfl : W.cell? ⟨w.heap.size, 2, none⟩ = some (.slice a2 val.length c2))
  refine Calls.mono (wu8_any b v bs k W (unhide HWW).at_ hk (by omega)) ?_
  rintro r w1 ⟨rfl, v1, h1, g1⟩
  have d0 := g1.kept.cell (unhide HC0) (unhide HNN)
  have d1 := g1.kept.cell (unhide HC1) (unhide HNN)
  have HW1 := hide ((unhide HWW).grew h1 g1)
  have HG1 := hide g1
  rw [show bs ++ wide k 1 = bs ++ [k] by simp [wide, Nat.mod_eq_of_lt hk]] at HW1
  clear h1 g1
  have HU1 := hide (uv_len key.length (by omega))
  have HU2 := hide (uv_len val.length (by omega))
  go_wp2_with fail
  refine Calls.mono (wblob_any b v1 _ (bs ++ [k]) key w1 (unhide HW1).at_ (fun w' kk => (unhide HW1).rd (unhide HE).key kk) (by simp only [List.length_append, List.length_cons, List.length_nil]; omega)) ?_
  rintro r w2 ⟨rfl, v2, h2, g2⟩
  have g12 := (unhide HG1).trans g2
  have q0 := g12.kept.cell (unhide HC0) (unhide HNN)
  have q2 := g12.kept.cell (unhide HC2) (unhide HNN)
  have HW2 := hide ((unhide HW1).grew h2 g2)
  clear h2 g2 g12 d0 d1
  by_cases hk1 : k = 1
  · have e1 : ((k : Int) == 1) = true := by rw [hk1]; rfl
    have HB := hide (by simp [enB, hk1] : enB ⟨k, key, val⟩ = k :: (uv key.length ++ key ++ (uv val.length ++ val)))
    clear hk1
    go_wp2_with fail
    refine Calls.mono (wn_blob (unhide HW2) (unhide HE).val (by have := unhide HU1; have := unhide HU2; simp only [List.length_append, List.length_cons, List.length_nil]; omega)) ?_
    rintro r w3 ⟨rfl, v3, h3⟩
    have HW3 := hide h3
    clear h3
    go_wp2
    go_end0
    refine ⟨rfl, v3, ?_⟩
    rw [unhide HB]
    have h9 := unhide HW3
    simpa only [List.append_assoc, List.cons_append, List.nil_append] using h9
  · have e1 : ((k : Int) == 1) = false := by rw [beq_eq_false_iff_ne]; omega
    have HB := hide (by simp [enB, hk1] : enB ⟨k, key, val⟩ = k :: (uv key.length ++ key))
    clear hk1
    go_wp2
    go_end0
    refine ⟨rfl, v2, ?_⟩
    rw [unhide HB]
    have h9 := unhide HW2
    simpa only [List.append_assoc, List.cons_append, List.nil_append] using h9
end Go.Proofs.YtejchncdimcdbaaGreatDoor
namespace Go.Proofs.YtejchncdimcdbaaGreatDoor
open Go.RowKit Go.BigFrame
set_option linter.unusedVariables false
set_option linter.unusedSimpArgs false

end Go.Proofs.YtejchncdimcdbaaGreatDoor
namespace Go.Proofs.YtejchncdimcdbaaGreatDoor
open Go.RowKit Go.BigFrame
set_option linter.unusedVariables false
set_option linter.unusedSimpArgs false

theorem Tryz.size_entry : (Tryz.prog.info? 89).map (·.size) = some 3 := by kernel_rfl
theorem Rd.one {w : World} {v : Value} {bs : List Nat} (h : Rd w v bs) : v.oneCell' = true := by obtain ⟨_, _, _, rfl, _⟩ := h; rfl
end Go.Proofs.YtejchncdimcdbaaGreatDoor
namespace Go.Proofs.YtejchncdimcdbaaGreatDoor
open Go.RowKit Go.BigFrame
set_option linter.unusedVariables false
set_option linter.unusedSimpArgs false

theorem Kept.setRowE {L : List Nat} {a w : World} (h : Kept L a w) {g : Nat} (hg : g ∈ L ∨ a.heap.size ≤ g) (cs : Array Value) : Kept L a (w.setRow g cs) :=
  h.trans (M := [g]) ⟨rfl, rfl, rfl, by simp [World.setRow], fun k _ hn => setRow_other w g k _ (by simpa using hn)⟩ (by simpa using hg)
theorem row3_one {a b c : Value} (ha : a.oneCell' = true) (hb : b.oneCell' = true) (hc : c.oneCell' = true) : (#[a, b, c] : Array Value).all (·.oneCell') = true := by simp [ha, hb, hc]
/-- What a decoder throws. -/
def gave (f : Nat) : List PanicEntry := [{ v := .iface 300 (.agg #[.int .i64 (f : Int)]), recovered := false }]
set_option maxRecDepth 100000 in
set_option maxHeartbeats 1000000 in
theorem demand_ok (w : World) : Calls Tryz.prog 166 #[.int .i64 0] w fun r w' => r = .returned (.tuple #[]) ∧ w' = w := by
  go_enter Tryz.func166, Tryz.ntmps166
  go_wp2
  go_end0
  exact ⟨rfl, rfl⟩
set_option maxRecDepth 100000 in
set_option maxHeartbeats 1000000 in
theorem demand_bad (f : Nat) (w : World) (hf : f ≠ 0) : Calls Tryz.prog 166 #[.int .i64 f] w fun r w' => r = .panicked (gave f) ∧ w' = w := by
  have hb : ((f : Int) != 0) = true := by rw [bne_iff_ne]; omega
  go_enter Tryz.func166, Tryz.ntmps166
  go_wp2
  exact ⟨rfl, rfl, rfl⟩
/-- An entry off a reader: what is told, the place behind it, the fault (thrown where it is not 0). -/
def takeE (p : List Nat) (i : Nat) : En × Nat × Nat :=
  if (rNum p i 0 1).1 % 256 = 1 ∨ (rNum p i 0 1).1 % 256 = 2 then
    if (rNum p i 0 1).1 % 256 = 1 then
      (⟨1, (rBlob p (rNum p i 0 1).2.1 (rNum p i 0 1).2.2 64).1, (rBlob p (rBlob p (rNum p i 0 1).2.1 (rNum p i 0 1).2.2 64).2.1 (rBlob p (rNum p i 0 1).2.1 (rNum p i 0 1).2.2 64).2.2 256).1⟩,
        (rBlob p (rBlob p (rNum p i 0 1).2.1 (rNum p i 0 1).2.2 64).2.1 (rBlob p (rNum p i 0 1).2.1 (rNum p i 0 1).2.2 64).2.2 256).2)
    else (⟨2, (rBlob p (rNum p i 0 1).2.1 (rNum p i 0 1).2.2 64).1, []⟩, (rBlob p (rNum p i 0 1).2.1 (rNum p i 0 1).2.2 64).2)
  else (⟨0, [], []⟩, (rNum p i 0 1).2.1, 3)
def TookE (w w' : World) (b : Nat) (gv : Value) (p : List Nat) (x : En × Nat × Nat) (r : Ending) : Prop :=
  (x.2.2 = 0 → ∃ kv vv, r = .returned (.agg (enC x.1 kv vv)) ∧ OkE w' x.1 kv vv ∧ ReAt w' b gv p x.2.1 0 ∧ ∀ y, y ∈ blk kv ∨ y ∈ blk vv → w.heap.size ≤ y) ∧ (x.2.2 ≠ 0 → r = .panicked (gave x.2.2)) ∧ Kept [b] w w'
set_option maxRecDepth 100000 in
set_option maxHeartbeats 2000000 in
theorem takeEntry_any (b : Nat) (gv : Value) (p : List Nat) (i : Nat) (w : World) (h : ReAt w b gv p i 0) (hgv : ∀ x ∈ blk gv, x < w.heap.size) :
    Calls Tryz.prog 216 #[.pointer (some ⟨b, 0, none⟩)] w fun r w' => TookE w w' b gv p (takeE p i) r := by
  have H := hide h
  have hlt := h.lt
  obtain ⟨T, hT⟩ : ∃ T, takeE p i = T := ⟨_, rfl⟩
  rw [hT]
  have HT := hide hT
  unfold takeE at HT
  clear hT h
  have HZ := hide (heap_alloc_new w (.cells #[.int .u8 0, .slice none 0 0, .slice none 0 0] 89))
  have HK0 := hide ((Kept.refl [b] w).alloc (.cells #[.int .u8 0, .slice none 0 0, .slice none 0 0] 89))
  have HR0 := hide ((unhide H).kept ((Kept.refl [] w).alloc (.cells #[.int .u8 0, .slice none 0 0, .slice none 0 0] 89)) (by simp) (by simp))
  go_enter Tryz.func216, Tryz.ntmps216
  go_wp2_with fail
  refine Calls.mono (ru8_any b gv p i 0 _ (unhide HR0)) ?_
  rintro r w1 ⟨rfl, r1, k1⟩
  have hne0 : w.heap.size ≠ b := by omega
  have HZ1 := hide (k1.heap (unhide HZ) (by simpa using hne0))
  have HK1 := hide ((unhide HK0).trans k1 (by simp))
  obtain ⟨x, hx⟩ : ∃ x, rNum p i 0 1 = x := ⟨_, rfl⟩
  rw [hx] at HT r1 ⊢
  clear hx
  obtain ⟨x, i1, e1⟩ := x
  simp only at HT r1 ⊢
  have HR1 := hide r1
  clear r1 k1
  obtain ⟨k, hk⟩ : ∃ k, x % 256 = k := ⟨_, rfl⟩
  have hkl : k < 256 := by rw [← hk]; exact Nat.mod_lt _ (by decide)
  rw [hk] at HT ⊢
  clear hk
  have hs1 := (unhide HK1).size
  have hs1' : w.heap.size < w1.heap.size := by have := (unhide HK1).size; have h9 := lt_of_block (unhide HZ1); exact h9
  have HG1 := hide (heap_alloc_new w1 (.cells #[.int .u8 (k : Int), .slice none 0 0, .slice none 0 0] 89))
  go_wp2_with fail
  refine Calls.mono (isKind_any k _) ?_
  rintro r w2 ⟨rfl, rfl⟩
  have HK1a := hide ((unhide HK1).alloc (.cells #[.int .u8 (k : Int), .slice none 0 0, .slice none 0 0] 89))
  have HRW := hide ((unhide HR1).kept ((Kept.refl [] w1).alloc (.cells #[.int .u8 (k : Int), .slice none 0 0, .slice none 0 0] 89)) (by simp) (by simp))
  by_cases hk12 : ¬ (k = 1 ∨ k = 2)
  · rw [decide_eq_false hk12]
    have HT2 := hide (by rw [← unhide HT, if_neg hk12] : T = (⟨0, [], []⟩, i1, 3))
    clear hk12
    go_wp2_with fail
    refine Calls.mono (demand_bad 3 _ (by decide)) ?_
    rintro r w3 ⟨rfl, rfl⟩
    exact ⟨rfl, fun h => absurd h (by rw [unhide HT2]; simp), fun _ => by rw [unhide HT2], unhide HK1a⟩
  replace hk12 := Decidable.not_not.1 hk12
  rw [decide_eq_true hk12]
  have HT1 := hide (by have h9 := unhide HT; rw [if_pos hk12] at h9; exact h9)
  have HK12 := hide hk12
  clear hk12 HT
  go_wp2_with fail
  refine Calls.mono (rblob_any b gv p i1 e1 64 _ (unhide HRW) (by decide)) ?_
  rintro r w3 ⟨kv, rfl, rd3, r3, k3, n3⟩
  obtain ⟨y, hy⟩ : ∃ y, rBlob p i1 e1 64 = y := ⟨_, rfl⟩
  rw [hy] at HT1 rd3 r3
  clear hy
  obtain ⟨key, i2, e2⟩ := y
  simp only at HT1 rd3 r3
  have hneg : w1.heap.size ≠ b := by omega
  have HG3 := hide (k3.heap (unhide HG1) (by simpa using hneg))
  have HZ3 := hide (k3.heap ((Kept.refl [] w1).alloc (.cells #[.int .u8 (k : Int), .slice none 0 0, .slice none 0 0] 89) |>.heap (unhide HZ1) (by simp)) (by simpa using hne0))
  have HK3 := hide ((unhide HK1a).trans k3 (by simp))
  have HN3 := hide (show ∀ x ∈ blk kv, w1.heap.size + 1 ≤ x from fun x hx => by have h9 := n3 x hx; rw [show (w1.alloc (.cells #[.int .u8 (k : Int), .slice none 0 0, .slice none 0 0] 89)).heap.size = w1.heap.size + 1 from Array.size_push _] at h9; exact h9)
  obtain ⟨a3, m3, c3, hu3, _⟩ := id rd3
  subst hu3
  have HD3 := hide rd3
  have HR3 := hide r3
  clear rd3 r3 k3 n3
  have s0 := cell_of_row _ _ 0 _ _ _ (unhide HG3)
  have s1 := cell_of_row _ _ 1 _ _ _ (unhide HG3)
  have f1 := frozen_of_row _ _ 1 _ _ (unhide HG3)
  have HG4 := hide (by have h9 := heap_setCell_same _ w1.heap.size 1 _ 89 (.slice a3 m3 c3) (unhide HG3); exact h9 : (w3.setCell ⟨w1.heap.size, 1, none⟩ (.slice a3 m3 c3)).heap[w1.heap.size]? = some (.cells #[.int .u8 (k : Int), .slice a3 m3 c3, .slice none 0 0] 89 (0, 0)))
  have kst := (Kept.refl [w1.heap.size] w3).setCell (p := ⟨w1.heap.size, 1, none⟩) (Or.inl (by simp)) (.slice a3 m3 c3)
  have HZ4 := hide (kst.heap (unhide HZ3) (by simp; omega))
  have HK4 := hide ((unhide HK3).setCell (p := ⟨w1.heap.size, 1, none⟩) (Or.inr (by show w.heap.size ≤ w1.heap.size; omega)) (.slice a3 m3 c3))
  have HR4 := hide ((unhide HR3).kept kst (by simp; omega) (fun x hx => by simp; have h9 := hgv x hx; omega))
  have HD4 := hide ((unhide HD3).kept kst (fun x hx => by simp; have h9 := unhide HN3 x hx; omega))
  clear kst
  have t0 := cell_of_row _ _ 0 _ _ _ (unhide HG4)
  by_cases hk1 : k = 1
  · have hb1 : ((k : Int) == 1) = true := by rw [hk1]; rfl
    have HT2 := hide (by have h9 := unhide HT1; rw [if_pos hk1] at h9; exact h9.symm)
    have HKK := hide hk1
    clear hk1 HT1
    go_wp2_with fail
    obtain ⟨W4, hW4⟩ : ∃ W, w3.setCell ⟨w1.heap.size, 1, none⟩ (.slice a3 m3 c3) = W := ⟨_, rfl⟩
    rw [hW4] at HG4 HZ4 HK4 HR4 HD4 t0 ⊢
    clear hW4 s0 s1 f1 HG3 HR3 HD3
    refine Calls.mono (rblob_any b gv p i2 e2 256 W4 (unhide HR4) (by decide)) ?_
    rintro r w5 ⟨vv, rfl, rd5, r5, k5, n5⟩
    obtain ⟨y, hy⟩ : ∃ y, rBlob p i2 e2 256 = y := ⟨_, rfl⟩
    rw [hy] at HT2 rd5 r5
    clear hy
    obtain ⟨val, iF, eF⟩ := y
    simp only at HT2 rd5 r5
    have HG5 := hide (k5.heap (unhide HG4) (by simpa using hneg))
    have HZ5 := hide (k5.heap (unhide HZ4) (by simpa using hne0))
    have HK5 := hide ((unhide HK4).trans k5 (by simp))
    have hsz4 : w1.heap.size < W4.heap.size := lt_of_block (unhide HG4)
    have HN5 := hide (show ∀ x ∈ blk vv, w1.heap.size + 1 ≤ x from fun x hx => by have h9 := n5 x hx; omega)
    have HD5 := hide ((unhide HD4).kept k5 (fun x hx => by simp; have h9 := unhide HN3 x hx; omega))
    obtain ⟨a5, m5, c5, hu5, _⟩ := id rd5
    subst hu5
    have HV5 := hide rd5
    have HR5 := hide r5
    clear rd5 r5 k5 n5
    have s2 := cell_of_row _ _ 2 _ _ _ (unhide HG5)
    have f2 := frozen_of_row _ _ 2 _ _ (unhide HG5)
    have kst := (Kept.refl [w1.heap.size] w5).setCell (p := ⟨w1.heap.size, 2, none⟩) (Or.inl (by simp)) (.slice a5 m5 c5)
    have HGF := hide (by have h9 := heap_setCell_same _ w1.heap.size 2 _ 89 (.slice a5 m5 c5) (unhide HG5); exact h9 : (w5.setCell ⟨w1.heap.size, 2, none⟩ (.slice a5 m5 c5)).heap[w1.heap.size]? = some (.cells #[.int .u8 (k : Int), .slice a3 m3 c3, .slice a5 m5 c5] 89 (0, 0)))
    have HZF := hide (kst.heap (unhide HZ5) (by simp; omega))
    have HKF := hide ((unhide HK5).setCell (p := ⟨w1.heap.size, 2, none⟩) (Or.inr (by show w.heap.size ≤ w1.heap.size; omega)) (.slice a5 m5 c5))
    have HRF := hide ((unhide HR5).kept kst (by simp; omega) (fun x hx => by simp; have h9 := hgv x hx; omega))
    have HDF := hide ((unhide HD5).kept kst (fun x hx => by simp; have h9 := unhide HN3 x hx; omega))
    have HVF := hide ((unhide HV5).kept kst (fun x hx => by simp; have h9 := unhide HN5 x hx; omega))
    clear kst
    go_wp2_with fail
    obtain ⟨WF, hWF⟩ : ∃ W, w5.setCell ⟨w1.heap.size, 2, none⟩ (.slice a5 m5 c5) = W := ⟨_, rfl⟩
    rw [hWF] at HGF HZF HKF HRF HDF HVF ⊢
    clear hWF s2 f2
    have krow := (Kept.refl [w.heap.size] WF).setRowE (g := w.heap.size) (Or.inl (by simp)) #[.int .u8 (k : Int), .slice a3 m3 c3, .slice a5 m5 c5]
    have HRR := hide ((unhide HRF).kept krow (by simp; omega) (fun x hx => by simp; have h9 := hgv x hx; omega))
    have HOKF := hide (⟨by show (1 : Nat) < 256; omega, (unhide HDF).kept krow (fun x hx => by simp; have h9 := unhide HN3 x hx; omega), (unhide HVF).kept krow (fun x hx => by simp; have h9 := unhide HN5 x hx; omega)⟩ : OkE (WF.setRow w.heap.size #[.int .u8 (k : Int), .slice a3 m3 c3, .slice a5 m5 c5]) ⟨1, key, val⟩ (.slice a3 m3 c3) (.slice a5 m5 c5))
    have HNEW := hide (show ∀ y, y ∈ blk (.slice a3 m3 c3) ∨ y ∈ blk (.slice a5 m5 c5) → w.heap.size ≤ y from fun y hy => by rcases hy with h | h; have h9 := unhide HN3 y h; omega; have h9 := unhide HN5 y h; omega)
    clear krow
    go_wp2_with fail
    refine Calls.mono (rerr_any b gv p iF eF WF (unhide HRF)) ?_
    rintro r w5 ⟨rfl, rfl⟩
    by_cases hE : eF = 0
    · subst hE
      go_wp2_with fail
      refine Calls.mono (demand_ok _) ?_
      rintro r w6 ⟨rfl, rfl⟩
      go_wp2_with (first
        | (refine wpList_load_row rfl 89 _ rfl w1.heap.size rfl _ #[.int .u8 (k : Int), .slice a3 m3 c3, .slice a5 m5 c5] (0, 0) _ (unhide HGF) Tryz.underlying89 rfl Tryz.size_entry ?_)
        | (refine wpList_store_row rfl 89 _ _ rfl w.heap.size #[.int .u8 (k : Int), .slice a3 m3 c3, .slice a5 m5 c5] rfl rfl _ #[.int .u8 0, .slice none 0 0, .slice none 0 0] (unhide HZF) Tryz.size_entry rfl (row3_one rfl rfl rfl) ?_))
      refine bodyPost_ret (v := .agg #[.int .u8 (k : Int), .slice a3 m3 c3, .slice a5 m5 c5]) ?_ rfl ⟨fun _ => ⟨.slice a3 m3 c3, .slice a5 m5 c5, by rw [unhide HT2, unhide HKK]; rfl, ?_, ?_, ?_⟩, fun h => absurd (by rw [unhide HT2]) h, (unhide HKF).setRowE (Or.inr (Nat.le_refl _)) _⟩
      · exact results_cell_row rfl _ _ w.heap.size _ #[.int .u8 (k : Int), .slice a3 m3 c3, .slice a5 m5 c5] (0, 0) _ rfl (setRow_heap _ _ _ _ _ _ (unhide HZF)) Tryz.underlying89 rfl Tryz.size_entry
      · rw [unhide HT2]; exact unhide HOKF
      · rw [unhide HT2]; exact unhide HRR
      · exact unhide HNEW
    · have HT3 := hide (by rw [unhide HT2]; exact hE : T.2.2 ≠ 0)
      have HE := hide hE
      go_wp2_with fail
      refine Calls.mono (demand_bad eF _ hE) ?_
      rintro r w6 ⟨rfl, rfl⟩
      exact ⟨rfl, fun h => absurd h (unhide HT3), fun _ => by rw [unhide HT2], unhide HKF⟩
  · have hb1 : ((k : Int) == 1) = false := by rw [beq_eq_false_iff_ne]; omega
    have hk2 : k = 2 := by have h9 := unhide HK12; omega
    have HT2 := hide (by have h9 := unhide HT1; rw [if_neg hk1] at h9; exact h9.symm)
    have HKK := hide hk2
    clear hk1 hk2 HT1
    go_wp2_with fail
    obtain ⟨WF, hWF⟩ : ∃ W, w3.setCell ⟨w1.heap.size, 1, none⟩ (.slice a3 m3 c3) = W := ⟨_, rfl⟩
    rw [hWF] at HG4 HZ4 HK4 HR4 HD4 t0 ⊢
    clear hWF s0 s1 f1 HG3 HR3 HD3
    have HGF := HG4
    have HZF := HZ4
    have HKF := HK4
    have HRF := HR4
    have krow := (Kept.refl [w.heap.size] WF).setRowE (g := w.heap.size) (Or.inl (by simp)) #[.int .u8 (k : Int), .slice a3 m3 c3, .slice none 0 0]
    have HRR := hide ((unhide HRF).kept krow (by simp; omega) (fun x hx => by simp; have h9 := hgv x hx; omega))
    have HOKF := hide (⟨by show (2 : Nat) < 256; omega, (unhide HD4).kept krow (fun x hx => by simp; have h9 := unhide HN3 x hx; omega), Rd.nil _⟩ : OkE (WF.setRow w.heap.size #[.int .u8 (k : Int), .slice a3 m3 c3, .slice none 0 0]) ⟨2, key, []⟩ (.slice a3 m3 c3) (.slice none 0 0))
    have HNEW := hide (show ∀ y, y ∈ blk (.slice a3 m3 c3) ∨ y ∈ blk (.slice none 0 0) → w.heap.size ≤ y from fun y hy => by rcases hy with h | h; have h9 := unhide HN3 y h; omega; simp [blk] at h)
    clear krow
    go_wp2_with fail
    refine Calls.mono (rerr_any b gv p i2 e2 WF (unhide HRF)) ?_
    rintro r w5 ⟨rfl, rfl⟩
    by_cases hE : e2 = 0
    · subst hE
      go_wp2_with fail
      refine Calls.mono (demand_ok _) ?_
      rintro r w6 ⟨rfl, rfl⟩
      go_wp2_with (first
        | (refine wpList_load_row rfl 89 _ rfl w1.heap.size rfl _ #[.int .u8 (k : Int), .slice a3 m3 c3, .slice none 0 0] (0, 0) _ (unhide HGF) Tryz.underlying89 rfl Tryz.size_entry ?_)
        | (refine wpList_store_row rfl 89 _ _ rfl w.heap.size #[.int .u8 (k : Int), .slice a3 m3 c3, .slice none 0 0] rfl rfl _ #[.int .u8 0, .slice none 0 0, .slice none 0 0] (unhide HZF) Tryz.size_entry rfl (row3_one rfl rfl rfl) ?_))
      refine bodyPost_ret (v := .agg #[.int .u8 (k : Int), .slice a3 m3 c3, .slice none 0 0]) ?_ rfl ⟨fun _ => ⟨.slice a3 m3 c3, .slice none 0 0, by rw [unhide HT2, unhide HKK]; rfl, ?_, ?_, ?_⟩, fun h => absurd (by rw [unhide HT2]) h, (unhide HKF).setRowE (Or.inr (Nat.le_refl _)) _⟩
      · exact results_cell_row rfl _ _ w.heap.size _ #[.int .u8 (k : Int), .slice a3 m3 c3, .slice none 0 0] (0, 0) _ rfl (setRow_heap _ _ _ _ _ _ (unhide HZF)) Tryz.underlying89 rfl Tryz.size_entry
      · rw [unhide HT2]; exact unhide HOKF
      · rw [unhide HT2]; exact unhide HRR
      · exact unhide HNEW
    · have HT3 := hide (by rw [unhide HT2]; exact hE : T.2.2 ≠ 0)
      have HE := hide hE
      go_wp2_with fail
      refine Calls.mono (demand_bad e2 _ hE) ?_
      rintro r w6 ⟨rfl, rfl⟩
      exact ⟨rfl, fun h => absurd h (unhide HT3), fun _ => by rw [unhide HT2], unhide HKF⟩
end Go.Proofs.YtejchncdimcdbaaGreatDoor
namespace Go.Proofs.YtejchncdimcdbaaGreatDoor
open Go.RowKit Go.BigFrame
set_option linter.unusedVariables false
set_option linter.unusedSimpArgs false

theorem assert_gave (t : TypeId) (v : Value) (w : World) : (Instr.typeAssert (.iface 300 v) t 300 true).run Tryz.prog w = .ok (.tuple #[v, .bool true]) w := by
  unfold Instr.typeAssert
  simp [run_underlying Tryz.underlying300]
set_option maxRecDepth 100000 in
set_option maxHeartbeats 1000000 in
theorem reason_any (f : Nat) (w : World) : Calls Tryz.prog 163 #[.iface 300 (.agg #[.int .i64 (f : Int)])] w fun r w' => r = .returned (.int .i64 f) ∧ Kept [] w w' := by
  have HK := hide ((Kept.refl [] w).alloc (.cells #[.int .i64 (f : Int)] 300))
  have HK2 := hide (((Kept.refl [] w).alloc (.cells #[.int .i64 0] 300)).setCell (p := ⟨w.heap.size, 0, none⟩) (by simp) (.int .i64 (f : Int)))
  have ha := assert_gave
  go_enter Tryz.func163, Tryz.ntmps163
  go_wp2
  go_ret
  first | exact ⟨rfl, unhide HK⟩ | exact ⟨rfl, unhide HK2⟩
end Go.Proofs.YtejchncdimcdbaaGreatDoor
namespace Go.Proofs.YtejchncdimcdbaaGreatDoor
open Go.RowKit Go.BigFrame
set_option linter.unusedVariables false
set_option linter.unusedSimpArgs false

theorem results_cell_cell {P : Program} {fn : Func} {p q : Tmp} {ty ty2 : TypeId} (h : fn.results = #[.cell p ty, .cell q ty2]) (tmps : Array Value) (w : World) (g g2 : Nat) (t t2 : TypeId) (cs : Array Value) (fr fr2 : Nat × Nat) (d : TypeDesc) (k : IntKind) (x : Value)
    (hp : tmps.getD p undef = .pointer (some ⟨g, 0, none⟩)) (hg : w.heap[g]? = some (.cells cs t fr)) (hq : tmps.getD q undef = .pointer (some ⟨g2, 0, none⟩)) (hg2 : w.heap[g2]? = some (.cells #[x] t2 fr2))
    (hu : P.underlying ty = some d) (hd : (match d with | .struct _ | .array _ _ => true | _ => false) = true) (hi : (P.info? ty).map (·.size) = some cs.size) (hu2 : P.underlying ty2 = some (.int k)) :
    (results fn tmps).run P w = .ok (.tuple #[.agg cs, x]) w := by
  have hp' : tmps[p]?.getD undef = .pointer (some ⟨g, 0, none⟩) := by simpa using hp
  have hq' : tmps[q]?.getD undef = .pointer (some ⟨g2, 0, none⟩) := by simpa using hq
  have hc : w.cell? ⟨g2, 0, none⟩ = some x := by rw [cell_of_row _ _ _ _ _ _ hg2]; rfl
  have h2 : (isAgg ty2).run P w = .ok false w := by
    unfold isAgg
    rw [Sem.run_bind, run_underlying hu2 w]; simp
  have h3 : (loadVar ty2 ⟨g2, 0, none⟩).run P w = .ok x w := by
    unfold loadVar
    simp only [Sem.run_bind, h2, Result.andThen_ok]
    simp [go_sem, hc]
  simp [results, h, hp', hq', asAddr, run_loadVar_row w g t ty cs fr d hg hu hd hi, h3]
end Go.Proofs.YtejchncdimcdbaaGreatDoor
namespace Go.Proofs.YtejchncdimcdbaaGreatDoor
open Go.RowKit Go.BigFrame
set_option linter.unusedVariables false
set_option linter.unusedSimpArgs false

def cntE (f n : Nat) : Nat := if 64 < n then 2 else if n = 0 ∨ 18446744073709551615 - f < n then 3 else 0
def leastE (a b : Nat) : Nat := if a = 0 ∨ (b ≠ 0 ∧ b < a) then b else a
def chkB (f : Nat) (es : List En) : Nat := es.foldl (fun a e => leastE a (chkE e)) (cntE f es.length)
def entB (es : List En) : List Nat := (es.map enB).flatten
def batB (f : Nat) (es : List En) : List Nat := uv f ++ (uv es.length ++ entB es)
/-- The slice value v reads as these entries. -/
def RdN (w : World) (v : Value) (es : List En) : Prop :=
  ∃ (ao : Option Addr) (len cap : Nat) (kv vv : Nat → Value), v = .slice ao len cap ∧ es.length = len ∧ len ≤ cap ∧ cap ≤ 9223372036854775807 ∧ (∀ i (h : i < es.length), OkE w es[i] (kv i) (vv i)) ∧
    (0 < len → ∃ b off, ao = some ⟨b, off, none⟩ ∧ ∀ i (h : i < es.length), w.rangeAt b (off + i * 3) (enC es[i] (kv i) (vv i)).toList)
theorem rangeE_kept {L : List Nat} {w w' : World} {b o : Nat} {cs : List Value} (h : w.rangeAt b o cs) (k : Kept L w w') (hb : b ∉ L) : w'.rangeAt b o cs := fun j v hv => k.cell (h j v hv) hb
theorem RdN.old {w w' : World} {v : Value} {es : List En} (h : RdN w v es) (k : Kept [] w w') : RdN w' v es := by
  obtain ⟨ao, len, cap, kv, vv, h1, h2, h3, h4, h5, h6⟩ := h
  refine ⟨ao, len, cap, kv, vv, h1, h2, h3, h4, fun i hi => (h5 i hi).old k, fun hp => ?_⟩
  obtain ⟨b, off, e, hc⟩ := h6 hp
  exact ⟨b, off, e, fun i hi => rangeE_kept (hc i hi) k (by simp)⟩
theorem RdN.nil (w : World) : RdN w (.slice none 0 0) [] := ⟨none, 0, 0, fun _ => undef, fun _ => undef, rfl, rfl, Nat.le_refl _, by omega, fun i h => by simp at h, fun h => by omega⟩
set_option maxRecDepth 100000 in
set_option maxHeartbeats 1000000 in
theorem checkCount_any (f n : Nat) (w : World) (hf : f < 18446744073709551616) (hn : n < 18446744073709551616) :
    Calls Tryz.prog 187 #[.int .u64 f, .int .u64 n] w fun r w' => r = .returned (.int .i64 (cntE f n)) ∧ w' = w := by
  obtain ⟨E, hE⟩ : ∃ E, cntE f n = E := ⟨_, rfl⟩
  rw [hE]
  have HE := hide hE
  clear hE
  have hw : IntKind.u64.wrap (18446744073709551615 - (f : Int)) = 18446744073709551615 - (f : Int) := by
    simp [IntKind.wrap, IntKind.signed, IntKind.bits]; omega
  have hw' : (18446744073709551615 - (f : Int)) % 18446744073709551616 = 18446744073709551615 - (f : Int) := by omega
  go_enter Tryz.func187, Tryz.ntmps187
  by_cases h1 : 64 < n
  · have h1' : (64 : Int) < n := by omega
    have HE2 := hide (by rw [← unhide HE]; simp [cntE, h1] : E = 2)
    go_wp2
    go_ret
    exact ⟨by rw [unhide HE2]; rfl, rfl⟩
  · have h1' : ¬ (64 : Int) < n := by omega
    by_cases h2 : n = 0
    · have h2' : ((n : Int) == 0) = true := by rw [h2]; rfl
      have HE2 := hide (by rw [← unhide HE]; simp [cntE, h2] : E = 3)
      clear h2
      go_wp2
      go_ret
      exact ⟨by rw [unhide HE2]; rfl, rfl⟩
    · have h2' : ((n : Int) == 0) = false := by rw [beq_eq_false_iff_ne]; omega
      by_cases h3 : 18446744073709551615 - f < n
      · have h3' : 18446744073709551615 - (f : Int) < n := by omega
        have HE2 := hide (by rw [← unhide HE]; simp [cntE, h1, h2, h3] : E = 3)
        go_wp2
        go_ret
        exact ⟨by rw [unhide HE2]; rfl, rfl⟩
      · have h3' : ¬ 18446744073709551615 - (f : Int) < n := by omega
        have HE2 := hide (by rw [← unhide HE]; simp [cntE, h1, h2, h3] : E = 0)
        go_wp2
        go_ret
        exact ⟨by rw [unhide HE2]; rfl, rfl⟩
set_option maxRecDepth 100000 in
set_option maxHeartbeats 1000000 in
theorem least_any (a b : Nat) (w : World) :
    Calls Tryz.prog 188 #[.int .i64 a, .int .i64 b] w fun r w' => r = .returned (.int .i64 (leastE a b)) ∧ w' = w := by
  obtain ⟨E, hE⟩ : ∃ E, leastE a b = E := ⟨_, rfl⟩
  rw [hE]
  have HE := hide hE
  clear hE
  go_enter Tryz.func188, Tryz.ntmps188
  by_cases h1 : a = 0
  · have h1' : ((a : Int) == 0) = true := by rw [h1]; rfl
    have HE2 := hide (by rw [← unhide HE]; simp [leastE, h1] : E = b)
    clear h1
    go_wp2
    go_ret
    exact ⟨by rw [unhide HE2]; rfl, rfl⟩
  · have h1' : ((a : Int) == 0) = false := by rw [beq_eq_false_iff_ne]; omega
    by_cases h2 : b = 0
    · have h2' : ((b : Int) != 0) = false := by rw [h2]; rfl
      have HE2 := hide (by rw [← unhide HE]; simp [leastE, h1, h2] : E = a)
      clear h1 h2
      go_wp2
      go_ret
      exact ⟨by rw [unhide HE2]; rfl, rfl⟩
    · have h2' : ((b : Int) != 0) = true := by rw [bne_iff_ne]; omega
      by_cases h3 : b < a
      · have h3' : (b : Int) < a := by omega
        have HE2 := hide (by rw [← unhide HE]; simp [leastE, h1, h2, h3] : E = b)
        clear h1 h2
        go_wp2
        go_ret
        exact ⟨by rw [unhide HE2]; rfl, rfl⟩
      · have h3' : ¬ (b : Int) < a := by omega
        have HE2 := hide (by rw [← unhide HE]; simp [leastE, h1, h2, h3] : E = a)
        clear h1 h2
        go_wp2
        go_ret
        exact ⟨by rw [unhide HE2]; rfl, rfl⟩
theorem foldl_snoc {α β : Type} (g : β → α → β) (z : β) (l : List α) (i : Nat) (h : i < l.length) : (l.take (i + 1)).foldl g z = g ((l.take i).foldl g z) l[i] := by
  rw [List.take_succ_eq_append_getElem h, List.foldl_append]; rfl
set_option maxRecDepth 100000 in
set_option maxHeartbeats 1000000 in
theorem checkBatch_any (f : Nat) (v : Value) (es : List En) (w : World) (hf : f < 18446744073709551616) (h : RdN w v es) :
    Calls Tryz.prog 144 #[.agg #[.int .u64 f, v]] w fun r w' => r = .returned (.int .i64 (chkB f es)) ∧ Kept [] w w' := by
  obtain ⟨ao, len, cap, kv, vv, rfl, h1, h2, h3, h4, h5⟩ := h
  have H4 := hide h4
  have H5 := hide h5
  clear h4 h5
  subst h1
  have HK0 := hide ((Kept.refl [] w).alloc (.cells #[.int .u64 (f : Int), .slice ao es.length cap] 129))
  go_enter Tryz.func144, Tryz.ntmps144
  go_wp2_with fail
  refine Calls.mono (checkCount_any f es.length _ hf (by omega)) ?_
  rintro r w1 ⟨rfl, rfl⟩
  go_wp2_with fail
  go_loopw [16, 3] (fun t12 t4 wr => ∃ (i : Nat), i ≤ es.length ∧ t12 = .int .i64 i ∧ t4 = .int .i64 ((es.take i).foldl (fun a e => leastE a (chkE e)) (cntE f es.length) : Nat) ∧ Hid (Kept [] w wr)) (fun t _ _ => es.length - (intOf t).toNat)
  case atStart => exact ⟨0, Nat.zero_le _, rfl, rfl, HK0⟩
  case round =>
    obtain ⟨i, hi, rfl, rfl, HK⟩ := hrel
    by_cases hlt : i < es.length
    · have hlt' : (i : Int) < es.length := by omega
      obtain ⟨b, off, rfl, hcc⟩ := unhide H5 (by omega)
      have hr := hcc i hlt
      have q0 := (unhide HK).cell (hr 0 _ rfl) (by simp)
      have q1 := (unhide HK).cell (hr 1 _ rfl) (by simp)
      have q2 := (unhide HK).cell (hr 2 _ rfl) (by simp)
      rw [Nat.add_zero] at q0
      have HO := hide ((unhide H4 i hlt).old (unhide HK))
      have HSN := hide (foldl_snoc (fun a e => leastE a (chkE e)) (cntE f es.length) es i hlt)
      clear hcc hr
      generalize kv i = kvi at q1 HO
      generalize vv i = vvi at q2 HO
      generalize es[i] = e at q0 HO HSN
      obtain ⟨a8, m8, c8, rfl, _⟩ := id (unhide HO).key
      obtain ⟨a9, m9, c9, rfl, _⟩ := id (unhide HO).val
      generalize (es.take i).foldl (fun a e => leastE a (chkE e)) (cntE f es.length) = acc at HSN
      go_wp2_with fail
      have HK1 := hide ((unhide HK).alloc (.cells #[.int .u8 (e.k : Int), .slice a8 m8 c8, .slice a9 m9 c9] 89))
      refine Calls.mono (check_any e _ _ _ ((unhide HO).old ((Kept.refl [] wr).alloc _))) ?_
      rintro r w2 ⟨rfl, k2⟩
      have HK2 := hide ((unhide HK1).trans k2 (by simp))
      clear k2
      go_wp2_with fail
      refine Calls.mono (least_any acc (chkE e) _) ?_
      rintro r w3 ⟨rfl, rfl⟩
      rw [← unhide HSN]
      go_wp2
      refine ⟨⟨i + 1, by omega, by go_num, rfl, HK2⟩, ?_⟩
      simp [intOf]; omega
    · have hlt' : ¬ (i : Int) < es.length := by omega
      have hie : i = es.length := by omega
      subst hie
      rw [List.take_length]
      go_wp2
      go_ret
      exact ⟨rfl, unhide HK⟩
end Go.Proofs.YtejchncdimcdbaaGreatDoor
namespace Go.Proofs.YtejchncdimcdbaaGreatDoor
open Go.RowKit Go.BigFrame
set_option linter.unusedVariables false
set_option linter.unusedSimpArgs false

theorem leastE_zero {a b : Nat} (h : leastE a b = 0) : a = 0 ∧ b = 0 := by
  unfold leastE at h
  split at h
  · rename_i h1; rcases h1 with h1 | h1
    · exact ⟨h1, h⟩
    · omega
  · rename_i h1; omega
theorem foldl_zero (es : List En) : ∀ z, es.foldl (fun a e => leastE a (chkE e)) z = 0 → z = 0 ∧ ∀ e ∈ es, chkE e = 0 := by
  induction es with
  | nil => intro z h; exact ⟨h, by simp⟩
  | cons x xs ih =>
    intro z h
    obtain ⟨h1, h2⟩ := ih _ h
    obtain ⟨h3, h4⟩ := leastE_zero h1
    refine ⟨h3, fun e he => ?_⟩
    rcases List.mem_cons.1 he with rfl | he
    · exact h4
    · exact h2 e he
theorem chkB_zero {f : Nat} {es : List En} (h : chkB f es = 0) : es.length ≤ 64 ∧ 0 < es.length ∧ f + es.length ≤ 18446744073709551615 ∧ ∀ e ∈ es, chkE e = 0 := by
  obtain ⟨h1, h2⟩ := foldl_zero es _ h
  unfold cntE at h1
  split at h1
  · omega
  · split at h1
    · omega
    · rename_i h3 h4; exact ⟨by omega, by omega, by omega, h2⟩
theorem chkE_zero {e : En} (h : chkE e = 0) : e.key.length ≤ 64 ∧ e.val.length ≤ 256 ∧ (e.k = 1 ∨ e.k = 2) ∧ (e.k = 2 → e.val = []) := by
  unfold chkE at h
  split at h
  · omega
  · split at h
    · omega
    · rename_i h1 h2
      refine ⟨by omega, by omega, by omega, fun h3 => List.eq_nil_of_length_eq_zero (by omega)⟩
theorem enB_len {e : En} (h : chkE e = 0) : (enB e).length ≤ 400 := by
  obtain ⟨h1, h2, _⟩ := chkE_zero h
  have := uv_len e.key.length (by omega)
  have := uv_len e.val.length (by omega)
  unfold enB
  split <;> simp only [List.length_append, List.length_cons, List.length_nil] <;> omega
theorem entB_snoc (es : List En) (i : Nat) (h : i < es.length) : entB (es.take (i + 1)) = entB (es.take i) ++ enB es[i] := by
  unfold entB
  rw [List.take_succ_eq_append_getElem h, List.map_append, List.flatten_append]; simp
theorem entB_len (es : List En) (h : ∀ e ∈ es, chkE e = 0) : (entB es).length ≤ 400 * es.length := by
  induction es with
  | nil => simp [entB]
  | cons x xs ih =>
    have h1 := enB_len (h x (by simp))
    have h2 := ih (fun e he => h e (by simp [he]))
    have e : entB (x :: xs) = enB x ++ entB xs := by simp [entB]
    rw [e, List.length_append, List.length_cons]; omega
set_option maxRecDepth 100000 in
set_option maxHeartbeats 2000000 in
theorem encodeBatch_any (f : Nat) (v : Value) (es : List En) (w : World) (hf : f < 18446744073709551616) (h : RdN w v es) :
    Calls Tryz.prog 104 #[.agg #[.int .u64 f, v]] w fun r w' => ∃ v', r = .returned (.tuple #[v', .int .i64 (chkB f es)]) ∧ NewB w w' v' (if chkB f es = 0 then batB f es else []) ∧ Kept [] w w' := by
  have H := hide h
  have HLE := hide (fun h0 : chkB f es = 0 => chkB_zero h0)
  obtain ⟨E, hE⟩ : ∃ E, chkB f es = E := ⟨_, rfl⟩
  rw [hE] at HLE ⊢
  have HE := hide hE
  clear hE
  obtain ⟨B, hB⟩ : ∃ B, (if E = 0 then batB f es else []) = B := ⟨_, rfl⟩
  rw [hB]
  have HB := hide hB
  clear hB
  obtain ⟨ao, len, cap, kv, vv, rfl, h1, h2, h3, h4, h5⟩ := h
  have H4 := hide h4
  have H5 := hide h5
  clear h4 h5
  subst h1
  have HK0 := hide ((Kept.refl [] w).alloc (.cells #[.int .u64 (f : Int), .slice ao es.length cap] 129))
  have HG0 := hide (heap_alloc_new w (.cells #[.int .u64 (f : Int), .slice ao es.length cap] 129))
  go_enter Tryz.func104, Tryz.ntmps104
  go_wp2_with fail
  have hc := checkBatch_any f (.slice ao es.length cap) es _ hf ((unhide H).old (unhide HK0))
  rw [unhide HE] at hc
  refine Calls.mono hc ?_
  clear hc
  rintro r w1 ⟨rfl, k1⟩
  have HG1 := hide (k1.heap (unhide HG0) (by simp))
  have HK1 := hide ((unhide HK0).trans k1 (by simp))
  clear k1
  by_cases h0 : E = 0
  · have hb0 : ((E : Int) != 0) = false := by rw [h0]; rfl
    obtain ⟨hl1, hl2, hl3, hl4⟩ := unhide HLE h0
    have HL4 := hide hl4
    have HB2 := hide (by rw [← unhide HB, if_pos h0] : B = batB f es)
    have H0 := hide h0
    clear h0 hl4
    have HW0 := hide (Wn.start (Kept.refl [] w1))
    have q0 : ∀ ob, (w1.alloc ob).cell? ⟨w.heap.size, 0, none⟩ = some (.int .u64 (f : Int)) := fun ob => ((Kept.refl [] w1).alloc ob).cell (by rw [cell_of_row _ _ _ _ _ _ (unhide HG1)]; rfl) (by simp)
    go_wp2_with fail
    refine Calls.mono (wn_uvar f (unhide HW0) hf (by simp)) ?_
    rintro r w2 ⟨rfl, v2, h2'⟩
    rw [List.nil_append] at h2'
    have q1 := h2'.kept.cell (by rw [cell_of_row _ _ _ _ _ _ (unhide HG1)]; rfl : w1.cell? ⟨w.heap.size, 1, none⟩ = some (.slice ao es.length cap)) (by simp)
    have HW2 := hide h2'
    clear h2' HW0 q0
    have HU1 := hide (uv_len f hf)
    have HU2 := hide (uv_len es.length (by omega))
    go_wp2_with fail
    refine Calls.mono (wn_uvar es.length (unhide HW2) (by omega) (by have := unhide HU1; omega)) ?_
    rintro r w3 ⟨rfl, v3, h3'⟩
    have q2 := h3'.kept.cell (by rw [cell_of_row _ _ _ _ _ _ (unhide HG1)]; rfl : w1.cell? ⟨w.heap.size, 1, none⟩ = some (.slice ao es.length cap)) (by simp)
    have HW3 := hide h3'
    clear h3' HW2 q1
    go_wp2_with fail
    go_loopw [24] (fun t12 wr => ∃ (i : Nat) (vw : Value), i ≤ es.length ∧ t12 = .int .i64 i ∧ Hid (Wn w1 wr w1.heap.size vw (uv f ++ uv es.length ++ entB (es.take i)))) (fun t _ => es.length - (intOf t).toNat)
    case atStart => exact ⟨0, v3, Nat.zero_le _, rfl, by simpa [entB] using HW3⟩
    case round =>
      obtain ⟨i, vw, hi, rfl, HW⟩ := hrel
      have HLI := hide (by have h9 := entB_len (es.take i) (fun e he => unhide HL4 e (List.mem_of_mem_take he)); rw [List.length_take] at h9; omega : (entB (es.take i)).length ≤ 25600)
      by_cases hlt : i < es.length
      · have hlt' : (i : Int) < es.length := by omega
        obtain ⟨b, off, rfl, hcc⟩ := unhide H5 (by omega)
        have hr := hcc i hlt
        have kw := (unhide HK1).trans (unhide HW).kept (by simp)
        have p0 := kw.cell (hr 0 _ rfl) (by simp)
        have p1 := kw.cell (hr 1 _ rfl) (by simp)
        have p2 := kw.cell (hr 2 _ rfl) (by simp)
        rw [Nat.add_zero] at p0
        have HO := hide ((unhide H4 i hlt).old (unhide HK1))
        have HSN := hide (entB_snoc es i hlt)
        have HCE := hide (chkE_zero (unhide HL4 es[i] (List.getElem_mem hlt)))
        clear hcc hr kw
        generalize kv i = kvi at p1 HO
        generalize vv i = vvi at p2 HO
        generalize es[i] = e at p0 HO HSN HCE
        obtain ⟨a8, m8, c8, rfl, _⟩ := id (unhide HO).key
        obtain ⟨a9, m9, c9, rfl, _⟩ := id (unhide HO).val
        go_wp2_with fail
        refine Calls.mono (layEntry_any e _ _ ((unhide HW).pass ((Kept.refl [] wr).alloc _)) (unhide HO) (by have := unhide HLI; have := unhide HU1; have := unhide HU2; have := unhide HCE; simp only [List.length_append]; omega)) ?_
        rintro r w4 ⟨rfl, v4, h4'⟩
        rw [List.append_assoc, ← unhide HSN] at h4'
        have HW4 := hide h4'
        clear h4'
        go_wp2
        refine ⟨⟨i + 1, v4, by omega, by go_num, HW4⟩, ?_⟩
        simp [intOf]; omega
      · have hlt' : ¬ (i : Int) < es.length := by omega
        have hie : i = es.length := by omega
        subst hie
        rw [List.take_length] at HW HLI
        go_wp2_with fail
        refine Calls.mono (wn_bytes (unhide HW) (by have := unhide HLI; have := unhide HU1; have := unhide HU2; simp only [List.length_append]; omega)) ?_
        rintro r w6 ⟨v6, rfl, h6, k6⟩
        have H6 := hide h6
        have HK6 := hide ((unhide HK1).trans k6 (by simp))
        clear h6 k6
        go_wp2
        go_ret2
        refine ⟨_, by rw [unhide H0]; rfl, ?_, unhide HK6⟩
        rw [unhide HB2]
        have h9 := (unhide H6).weak (unhide HK1).size
        rw [List.append_assoc] at h9
        exact h9
  · have hb0 : ((E : Int) != 0) = true := by rw [bne_iff_ne]; omega
    have HB2 := hide (by rw [← unhide HB, if_neg h0] : B = [])
    clear h0
    go_wp2
    go_ret2
    exact ⟨_, rfl, by rw [unhide HB2]; exact NewB.nil _ _, unhide HK1⟩
end Go.Proofs.YtejchncdimcdbaaGreatDoor
namespace Go.Proofs.YtejchncdimcdbaaGreatDoor
open Go.RowKit Go.BigFrame
set_option linter.unusedVariables false
set_option linter.unusedSimpArgs false

/-- The cells of entries. -/
def cellsN (ts : List (En × Value × Value)) : List Value := ts.flatMap fun t => [.int .u8 (t.1.k : Int), t.2.1, t.2.2]
theorem cellsN_app (ts : List (En × Value × Value)) (t : En × Value × Value) : cellsN (ts ++ [t]) = cellsN ts ++ [.int .u8 (t.1.k : Int), t.2.1, t.2.2] := by simp [cellsN]
theorem cellsN_get : ∀ (ts : List (En × Value × Value)) (i : Nat) (h : i < ts.length), (cellsN ts)[3 * i]? = some (.int .u8 (ts[i].1.k : Int)) ∧ (cellsN ts)[3 * i + 1]? = some ts[i].2.1 ∧ (cellsN ts)[3 * i + 2]? = some ts[i].2.2
  | t :: r, 0, _ => by simp [cellsN]
  | t :: r, i + 1, h => by
    have h' : i < r.length := by simpa using h
    have := cellsN_get r i h'
    have e : cellsN (t :: r) = (.int .u8 (t.1.k : Int)) :: t.2.1 :: t.2.2 :: cellsN r := by simp [cellsN]
    rw [e, show 3 * (i + 1) = 3 * i + 1 + 1 + 1 by omega]
    simpa using this
theorem Tryz.infoN : (Tryz.prog.info? 89).map (fun i => (i.zero, i.size, i.bytes)) = some (some (.agg #[.int .u8 0, .slice none 0 0, .slice none 0 0]), 3, 56) := by kernel_rfl
/-- The blocks that a list of bytes lies in; of an empty one none. -/
def nblk (v : Value) (bs : List Nat) : List Nat := if bs = [] then [] else blk v
theorem mem_nblk {v : Value} {bs : List Nat} {x : Nat} (h : x ∈ nblk v bs) : x ∈ blk v ∧ bs ≠ [] := by
  unfold nblk at h
  split at h
  · simp at h
  · rename_i h1; exact ⟨h, h1⟩
theorem Rd.keptN {L : List Nat} {w w' : World} {v : Value} {bs : List Nat} (h : Rd w v bs) (k : Kept L w w') (hn : ∀ x ∈ nblk v bs, x ∉ L) : Rd w' v bs := by
  by_cases he : bs = []
  · subst he
    obtain ⟨ao, len, cap, rfl, h1, h2, h3, h4, h5, h6⟩ := h
    exact ⟨ao, len, cap, rfl, h1, h2, h3, h4, h5, fun hp => by simp at h1; omega⟩
  · exact h.kept k (by unfold nblk at hn; rw [if_neg he] at hn; exact hn)
theorem Rd.ltN {w : World} {v : Value} {bs : List Nat} (h : Rd w v bs) : ∀ x ∈ nblk v bs, x < w.heap.size := by
  intro x hx
  obtain ⟨h1, h2⟩ := mem_nblk hx
  obtain ⟨ao, len, cap, rfl, h3, _, _, _, _, h6⟩ := h
  obtain ⟨b, off, rfl, hc⟩ := h6 (by rw [← h3]; exact List.length_pos_iff.2 h2)
  have h9 := block_lt_of_cell (hc 0 (by rw [← h3]; exact List.length_pos_iff.2 h2))
  simp only [blk, List.mem_singleton] at h1
  subst h1
  exact h9
/-- Entries that are owned, each list in memory of its own; of what was there at w0 the blocks of L alone may have turned. -/
structure OwnN (L : List Nat) (w0 w : World) (v : Value) (ts : List (En × Value × Value)) : Prop where
  own : w.ownsRow w0.heap.size 89 3 v ts.length (cellsN ts)
  ok : ∀ t ∈ ts, OkE w t.1 t.2.1 t.2.2
  apart : ∀ t ∈ ts, ∀ b, b ∈ nblk t.2.1 t.1.key ∨ b ∈ nblk t.2.2 t.1.val → v.ownBlock ≠ some b ∧ w0.heap.size ≤ b
  kept : Kept L w0 w
theorem OwnN.rdN {L : List Nat} {w0 w : World} {v : Value} {ts : List (En × Value × Value)} (h : OwnN L w0 w v ts) : RdN w v (ts.map (·.1)) := by
  rcases h.own.2 with ⟨rfl, h0⟩ | ⟨g, cap, cur, rfl, _, hg, hc, hm', hs, ht⟩
  · have : ts = [] := List.eq_nil_of_length_eq_zero h0
    subst this
    exact RdN.nil w
  · refine ⟨some ⟨g, 0, none⟩, ts.length, cap, fun i => (ts.getD i (⟨0, [], []⟩, undef, undef)).2.1, fun i => (ts.getD i (⟨0, [], []⟩, undef, undef)).2.2, rfl, by simp, hc, by unfold maxLen at hm'; omega, fun i hi => ?_, fun _ => ⟨g, 0, rfl, fun i hi => ?_⟩⟩
    · have hi' : i < ts.length := by simpa using hi
      have h9 := h.ok ts[i] (List.getElem_mem hi')
      rw [List.getElem_map]
      simp only [List.getD_eq_getElem?_getD, List.getElem?_eq_getElem hi', Option.getD_some]
      exact h9
    · have hi' : i < ts.length := by simpa using hi
      have hx := cellsN_get ts i hi'
      have c0 := h.own.cells (g := g) rfl (3 * i) _ hx.1
      have c1 := h.own.cells (g := g) rfl (3 * i + 1) _ hx.2.1
      have c2 := h.own.cells (g := g) rfl (3 * i + 2) _ hx.2.2
      rw [Addr.add_mid] at c0 c1 c2
      rw [List.getElem_map]
      simp only [List.getD_eq_getElem?_getD, List.getElem?_eq_getElem hi', Option.getD_some]
      intro j v hv
      have hj : j < 3 := (List.getElem?_eq_some_iff.1 hv).1
      rcases (by omega : j = 0 ∨ j = 1 ∨ j = 2) with rfl | rfl | rfl
      · rw [show 0 + i * 3 + 0 = 0 + 3 * i by omega, c0]; exact hv
      · rw [show 0 + i * 3 + 1 = 0 + (3 * i + 1) by omega, c1]; exact hv
      · rw [show 0 + i * 3 + 2 = 0 + (3 * i + 2) by omega, c2]; exact hv
/-- One entry more. -/
theorem pushN (w : World) (base : Nat) (v : Value) (ts : List (En × Value × Value)) (e : En) (x y : Value) (H : Nat) (h : w.ownsRow base 89 3 v ts.length (cellsN ts)) (hnew : w.heap[H]? = some (.cells #[.int .u8 (e.k : Int), x, y] 89 (0, 0))) (hx : x.oneCell' = true) (hy : y.oneCell' = true) (hl : ts.length + 1 ≤ 1000000000) (hb : base ≤ w.heap.size) :
    ∃ g cap w1, (Builtin.append_ #[55, 55] 55 #[v, .slice (some ⟨H, 0, none⟩) 1 1]).run Tryz.prog w = .ok (.slice (some ⟨g, 0, none⟩) (ts.length + 1) cap) w1 ∧
      w1.ownsRow base 89 3 (.slice (some ⟨g, 0, none⟩) (ts.length + 1) cap) (ts.length + 1) (cellsN ts ++ [.int .u8 (e.k : Int), x, y]) ∧ w.grownBy w1 v.ownBlock ∧ (v.ownBlock = some g ∨ g = w.heap.size) := by
  obtain ⟨i0, hi, hz0, hz1, hz2⟩ := info_parts Tryz.infoN
  obtain ⟨g, cap, w1, hr, hown, hgrow, hat, hlt⟩ := run_append_lies (P := Tryz.prog) w 55 55 base 89 i0 (.agg #[.int .u8 0, .slice none 0 0, .slice none 0 0]) 3 56 Tryz.underlying55 hi hz0 hz1 hz2 rfl (by decide)
    v ts.length (cellsN ts) h ⟨H, 0, none⟩ 1 1 [.int .u8 (e.k : Int), x, y] rfl (World.news_of_block hnew) (by intro u hu; simp at hu; rcases hu with rfl | rfl | rfl; rfl; exact hx; exact hy) (by decide) (by unfold maxLen; omega) (by omega) hb _ rfl
  exact ⟨g, cap, w1, hr, hown, hgrow, hat⟩
theorem OwnN.start {L : List Nat} {w0 w : World} (k : Kept L w0 w) : OwnN L w0 w (.slice none 0 0) [] := ⟨World.ownsRow_nil _ _ _ _, by simp, by simp, k⟩
theorem OwnN.mono {L M : List Nat} {w0 w : World} {v : Value} {ts : List (En × Value × Value)} (h : OwnN L w0 w v ts) (hM : ∀ x ∈ L, x ∈ M) : OwnN M w0 w v ts := ⟨h.own, h.ok, h.apart, h.kept.mono hM⟩
theorem OwnN.pass {L M : List Nat} {w0 w w' : World} {v : Value} {ts : List (En × Value × Value)} (h : OwnN L w0 w v ts) (k : Kept M w w') (hM : ∀ x ∈ M, x ∈ L ∨ w0.heap.size ≤ x) (ho : ∀ x ∈ M, v.ownBlock ≠ some x) (he : ∀ x ∈ M, ∀ t ∈ ts, x ∉ nblk t.2.1 t.1.key ∧ x ∉ nblk t.2.2 t.1.val) : OwnN L w0 w' v ts :=
  ⟨k.owns h.own (fun g hg hm => ho g hm hg), fun t ht => ⟨(h.ok t ht).k, (h.ok t ht).key.keptN k (fun x hx hm => (he x hm t ht).1 hx), (h.ok t ht).val.keptN k (fun x hx hm => (he x hm t ht).2 hx)⟩, h.apart, h.kept.trans k hM⟩
/-- A block that was there at w0 may turn. -/
theorem OwnN.old {L M : List Nat} {w0 w w' : World} {v : Value} {ts : List (En × Value × Value)} (h : OwnN L w0 w v ts) (k : Kept M w w') (hM : ∀ x ∈ M, x ∈ L ∧ x < w0.heap.size) : OwnN L w0 w' v ts :=
  h.pass k (fun x hx => Or.inl (hM x hx).1) (fun x hx e => by have := (h.own.lt x e).1; have := (hM x hx).2; omega)
    (fun x hx t ht => ⟨fun hb => by have := (h.apart t ht x (Or.inl hb)).2; have := (hM x hx).2; omega, fun hb => by have := (h.apart t ht x (Or.inr hb)).2; have := (hM x hx).2; omega⟩)
theorem OwnN.push {L : List Nat} {w0 w W : World} {v : Value} {ts : List (En × Value × Value)} (h : OwnN L w0 w v ts) {e : En} {y z : Value} (hy : OkE w e y z) (hn : ∀ b, b ∈ nblk y e.key ∨ b ∈ nblk z e.val → v.ownBlock ≠ some b ∧ w0.heap.size ≤ b) {g cap : Nat}
    (o : W.ownsRow w0.heap.size 89 3 (.slice (some ⟨g, 0, none⟩) (ts.length + 1) cap) (ts.length + 1) (cellsN ts ++ [.int .u8 (e.k : Int), y, z])) (gr : w.grownBy W v.ownBlock) (hg : v.ownBlock = some g ∨ g = w.heap.size) :
    OwnN L w0 W (.slice (some ⟨g, 0, none⟩) (ts.length + 1) cap) (ts ++ [(e, y, z)]) := by
  have kW : Kept v.ownBlock.toList w W := ((Kept.refl _ w)).grown gr (by intro k hk; left; simp [hk])
  have kW0 : Kept L w0 W := h.kept.grown gr (by intro k hk; right; exact (h.own.lt k hk).1)
  have key : ∀ t ∈ ts ++ [(e, y, z)], OkE w t.1 t.2.1 t.2.2 ∧ ∀ b, b ∈ nblk t.2.1 t.1.key ∨ b ∈ nblk t.2.2 t.1.val → v.ownBlock ≠ some b ∧ w0.heap.size ≤ b := by
    intro t ht
    rcases List.mem_append.1 ht with ht | ht
    · exact ⟨h.ok t ht, h.apart t ht⟩
    · rw [List.mem_singleton] at ht; subst ht; exact ⟨hy, hn⟩
  refine ⟨?_, fun t ht => ?_, fun t ht b hb => ⟨fun e' => ?_, ((key t ht).2 b hb).2⟩, kW0⟩
  · rw [cellsN_app, List.length_append]; exact o
  · exact ⟨(key t ht).1.k, (key t ht).1.key.keptN kW (fun b hb hm => ((key t ht).2 b (Or.inl hb)).1 (by simpa using hm)), (key t ht).1.val.keptN kW (fun b hb hm => ((key t ht).2 b (Or.inr hb)).1 (by simpa using hm))⟩
  · simp only [Value.ownBlock, Option.some.injEq] at e'
    subst e'
    rcases hg with hg | hg
    · exact ((key t ht).2 _ hb).1 hg
    · have h9 : g < w.heap.size := by
        rcases hb with hb | hb
        · exact (key t ht).1.key.ltN g hb
        · exact (key t ht).1.val.ltN g hb
      omega
/-- Entries in memory that is new from block B on. -/
def NewN (B : Nat) (w : World) (v : Value) (es : List En) : Prop := ∃ (L : List Nat) (w0 : World) (ts : List (En × Value × Value)), es = ts.map (·.1) ∧ OwnN L w0 w v ts ∧ B ≤ w0.heap.size
theorem NewN.rdN {B : Nat} {w : World} {v : Value} {es : List En} (h : NewN B w v es) : RdN w v es := by
  obtain ⟨L, w0, ts, rfl, h1, _⟩ := h; exact h1.rdN
theorem NewN.nil (B : Nat) (w : World) (h : B ≤ w.heap.size) : NewN B w (.slice none 0 0) [] := ⟨[], w, [], rfl, OwnN.start (Kept.refl [] w), h⟩
theorem NewN.weak {B C : Nat} {w : World} {v : Value} {es : List En} (h : NewN B w v es) (hc : C ≤ B) : NewN C w v es := by
  obtain ⟨L, w0, ts, h1, h2, h3⟩ := h; exact ⟨L, w0, ts, h1, h2, Nat.le_trans hc h3⟩
theorem NewN.kept {B : Nat} {M : List Nat} {w w' : World} {v : Value} {es : List En} (h : NewN B w v es) (k : Kept M w w') (hM : ∀ x ∈ M, x < B) : NewN B w' v es := by
  obtain ⟨L, w0, ts, h1, h2, h3⟩ := h
  refine ⟨L ++ M, w0, ts, h1, (h2.mono (M := L ++ M) (fun x hx => by simp [hx])).old k (fun x hx => ⟨by simp [hx], by have := hM x hx; omega⟩), h3⟩
/-- So many entries off a reader. -/
def takeN (p : List Nat) : Nat → Nat → List En × Nat × Nat
  | i, 0 => ([], i, 0)
  | i, n + 1 => if (takeE p i).2.2 ≠ 0 then ([], 0, (takeE p i).2.2) else ((takeE p i).1 :: (takeN p (takeE p i).2.1 n).1, (takeN p (takeE p i).2.1 n).2)
/-- A batch off a reader: the first index, the entries, the place behind it, the fault (thrown where it is not 0). -/
def takeB (p : List Nat) (i : Nat) : Nat × List En × Nat × Nat :=
  if (rUvar p (rUvar p i 0).2.1 (rUvar p i 0).2.2).2.2 ≠ 0 then (0, [], 0, (rUvar p (rUvar p i 0).2.1 (rUvar p i 0).2.2).2.2)
  else if cntE (rUvar p i 0).1 (rUvar p (rUvar p i 0).2.1 (rUvar p i 0).2.2).1 ≠ 0 then (0, [], 0, cntE (rUvar p i 0).1 (rUvar p (rUvar p i 0).2.1 (rUvar p i 0).2.2).1)
  else ((rUvar p i 0).1, takeN p (rUvar p (rUvar p i 0).2.1 (rUvar p i 0).2.2).2.1 (rUvar p (rUvar p i 0).2.1 (rUvar p i 0).2.2).1)
end Go.Proofs.YtejchncdimcdbaaGreatDoor
namespace Go.Proofs.YtejchncdimcdbaaGreatDoor
open Go.RowKit Go.BigFrame
set_option linter.unusedVariables false
set_option linter.unusedSimpArgs false

theorem rUvar_lt (p : List Nat) (i e : Nat) : (rUvar p i e).1 < 18446744073709551616 := by
  unfold rUvar
  split
  · show (0 : Nat) < _; omega
  · split
    · show (0 : Nat) < _; omega
    · exact fuv_lt _ 0 0 (by decide) (by decide)
theorem step_pushN {ops : Array Oper} {o : Oper} {a : Act} {K : Act → World → Prop} {Q : Exit → Act → World → Prop} {F : Prop} (hgd : o.guard = none) (s x : Operand)
    (ho : o.op = .call { callee := .builtin .append, args := #[s, x], argTypes := #[55, 55] }) (hty : o.type = 55)
    (w : World) (base : Nat) (v : Value) (ts : List (En × Value × Value)) (e : En) (y z : Value) (H : Nat) (h : w.ownsRow base 89 3 v ts.length (cellsN ts)) (hnew : w.heap[H]? = some (.cells #[.int .u8 (e.k : Int), y, z] 89 (0, 0))) (hy : y.oneCell' = true) (hz : z.oneCell' = true) (hl : ts.length + 1 ≤ 1000000000) (hb : base ≤ w.heap.size)
    (hs : a.eval s = v) (hx : a.eval x = .slice (some ⟨H, 0, none⟩) 1 1)
    (hK : ∀ g cap w1, Hid (w1.ownsRow base 89 3 (.slice (some ⟨g, 0, none⟩) (ts.length + 1) cap) (ts.length + 1) (cellsN ts ++ [.int .u8 (e.k : Int), y, z])) → Hid (w.grownBy w1 v.ownBlock) → Hid (v.ownBlock = some g ∨ g = w.heap.size) →
      K (a.put o.dst (.slice (some ⟨g, 0, none⟩) (ts.length + 1) cap)) w1) :
    if Region.wanted o (yielded ops a.tmps) = true then Oper.wp Tryz.prog o a w K Q else F := by
  obtain ⟨g, cap, w1, hrun, h2, h3, h4⟩ := pushN w base v ts e y z H h hnew hy hz hl hb
  have hw : Region.wanted o (yielded ops a.tmps) = true := by simp [Region.wanted, hgd]
  rw [if_pos hw]
  unfold Oper.wp execOp
  simp only [ho, hty, resolve, invoke, builtin, Sem.run_bind, Sem.run_pure, Result.andThen_ok, List.map_toArray, List.map_cons, List.map_nil, hs, hx, hrun]
  exact hK g cap w1 h2 h3 h4
def TookB (w w' : World) (b : Nat) (gv : Value) (p : List Nat) (x : Nat × List En × Nat × Nat) (r : Ending) : Prop :=
  (x.2.2.2 = 0 → ∃ v, r = .returned (.agg #[.int .u64 (x.1 : Int), v]) ∧ NewN w.heap.size w' v x.2.1 ∧ ReAt w' b gv p x.2.2.1 0) ∧ (x.2.2.2 ≠ 0 → r = .panicked (gave x.2.2.2)) ∧ Kept [b] w w'
theorem Tryz.size_batch : (Tryz.prog.info? 129).map (·.size) = some 2 := by kernel_rfl
set_option maxRecDepth 100000 in
set_option maxHeartbeats 2000000 in
theorem takeBatch_any (b : Nat) (gv : Value) (p : List Nat) (i : Nat) (w : World) (h : ReAt w b gv p i 0) (hgv : ∀ x ∈ blk gv, x < w.heap.size) :
    Calls Tryz.prog 165 #[.pointer (some ⟨b, 0, none⟩)] w fun r w' => TookB w w' b gv p (takeB p i) r := by
  have H := hide h
  have hblt := h.lt
  obtain ⟨T, hT⟩ : ∃ T, takeB p i = T := ⟨_, rfl⟩
  rw [hT]
  have HT := hide hT
  unfold takeB at HT
  clear hT h
  have HZ := hide (heap_alloc_new w (.cells #[.int .u64 0, .slice none 0 0] 129))
  have HK0 := hide ((Kept.refl [b] w).alloc (.cells #[.int .u64 0, .slice none 0 0] 129))
  have HR0 := hide ((unhide H).kept ((Kept.refl [] w).alloc (.cells #[.int .u64 0, .slice none 0 0] 129)) (by simp) (by simp))
  have hfl := rUvar_lt p i 0
  go_enter Tryz.func165, Tryz.ntmps165
  go_wp2_with fail
  refine Calls.mono (ruvar_any b gv p i 0 _ (unhide HR0)) ?_
  rintro r w1 ⟨rfl, r1, k1⟩
  have hne0 : w.heap.size ≠ b := by omega
  have HZ1 := hide (k1.heap (unhide HZ) (by simpa using hne0))
  have HK1 := hide ((unhide HK0).trans k1 (by simp))
  obtain ⟨x, hx⟩ : ∃ x, rUvar p i 0 = x := ⟨_, rfl⟩
  rw [hx] at HT r1 hfl ⊢
  clear hx
  obtain ⟨f, i1, e1⟩ := x
  simp only at HT r1 hfl ⊢
  have HR1 := hide r1
  clear r1 k1
  have hs1' : w.heap.size < w1.heap.size := lt_of_block (unhide HZ1)
  have hcl := rUvar_lt p i1 e1
  have HKA := hide ((unhide HK1).alloc (.cells #[.int .u64 (f : Int), .slice none 0 0] 129))
  have HRA := hide ((unhide HR1).kept ((Kept.refl [] w1).alloc (.cells #[.int .u64 (f : Int), .slice none 0 0] 129)) (by simp) (by simp))
  have HGA := hide (heap_alloc_new w1 (.cells #[.int .u64 (f : Int), .slice none 0 0] 129))
  have HZA := hide (((Kept.refl [] w1).alloc (.cells #[.int .u64 (f : Int), .slice none 0 0] 129)).heap (unhide HZ1) (by simp))
  have HSA := hide (show (w1.alloc (.cells #[.int .u64 (f : Int), .slice none 0 0] 129)).heap.size = w1.heap.size + 1 by simp)
  go_wp2_with fail
  obtain ⟨WA, hWA⟩ : ∃ W, w1.alloc (.cells #[.int .u64 (f : Int), .slice none 0 0] 129) = W := ⟨_, rfl⟩
  rw [hWA] at HKA HRA HGA HZA HSA ⊢
  clear hWA
  have hneg : w1.heap.size ≠ b := by omega
  refine Calls.mono (ruvar_any b gv p i1 e1 WA (unhide HRA)) ?_
  rintro r w2 ⟨rfl, r2, k2⟩
  obtain ⟨x, hx⟩ : ∃ x, rUvar p i1 e1 = x := ⟨_, rfl⟩
  rw [hx] at HT r2 hcl ⊢
  clear hx
  obtain ⟨n, i2, e2⟩ := x
  simp only at HT r2 hcl ⊢
  have HR2 := hide r2
  have HG2 := hide (k2.heap (unhide HGA) (by simpa using hneg))
  have HZ2 := hide (k2.heap (unhide HZA) (by simpa using hne0))
  have HK2 := hide ((unhide HKA).trans k2 (by simp))
  have HKW2 := hide k2
  clear r2 k2
  go_wp2_with fail
  refine Calls.mono (rerr_any b gv p i2 e2 w2 (unhide HR2)) ?_
  rintro r w3 ⟨rfl, rfl⟩
  by_cases hE : e2 ≠ 0
  · have HT2 := hide (by rw [← unhide HT, if_pos hE] : T = (0, [], 0, e2))
    go_wp2_with fail
    refine Calls.mono (demand_bad e2 _ hE) ?_
    rintro r w6 ⟨rfl, rfl⟩
    exact ⟨rfl, fun h => absurd h (by rw [unhide HT2]; exact hE), fun _ => by rw [unhide HT2], unhide HK2⟩
  have HT1 := hide (by have h9 := unhide HT; rw [if_neg hE] at h9; exact h9)
  replace hE : e2 = 0 := Decidable.not_not.1 hE
  subst hE
  clear HT
  go_wp2_with fail
  refine Calls.mono (demand_ok _) ?_
  rintro r w4 ⟨rfl, rfl⟩
  have q0 := cell_of_row _ _ 0 _ _ _ (unhide HG2)
  go_wp2_with fail
  refine Calls.mono (checkCount_any f n _ hfl hcl) ?_
  rintro r w5 ⟨rfl, rfl⟩
  by_cases hE : cntE f n ≠ 0
  · have HT2 := hide (by rw [← unhide HT1, if_pos hE] : T = (0, [], 0, cntE f n))
    go_wp2_with fail
    refine Calls.mono (demand_bad (cntE f n) _ hE) ?_
    rintro r w6 ⟨rfl, rfl⟩
    exact ⟨rfl, fun h => absurd h (by rw [unhide HT2]; exact hE), fun _ => by rw [unhide HT2], unhide HK2⟩
  have HT2 := hide (by have h9 := unhide HT1; rw [if_neg hE] at h9; exact h9.symm)
  replace hE : cntE f n = 0 := Decidable.not_not.1 hE
  have hn64 : n ≤ 64 := by
    unfold cntE at hE
    split at hE
    · omega
    · omega
  rw [hE]
  clear HT1 hE
  go_wp2_with fail
  refine Calls.mono (demand_ok _) ?_
  rintro r w6 ⟨rfl, rfl⟩
  go_wp2_with fail
  have HW6 := hide (Kept.refl [b, w1.heap.size] w6)
  have hgb6 : w1.heap.size < w6.heap.size := lt_of_block (unhide HG2)
  have hb6 : b < w6.heap.size := by omega
  go_loopw [19] (fun t19 wr => ∃ (j ij : Nat) (vE : Value) (ts : List (En × Value × Value)), j ≤ n ∧ t19 = .int .u64 j ∧ Hid (ts.length = j) ∧ Hid (takeN p i2 n = (ts.map (·.1) ++ (takeN p ij (n - j)).1, (takeN p ij (n - j)).2)) ∧ Hid (ReAt wr b gv p ij 0) ∧ Hid (wr.heap[w1.heap.size]? = some (.cells #[.int .u64 (f : Int), vE] 129 (0, 0))) ∧
    Hid (wr.heap[w.heap.size]? = some (.cells #[.int .u64 0, .slice none 0 0] 129 (0, 0))) ∧ Hid (OwnN [b, w1.heap.size] w6 wr vE ts)) (fun t _ => n - (intOf t).toNat)
  case atStart => exact ⟨0, i2, .slice none 0 0, [], Nat.zero_le _, rfl, hide rfl, hide (by simp), HR2, HG2, HZ2, hide (OwnN.start (unhide HW6))⟩
  case round =>
    obtain ⟨j, ij, vE, ts, hj, rfl, HJ, HTN, HR, HG, HZR, HO⟩ := hrel
    by_cases hlt : j < n
    · have hlt' : (j : Int) < n := by omega
      obtain ⟨m, hm⟩ : ∃ m, n - j = m + 1 := ⟨n - j - 1, by omega⟩
      have hmm : n - (j + 1) = m := by omega
      rw [hm] at HTN
      have HHS := hide (by have h9 := lt_of_block (unhide HZR); have h8 := (unhide HO).kept.size; omega : w6.heap.size ≤ wr.heap.size)
      have HRD := hide ((unhide HR).kept (Kept.refl [] wr).drew (by simp) (by simp))
      have HGV := hide (fun x hx => by have h9 := hgv x hx; have h8 := unhide HHS; show x < wr.heap.size; omega : ∀ x ∈ blk gv, x < wr.drew.heap.size)
      have HCT := hide (takeEntry_any b gv p ij wr.drew (unhide HRD) (unhide HGV))
      have HTU := hide (show takeN p ij (m + 1) = if (takeE p ij).2.2 ≠ 0 then ([], 0, (takeE p ij).2.2) else ((takeE p ij).1 :: (takeN p (takeE p ij).2.1 m).1, (takeN p (takeE p ij).2.1 m).2) from rfl)
      obtain ⟨X, hX⟩ : ∃ X, takeE p ij = X := ⟨_, rfl⟩
      rw [hX] at HCT HTU
      clear hX
      obtain ⟨en, i3, e3⟩ := X
      simp only at HTU
      have c1 : wr.cell? ⟨w1.heap.size, 1, none⟩ = some vE := by rw [cell_of_row _ _ _ _ _ _ (unhide HG)]; rfl
      have HC1 := hide c1
      have HTB := hide (fun he : e3 ≠ 0 => by rw [unhide HT2]; show (takeN p i2 n).2.2 = e3; rw [unhide HTN, unhide HTU, if_pos he] : e3 ≠ 0 → T.2.2.2 = e3)
      have HKR := hide ((unhide HK2).trans (unhide HO).kept (by intro x hx; simp at hx; rcases hx with rfl | rfl; left; simp; right; omega))
      go_wp2_with fail
      go_region_law (first
        | (refine step_pushN rfl _ _ rfl rfl _ w6.heap.size vE ts en (.slice a8 m8 c8) (.slice a9 m9 c9) w3.heap.size (by exact (unhide HO3).own) (by exact heap_alloc_new w3 _) rfl rfl (by have := unhide HJ; omega) (by exact unhide HB3) rfl rfl ?_; intro g cap w5 HO5 HG5 HA5; have hrow5 := (unhide HK45 w5 HG5).heap (unhide HGR4) (unhide HNG4); have s5 := cell_of_row _ _ 1 _ _ _ hrow5; have z5 := frozen_of_row _ _ 1 _ _ hrow5; have HGR5 := hide hrow5; clear hrow5)
        | (go_simp; go_at_call 216; refine (unhide HCT).mono ?_; rintro r w3 ⟨t1, t2, t3⟩; by_cases he3 : e3 ≠ 0; exact (by have hr := t2 he3; subst hr; exact ⟨rfl, fun h => absurd ((unhide HTB he3).symm.trans h) he3, fun _ => by rw [unhide HTB he3], (unhide HKR).trans ((Kept.refl [b] wr).drew.trans t3 (by simp)) (by simp)⟩); replace he3 : e3 = 0 := Decidable.not_not.1 he3; subst he3; obtain ⟨kv, vv, hr, ok3, re3, nw3⟩ := t1 rfl; subst hr; obtain ⟨a8, m8, c8, hu8, _⟩ := id ok3.key; subst hu8; obtain ⟨a9, m9, c9, hu9, _⟩ := id ok3.val; subst hu9; have HT3 := hide t3; have HOK3 := hide ok3; have HRE3 := hide re3; have HNW3 := hide nw3; have HO3 := hide (((unhide HO).old ((Kept.refl [b] wr).drew.trans t3 (by simp) : Kept [b] wr w3) (by intro x hx; rw [List.mem_singleton] at hx; subst hx; exact ⟨by simp, hb6⟩)).pass (M := []) ((Kept.refl [] w3).alloc (.cells #[.int .u8 (en.k : Int), .slice a8 m8 c8, .slice a9 m9 c9] 89)) (by simp) (by simp) (by simp)); have HB3 := hide (unhide HO3).kept.size; have HGR4 := hide (((Kept.refl [] w3).alloc (.cells #[.int .u8 (en.k : Int), .slice a8 m8 c8, .slice a9 m9 c9] 89)).heap (t3.heap (show wr.drew.heap[w1.heap.size]? = _ from unhide HG) (by simpa using hneg)) (by simp)); have HNG4 := hide (by intro hm9; have h9 := (unhide HO3).own.lt w1.heap.size (by simpa using hm9); omega : w1.heap.size ∉ vE.ownBlock.toList); have HK45 := hide (fun w5 (hg : Hid ((w3.alloc (.cells #[.int .u8 (en.k : Int), .slice a8 m8 c8, .slice a9 m9 c9] 89)).grownBy w5 vE.ownBlock)) => (Kept.refl vE.ownBlock.toList _).grown (unhide hg) (by intro k hk; left; simp [hk])); have d1 := t3.cell (unhide HC1) (by simpa using hneg); have d2 : ∀ ob, (w3.alloc ob).cell? ⟨w1.heap.size, 1, none⟩ = some vE := fun ob => ((Kept.refl [] w3).alloc ob).cell d1 (by simp); clear t1 t2 t3 ok3 re3 nw3; simp only [enC]))
      all_goals
        go_wp2
        refine ⟨⟨j + 1, i3, .slice (some ⟨g, 0, none⟩) (ts.length + 1) cap, ts ++ [(en, .slice a8 m8 c8, .slice a9 m9 c9)], by omega, by go_num, hide (by rw [List.length_append, unhide HJ]; rfl), hide ?_, hide ?_, hide ?_, hide ?_, hide ?_⟩, ?_⟩
        · rw [hmm, unhide HTN, unhide HTU, if_neg (by simp)]; simp
        · have k1 := ((Kept.refl [] w3).alloc (.cells #[.int .u8 (en.k : Int), .slice a8 m8 c8, .slice a9 m9 c9] 89))
          have k2 := unhide HK45 w5 HG5
          have r1 := (unhide HRE3).kept k1 (by simp) (by simp)
          have r2 := r1.kept k2 (fun hm9 => by have h9 := (unhide HO3).own.lt b (by simpa using hm9); omega) (fun x hx hm9 => by have h9 := (unhide HO3).own.lt x (by simpa using hm9); have h8 := hgv x hx; omega)
          exact r2.kept ((Kept.refl [w1.heap.size] w5).setCell (p := ⟨w1.heap.size, 1, none⟩) (Or.inl (by simp)) _) (by simp; omega) (fun x hx => by simp; have h8 := hgv x hx; omega)
        · exact heap_setCell_same w5 w1.heap.size 1 _ 129 _ (unhide HGR5)
        · have k1 := ((Kept.refl [] w3).alloc (.cells #[.int .u8 (en.k : Int), .slice a8 m8 c8, .slice a9 m9 c9] 89))
          have z1 := (unhide HT3).heap (show wr.drew.heap[w.heap.size]? = _ from unhide HZR) (by simpa using hne0)
          have z2 := k1.heap z1 (by simp)
          have z3 := (unhide HK45 w5 HG5).heap z2 (fun hm9 => by have h9 := (unhide HO3).own.lt w.heap.size (by simpa using hm9); omega)
          exact ((Kept.refl [w1.heap.size] w5).setCell (p := ⟨w1.heap.size, 1, none⟩) (Or.inl (by simp)) _).heap z3 (by simp; omega)
        · have o5 := (unhide HO3).push ((unhide HOK3).old ((Kept.refl [] w3).alloc _)) (fun b' hb' => by
            have h9 : wr.heap.size ≤ b' := by
              rcases hb' with hb' | hb'
              · exact unhide HNW3 b' (Or.inl (mem_nblk hb').1)
              · exact unhide HNW3 b' (Or.inr (mem_nblk hb').1)
            have h8 := unhide HHS
            exact ⟨fun e => by have h7 := ((unhide HO).own.lt b' e).2; omega, by omega⟩) (unhide HO5) (unhide HG5) (unhide HA5)
          refine o5.pass ((Kept.refl [w1.heap.size] w5).setCell (p := ⟨w1.heap.size, 1, none⟩) (Or.inl (by simp)) _) (by simp) (fun x hx e => ?_) (fun x hx t ht => ⟨fun hb' => ?_, fun hb' => ?_⟩)
          · have h9 := (o5.own.lt x e).1; rw [List.mem_singleton] at hx; omega
          · have h9 := (o5.apart t ht x (Or.inl hb')).2; rw [List.mem_singleton] at hx; omega
          · have h9 := (o5.apart t ht x (Or.inr hb')).2; rw [List.mem_singleton] at hx; omega
        · simp [intOf]; omega
    · have hlt' : ¬ (j : Int) < n := by omega
      have hjn : j = n := by omega
      subst hjn
      rw [Nat.sub_self] at HTN
      have HT3 := hide (by rw [unhide HT2, unhide HTN]; simp [takeN] : T = (f, ts.map (·.1), ij, 0))
      have HK9 := hide ((unhide HK2).trans (unhide HO).kept (by intro x hx; simp at hx; rcases hx with rfl | rfl; left; simp; right; omega))
      obtain ⟨aE, mE, cE, hvE⟩ : ∃ aE mE cE, vE = .slice aE mE cE := by
        rcases (unhide HO).own.2 with ⟨rfl, _⟩ | ⟨g, cap, cur, rfl, _⟩
        · exact ⟨_, _, _, rfl⟩
        · exact ⟨_, _, _, rfl⟩
      subst hvE
      have krow := (Kept.refl [w.heap.size] wr).setRowE (g := w.heap.size) (Or.inl (by simp)) #[.int .u64 (f : Int), .slice aE mE cE]
      have HOR := hide (((unhide HO).mono (M := [b, w1.heap.size, w.heap.size]) (by intro x hx; simp at hx; rcases hx with rfl | rfl <;> simp)).pass krow (by simp) (fun x hx e => by have h9 := ((unhide HO).own.lt x e).1; rw [List.mem_singleton] at hx; omega) (fun x hx t ht => ⟨fun hb' => by have h9 := ((unhide HO).apart t ht x (Or.inl hb')).2; rw [List.mem_singleton] at hx; omega, fun hb' => by have h9 := ((unhide HO).apart t ht x (Or.inr hb')).2; rw [List.mem_singleton] at hx; omega⟩))
      have HRR := hide ((unhide HR).kept krow (by simp; omega) (fun x hx => by simp; have h9 := hgv x hx; omega))
      clear krow
      go_wp2_with (first
        | (refine wpList_load_row rfl 129 _ rfl w1.heap.size rfl _ #[.int .u64 (f : Int), .slice aE mE cE] (0, 0) _ (unhide HG) Tryz.underlying129 rfl Tryz.size_batch ?_)
        | (refine wpList_store_row rfl 129 _ _ rfl w.heap.size #[.int .u64 (f : Int), .slice aE mE cE] rfl rfl _ #[.int .u64 0, .slice none 0 0] (unhide HZR) Tryz.size_batch rfl (by simp [Value.oneCell']) ?_))
      refine bodyPost_ret (v := .agg #[.int .u64 (f : Int), .slice aE mE cE]) ?_ rfl ⟨fun _ => ⟨.slice aE mE cE, by rw [unhide HT3], ?_, ?_⟩, fun h => absurd (by rw [unhide HT3]) h, (unhide HK9).setRowE (Or.inr (Nat.le_refl _)) _⟩
      · exact results_cell_row rfl _ _ w.heap.size _ #[.int .u64 (f : Int), .slice aE mE cE] (0, 0) _ rfl (setRow_heap _ _ _ _ _ _ (unhide HZR)) Tryz.underlying129 rfl Tryz.size_batch
      · rw [unhide HT3]; exact ⟨_, w6, ts, rfl, unhide HOR, by omega⟩
      · rw [unhide HT3]; exact unhide HRR
end Go.Proofs.YtejchncdimcdbaaGreatDoor
namespace Go.Proofs.YtejchncdimcdbaaGreatDoor
open Go.RowKit Go.BigFrame
set_option linter.unusedVariables false
set_option linter.unusedSimpArgs false

theorem eput2_heap {w : World} {g : Nat} {a b : Value} {t : TypeId} (h : w.heap[g]? = some (.cells #[a, b] t (0, 0))) (x y : Value) : ((w.setCell ⟨g, 0, none⟩ x).setCell ⟨g, 1, none⟩ y).heap[g]? = some (.cells #[x, y] t (0, 0)) := by
  rw [heap_setCell_same _ g 1 _ t _ (heap_setCell_same w g 0 _ t _ h)]; rfl
theorem eput2_kept {L : List Nat} {w0 w : World} (k : Kept L w0 w) (g : Nat) (hg : g ∈ L ∨ w0.heap.size ≤ g) (x y : Value) : Kept L w0 ((w.setCell ⟨g, 0, none⟩ x).setCell ⟨g, 1, none⟩ y) := (k.setCell hg x).setCell hg y
set_option maxRecDepth 100000 in
theorem catchB_idle (ge gf : Nat) (w : World) :
    CallsD Tryz.prog 162 #[.pointer (some ⟨ge, 0, none⟩), .pointer (some ⟨gf, 0, none⟩)] .returning w fun e u' w' => e = .returned (.tuple #[]) ∧ u' = .returning ∧ w' = w := by
  refine callsD_of_wpS Tryz.func162 rfl fun c₀ cs hu => ?_
  apply wpS_seq
  apply wpS_region
  simp [wpOpsS, go_sem, recoverD, hu, Tryz.ntmps162, Exit.thenS]
  refine wpS_of_wp ?_
  go_wp2
  cases c₀
  simp_all [bodyPostS, results, Tryz.results162]
set_option maxRecDepth 100000 in
theorem catchB_gave (f ge gf : Nat) (w : World) (a b x : Value) (he : w.heap[ge]? = some (.cells #[a, b] 129 (0, 0))) (hf : w.heap[gf]? = some (.cells #[x] 27 (0, 0))) (hne : ge ≠ gf) :
    CallsD Tryz.prog 162 #[.pointer (some ⟨ge, 0, none⟩), .pointer (some ⟨gf, 0, none⟩)] (.panicking (gave f)) w fun e u' w' => e = .returned (.tuple #[]) ∧ u' = .panicking [{ v := .iface 300 (.agg #[.int .i64 (f : Int)]), recovered := true }] ∧
      (w'.heap[ge]? = some (.cells #[.int .u64 0, .slice none 0 0] 129 (0, 0)) ∧ w'.heap[gf]? = some (.cells #[.int .i64 (f : Int)] 27 (0, 0)) ∧ Kept [ge, gf] w w') := by
  have HE := hide he
  have HF := hide hf
  clear he hf
  unfold gave
  refine callsD_of_wpS Tryz.func162 rfl fun c₀ cs hu => ?_
  apply wpS_seq
  apply wpS_region
  simp [wpOpsS, go_sem, recoverD, hu, Tryz.ntmps162, Exit.thenS]
  refine wpS_of_wp ?_
  go_wp2_with fail
  refine Calls.mono (reason_any f w) ?_
  rintro r w1 ⟨rfl, k1⟩
  have HE1 := hide (k1.heap (unhide HE) (by simp))
  have HF1 := hide (k1.heap (unhide HF) (by simp))
  have HK1 := hide k1
  clear k1
  have s0 := cell_of_row _ _ 0 _ _ _ (unhide HE1)
  have s1 := cell_of_row _ _ 1 _ _ _ (unhide HE1)
  have t0 := cell_of_row _ _ 0 _ _ _ (unhide HF1)
  have f0 := frozen_of_row _ _ 0 _ _ (unhide HE1)
  have f1 := frozen_of_row _ _ 1 _ _ (unhide HE1)
  have g0 := frozen_of_row _ _ 0 _ _ (unhide HF1)
  have hne' : gf ≠ ge := fun h => hne h.symm
  have HG1 := hide (eput2_heap (unhide HE1) (.int .u64 0) (.slice none 0 0))
  have kp := eput2_kept (Kept.refl [ge] w1) ge (Or.inl (by simp)) (.int .u64 0) (.slice none 0 0)
  have HG2 := hide (heap_setCell_same _ gf 0 _ 27 (.int .i64 (f : Int)) (kp.heap (unhide HF1) (by simpa using hne')))
  have HG3 := hide (((Kept.refl [gf] _).setCell (p := ⟨gf, 0, none⟩) (Or.inl (by simp)) (.int .i64 (f : Int))).heap (unhide HG1) (by simpa using hne))
  have HK2 := hide ((eput2_kept ((unhide HK1).mono (M := [ge, gf]) (by simp)) ge (Or.inl (by simp)) (.int .u64 0) (.slice none 0 0)).setCell (p := ⟨gf, 0, none⟩) (Or.inl (by simp)) (.int .i64 (f : Int)))
  clear kp
  go_wp2
  cases c₀
  simp_all [bodyPostS, results, Tryz.results162]
  exact ⟨unhide HG3, unhide HG2, unhide HK2⟩
def decB (p : List Nat) : Nat × List En × Nat :=
  if (takeB p 0).2.2.2 ≠ 0 then (0, [], (takeB p 0).2.2.2) else if doneE p (takeB p 0).2.2.1 0 ≠ 0 then (0, [], doneE p (takeB p 0).2.2.1 0) else ((takeB p 0).1, (takeB p 0).2.1, 0)
set_option maxRecDepth 100000 in
set_option maxHeartbeats 2000000 in
theorem decodeBatch_any (v : Value) (p : List Nat) (w : World) (h : Rd w v p) :
    Calls Tryz.prog 117 #[v] w fun r w' => ∃ bv, r = .returned (.tuple #[.agg #[.int .u64 ((decB p).1 : Int), bv], .int .i64 (decB p).2.2]) ∧ NewN w.heap.size w' bv (decB p).2.1 ∧ Kept [] w w' := by
  have H := hide h
  clear h
  obtain ⟨D, hD⟩ : ∃ D, decB p = D := ⟨_, rfl⟩
  rw [hD]
  have HD := hide hD
  unfold decB at HD
  clear hD
  have hmf : ∀ (fn : Fn) (first cap : Array Value) (w : World), (Instr.makeFunc fn first cap).run Tryz.prog w = .ok (.func fn first cap) w := fun _ _ _ _ => rfl
  have HE := hide (((Kept.refl [] (w.alloc (.cells #[.int .u64 0, .slice none 0 0] 129))).alloc (.cells #[.int .i64 0] 27)).heap (heap_alloc_new w (.cells #[.int .u64 0, .slice none 0 0] 129)) (by simp))
  have HF := hide (alloc_at w (.cells #[.int .u64 0, .slice none 0 0] 129) (.cells #[.int .i64 0] 27))
  have HK0 := hide (((Kept.refl [] w).alloc (.cells #[.int .u64 0, .slice none 0 0] 129)).alloc (.cells #[.int .i64 0] 27))
  have HS0 := hide (show ((w.alloc (.cells #[.int .u64 0, .slice none 0 0] 129)).alloc (.cells #[.int .i64 0] 27)).heap.size = w.heap.size + 2 by simp)
  go_enter_defers Tryz.func117, Tryz.ntmps117
  go_wp2_with fail
  refine Calls.mono (newReader_any v p _ ((unhide H).old (unhide HK0) (by simp))) ?_
  rintro r w1 ⟨b, gv, rfl, hb, r1, g1, k1⟩
  rw [unhide HS0] at hb
  have HG1 := hide (fun x hx => by have h9 := g1 x hx; rw [unhide HS0] at h9; exact h9 : ∀ x ∈ blk gv, w.heap.size + 2 ≤ x ∧ x < w1.heap.size)
  have HE1 := hide (k1.heap (unhide HE) (by simp))
  have HF1 := hide (k1.heap (unhide HF) (by simp))
  have HK1 := hide ((unhide HK0).trans k1 (by simp))
  have HR1 := hide r1
  clear r1 g1 k1
  go_wp2_with fail
  refine Calls.mono (takeBatch_any b gv p 0 w1 (unhide HR1) (fun x hx => (unhide HG1 x hx).2)) ?_
  rintro r w2 ht
  obtain ⟨T, hT⟩ : ∃ T, takeB p 0 = T := ⟨_, rfl⟩
  rw [hT] at HD ht
  clear hT
  obtain ⟨ff, es, i2, f2⟩ := T
  simp only at HD
  obtain ⟨t1, t2, t3⟩ := ht
  simp only at t1 t2
  have HE2 := hide (t3.heap (unhide HE1) (by simp; omega))
  have HF2 := hide (t3.heap (unhide HF1) (by simp; omega))
  have HK2 := hide ((unhide HK1).trans t3 (by simp; omega))
  clear t3
  by_cases hf2 : f2 ≠ 0
  · have hr := t2 hf2
    subst hr
    have HD2 := hide (by rw [← unhide HD, if_pos hf2] : D = (0, [], f2))
    clear t1 t2 HD
    go_wp2
    refine leaves_cons (f := 162) (args := #[.pointer (some ⟨w.heap.size, 0, none⟩), .pointer (some ⟨w.heap.size + 1, 0, none⟩)]) (by simp) (by simp [go_sem]) ?_
    refine (catchB_gave f2 w.heap.size (w.heap.size + 1) w2 _ _ _ (unhide HE2) (unhide HF2) (by omega)).mono ?_
    rintro e u' w3 ⟨rfl, rfl, h1, h2, k3⟩
    have HE3 := hide h1
    have HF3 := hide h2
    clear h1 h2
    show Leaves _ _ _ _ [] .returning w3
    refine ⟨.tuple #[.agg #[.int .u64 0, .slice none 0 0], .int .i64 (f2 : Int)], ?_, ?_⟩
    · exact results_cell_cell rfl _ _ w.heap.size (w.heap.size + 1) _ _ _ _ _ _ .i64 _ rfl (unhide HE3) rfl (unhide HF3) Tryz.underlying129 rfl Tryz.size_batch Tryz.underlying27
    · refine ⟨.slice none 0 0, by rw [unhide HD2]; rfl, by rw [unhide HD2]; exact NewN.nil _ _ ((unhide HK2).trans k3 (by simp)).size, (unhide HK2).trans k3 (by simp)⟩
  replace hf2 : f2 = 0 := Decidable.not_not.1 hf2
  obtain ⟨bv, hr, ok2, re2⟩ := t1 hf2
  subst hr
  have HD1 := hide (by have h9 := unhide HD; rw [if_neg (by simpa using hf2)] at h9; exact h9)
  clear t1 t2 HD hf2
  obtain ⟨a3, m3, c3, kf, vf, hu3, _⟩ := id ok2.rdN
  subst hu3
  have HO2 := hide ok2
  have HR2 := hide re2
  clear ok2 re2
  have hw1 : w.heap.size + 2 ≤ w1.heap.size := by have h9 := lt_of_block (unhide HF1); omega
  have kst := (Kept.refl [w.heap.size] w2).setRowE (g := w.heap.size) (Or.inl (by simp)) #[.int .u64 (ff : Int), .slice a3 m3 c3]
  have HE3 := hide (setRow_heap w2 w.heap.size _ #[.int .u64 (ff : Int), .slice a3 m3 c3] 129 (0, 0) (unhide HE2))
  have HF3 := hide (kst.heap (unhide HF2) (by simp))
  have HK3 := hide ((unhide HK2).setRowE (g := w.heap.size) (Or.inr (Nat.le_refl _)) #[.int .u64 (ff : Int), .slice a3 m3 c3])
  have HR3 := hide ((unhide HR2).kept kst (by simp; omega) (fun x hx => by simp; have h9 := unhide HG1 x hx; omega))
  have HO3 := hide ((unhide HO2).kept kst (by simp; omega))
  clear kst
  obtain ⟨A, hA⟩ : ∃ A : Array Value, #[.int .u64 (ff : Int), .slice a3 m3 c3] = A := ⟨_, rfl⟩
  have HA := hide hA
  have HSZ := hide (by rw [← hA]; exact Tryz.size_batch : (Tryz.prog.info? 129).map (·.size) = some A.size)
  have HS3 := hide (by rw [← hA]; rfl : A.size = 2)
  have HON := hide (by rw [← hA]; simp [Value.oneCell'] : A.all (·.oneCell') = true)
  rw [hA] at HE3 HF3 HK3 HR3 HO3 ⊢
  clear hA
  go_wp2_with (refine wpList_store_row rfl 129 _ _ rfl w.heap.size A rfl rfl _ _ (unhide HE2) (unhide HSZ) (unhide HS3).symm (unhide HON) ?_)
  obtain ⟨W3, hW3⟩ : ∃ W, w2.setRow w.heap.size A = W := ⟨_, rfl⟩
  rw [hW3] at HE3 HF3 HK3 HR3 HO3 ⊢
  clear hW3
  refine Calls.mono (rdone_any b gv p i2 0 W3 (unhide HR3)) ?_
  rintro r w4 ⟨rfl, n4, rfl⟩
  obtain ⟨d, hd⟩ : ∃ d, doneE p i2 0 = d := ⟨_, rfl⟩
  rw [hd] at HD1 ⊢
  clear hd
  have k4 := (Kept.refl [] W3).drewN n4
  have HE4 := hide (k4.heap (unhide HE3) (by simp))
  have HF4 := hide (k4.heap (unhide HF3) (by simp))
  have HK4 := hide ((unhide HK3).trans k4 (by simp))
  have HO4 := hide ((unhide HO3).kept k4 (by simp))
  clear k4
  by_cases hd0 : d ≠ 0
  · have HD2 := hide (by rw [← unhide HD1, if_pos hd0] : D = (0, [], d))
    clear HD1
    go_wp2_with fail
    refine Calls.mono (demand_bad d _ hd0) ?_
    rintro r w5 ⟨rfl, rfl⟩
    clear hd0
    refine leaves_cons (f := 162) (args := #[.pointer (some ⟨w.heap.size, 0, none⟩), .pointer (some ⟨w.heap.size + 1, 0, none⟩)]) (by simp) (by simp [go_sem]) ?_
    refine (catchB_gave d w.heap.size (w.heap.size + 1) _ _ _ _ (by have h9 := unhide HE4; rw [← unhide HA] at h9; exact h9) (unhide HF4) (by omega)).mono ?_
    rintro e u' w6 ⟨rfl, rfl, h1, h2, k3⟩
    show Leaves _ _ _ _ [] .returning w6
    refine ⟨.tuple #[.agg #[.int .u64 0, .slice none 0 0], .int .i64 (d : Int)], ?_, ?_⟩
    · exact results_cell_cell rfl _ _ w.heap.size (w.heap.size + 1) _ _ _ _ _ _ .i64 _ rfl h1 rfl h2 Tryz.underlying129 rfl Tryz.size_batch Tryz.underlying27
    · refine ⟨.slice none 0 0, by rw [unhide HD2]; rfl, by rw [unhide HD2]; exact NewN.nil _ _ ((unhide HK4).trans k3 (by simp)).size, (unhide HK4).trans k3 (by simp)⟩
  replace hd0 : d = 0 := Decidable.not_not.1 hd0
  have HD2 := hide (by rw [← unhide HD1, if_neg (by simpa using hd0)] : D = (ff, es, 0))
  clear HD1
  subst hd0
  go_wp2_with fail
  refine Calls.mono (demand_ok _) ?_
  rintro r w5 ⟨rfl, rfl⟩
  obtain ⟨W4, hW4⟩ : ∃ W, W3.drewN n4 = W := ⟨_, rfl⟩
  rw [hW4] at HE4 HF4 HK4 HO4 ⊢
  clear hW4
  have kst := (Kept.refl [w.heap.size] W4).setRowE (g := w.heap.size) (Or.inl (by simp)) A
  have HE5 := hide (setRow_heap W4 w.heap.size _ A 129 (0, 0) (unhide HE4))
  have HF5 := hide (kst.heap (unhide HF4) (by simp))
  have HK5 := hide ((unhide HK4).setRowE (g := w.heap.size) (Or.inr (Nat.le_refl _)) A)
  have HO5 := hide ((unhide HO4).kept kst (by simp; omega))
  clear kst
  have z0 := cell_of_row _ _ 0 _ _ _ (unhide HF5)
  have zf := frozen_of_row _ _ 0 _ _ (unhide HF5)
  go_wp2_with (first
    | (refine wpList_load_row rfl 129 _ rfl w.heap.size rfl _ A (0, 0) _ (unhide HE4) Tryz.underlying129 rfl (unhide HSZ) ?_)
    | (refine wpList_store_row rfl 129 _ _ rfl w.heap.size A rfl rfl _ _ (unhide HE4) (unhide HSZ) rfl (unhide HON) ?_))
  have kc := (Kept.refl [w.heap.size + 1] (W4.setRow w.heap.size A)).setCell (p := ⟨w.heap.size + 1, 0, none⟩) (Or.inl (by simp)) (.int .i64 0)
  refine leaves_cons (f := 162) (args := #[.pointer (some ⟨w.heap.size, 0, none⟩), .pointer (some ⟨w.heap.size + 1, 0, none⟩)]) (by simp) (by simp [go_sem]) ?_
  refine (catchB_idle w.heap.size (w.heap.size + 1) _).mono ?_
  rintro e u' w6 ⟨rfl, rfl, rfl⟩
  refine ⟨.tuple #[.agg A, .int .i64 0], ?_, ?_⟩
  · exact results_cell_cell rfl _ _ w.heap.size (w.heap.size + 1) _ _ _ _ _ _ .i64 _ rfl (kc.heap (unhide HE5) (by simp)) rfl (heap_setCell_same _ (w.heap.size + 1) 0 _ 27 (.int .i64 0) (unhide HF5)) Tryz.underlying129 rfl (unhide HSZ) Tryz.underlying27
  · refine ⟨.slice a3 m3 c3, by rw [unhide HD2, ← unhide HA]; rfl, ?_, (unhide HK5).setCell (p := ⟨w.heap.size + 1, 0, none⟩) (Or.inr (by show w.heap.size ≤ w.heap.size + 1; omega)) _⟩
    rw [unhide HD2]
    exact ((unhide HO5).kept kc (by simp; omega)).weak (by omega)
end Go.Proofs.YtejchncdimcdbaaGreatDoor
/-
  A whole row by value, read within a quiet walk.
-/
namespace Go.Proofs.YtejchncdimcdbaaGreatDoor
open Go Go.RowKit Go.BigFrame

end Go.Proofs.YtejchncdimcdbaaGreatDoor
/-
  A drawn region whose operations read and whose callees leave all that was there as it was: one walk in the text's order, over the class of the worlds that keep W.
-/
namespace Go.Proofs.YtejchncdimcdbaaGreatDoor
open Go Go.RowKit Go.BigFrame
set_option linter.unusedSimpArgs false

theorem run_load1 {P : Program} {o : Oper} {a : Act} (ty : TypeId) (x : Operand) (ho : o.op = .load ty x) (ad : Addr) (hx : a.eval x = .pointer (some ad)) (w : World) (v : Value) (k : IntKind) (hu : P.underlying ty = some (.int k)) (hc : w.cell? ad = some v) :
    (execOp a.eval o).run P w = .ok (.value v) w := by
  have h2 : (isAgg ty).run P w = .ok false w := by
    unfold isAgg
    rw [Sem.run_bind, run_underlying hu w]; simp
  unfold execOp
  simp only [ho, hx, Instr.loadAt, Instr.sureAddr, Sem.run_bind, Sem.run_pure, Result.andThen_ok, loadVar, h2]
  simp [go_sem, hc]
end Go.Proofs.YtejchncdimcdbaaGreatDoor
/-
  A row in the midst of a block, read within a quiet walk.
-/
namespace Go.Proofs.YtejchncdimcdbaaGreatDoor
open Go Go.RowKit Go.BigFrame

end Go.Proofs.YtejchncdimcdbaaGreatDoor
namespace Go.Proofs.YtejchncdimcdbaaGreatDoor
open Go.RowKit Go.BigFrame
set_option linter.unusedVariables false
set_option linter.unusedSimpArgs false

end Go.Proofs.YtejchncdimcdbaaGreatDoor
namespace Go.Proofs.YtejchncdimcdbaaGreatDoor
open Go.RowKit Go.BigFrame
set_option linter.unusedVariables false
set_option linter.unusedSimpArgs false

end Go.Proofs.YtejchncdimcdbaaGreatDoor
namespace Go.Proofs.YtejchncdimcdbaaGreatDoor
open Go.RowKit Go.BigFrame
set_option linter.unusedVariables false
set_option linter.unusedSimpArgs false

theorem rd_row {w : World} {g : Nat} (bs : List Nat) {cs : Array Value} {fr : Nat × Nat} (h : w.heap[g]? = some (.cells cs 5 fr)) (hc : cs = (bs.map u8).toArray) (hb : ∀ x ∈ bs, x < 256) (n : Nat) (hn : bs.length = n) (hl : n ≤ 140737488355328) : Rd w (.slice (some ⟨g, 0, none⟩) n n) bs := by
  refine ⟨_, n, n, rfl, hn, Nat.le_refl _, ⟨by omega, hl⟩, fun h => by simp at h, hb, fun hp => ⟨g, 0, rfl, fun i hi => ?_⟩⟩
  subst hc
  have hi' : i < bs.length := by omega
  rw [cell_of_row _ _ _ _ _ _ h, Nat.zero_add, List.getElem?_toArray, List.getElem?_map, List.getElem?_eq_getElem hi', List.getD_eq_getElem?_getD, List.getElem?_eq_getElem hi']
  rfl
theorem RdN.one {w : World} {g : Nat} {e : En} {kv vv : Value} {t : TypeId} {fr : Nat × Nat} (h : w.heap[g]? = some (.cells (enC e kv vv) t fr)) (ho : OkE w e kv vv) : RdN w (.slice (some ⟨g, 0, none⟩) 1 1) [e] := by
  refine ⟨_, 1, 1, fun _ => kv, fun _ => vv, rfl, rfl, Nat.le_refl _, by omega, fun i hi => ?_, fun _ => ⟨g, 0, rfl, fun i hi => ?_⟩⟩
  · have : i = 0 := by simpa using hi
    subst this; exact ho
  · have : i = 0 := by simpa using hi
    subst this
    intro j v hv
    rw [cell_of_row _ _ _ _ _ _ h, Nat.zero_mul, Nat.add_zero, Nat.zero_add, ← Array.getElem?_toList]
    exact hv
theorem heap_alloc3e (w : World) (a b c : Obj) : (((w.alloc a).alloc b).alloc c).heap[w.heap.size]? = some a ∧ (((w.alloc a).alloc b).alloc c).heap[w.heap.size + 1]? = some b ∧ (((w.alloc a).alloc b).alloc c).heap[w.heap.size + 1 + 1]? = some c := by
  refine ⟨?_, ?_, ?_⟩
  · exact (((Kept.refl [] (w.alloc a)).alloc b).alloc c).heap (heap_alloc_new w a) (by simp)
  · exact ((Kept.refl [] ((w.alloc a).alloc b)).alloc c).heap (alloc_at w a b) (by simp)
  · have h9 := alloc_at (w.alloc a) b c
    rw [show (w.alloc a).heap.size = w.heap.size + 1 from Array.size_push _] at h9
    exact h9
end Go.Proofs.YtejchncdimcdbaaGreatDoor
namespace Go.Proofs.YtejchncdimcdbaaGreatDoor
open Go.RowKit Go.BigFrame
set_option linter.unusedVariables false
set_option linter.unusedSimpArgs false

def wideB (z : Int) : Bool := decide (1 ≤ z ∧ z ≤ 32)
set_option maxRecDepth 100000 in
theorem isWidth_any (z : Int) (w : World) : Calls Tryz.prog 116 #[.int .i64 z] w fun e w' => e = .returned (.bool (wideB z)) ∧ w' = w := by
  by_cases h1 : 1 ≤ z
  · by_cases h2 : z ≤ 32
    · have hb : wideB z = true := by simp [wideB, h1, h2]
      rw [hb]
      clear hb
      go_enter Tryz.func116, Tryz.ntmps116
      go_wp2
      go_ret
      exact ⟨rfl, rfl⟩
    · have hb : wideB z = false := by simp [wideB, h1]; omega
      have h2' : decide (z ≤ 32) = false := by simpa using h2
      rw [hb]
      clear hb
      go_enter Tryz.func116, Tryz.ntmps116
      go_wp2
      go_ret
      exact ⟨rfl, rfl⟩
  · have hb : wideB z = false := by simp [wideB]; omega
    have h1' : decide (1 ≤ z) = false := by simpa using h1
    rw [hb]
    clear hb
    go_enter Tryz.func116, Tryz.ntmps116
    go_wp2
    go_ret
    exact ⟨rfl, rfl⟩
/-- A list that may be appended to: owned, or without room. -/
def AppOk (base : Nat) (w : World) (v : Value) (bs : List Nat) : Prop := w.ownsRow base 5 1 v bs.length (bs.map u8) ∨ ∃ g, v = .slice (some ⟨g, 0, none⟩) bs.length bs.length ∧ Rd w v bs
theorem AppOk.pass {base : Nat} {w w' : World} {v : Value} {bs : List Nat} (h : AppOk base w v bs) (k : Kept [] w w') : AppOk base w' v bs := by
  rcases h with h | ⟨g, h1, h2⟩
  · exact .inl (k.owns h (by simp))
  · exact .inr ⟨g, h1, h2.old k (by simp)⟩
/-- One byte more. -/
theorem pushA (w0 w : World) (v : Value) (bs : List Nat) (z : Nat) (H : Nat) (k : Kept [] w0 w) (h : AppOk w0.heap.size w v bs) (hnew : w.heap[H]? = some (.cells #[.int .u8 (z : Int)] 5 (0, 0))) (hz : z < 256) (hl : bs.length + 1 ≤ 1000000000) :
    ∃ ao cap w1, (Builtin.append_ #[72, 72] 72 #[v, .slice (some ⟨H, 0, none⟩) 1 1]).run Tryz.prog w = .ok (.slice ao (bs.length + 1) cap) w1 ∧
      w1.ownsRow w0.heap.size 5 1 (.slice ao (bs.length + 1) cap) (bs ++ [z]).length ((bs ++ [z]).map u8) ∧ Kept [] w0 w1 := by
  have hr : Rd w (.slice (some ⟨H, 0, none⟩) 1 1) [z] := rd_lit hnew rfl (by simpa using hz) 1 rfl (by omega)
  rcases h with h | ⟨g, rfl, h2⟩
  · obtain ⟨ao, cap, w1, hrun, ho, hg, _⟩ := appendAll w w0.heap.size v bs [z] _ 1 1 h hr (by simp; omega) k.size
    exact ⟨ao, cap, w1, hrun, ho, k.grown hg (fun j hj => .inr (h.lt j hj).1)⟩
  · obtain ⟨i0, hi, hz0, hz1, hz2⟩ := info_parts Tryz.info5
    have hold : ∀ j u, (bs.map u8)[j]? = some u → w.cell? (Addr.add ⟨g, 0, none⟩ j) = some u := by
      intro j u hj
      by_cases h0 : 0 < (bs.map u8).length
      · obtain ⟨ad', e, hc⟩ := h2.src h0
        cases e
        exact hc j u hj
      · have : bs.map u8 = [] := List.eq_nil_of_length_eq_zero (by omega)
        rw [this] at hj; simp at hj
    have hnews : ∀ j u, ([z].map u8)[j]? = some u → w.cell? (Addr.add ⟨H, 0, none⟩ j) = some u := by
      intro j u hj
      obtain ⟨ad', e, hc⟩ := hr.src (by simp)
      cases e
      exact hc j u hj
    obtain ⟨v', w1, hrun, hown, hgrow⟩ := run_append_arg_grows (P := Tryz.prog) w 72 72 5 i0 (.int .u8 0) 1 1 Tryz.underlying72 hi hz0 hz1 hz2 rfl (by decide)
      ⟨g, 0, none⟩ bs.length bs.length (bs.map u8) (by simp) hold ⟨H, 0, none⟩ 1 1 ([z].map u8) (by simp) hnews (by omega) (by unfold maxLen; omega) (by omega)
    obtain ⟨ao', cap', rfl⟩ := owns_shape hown
    exact ⟨ao', cap', w1, hrun, by rw [List.length_append, List.map_append]; exact owns_base hown k.size, k.trans ((Kept.refl [] w).grown hgrow (by simp)) (by simp)⟩
theorem wpList_pushA {ops : Array Oper} {rest : List Oper} {o : Oper} {a : Act} {Q : Exit → Act → World → Prop} (hgd : o.guard = none) (s x : Operand)
    (ho : o.op = .call { callee := .builtin .append, args := #[s, x], argTypes := #[72, 72] }) (hty : o.type = 72)
    (w0 w : World) (v : Value) (bs : List Nat) (z : Nat) (H : Nat) (k : Kept [] w0 w) (h : AppOk w0.heap.size w v bs) (hnew : w.heap[H]? = some (.cells #[.int .u8 (z : Int)] 5 (0, 0))) (hz : z < 256) (hl : bs.length + 1 ≤ 1000000000)
    (hs : a.eval s = v) (hx : a.eval x = .slice (some ⟨H, 0, none⟩) 1 1)
    (hK : ∀ ao cap w1, Hid (w1.ownsRow w0.heap.size 5 1 (.slice ao (bs.length + 1) cap) (bs ++ [z]).length ((bs ++ [z]).map u8)) → Hid (Kept [] w0 w1) → wpList Tryz.prog ops Q rest (a.put o.dst (.slice ao (bs.length + 1) cap)) w1) :
    wpList Tryz.prog ops Q (o :: rest) a w := by
  obtain ⟨ao, cap, w1, hrun, h2, h3⟩ := pushA w0 w v bs z H k h hnew hz hl
  refine wpList_plain hgd fun K hK' => ?_
  unfold Oper.wp execOp
  simp only [ho, hty, resolve, invoke, builtin, Sem.run_bind, Sem.run_pure, Result.andThen_ok, List.map_toArray, List.map_cons, List.map_nil, hs, hx, hrun]
  exact hK' _ _ (hK ao cap w1 h2 h3)
theorem AppOk.shape {base : Nat} {w : World} {v : Value} {bs : List Nat} (h : AppOk base w v bs) : ∃ ao cap, v = .slice ao bs.length cap := by
  rcases h with h | ⟨g, h1, h2⟩
  · exact owns_shape h
  · exact ⟨_, _, h1⟩
set_option maxRecDepth 100000 in
set_option maxHeartbeats 2000000 in
theorem appendNumber_any (w0 w : World) (v : Value) (bs : List Nat) (x : Nat) (k : Kept [] w0 w) (h : AppOk w0.heap.size w v bs) (hl : bs.length ≤ 1000000) :
    Calls Tryz.prog 131 #[v, .int .u64 x] w fun e w' => ∃ v', e = .returned v' ∧ AppOk w0.heap.size w' v' (bs ++ wide x 8) ∧ Kept [] w0 w' := by
  have HH := hide h
  have HK := hide k
  clear h k
  go_enter Tryz.func131, Tryz.ntmps131
  go_wp2_with fail
  go_loopw [0, 5] (fun t0 t5 wr => ∃ (k : Nat) (cur : List Nat), t5 = .int .i64 ((k : Int) - 1) ∧ k ≤ 8 ∧ Hid (cur ++ wide x k = bs ++ wide x 8) ∧ Hid (AppOk w0.heap.size wr t0 cur) ∧ Hid (Kept [] w0 wr)) (fun _ t _ => (intOf t + 1).toNat)
  case atStart => exact ⟨8, bs, rfl, Nat.le_refl _, rfl, HH, HK⟩
  case round =>
    obtain ⟨k, cur, rfl, hk, Hp, HA, HK1⟩ := hrel
    have hlen : cur.length + k ≤ 1000008 := by have h1 := congrArg List.length (unhide Hp); simp [wide_len] at h1; omega
    by_cases h0 : k = 0
    · subst h0
      go_wp2
      go_ret
      have h1 : cur = bs ++ wide x 8 := by have h2 := unhide Hp; rw [show wide x 0 = [] from rfl, List.append_nil] at h2; exact h2
      exact ⟨_, rfl, by rw [← h1]; exact unhide HA, unhide HK1⟩
    · obtain ⟨j, rfl⟩ : ∃ j, k = j + 1 := ⟨k - 1, by omega⟩
      have e1 : (((j + 1 : Nat) : Int) - 1) = (j : Int) := by omega
      rw [e1]
      have hj0 : (0 : Int) ≤ (j : Int) := by omega
      have hj8 : (j : Int) ≤ 7 := by omega
      obtain ⟨q, hq⟩ : ∃ q, q = x / 256 ^ j := ⟨_, rfl⟩
      have hsh := shr8 x j (by omega)
      rw [← hq] at hsh
      have Hq := hide hq
      clear hq
      have hz1 : IntKind.u8.wrap (q : Int) = ((q % 256 : Nat) : Int) := by rw [IntKind.wrap_u8']; omega
      have hz2 : (q : Int) % 256 = ((q % 256 : Nat) : Int) := by omega
      have HZ := hide (Nat.mod_lt q (by decide : 0 < 256))
      obtain ⟨y, hy⟩ : ∃ y, q % 256 = y := ⟨_, rfl⟩
      rw [hy] at hz1 hz2 HZ
      have HY := hide hy
      have hval : (x : Int) / 2 ^ (8 * j) % 256 = (y : Int) := by
        have h1 : (x : Int) / 2 ^ (8 * j) = (q : Int) := by rw [unhide Hq, Int.pow_mul]; simp
        rw [h1, hz2]
      clear hy
      obtain ⟨ao, cap, he⟩ := (unhide HA).shape
      subst he
      go_wp2_with (at_builtin; go_must (refine wpList_pushA rfl (.tmp 10) (.tmp 16) rfl rfl w0 _ (.slice ao cur.length cap) cur y wr.heap.size ((unhide HK1).alloc _) ((unhide HA).pass ((Kept.refl [] wr).alloc _)) (heap_alloc_new _ _) (unhide HZ) (by omega) rfl rfl ?_; intro ao2 cap2 w2 HO2 HK2))
      go_roundw
      case rel => exact ⟨j, cur ++ [y], rfl, by omega, hide (by rw [← unhide Hp, ← unhide HY, unhide Hq]; simp [wide]), hide (.inl (unhide HO2)), HK2⟩
      case measure => simp [intOf]
theorem hcells {w : World} {b : Nat} {x0 x1 x2 x3 : Value} {t : TypeId} (h : w.heap[b]? = some (.cells #[x0, x1, x2, x3] t (0, 0))) : w.cell? ⟨b, 0, none⟩ = some x0 ∧ w.cell? ⟨b, 1, none⟩ = some x1 ∧ w.cell? ⟨b, 2, none⟩ = some x2 ∧ w.cell? ⟨b, 3, none⟩ = some x3 := by
  refine ⟨?_, ?_, ?_, ?_⟩ <;> rw [cell_of_row _ _ _ _ _ _ h] <;> rfl
/-- A head's payload. -/
def headB (a b c : Nat) (z : Int) : List Nat := [78, 84, 82, 89, 49] ++ wide a 8 ++ wide b 8 ++ wide c 8 ++ [(z % 256).toNat]
theorem headB_eq (a b c : Nat) (z : Int) : headB a b c z = [78, 84, 82, 89, 49] ++ wide a 8 ++ wide b 8 ++ wide c 8 ++ [(z % 256).toNat] := rfl
theorem headB_len (a b c : Nat) (z : Int) : (headB a b c z).length = 30 := by simp [headB, wide_len]
/-- What EncodeHead answers. -/
def ehE (z : Int) : Nat := if wideB z then 0 else 1
def ehB (a b c : Nat) (z : Int) : List Nat := if wideB z then frB a (headB a b c z) else []
set_option maxRecDepth 100000 in
set_option maxHeartbeats 2000000 in
theorem encodeHead_any (a b c : Nat) (z : Int) (w : World) (ha : a < 18446744073709551616) (hz : -9223372036854775808 ≤ z ∧ z ≤ 9223372036854775807) :
    Calls Tryz.prog 87 #[.agg #[.int .u64 a, .int .u64 b, .int .u64 c, .int .i64 z]] w fun e w' => ∃ v', e = .returned (.tuple #[v', .int .i64 (ehE z)]) ∧ NewB w w' v' (ehB a b c z) ∧ Kept [] w w' := by
  have HK0 := hide ((Kept.refl [] w).alloc (.cells #[.int .u64 a, .int .u64 b, .int .u64 c, .int .i64 z] 81))
  have HB0 := hide (heap_alloc_new w (.cells #[.int .u64 a, .int .u64 b, .int .u64 c, .int .i64 z] 81))
  by_cases hw : wideB z = true
  · have hE : ehE z = 0 := by simp [ehE, hw]
    have hB : ehB a b c z = frB a (headB a b c z) := by simp [ehB, hw]
    rw [hE, hB]
    clear hE hB
    have hzz : 1 ≤ z ∧ z ≤ 32 := by simpa [wideB] using hw
    have kc : (convert 72 72 (.slice (some ⟨w.heap.size + 1, 0, none⟩) 5 5)).run Tryz.prog ((w.alloc (.cells #[.int .u64 a, .int .u64 b, .int .u64 c, .int .i64 z] 81)).alloc (.cells #[.int .u8 78, .int .u8 84, .int .u8 82, .int .u8 89, .int .u8 49] 5)) = .ok (.slice (some ⟨w.heap.size + 1, 0, none⟩) 5 5) ((w.alloc (.cells #[.int .u64 a, .int .u64 b, .int .u64 c, .int .i64 z] 81)).alloc (.cells #[.int .u8 78, .int .u8 84, .int .u8 82, .int .u8 89, .int .u8 49] 5 (5, 6))) := by
      have h9 := Lib.run_convert_bytes_const (P := Tryz.prog) (w.alloc (.cells #[.int .u64 a, .int .u64 b, .int .u64 c, .int .i64 z] 81)) 72 5 #[.int .u8 78, .int .u8 84, .int .u8 82, .int .u8 89, .int .u8 49] 5 5 Tryz.underlying72 Tryz.underlying5
      rw [show (w.alloc (.cells #[.int .u64 a, .int .u64 b, .int .u64 c, .int .i64 z] 81)).heap.size = w.heap.size + 1 by simp] at h9
      exact h9
    go_enter Tryz.func87, Tryz.ntmps87
    go_wp2_with fail
    refine Calls.mono (isWidth_any z _) ?_
    rintro e w1 ⟨rfl, rfl⟩
    rw [hw]
    go_wp2_with fail
    obtain ⟨W1, hW1⟩ : ∃ W, w.alloc (.cells #[.int .u64 a, .int .u64 b, .int .u64 c, .int .i64 z] 81) = W := ⟨_, rfl⟩
    have hs1 : W1.heap.size = w.heap.size + 1 := by rw [← hW1]; simp
    rw [hW1] at HK0 HB0 ⊢
    have HS1 := hide hs1
    clear hW1 hs1 kc
    obtain ⟨W2, hW2⟩ : ∃ W, W1.alloc (.cells #[.int .u8 78, .int .u8 84, .int .u8 82, .int .u8 89, .int .u8 49] 5 (5, 6)) = W := ⟨_, rfl⟩
    have HK2 := hide (by rw [← hW2]; exact (Kept.refl [] W1).alloc _ : Kept [] W1 W2)
    have HR2 := hide (by rw [← hW2, ← unhide HS1]; exact rd_row [78, 84, 82, 89, 49] (heap_alloc_new W1 _) rfl (by decide) 5 rfl (by decide) : Rd W2 (.slice (some ⟨w.heap.size + 1, 0, none⟩) 5 5) [78, 84, 82, 89, 49])
    rw [hW2]
    clear hW2
    obtain ⟨d0, d1, d2, d3⟩ := hcells ((unhide HK2).heap (unhide HB0) (by simp))
    refine Calls.mono (appendNumber_any W1 W2 _ [78, 84, 82, 89, 49] a (unhide HK2) (.inr ⟨_, rfl, unhide HR2⟩) (by decide)) ?_
    rintro e w3 ⟨v3, rfl, o3, k3⟩
    obtain ⟨a3, c3, rfl⟩ := o3.shape
    have HO3 := hide o3
    have HK3 := hide k3
    clear o3 k3 d0 d1 d2 d3 HR2 HK2
    obtain ⟨d0, d1, d2, d3⟩ := hcells ((unhide HK3).heap (unhide HB0) (by simp))
    go_wp2_with fail
    refine Calls.mono (appendNumber_any W1 w3 _ _ b (unhide HK3) (unhide HO3) (by simp [wide_len])) ?_
    rintro e w4 ⟨v4, rfl, o4, k4⟩
    obtain ⟨a4, c4, rfl⟩ := o4.shape
    have HO4 := hide o4
    have HK4 := hide k4
    clear o4 k4 d0 d1 d2 d3 HO3 HK3
    obtain ⟨d0, d1, d2, d3⟩ := hcells ((unhide HK4).heap (unhide HB0) (by simp))
    go_wp2_with fail
    refine Calls.mono (appendNumber_any W1 w4 _ _ c (unhide HK4) (unhide HO4) (by simp [wide_len])) ?_
    rintro e w5 ⟨v5, rfl, o5, k5⟩
    obtain ⟨a5, c5, rfl⟩ := o5.shape
    have HO5 := hide o5
    have HK5 := hide k5
    clear o5 k5 d0 d1 d2 d3 HO4 HK4
    have hbl : ([78, 84, 82, 89, 49] ++ wide a 8 ++ wide b 8 ++ wide c 8).length = 29 := by simp [wide_len]
    have HHB := hide (headB_eq a b c z)
    generalize [78, 84, 82, 89, 49] ++ wide a 8 ++ wide b 8 ++ wide c 8 = bs at HO5 HHB hbl
    obtain ⟨y, hy⟩ : ∃ y : Nat, z = (y : Int) := ⟨z.toNat, by omega⟩
    subst hy
    have hy2 : ((y : Int) % 256).toNat = y := by omega
    rw [hy2] at HHB
    have hval : (y : Int) % 256 = (y : Int) := by omega
    have HLB := hide hbl
    have hyl : y < 256 := by omega
    have HYL := hide hyl
    obtain ⟨d0, d1, d2, d3⟩ := hcells ((unhide HK5).heap (unhide HB0) (by simp))
    clear hbl hy2 hyl
    go_wp2_with (at_builtin; go_must (refine wpList_pushA rfl (.tmp 23) (.tmp 27) rfl rfl W1 _ _ bs y w5.heap.size ((unhide HK5).alloc _) (by exact (unhide HO5).pass ((Kept.refl [] w5).alloc _)) (heap_alloc_new _ _) (unhide HYL) (by rw [unhide HLB]; omega) rfl rfl ?_; intro a6 c6 w6 HO6 HK6; obtain ⟨x0, x1, x2, x3⟩ := hcells ((unhide HK6).heap (unhide HB0) (by simp))))
    have HK0w := hide (unhide HK6)
    have hby : ∀ x ∈ bs ++ [y], x < 256 := by
      have h9 : ∀ x ∈ headB a b c (y : Int), x < 256 := by
        intro x hx
        unfold headB at hx
        simp only [List.mem_append, List.mem_cons, List.not_mem_nil, or_false] at hx
        rcases hx with ((((h | h | h | h | h) | h) | h) | h) | h
        · omega
        · omega
        · omega
        · omega
        · omega
        · exact wide_byte _ _ x h
        · exact wide_byte _ _ x h
        · exact wide_byte _ _ x h
        · omega
      rw [unhide HHB] at h9; exact h9
    have HR6 := hide (rd_owns (unhide HO6) hby (by rw [List.length_append, unhide HLB]; simp))
    clear hby d0 d1 d2 d3
    refine Calls.mono (encode_any a _ (bs ++ [y]) w6 (unhide HR6) ha) ?_
    rintro e w7 ⟨v7, rfl, n7, k7⟩
    have hel : (bs ++ [y]).length = 30 := by rw [List.length_append, unhide HLB]; rfl
    have hee : encE (bs ++ [y]) = 0 := by unfold encE; rw [hel]; rfl
    have heb : encB a (bs ++ [y]) = frB a (bs ++ [y]) := by unfold encB; rw [hee]; rfl
    rw [heb] at n7
    rw [hee]
    have HN7 := hide (n7.weak (w0 := w) (Nat.le_trans (unhide HK0).size (unhide HK6).size))
    have HK7 := hide (((unhide HK0).trans (unhide HK6) (by simp)).trans k7 (by simp))
    clear n7 k7 hel hee heb
    go_wp2
    go_ret2
    exact ⟨_, rfl, by rw [unhide HHB]; exact unhide HN7, unhide HK7⟩
  · have hw' : wideB z = false := by simpa using hw
    have hE : ehE z = 1 := by simp [ehE, hw']
    have hB : ehB a b c z = [] := by simp [ehB, hw']
    rw [hE, hB]
    clear hE hB hw
    go_enter Tryz.func87, Tryz.ntmps87
    go_wp2_with fail
    refine Calls.mono (isWidth_any z _) ?_
    rintro e w1 ⟨rfl, rfl⟩
    rw [hw']
    go_wp2
    go_ret2
    exact ⟨_, rfl, NewB.nil _ _, unhide HK0⟩
end Go.Proofs.YtejchncdimcdbaaGreatDoor
namespace Go.Proofs.YtejchncdimcdbaaGreatDoor
open Go.RowKit Go.BigFrame
set_option linter.unusedVariables false
set_option linter.unusedSimpArgs false

set_option maxRecDepth 100000 in
set_option maxHeartbeats 1000000 in
theorem fmtU_any (u : Nat) (w : World) (hu : u < 18446744073709551616) (hv : VarsS w) :
    Calls Tryz.prog 72 #[.int .u64 u, .int .i64 10] w fun e w' => e = .returned (.string (strB (dgs (Lib.nDigits u) u))) ∧ Kept [] w w' := by
  go_enter Tryz.func72, Tryz.ntmps72
  go_wp2_with fail
  refine Calls.mono (ifmtU_any u _ hu hv) ?_
  rintro e w1 ⟨rfl, k1⟩
  have HK := hide k1
  clear k1
  go_wp2
  go_ret
  exact ⟨rfl, unhide HK⟩
set_option maxRecDepth 100000 in
set_option maxHeartbeats 1000000 in
theorem rep0_any (k : Nat) (w : World) (hk : k ≤ 20) : Calls Tryz.prog 73 #[.string ⟨#[48]⟩, .int .i64 k] w fun e w' => e = .returned (.string (strB (List.replicate k 48))) ∧ w' = w := by
  by_cases h0 : k = 0
  · subst h0
    go_enter Tryz.func73, Tryz.ntmps73
    go_wp2
    go_ret
    exact ⟨rfl, rfl⟩
  by_cases h1 : k = 1
  · subst h1
    go_enter Tryz.func73, Tryz.ntmps73
    go_wp2
    go_ret
    exact ⟨rfl, rfl⟩
  refine (repeat_any k w (by omega) hk).mono fun e w' h => ⟨?_, h.2⟩
  rw [h.1, zer_rep ⟨k, by omega⟩]
set_option maxRecDepth 100000 in
set_option maxHeartbeats 2000000 in
theorem name_any (u : Nat) (w : World) (hu : u < 18446744073709551616) (hv : VarsS w) :
    Calls Tryz.prog 35 #[.int .u64 u] w fun e w' => e = .returned (.string (strB (nmL u))) ∧ Kept [] w w' := by
  have HP := hide (Lib.lt_pow_nDigits u)
  have HN := hide (by
    by_cases h0 : u = 0
    · subst h0; rw [Lib.nDigits_small (by omega)]; omega
    · have := Lib.numDigits_eq u (by omega) hu; split at this <;> omega : Lib.nDigits u ≤ 20)
  have HF := hide (fmtU_any u w hu hv)
  obtain ⟨nd, hnd⟩ : ∃ nd, Lib.nDigits u = nd := ⟨_, rfl⟩
  rw [hnd] at HP HN HF
  clear hnd hv
  have HS := hide (strB_size (dgs nd u))
  rw [dgs_len] at HS
  have HE := hide (by
    have h1 := dgs_pad nd u (unhide HP) (20 - nd)
    rw [Nat.sub_add_cancel (unhide HN)] at h1
    unfold nmL
    rw [h1, strB_app, strB_app, ← ByteArray.append_assoc]
    rfl : strB (nmL u) = (⟨#[115, 101, 103, 45]⟩ : ByteArray) ++ strB (List.replicate (20 - nd) 48) ++ strB (dgs nd u))
  obtain ⟨D, hD⟩ : ∃ D, strB (dgs nd u) = D := ⟨_, rfl⟩
  rw [hD] at HF HS HE
  clear hD
  have hsz : (D.size : Int) = nd := by rw [unhide HS]
  have hz0 : (strB (List.replicate (20 - nd) 48)).size = 20 - nd := by rw [strB_size, List.length_replicate]
  have hz1 : ¬ 9223372036854775807 < 4 + (strB (List.replicate (20 - nd) 48)).size := by omega
  have hz2 : ¬ 9223372036854775807 < 4 + (strB (List.replicate (20 - nd) 48)).size + D.size := by have := unhide HS; have := unhide HN; omega
  clear hz0
  have hsub : (20 : Int) - (nd : Int) = ((20 - nd : Nat) : Int) := by have := unhide HN; omega
  go_enter Tryz.func35, Tryz.ntmps35
  go_wp2_with fail
  refine Calls.mono (unhide HF) ?_
  rintro e w1 ⟨rfl, k1⟩
  have HK := hide k1
  clear k1
  go_wp2_with fail
  refine Calls.mono (rep0_any (20 - nd) _ (by omega)) ?_
  rintro e w2 ⟨rfl, rfl⟩
  go_wp2
  go_ret
  exact ⟨by rw [unhide HE]; rfl, unhide HK⟩
end Go.Proofs.YtejchncdimcdbaaGreatDoor
namespace Go.Proofs.YtejchncdimcdbaaGreatDoor
open Go.RowKit Go.BigFrame
set_option linter.unusedVariables false
set_option linter.unusedSimpArgs false

theorem pre_is (l : List Nat) : (strB ([115, 101, 103, 45] ++ l)).data.toList.take 4 = [115, 101, 103, 45] := by simp [strB]
theorem pre_cut (l : List Nat) : (strB ([115, 101, 103, 45] ++ l)).extract 4 (strB ([115, 101, 103, 45] ++ l)).size = strB l := by
  apply ByteArray.ext
  rw [ByteArray.data_extract, strB_size]
  simp [strB]
  rw [List.take_of_length_le (by simp)]
set_option maxRecDepth 100000 in
set_option maxHeartbeats 1000000 in
theorem hasSeg_any (s : ByteArray) (w : World) (hs : s.size ≤ 140737488355328) :
    Calls Tryz.prog 174 #[.string s, .string ⟨#[115, 101, 103, 45]⟩] w fun e w' => e = .returned (.bool (decide (4 ≤ s.size ∧ s.data.toList.take 4 = [115, 101, 103, 45]))) ∧ w' = w := by
  by_cases h4 : 4 ≤ s.size
  · have h1 : (4 : Int) ≤ s.size := by omega
    have HE := hide (by
      rw [ba_toListS, ext_take]
      by_cases h : s.data.toList.take 4 = [115, 101, 103, 45]
      · rw [decide_eq_true ⟨h4, h⟩, h]; decide
      · rw [decide_eq_false (fun x => h x.2)]; exact beq_eq_false_iff_ne.2 h : ((s.extract 0 4).toList == [115, 101, 103, 45]) = decide (4 ≤ s.size ∧ s.data.toList.take 4 = [115, 101, 103, 45]))
    go_enter Tryz.func174, Tryz.ntmps174
    go_wp2
    go_ret
    exact ⟨by rw [← unhide HE]; rfl, rfl⟩
  · have h1 : ¬ (4 : Int) ≤ s.size := by omega
    rw [decide_eq_false (fun x => h4 x.1)]
    go_enter Tryz.func174, Tryz.ntmps174
    go_wp2
    go_ret
    exact ⟨rfl, rfl⟩
set_option maxRecDepth 100000 in
set_option maxHeartbeats 1000000 in
theorem itrim_any (s : ByteArray) (w : World) (hs : s.size ≤ 140737488355328) :
    Calls Tryz.prog 179 #[.string s, .string ⟨#[115, 101, 103, 45]⟩] w fun e w' => ∃ t, e = .returned (.string t) ∧ t.size ≤ s.size ∧ (∀ l, s = strB ([115, 101, 103, 45] ++ l) → t = strB l) ∧ w' = w := by
  have HS := hide (hasSeg_any s w hs)
  by_cases hc : 4 ≤ s.size ∧ s.data.toList.take 4 = [115, 101, 103, 45]
  · rw [decide_eq_true hc] at HS
    have h1 : (4 : Int) ≤ s.size := by have := hc.1; omega
    clear hc
    go_enter Tryz.func179, Tryz.ntmps179
    go_wp2_with fail
    refine Calls.mono (unhide HS) ?_
    rintro e w1 ⟨rfl, rfl⟩
    go_wp2
    go_ret
    exact ⟨_, rfl, by simp, fun l hl => by subst hl; exact pre_cut l, rfl⟩
  · rw [decide_eq_false hc] at HS
    have HC := hide hc
    clear hc
    go_enter Tryz.func179, Tryz.ntmps179
    go_wp2_with fail
    refine Calls.mono (unhide HS) ?_
    rintro e w1 ⟨rfl, rfl⟩
    go_wp2
    go_ret
    exact ⟨_, rfl, Nat.le_refl _, fun l hl => absurd ⟨by rw [hl, strB_size]; simp, by rw [hl]; exact pre_is l⟩ (unhide HC), rfl⟩
set_option maxRecDepth 100000 in
set_option maxHeartbeats 1000000 in
theorem trim_any (s : ByteArray) (w : World) (hs : s.size ≤ 140737488355328) :
    Calls Tryz.prog 129 #[.string s, .string ⟨#[115, 101, 103, 45]⟩] w fun e w' => ∃ t, e = .returned (.string t) ∧ t.size ≤ s.size ∧ (∀ l, s = strB ([115, 101, 103, 45] ++ l) → t = strB l) ∧ w' = w := by
  go_enter Tryz.func129, Tryz.ntmps129
  go_wp2_with fail
  refine Calls.mono (itrim_any s _ hs) ?_
  rintro e w1 ⟨t, rfl, h1, h2, rfl⟩
  have H1 := hide h1
  have H2 := hide h2
  clear h1 h2
  go_wp2
  go_ret
  exact ⟨t, rfl, unhide H1, unhide H2, rfl⟩
/-- ParseUint of any string. -/
theorem parse2_any (s : ByteArray) (w : World) (hs : s.size ≤ 140737488355328) (hv : VarsS w) :
    Calls Tryz.prog 128 #[.string s, .int .i64 10, .int .i64 64] w fun e w' => ∃ (u : Nat) (er : Value), e = .returned (.tuple #[.int .u64 u, er]) ∧ u < 18446744073709551616 ∧ (er = .nilIface ∨ ∃ t N, er = .iface t (.pointer (some ⟨N, 0, none⟩))) ∧ Kept [] w w' := by
  obtain ⟨_, ⟨t1, p1, h1⟩, t2, p2, h2⟩ := hv
  cases h : Lib.parseUintB 64 s.data.toList with
  | ok u =>
    refine (Tryz.strconv_ParseUint_10_at64_ok s (by omega) u h w).mono fun e w' hh => ⟨u, .nilIface, hh.1, by have := Lib.parseUintB_le h; omega, Or.inl rfl, ?_⟩
    rcases hh.2 with rfl | rfl
    · exact Kept.refl _ _
    · exact sbw_kept _ _ _
  | «syntax» =>
    refine (Tryz.strconv_ParseUint_10_at64_syntax_var s (by omega) h t1 p1 w h1).mono fun e w' hh => ?_
    obtain ⟨N, h3, _, _, h4⟩ := hh
    exact ⟨0, _, h3, by omega, Or.inr ⟨_, _, rfl⟩, Kept.ofBelow h4 (Nat.le_refl _)⟩
  | range =>
    refine (Tryz.strconv_ParseUint_10_at64_range_var s (by omega) h t2 p2 w h2).mono fun e w' hh => ?_
    obtain ⟨N, h3, _, _, h4⟩ := hh
    exact ⟨18446744073709551615, _, h3, by omega, Or.inr ⟨_, _, rfl⟩, Kept.ofBelow h4 (Nat.le_refl _)⟩
theorem str_ne {s t : ByteArray} (h : s ≠ t) : (s.toList == t.toList) = false := by
  rw [ba_toListS, ba_toListS]
  refine beq_eq_false_iff_ne.2 fun e => h ?_
  apply ByteArray.ext
  exact Array.toList_inj.1 e
set_option maxRecDepth 100000 in
set_option maxHeartbeats 1000000 in
theorem number_yes (u : Nat) (w : World) (hu : u < 18446744073709551616) (hv : VarsS w) :
    Calls Tryz.prog 83 #[.string (strB (nmL u))] w fun e w' => e = .returned (.tuple #[.int .u64 u, .int .i64 0]) ∧ Kept [] w w' := by
  have HV := hide hv
  have HSZ := hide (by rw [strB_size, nmL_len]; omega : (strB (nmL u)).size ≤ 140737488355328)
  have HT := hide (fun t (h : ∀ l, strB (nmL u) = strB ([115, 101, 103, 45] ++ l) → t = strB l) => h (dgs 20 u) rfl : ∀ t : ByteArray, (∀ l, strB (nmL u) = strB ([115, 101, 103, 45] ++ l) → t = strB l) → t = strB (dgs 20 u))
  have HP := hide (fun W => parse_any (dgs 20 u) W (by rw [dgs_len]; omega) (by rw [dgs_len]; omega) (dgs_dig 20 u) (by rw [dval_dgs, Nat.mod_eq_of_lt (by omega)]; exact hu))
  simp only [dval_dgs, Nat.mod_eq_of_lt (show u < 10 ^ 20 by omega)] at HP
  have HN := hide (fun W (h : VarsS W) => name_any u W hu h)
  obtain ⟨S, hS⟩ : ∃ S, strB (nmL u) = S := ⟨_, rfl⟩
  rw [hS] at HSZ HT HN ⊢
  have heq : (S.toList == S.toList) = true := by simp
  clear hS hv
  go_enter Tryz.func83, Tryz.ntmps83
  go_wp2_with fail
  refine Calls.mono (trim_any S _ (unhide HSZ)) ?_
  rintro e w1 ⟨t, rfl, _, h2, rfl⟩
  obtain rfl := unhide HT t h2
  clear h2
  go_wp2_with fail
  refine Calls.mono (unhide HP _) ?_
  rintro e w2 ⟨rfl, k2⟩
  have HK2 := hide k2
  clear k2
  go_wp2_with fail
  refine Calls.mono (unhide HN _ ((unhide HV).old (unhide HK2))) ?_
  rintro e w3 ⟨rfl, k3⟩
  have HK3 := hide ((unhide HK2).trans k3 (by simp))
  clear k3
  go_wp2
  go_ret2
  exact ⟨rfl, unhide HK3⟩
set_option maxRecDepth 100000 in
set_option maxHeartbeats 1000000 in
theorem number_no (s : ByteArray) (w : World) (hs : s.size ≤ 140737488355328) (h : ∀ u, u < 18446744073709551616 → s ≠ strB (nmL u)) (hv : VarsS w) :
    Calls Tryz.prog 83 #[.string s] w fun e w' => e = .returned (.tuple #[.int .u64 0, .int .i64 3]) ∧ Kept [] w w' := by
  have HV := hide hv
  have HH := hide h
  clear h hv
  go_enter Tryz.func83, Tryz.ntmps83
  go_wp2_with fail
  refine Calls.mono (trim_any s _ hs) ?_
  rintro e w1 ⟨t, rfl, h1, _, rfl⟩
  have H1 := hide h1
  clear h1
  go_wp2_with fail
  refine Calls.mono (parse2_any t _ (by have := unhide H1; omega) (unhide HV)) ?_
  rintro e w2 ⟨u, er, rfl, hu, her, k2⟩
  have HK2 := hide k2
  clear k2
  rcases her with rfl | ⟨t9, N9, rfl⟩
  · go_wp2_with fail
    refine Calls.mono (name_any u _ hu ((unhide HV).old (unhide HK2))) ?_
    rintro e w3 ⟨rfl, k3⟩
    have HK3 := hide ((unhide HK2).trans k3 (by simp))
    clear k3
    have hne := str_ne (fun e => unhide HH u hu e.symm)
    generalize strB (nmL u) = S at hne ⊢
    go_wp2
    go_ret2
    exact ⟨rfl, unhide HK3⟩
  · go_wp2
    go_ret2
    exact ⟨rfl, unhide HK2⟩
end Go.Proofs.YtejchncdimcdbaaGreatDoor
namespace Go.Proofs.YtejchncdimcdbaaGreatDoor
open Go.RowKit Go.BigFrame
set_option linter.unusedVariables false
set_option linter.unusedSimpArgs false

/-- One digit more, as DocNumber adds them up. -/
def stp (v c : Nat) : Nat := (10 * v + c + 18446744073709551568) % 18446744073709551616
theorem stp_lt (v c : Nat) : stp v c < 18446744073709551616 := by unfold stp; exact Nat.mod_lt _ (Nat.zero_lt_succ _)
theorem stp_dig {v c : Nat} (h : 48 ≤ c) (hl : v * 10 + (c - 48) < 18446744073709551616) : stp v c = v * 10 + (c - 48) := by unfold stp; omega
def dv (a : Nat) (m : List Nat) : Nat := m.foldl stp a
theorem dv_cons (a x : Nat) (r : List Nat) : dv a (x :: r) = dv (stp a x) r := by unfold dv; rw [List.foldl_cons]
theorem dv_lt (m : List Nat) : ∀ a, a < 18446744073709551616 → dv a m < 18446744073709551616 := by
  induction m with
  | nil => intro a h; exact h
  | cons x r ih => intro a h; rw [dv_cons]; exact ih _ (stp_lt _ _)
def fd (a : Nat) (m : List Nat) : Nat := m.foldl (fun a d => a * 10 + (d - 48)) a
theorem fd_cons (a x : Nat) (r : List Nat) : fd a (x :: r) = fd (a * 10 + (x - 48)) r := by unfold fd; rw [List.foldl_cons]
theorem fd_ge (m : List Nat) : ∀ a, a ≤ fd a m := by
  induction m with
  | nil => intro a; exact Nat.le_refl _
  | cons x r ih => intro a; rw [fd_cons]; exact Nat.le_trans (by omega) (ih _)
theorem dv_fold (m : List Nat) : ∀ a, (∀ x ∈ m, 48 ≤ x) → fd a m < 18446744073709551616 → dv a m = fd a m := by
  induction m with
  | nil => intro a _ _; unfold dv fd; rw [List.foldl_nil, List.foldl_nil]
  | cons x r ih =>
    intro a hx hl
    rw [fd_cons] at hl ⊢
    have h1 := fd_ge r (a * 10 + (x - 48))
    rw [dv_cons, stp_dig (hx x (by simp)) (Nat.lt_of_le_of_lt h1 hl)]
    exact ih _ (fun y hy => hx y (by simp [hy])) hl
theorem dv_name {u : Nat} (hu : u < 18446744073709551616) : dv 0 ((nmL u).drop 4) = u := by
  have h0 : (nmL u).drop 4 = dgs 20 u := by unfold nmL; simp
  have h1 : fd 0 (dgs 20 u) = u := by
    have h2 := dval_dgs 20 u
    rw [Nat.mod_eq_of_lt (Nat.lt_of_lt_of_le hu (by decide))] at h2
    exact h2
  rw [h0, dv_fold _ 0 (fun x hx => (dgs_dig 20 u x hx).1) (by rw [h1]; exact hu)]
  exact h1
end Go.Proofs.YtejchncdimcdbaaGreatDoor
