import Derived.Test.YtejchncdimcdbaaGreatDoorWAll
import Derived.Test.YtejchncdimcdbaaGreatDoorJoin
namespace Go.Proofs.YtejchncdimcdbaaGreatDoor
open Go.RowKit
set_option linter.unusedVariables false
set_option linter.unusedSimpArgs false

theorem WrAt.new (w : World) : WrAt (w.alloc (.cells #[.slice none 0 0] 236)) w.heap.size (.slice none 0 0) [] :=
  ⟨heap_alloc_new w _, World.ownsRow_nil _ _ _ _, by simp⟩
set_option maxRecDepth 100000 in
theorem wu8_any (b : Nat) (v : Value) (bs : List Nat) (x : Nat) (w : World) (hw : WrAt w b v bs) (hx : x < 256) (hl : bs.length + 8 ≤ 140737488355328) :
    Calls Tryz.prog 148 #[.pointer (some ⟨b, 0, none⟩), .int .u8 x] w fun e w' => e = .returned (.tuple #[]) ∧ ∃ v', WrAt w' b v' (bs ++ wide x 1) ∧ Grew b v v' w w' := by
  have HW := hide hw
  clear hw
  go_enter Tryz.func148, Tryz.ntmps148
  go_wp2_with (go_at_call 192; go_must (refine (wnumber_any b v bs x 1 _ (unhide HW) (by omega) hl).mono ?_; rintro e w1 ⟨rfl, hk⟩; have HK := hide hk; clear hk))
  go_end0
  exact ⟨rfl, unhide HK⟩
set_option maxRecDepth 100000 in
theorem wu32_any (b : Nat) (v : Value) (bs : List Nat) (x : Nat) (w : World) (hw : WrAt w b v bs) (hx : x < 4294967296) (hl : bs.length + 8 ≤ 140737488355328) :
    Calls Tryz.prog 149 #[.pointer (some ⟨b, 0, none⟩), .int .u32 x] w fun e w' => e = .returned (.tuple #[]) ∧ ∃ v', WrAt w' b v' (bs ++ wide x 4) ∧ Grew b v v' w w' := by
  have HW := hide hw
  clear hw
  go_enter Tryz.func149, Tryz.ntmps149
  go_wp2_with (go_at_call 192; go_must (refine (wnumber_any b v bs x 4 _ (unhide HW) (by omega) hl).mono ?_; rintro e w1 ⟨rfl, hk⟩; have HK := hide hk; clear hk))
  go_end0
  exact ⟨rfl, unhide HK⟩
set_option maxRecDepth 100000 in
theorem wu64_any (b : Nat) (v : Value) (bs : List Nat) (x : Nat) (w : World) (hw : WrAt w b v bs) (hl : bs.length + 8 ≤ 140737488355328) :
    Calls Tryz.prog 150 #[.pointer (some ⟨b, 0, none⟩), .int .u64 x] w fun e w' => e = .returned (.tuple #[]) ∧ ∃ v', WrAt w' b v' (bs ++ wide x 8) ∧ Grew b v v' w w' := by
  have HW := hide hw
  clear hw
  go_enter Tryz.func150, Tryz.ntmps150
  go_wp2_with (go_at_call 192; go_must (refine (wnumber_any b v bs x 8 _ (unhide HW) (by omega) hl).mono ?_; rintro e w1 ⟨rfl, hk⟩; have HK := hide hk; clear hk))
  go_end0
  exact ⟨rfl, unhide HK⟩
/-- The value v is the list bs, in memory that was not there in w. -/
def NewB (w w' : World) (v : Value) (bs : List Nat) : Prop :=
  Rd w' v bs ∧ ((bs = [] ∧ v = .slice none 0 0) ∨ ∃ g, v = .slice (some ⟨g, 0, none⟩) bs.length bs.length ∧ w.heap.size ≤ g ∧ w'.heap[g]? = some (.cells (bs.map u8).toArray 5 (0, 0)))
theorem NewB.weak {w0 w w' : World} {v : Value} {bs : List Nat} (h : NewB w w' v bs) (k : w0.heap.size ≤ w.heap.size) : NewB w0 w' v bs :=
  ⟨h.1, h.2.imp id fun ⟨g, h1, h2, h3⟩ => ⟨g, h1, Nat.le_trans k h2, h3⟩⟩
theorem NewB.nil (w w' : World) : NewB w w' (.slice none 0 0) [] := ⟨Rd.nil _, Or.inl ⟨rfl, rfl⟩⟩
theorem NewB.mk {w w' : World} {g : Nat} {bs : List Nat} (hg : w.heap.size ≤ g) (h : w'.heap[g]? = some (.cells (bs.map u8).toArray 5 (0, 0))) (hb : ∀ x ∈ bs, x < 256) (hl : bs.length ≤ 140737488355328) : NewB w w' (.slice (some ⟨g, 0, none⟩) bs.length bs.length) bs :=
  ⟨rd_fresh h hb hl, Or.inr ⟨g, rfl, hg, h⟩⟩
/-- A Writer that is new since w0. -/
structure Wn (w0 w : World) (b : Nat) (v : Value) (bs : List Nat) : Prop where
  at_ : WrAt w b v bs
  new : ∀ g, v.ownBlock = some g → w0.heap.size ≤ g
  hb : w0.heap.size ≤ b
  kept : Kept [] w0 w
theorem Wn.grew {w0 w w' : World} {b : Nat} {v v' : Value} {bs bs' : List Nat} (h : Wn w0 w b v bs) (hw : WrAt w' b v' bs') (g : Grew b v v' w w') : Wn w0 w' b v' bs' :=
  ⟨hw, g.fresh h.new h.kept.size, h.hb, g.keptNil h.kept h.hb h.new⟩
theorem Wn.start {w0 w : World} (k : Kept [] w0 w) : Wn w0 (w.alloc (.cells #[.slice none 0 0] 236)) w.heap.size (.slice none 0 0) [] :=
  ⟨WrAt.new w, by intro g hg; simp [Value.ownBlock] at hg, k.size, k.alloc _⟩
theorem Wn.rd {w0 w w' : World} {b : Nat} {v : Value} {bs : List Nat} (h : Wn w0 w b v bs) {pv : Value} {p : List Nat} (hr : Rd w0 pv p) (k : Kept (b :: v.ownBlock.toList) w w') : Rd w' pv p := by
  have k2 : Kept (b :: v.ownBlock.toList) w0 w' := (h.kept.mono (by simp)).trans k (fun x hx => Or.inl hx)
  refine hr.old k2 (fun x hx => ?_)
  rcases List.mem_cons.1 hx with rfl | hx
  · exact h.hb
  · exact h.new x (by simpa [Option.mem_toList] using hx)
theorem wn_u8 {w0 w : World} {b : Nat} {v : Value} {bs : List Nat} (x : Nat) (h : Wn w0 w b v bs) (hx : x < 256) (hl : bs.length + 8 ≤ 140737488355328) :
    Calls Tryz.prog 148 #[.pointer (some ⟨b, 0, none⟩), .int .u8 x] w fun e w' => e = .returned (.tuple #[]) ∧ ∃ v', Wn w0 w' b v' (bs ++ wide x 1) :=
  (wu8_any b v bs x w h.at_ hx hl).mono fun e w' ⟨he, v', h1, h2⟩ => ⟨he, v', h.grew h1 h2⟩
theorem wn_u32 {w0 w : World} {b : Nat} {v : Value} {bs : List Nat} (x : Nat) (h : Wn w0 w b v bs) (hx : x < 4294967296) (hl : bs.length + 8 ≤ 140737488355328) :
    Calls Tryz.prog 149 #[.pointer (some ⟨b, 0, none⟩), .int .u32 x] w fun e w' => e = .returned (.tuple #[]) ∧ ∃ v', Wn w0 w' b v' (bs ++ wide x 4) :=
  (wu32_any b v bs x w h.at_ hx hl).mono fun e w' ⟨he, v', h1, h2⟩ => ⟨he, v', h.grew h1 h2⟩
theorem wn_u64 {w0 w : World} {b : Nat} {v : Value} {bs : List Nat} (x : Nat) (h : Wn w0 w b v bs) (hl : bs.length + 8 ≤ 140737488355328) :
    Calls Tryz.prog 150 #[.pointer (some ⟨b, 0, none⟩), .int .u64 x] w fun e w' => e = .returned (.tuple #[]) ∧ ∃ v', Wn w0 w' b v' (bs ++ wide x 8) :=
  (wu64_any b v bs x w h.at_ hl).mono fun e w' ⟨he, v', h1, h2⟩ => ⟨he, v', h.grew h1 h2⟩
theorem wn_raw {w0 w : World} {b : Nat} {v pv : Value} {bs p : List Nat} (h : Wn w0 w b v bs) (hr : Rd w pv p) (hl : bs.length + p.length ≤ 140737488355328) :
    Calls Tryz.prog 152 #[.pointer (some ⟨b, 0, none⟩), pv] w fun e w' => e = .returned (.tuple #[]) ∧ ∃ v', Wn w0 w' b v' (bs ++ p) :=
  (wraw_any b v pv bs p w h.at_ hr hl).mono fun e w' ⟨he, v', h1, h2⟩ => ⟨he, v', h.grew h1 h2⟩
theorem wn_uvar {w0 w : World} {b : Nat} {v : Value} {bs : List Nat} (x : Nat) (h : Wn w0 w b v bs) (hx : x < 18446744073709551616) (hl : bs.length + 10 ≤ 140737488355328) :
    Calls Tryz.prog 145 #[.pointer (some ⟨b, 0, none⟩), .int .u64 x] w fun e w' => e = .returned (.tuple #[]) ∧ ∃ v', Wn w0 w' b v' (bs ++ uv x) :=
  (wuvar_any b v bs x w h.at_ hx hl).mono fun e w' ⟨he, v', h1, h2⟩ => ⟨he, v', h.grew h1 h2⟩
theorem wn_blob {w0 w : World} {b : Nat} {v pv : Value} {bs p : List Nat} (h : Wn w0 w b v bs) (hr : Rd w0 pv p) (hl : bs.length + 10 + p.length ≤ 140737488355328) :
    Calls Tryz.prog 190 #[.pointer (some ⟨b, 0, none⟩), pv] w fun e w' => e = .returned (.tuple #[]) ∧ ∃ v', Wn w0 w' b v' (bs ++ (uv p.length ++ p)) :=
  (wblob_any b v pv bs p w h.at_ (fun w' k => h.rd hr k) hl).mono fun e w' ⟨he, v', h1, h2⟩ => ⟨he, v', h.grew h1 h2⟩
theorem wn_bytes {w0 w : World} {b : Nat} {v : Value} {bs : List Nat} (h : Wn w0 w b v bs) (hl : bs.length ≤ 140737488355328) :
    Calls Tryz.prog 147 #[.pointer (some ⟨b, 0, none⟩)] w fun e w' => ∃ v', e = .returned v' ∧ NewB w0 w' v' bs ∧ Kept [] w0 w' :=
  (wbytes_any b v bs w h.at_ hl).mono fun e w' ⟨he, k, h1⟩ => ⟨_, he, NewB.mk h.kept.size h1 h.at_.byte hl, h.kept.trans k (by simp)⟩
end Go.Proofs.YtejchncdimcdbaaGreatDoor
