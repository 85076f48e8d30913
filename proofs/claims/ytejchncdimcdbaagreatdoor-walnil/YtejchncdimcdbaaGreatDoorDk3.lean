import Derived.Test.YtejchncdimcdbaaGreatDoorDk2
namespace Go.Proofs.YtejchncdimcdbaaGreatDoor
open Go.RowKit Go.BigFrame
set_option linter.unusedVariables false
set_option linter.unusedSimpArgs false

/-- A file: its block, its name, its bytes' slice and what they are, how many of them are durable, whether its name is. -/
structure DFile where
  g : Nat
  nm : ByteArray
  v : Value
  bs : List Nat
  sy : Nat
  nd : Bool
def look (fs : List DFile) (s : List UInt8) : Option Nat := (fs.find? fun f => f.nm.data.toList == s).map (·.g)
def ptrO (o : Option Nat) : Value := .pointer (o.map fun g => ⟨g, 0, none⟩)
def unN (fs : List DFile) : List Value := (fs.filter fun f => !f.nd).map fun f => .pointer (some ⟨f.g, 0, none⟩)
def FileAt (w : World) (f : DFile) : Prop :=
  w.heap[f.g]? = some (.cells #[.string f.nm, f.v, .int .i64 f.sy, .bool f.nd] 106 (0, 0)) ∧ w.ownsRow 0 5 1 f.v f.bs.length (f.bs.map u8) ∧ (∀ x ∈ f.bs, x < 256) ∧ f.sy ≤ f.bs.length
/-- The disk's own cells. -/
def DRow (w : World) (d : Nat) (sec : Int) (m : Value) (u fv : Value) (cr op : Int) (off : Bool) : Prop :=
  w.heap[d]? = some (.cells #[.int .i64 sec, m, u, fv, .int .i64 cr, .int .i64 op, .bool off] 101 (0, 0))
/-- The map from names to files. -/
def DMap (w : World) (m N : Nat) (fs : List DFile) : Prop := ∃ (n : Nat) (D : DataW Unit), w.ownsMap Tryz.prog 9 ptrElem m n D ∧ n ≤ N ∧ MapIs D (look fs)
theorem keyS : Maps.Keyed Tryz.prog 9 := Maps.string_keyed Tryz.underlying9
theorem zeroPF (w : World) : (zeroValue 103).run Tryz.prog w = .ok (.pointer none) w := by kernel_rfl
theorem eqMS (m : Nat) (w : World) : (binOp .eql 97 (.map (some m)) (.map none)).run Tryz.prog w = .ok (.bool false) w := by kernel_rfl
set_option maxRecDepth 100000 in
set_option maxHeartbeats 1000000 in
theorem dnone_any (d : Nat) (w : World) (sec : Int) (m : Nat) (u fv : Value) (cr op : Int) (off : Bool) (h : DRow w d sec (.map (some m)) u fv cr op off) :
    Calls Tryz.prog 65 #[.pointer (some ⟨d, 0, none⟩)] w fun e w' => e = .returned (.bool false) ∧ w' = w := by
  unfold DRow at h
  have c1 := cell_of_row _ _ 1 _ _ _ h
  simp at c1
  clear h
  have hq := fun w => eqMS m w
  go_enter Tryz.func65, Tryz.ntmps65
  go_wp2
  go_ret
  exact ⟨rfl, rfl⟩
set_option maxRecDepth 100000 in
set_option maxHeartbeats 1000000 in
theorem power_any (d : Nat) (w : World) (sec : Int) (m : Nat) (u fv : Value) (cr op : Int) (off : Bool) (h : DRow w d sec (.map (some m)) u fv cr op off) :
    Calls Tryz.prog 68 #[.pointer (some ⟨d, 0, none⟩)] w fun e w' => e = .returned (.int .i64 (if off then 12 else 0)) ∧ w' = w := by
  have H0 := hide h
  unfold DRow at h
  have c1 := cell_of_row _ _ 6 _ _ _ h
  simp at c1
  clear h
  go_enter Tryz.func68, Tryz.ntmps68
  go_wp2_with fail
  refine Calls.mono (dnone_any d w sec m u fv cr op off (unhide H0)) ?_
  rintro e w1 ⟨rfl, rfl⟩
  cases off
  · go_wp2
    go_ret
    exact ⟨rfl, rfl⟩
  · go_wp2
    go_ret
    exact ⟨rfl, rfl⟩
set_option maxRecDepth 100000 in
set_option maxHeartbeats 1000000 in
theorem dfind_any (d : Nat) (s : ByteArray) (w : World) (sec : Int) (m N : Nat) (u fv : Value) (cr op : Int) (off : Bool) (fs : List DFile) (h : DRow w d sec (.map (some m)) u fv cr op off) (hm : DMap w m N fs) (hs : s.size ≤ 140737488355328) :
    Calls Tryz.prog 69 #[.pointer (some ⟨d, 0, none⟩), .string s] w fun e w' => e = .returned (.tuple #[ptrO (look fs s.data.toList), .int .i64 (if (look fs s.data.toList).isSome then 0 else 5)]) ∧ w' = w := by
  unfold DRow at h
  have c1 := cell_of_row _ _ 1 _ _ _ h
  simp at c1
  clear h
  obtain ⟨n, D, hown, hn, hD⟩ := hm
  have HO := hide hown
  have HD := hide hD
  have HK := hide (WideMaps.keyOf_string_mk Tryz.underlying9 (s := s) (by unfold maxLen; omega))
  clear hown hn hD
  cases hL : look fs s.data.toList with
  | none =>
    have HL := hide hL
    clear hL
    go_enter Tryz.func69, Tryz.ntmps69
    go_wp2_with (at_lookup; refine wpList_lookup_none _ rfl _ _ 97 rfl 9 103 keyS Tryz.underlying97 (zeroPF _) m n D (look fs) rfl (unhide HO) (unhide HD) _ _ rfl (unhide HK) (unhide HL) ?_)
    go_ret2
    exact ⟨rfl, rfl⟩
  | some g =>
    have HL := hide hL
    clear hL
    go_enter Tryz.func69, Tryz.ntmps69
    go_wp2_with (at_lookup; refine wpList_lookup_some _ rfl _ _ 97 rfl 9 103 keyS Tryz.underlying97 (zeroPF _) m n D (look fs) rfl (unhide HO) (unhide HD) _ _ rfl (unhide HK) g (unhide HL) ?_)
    go_ret2
    exact ⟨rfl, rfl⟩
end Go.Proofs.YtejchncdimcdbaaGreatDoor
