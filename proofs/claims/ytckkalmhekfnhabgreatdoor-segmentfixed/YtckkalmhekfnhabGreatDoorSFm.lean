import Derived.Test.YtckkalmhekfnhabGreatDoorShelf
import Derived.Test.YtckkalmhekfnhabGreatDoorSDg
import Derived.Test.YtckkalmhekfnhabGreatDoorTSame
import Derived.Lib.AppendIntMem
import Derived.Lib.ParseIntBCases
namespace Go.Proofs.YtckkalmhekfnhabGreatDoor
open Go.RowKit Go.BigFrame
set_option linter.unusedVariables false
set_option linter.unusedSimpArgs false

/-- What the library's variables hold. -/
def VarsS (w : World) : Prop := Lib.TabIs Tryz.prog w "internal/strconv.uint64pow10" .u64 Lib.pow10Tab ∧ (∃ tp p, w.var? Tryz.prog "strconv.ErrSyntax" = some #[.iface tp p]) ∧ ∃ tp p, w.var? Tryz.prog "strconv.ErrRange" = some #[.iface tp p]
theorem var_kept {P : Program} {w w' : World} {n : String} {cs : Array Value} (h : w.var? P n = some cs) (k : Kept [] w w') : w'.var? P n = some cs := by
  unfold World.var? at h ⊢
  cases hg : P.globalNamed n with
  | none => rw [hg] at h; simp at h
  | some g =>
    rw [hg] at h
    simp only [Option.bind_some] at h ⊢
    cases hb : w.heap[g]? with
    | none => rw [hb] at h; simp at h
    | some o => rw [k.heap hb (by simp)]; rw [hb] at h; exact h
theorem VarsS.old {w w' : World} (h : VarsS w) (k : Kept [] w w') : VarsS w' := by
  obtain ⟨h1, ⟨t1, p1, h2⟩, t2, p2, h3⟩ := h
  exact ⟨var_kept h1 k, ⟨t1, p1, var_kept h2 k⟩, t2, p2, var_kept h3 k⟩

theorem putRow_kept {α : Type} [Inhabited α] (enc : α → Value) (w : World) (blk off : Nat) (d : Array α) : Kept [blk] w (Go.Sort.putRow enc w blk off d) := by
  refine ⟨rfl, rfl, rfl, by simp [Go.Sort.putRow, Go.Sort.mapBlock], fun k hk hn => ?_⟩
  simp only [List.mem_singleton] at hn
  simp only [Go.Sort.putRow, Go.Sort.mapBlock, Array.getElem?_modify]
  rw [if_neg (fun h => hn h.symm)]

set_option maxRecDepth 100000 in
set_option maxHeartbeats 2000000 in
theorem ifmtU_any (u : Nat) (w : World) (hu : u < 18446744073709551616) (hv : VarsS w) :
    Calls Tryz.prog 50 #[.int .u64 u, .int .i64 10] w fun e w' => e = .returned (.string (strB (dgs (Lib.nDigits u) u))) ∧ Kept [] w w' := by
  have HV := hide hv
  have HD := hide (strB_dec u)
  clear hv
  by_cases hs : u < 100
  · have hw : IntKind.i64.wrap (u : Int) = (u : Int) := by simp [IntKind.wrap, IntKind.signed, IntKind.bits]; omega
    have hlt : (u : Int) < 100 := by omega
    go_enter Tryz.func50, Tryz.ntmps50
    go_wp2_with fail
    refine Calls.mono (Tryz.internal_strconv_small u hs _) ?_
    rintro e w1 ⟨rfl, rfl⟩
    go_wp2
    go_ret
    exact ⟨by rw [← unhide HD]; rfl, Kept.refl _ _⟩
  · have hlt : ¬ (u : Int) < 100 := by omega
    have HN := hide (by have := Lib.numDigits_eq u (by omega) hu; split at this <;> omega : Lib.nDigits u ≤ 20)
    have HP := hide (Lib.lt_pow_nDigits u)
    obtain ⟨nd, hnd⟩ : ∃ nd, Lib.nDigits u = nd := ⟨_, rfl⟩
    have HNum := hide (fun W (hW : VarsS W) => Tryz.internal_strconv_numDigits u (by omega) hu W hW.1)
    simp only [hnd] at HNum
    rw [hnd] at HN HP ⊢
    clear hnd HD
    have HK0 := hide ((Kept.refl [] w).alloc (.cells Lib.zeros24 150))
    have hn24 : (nd : Int) ≤ 24 := by have := unhide HN; omega
    go_enter Tryz.func50, Tryz.ntmps50
    go_wp2_with fail
    refine Calls.mono (unhide HNum _ ((unhide HV).old (unhide HK0))) ?_
    rintro e w1 ⟨rfl, rfl⟩
    have hH0 := Lib.holds_zero0 w 150 nd (by have := unhide HN; omega)
    have hfmt := Tryz.internal_strconv_formatBase10 w.heap.size 0 24 u (Array.replicate nd 0) (w.alloc (.cells Lib.zeros24 150)) hH0 (by rw [Array.size_replicate]; exact unhide HP) hu (by rw [Array.size_replicate]; have := unhide HN; omega)
    rw [Array.size_replicate] at hfmt
    have HH0 := hide hH0
    have HF := hide hfmt
    clear hH0 hfmt HNum
    go_wp2_with fail
    refine Calls.mono (unhide HF) ?_
    rintro e w2 ⟨rfl, n2, v2, dk, rfl, hinv⟩
    have HI := hide hinv
    clear hinv HF
    have hR : Rd ((Go.Sort.putRow (fun (b : UInt8) => Value.int .u8 (b.toNat : Int)) (w.alloc (.cells Lib.zeros24 150)) w.heap.size 0 dk).drewN n2) (.slice (some ⟨w.heap.size, 0, none⟩) nd 24) (dgs nd u) := by
      have hh := Go.Sort.holds_putRow (fun (b : UInt8) => Value.int .u8 (b.toNat : Int)) (w.alloc (.cells Lib.zeros24 150)) w.heap.size 0 (Array.replicate nd 0) dk (unhide HH0) (by rw [(unhide HI).size, Array.size_replicate])
      refine ⟨_, _, _, rfl, dgs_len nd u, by have := unhide HN; omega, ⟨by omega, by have := unhide HN; omega⟩, by simp, dgs_byte nd u, fun _ => ⟨w.heap.size, 0, rfl, fun i hi => ?_⟩⟩
      have h1 := (hh i (by rw [(unhide HI).size]; exact hi)).1
      have h2 := (unhide HI).done i (Nat.zero_le _) hi
      rw [h2] at h1
      refine (show _ = _ from h1).trans ?_
      have h3 : (dgs nd u).getD i 0 = 48 + u / 10 ^ (nd - 1 - i) % 10 := by simp [dgs, List.getD_eq_getElem?_getD, hi]
      rw [h3]
      have h4 : 48 + u / 10 ^ (nd - 1 - i) % 10 < 256 := by omega
      simp [Lib.dg, u8, Nat.mod_eq_of_lt h4]
    have hk : Kept [] w ((Go.Sort.putRow (fun (b : UInt8) => Value.int .u8 (b.toNat : Int)) (w.alloc (.cells Lib.zeros24 150)) w.heap.size 0 dk).drewN n2) := by
      refine ((unhide HK0).trans (M := [w.heap.size]) (c := Go.Sort.putRow (fun (b : UInt8) => Value.int .u8 (b.toNat : Int)) (w.alloc (.cells Lib.zeros24 150)) w.heap.size 0 dk) ?_ (by simp)).drewN n2
      exact putRow_kept _ _ _ _ _
    have HK2 := hide hk
    have hu5 : Tryz.prog.underlying 5 = some (.int .u8) := by kernel_rfl
    have hu9 : Tryz.prog.underlying 9 = some .string := by kernel_rfl
    have hc := conv_any _ _ _ hR hu5 hu9
    obtain ⟨W2, hW2⟩ : ∃ W2, (Go.Sort.putRow (fun (b : UInt8) => Value.int .u8 (b.toNat : Int)) (w.alloc (.cells Lib.zeros24 150)) w.heap.size 0 dk).drewN n2 = W2 := ⟨_, rfl⟩
    rw [hW2] at hc HK2 ⊢
    clear hW2 hR hk HH0 HI
    go_wp2
    go_ret
    exact ⟨rfl, unhide HK2⟩
end Go.Proofs.YtckkalmhekfnhabGreatDoor
