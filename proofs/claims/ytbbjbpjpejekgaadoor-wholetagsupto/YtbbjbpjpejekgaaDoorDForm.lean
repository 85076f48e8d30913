import Derived.Test.YtbbjbpjpejekgaaDoorDWr
import Derived.Deep.MidRow
namespace Go.Proofs.YtbbjbpjpejekgaaDoor
open Go.RowKit Go.BigFrame
set_option linter.unusedVariables false
set_option linter.unusedSimpArgs false

/-- The slice value v reads as the digests ds. -/
def RdD (w : World) (v : Value) (ds : List (List Nat)) : Prop :=
  ∃ (ao : Option Addr) (len cap : Nat), v = .slice ao len cap ∧ ds.length = len ∧ len ≤ cap ∧ cap ≤ 9223372036854775807 ∧ (∀ d ∈ ds, d.length = 32 ∧ ∀ x ∈ d, x < 256) ∧
    (0 < len → ∃ b off, ao = some ⟨b, off, none⟩ ∧ ∀ i, i < len → w.rangeAt b (off + i * 32) ((ds.getD i []).map u8))
theorem RdD.old {w0 w : World} {v : Value} {ds : List (List Nat)} (h : RdD w0 v ds) (k : Kept [] w0 w) : RdD w v ds := by
  obtain ⟨ao, len, cap, rfl, h1, h2, h3, h4, h5⟩ := h
  refine ⟨ao, len, cap, rfl, h1, h2, h3, h4, fun hp => ?_⟩
  obtain ⟨b, off, rfl, hc⟩ := h5 hp
  exact ⟨b, off, rfl, fun i hi j v hv => k.cell (hc i hi j v hv) (by simp)⟩

/-- What formed answers. -/
def formedE (z : Int) (ds : List (List Nat)) : Nat := if widthB z = false then 1 else if ds.all (formB z) then 0 else 3

set_option maxRecDepth 100000 in
set_option maxHeartbeats 1000000 in
theorem formed_any (z : Int) (v : Value) (ds : List (List Nat)) (w : World) (hz : -9223372036854775808 ≤ z ∧ z ≤ 9223372036854775807) (hv : RdD w v ds) :
    Calls Tryd.prog 63 #[.int .i64 z, v] w fun e w' => e = .returned (.int .i64 (formedE z ds)) ∧ Kept [] w w' := by
  obtain ⟨ao, len, cap, rfl, h1, h2, h3, h4, h5⟩ := hv
  have H4 := hide h4
  have H5 := hide h5
  clear h4 h5
  subst h1
  go_enter Tryd.func63, Tryd.ntmps63
  go_wp2_with fail
  refine Calls.mono (isWidth_any z _ hz) ?_
  rintro e w1 ⟨rfl, rfl⟩
  cases hw : widthB z with
  | false =>
    have HF := hide (by simp [formedE, hw] : formedE z ds = 1)
    clear hw
    go_wp2
    go_ret
    exact ⟨by rw [unhide HF]; rfl, Kept.refl _ _⟩
  | true =>
    have HW := hide hw
    clear hw
    go_wp2_with fail
    go_loopw [12] (fun t12 wr => ∃ (i : Nat), i ≤ ds.length ∧ t12 = .int .i64 i ∧ Hid ((ds.take i).all (formB z) = true) ∧ Hid (Kept [] w1 wr)) (fun t _ => ds.length - (intOf t).toNat)
    case atStart => exact ⟨0, Nat.zero_le _, rfl, hide (by simp), hide (Kept.refl _ _)⟩
    case round =>
      obtain ⟨i, hi, rfl, HA, HK⟩ := hrel
      by_cases hlt : i < ds.length
      · have hlt' : (i : Int) < ds.length := by omega
        obtain ⟨b, o, rfl, hcell⟩ := unhide H5 (by omega)
        have HD := hide (unhide H4 (ds.getD i []) (by rw [List.getD_eq_getElem?_getD, List.getElem?_eq_getElem hlt]; exact List.getElem_mem hlt))
        have HRG := hide (fun j v hv => (unhide HK).cell (hcell i hlt j v hv) (by simp) : wr.rangeAt b (o + i * 32) ((ds.getD i []).map u8))
        have HN := hide (by rw [List.take_succ_eq_append_getElem hlt, List.all_append, unhide HA, List.getD_eq_getElem?_getD, List.getElem?_eq_getElem hlt]; simp : (ds.take (i + 1)).all (formB z) = formB z (ds.getD i []))
        have HM := hide (fun (h : formB z (ds.getD i []) = false) => by
          have : ds.all (formB z) = false := by
            rw [List.all_eq_false]
            exact ⟨ds.getD i [], by rw [List.getD_eq_getElem?_getD, List.getElem?_eq_getElem hlt]; exact List.getElem_mem hlt, by rw [h]; decide⟩
          simp [formedE, unhide HW, this] : formB z (ds.getD i []) = false → formedE z ds = 3)
        clear hcell
        obtain ⟨d, hd⟩ : ∃ d, ds.getD i [] = d := ⟨_, rfl⟩
        rw [hd] at HD HRG HN HM
        clear hd
        have hdl := (unhide HD).1
        have HSZ := hide (by rw [brow_size, hdl]; exact Tryd.size_dig : (Tryd.prog.info? 26).map (·.size) = some (brow d).size)
        have HNW := hide (setRow_heap (wr.alloc (.cells (zb 32) 26)) wr.heap.size (zb 32) (brow d) 26 (0, 0) (heap_alloc_new _ _))
        have HKN := hide (((unhide HK).alloc (.cells (zb 32) 26)).setRow (g := wr.heap.size) (Or.inr (unhide HK).size) (brow d))
        go_wp2_with (first
          | (refine wpList_load_mid rfl 26 (.tmp 14) rfl b (o + i * 32) rfl (d.map u8) _ (unhide HRG) Tryd.underlying26 rfl (by rw [List.length_map, hdl]; exact Tryd.size_dig) ?_)
          | (rw [zb32]; refine wpList_store_row rfl 26 (.tmp 6) _ rfl wr.heap.size (brow d) rfl rfl _ (zb 32) (heap_alloc_new _ _) (unhide HSZ) (by rw [zb_size, brow_size, hdl]) (brow_one _) ?_)
          | (refine wpList_load_row rfl 26 (.tmp 6) rfl wr.heap.size rfl _ (brow d) (0, 0) _ (unhide HNW) Tryd.underlying26 rfl (unhide HSZ) ?_))
        refine Calls.mono (form_any z d _ hz hdl (unhide HD).2) ?_
        rintro e w4 ⟨rfl, k4⟩
        have HK4 := hide ((unhide HKN).trans k4 (by simp))
        clear k4
        cases hf : formB z d with
        | true =>
          rw [hf] at HN
          clear hf
          go_wp2
          go_roundw
          case rel => exact ⟨i + 1, by omega, by go_num, HN, HK4⟩
          case measure => simp [intOf]; omega
        | false =>
          have HF := hide (unhide HM hf)
          clear hf
          go_wp2
          go_ret
          exact ⟨by rw [unhide HF]; rfl, unhide HK4⟩
      · have hlt' : ¬ (i : Int) < ds.length := by omega
        have hie : i = ds.length := by omega
        subst hie
        rw [List.take_length] at HA
        have HF := hide (by simp [formedE, unhide HW, unhide HA] : formedE z ds = 0)
        go_wp2
        go_ret
        exact ⟨by rw [unhide HF]; rfl, unhide HK⟩
end Go.Proofs.YtbbjbpjpejekgaaDoor
