import Derived.Test.YtlopdlcepmmjdaaDkI
import Derived.Test.YtlopdlcepmmjdaaOpenK
import Derived.Sort.Walk0
import Derived.Test.YtlopdlcepmmjdaaRowz
import Derived.Deep.RegionHeld3
import Derived.Test.YtlopdlcepmmjdaaDk25
import Derived.Test.YtlopdlcepmmjdaaDkE
import Derived.Test.YtlopdlcepmmjdaaDkF
namespace Go.Proofs.Ytlopdlcepmmjdaa
open Go.RowKit Go.BigFrame Go.Maps Go.Sort
set_option linter.unusedVariables false
set_option linter.unusedSimpArgs false

theorem ba_loopS (s : ByteArray) : ∀ n i r, s.size - i = n → ByteArray.toList.loop s i r = r.reverse ++ s.data.toList.drop i := by
  intro n
  induction n with
  | zero =>
    intro i r h
    rw [ByteArray.toList.loop]
    have h1 : s.size = s.data.toList.length := (Array.length_toList).symm
    rw [if_neg (by omega), List.drop_eq_nil_of_le (by omega), List.append_nil]
  | succ n ih =>
    intro i r h
    rw [ByteArray.toList.loop]
    have h1 : s.size = s.data.toList.length := (Array.length_toList).symm
    have h2 : i < s.data.toList.length := by omega
    rw [if_pos (by omega), ih (i + 1) _ (by omega), List.drop_eq_getElem_cons h2]
    have h3 : s.get! i = s.data.toList[i] := by
      have h4 : i < s.data.size := by simpa using h2
      rw [Array.getElem_toList]
      exact getElem!_pos s.data i h4
    simp [h3]
theorem ba_toListS (s : ByteArray) : s.toList = s.data.toList := by
  unfold ByteArray.toList
  rw [ba_loopS s _ 0 [] rfl]
  simp
theorem less_str (a b : ByteArray) : Op.bytesLess a.toList b.toList = decide (a.data.toList < b.data.toList) := by
  rw [bytesLess_eq, ba_toListS, ba_toListS]
/-- One file of a list that can be a disk's. -/
def okF (l : List IFile) (i : Nat) (h : i < l.length) : Prop := isNm l[i].nm = true ∧ 0 ≤ l[i].sy ∧ l[i].sy ≤ l[i].bs.length ∧ ∀ hp : 0 < i, l[i - 1].nm.data.toList < l[i].nm.data.toList
def FormedL (l : List IFile) : Prop := ∀ i (h : i < l.length), okF l i h
def okB (l : List IFile) (i : Nat) : Bool := isNm (l.getD i default).nm && decide (0 ≤ (l.getD i default).sy) && decide ((l.getD i default).sy ≤ (l.getD i default).bs.length) && (i == 0 || decide ((l.getD (i - 1) default).nm.data.toList < (l.getD i default).nm.data.toList))
def formedB (l : List IFile) : Bool := (List.range l.length).all (okB l)
theorem okB_iff {l : List IFile} {i : Nat} (h : i < l.length) : okB l i = true ↔ okF l i h := by
  unfold okB okF
  rw [List.getD_eq_getElem?_getD, List.getElem?_eq_getElem h, Option.getD_some]
  by_cases hp : 0 < i
  · rw [List.getD_eq_getElem?_getD, List.getElem?_eq_getElem (show i - 1 < l.length by omega), Option.getD_some]
    have h0 : (i == 0) = false := by simp; omega
    simp only [h0, Bool.false_or, Bool.and_eq_true, decide_eq_true_eq]
    constructor
    · rintro ⟨⟨⟨a, b⟩, c⟩, d⟩; exact ⟨a, b, c, fun _ => d⟩
    · rintro ⟨a, b, c, d⟩; exact ⟨⟨⟨a, b⟩, c⟩, d hp⟩
  · have h0 : (i == 0) = true := by simp; omega
    simp only [h0, Bool.true_or, Bool.and_eq_true, decide_eq_true_eq, and_true]
    constructor
    · rintro ⟨⟨a, b⟩, c⟩; exact ⟨a, b, c, fun h9 => absurd h9 hp⟩
    · rintro ⟨a, b, c, d⟩; exact ⟨⟨a, b⟩, c⟩
theorem formedB_iff (l : List IFile) : formedB l = true ↔ FormedL l := by
  unfold formedB
  rw [List.all_eq_true]
  constructor
  · intro h i hi
    exact (okB_iff hi).1 (h i (List.mem_range.2 hi))
  · intro h i hi
    exact (okB_iff (List.mem_range.1 hi)).2 (h i (List.mem_range.1 hi))
theorem formedB_no {l : List IFile} (h : ¬ FormedL l) : formedB l = false := by
  cases h1 : formedB l
  · rfl
  · exact absurd ((formedB_iff l).1 h1) h

set_option maxRecDepth 100000 in
set_option maxHeartbeats 2000000 in
theorem formed_any (v : Value) (l : List IFile) (w : World) (h : RdC 4 w v (l.map ifC)) (ho : ∀ f ∈ l, OkIf w f) (hl : l.length ≤ 1048576) :
    Calls Try.prog 34 #[v] w fun e w' => e = .returned (.bool (formedB l)) ∧ Kept [] w w' := by
  obtain ⟨ao, len, cap, rfl, h1, h2, h3, h4⟩ := h
  rw [List.length_map] at h1
  subst h1
  have H4 := hide h4
  have HO := hide ho
  clear h4 ho
  go_enter Try.func34, Try.ntmps34
  go_wp2_with fail
  go_loopw [7] (fun t7 wr => ∃ i : Nat, i ≤ l.length ∧ t7 = .int .i64 i ∧ Hid (∀ j (hj : j < l.length), j < i → okF l j hj) ∧ Hid (Kept [] w wr)) (fun t _ => l.length - (intOf t).toNat)
  case atStart => exact ⟨0, Nat.zero_le _, rfl, hide (fun j hj h => by omega), hide (Kept.refl _ _)⟩
  case round =>
    obtain ⟨i, hi, rfl, HA, HK⟩ := hrel
    by_cases hlt : i < l.length
    · have hlt' : (i : Int) < l.length := by omega
      obtain ⟨b, off, rfl, hcc⟩ := unhide H4 (by omega)
      have hr := hcc i (by rw [List.length_map]; exact hlt)
      rw [List.getElem_map] at hr
      have p0 := (unhide HK).cell (hr 0 _ rfl) (by simp)
      have p1 := (unhide HK).cell (hr 1 _ rfl) (by simp)
      have p2 := (unhide HK).cell (hr 2 _ rfl) (by simp)
      have p3 := (unhide HK).cell (hr 3 _ rfl) (by simp)
      rw [Nat.add_zero] at p0
      have hof := unhide HO l[i] (List.getElem_mem hlt)
      have HPR := hide (fun (hp : 0 < i) => by
        have h9 := hcc (i - 1) (by rw [List.length_map]; omega)
        rw [List.getElem_map] at h9
        exact h9 0 _ rfl : ∀ hp : 0 < i, w.cell? ⟨b, off + (i - 1) * 4 + 0, none⟩ = some (.string l[i - 1].nm))
      have HOK : Hid (isNm l[i].nm = true → 0 ≤ l[i].sy → l[i].sy ≤ l[i].bs.length → (∀ hp : 0 < i, l[i - 1].nm.data.toList < l[i].nm.data.toList) → okF l i hlt) := hide (fun a1 a2 a3 a4 => ⟨a1, a2, a3, a4⟩)
      have HNO := hide (fun (hf : FormedL l) => hf i hlt)
      unfold okF at HNO
      clear hr hcc
      obtain ⟨va, vl, vc, hv⟩ := (show ∃ va vl vc, l[i].v = .slice va vl vc by obtain ⟨a, b, c, h9, _⟩ := hof.1; exact ⟨a, b, c, h9⟩)
      have hvl : vl = l[i].bs.length := by
        obtain ⟨a, b, c, h9, h10, _⟩ := hof.1
        rw [hv] at h9
        injection h9 with _ h9 _
        rw [h9, h10]
      have hnl := hof.2.1
      rw [hv] at p1
      generalize hX : l[i] = X at *
      subst hvl
      clear hof hX
      go_upto_region 4 with fail
      have HK1 := hide ((unhide HK).alloc (.cells #[.string X.nm, .slice va X.bs.length vc, .int .i64 X.sy, .bool X.nd] 54 (0, 0)))
      have HG1 := hide (heap_alloc_new wr (.cells #[.string X.nm, .slice va X.bs.length vc, .int .i64 X.sy, .bool X.nd] 54 (0, 0)))
      obtain ⟨W1, hW1⟩ : ∃ W, wr.alloc (.cells #[.string X.nm, .slice va X.bs.length vc, .int .i64 X.sy, .bool X.nd] 54 (0, 0)) = W := ⟨_, rfl⟩
      rw [hW1] at HK1 HG1 ⊢
      clear hW1 p0 p1 p2 p3
      have c0 := cell_of_row _ _ 0 _ _ _ (unhide HG1)
      have c1 := cell_of_row _ _ 1 _ _ _ (unhide HG1)
      have c2 := cell_of_row _ _ 2 _ _ _ (unhide HG1)
      simp at c0 c1 c2
      have HH2 := hide h2
      clear h2
      go_wp2_with fail
      refine Calls.mono (isName_any X.nm _ (by omega)) ?_
      rintro e w2 ⟨rfl, rfl⟩
      cases hn : isNm X.nm
      · have HN := hide hn
        clear hn
        go_wp2_with fail
        go_ret
        exact ⟨by rw [formedB_no (fun hf => by have h9 := (unhide HNO hf).1; rw [unhide HN] at h9; cases h9)]; rfl, unhide HK1⟩
      · have HN := hide hn
        clear hn
        by_cases s0 : X.sy < 0
        · have HS := hide s0
          go_wp2_with fail
          go_ret
          exact ⟨by rw [formedB_no (fun hf => by have h9 := (unhide HNO hf).2.1; have := unhide HS; omega)]; rfl, unhide HK1⟩
        · have HS := hide s0
          by_cases s1 : (X.bs.length : Int) < X.sy
          · have HS1 := hide s1
            go_wp2_with fail
            go_ret
            exact ⟨by rw [formedB_no (fun hf => by have h9 := (unhide HNO hf).2.2.1; have := unhide HS1; omega)]; rfl, unhide HK1⟩
          · have HS1 := hide s1
            go_upto_region 6 with fail
            by_cases hp : 0 < i
            · have hip : (0 : Int) < (i : Int) := by omega
              have q0 := (unhide HK1).cell (unhide HPR hp) (by simp)
              rw [Nat.add_zero] at q0
              have hsub : (i : Int) - 1 = ((i - 1 : Nat) : Int) := by omega
              have HLTP := hide (fun hf => (unhide HNO hf).2.2.2 hp)
              have HOK2 := hide (fun (a4 : l[i - 1].nm.data.toList < X.nm.data.toList) => unhide HOK (unhide HN) (by have := unhide HS; omega) (by have := unhide HS1; omega) (fun _ => a4))
              generalize l[i - 1] = Y at q0 HLTP HOK2
              obtain ⟨i1, hi1⟩ : ∃ i1, i - 1 = i1 := ⟨_, rfl⟩
              rw [hi1] at q0 hsub
              have hi1c : (i1 : Int) < l.length := by omega
              refine wp_region_quiet_lit (by kernel_rfl) (by kernel_rfl) ?_
              repeat (go_big_quiet_step (fail))
              refine wpQuiet_nil ?_
              rintro _ ⟨n5, rfl⟩
              rw [less_str]
              by_cases hls : Y.nm.data.toList < X.nm.data.toList
              · rw [decide_eq_true hls]
                have HLS := hide hls
                clear hls q0 hsub hip
                go_wp2_with fail
                refine ⟨⟨i + 1, by omega, by simp, hide (fun j hj h9 => ?_), hide ((unhide HK1).drewN n5)⟩, ?_⟩
                · by_cases hji : j < i
                  · exact unhide HA j hj hji
                  · have : j = i := by omega
                    subst this
                    exact unhide HOK2 (unhide HLS)
                · simp [intOf]; omega
              · rw [decide_eq_false hls]
                have HLS := hide hls
                clear hls q0 hsub hip
                go_wp2_with fail
                go_ret
                exact ⟨by rw [formedB_no (fun hf => unhide HLS (unhide HLTP hf))]; rfl, (unhide HK1).drewN n5⟩
            · have hip : ¬ (0 : Int) < (i : Int) := by omega
              refine wp_region_quiet_lit (by kernel_rfl) (by kernel_rfl) ?_
              repeat (go_big_quiet_step (fail))
              refine wpQuiet_nil ?_
              rintro _ ⟨n5, rfl⟩
              have HP := hide hp
              go_wp2_with fail
              refine ⟨⟨i + 1, by omega, by simp, hide (fun j hj h9 => ?_), hide ((unhide HK1).drewN n5)⟩, ?_⟩
              · by_cases hji : j < i
                · exact unhide HA j hj hji
                · have : j = i := by omega
                  subst this
                  exact unhide HOK (unhide HN) (by have := unhide HS; omega) (by have := unhide HS1; omega) (fun h => absurd h (unhide HP))
              · simp [intOf]; omega
    · have hlt' : ¬ (i : Int) < l.length := by omega
      have hie : i = l.length := by omega
      subst hie
      go_wp2_with fail
      go_ret
      exact ⟨by rw [(formedB_iff l).2 (fun j hj => unhide HA j hj hj)]; rfl, unhide HK⟩
end Go.Proofs.Ytlopdlcepmmjdaa
/-
  Laws for drawn regions, by genreg.py. No program.
-/
namespace Go.Proofs.Ytlopdlcepmmjdaa
open Go Go.RowKit Go.BigFrame
set_option linter.unusedVariables false
set_option linter.unusedSimpArgs false
section
variable {P : Program} {Q : Exit → Act → World → Prop}
theorem wp_fl19 {id : Nat} {o0 o1 o2 o3 o4 o5 o6 o7 o8 o9 o10 o11 o12 o13 o14 o15 o16 o17 o18 : Oper} {a : Act} {w : World} (hm : P.follows .mixedOrders = true) (hs : Region.noSelect #[o0, o1, o2, o3, o4, o5, o6, o7, o8, o9, o10, o11, o12, o13, o14, o15, o16, o17, o18] = true)
    (f0 : Region.free .any #[o0, o1, o2, o3, o4, o5, o6, o7, o8, o9, o10, o11, o12, o13, o14, o15, o16, o17, o18] #[false, false, false, false, false, false, false, false, false, false, false, false, false, false, false, false, false, false, false] 0 = true) (r0 : (Region.ready .any #[o0, o1, o2, o3, o4, o5, o6, o7, o8, o9, o10, o11, o12, o13, o14, o15, o16, o17, o18] #[false, false, false, false, false, false, false, false, false, false, false, false, false, false, false, false, false, false, false]).contains 0 = true)
    (f1 : Region.free .any #[o0, o1, o2, o3, o4, o5, o6, o7, o8, o9, o10, o11, o12, o13, o14, o15, o16, o17, o18] #[true, false, false, false, false, false, false, false, false, false, false, false, false, false, false, false, false, false, false] 1 = true) (r1 : (Region.ready .any #[o0, o1, o2, o3, o4, o5, o6, o7, o8, o9, o10, o11, o12, o13, o14, o15, o16, o17, o18] #[true, false, false, false, false, false, false, false, false, false, false, false, false, false, false, false, false, false, false]).contains 1 = true)
    (f2 : Region.free .any #[o0, o1, o2, o3, o4, o5, o6, o7, o8, o9, o10, o11, o12, o13, o14, o15, o16, o17, o18] #[true, true, false, false, false, false, false, false, false, false, false, false, false, false, false, false, false, false, false] 2 = true) (r2 : (Region.ready .any #[o0, o1, o2, o3, o4, o5, o6, o7, o8, o9, o10, o11, o12, o13, o14, o15, o16, o17, o18] #[true, true, false, false, false, false, false, false, false, false, false, false, false, false, false, false, false, false, false]).contains 2 = true)
    (f3 : Region.free .any #[o0, o1, o2, o3, o4, o5, o6, o7, o8, o9, o10, o11, o12, o13, o14, o15, o16, o17, o18] #[true, true, true, false, false, false, false, false, false, false, false, false, false, false, false, false, false, false, false] 3 = true) (r3 : (Region.ready .any #[o0, o1, o2, o3, o4, o5, o6, o7, o8, o9, o10, o11, o12, o13, o14, o15, o16, o17, o18] #[true, true, true, false, false, false, false, false, false, false, false, false, false, false, false, false, false, false, false]).contains 3 = true)
    (f4 : Region.free .any #[o0, o1, o2, o3, o4, o5, o6, o7, o8, o9, o10, o11, o12, o13, o14, o15, o16, o17, o18] #[true, true, true, true, false, false, false, false, false, false, false, false, false, false, false, false, false, false, false] 4 = true) (r4 : (Region.ready .any #[o0, o1, o2, o3, o4, o5, o6, o7, o8, o9, o10, o11, o12, o13, o14, o15, o16, o17, o18] #[true, true, true, true, false, false, false, false, false, false, false, false, false, false, false, false, false, false, false]).contains 4 = true)
    (f5 : Region.free .any #[o0, o1, o2, o3, o4, o5, o6, o7, o8, o9, o10, o11, o12, o13, o14, o15, o16, o17, o18] #[true, true, true, true, true, false, false, false, false, false, false, false, false, false, false, false, false, false, false] 5 = true) (r5 : (Region.ready .any #[o0, o1, o2, o3, o4, o5, o6, o7, o8, o9, o10, o11, o12, o13, o14, o15, o16, o17, o18] #[true, true, true, true, true, false, false, false, false, false, false, false, false, false, false, false, false, false, false]).contains 5 = true)
    (f7 : Region.free .any #[o0, o1, o2, o3, o4, o5, o6, o7, o8, o9, o10, o11, o12, o13, o14, o15, o16, o17, o18] #[true, true, true, true, true, true, false, false, false, false, false, false, false, false, false, false, false, false, false] 7 = true) (r7 : (Region.ready .any #[o0, o1, o2, o3, o4, o5, o6, o7, o8, o9, o10, o11, o12, o13, o14, o15, o16, o17, o18] #[true, true, true, true, true, true, false, false, false, false, false, false, false, false, false, false, false, false, false]).contains 7 = true)
    (f8 : Region.free .any #[o0, o1, o2, o3, o4, o5, o6, o7, o8, o9, o10, o11, o12, o13, o14, o15, o16, o17, o18] #[true, true, true, true, true, true, false, true, false, false, false, false, false, false, false, false, false, false, false] 8 = true) (r8 : (Region.ready .any #[o0, o1, o2, o3, o4, o5, o6, o7, o8, o9, o10, o11, o12, o13, o14, o15, o16, o17, o18] #[true, true, true, true, true, true, false, true, false, false, false, false, false, false, false, false, false, false, false]).contains 8 = true)
    (f9 : Region.free .any #[o0, o1, o2, o3, o4, o5, o6, o7, o8, o9, o10, o11, o12, o13, o14, o15, o16, o17, o18] #[true, true, true, true, true, true, false, true, true, false, false, false, false, false, false, false, false, false, false] 9 = true) (r9 : (Region.ready .any #[o0, o1, o2, o3, o4, o5, o6, o7, o8, o9, o10, o11, o12, o13, o14, o15, o16, o17, o18] #[true, true, true, true, true, true, false, true, true, false, false, false, false, false, false, false, false, false, false]).contains 9 = true)
    (f10 : Region.free .any #[o0, o1, o2, o3, o4, o5, o6, o7, o8, o9, o10, o11, o12, o13, o14, o15, o16, o17, o18] #[true, true, true, true, true, true, false, true, true, true, false, false, false, false, false, false, false, false, false] 10 = true) (r10 : (Region.ready .any #[o0, o1, o2, o3, o4, o5, o6, o7, o8, o9, o10, o11, o12, o13, o14, o15, o16, o17, o18] #[true, true, true, true, true, true, false, true, true, true, false, false, false, false, false, false, false, false, false]).contains 10 = true)
    (f11 : Region.free .any #[o0, o1, o2, o3, o4, o5, o6, o7, o8, o9, o10, o11, o12, o13, o14, o15, o16, o17, o18] #[true, true, true, true, true, true, false, true, true, true, true, false, false, false, false, false, false, false, false] 11 = true) (r11 : (Region.ready .any #[o0, o1, o2, o3, o4, o5, o6, o7, o8, o9, o10, o11, o12, o13, o14, o15, o16, o17, o18] #[true, true, true, true, true, true, false, true, true, true, true, false, false, false, false, false, false, false, false]).contains 11 = true)
    (f12 : Region.free .any #[o0, o1, o2, o3, o4, o5, o6, o7, o8, o9, o10, o11, o12, o13, o14, o15, o16, o17, o18] #[true, true, true, true, true, true, false, true, true, true, true, true, false, false, false, false, false, false, false] 12 = true) (r12 : (Region.ready .any #[o0, o1, o2, o3, o4, o5, o6, o7, o8, o9, o10, o11, o12, o13, o14, o15, o16, o17, o18] #[true, true, true, true, true, true, false, true, true, true, true, true, false, false, false, false, false, false, false]).contains 12 = true)
    (f13 : Region.free .any #[o0, o1, o2, o3, o4, o5, o6, o7, o8, o9, o10, o11, o12, o13, o14, o15, o16, o17, o18] #[true, true, true, true, true, true, false, true, true, true, true, true, true, false, false, false, false, false, false] 13 = true) (r13 : (Region.ready .any #[o0, o1, o2, o3, o4, o5, o6, o7, o8, o9, o10, o11, o12, o13, o14, o15, o16, o17, o18] #[true, true, true, true, true, true, false, true, true, true, true, true, true, false, false, false, false, false, false]).contains 13 = true)
    (f14 : Region.free .any #[o0, o1, o2, o3, o4, o5, o6, o7, o8, o9, o10, o11, o12, o13, o14, o15, o16, o17, o18] #[true, true, true, true, true, true, false, true, true, true, true, true, true, true, false, false, false, false, false] 14 = true) (r14 : (Region.ready .any #[o0, o1, o2, o3, o4, o5, o6, o7, o8, o9, o10, o11, o12, o13, o14, o15, o16, o17, o18] #[true, true, true, true, true, true, false, true, true, true, true, true, true, true, false, false, false, false, false]).contains 14 = true)
    (q_ : Region.ready .any #[o0, o1, o2, o3, o4, o5, o6, o7, o8, o9, o10, o11, o12, o13, o14, o15, o16, o17, o18] #[true, true, true, true, true, true, false, true, true, true, true, true, true, true, true, false, false, false, false] = [6])
    (f_6_15 : Region.free .any #[o0, o1, o2, o3, o4, o5, o6, o7, o8, o9, o10, o11, o12, o13, o14, o15, o16, o17, o18] #[true, true, true, true, true, true, true, true, true, true, true, true, true, true, true, false, false, false, false] 15 = true) (r_6_15 : (Region.ready .any #[o0, o1, o2, o3, o4, o5, o6, o7, o8, o9, o10, o11, o12, o13, o14, o15, o16, o17, o18] #[true, true, true, true, true, true, true, true, true, true, true, true, true, true, true, false, false, false, false]).contains 15 = true)
    (q6_ : Region.ready .any #[o0, o1, o2, o3, o4, o5, o6, o7, o8, o9, o10, o11, o12, o13, o14, o15, o16, o17, o18] #[true, true, true, true, true, true, true, true, true, true, true, true, true, true, true, true, false, false, false] = [16])
    (q6_16_ : Region.ready .any #[o0, o1, o2, o3, o4, o5, o6, o7, o8, o9, o10, o11, o12, o13, o14, o15, o16, o17, o18] #[true, true, true, true, true, true, true, true, true, true, true, true, true, true, true, true, true, false, false] = [17])
    (f6_16_17_18 : Region.free .any #[o0, o1, o2, o3, o4, o5, o6, o7, o8, o9, o10, o11, o12, o13, o14, o15, o16, o17, o18] #[true, true, true, true, true, true, true, true, true, true, true, true, true, true, true, true, true, true, false] 18 = true) (r6_16_17_18 : (Region.ready .any #[o0, o1, o2, o3, o4, o5, o6, o7, o8, o9, o10, o11, o12, o13, o14, o15, o16, o17, o18] #[true, true, true, true, true, true, true, true, true, true, true, true, true, true, true, true, true, true, false]).contains 18 = true)
    (q6_16_17_ : Region.ready .any #[o0, o1, o2, o3, o4, o5, o6, o7, o8, o9, o10, o11, o12, o13, o14, o15, o16, o17, o18] #[true, true, true, true, true, true, true, true, true, true, true, true, true, true, true, true, true, true, true] = [])
    (g6 : o6.guard = none)    (g16 : o16.guard = none)    (g17 : o17.guard = none)
    (v0 v1 v2 v3 v4 v5 v7 v8 v9 v10 v11 v12 v13 v14 : Value) (A0 A1 A2 A3 A4 A5 A6 A7 A8 A9 A10 A11 A12 A13 : Act)
    (S : World → Prop)
    (I_ : World → Prop)
    (I6_ : Value → World → Prop)
    (I6_16_ : Value → Value → World → Prop)
    (I6_16_17_ : Value → Value → Value → World → Prop)
    (v15 : Value → Value)
    (v18 : Value → Value → Value → Value)
    (p0 : a.put o0.dst v0 = A0) (hy0 : YieldsIf P #[o0, o1, o2, o3, o4, o5, o6, o7, o8, o9, o10, o11, o12, o13, o14, o15, o16, o17, o18] S o0 v0 a)
    (p1 : A0.put o1.dst v1 = A1) (hy1 : YieldsIf P #[o0, o1, o2, o3, o4, o5, o6, o7, o8, o9, o10, o11, o12, o13, o14, o15, o16, o17, o18] S o1 v1 A0)
    (p2 : A1.put o2.dst v2 = A2) (hy2 : YieldsIf P #[o0, o1, o2, o3, o4, o5, o6, o7, o8, o9, o10, o11, o12, o13, o14, o15, o16, o17, o18] S o2 v2 A1)
    (p3 : A2.put o3.dst v3 = A3) (hy3 : YieldsIf P #[o0, o1, o2, o3, o4, o5, o6, o7, o8, o9, o10, o11, o12, o13, o14, o15, o16, o17, o18] S o3 v3 A2)
    (p4 : A3.put o4.dst v4 = A4) (hy4 : YieldsIf P #[o0, o1, o2, o3, o4, o5, o6, o7, o8, o9, o10, o11, o12, o13, o14, o15, o16, o17, o18] S o4 v4 A3)
    (p5 : A4.put o5.dst v5 = A5) (hy5 : YieldsIf P #[o0, o1, o2, o3, o4, o5, o6, o7, o8, o9, o10, o11, o12, o13, o14, o15, o16, o17, o18] S o5 v5 A4)
    (p7 : A5.put o7.dst v7 = A6) (hy7 : YieldsIf P #[o0, o1, o2, o3, o4, o5, o6, o7, o8, o9, o10, o11, o12, o13, o14, o15, o16, o17, o18] S o7 v7 A5)
    (p8 : A6.put o8.dst v8 = A7) (hy8 : YieldsIf P #[o0, o1, o2, o3, o4, o5, o6, o7, o8, o9, o10, o11, o12, o13, o14, o15, o16, o17, o18] S o8 v8 A6)
    (p9 : A7.put o9.dst v9 = A8) (hy9 : YieldsIf P #[o0, o1, o2, o3, o4, o5, o6, o7, o8, o9, o10, o11, o12, o13, o14, o15, o16, o17, o18] S o9 v9 A7)
    (p10 : A8.put o10.dst v10 = A9) (hy10 : YieldsIf P #[o0, o1, o2, o3, o4, o5, o6, o7, o8, o9, o10, o11, o12, o13, o14, o15, o16, o17, o18] S o10 v10 A8)
    (p11 : A9.put o11.dst v11 = A10) (hy11 : YieldsIf P #[o0, o1, o2, o3, o4, o5, o6, o7, o8, o9, o10, o11, o12, o13, o14, o15, o16, o17, o18] S o11 v11 A9)
    (p12 : A10.put o12.dst v12 = A11) (hy12 : YieldsIf P #[o0, o1, o2, o3, o4, o5, o6, o7, o8, o9, o10, o11, o12, o13, o14, o15, o16, o17, o18] S o12 v12 A10)
    (p13 : A11.put o13.dst v13 = A12) (hy13 : YieldsIf P #[o0, o1, o2, o3, o4, o5, o6, o7, o8, o9, o10, o11, o12, o13, o14, o15, o16, o17, o18] S o13 v13 A11)
    (p14 : A12.put o14.dst v14 = A13) (hy14 : YieldsIf P #[o0, o1, o2, o3, o4, o5, o6, o7, o8, o9, o10, o11, o12, o13, o14, o15, o16, o17, o18] S o14 v14 A12)
    (i0 : I_ w.drew)
    (hIS : (∀ w', I_  w' → S w') ∧ (∀ (u6 : Value) w', I6_ u6 w' → S w') ∧ (∀ (u6 u16 : Value) w', I6_16_ u6 u16 w' → S w') ∧ (∀ (u6 u16 u17 : Value) w', I6_16_17_ u6 u16 u17 w' → S w'))
    (s_6 : ∀ w', I_  w' → ∀ K : Act → World → Prop, (∀ (u6 : Value) w2, I6_ u6 w2 → K (A13.put o6.dst u6) w2) → o6.wp P A13 w' K (NoPanic Q))
    (s6_16 : ∀ (u6 : Value) w', I6_ u6 w' → ∀ K : Act → World → Prop, (∀ (u16 : Value) w2, I6_16_ u6 u16 w2 → K (((A13.put o6.dst u6).put o15.dst (v15 u6)).put o16.dst u16) w2) → o16.wp P ((A13.put o6.dst u6).put o15.dst (v15 u6)) w' K (NoPanic Q))
    (s6_16_17 : ∀ (u6 u16 : Value) w', I6_16_ u6 u16 w' → ∀ K : Act → World → Prop, (∀ (u17 : Value) w2, I6_16_17_ u6 u16 u17 w2 → K ((((A13.put o6.dst u6).put o15.dst (v15 u6)).put o16.dst u16).put o17.dst u17) w2) → o17.wp P (((A13.put o6.dst u6).put o15.dst (v15 u6)).put o16.dst u16) w' K (NoPanic Q))
    (y_6_15 : ∀ (u6 : Value) w', I6_ u6 w' → YieldsIf P #[o0, o1, o2, o3, o4, o5, o6, o7, o8, o9, o10, o11, o12, o13, o14, o15, o16, o17, o18] S o15 (v15 u6) (A13.put o6.dst u6))
    (y6_16_17_18 : ∀ (u6 u16 u17 : Value) w', I6_16_17_ u6 u16 u17 w' → YieldsIf P #[o0, o1, o2, o3, o4, o5, o6, o7, o8, o9, o10, o11, o12, o13, o14, o15, o16, o17, o18] S o18 (v18 u6 u16 u17) ((((A13.put o6.dst u6).put o15.dst (v15 u6)).put o16.dst u16).put o17.dst u17))
    (h : ∀ (u6 u16 u17 : Value) w', I6_16_17_ u6 u16 u17 w' → Q .normal (((((A13.put o6.dst u6).put o15.dst (v15 u6)).put o16.dst u16).put o17.dst u17).put o18.dst (v18 u6 u16 u17)) w') :
    (Code.region id #[o0, o1, o2, o3, o4, o5, o6, o7, o8, o9, o10, o11, o12, o13, o14, o15, o16, o17, o18] true).wp P Q a w := by
  subst p0 p1 p2 p3 p4 p5 p7 p8 p9 p10 p11 p12 p13 p14
  obtain ⟨z_, z6_, z6_16_, z6_16_17_⟩ := hIS
  refine wp_region_noPanic ?_
  refine wp_region_held_drew (S := S) hm (z_ _ i0) (fun hH => ?_)
  show wpAnyH P .any #[o0, o1, o2, o3, o4, o5, o6, o7, o8, o9, o10, o11, o12, o13, o14, o15, o16, o17, o18] (NoPanic Q) S 19 #[false, false, false, false, false, false, false, false, false, false, false, false, false, false, false, false, false, false, false] a w.drew
  refine wpAnyH_take (i := 0) (oi := o0) rfl hs f0 r0 (fun _ _ _ h => h) hy0 hH ?_
  refine wpAnyH_take (i := 1) (oi := o1) rfl hs f1 r1 (fun _ _ _ h => h) hy1 hH ?_
  refine wpAnyH_take (i := 2) (oi := o2) rfl hs f2 r2 (fun _ _ _ h => h) hy2 hH ?_
  refine wpAnyH_take (i := 3) (oi := o3) rfl hs f3 r3 (fun _ _ _ h => h) hy3 hH ?_
  refine wpAnyH_take (i := 4) (oi := o4) rfl hs f4 r4 (fun _ _ _ h => h) hy4 hH ?_
  refine wpAnyH_take (i := 5) (oi := o5) rfl hs f5 r5 (fun _ _ _ h => h) hy5 hH ?_
  refine wpAnyH_take (i := 7) (oi := o7) rfl hs f7 r7 (fun _ _ _ h => h) hy7 hH ?_
  refine wpAnyH_take (i := 8) (oi := o8) rfl hs f8 r8 (fun _ _ _ h => h) hy8 hH ?_
  refine wpAnyH_take (i := 9) (oi := o9) rfl hs f9 r9 (fun _ _ _ h => h) hy9 hH ?_
  refine wpAnyH_take (i := 10) (oi := o10) rfl hs f10 r10 (fun _ _ _ h => h) hy10 hH ?_
  refine wpAnyH_take (i := 11) (oi := o11) rfl hs f11 r11 (fun _ _ _ h => h) hy11 hH ?_
  refine wpAnyH_take (i := 12) (oi := o12) rfl hs f12 r12 (fun _ _ _ h => h) hy12 hH ?_
  refine wpAnyH_take (i := 13) (oi := o13) rfl hs f13 r13 (fun _ _ _ h => h) hy13 hH ?_
  refine wpAnyH_take (i := 14) (oi := o14) rfl hs f14 r14 (fun _ _ _ h => h) hy14 hH ?_
  generalize ((((((((((((((a.put o0.dst v0).put o1.dst v1).put o2.dst v2).put o3.dst v3).put o4.dst v4).put o5.dst v5).put o7.dst v7).put o8.dst v8).put o9.dst v9).put o10.dst v10).put o11.dst v11).put o12.dst v12).put o13.dst v13).put o14.dst v14) = B at *
  have wa6 : ∀ y, Region.wanted o6 y = true := fun y => by unfold Region.wanted; rw [g6]
  have wa16 : ∀ y, Region.wanted o16 y = true := fun y => by unfold Region.wanted; rw [g16]
  have wa17 : ∀ y, Region.wanted o17 y = true := fun y => by unfold Region.wanted; rw [g17]
  have t6_16_17_ : ∀ (u6 u16 u17 : Value) w', I6_16_17_ u6 u16 u17 w' → wpAnyH P .any #[o0, o1, o2, o3, o4, o5, o6, o7, o8, o9, o10, o11, o12, o13, o14, o15, o16, o17, o18] (NoPanic Q) S 0 #[true, true, true, true, true, true, true, true, true, true, true, true, true, true, true, true, true, true, true] (((((B.put o6.dst u6).put o15.dst (v15 u6)).put o16.dst u16).put o17.dst u17).put o18.dst (v18 u6 u16 u17)) w' := by
    intro u6 u16 u17 w0 i0
    exact ⟨q6_16_17_, NoPanic.normal (h u6 u16 u17 w0 i0)⟩
  have t6_16_ : ∀ (u6 u16 : Value) w', I6_16_ u6 u16 w' → wpAnyH P .any #[o0, o1, o2, o3, o4, o5, o6, o7, o8, o9, o10, o11, o12, o13, o14, o15, o16, o17, o18] (NoPanic Q) S 2 #[true, true, true, true, true, true, true, true, true, true, true, true, true, true, true, true, true, false, false] (((B.put o6.dst u6).put o15.dst (v15 u6)).put o16.dst u16) w' := by
    intro u6 u16 w0 i0
    refine wpAnyH_ready (rs := [17]) q6_16_ (by simp) (AllReadyH.cons (o := o17) rfl (fun K hK => ?_) AllReadyH.nil)
    · rw [if_pos (wa17 _)]
      refine s6_16_17 u6 u16 w0 i0 K (fun u17 w1 i1 => hK.out _ _ (z6_16_17_ u6 u16 u17 w1 i1) (fun _ => ?_))
      clear hK
      refine wpAnyH_take (i := 18) (oi := o18) rfl hs f6_16_17_18 r6_16_17_18 (fun _ _ _ h => h) (y6_16_17_18 u6 u16 u17 w1 i1) (z6_16_17_ u6 u16 u17 w1 i1) ?_
      exact t6_16_17_ u6 u16 u17 w1 i1
  have t6_ : ∀ (u6 : Value) w', I6_ u6 w' → wpAnyH P .any #[o0, o1, o2, o3, o4, o5, o6, o7, o8, o9, o10, o11, o12, o13, o14, o15, o16, o17, o18] (NoPanic Q) S 3 #[true, true, true, true, true, true, true, true, true, true, true, true, true, true, true, true, false, false, false] ((B.put o6.dst u6).put o15.dst (v15 u6)) w' := by
    intro u6 w0 i0
    refine wpAnyH_ready (rs := [16]) q6_ (by simp) (AllReadyH.cons (o := o16) rfl (fun K hK => ?_) AllReadyH.nil)
    · rw [if_pos (wa16 _)]
      refine s6_16 u6 w0 i0 K (fun u16 w1 i1 => hK.out _ _ (z6_16_ u6 u16 w1 i1) (fun _ => ?_))
      clear hK
      exact t6_16_ u6 u16 w1 i1
  have t_ : ∀ w', I_  w' → wpAnyH P .any #[o0, o1, o2, o3, o4, o5, o6, o7, o8, o9, o10, o11, o12, o13, o14, o15, o16, o17, o18] (NoPanic Q) S 5 #[true, true, true, true, true, true, false, true, true, true, true, true, true, true, true, false, false, false, false] B w' := by
    intro w0 i0
    refine wpAnyH_ready (rs := [6]) q_ (by simp) (AllReadyH.cons (o := o6) rfl (fun K hK => ?_) AllReadyH.nil)
    · rw [if_pos (wa6 _)]
      refine s_6  w0 i0 K (fun u6 w1 i1 => hK.out _ _ (z6_ u6 w1 i1) (fun _ => ?_))
      clear hK
      refine wpAnyH_take (i := 15) (oi := o15) rfl hs f_6_15 r_6_15 (fun _ _ _ h => h) (y_6_15 u6 w1 i1) (z6_ u6 w1 i1) ?_
      exact t6_ u6 w1 i1
  exact t_ w.drew i0

theorem wp_fr13 {id : Nat} {o0 o1 o2 o3 o4 o5 o6 o7 o8 o9 o10 o11 o12 : Oper} {a : Act} {w : World} (hm : P.follows .mixedOrders = true) (hs : Region.noSelect #[o0, o1, o2, o3, o4, o5, o6, o7, o8, o9, o10, o11, o12] = true)
    (f0 : Region.free .any #[o0, o1, o2, o3, o4, o5, o6, o7, o8, o9, o10, o11, o12] #[false, false, false, false, false, false, false, false, false, false, false, false, false] 0 = true) (r0 : (Region.ready .any #[o0, o1, o2, o3, o4, o5, o6, o7, o8, o9, o10, o11, o12] #[false, false, false, false, false, false, false, false, false, false, false, false, false]).contains 0 = true)
    (f1 : Region.free .any #[o0, o1, o2, o3, o4, o5, o6, o7, o8, o9, o10, o11, o12] #[true, false, false, false, false, false, false, false, false, false, false, false, false] 1 = true) (r1 : (Region.ready .any #[o0, o1, o2, o3, o4, o5, o6, o7, o8, o9, o10, o11, o12] #[true, false, false, false, false, false, false, false, false, false, false, false, false]).contains 1 = true)
    (f2 : Region.free .any #[o0, o1, o2, o3, o4, o5, o6, o7, o8, o9, o10, o11, o12] #[true, true, false, false, false, false, false, false, false, false, false, false, false] 2 = true) (r2 : (Region.ready .any #[o0, o1, o2, o3, o4, o5, o6, o7, o8, o9, o10, o11, o12] #[true, true, false, false, false, false, false, false, false, false, false, false, false]).contains 2 = true)
    (f3 : Region.free .any #[o0, o1, o2, o3, o4, o5, o6, o7, o8, o9, o10, o11, o12] #[true, true, true, false, false, false, false, false, false, false, false, false, false] 3 = true) (r3 : (Region.ready .any #[o0, o1, o2, o3, o4, o5, o6, o7, o8, o9, o10, o11, o12] #[true, true, true, false, false, false, false, false, false, false, false, false, false]).contains 3 = true)
    (f4 : Region.free .any #[o0, o1, o2, o3, o4, o5, o6, o7, o8, o9, o10, o11, o12] #[true, true, true, true, false, false, false, false, false, false, false, false, false] 4 = true) (r4 : (Region.ready .any #[o0, o1, o2, o3, o4, o5, o6, o7, o8, o9, o10, o11, o12] #[true, true, true, true, false, false, false, false, false, false, false, false, false]).contains 4 = true)
    (f6 : Region.free .any #[o0, o1, o2, o3, o4, o5, o6, o7, o8, o9, o10, o11, o12] #[true, true, true, true, true, false, false, false, false, false, false, false, false] 6 = true) (r6 : (Region.ready .any #[o0, o1, o2, o3, o4, o5, o6, o7, o8, o9, o10, o11, o12] #[true, true, true, true, true, false, false, false, false, false, false, false, false]).contains 6 = true)
    (f7 : Region.free .any #[o0, o1, o2, o3, o4, o5, o6, o7, o8, o9, o10, o11, o12] #[true, true, true, true, true, false, true, false, false, false, false, false, false] 7 = true) (r7 : (Region.ready .any #[o0, o1, o2, o3, o4, o5, o6, o7, o8, o9, o10, o11, o12] #[true, true, true, true, true, false, true, false, false, false, false, false, false]).contains 7 = true)
    (f8 : Region.free .any #[o0, o1, o2, o3, o4, o5, o6, o7, o8, o9, o10, o11, o12] #[true, true, true, true, true, false, true, true, false, false, false, false, false] 8 = true) (r8 : (Region.ready .any #[o0, o1, o2, o3, o4, o5, o6, o7, o8, o9, o10, o11, o12] #[true, true, true, true, true, false, true, true, false, false, false, false, false]).contains 8 = true)
    (f9 : Region.free .any #[o0, o1, o2, o3, o4, o5, o6, o7, o8, o9, o10, o11, o12] #[true, true, true, true, true, false, true, true, true, false, false, false, false] 9 = true) (r9 : (Region.ready .any #[o0, o1, o2, o3, o4, o5, o6, o7, o8, o9, o10, o11, o12] #[true, true, true, true, true, false, true, true, true, false, false, false, false]).contains 9 = true)
    (q_ : Region.ready .any #[o0, o1, o2, o3, o4, o5, o6, o7, o8, o9, o10, o11, o12] #[true, true, true, true, true, false, true, true, true, true, false, false, false] = [5])
    (f_5_10 : Region.free .any #[o0, o1, o2, o3, o4, o5, o6, o7, o8, o9, o10, o11, o12] #[true, true, true, true, true, true, true, true, true, true, false, false, false] 10 = true) (r_5_10 : (Region.ready .any #[o0, o1, o2, o3, o4, o5, o6, o7, o8, o9, o10, o11, o12] #[true, true, true, true, true, true, true, true, true, true, false, false, false]).contains 10 = true)
    (q5_ : Region.ready .any #[o0, o1, o2, o3, o4, o5, o6, o7, o8, o9, o10, o11, o12] #[true, true, true, true, true, true, true, true, true, true, true, false, false] = [11])
    (q5_11_ : Region.ready .any #[o0, o1, o2, o3, o4, o5, o6, o7, o8, o9, o10, o11, o12] #[true, true, true, true, true, true, true, true, true, true, true, true, false] = [12])
    (q5_11_12_ : Region.ready .any #[o0, o1, o2, o3, o4, o5, o6, o7, o8, o9, o10, o11, o12] #[true, true, true, true, true, true, true, true, true, true, true, true, true] = [])
    (g5 : o5.guard = none)    (g11 : o11.guard = none)    (g12 : o12.guard = none)
    (v0 v1 v2 v3 v4 v6 v7 v8 v9 : Value) (A0 A1 A2 A3 A4 A5 A6 A7 A8 : Act)
    (S : World → Prop)
    (I_ : World → Prop)
    (I5_ : Value → World → Prop)
    (I5_11_ : Value → Value → World → Prop)
    (I5_11_12_ : Value → Value → Value → World → Prop)
    (v10 : Value → Value)
    (p0 : a.put o0.dst v0 = A0) (hy0 : YieldsIf P #[o0, o1, o2, o3, o4, o5, o6, o7, o8, o9, o10, o11, o12] S o0 v0 a)
    (p1 : A0.put o1.dst v1 = A1) (hy1 : YieldsIf P #[o0, o1, o2, o3, o4, o5, o6, o7, o8, o9, o10, o11, o12] S o1 v1 A0)
    (p2 : A1.put o2.dst v2 = A2) (hy2 : YieldsIf P #[o0, o1, o2, o3, o4, o5, o6, o7, o8, o9, o10, o11, o12] S o2 v2 A1)
    (p3 : A2.put o3.dst v3 = A3) (hy3 : YieldsIf P #[o0, o1, o2, o3, o4, o5, o6, o7, o8, o9, o10, o11, o12] S o3 v3 A2)
    (p4 : A3.put o4.dst v4 = A4) (hy4 : YieldsIf P #[o0, o1, o2, o3, o4, o5, o6, o7, o8, o9, o10, o11, o12] S o4 v4 A3)
    (p6 : A4.put o6.dst v6 = A5) (hy6 : YieldsIf P #[o0, o1, o2, o3, o4, o5, o6, o7, o8, o9, o10, o11, o12] S o6 v6 A4)
    (p7 : A5.put o7.dst v7 = A6) (hy7 : YieldsIf P #[o0, o1, o2, o3, o4, o5, o6, o7, o8, o9, o10, o11, o12] S o7 v7 A5)
    (p8 : A6.put o8.dst v8 = A7) (hy8 : YieldsIf P #[o0, o1, o2, o3, o4, o5, o6, o7, o8, o9, o10, o11, o12] S o8 v8 A6)
    (p9 : A7.put o9.dst v9 = A8) (hy9 : YieldsIf P #[o0, o1, o2, o3, o4, o5, o6, o7, o8, o9, o10, o11, o12] S o9 v9 A7)
    (i0 : I_ w.drew)
    (hIS : (∀ w', I_  w' → S w') ∧ (∀ (u5 : Value) w', I5_ u5 w' → S w') ∧ (∀ (u5 u11 : Value) w', I5_11_ u5 u11 w' → S w') ∧ (∀ (u5 u11 u12 : Value) w', I5_11_12_ u5 u11 u12 w' → S w'))
    (s_5 : ∀ w', I_  w' → ∀ K : Act → World → Prop, (∀ (u5 : Value) w2, I5_ u5 w2 → K (A8.put o5.dst u5) w2) → o5.wp P A8 w' K (NoPanic Q))
    (s5_11 : ∀ (u5 : Value) w', I5_ u5 w' → ∀ K : Act → World → Prop, (∀ (u11 : Value) w2, I5_11_ u5 u11 w2 → K (((A8.put o5.dst u5).put o10.dst (v10 u5)).put o11.dst u11) w2) → o11.wp P ((A8.put o5.dst u5).put o10.dst (v10 u5)) w' K (NoPanic Q))
    (s5_11_12 : ∀ (u5 u11 : Value) w', I5_11_ u5 u11 w' → ∀ K : Act → World → Prop, (∀ (u12 : Value) w2, I5_11_12_ u5 u11 u12 w2 → K ((((A8.put o5.dst u5).put o10.dst (v10 u5)).put o11.dst u11).put o12.dst u12) w2) → o12.wp P (((A8.put o5.dst u5).put o10.dst (v10 u5)).put o11.dst u11) w' K (NoPanic Q))
    (y_5_10 : ∀ (u5 : Value) w', I5_ u5 w' → YieldsIf P #[o0, o1, o2, o3, o4, o5, o6, o7, o8, o9, o10, o11, o12] S o10 (v10 u5) (A8.put o5.dst u5))
    (h : ∀ (u5 u11 u12 : Value) w', I5_11_12_ u5 u11 u12 w' → Q .normal ((((A8.put o5.dst u5).put o10.dst (v10 u5)).put o11.dst u11).put o12.dst u12) w') :
    (Code.region id #[o0, o1, o2, o3, o4, o5, o6, o7, o8, o9, o10, o11, o12] true).wp P Q a w := by
  subst p0 p1 p2 p3 p4 p6 p7 p8 p9
  obtain ⟨z_, z5_, z5_11_, z5_11_12_⟩ := hIS
  refine wp_region_noPanic ?_
  refine wp_region_held_drew (S := S) hm (z_ _ i0) (fun hH => ?_)
  show wpAnyH P .any #[o0, o1, o2, o3, o4, o5, o6, o7, o8, o9, o10, o11, o12] (NoPanic Q) S 13 #[false, false, false, false, false, false, false, false, false, false, false, false, false] a w.drew
  refine wpAnyH_take (i := 0) (oi := o0) rfl hs f0 r0 (fun _ _ _ h => h) hy0 hH ?_
  refine wpAnyH_take (i := 1) (oi := o1) rfl hs f1 r1 (fun _ _ _ h => h) hy1 hH ?_
  refine wpAnyH_take (i := 2) (oi := o2) rfl hs f2 r2 (fun _ _ _ h => h) hy2 hH ?_
  refine wpAnyH_take (i := 3) (oi := o3) rfl hs f3 r3 (fun _ _ _ h => h) hy3 hH ?_
  refine wpAnyH_take (i := 4) (oi := o4) rfl hs f4 r4 (fun _ _ _ h => h) hy4 hH ?_
  refine wpAnyH_take (i := 6) (oi := o6) rfl hs f6 r6 (fun _ _ _ h => h) hy6 hH ?_
  refine wpAnyH_take (i := 7) (oi := o7) rfl hs f7 r7 (fun _ _ _ h => h) hy7 hH ?_
  refine wpAnyH_take (i := 8) (oi := o8) rfl hs f8 r8 (fun _ _ _ h => h) hy8 hH ?_
  refine wpAnyH_take (i := 9) (oi := o9) rfl hs f9 r9 (fun _ _ _ h => h) hy9 hH ?_
  generalize (((((((((a.put o0.dst v0).put o1.dst v1).put o2.dst v2).put o3.dst v3).put o4.dst v4).put o6.dst v6).put o7.dst v7).put o8.dst v8).put o9.dst v9) = B at *
  have wa5 : ∀ y, Region.wanted o5 y = true := fun y => by unfold Region.wanted; rw [g5]
  have wa11 : ∀ y, Region.wanted o11 y = true := fun y => by unfold Region.wanted; rw [g11]
  have wa12 : ∀ y, Region.wanted o12 y = true := fun y => by unfold Region.wanted; rw [g12]
  have t5_11_12_ : ∀ (u5 u11 u12 : Value) w', I5_11_12_ u5 u11 u12 w' → wpAnyH P .any #[o0, o1, o2, o3, o4, o5, o6, o7, o8, o9, o10, o11, o12] (NoPanic Q) S 0 #[true, true, true, true, true, true, true, true, true, true, true, true, true] ((((B.put o5.dst u5).put o10.dst (v10 u5)).put o11.dst u11).put o12.dst u12) w' := by
    intro u5 u11 u12 w0 i0
    exact ⟨q5_11_12_, NoPanic.normal (h u5 u11 u12 w0 i0)⟩
  have t5_11_ : ∀ (u5 u11 : Value) w', I5_11_ u5 u11 w' → wpAnyH P .any #[o0, o1, o2, o3, o4, o5, o6, o7, o8, o9, o10, o11, o12] (NoPanic Q) S 1 #[true, true, true, true, true, true, true, true, true, true, true, true, false] (((B.put o5.dst u5).put o10.dst (v10 u5)).put o11.dst u11) w' := by
    intro u5 u11 w0 i0
    refine wpAnyH_ready (rs := [12]) q5_11_ (by simp) (AllReadyH.cons (o := o12) rfl (fun K hK => ?_) AllReadyH.nil)
    · rw [if_pos (wa12 _)]
      refine s5_11_12 u5 u11 w0 i0 K (fun u12 w1 i1 => hK.out _ _ (z5_11_12_ u5 u11 u12 w1 i1) (fun _ => ?_))
      clear hK
      exact t5_11_12_ u5 u11 u12 w1 i1
  have t5_ : ∀ (u5 : Value) w', I5_ u5 w' → wpAnyH P .any #[o0, o1, o2, o3, o4, o5, o6, o7, o8, o9, o10, o11, o12] (NoPanic Q) S 2 #[true, true, true, true, true, true, true, true, true, true, true, false, false] ((B.put o5.dst u5).put o10.dst (v10 u5)) w' := by
    intro u5 w0 i0
    refine wpAnyH_ready (rs := [11]) q5_ (by simp) (AllReadyH.cons (o := o11) rfl (fun K hK => ?_) AllReadyH.nil)
    · rw [if_pos (wa11 _)]
      refine s5_11 u5 w0 i0 K (fun u11 w1 i1 => hK.out _ _ (z5_11_ u5 u11 w1 i1) (fun _ => ?_))
      clear hK
      exact t5_11_ u5 u11 w1 i1
  have t_ : ∀ w', I_  w' → wpAnyH P .any #[o0, o1, o2, o3, o4, o5, o6, o7, o8, o9, o10, o11, o12] (NoPanic Q) S 4 #[true, true, true, true, true, false, true, true, true, true, false, false, false] B w' := by
    intro w0 i0
    refine wpAnyH_ready (rs := [5]) q_ (by simp) (AllReadyH.cons (o := o5) rfl (fun K hK => ?_) AllReadyH.nil)
    · rw [if_pos (wa5 _)]
      refine s_5  w0 i0 K (fun u5 w1 i1 => hK.out _ _ (z5_ u5 w1 i1) (fun _ => ?_))
      clear hK
      refine wpAnyH_take (i := 10) (oi := o10) rfl hs f_5_10 r_5_10 (fun _ _ _ h => h) (y_5_10 u5 w1 i1) (z5_ u5 w1 i1) ?_
      exact t5_ u5 w1 i1
  exact t_ w.drew i0

end
end Go.Proofs.Ytlopdlcepmmjdaa
namespace Go.Proofs.Ytlopdlcepmmjdaa
open Go.RowKit Go.BigFrame Go.Maps Go.Sort
set_option linter.unusedVariables false
set_option linter.unusedSimpArgs false

/-- The files, in the order of their names. -/
def srtA (A : List DF) : List DF := A.mergeSort fun a b => decide (a.nm.data.toList ≤ b.nm.data.toList)
theorem srtA_perm (A : List DF) : (srtA A).Perm A := List.mergeSort_perm _ _
theorem srtA_mem {A : List DF} {f : DF} : f ∈ srtA A ↔ f ∈ A := (srtA_perm A).mem_iff
theorem srtA_len (A : List DF) : (srtA A).length = A.length := (srtA_perm A).length_eq
theorem le_trans_u8 (a b c : List UInt8) (h1 : a ≤ b) (h2 : b ≤ c) : a ≤ c := List.le_trans h1 h2
theorem srtA_names {A : List DF} (hd : Dist A) : (srtA A).map (fun f => f.nm.data.toList) = srtN A := by
  unfold srtA srtN
  rw [List.map_mergeSort]
  intro a _ b _
  rfl
theorem findA_of {A : List DF} (hd : Dist A) {f : DF} (hf : f ∈ A) : findA A f.nm.data.toList = some f := by
  cases h : findA A f.nm.data.toList with
  | none => exact absurd rfl (findA_none h f hf)
  | some g =>
    unfold findA at h
    have h1 := List.mem_of_find?_eq_some h
    have h2 : g.nm.data.toList = f.nm.data.toList := by simpa using List.find?_some h
    have h3 := ba_ext h2
    congr 1
    have hd2 : A.Pairwise fun a b => a.nm ≠ b.nm := hd
    clear h hd
    induction hd2 with
    | nil => simp at hf
    | @cons x l hx hl ih =>
      simp only [List.mem_cons] at hf h1
      rcases hf with rfl | hf
      · rcases h1 with rfl | h1
        · rfl
        · exact absurd h3.symm (hx g h1)
      · rcases h1 with rfl | h1
        · exact absurd h3 (hx f hf)
        · exact ih hf h1

/-- The cells of a file. -/
def dfC (t : DF × Value) : List Value := [.string t.1.nm, t.2, .int .i64 (t.1.sy : Int), .bool t.1.nd]
theorem dfC_len (ts : List (DF × Value)) : (ts.flatMap dfC).length = ts.length * 4 := by
  induction ts with
  | nil => rfl
  | cons t r ih => simp only [List.flatMap_cons, List.length_append, List.length_cons, dfC, List.length_nil] at ih ⊢; omega
theorem dfC_get : ∀ (ts : List (DF × Value)) (i : Nat) (h : i < ts.length) (j : Nat) (v : Value), (dfC ts[i])[j]? = some v → (ts.flatMap dfC)[i * 4 + j]? = some v
  | t :: r, 0, _, j, v, hv => by
    have hj := (List.getElem?_eq_some_iff.1 hv).1
    rw [List.flatMap_cons, List.getElem?_append_left (by simpa using hj)]
    simpa using hv
  | t :: r, i + 1, h, j, v, hv => by
    have h' : i < r.length := by simpa using h
    have h1 := dfC_get r i h' j v (by simpa using hv)
    rw [List.flatMap_cons, List.getElem?_append_right (by simp [dfC]; omega)]
    rw [show (i + 1) * 4 + j - (dfC t).length = i * 4 + j by simp [dfC]; omega]
    exact h1
/-- Files that are owned, each file's bytes in memory of their own. -/
structure OwnFl (B : Nat) (w : World) (v : Value) (ts : List (DF × Value)) : Prop where
  own : w.ownsRow B 54 4 v ts.length (ts.flatMap dfC)
  el : ∀ t ∈ ts, w.ownsRow B 5 1 t.2 t.1.bs.length (t.1.bs.map u8) ∧ (∀ x ∈ t.1.bs, x < 256) ∧ t.1.bs.length ≤ 140737488355328
  ap : ts.Pairwise fun a b => ∀ x ∈ blk a.2, x ∉ blk b.2
theorem OwnFl.nil (B : Nat) (w : World) : OwnFl B w (.slice none 0 0) [] := ⟨World.ownsRow_nil _ _ _ _, by simp, List.Pairwise.nil⟩
/-- Files that can be read. -/
def RdFl (w : World) (v : Value) (ts : List (DF × Value)) : Prop := RdC 4 w v (ts.map dfC) ∧ ∀ t ∈ ts, Rd w t.2 t.1.bs
theorem OwnFl.rd {B : Nat} {w : World} {v : Value} {ts : List (DF × Value)} (h : OwnFl B w v ts) : RdFl w v ts := by
  refine ⟨?_, fun t ht => rd_owns (h.el t ht).1 (h.el t ht).2.1 (h.el t ht).2.2⟩
  rcases h.own.2 with ⟨rfl, h0⟩ | ⟨g, cap, cur, rfl, _, hg, hc, hm', hs, ht⟩
  · have : ts = [] := List.eq_nil_of_length_eq_zero h0
    subst this
    exact RdC.nil 4 w
  · refine ⟨some ⟨g, 0, none⟩, ts.length, cap, rfl, by simp, hc, by unfold maxLen at hm'; omega, fun _ => ⟨g, 0, rfl, fun i hi j u hu => ?_⟩⟩
    have hi' : i < ts.length := by simpa using hi
    rw [List.getElem_map] at hu
    have h9 := h.own.cells (g := g) rfl (i * 4 + j) u (dfC_get ts i hi' j u hu)
    rw [Addr.add_lit, Nat.zero_add] at h9
    rw [Nat.zero_add]
    exact h9
theorem OwnFl.kept {L : List Nat} {B : Nat} {w w' : World} {v : Value} {ts : List (DF × Value)} (h : OwnFl B w v ts) (k : Kept L w w') (hv : ∀ x ∈ blk v, x ∉ L) (ht : ∀ t ∈ ts, ∀ x ∈ blk t.2, x ∉ L) : OwnFl B w' v ts :=
  ⟨k.owns h.own (fun x hx => hv x (own_blk hx)), fun t h1 => ⟨k.owns (h.el t h1).1 (fun x hx => ht t h1 x (own_blk hx)), (h.el t h1).2⟩, h.ap⟩
theorem blk_own4 {w : World} {base e s n : Nat} {v : Value} {xs : List Value} (h : w.ownsRow base e s v n xs) {x : Nat} (hx : x ∈ blk v) : v.ownBlock = some x := by
  rcases h.2 with ⟨rfl, _⟩ | ⟨g, cap, cur, rfl, _, hg, _⟩
  · simp [blk] at hx
  · simp only [blk, List.mem_singleton] at hx
    subst hx
    rfl
/-- The blocks of a list of files. -/
def flB (v : Value) (ts : List (DF × Value)) : List Nat := blk v ++ ts.flatMap fun t => blk t.2
theorem OwnFl.ge {B : Nat} {w : World} {v : Value} {ts : List (DF × Value)} (h : OwnFl B w v ts) : ∀ x ∈ flB v ts, B ≤ x ∧ x < w.heap.size := by
  intro x hx
  simp only [flB, List.mem_append, List.mem_flatMap] at hx
  rcases hx with hx | ⟨t, ht, hx⟩
  · exact h.own.lt x (blk_own4 h.own hx)
  · exact (h.el t ht).1.lt x (blk_own (h.el t ht).1 hx)
theorem OwnFl.keptF {L : List Nat} {B : Nat} {w w' : World} {v : Value} {ts : List (DF × Value)} (h : OwnFl B w v ts) (k : Kept L w w') (hn : ∀ x ∈ flB v ts, x ∉ L) : OwnFl B w' v ts :=
  h.kept k (fun x hx => hn x (by simp [flB, hx])) (fun t ht x hx => hn x (by simp only [flB, List.mem_append, List.mem_flatMap]; exact .inr ⟨t, ht, hx⟩))

theorem Try.infoF : (Try.prog.info? 54).map (fun i => (i.zero, i.size, i.bytes)) = some (some (.agg #[.string ⟨#[]⟩, .slice none 0 0, .int .i64 0, .bool false]), 4, 56) := by kernel_rfl
/-- One file more. -/
theorem pushFl (w : World) (B : Nat) (v : Value) (ts : List (DF × Value)) (t : DF × Value) (H : Nat) (h : OwnFl B w v ts) (hnew : w.heap[H]? = some (.cells (dfC t).toArray 54 (0, 0))) (ho : w.ownsRow B 5 1 t.2 t.1.bs.length (t.1.bs.map u8) ∧ (∀ x ∈ t.1.bs, x < 256) ∧ t.1.bs.length ≤ 140737488355328)
    (ha : ∀ a ∈ ts, ∀ x ∈ blk a.2, x ∉ blk t.2) (hl : ts.length + 1 ≤ 1000000000) (hb : B ≤ w.heap.size) :
    ∃ g cap w1, (Builtin.append_ #[22, 22] 22 #[v, .slice (some ⟨H, 0, none⟩) 1 1]).run Try.prog w = .ok (.slice (some ⟨g, 0, none⟩) (ts.length + 1) cap) w1 ∧
      OwnFl B w1 (.slice (some ⟨g, 0, none⟩) (ts.length + 1) cap) (ts ++ [t]) ∧ w.grownBy w1 v.ownBlock ∧ (v.ownBlock = some g ∨ g = w.heap.size) := by
  obtain ⟨i0, hi, hz0, hz1, hz2⟩ := info_parts Try.infoF
  obtain ⟨ao, len, cap0, hv2⟩ : ∃ ao len cap, t.2 = .slice ao len cap := by
    obtain ⟨a, c, h9⟩ := owns_shape ho.1
    exact ⟨a, _, c, h9⟩
  obtain ⟨g, cap, w1, hr, hown, hgrow, hat, hlt⟩ := run_append_lies (P := Try.prog) w 22 22 B 54 i0 (.agg #[.string ⟨#[]⟩, .slice none 0 0, .int .i64 0, .bool false]) 4 56 Try.underlying22 hi hz0 hz1 hz2 rfl (by decide)
    v ts.length (ts.flatMap dfC) h.own ⟨H, 0, none⟩ 1 1 (dfC t) rfl (World.news_of_block hnew) (by intro u hu; simp only [dfC, List.mem_cons, List.not_mem_nil, or_false] at hu; rcases hu with rfl | rfl | rfl | rfl; rfl; rw [hv2]; rfl; rfl; rfl) (by decide) (by unfold maxLen; omega) (by omega) hb _ rfl
  have k1 : Kept v.ownBlock.toList w w1 := (Kept.refl _ w).grown hgrow (by intro k hk; left; simp [hk])
  have hty : ∀ {x : Nat} {cs : Array Value}, w.heap[x]? = some (.cells cs 5 (0, 0)) → x ∉ v.ownBlock.toList := by
    intro x cs hx hm
    simp only [Option.mem_toList] at hm
    rcases h.own.2 with ⟨hv, _⟩ | ⟨g9, c9, cur9, hv, _, hg9, _⟩
    · rw [hv] at hm; cases hm
    · rw [hv] at hm
      injection hm with hm
      subst hm
      exact cells_ne hx hg9 (by decide) rfl
  refine ⟨g, cap, w1, hr, ⟨?_, ?_, ?_⟩, hgrow, hat⟩
  · rw [List.flatMap_append, List.length_append]
    simpa using hown
  · intro a ha2
    rw [List.mem_append, List.mem_singleton] at ha2
    have h9 : w.ownsRow B 5 1 a.2 a.1.bs.length (a.1.bs.map u8) ∧ (∀ x ∈ a.1.bs, x < 256) ∧ a.1.bs.length ≤ 140737488355328 := by
      rcases ha2 with h1 | rfl
      · exact h.el a h1
      · exact ho
    refine ⟨k1.owns h9.1 ?_, h9.2⟩
    intro x hx
    obtain ⟨cs, hc⟩ := owns_cells h9.1 (own_blk hx)
    exact hty hc
  · rw [List.pairwise_append]
    exact ⟨h.ap, List.pairwise_singleton _ _, by intro a h1 b h2; rw [List.mem_singleton] at h2; subst h2; exact ha a h1⟩

theorem look_ptr1 {w : World} {b n : Nat} {D : DataW Unit} {f : List UInt8 → Option Nat} (hown : w.ownsMap Try.prog 9 ptrElem b n D) (hD : MapIs D f) (s : ByteArray) (hk : keyOf Try.prog 9 (.string s) = some (.string s.data.toList)) {g : Nat} (hg : f s.data.toList = some g) :
    (Instr.lookup 77 (.map (some b)) (.string s) false).run Try.prog w = .ok (.pointer (some ⟨g, 0, none⟩)) w := by
  obtain ⟨v, ps, hrun, hv⟩ := hown.lookup keyS Try.underlying77 (zeroPF _) ptrElem_nil hk
  rw [(hD _).2, hg] at hv
  rw [hrun]
  rcases ptrElem_inv hv with ⟨rfl, h⟩ | ⟨g', rfl, h⟩
  · simp at h
  · simp at h
    have : g = g' := by omega
    subst this
    rfl
theorem wp_appendFl {o : Oper} {a : Act} {w : World} {K : Act → World → Prop} {Q : Exit → Act → World → Prop} {s x : Operand} (ho : o.op = .call { callee := .builtin .append, args := #[s, x], argTypes := #[22, 22] }) (hty : o.type = 22) {v u r : Value} {w1 : World} (hs : a.eval s = v) (hx : a.eval x = u)
    (hrun : (Builtin.append_ #[22, 22] 22 #[v, u]).run Try.prog w = .ok r w1) (hK : K (a.put o.dst r) w1) : o.wp Try.prog a w K Q := by
  unfold Oper.wp execOp
  simp only [ho, hty, resolve, invoke, builtin, Sem.run_bind, Sem.run_pure, Result.andThen_ok, List.map_toArray, List.map_cons, List.map_nil, hs, hx, hrun]
  exact hK
end Go.Proofs.Ytlopdlcepmmjdaa
namespace Go.Proofs.Ytlopdlcepmmjdaa
open Go.RowKit Go.BigFrame Go.Maps Go.Sort
set_option linter.unusedVariables false
set_option linter.unusedSimpArgs false

def toDF (f : IFile) : DF := ⟨f.nm, f.bs, f.sy.toNat, f.nd⟩
theorem formed_lt {l : List IFile} (h : FormedL l) : ∀ (j i : Nat) (hj : j < l.length) (hi : i < j), l[i].nm.data.toList < l[j].nm.data.toList := by
  intro j
  induction j with
  | zero => intro i hj hi; omega
  | succ j ih =>
    intro i hj hi
    have h1 := (h (j + 1) hj).2.2.2 (by omega)
    by_cases hij : i = j
    · subst hij
      exact h1
    · exact List.lt_trans (ih i (by omega) (by omega)) h1
theorem formed_dist {l : List IFile} (h : FormedL l) : Dist (l.map toDF) := by
  unfold Dist
  rw [List.pairwise_map, List.pairwise_iff_getElem]
  intro i j hi hj hij e
  have h1 := formed_lt h j i hj hij
  have e2 : l[i].nm = l[j].nm := e
  rw [e2] at h1
  exact List.lt_irrefl _ h1

set_option maxRecDepth 100000 in
set_option maxHeartbeats 1000000 in
theorem from_arg (sec : Int) (v : Value) (w : World) (h : sec < 1 ∨ 4096 < sec) :
    Calls Try.prog 8 #[.int .i64 sec, v] w fun e w' => e = .returned (.tuple #[.pointer none, .int .i64 1]) ∧ w' = w := by
  by_cases h1 : sec < 1
  · clear h
    go_enter Try.func8, Try.ntmps8
    go_wp2_with fail
    go_ret2
    exact ⟨rfl, rfl⟩
  · have h2 : 4096 < sec := by omega
    clear h
    go_enter Try.func8, Try.ntmps8
    go_wp2_with fail
    go_ret2
    exact ⟨rfl, rfl⟩

set_option maxRecDepth 100000 in
set_option maxHeartbeats 1000000 in
theorem from_form (sec : Int) (v : Value) (l : List IFile) (w : World) (h1 : 1 ≤ sec) (h2 : sec ≤ 4096) (h : RdC 4 w v (l.map ifC)) (ho : ∀ f ∈ l, OkIf w f) (hl : l.length ≤ 1048576) (hf : formedB l = false) :
    Calls Try.prog 8 #[.int .i64 sec, v] w fun e w' => e = .returned (.tuple #[.pointer none, .int .i64 3]) ∧ Kept [] w w' := by
  have HC := hide (formed_any v l w h ho hl)
  rw [hf] at HC
  have e1 : ¬ sec < 1 := by omega
  have e2 : ¬ 4096 < sec := by omega
  clear h ho hf h1 h2
  go_enter Try.func8, Try.ntmps8
  go_wp2_with fail
  refine Calls.mono (unhide HC) ?_
  rintro e w1 ⟨rfl, k1⟩
  have HK := hide k1
  clear k1
  go_wp2_with fail
  go_ret2
  exact ⟨rfl, unhide HK⟩

set_option maxRecDepth 100000 in
set_option maxHeartbeats 2000000 in
theorem from_ok (sec : Nat) (v : Value) (l : List IFile) (w : World) (h1 : 1 ≤ sec) (h2 : sec ≤ 4096) (h : RdC 4 w v (l.map ifC)) (ho : ∀ f ∈ l, OkIf w f) (hl : l.length ≤ 1048576) (hf : formedB l = true) :
    Calls Try.prog 8 #[.int .i64 sec, v] w fun e w' => ∃ d m u gs, e = .returned (.tuple #[.pointer (some ⟨d, 0, none⟩), .int .i64 0]) ∧ DkAt w' d sec m l.length u (.map none) 0 0 false (fun _ => none) gs ∧ gs.map absF = l.map toDF ∧ Kept [] w w' ∧ ∀ x ∈ dkB d m u (.map none) gs, w.heap.size ≤ x := by
  have HC := hide (formed_any v l w h ho hl)
  rw [hf] at HC
  have HF := hide ((formedB_iff l).1 hf)
  have e1 : ¬ (sec : Int) < 1 := by omega
  have e2 : ¬ 4096 < (sec : Int) := by omega
  obtain ⟨ao, len, cap, rfl, g1, g2, g3, g4⟩ := h
  rw [List.length_map] at g1
  subst g1
  have H4 := hide g4
  have HO := hide ho
  have HS := hide (And.intro h1 h2)
  clear g4 ho hf h1 h2
  go_enter Try.func8, Try.ntmps8
  go_wp2_with fail
  refine Calls.mono (unhide HC) ?_
  rintro e w1 ⟨rfl, k1⟩
  have HK1 := hide k1
  have hmm := run_makeMap (P := Try.prog) 77 w1
  clear k1
  go_wp2_with fail
  have k2 := (((Kept.refl [] w1).alloc (.map #[] 0)).alloc (.cells #[.int .i64 sec, .map (some w1.heap.size), .slice none 0 0, .map none, .int .i64 0, .int .i64 0, .bool false] 81 (0, 0)))
  have hrow := heap_alloc_new (w1.alloc (.map #[] 0)) (.cells #[.int .i64 sec, .map (some w1.heap.size), .slice none 0 0, .map none, .int .i64 0, .int .i64 0, .bool false] 81 (0, 0))
  rw [show (w1.alloc (.map #[] 0)).heap.size = w1.heap.size + 1 by simp] at hrow
  have HD0 := hide (⟨hrow, ⟨0, .map [], (World.ownsMap_made w1 Try.prog 9 ptrElem).alloc _, Nat.le_refl _, MapIs.empty⟩, Qr.nil _ _, .inl ⟨rfl, fun _ => rfl⟩, by simp, List.Pairwise.nil, by simp [mblk]⟩ : DkAt ((w1.alloc (.map #[] 0)).alloc (.cells #[.int .i64 sec, .map (some w1.heap.size), .slice none 0 0, .map none, .int .i64 0, .int .i64 0, .bool false] 81 (0, 0))) (w1.heap.size + 1) sec w1.heap.size 0 (.slice none 0 0) (.map none) 0 0 false (fun _ => none) [])
  have HK2 := hide ((unhide HK1).trans k2 (by simp))
  have HS1 := hide (unhide HK1).size
  clear hrow k2 hmm
  go_loopw [24] (fun t24 wr => ∃ (i : Nat) (u : Value) (gs : List DFile), i ≤ l.length ∧ t24 = .int .i64 i ∧ Hid (DkAt wr (w1.heap.size + 1) sec w1.heap.size i u (.map none) 0 0 false (fun _ => none) gs) ∧ Hid (gs.map absF = (l.take i).map toDF) ∧ Hid (Kept [] w wr) ∧ Hid (∀ x ∈ dkB (w1.heap.size + 1) w1.heap.size u (.map none) gs, w.heap.size ≤ x)) (fun t _ => l.length - (intOf t).toNat)
  case atStart => exact ⟨0, _, [], Nat.zero_le _, rfl, HD0, hide rfl, HK2, hide (by intro x hx; have := unhide HS1; simp [dkB, blk, mblk] at hx; omega)⟩
  case round =>
    obtain ⟨i, u, gs, hi, rfl, HD, HGS, HK, HB⟩ := hrel
    by_cases hlt : i < l.length
    · have hlt' : (i : Int) < l.length := by omega
      obtain ⟨b, off, rfl, hcc⟩ := unhide H4 (by omega)
      have hr := hcc i (by rw [List.length_map]; exact hlt)
      rw [List.getElem_map] at hr
      have p0 := (unhide HK).cell (hr 0 _ rfl) (by simp)
      have p1 := (unhide HK).cell (hr 1 _ rfl) (by simp)
      have p2 := (unhide HK).cell (hr 2 _ rfl) (by simp)
      have p3 := (unhide HK).cell (hr 3 _ rfl) (by simp)
      rw [Nat.add_zero] at p0
      have hof := unhide HO l[i] (List.getElem_mem hlt)
      have hok := unhide HF i hlt
      have HT := hide (List.take_succ_eq_append_getElem hlt)
      have HLK := hide (by
        refine look_no ?_
        rw [unhide HGS]
        unfold findA
        rw [List.find?_eq_none]
        intro x hx
        obtain ⟨a, ha, rfl⟩ := List.mem_map.1 hx
        obtain ⟨j, hj, rfl⟩ := List.getElem_of_mem ha
        have hj2 : j < i := by rw [List.length_take] at hj; omega
        rw [List.getElem_take]
        have h9 := formed_lt (unhide HF) i j hlt hj2
        intro e
        have e2 : l[j].nm.data.toList = l[i].nm.data.toList := by simpa [toDF] using e
        rw [e2] at h9
        exact List.lt_irrefl _ h9 : look gs l[i].nm.data.toList = none)
      have HGL := hide (by have := congrArg List.length (unhide HGS); rw [List.length_map, List.length_map, List.length_take] at this; omega : gs.length = i)
      clear hr hcc
      obtain ⟨va, vl, vc, hv⟩ := (show ∃ va vl vc, l[i].v = .slice va vl vc by obtain ⟨a, b, c, h9, _⟩ := hof.1; exact ⟨a, b, c, h9⟩)
      rw [hv] at p1
      have HRD := hide (by rw [← hv]; exact hof.1.kept (unhide HK) (by simp) : Rd wr (.slice va vl vc) l[i].bs)
      have HNS := hide hof.2.1
      have HNM := hide hok.1
      have hsy : l[i].sy = ((l[i].sy.toNat : Nat) : Int) := by have := hok.2.1; omega
      have HSL := hide (by have := hok.2.2.1; omega : l[i].sy.toNat ≤ l[i].bs.length)
      have HLN := hide (show l[i].bs.length ≤ 140737488355328 by obtain ⟨a, b, c, h9, h10, h11, h12, _⟩ := hof.1; omega)
      clear hof hok hv
      have HTD : Hid (toDF l[i] = ⟨l[i].nm, l[i].bs, l[i].sy.toNat, l[i].nd⟩) := hide rfl
      rw [hsy] at p2
      generalize l[i].sy.toNat = SY at p2 HSL HTD
      generalize l[i] = X at p0 p1 p2 p3 HT HLK HRD HNS HNM HSL HLN HTD
      clear hsy
      go_upto_region 9 with fail
      have HG1 := hide (heap_alloc_new wr (.cells #[.string X.nm, .slice va vl vc, .int .i64 (SY : Int), .bool X.nd] 54 (0, 0)))
      have HD1 := hide ((unhide HD).kept ((Kept.refl [] wr).alloc (.cells #[.string X.nm, .slice va vl vc, .int .i64 (SY : Int), .bool X.nd] 54 (0, 0))) (by simp))
      have HK1' := hide ((unhide HK).alloc (.cells #[.string X.nm, .slice va vl vc, .int .i64 (SY : Int), .bool X.nd] 54 (0, 0)))
      have HR1 := hide ((unhide HRD).kept ((Kept.refl [] wr).alloc (.cells #[.string X.nm, .slice va vl vc, .int .i64 (SY : Int), .bool X.nd] 54 (0, 0))) (by simp))
      obtain ⟨W1, hW1⟩ : ∃ W, wr.alloc (.cells #[.string X.nm, .slice va vl vc, .int .i64 (SY : Int), .bool X.nd] 54 (0, 0)) = W := ⟨_, rfl⟩
      rw [hW1] at HG1 HD1 HK1' HR1 ⊢
      clear hW1 p0 p1 p2 p3 HD HRD
      have HGX := hide (by
        intro hx
        simp only [List.mem_cons] at hx
        rcases hx with hx | hx | hx
        · exact cells_ne (unhide HG1) (unhide HD1).row (by decide) hx
        · obtain ⟨n9, D9, ho9, _⟩ := (unhide HD1).map
          exact map_ne ho9 (unhide HG1) hx
        · obtain ⟨cs, hc⟩ := qr_cells (unhide HD1).un hx
          exact cells_ne (unhide HG1) hc (by decide) rfl : wr.heap.size ∉ (w1.heap.size + 1) :: w1.heap.size :: blk u)
      refine wp_fr13 (by kernel_rfl) (by kernel_rfl) (by kernel_rfl) (by kernel_rfl) (by kernel_rfl) (by kernel_rfl) (by kernel_rfl) (by kernel_rfl) (by kernel_rfl) (by kernel_rfl) (by kernel_rfl) (by kernel_rfl) (by kernel_rfl) (by kernel_rfl) (by kernel_rfl) (by kernel_rfl) (by kernel_rfl) (by kernel_rfl) (by kernel_rfl) (by kernel_rfl) (by kernel_rfl) (by kernel_rfl) (by kernel_rfl) (by kernel_rfl) (by kernel_rfl) (by kernel_rfl) rfl rfl rfl
        (.pointer (some ⟨w1.heap.size + 1, 0, none⟩)) (.pointer (some ⟨wr.heap.size, 0, none⟩)) (.string X.nm) (.pointer (some ⟨wr.heap.size, 1, none⟩)) (.slice va vl vc) (.pointer (some ⟨wr.heap.size, 2, none⟩)) (.int .i64 (SY : Int)) (.pointer (some ⟨wr.heap.size, 3, none⟩)) (.bool X.nd) _ _ _ _ _ _ _ _ _
        (fun w' => w'.heap[wr.heap.size]? = some (.cells #[.string X.nm, .slice va vl vc, .int .i64 (SY : Int), .bool X.nd] 54 (0, 0)))
        (fun w' => Kept [] W1 w')
        (fun u5 w' => (∃ g, u5 = .slice (some ⟨g, 0, none⟩) X.bs.length X.bs.length ∧ W1.heap.size ≤ g ∧ w'.heap[g]? = some (.cells (X.bs.map Go.Proofs.Ytlopdlcepmmjdaa.u8).toArray 5 (0, 0))) ∧ Kept [] W1 w')
        (fun u5 u11 w' => (∃ g, u5 = .slice (some ⟨g, 0, none⟩) X.bs.length X.bs.length ∧ W1.heap.size ≤ g ∧ w'.heap[g]? = some (.cells (X.bs.map Go.Proofs.Ytlopdlcepmmjdaa.u8).toArray 5 (0, 0))) ∧ (∃ G, u11 = .pointer (some ⟨G, 0, none⟩) ∧ W1.heap.size ≤ G ∧ w'.heap[G]? = some (.cells #[.string X.nm, u5, .int .i64 (SY : Int), .bool X.nd] 86 (0, 0))) ∧ Kept [] W1 w')
        (fun u5 u11 u12 w' => ∃ (u' : Value) (F : DFile), u12 = .tuple #[] ∧ absF F = toDF X ∧ DkAt w' (w1.heap.size + 1) sec w1.heap.size (i + 1) u' (.map none) 0 0 false (fun _ => none) (gs ++ [F]) ∧ Kept ((w1.heap.size + 1) :: w1.heap.size :: blk u) W1 w' ∧ (∀ x ∈ blk u', x ∈ blk u ∨ W1.heap.size ≤ x) ∧ (∀ x ∈ F.g :: blk F.v, W1.heap.size ≤ x))
        (fun u5 => .agg #[.string X.nm, u5, .int .i64 (SY : Int), .bool X.nd])
        (by simp only [Act.put, List.setIfInBounds_toArray, List.set_cons_zero, List.set_cons_succ]; rfl) (by exact Or.inl ⟨by rfl, fun W' hW' => by go_simp⟩)
        (by simp only [Act.put, List.setIfInBounds_toArray, List.set_cons_zero, List.set_cons_succ]; rfl) (by exact Or.inl ⟨by rfl, fun W' hW' => by go_simp⟩)
        (by simp only [Act.put, List.setIfInBounds_toArray, List.set_cons_zero, List.set_cons_succ]; rfl) (by exact Or.inl ⟨by rfl, fun W' hW' => by have h9 := cell_of_row _ _ 0 _ _ _ hW'; simp at h9; go_simp⟩)
        (by simp only [Act.put, List.setIfInBounds_toArray, List.set_cons_zero, List.set_cons_succ]; rfl) (by exact Or.inl ⟨by rfl, fun W' hW' => by go_simp⟩)
        (by simp only [Act.put, List.setIfInBounds_toArray, List.set_cons_zero, List.set_cons_succ]; rfl) (by exact Or.inl ⟨by rfl, fun W' hW' => by have h9 := cell_of_row _ _ 1 _ _ _ hW'; simp at h9; go_simp⟩)
        (by simp only [Act.put, List.setIfInBounds_toArray, List.set_cons_zero, List.set_cons_succ]; rfl) (by exact Or.inl ⟨by rfl, fun W' hW' => by go_simp⟩)
        (by simp only [Act.put, List.setIfInBounds_toArray, List.set_cons_zero, List.set_cons_succ]; rfl) (by exact Or.inl ⟨by rfl, fun W' hW' => by have h9 := cell_of_row _ _ 2 _ _ _ hW'; simp at h9; go_simp⟩)
        (by simp only [Act.put, List.setIfInBounds_toArray, List.set_cons_zero, List.set_cons_succ]; rfl) (by exact Or.inl ⟨by rfl, fun W' hW' => by go_simp⟩)
        (by simp only [Act.put, List.setIfInBounds_toArray, List.set_cons_zero, List.set_cons_succ]; rfl) (by exact Or.inl ⟨by rfl, fun W' hW' => by have h9 := cell_of_row _ _ 3 _ _ _ hW'; simp at h9; go_simp⟩)
        (Kept.refl [] W1).drew
        ⟨fun w' h => h.heap (unhide HG1) (by simp), fun u5 w' h => h.2.heap (unhide HG1) (by simp), fun u5 u11 w' h => h.2.2.heap (unhide HG1) (by simp), fun u5 u11 u12 w' h => by obtain ⟨u', F, _, _, _, k9, _⟩ := h; exact k9.heap (unhide HG1) (unhide HGX)⟩
        (by
          intro w' k K hK
          refine wp_callN rfl Try.call36 [.slice va vl vc] rfl (dcloned_any _ X.bs w' ((unhide HR1).kept k (by simp))) ?_
          rintro e w2 ⟨rfl, k2, h2⟩
          exact ⟨_, rfl, hK _ _ ⟨⟨_, rfl, k.size, h2⟩, k.trans k2 (by simp)⟩⟩)
        (by
          rintro u5 w' ⟨⟨g, rfl, hg, hh⟩, k⟩ K hK
          simp only [Act.put, List.setIfInBounds_toArray, List.set_cons_zero, List.set_cons_succ] at hK ⊢
          unfold Oper.wp execOp
          go_simp
          exact hK _ _ ⟨⟨_, rfl, hg, ((Kept.refl [] w').alloc _).heap hh (by simp)⟩, ⟨_, rfl, k.size, heap_alloc_new _ _⟩, k.alloc _⟩)
        (by
          rintro u5 u11 w' ⟨⟨g, rfl, hg, hh⟩, ⟨G, rfl, hG, hGG⟩, k⟩ K hK
          refine wp_callN rfl Try.call35 [.pointer (some ⟨w1.heap.size + 1, 0, none⟩), .pointer (some ⟨G, 0, none⟩)] rfl (add_any (w1.heap.size + 1) sec w1.heap.size i ⟨G, X.nm, .slice (some ⟨g, 0, none⟩) X.bs.length X.bs.length, X.bs, SY, X.nd⟩ w' u (.map none) 0 0 false (fun _ => none) gs ((unhide HD1).kept k (by simp)) ⟨hGG, owns_fresh hh (unhide HLN) (Nat.zero_le _), (unhide HR1).byte, unhide HSL⟩ (by omega) (by have := unhide HGL; omega) (by have := unhide HNS; show X.nm.size ≤ _; omega) (unhide HLK) ?_) ?_
          · intro a ha
            have h8 := (unhide HD1).lt a.g (dkB_g ha)
            refine ⟨by show a.g ≠ G; omega, ?_⟩
            intro x hx hy
            simp only [blk, List.mem_singleton] at hy
            have h7 := (unhide HD1).lt x (dkB_v ha hx)
            omega
          · rintro e w2 ⟨u', rfl, hd2, hk2, hu2⟩
            refine ⟨_, rfl, hK _ _ ⟨u', _, rfl, by rw [unhide HTD]; rfl, hd2, (k.mono (by simp)).trans hk2 (fun x hx => .inl hx), ?_, ?_⟩⟩
            · intro x hx
              rcases hu2 x hx with h9 | h9
              · exact .inl h9
              · exact .inr (Nat.le_trans k.size h9)
            · intro x hx
              simp only [blk, List.mem_cons, List.not_mem_nil, or_false] at hx
              rcases hx with rfl | rfl
              · exact hG
              · exact hg)
        (by rintro u5 w' ⟨⟨g, rfl, hg, hh⟩, k⟩; exact Or.inl ⟨by rfl, fun W' hW' => by go_simp⟩)
        ?_
      rintro u5 u11 u12 w5 ⟨u', F, rfl, hF, hd5, hk5, hu5, hF5⟩
      simp only [Act.put, List.setIfInBounds_toArray, List.set_cons_zero, List.set_cons_succ]
      have hsz := (unhide HK1').size
      have HD5 := hide hd5
      have HGS5 := hide (by rw [List.map_append, unhide HGS, unhide HT, List.map_append]; simp [hF] : (gs ++ [F]).map absF = (l.take (i + 1)).map toDF)
      have HK5 := hide ((unhide HK1').trans hk5 (by intro x hx; right; exact unhide HB x (by simp only [List.mem_cons] at hx; rcases hx with h | h | h <;> simp [dkB, h])))
      have HB5 := hide (by
        intro x hx
        simp only [dkB, mblk, List.mem_cons, List.mem_append, List.mem_flatMap, List.not_mem_nil, or_false, List.mem_singleton] at hx
        rcases hx with hx | hx | hx | ⟨a, ha, hx⟩
        · exact unhide HB x (by simp [dkB, hx])
        · exact unhide HB x (by simp [dkB, hx])
        · rcases hu5 x hx with h9 | h9
          · exact unhide HB x (by simp [dkB, h9])
          · omega
        · rcases ha with ha | rfl
          · rcases hx with rfl | hx
            · exact unhide HB _ (dkB_g ha)
            · exact unhide HB x (dkB_v ha hx)
          · have := hF5 x (by simpa using hx)
            omega : ∀ x ∈ dkB (w1.heap.size + 1) w1.heap.size u' (.map none) (gs ++ [F]), w.heap.size ≤ x)
      clear hF hd5 hk5 hu5 hF5 hsz
      go_wp2_with fail
      refine ⟨⟨i + 1, u', gs ++ [F], by omega, by simp, HD5, HGS5, HK5, HB5⟩, ?_⟩
      simp [intOf]; omega
    · have hlt' : ¬ (i : Int) < l.length := by omega
      have hie : i = l.length := by omega
      subst hie
      rw [List.take_length] at HGS
      go_wp2_with fail
      go_ret2
      exact ⟨_, rfl, _, u, gs, unhide HD, unhide HGS, unhide HK, unhide HB⟩
end Go.Proofs.Ytlopdlcepmmjdaa
namespace Go.Proofs.Ytlopdlcepmmjdaa
open Go.RowKit Go.BigFrame Go.Maps
set_option linter.unusedVariables false
set_option linter.unusedSimpArgs false

def MapF (D : DataW Unit) (ft : Int → Option Int) : Prop := ∀ a, Maps.has D (.int .i64 a) = (ft a).isSome ∧ ∀ z, D.atKey (.int .i64 a) z = match ft a with | none => z | some c => .lit (.int .i64 c)
theorem MapF.empty : MapF (.map []) (fun _ => none) := fun s => ⟨rfl, fun z => Maps.atKey_of_not_has rfl z⟩
theorem MapF.put {D : DataW Unit} {f : Int → Option Int} (h : MapF D f) (hm : Maps.IsMap D) (a : Int) (hk : WideAt.IsKeyLit (.int .i64 a)) (c : Int) :
    MapF (D.put (.int .i64 a) (.lit (.int .i64 c))) (fun t => if t = a then some c else f t) := by
  intro t
  by_cases ht : t = a
  · subst ht
    simp only [if_true]
    exact ⟨Maps.has_put_same hm hk _, fun z => Maps.atKey_put_same hm hk _ z⟩
  · have hne : Lit.int .i64 t ≠ Lit.int .i64 a := by simpa using ht
    simp only [if_neg ht]
    exact ⟨by rw [Maps.has_put_other hne]; exact (h t).1, fun z => by rw [Maps.atKey_put_other hne]; exact (h t).2 z⟩
theorem fstF_snoc (ks : List (Int × Int)) (k : Int × Int) (s : Int) : fstF (ks ++ [k]) s = if (fstF ks s).isSome then fstF ks s else if s = k.1 then some k.2 else none := by
  unfold fstF
  rw [List.find?_append]
  cases List.find? (fun x => x.1 == s) ks with
  | some x => rfl
  | none =>
    simp only [Option.none_or, Option.map_none, Option.isSome_none, Bool.false_eq_true, if_false]
    by_cases h : s = k.1
    · subst h; simp
    · rw [if_neg h]
      have : (k.1 == s) = false := by simpa using fun e => h e.symm
      simp [this]
theorem fstF_put {ks : List (Int × Int)} {k : Int × Int} (h : fstF ks k.1 = none) : (fun t => if t = k.1 then some k.2 else fstF ks t) = fstF (ks ++ [k]) := by
  funext t
  rw [fstF_snoc]
  by_cases ht : t = k.1
  · subst ht; rw [if_pos rfl, h]; simp
  · rw [if_neg ht, if_neg ht]
    cases fstF ks t <;> rfl
theorem fstF_same {ks : List (Int × Int)} {k : Int × Int} (h : (fstF ks k.1).isSome = true) : fstF (ks ++ [k]) = fstF ks := by
  funext t
  rw [fstF_snoc]
  by_cases ht : t = k.1
  · subst ht; rw [if_pos h]
  · rw [if_neg ht]
    cases fstF ks t <;> rfl
theorem wf_rng {x : Int} (h : Rng x) : (Lit.int .i64 x).wf = true := by
  unfold Rng at h
  simp [Lit.wf, IntKind.min, IntKind.max, IntKind.signed, IntKind.bits]
  omega

set_option maxRecDepth 100000 in
set_option maxHeartbeats 2000000 in
theorem plan_any (d sec m N : Nat) (lv : Value) (fl : List (Int × Int)) (crash : Int) (w : World) (u fv : Value) (cr op : Int) (off : Bool) (ft : Int → Option Int) (fs : List DFile)
    (h : DkAt w d sec m N u fv cr op off ft fs) (hfl : RdC 2 w lv (fl.map faC)) (hfd : d ∉ zblk lv (fl.map faC)) (hfo : ∀ x ∈ fl, OkFa x) (hll : fl.length ≤ 1048576) :
    Calls Try.prog 24 #[.pointer (some ⟨d, 0, none⟩), lv, .int .i64 crash] w fun e w' => ∃ M, e = .returned (.tuple #[]) ∧ w.heap.size ≤ M ∧ DkAt w' d sec m (N + fl.length) u (.map (some M)) crash 0 off (fstF fl) fs ∧ Kept [d] w w' := by
  have HD := hide h
  obtain ⟨ao, len, cap, rfl, g1, g2, g3, g4⟩ := hfl
  rw [List.length_map] at g1
  subst g1
  have H4 := hide g4
  have HFO := hide hfo
  have HFD := hide hfd
  have hrow := h.row
  unfold DRow at hrow
  have HR := hide hrow
  have c3 := cell_of_row _ _ 3 _ _ _ hrow
  have c4 := cell_of_row _ _ 4 _ _ _ hrow
  have c5 := cell_of_row _ _ 5 _ _ _ hrow
  simp at c3 c4 c5
  have z3 := frozen_of_row _ _ 3 _ _ hrow
  have z4 := frozen_of_row _ _ 4 _ _ hrow
  have z5 := frozen_of_row _ _ 5 _ _ hrow
  clear h g4 hfo hfd hrow
  go_enter Try.func24, Try.ntmps24
  go_wp2_with fail
  refine Calls.mono (dnone_any d w sec m u fv cr op off (unhide HD).row) ?_
  rintro e w1 ⟨rfl, rfl⟩
  go_upto_region 2 with fail
  have HR1 := hide (heap_setCell_same _ _ 4 _ _ (.int .i64 crash) (heap_setCell_same w1 _ 5 _ _ (.int .i64 0) (unhide HR)))
  have HK1 := hide (((Kept.refl [d] w1).setCell (p := ⟨d, 5, none⟩) (.inl (by simp)) (.int .i64 0)).setCell (p := ⟨d, 4, none⟩) (.inl (by simp)) (.int .i64 crash))
  obtain ⟨W1, hW1⟩ : ∃ W, (w1.setCell ⟨d, 5, none⟩ (.int .i64 0)).setCell ⟨d, 4, none⟩ (.int .i64 crash) = W := ⟨_, rfl⟩
  rw [hW1] at HR1 HK1 ⊢
  clear hW1 c3 c4 c5 z3 z4 z5
  have hmm := run_makeMap (P := Try.prog) 79 W1
  have HK2 := hide ((unhide HK1).alloc (.map #[] 0))
  have HR2 := hide (((Kept.refl [] W1).alloc (.map #[] 0)).heap (unhide HR1) (by simp))
  have c3 : (W1.alloc (.map #[] 0)).cell? ⟨d, 3, none⟩ = some fv := by have h9 := cell_of_row _ _ 3 _ _ _ (unhide HR2); simp at h9; exact h9
  have z3 := frozen_of_row _ _ 3 _ _ (unhide HR2)
  go_wp2_with fail
  have HR3 := hide (heap_setCell_same _ _ 3 _ _ (.map (some W1.heap.size)) (unhide HR2))
  have HK3 := hide ((unhide HK2).setCell (p := ⟨d, 3, none⟩) (.inl (by simp)) (.map (some W1.heap.size)))
  have HDM := hide (by have := lt_of_block (unhide HR1); omega : W1.heap.size ≠ d)
  have HO3 := hide ((World.ownsMap_made W1 Try.prog 3 (plainElem (H := Unit) Try.prog 3)).setCell (a := ⟨d, 3, none⟩) (unhide HDM) (.map (some W1.heap.size)))
  obtain ⟨W3, hW3⟩ : ∃ W, (W1.alloc (.map #[] 0)).setCell ⟨d, 3, none⟩ (.map (some W1.heap.size)) = W := ⟨_, rfl⟩
  rw [hW3] at HR3 HK3 HO3 ⊢
  clear hW3 c3 z3 hmm
  have HMS := hide (by have := (unhide HK1).size; omega : w1.heap.size ≤ W1.heap.size)
  generalize hMM : W1.heap.size = M at *
  have HRR := hide (unhide HR3)
  go_loopw [25] (fun t25 wr => ∃ (i : Nat) (D : DataW Unit), i ≤ fl.length ∧ t25 = .int .i64 i ∧ Hid (wr.ownsMap Try.prog 3 (plainElem Try.prog 3) M i D) ∧ Hid (MapF D (fstF (fl.take i))) ∧ Hid (Kept [d] w1 wr) ∧ Hid (wr.heap[d]? = W3.heap[d]?)) (fun t _ => fl.length - (intOf t).toNat)
  case atStart => exact ⟨0, .map [], Nat.zero_le _, rfl, HO3, hide MapF.empty, HK3, hide rfl⟩
  case round =>
    obtain ⟨i, D, hi, rfl, HO, HMF, HK, HE⟩ := hrel
    have HRW := hide ((unhide HE).trans (unhide HR3))
    by_cases hlt : i < fl.length
    · have hlt' : (i : Int) < fl.length := by omega
      obtain ⟨b, off', rfl, hcc⟩ := unhide H4 (by omega)
      have hr := hcc i (by rw [List.length_map]; exact hlt)
      rw [List.getElem_map] at hr
      have hbd : b ∉ [d] := by
        intro hx
        simp only [List.mem_singleton] at hx
        exact unhide HFD (zblk_of (by simp [blk, hx]) (by intro e; simp at e; subst e; simp at hlt))
      have p0 := (unhide HK).cell (hr 0 _ rfl) hbd
      have p1 := (unhide HK).cell (hr 1 _ rfl) hbd
      rw [Nat.add_zero] at p0
      have HT := hide (List.take_succ_eq_append_getElem hlt)
      have hX := unhide HFO fl[i] (List.getElem_mem hlt)
      clear hcc hr hbd
      generalize fl[i] = X at p0 p1 HT hX
      have HX := hide hX
      clear hX
      go_upto_region 6 with fail
      have HG1 := hide (heap_alloc_new wr (.cells #[.int .i64 X.1, .int .i64 X.2] 104 (0, 0)))
      have HOa := hide ((unhide HO).alloc (.cells #[.int .i64 X.1, .int .i64 X.2] 104 (0, 0)))
      have HKa := hide ((unhide HK).alloc (.cells #[.int .i64 X.1, .int .i64 X.2] 104 (0, 0)))
      have HRa := hide (((Kept.refl [] wr).alloc (.cells #[.int .i64 X.1, .int .i64 X.2] 104 (0, 0))).heap (unhide HRW) (by simp))
      obtain ⟨V, hV⟩ : ∃ W, wr.alloc (.cells #[.int .i64 X.1, .int .i64 X.2] 104 (0, 0)) = W := ⟨_, rfl⟩
      rw [hV] at HG1 HOa HKa HRa ⊢
      clear hV p0 p1
      have q0 := cell_of_row _ _ 0 _ _ _ (unhide HG1)
      have q1 := cell_of_row _ _ 1 _ _ _ (unhide HG1)
      have c3 := cell_of_row _ _ 3 _ _ _ (unhide HRa)
      simp at q0 q1 c3
      have hkey := Maps.keyOf_int_mk (P := Try.prog) (k := 3) Try.underlying3 (a := X.1) (wf_rng (unhide HX).1)
      have hlk := fun j : Nat => look_faults (ft := fstF (fl.take i)) (ownsMap_heap (w' := V.drewN j) (unhide HOa) rfl) (unhide HMF) X.1 hkey
      have HKEY := hide hkey
      clear hkey
      cases hfs : fstF (fl.take i) X.1 with
      | some Y =>
        rw [hfs] at hlk
        simp only [Option.getD_some, Option.isSome_some] at hlk
        have HFS := hide hfs
        clear hfs
        refine wp_region_quiet_lit (by kernel_rfl) (by kernel_rfl) ?_
        repeat (go_big_quiet_step (fail))
        refine wpQuiet_nil ?_
        rintro _ ⟨n5, rfl⟩
        clear hlk q0 q1 c3
        go_wp2_with fail
        refine ⟨⟨i + 1, D, by omega, by simp, hide ((unhide HOa).mono (Nat.le_succ _)), hide ?_, hide ((unhide HKa).drewN n5), hide ?_⟩, ?_⟩
        · rw [unhide HT, fstF_same (by rw [unhide HFS]; rfl)]
          exact unhide HMF
        · exact (unhide HRa).trans (unhide HR3).symm
        · simp [intOf]; omega
      | none =>
        rw [hfs] at hlk
        simp only [Option.getD_none, Option.isSome_none] at hlk
        have HFS := hide hfs
        clear hfs
        refine wp_region_quiet_lit (by kernel_rfl) (by kernel_rfl) ?_
        repeat (go_big_quiet_step (fail))
        refine wpQuiet_nil ?_
        rintro _ ⟨n5, rfl⟩
        clear hlk
        go_upto_region 8 with fail
        refine wp_quiet_tail 8 (by kernel_rfl) (by kernel_rfl) ?_
        simp only [List.take_succ_cons, List.take_zero, List.drop_succ_cons, List.drop_zero]
        repeat (go_big_quiet_step (fail))
        refine wpQuiet_nil ?_
        rintro _ ⟨n6, rfl⟩
        clear q0 q1 c3
        at_mapUpdate
        refine wpList_mapUpdate_in _ rfl _ _ _ 79 rfl 3 3 keyI Try.underlying79 (plainElem Try.prog 3) M i D rfl (ownsMap_heap (unhide HOa) rfl) (by unfold maxLen; omega) _ _ _ rfl rfl (unhide HKEY) _ _ (plainElem_int Try.underlying3 (wf_rng (unhide HX).2)) ?_
        intro w7 hown7 hturn7
        have HO7 := hide hown7
        have HK7 := hide ((((unhide HKa).drewN (n5 + n6))).grown (by simpa [drewN_drewN] using hturn7.grown) (by intro k hk; injection hk with hk; subst hk; exact .inr (unhide HMS)))
        have HE7 := hide ((hturn7.grown.block d (lt_of_block (unhide HRa)) (by simpa using fun e => unhide HDM e.symm)).trans ((unhide HRa).trans (unhide HR3).symm))
        clear hown7 hturn7
        go_wp2_with fail
        refine ⟨⟨i + 1, _, by omega, by simp, HO7, hide ?_, HK7, HE7⟩, ?_⟩
        · rw [unhide HT, ← fstF_put (unhide HFS)]
          exact (unhide HMF).put (unhide HO).isMap _ trivial X.2
        · simp [intOf]; omega
    · have hlt' : ¬ (i : Int) < fl.length := by omega
      have hie : i = fl.length := by omega
      subst hie
      rw [List.take_length] at HMF
      go_wp2_with fail
      refine bodyPost_end (v := .tuple #[]) (results_none rfl _ _ _) rfl ⟨rfl, M, unhide HMS, ((unhide HD).more (Nat.le_add_right N fl.length)).turnedF (unhide HK) (unhide HRW) (.inr ⟨M, _, D, rfl, unhide HO, Nat.le_add_left _ _, unhide HMF⟩) ?_, unhide HK⟩
      simp only [mblk, List.mem_singleton]
      intro e
      obtain ⟨n9, D9, ho9, _⟩ := (unhide HD).map
      have := ho9.lt
      have := unhide HMS
      omega
end Go.Proofs.Ytlopdlcepmmjdaa
namespace Go.Proofs.Ytlopdlcepmmjdaa
open Go.RowKit Go.BigFrame Go.Maps Go.Sort
set_option linter.unusedVariables false
set_option linter.unusedSimpArgs false

set_option maxRecDepth 100000 in
set_option maxHeartbeats 2000000 in
theorem files_any (d sec m N : Nat) (w : World) (u fv : Value) (cr op : Int) (off : Bool) (ft : Int → Option Int) (fs : List DFile) (h : DkAt w d sec m N u fv cr op off ft fs) (hd : Dist (fs.map absF)) (hN : N ≤ 1000000000) (hfs : fs.length ≤ 1000000000) (hfb : ∀ f ∈ fs, f.bs.length ≤ 140737488350000) (hfn : ∀ f ∈ fs, f.nm.size ≤ 40) :
    Calls Try.prog 26 #[.pointer (some ⟨d, 0, none⟩)] w fun e w' => ∃ v ts, e = .returned v ∧ OwnFl w.heap.size w' v ts ∧ ts.map Prod.fst = srtA (fs.map absF) ∧ Kept [] w w' := by
  have HD := hide h
  have HDI := hide hd
  have HFB := hide hfb
  have HFN0 := hide hfn
  have HSO := hide (sorted_any d sec m N w u fv cr op off ft fs h hd hN)
  have HLN := hide (by rw [srtA_len, List.length_map] : (srtA (fs.map absF)).length = fs.length)
  have HNM := hide (srtA_names hd)
  have HMM := hide (fun x (hx : x ∈ srtA (fs.map absF)) => srtA_mem.1 hx)
  generalize srtA (fs.map absF) = SA at HLN HNM HMM ⊢
  have HNL := hide (by rw [← unhide HNM, List.length_map] : (srtN (fs.map absF)).length = SA.length)
  generalize srtN (fs.map absF) = SS at HSO HNM HNL
  clear h hd hfb hfn
  go_enter Try.func26, Try.ntmps26
  go_wp2_with fail
  refine Calls.mono (dnone_any d w sec m u fv cr op off (unhide HD).row) ?_
  rintro e w1 ⟨rfl, rfl⟩
  go_wp2_with fail
  refine Calls.mono (unhide HSO) ?_
  rintro e w2 ⟨nv, rfl, ho, hk⟩
  rw [unhide HNL] at ho
  have HO := hide ho
  have HK2 := hide hk
  obtain ⟨na, nl, nc, rfl, hn1, hn2, hn3, hn4⟩ : RdS w2 nv SS := rds_owns (by rw [unhide HNL]; exact ho)
  rw [unhide HNL] at hn1
  subst hn1
  have HN4 := hide hn4
  have HLB := hide (by rw [unhide HLN]; exact hfs : SA.length ≤ 1000000000)
  clear ho hk hn4
  go_wp2_with fail
  go_loopw [3, 12] (fun v t12 wr => ∃ (i : Nat) (ts : List (DF × Value)), i ≤ SA.length ∧ t12 = .int .i64 i ∧ Hid (OwnFl w1.heap.size wr v ts) ∧ Hid (ts.map Prod.fst = SA.take i) ∧ Hid (Kept [] w1 wr) ∧ Hid (wr.ownsRow w1.heap.size 9 1 (.slice na SA.length nc) SA.length (SS.map encStr))) (fun _ t _ => SA.length - (intOf t).toNat)
  case atStart => exact ⟨0, [], Nat.zero_le _, rfl, hide (OwnFl.nil _ _), hide rfl, HK2, HO⟩
  case round =>
    obtain ⟨i, ts, hi, rfl, HOW, HTS, HK, HNO⟩ := hrel
    obtain ⟨va, vl, vc, hv⟩ : ∃ va vl vc, u3 = .slice va vl vc := by
      obtain ⟨a, l, c, h9, _⟩ := (unhide HOW).rd.1
      exact ⟨a, l, c, h9⟩
    subst hv
    have HTL := hide (by have := congrArg List.length (unhide HTS); rw [List.length_map, List.length_take] at this; omega : ts.length = i)
    have HLB2 := hide (unhide HLB)
    by_cases hlt : i < SA.length
    · have hlt' : (i : Int) < SA.length := by omega
      obtain ⟨ao', len', cap', e9, g1, g2, g3, g4⟩ := rds_owns (by rw [unhide HNL]; exact unhide HNO : wr.ownsRow w1.heap.size 9 1 (.slice na SA.length nc) SS.length (SS.map encStr))
      injection e9 with e1 e2 e3
      subst e1 e2 e3
      obtain ⟨nb, no, rfl, hcc⟩ := g4 (by omega)
      have hsi : i < SS.length := by rw [unhide HNL]; exact hlt
      have c0 := hcc i hsi
      have hX : SS[i] = SA[i].nm.data.toList := by
        have h9 := congrArg (fun l => l[i]?) (unhide HNM)
        simp only [List.getElem?_map, List.getElem?_eq_getElem hlt, List.getElem?_eq_getElem hsi, Option.map_some, Option.some.injEq] at h9
        exact h9.symm
      rw [hX] at c0
      have HT := hide (List.take_succ_eq_append_getElem hlt)
      have hXm := unhide HMM SA[i] (List.getElem_mem hlt)
      clear hcc hX hsi g1 g4
      generalize SA[i] = X at c0 HT hXm
      obtain ⟨f, hfm, rfl⟩ := List.mem_map.1 hXm
      rw [show encStr (absF f).nm.data.toList = Value.string f.nm from rfl] at c0
      have hlook : look fs f.nm.data.toList = some f.g := by
        obtain ⟨f', hf', hl', ha', _⟩ := look_file (findA_of (unhide HDI) hXm)
        have h8 : f' = f := dist_eq (unhide HDI) hf' hfm (congrArg DF.nm ha')
        rw [← h8]
        rw [h8] at hl' ⊢
        exact hl'
      obtain ⟨n9, D9, ho9, hn9, hD9⟩ := (unhide HD).map
      have hkey := WideMaps.keyOf_string_mk Try.underlying9 (s := f.nm) (by have := unhide HFN0 f hfm; unfold maxLen; omega)
      have hlk := look_ptr1 (ownsMap_heap ho9 ((unhide HK).block m ho9.lt (by simp))) hD9 f.nm hkey hlook
      have d1 := cell_of_row _ _ 1 _ _ _ ((unhide HK).heap (unhide HD).row (by simp))
      have hfile := ((unhide HD).files f hfm).kept (unhide HK) (by simp) (by simp)
      obtain ⟨fa, fc, hfv⟩ := owns_shape hfile.2.1
      have hrow := hfile.1
      rw [hfv] at hrow
      have f1 := cell_of_row _ _ 1 _ _ _ hrow
      have f2 := cell_of_row _ _ 2 _ _ _ hrow
      have f3 := cell_of_row _ _ 3 _ _ _ hrow
      simp at d1 f1 f2 f3
      have HRD := hide (by rw [← hfv]; exact rd_owns hfile.2.1 hfile.2.2.1 (by have := unhide HFB f hfm; omega) : Rd wr (.slice fa f.bs.length fc) f.bs)
      have HBY := hide hfile.2.2.1
      have HBL := hide (unhide HFB f hfm)
      have HFN := hide (by
        intro hx
        have h8 := lt_of_block ((unhide HD).files f hfm).1
        simp only [Option.mem_toList] at hx
        have := ((unhide HOW).own.lt _ hx).1
        omega : f.g ∉ (Value.slice va vl vc).ownBlock.toList)
      have HBS := hide (unhide HK).size
      clear hfile hrow hkey ho9 hn9 hD9 hlook hXm hfv hfm
      go_upto_region 8 with fail
      clear hlk d1 c0
      refine wp_fl19 (by kernel_rfl) (by kernel_rfl) (by kernel_rfl) (by kernel_rfl) (by kernel_rfl) (by kernel_rfl) (by kernel_rfl) (by kernel_rfl) (by kernel_rfl) (by kernel_rfl) (by kernel_rfl) (by kernel_rfl) (by kernel_rfl) (by kernel_rfl) (by kernel_rfl) (by kernel_rfl) (by kernel_rfl) (by kernel_rfl) (by kernel_rfl) (by kernel_rfl) (by kernel_rfl) (by kernel_rfl) (by kernel_rfl) (by kernel_rfl) (by kernel_rfl) (by kernel_rfl) (by kernel_rfl) (by kernel_rfl) (by kernel_rfl) (by kernel_rfl) (by kernel_rfl) (by kernel_rfl) (by kernel_rfl) (by kernel_rfl) (by kernel_rfl) (by kernel_rfl) (by kernel_rfl) (by kernel_rfl) rfl rfl rfl
        (.slice va vl vc) (.string f.nm) (.pointer (some ⟨f.g, 0, none⟩)) (.pointer (some ⟨f.g, 0, none⟩)) (.pointer (some ⟨f.g, 1, none⟩)) (.slice fa f.bs.length fc) (.pointer (some ⟨f.g, 0, none⟩)) (.pointer (some ⟨f.g, 0, none⟩)) (.pointer (some ⟨f.g, 2, none⟩)) (.int .i64 (f.sy : Int)) (.pointer (some ⟨f.g, 0, none⟩)) (.pointer (some ⟨f.g, 0, none⟩)) (.pointer (some ⟨f.g, 3, none⟩)) (.bool f.nd) _ _ _ _ _ _ _ _ _ _ _ _ _ _
        (fun w' => Kept (Value.slice va vl vc).ownBlock.toList wr w')
        (fun w' => Kept [] wr w')
        (fun u6 w' => (∃ g, u6 = .slice (some ⟨g, 0, none⟩) f.bs.length f.bs.length ∧ wr.heap.size ≤ g ∧ w'.heap[g]? = some (.cells (f.bs.map u8).toArray 5 (0, 0))) ∧ Kept [] wr w')
        (fun u6 u16 w' => (∃ g, u6 = .slice (some ⟨g, 0, none⟩) f.bs.length f.bs.length ∧ wr.heap.size ≤ g ∧ w'.heap[g]? = some (.cells (f.bs.map u8).toArray 5 (0, 0))) ∧ (∃ H, u16 = .slice (some ⟨H, 0, none⟩) 1 1 ∧ w'.heap[H]? = some (.cells #[.string f.nm, u6, .int .i64 (f.sy : Int), .bool f.nd] 54 (0, 0))) ∧ Kept [] wr w')
        (fun u6 u16 u17 w' => (∃ g cap, u17 = .slice (some ⟨g, 0, none⟩) (ts.length + 1) cap) ∧ OwnFl w1.heap.size w' u17 (ts ++ [(absF f, u6)]) ∧ Kept (Value.slice va vl vc).ownBlock.toList wr w')
        (fun u6 => .agg #[.string f.nm, u6, .int .i64 (f.sy : Int), .bool f.nd])
        (fun _ _ u17 => u17)
        (by simp only [Act.put, List.setIfInBounds_toArray, List.set_cons_zero, List.set_cons_succ]; rfl) (by exact Or.inl ⟨by rfl, fun W' hW' => by go_simp⟩)
        (by simp only [Act.put, List.setIfInBounds_toArray, List.set_cons_zero, List.set_cons_succ]; rfl) (by exact Or.inl ⟨by rfl, fun W' hW' => by go_simp⟩)
        (by simp only [Act.put, List.setIfInBounds_toArray, List.set_cons_zero, List.set_cons_succ]; rfl) (by exact Or.inl ⟨by rfl, fun W' hW' => by go_simp⟩)
        (by simp only [Act.put, List.setIfInBounds_toArray, List.set_cons_zero, List.set_cons_succ]; rfl) (by exact Or.inl ⟨by rfl, fun W' hW' => by go_simp⟩)
        (by simp only [Act.put, List.setIfInBounds_toArray, List.set_cons_zero, List.set_cons_succ]; rfl) (by exact Or.inl ⟨by rfl, fun W' hW' => by go_simp⟩)
        (by simp only [Act.put, List.setIfInBounds_toArray, List.set_cons_zero, List.set_cons_succ]; rfl) (by exact Or.inl ⟨by rfl, fun W' hW' => by have h9 := hW'.cell f1 (unhide HFN); go_simp⟩)
        (by simp only [Act.put, List.setIfInBounds_toArray, List.set_cons_zero, List.set_cons_succ]; rfl) (by exact Or.inl ⟨by rfl, fun W' hW' => by go_simp⟩)
        (by simp only [Act.put, List.setIfInBounds_toArray, List.set_cons_zero, List.set_cons_succ]; rfl) (by exact Or.inl ⟨by rfl, fun W' hW' => by go_simp⟩)
        (by simp only [Act.put, List.setIfInBounds_toArray, List.set_cons_zero, List.set_cons_succ]; rfl) (by exact Or.inl ⟨by rfl, fun W' hW' => by go_simp⟩)
        (by simp only [Act.put, List.setIfInBounds_toArray, List.set_cons_zero, List.set_cons_succ]; rfl) (by exact Or.inl ⟨by rfl, fun W' hW' => by have h9 := hW'.cell f2 (unhide HFN); go_simp⟩)
        (by simp only [Act.put, List.setIfInBounds_toArray, List.set_cons_zero, List.set_cons_succ]; rfl) (by exact Or.inl ⟨by rfl, fun W' hW' => by go_simp⟩)
        (by simp only [Act.put, List.setIfInBounds_toArray, List.set_cons_zero, List.set_cons_succ]; rfl) (by exact Or.inl ⟨by rfl, fun W' hW' => by go_simp⟩)
        (by simp only [Act.put, List.setIfInBounds_toArray, List.set_cons_zero, List.set_cons_succ]; rfl) (by exact Or.inl ⟨by rfl, fun W' hW' => by go_simp⟩)
        (by simp only [Act.put, List.setIfInBounds_toArray, List.set_cons_zero, List.set_cons_succ]; rfl) (by exact Or.inl ⟨by rfl, fun W' hW' => by have h9 := hW'.cell f3 (unhide HFN); go_simp⟩)
        (Kept.refl [] wr).drew
        ⟨fun w' h => h.mono (by simp), fun u6 w' h => h.2.mono (by simp), fun u6 u16 w' h => h.2.2.mono (by simp), fun u6 u16 u17 w' h => h.2.2⟩
        (by
          intro w' k K hK
          refine wp_callN rfl Try.call36 [.slice fa f.bs.length fc] rfl (dcloned_any _ f.bs w' ((unhide HRD).kept k (by simp))) ?_
          rintro e w2 ⟨rfl, k2, h2⟩
          exact ⟨_, rfl, hK _ _ ⟨⟨_, rfl, k.size, h2⟩, k.trans k2 (by simp)⟩⟩)
        (by
          rintro u6 w' ⟨⟨g, rfl, hg, hh⟩, k⟩ K hK
          simp only [Act.put, List.setIfInBounds_toArray, List.set_cons_zero, List.set_cons_succ] at hK ⊢
          unfold Oper.wp execOp
          go_simp
          exact hK _ _ ⟨⟨_, rfl, hg, ((Kept.refl [] w').alloc _).heap hh (by simp)⟩, ⟨_, rfl, heap_alloc_new _ _⟩, k.alloc _⟩)
        (by
          rintro u6 u16 w' ⟨⟨g, rfl, hg, hh⟩, ⟨H, rfl, hH⟩, k⟩ K hK
          have hO := (unhide HOW).keptF k (by simp)
          obtain ⟨g', cap', w1', hrun, h3, h4, h5⟩ := pushFl w' w1.heap.size (.slice va vl vc) ts (absF f, .slice (some ⟨g, 0, none⟩) f.bs.length f.bs.length) H hO hH ⟨owns_fresh hh (by have := unhide HBL; show f.bs.length ≤ _; omega) (by have := unhide HBS; omega), unhide HBY, by have := unhide HBL; show f.bs.length ≤ _; omega⟩ (by
            intro a ha x hx hy
            simp only [blk, List.mem_singleton] at hy
            subst hy
            have := ((unhide HOW).ge x (by simp only [flB, List.mem_append, List.mem_flatMap]; exact .inr ⟨a, ha, hx⟩)).2
            omega) (by have := unhide HTL; have := unhide HLB2; omega) (Nat.le_trans (unhide HBS) k.size)
          exact wp_appendFl rfl rfl rfl rfl hrun (hK _ _ ⟨⟨_, _, rfl⟩, h3, (k.mono (by simp)).grown h4 (by intro x hx; left; simp [hx])⟩))
        (by rintro u6 w' ⟨⟨g, rfl, hg, hh⟩, k⟩; exact Or.inl ⟨by rfl, fun W' hW' => by go_simp⟩)
        (by rintro u6 u16 u17 w' ⟨⟨g, cap, rfl⟩, h1, k⟩; exact Or.inl ⟨by rfl, fun W' hW' => by go_simp⟩)
        ?_
      rintro u6 u16 u17 w5 ⟨⟨g5, cap5, rfl⟩, h5, k5⟩
      simp only [Act.put, List.setIfInBounds_toArray, List.set_cons_zero, List.set_cons_succ]
      have HOW5 := hide h5
      have HK5 := hide ((unhide HK).trans k5 (by intro x hx; right; simp only [Option.mem_toList] at hx; exact ((unhide HOW).own.lt x hx).1))
      have HNO5 := hide (k5.owns (unhide HNO) (by
        intro x hx hm
        simp only [Option.mem_toList] at hm
        obtain ⟨cs1, hc1⟩ := owns_cells (unhide HNO) (own_blk hx)
        obtain ⟨cs2, hc2⟩ := owns_cells (unhide HOW).own (own_blk hm)
        exact cells_ne hc1 hc2 (by decide) rfl))
      clear h5 k5 f1 f2 f3
      go_wp2_with fail
      refine ⟨⟨i + 1, _, by omega, by have := unhide HLB2; go_num, HOW5, hide ?_, HK5, HNO5⟩, ?_⟩
      · rw [unhide HT, List.map_append, unhide HTS]
        rfl
      · have := unhide HLB2
        simp [intOf]; omega
    · have hlt' : ¬ (i : Int) < SA.length := by omega
      have hie : i = SA.length := by omega
      subst hie
      rw [List.take_length] at HTS
      go_wp2_with fail
      go_ret
      exact ⟨_, rfl, ts, unhide HOW, unhide HTS, unhide HK⟩
end Go.Proofs.Ytlopdlcepmmjdaa
namespace Go.Proofs.Ytlopdlcepmmjdaa
open Go.RowKit Go.BigFrame Go.Maps Go.Sort
set_option linter.unusedVariables false
set_option linter.unusedSimpArgs false

theorem plan_D (d nb bb : Nat) (B : List Nat) (σ : DSt) (lv : Value) (fl : List (Int × Int)) (cr : Int) (w : World) (h : DK w d B nb bb σ) (hfl : RdC 2 w lv (fl.map faC)) (hfd : ∀ x ∈ zblk lv (fl.map faC), x ∉ B) (hfo : ∀ x ∈ fl, OkFa x) (hll : fl.length ≤ 1048576) :
    Calls Try.prog 24 #[.pointer (some ⟨d, 0, none⟩), lv, .int .i64 cr] w fun e w' => ∃ B', e = .returned (.tuple #[]) ∧ DK w' d B' (nb + fl.length) bb (stPlan σ fl cr) ∧ Ev w w' B B' := by
  obtain ⟨sec, cr0, op, off, ft, A⟩ := σ
  obtain ⟨⟨m, u, fv, fs, h1, rfl, hA⟩, h2, h3, h4, h5, h6, h7⟩ := h
  dsimp only at *
  subst hA
  refine Calls.mono (plan_any d sec m nb lv fl cr w u fv cr0 op off ft fs h1 hfl (fun hx => hfd d hx (by simp [dkB])) hfo hll) ?_
  rintro e w' ⟨M, rfl, hM, hD, hK⟩
  refine ⟨_, rfl, ⟨⟨m, u, _, fs, hD, rfl, rfl⟩, h2, ⟨by simp [stPlan], by simp only [stPlan]; omega⟩, by simp only [stPlan]; omega, h5, h6, h7⟩, hK.mono (by intro x hx; simp at hx; simp [dkB, hx]), ?_⟩
  intro x hx
  simp only [dkB, mblk, List.mem_cons, List.mem_append, List.not_mem_nil, or_false] at hx ⊢
  rcases hx with h | h | (h | h) | h
  · exact .inl (.inl h)
  · exact .inl (.inr (.inl h))
  · exact .inl (.inr (.inr (.inl (.inl h))))
  · exact .inr (by omega)
  · exact .inl (.inr (.inr (.inr h)))

theorem files_D (d nb bb : Nat) (B : List Nat) (σ : DSt) (w : World) (h : DK w d B nb bb σ) (hn : nb ≤ 1000000000) (hb : bb ≤ 140737488350000) :
    Calls Try.prog 26 #[.pointer (some ⟨d, 0, none⟩)] w fun e w' => ∃ v ts, e = .returned v ∧ OwnFl w.heap.size w' v ts ∧ ts.map Prod.fst = srtA σ.A ∧ Kept [] w w' := by
  obtain ⟨sec, cr0, op, off, ft, A⟩ := σ
  obtain ⟨⟨m, u, fv, fs, h1, rfl, hA⟩, h2, h3, h4, h5, h6, h7⟩ := h
  dsimp only at *
  subst hA
  exact files_any d sec m nb w u fv cr0 op off ft fs h1 h2 hn (by rw [List.length_map] at h4; omega) (fun f hf => Nat.le_trans (h5 (absF f) (List.mem_map.2 ⟨f, hf, rfl⟩)) hb) (fun f hf => (isNm_size (h7 (absF f) (List.mem_map.2 ⟨f, hf, rfl⟩))).2)

theorem from_D (sec : Nat) (v : Value) (l : List IFile) (bb : Nat) (w : World) (h1 : 1 ≤ sec) (h2 : sec ≤ 4096) (h : RdC 4 w v (l.map ifC)) (ho : ∀ f ∈ l, OkIf w f) (hl : l.length ≤ 1048576) (hb : ∀ f ∈ l, f.bs.length ≤ bb) (hf : formedB l = true) :
    Calls Try.prog 8 #[.int .i64 sec, v] w fun e w' => ∃ d B, e = .returned (.tuple #[.pointer (some ⟨d, 0, none⟩), .int .i64 0]) ∧ DK w' d B l.length bb ⟨sec, 0, 0, false, fun _ => none, l.map toDF⟩ ∧ Kept [] w w' ∧ ∀ x ∈ B, w.heap.size ≤ x := by
  refine Calls.mono (from_ok sec v l w h1 h2 h ho hl hf) ?_
  rintro e w' ⟨d, m, u, gs, rfl, hD, hG, hK, hB⟩
  have hF := (formedB_iff l).1 hf
  refine ⟨d, _, rfl, ⟨⟨m, u, _, gs, hD, rfl, hG.symm⟩, formed_dist hF, ⟨by simp, by simp⟩, by simp, ?_, ⟨h1, h2⟩, ?_⟩, hK, hB⟩
  · intro f hf2
    obtain ⟨a, ha, rfl⟩ := List.mem_map.1 hf2
    exact hb a ha
  · intro f hf2
    obtain ⟨a, ha, rfl⟩ := List.mem_map.1 hf2
    obtain ⟨i, hi, rfl⟩ := List.getElem_of_mem ha
    exact (hF i hi).1

theorem owns_low {w : World} {b c e s n : Nat} {v : Value} {xs : List Value} (h : w.ownsRow b e s v n xs) (hc : c ≤ b) : w.ownsRow c e s v n xs := by
  refine ⟨h.1, ?_⟩
  rcases h.2 with h1 | ⟨g, cap, cur, h1, h2, r⟩
  · exact .inl h1
  · exact .inr ⟨g, cap, cur, h1, Nat.le_trans hc h2, r⟩
theorem NwB.low {w0 w w' : World} {v : Value} {bs : List Nat} (h : NwB w w' v bs) (hs : w0.heap.size ≤ w.heap.size) : NwB w0 w' v bs := ⟨owns_low h.own hs, h.byte, h.len⟩
theorem NwB.none (w w' : World) : NwB w w' (.slice none 0 0) [] := ⟨World.ownsRow_nil _ _ _ _, by simp, by simp⟩
theorem Ev.pre {w W w' : World} {B B' : List Nat} (k : Kept [] w W) (e : Ev W w' B B') : Ev w w' B B' := ⟨(k.mono (by simp)).trans e.1 (fun x hx => .inl hx), fun x hx => (e.2 x hx).imp id (fun h => Nat.le_trans k.size h)⟩

/-- One call. -/
def stepD (σ : DSt) (o : OpD) : (List Nat × Int) × DSt :=
  if o.k = 1 then (([], ((stCreate σ o.s).1 : Nat)), (stCreate σ o.s).2)
  else if o.k = 2 then (([], ((stAppend σ o.s o.ps).1 : Nat)), (stAppend σ o.s o.ps).2)
  else if o.k = 3 then (([], ((stSync σ o.s).1 : Nat)), (stSync σ o.s).2)
  else if o.k = 4 then (([], ((stNames σ).1 : Nat)), (stNames σ).2)
  else if o.k = 5 then (((stRead σ o.s).1, ((stRead σ o.s).2 : Nat)), σ)
  else if o.k = 6 then (([], 0), stPlan σ o.fl o.cr)
  else if o.k = 7 then (([], 0), stCut σ)
  else if o.k = 8 then (([], 0), stRestart σ o.n o.ks)
  else (([], 0), σ)

set_option maxRecDepth 100000 in
set_option maxHeartbeats 2000000 in
theorem call_D (d nb bb : Nat) (B : List Nat) (σ : DSt) (o : OpD) (w : World) (h : DK w d B nb bb σ) (ho : OkOp w o) (hp : ∀ x ∈ zblk o.pv o.ps, x ∉ B) (hf : ∀ x ∈ zblk o.fv (o.fl.map faC), x ∉ B) (hk : ∀ x ∈ zblk o.kv (o.ks.map keC), x ∉ B) (hn : nb ≤ 1000000000) (hb : bb + o.ps.length ≤ 140737488350000) (hfl : o.fl.length ≤ 1048576) (hkl : o.ks.length ≤ 1048576) :
    Calls Try.prog 12 #[.pointer (some ⟨d, 0, none⟩), .agg (opL o).toArray] w fun e w' => ∃ v B', e = .returned (.tuple #[v, .int .i64 (stepD σ o).1.2]) ∧ DK w' d B' (nb + 1 + o.fl.length) (bb + 4096 + o.ps.length) (stepD σ o).2 ∧ Ev w w' B B' ∧ NwB w w' v (stepD σ o).1.1 := by
  obtain ⟨pa, pl, pc, hp1⟩ : ∃ a l c, o.pv = .slice a l c := by obtain ⟨a, l, c, h1, _⟩ := ho.p; exact ⟨a, l, c, h1⟩
  obtain ⟨fa, fl, fc, hf1⟩ : ∃ a l c, o.fv = .slice a l c := by obtain ⟨a, l, c, h1, _⟩ := ho.f; exact ⟨a, l, c, h1⟩
  obtain ⟨ka, kl, kc, hk1⟩ : ∃ a l c, o.kv = .slice a l c := by obtain ⟨a, l, c, h1, _⟩ := ho.kk; exact ⟨a, l, c, h1⟩
  obtain ⟨k, s, pv, ps, fv, fls, cr, n, kv, ks⟩ := o
  dsimp only at *
  subst hp1 hf1 hk1
  have hk0 := (Kept.refl [] w).alloc (.cells #[.int .i64 k, .string s, .slice pa pl pc, .slice fa fl fc, .int .i64 cr, .int .i64 n, .slice ka kl kc] 42 (0, 0))
  have hg := heap_alloc_new w (.cells #[.int .i64 k, .string s, .slice pa pl pc, .slice fa fl fc, .int .i64 cr, .int .i64 n, .slice ka kl kc] 42 (0, 0))
  obtain ⟨W, hW⟩ : ∃ W, w.alloc (.cells #[.int .i64 k, .string s, .slice pa pl pc, .slice fa fl fc, .int .i64 cr, .int .i64 n, .slice ka kl kc] 42 (0, 0)) = W := ⟨_, rfl⟩
  rw [hW] at hk0 hg
  have HW := hide hW
  have HK := hide hk0
  have c0 := cell_of_row _ _ 0 _ _ _ hg
  have c1 := cell_of_row _ _ 1 _ _ _ hg
  have c2 := cell_of_row _ _ 2 _ _ _ hg
  have c3 := cell_of_row _ _ 3 _ _ _ hg
  have c4 := cell_of_row _ _ 4 _ _ _ hg
  have c5 := cell_of_row _ _ 5 _ _ _ hg
  have c6 := cell_of_row _ _ 6 _ _ _ hg
  simp at c0 c1 c2 c3 c4 c5 c6
  have HD := hide (h.old hk0)
  have HPR := hide (ho.p.kept hk0 (by simp))
  have HFR := hide (ho.f.old hk0)
  have HKR := hide (ho.kk.old hk0)
  have HSS := hide (by have := ho.s; dsimp only at this; omega : s.size ≤ 140737488355328)
  have HFO := hide ho.fr
  have HKO := hide (fun x hx => by have := (ho.kr x hx).1; omega : ∀ x ∈ ks, x.nm.size ≤ 140737488355328)
  have HP := hide hp
  have HF := hide hf
  have HKB := hide hk
  dsimp only [opL]
  clear hW hk0 hg h ho hp hf hk
  by_cases h1 : k = 1
  · subst h1
    have hst : stepD σ ⟨1, s, .slice pa pl pc, ps, .slice fa fl fc, fls, cr, n, .slice ka kl kc, ks⟩ = (([], (((stCreate σ s).1 : Nat) : Int)), (stCreate σ s).2) := rfl
    rw [hst]
    have HC := hide (create_D d nb bb B σ s W (unhide HD) (unhide HSS) hn)
    clear hst
    generalize (stCreate σ s) = R at HC ⊢
    go_enter Try.func12, Try.ntmps12
    go_wp2_with (first | (rw [unhide HW]) | fail)
    refine Calls.mono (unhide HC) ?_
    rintro e w1 ⟨B', rfl, h9, ev⟩
    have HD1 := hide h9
    have HE1 := hide ev
    clear h9 ev
    go_wp2_with fail
    go_ret2
    exact ⟨_, B', rfl, (unhide HD1).more (by omega) (by omega), Ev.pre (unhide HK) (unhide HE1), NwB.none _ _⟩
  have g1 : (k == 1) = false := by simpa using h1
  by_cases h2 : k = 2
  · subst h2
    have hst : stepD σ ⟨2, s, .slice pa pl pc, ps, .slice fa fl fc, fls, cr, n, .slice ka kl kc, ks⟩ = (([], (((stAppend σ s ps).1 : Nat) : Int)), (stAppend σ s ps).2) := rfl
    rw [hst]
    have HC := hide (append_D d nb bb B σ s (.slice pa pl pc) ps W (unhide HD) (unhide HSS) hn (unhide HPR) (unhide HP) hb)
    clear hst
    generalize (stAppend σ s ps) = R at HC ⊢
    go_enter Try.func12, Try.ntmps12
    go_wp2_with (first | (rw [unhide HW]) | fail)
    refine Calls.mono (unhide HC) ?_
    rintro e w1 ⟨B', rfl, h9, ev⟩
    have HD1 := hide h9
    have HE1 := hide ev
    clear h9 ev
    go_wp2_with fail
    go_ret2
    exact ⟨_, B', rfl, (unhide HD1).more (by omega) (by omega), Ev.pre (unhide HK) (unhide HE1), NwB.none _ _⟩
  have g2 : (k == 2) = false := by simpa using h2
  by_cases h3 : k = 3
  · subst h3
    have hst : stepD σ ⟨3, s, .slice pa pl pc, ps, .slice fa fl fc, fls, cr, n, .slice ka kl kc, ks⟩ = (([], (((stSync σ s).1 : Nat) : Int)), (stSync σ s).2) := rfl
    rw [hst]
    have HC := hide (sync_D d nb bb B σ s W (unhide HD) (unhide HSS) hn)
    clear hst
    generalize (stSync σ s) = R at HC ⊢
    go_enter Try.func12, Try.ntmps12
    go_wp2_with (first | (rw [unhide HW]) | fail)
    refine Calls.mono (unhide HC) ?_
    rintro e w1 ⟨B', rfl, h9, ev⟩
    have HD1 := hide h9
    have HE1 := hide ev
    clear h9 ev
    go_wp2_with fail
    go_ret2
    exact ⟨_, B', rfl, (unhide HD1).more (by omega) (by omega), Ev.pre (unhide HK) (unhide HE1), NwB.none _ _⟩
  have g3 : (k == 3) = false := by simpa using h3
  by_cases h4 : k = 4
  · subst h4
    have hst : stepD σ ⟨4, s, .slice pa pl pc, ps, .slice fa fl fc, fls, cr, n, .slice ka kl kc, ks⟩ = (([], (((stNames σ).1 : Nat) : Int)), (stNames σ).2) := rfl
    rw [hst]
    have HC := hide (names_D d nb bb B σ W (unhide HD) hn)
    clear hst
    generalize (stNames σ) = R at HC ⊢
    go_enter Try.func12, Try.ntmps12
    go_wp2_with (first | (rw [unhide HW]) | fail)
    refine Calls.mono (unhide HC) ?_
    rintro e w1 ⟨B', rfl, h9, ev⟩
    have HD1 := hide h9
    have HE1 := hide ev
    clear h9 ev
    go_wp2_with fail
    go_ret2
    exact ⟨_, B', rfl, (unhide HD1).more (by omega) (by omega), Ev.pre (unhide HK) (unhide HE1), NwB.none _ _⟩
  have g4 : (k == 4) = false := by simpa using h4
  by_cases h5 : k = 5
  · subst h5
    have hst : stepD σ ⟨5, s, .slice pa pl pc, ps, .slice fa fl fc, fls, cr, n, .slice ka kl kc, ks⟩ = (((stRead σ s).1, (((stRead σ s).2 : Nat) : Int)), σ) := rfl
    rw [hst]
    have HC := hide (read_D d nb bb B σ s W (unhide HD) (unhide HSS) (by omega))
    clear hst
    generalize (stRead σ s) = R at HC ⊢
    go_enter Try.func12, Try.ntmps12
    go_wp2_with (first | (rw [unhide HW]) | fail)
    refine Calls.mono (unhide HC) ?_
    rintro e w1 ⟨v, rfl, h9, ev⟩
    have HN1 := hide h9
    have HE1 := hide ev
    clear h9 ev
    go_wp2_with fail
    go_ret2
    exact ⟨_, B, rfl, ((unhide HD).old (unhide HE1)).more (by omega) (by omega), ⟨((unhide HK).mono (by simp)).trans ((unhide HE1).mono (by simp)) (fun x hx => .inl hx), fun x hx => .inl hx⟩, (unhide HN1).low (unhide HK).size⟩
  have g5 : (k == 5) = false := by simpa using h5
  by_cases h6 : k = 6
  · subst h6
    have hst : stepD σ ⟨6, s, .slice pa pl pc, ps, .slice fa fl fc, fls, cr, n, .slice ka kl kc, ks⟩ = (([], 0), stPlan σ fls cr) := rfl
    rw [hst]
    have HC := hide (plan_D d nb bb B σ (.slice fa fl fc) fls cr W (unhide HD) (unhide HFR) (unhide HF) (unhide HFO) hfl)
    clear hst
    generalize (stPlan σ fls cr) = R at HC ⊢
    go_enter Try.func12, Try.ntmps12
    go_wp2_with (first | (rw [unhide HW]) | fail)
    refine Calls.mono (unhide HC) ?_
    rintro e w1 ⟨B', rfl, h9, ev⟩
    have HD1 := hide h9
    have HE1 := hide ev
    clear h9 ev
    go_wp2_with fail
    go_ret2
    exact ⟨_, B', rfl, (unhide HD1).more (by omega) (by omega), Ev.pre (unhide HK) (unhide HE1), NwB.none _ _⟩
  have g6 : (k == 6) = false := by simpa using h6
  by_cases h7 : k = 7
  · subst h7
    have hst : stepD σ ⟨7, s, .slice pa pl pc, ps, .slice fa fl fc, fls, cr, n, .slice ka kl kc, ks⟩ = (([], 0), stCut σ) := rfl
    rw [hst]
    have HC := hide (cut_D d nb bb B σ W (unhide HD))
    clear hst
    generalize (stCut σ) = R at HC ⊢
    go_enter Try.func12, Try.ntmps12
    go_wp2_with (first | (rw [unhide HW]) | fail)
    refine Calls.mono (unhide HC) ?_
    rintro e w1 ⟨B', rfl, h9, ev⟩
    have HD1 := hide h9
    have HE1 := hide ev
    clear h9 ev
    go_wp2_with fail
    go_ret2
    exact ⟨_, B', rfl, (unhide HD1).more (by omega) (by omega), Ev.pre (unhide HK) (unhide HE1), NwB.none _ _⟩
  have g7 : (k == 7) = false := by simpa using h7
  by_cases h8 : k = 8
  · subst h8
    have hst : stepD σ ⟨8, s, .slice pa pl pc, ps, .slice fa fl fc, fls, cr, n, .slice ka kl kc, ks⟩ = (([], 0), stRestart σ n ks) := rfl
    rw [hst]
    have HC := hide (restart_D d nb bb B σ n (.slice ka kl kc) ks W (unhide HD) hn (by omega) (unhide HKR) (unhide HKB) (unhide HKO) (by omega))
    clear hst
    generalize (stRestart σ n ks) = R at HC ⊢
    go_enter Try.func12, Try.ntmps12
    go_wp2_with (first | (rw [unhide HW]) | fail)
    refine Calls.mono (unhide HC) ?_
    rintro e w1 ⟨B', rfl, h9, ev⟩
    have HD1 := hide h9
    have HE1 := hide ev
    clear h9 ev
    go_wp2_with fail
    go_ret2
    exact ⟨_, B', rfl, (unhide HD1).more (by omega) (by omega), Ev.pre (unhide HK) (unhide HE1), NwB.none _ _⟩
  have g8 : (k == 8) = false := by simpa using h8
  have hst : stepD σ ⟨k, s, .slice pa pl pc, ps, .slice fa fl fc, fls, cr, n, .slice ka kl kc, ks⟩ = (([], 0), σ) := by
    unfold stepD
    dsimp only
    rw [if_neg h1, if_neg h2, if_neg h3, if_neg h4, if_neg h5, if_neg h6, if_neg h7, if_neg h8]
  rw [hst]
  clear hst h1 h2 h3 h4 h5 h6 h7 h8
  go_enter Try.func12, Try.ntmps12
  go_wp2_with (first | (rw [unhide HW]) | fail)
  go_ret2
  exact ⟨_, rfl, B, (unhide HD).more (by omega) (by omega), ⟨(unhide HK).mono (by simp), fun x hx => .inl hx⟩, NwB.none _ _⟩
end Go.Proofs.Ytlopdlcepmmjdaa
/-
  Laws for drawn regions, by genreg.py. No program.
-/
namespace Go.Proofs.Ytlopdlcepmmjdaa
open Go Go.RowKit Go.BigFrame
set_option linter.unusedVariables false
set_option linter.unusedSimpArgs false
section
variable {P : Program} {Q : Exit → Act → World → Prop}
theorem wp_pl11 {id : Nat} {o0 o1 o2 o3 o4 o5 o6 o7 o8 o9 o10 : Oper} {a : Act} {w : World} (hm : P.follows .mixedOrders = true) (hs : Region.noSelect #[o0, o1, o2, o3, o4, o5, o6, o7, o8, o9, o10] = true)
    (f0 : Region.free .any #[o0, o1, o2, o3, o4, o5, o6, o7, o8, o9, o10] #[false, false, false, false, false, false, false, false, false, false, false] 0 = true) (r0 : (Region.ready .any #[o0, o1, o2, o3, o4, o5, o6, o7, o8, o9, o10] #[false, false, false, false, false, false, false, false, false, false, false]).contains 0 = true)
    (f1 : Region.free .any #[o0, o1, o2, o3, o4, o5, o6, o7, o8, o9, o10] #[true, false, false, false, false, false, false, false, false, false, false] 1 = true) (r1 : (Region.ready .any #[o0, o1, o2, o3, o4, o5, o6, o7, o8, o9, o10] #[true, false, false, false, false, false, false, false, false, false, false]).contains 1 = true)
    (f2 : Region.free .any #[o0, o1, o2, o3, o4, o5, o6, o7, o8, o9, o10] #[true, true, false, false, false, false, false, false, false, false, false] 2 = true) (r2 : (Region.ready .any #[o0, o1, o2, o3, o4, o5, o6, o7, o8, o9, o10] #[true, true, false, false, false, false, false, false, false, false, false]).contains 2 = true)
    (f3 : Region.free .any #[o0, o1, o2, o3, o4, o5, o6, o7, o8, o9, o10] #[true, true, true, false, false, false, false, false, false, false, false] 3 = true) (r3 : (Region.ready .any #[o0, o1, o2, o3, o4, o5, o6, o7, o8, o9, o10] #[true, true, true, false, false, false, false, false, false, false, false]).contains 3 = true)
    (q_ : Region.ready .any #[o0, o1, o2, o3, o4, o5, o6, o7, o8, o9, o10] #[true, true, true, true, false, false, false, false, false, false, false] = [4])
    (q4_ : Region.ready .any #[o0, o1, o2, o3, o4, o5, o6, o7, o8, o9, o10] #[true, true, true, true, true, false, false, false, false, false, false] = [5])
    (f4_5_6 : Region.free .any #[o0, o1, o2, o3, o4, o5, o6, o7, o8, o9, o10] #[true, true, true, true, true, true, false, false, false, false, false] 6 = true) (r4_5_6 : (Region.ready .any #[o0, o1, o2, o3, o4, o5, o6, o7, o8, o9, o10] #[true, true, true, true, true, true, false, false, false, false, false]).contains 6 = true)
    (f4_5_7 : Region.free .any #[o0, o1, o2, o3, o4, o5, o6, o7, o8, o9, o10] #[true, true, true, true, true, true, true, false, false, false, false] 7 = true) (r4_5_7 : (Region.ready .any #[o0, o1, o2, o3, o4, o5, o6, o7, o8, o9, o10] #[true, true, true, true, true, true, true, false, false, false, false]).contains 7 = true)
    (f4_5_8 : Region.free .any #[o0, o1, o2, o3, o4, o5, o6, o7, o8, o9, o10] #[true, true, true, true, true, true, true, true, false, false, false] 8 = true) (r4_5_8 : (Region.ready .any #[o0, o1, o2, o3, o4, o5, o6, o7, o8, o9, o10] #[true, true, true, true, true, true, true, true, false, false, false]).contains 8 = true)
    (f4_5_9 : Region.free .any #[o0, o1, o2, o3, o4, o5, o6, o7, o8, o9, o10] #[true, true, true, true, true, true, true, true, true, false, false] 9 = true) (r4_5_9 : (Region.ready .any #[o0, o1, o2, o3, o4, o5, o6, o7, o8, o9, o10] #[true, true, true, true, true, true, true, true, true, false, false]).contains 9 = true)
    (f4_5_10 : Region.free .any #[o0, o1, o2, o3, o4, o5, o6, o7, o8, o9, o10] #[true, true, true, true, true, true, true, true, true, true, false] 10 = true) (r4_5_10 : (Region.ready .any #[o0, o1, o2, o3, o4, o5, o6, o7, o8, o9, o10] #[true, true, true, true, true, true, true, true, true, true, false]).contains 10 = true)
    (q4_5_ : Region.ready .any #[o0, o1, o2, o3, o4, o5, o6, o7, o8, o9, o10] #[true, true, true, true, true, true, true, true, true, true, true] = [])
    (g4 : o4.guard = none)    (g5 : o5.guard = none)
    (v0 v1 v2 v3 : Value) (A0 A1 A2 A3 : Act)
    (S : World → Prop)
    (I_ : World → Prop)
    (I4_ : Value → World → Prop)
    (I4_5_ : Value → Value → World → Prop)
    (v6 : Value → Value → Value)
    (v7 : Value → Value → Value)
    (v8 : Value → Value → Value)
    (v9 : Value → Value → Value)
    (v10 : Value → Value → Value)
    (p0 : a.put o0.dst v0 = A0) (hy0 : YieldsIf P #[o0, o1, o2, o3, o4, o5, o6, o7, o8, o9, o10] S o0 v0 a)
    (p1 : A0.put o1.dst v1 = A1) (hy1 : YieldsIf P #[o0, o1, o2, o3, o4, o5, o6, o7, o8, o9, o10] S o1 v1 A0)
    (p2 : A1.put o2.dst v2 = A2) (hy2 : YieldsIf P #[o0, o1, o2, o3, o4, o5, o6, o7, o8, o9, o10] S o2 v2 A1)
    (p3 : A2.put o3.dst v3 = A3) (hy3 : YieldsIf P #[o0, o1, o2, o3, o4, o5, o6, o7, o8, o9, o10] S o3 v3 A2)
    (i0 : I_ w.drew)
    (hIS : (∀ w', I_  w' → S w') ∧ (∀ (u4 : Value) w', I4_ u4 w' → S w') ∧ (∀ (u4 u5 : Value) w', I4_5_ u4 u5 w' → S w'))
    (s_4 : ∀ w', I_  w' → ∀ K : Act → World → Prop, (∀ (u4 : Value) w2, I4_ u4 w2 → K (A3.put o4.dst u4) w2) → o4.wp P A3 w' K (NoPanic Q))
    (s4_5 : ∀ (u4 : Value) w', I4_ u4 w' → ∀ K : Act → World → Prop, (∀ (u5 : Value) w2, I4_5_ u4 u5 w2 → K ((A3.put o4.dst u4).put o5.dst u5) w2) → o5.wp P (A3.put o4.dst u4) w' K (NoPanic Q))
    (y4_5_6 : ∀ (u4 u5 : Value) w', I4_5_ u4 u5 w' → YieldsIf P #[o0, o1, o2, o3, o4, o5, o6, o7, o8, o9, o10] S o6 (v6 u4 u5) ((A3.put o4.dst u4).put o5.dst u5))
    (y4_5_7 : ∀ (u4 u5 : Value) w', I4_5_ u4 u5 w' → YieldsIf P #[o0, o1, o2, o3, o4, o5, o6, o7, o8, o9, o10] S o7 (v7 u4 u5) (((A3.put o4.dst u4).put o5.dst u5).put o6.dst (v6 u4 u5)))
    (y4_5_8 : ∀ (u4 u5 : Value) w', I4_5_ u4 u5 w' → YieldsIf P #[o0, o1, o2, o3, o4, o5, o6, o7, o8, o9, o10] S o8 (v8 u4 u5) ((((A3.put o4.dst u4).put o5.dst u5).put o6.dst (v6 u4 u5)).put o7.dst (v7 u4 u5)))
    (y4_5_9 : ∀ (u4 u5 : Value) w', I4_5_ u4 u5 w' → YieldsIf P #[o0, o1, o2, o3, o4, o5, o6, o7, o8, o9, o10] S o9 (v9 u4 u5) (((((A3.put o4.dst u4).put o5.dst u5).put o6.dst (v6 u4 u5)).put o7.dst (v7 u4 u5)).put o8.dst (v8 u4 u5)))
    (y4_5_10 : ∀ (u4 u5 : Value) w', I4_5_ u4 u5 w' → YieldsIf P #[o0, o1, o2, o3, o4, o5, o6, o7, o8, o9, o10] S o10 (v10 u4 u5) ((((((A3.put o4.dst u4).put o5.dst u5).put o6.dst (v6 u4 u5)).put o7.dst (v7 u4 u5)).put o8.dst (v8 u4 u5)).put o9.dst (v9 u4 u5)))
    (h : ∀ (u4 u5 : Value) w', I4_5_ u4 u5 w' → Q .normal (((((((A3.put o4.dst u4).put o5.dst u5).put o6.dst (v6 u4 u5)).put o7.dst (v7 u4 u5)).put o8.dst (v8 u4 u5)).put o9.dst (v9 u4 u5)).put o10.dst (v10 u4 u5)) w') :
    (Code.region id #[o0, o1, o2, o3, o4, o5, o6, o7, o8, o9, o10] true).wp P Q a w := by
  subst p0 p1 p2 p3
  obtain ⟨z_, z4_, z4_5_⟩ := hIS
  refine wp_region_noPanic ?_
  refine wp_region_held_drew (S := S) hm (z_ _ i0) (fun hH => ?_)
  show wpAnyH P .any #[o0, o1, o2, o3, o4, o5, o6, o7, o8, o9, o10] (NoPanic Q) S 11 #[false, false, false, false, false, false, false, false, false, false, false] a w.drew
  refine wpAnyH_take (i := 0) (oi := o0) rfl hs f0 r0 (fun _ _ _ h => h) hy0 hH ?_
  refine wpAnyH_take (i := 1) (oi := o1) rfl hs f1 r1 (fun _ _ _ h => h) hy1 hH ?_
  refine wpAnyH_take (i := 2) (oi := o2) rfl hs f2 r2 (fun _ _ _ h => h) hy2 hH ?_
  refine wpAnyH_take (i := 3) (oi := o3) rfl hs f3 r3 (fun _ _ _ h => h) hy3 hH ?_
  generalize ((((a.put o0.dst v0).put o1.dst v1).put o2.dst v2).put o3.dst v3) = B at *
  have wa4 : ∀ y, Region.wanted o4 y = true := fun y => by unfold Region.wanted; rw [g4]
  have wa5 : ∀ y, Region.wanted o5 y = true := fun y => by unfold Region.wanted; rw [g5]
  have t4_5_ : ∀ (u4 u5 : Value) w', I4_5_ u4 u5 w' → wpAnyH P .any #[o0, o1, o2, o3, o4, o5, o6, o7, o8, o9, o10] (NoPanic Q) S 0 #[true, true, true, true, true, true, true, true, true, true, true] (((((((B.put o4.dst u4).put o5.dst u5).put o6.dst (v6 u4 u5)).put o7.dst (v7 u4 u5)).put o8.dst (v8 u4 u5)).put o9.dst (v9 u4 u5)).put o10.dst (v10 u4 u5)) w' := by
    intro u4 u5 w0 i0
    exact ⟨q4_5_, NoPanic.normal (h u4 u5 w0 i0)⟩
  have t4_ : ∀ (u4 : Value) w', I4_ u4 w' → wpAnyH P .any #[o0, o1, o2, o3, o4, o5, o6, o7, o8, o9, o10] (NoPanic Q) S 6 #[true, true, true, true, true, false, false, false, false, false, false] (B.put o4.dst u4) w' := by
    intro u4 w0 i0
    refine wpAnyH_ready (rs := [5]) q4_ (by simp) (AllReadyH.cons (o := o5) rfl (fun K hK => ?_) AllReadyH.nil)
    · rw [if_pos (wa5 _)]
      refine s4_5 u4 w0 i0 K (fun u5 w1 i1 => hK.out _ _ (z4_5_ u4 u5 w1 i1) (fun _ => ?_))
      clear hK
      refine wpAnyH_take (i := 6) (oi := o6) rfl hs f4_5_6 r4_5_6 (fun _ _ _ h => h) (y4_5_6 u4 u5 w1 i1) (z4_5_ u4 u5 w1 i1) ?_
      refine wpAnyH_take (i := 7) (oi := o7) rfl hs f4_5_7 r4_5_7 (fun _ _ _ h => h) (y4_5_7 u4 u5 w1 i1) (z4_5_ u4 u5 w1 i1) ?_
      refine wpAnyH_take (i := 8) (oi := o8) rfl hs f4_5_8 r4_5_8 (fun _ _ _ h => h) (y4_5_8 u4 u5 w1 i1) (z4_5_ u4 u5 w1 i1) ?_
      refine wpAnyH_take (i := 9) (oi := o9) rfl hs f4_5_9 r4_5_9 (fun _ _ _ h => h) (y4_5_9 u4 u5 w1 i1) (z4_5_ u4 u5 w1 i1) ?_
      refine wpAnyH_take (i := 10) (oi := o10) rfl hs f4_5_10 r4_5_10 (fun _ _ _ h => h) (y4_5_10 u4 u5 w1 i1) (z4_5_ u4 u5 w1 i1) ?_
      exact t4_5_ u4 u5 w1 i1
  have t_ : ∀ w', I_  w' → wpAnyH P .any #[o0, o1, o2, o3, o4, o5, o6, o7, o8, o9, o10] (NoPanic Q) S 7 #[true, true, true, true, false, false, false, false, false, false, false] B w' := by
    intro w0 i0
    refine wpAnyH_ready (rs := [4]) q_ (by simp) (AllReadyH.cons (o := o4) rfl (fun K hK => ?_) AllReadyH.nil)
    · rw [if_pos (wa4 _)]
      refine s_4  w0 i0 K (fun u4 w1 i1 => hK.out _ _ (z4_ u4 w1 i1) (fun _ => ?_))
      clear hK
      exact t4_ u4 w1 i1
  exact t_ w.drew i0

end
end Go.Proofs.Ytlopdlcepmmjdaa
