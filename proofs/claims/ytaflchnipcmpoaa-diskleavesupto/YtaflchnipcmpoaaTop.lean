import Derived.Test.YtaflchnipcmpoaaDkI
import Derived.Test.YtaflchnipcmpoaaOpenK
import Derived.Sort.Walk0
import Derived.Test.YtaflchnipcmpoaaRowz
import Derived.Deep.RegionHeld3
import Derived.Test.YtaflchnipcmpoaaDk25
import Derived.Test.YtaflchnipcmpoaaDkE
import Derived.Test.YtaflchnipcmpoaaDkF
namespace Go.Proofs.Ytaflchnipcmpoaa
open Go.RowKit Go.BigFrame Go.Maps Go.Sort
set_option linter.unusedVariables false
set_option linter.unusedSimpArgs false

theorem ba_loopS (s : ByteArray) : ∀ n i r, s.size - i = n → ByteArray.toList.loop s i r = r.reverse ++ s.data.toList.drop i := by
  intro n
  induction n with
  | zero =>
    intro i r h
    rw [ByteArray.toList.loop]
    have h1 : s.size = s.data.toList.length := (Array.length_toList).symm
    rw [if_neg (by omega), List.drop_eq_nil_of_le (by omega), List.append_nil]
  | succ n ih =>
    intro i r h
    rw [ByteArray.toList.loop]
    have h1 : s.size = s.data.toList.length := (Array.length_toList).symm
    have h2 : i < s.data.toList.length := by omega
    rw [if_pos (by omega), ih (i + 1) _ (by omega), List.drop_eq_getElem_cons h2]
    have h3 : s.get! i = s.data.toList[i] := by
      have h4 : i < s.data.size := by simpa using h2
      rw [Array.getElem_toList]
      exact getElem!_pos s.data i h4
    simp [h3]
theorem ba_toListS (s : ByteArray) : s.toList = s.data.toList := by
  unfold ByteArray.toList
  rw [ba_loopS s _ 0 [] rfl]
  simp
theorem less_str (a b : ByteArray) : Op.bytesLess a.toList b.toList = decide (a.data.toList < b.data.toList) := by
  rw [bytesLess_eq, ba_toListS, ba_toListS]
/-- One file of a list that can be a disk's. -/
def okF (l : List IFile) (i : Nat) (h : i < l.length) : Prop := isNm l[i].nm = true ∧ 0 ≤ l[i].sy ∧ l[i].sy ≤ l[i].bs.length ∧ ∀ hp : 0 < i, l[i - 1].nm.data.toList < l[i].nm.data.toList
def FormedL (l : List IFile) : Prop := ∀ i (h : i < l.length), okF l i h
def okB (l : List IFile) (i : Nat) : Bool := isNm (l.getD i default).nm && decide (0 ≤ (l.getD i default).sy) && decide ((l.getD i default).sy ≤ (l.getD i default).bs.length) && (i == 0 || decide ((l.getD (i - 1) default).nm.data.toList < (l.getD i default).nm.data.toList))
def formedB (l : List IFile) : Bool := (List.range l.length).all (okB l)
theorem okB_iff {l : List IFile} {i : Nat} (h : i < l.length) : okB l i = true ↔ okF l i h := by
  unfold okB okF
  rw [List.getD_eq_getElem?_getD, List.getElem?_eq_getElem h, Option.getD_some]
  by_cases hp : 0 < i
  · rw [List.getD_eq_getElem?_getD, List.getElem?_eq_getElem (show i - 1 < l.length by omega), Option.getD_some]
    have h0 : (i == 0) = false := by simp; omega
    simp only [h0, Bool.false_or, Bool.and_eq_true, decide_eq_true_eq]
    constructor
    · rintro ⟨⟨⟨a, b⟩, c⟩, d⟩; exact ⟨a, b, c, fun _ => d⟩
    · rintro ⟨a, b, c, d⟩; exact ⟨⟨⟨a, b⟩, c⟩, d hp⟩
  · have h0 : (i == 0) = true := by simp; omega
    simp only [h0, Bool.true_or, Bool.and_eq_true, decide_eq_true_eq, and_true]
    constructor
    · rintro ⟨⟨a, b⟩, c⟩; exact ⟨a, b, c, fun h9 => absurd h9 hp⟩
    · rintro ⟨a, b, c, d⟩; exact ⟨⟨a, b⟩, c⟩
theorem formedB_iff (l : List IFile) : formedB l = true ↔ FormedL l := by
  unfold formedB
  rw [List.all_eq_true]
  constructor
  · intro h i hi
    exact (okB_iff hi).1 (h i (List.mem_range.2 hi))
  · intro h i hi
    exact (okB_iff (List.mem_range.1 hi)).2 (h i (List.mem_range.1 hi))
theorem formedB_no {l : List IFile} (h : ¬ FormedL l) : formedB l = false := by
  cases h1 : formedB l
  · rfl
  · exact absurd ((formedB_iff l).1 h1) h

set_option maxRecDepth 100000 in
set_option maxHeartbeats 2000000 in
theorem formed_any (v : Value) (l : List IFile) (w : World) (h : RdC 4 w v (l.map ifC)) (ho : ∀ f ∈ l, OkIf w f) (hl : l.length ≤ 1048576) :
    Calls Try.prog 36 #[v] w fun e w' => e = .returned (.bool (formedB l)) ∧ Kept [] w w' := by
  obtain ⟨ao, len, cap, rfl, h1, h2, h3, h4⟩ := h
  rw [List.length_map] at h1
  subst h1
  have H4 := hide h4
  have HO := hide ho
  clear h4 ho
  go_enter Try.func36, Try.ntmps36
  go_wp2_with fail
  go_loopw [7] (fun t7 wr => ∃ i : Nat, i ≤ l.length ∧ t7 = .int .i64 i ∧ Hid (∀ j (hj : j < l.length), j < i → okF l j hj) ∧ Hid (Kept [] w wr)) (fun t _ => l.length - (intOf t).toNat)
  case atStart => exact ⟨0, Nat.zero_le _, rfl, hide (fun j hj h => by omega), hide (Kept.refl _ _)⟩
  case round =>
    obtain ⟨i, hi, rfl, HA, HK⟩ := hrel
    by_cases hlt : i < l.length
    · have hlt' : (i : Int) < l.length := by omega
      obtain ⟨b, off, rfl, hcc⟩ := unhide H4 (by omega)
      have hr := hcc i (by rw [List.length_map]; exact hlt)
      rw [List.getElem_map] at hr
      have p0 := (unhide HK).cell (hr 0 _ rfl) (by simp)
      have p1 := (unhide HK).cell (hr 1 _ rfl) (by simp)
      have p2 := (unhide HK).cell (hr 2 _ rfl) (by simp)
      have p3 := (unhide HK).cell (hr 3 _ rfl) (by simp)
      rw [Nat.add_zero] at p0
      have hof := unhide HO l[i] (List.getElem_mem hlt)
      have HPR := hide (fun (hp : 0 < i) => by
        have h9 := hcc (i - 1) (by rw [List.length_map]; omega)
        rw [List.getElem_map] at h9
        exact h9 0 _ rfl : ∀ hp : 0 < i, w.cell? ⟨b, off + (i - 1) * 4 + 0, none⟩ = some (.string l[i - 1].nm))
      have HOK : Hid (isNm l[i].nm = true → 0 ≤ l[i].sy → l[i].sy ≤ l[i].bs.length → (∀ hp : 0 < i, l[i - 1].nm.data.toList < l[i].nm.data.toList) → okF l i hlt) := hide (fun a1 a2 a3 a4 => ⟨a1, a2, a3, a4⟩)
      have HNO := hide (fun (hf : FormedL l) => hf i hlt)
      unfold okF at HNO
      clear hr hcc
      obtain ⟨va, vl, vc, hv⟩ := (show ∃ va vl vc, l[i].v = .slice va vl vc by obtain ⟨a, b, c, h9, _⟩ := hof.1; exact ⟨a, b, c, h9⟩)
      have hvl : vl = l[i].bs.length := by
        obtain ⟨a, b, c, h9, h10, _⟩ := hof.1
        rw [hv] at h9
        injection h9 with _ h9 _
        rw [h9, h10]
      have hnl := hof.2.1
      rw [hv] at p1
      generalize hX : l[i] = X at *
      subst hvl
      clear hof hX
      go_upto_region 4 with fail
      have HK1 := hide ((unhide HK).alloc (.cells #[.string X.nm, .slice va X.bs.length vc, .int .i64 X.sy, .bool X.nd] 54 (0, 0)))
      have HG1 := hide (heap_alloc_new wr (.cells #[.string X.nm, .slice va X.bs.length vc, .int .i64 X.sy, .bool X.nd] 54 (0, 0)))
      obtain ⟨W1, hW1⟩ : ∃ W, wr.alloc (.cells #[.string X.nm, .slice va X.bs.length vc, .int .i64 X.sy, .bool X.nd] 54 (0, 0)) = W := ⟨_, rfl⟩
      rw [hW1] at HK1 HG1 ⊢
      clear hW1 p0 p1 p2 p3
      have c0 := cell_of_row _ _ 0 _ _ _ (unhide HG1)
      have c1 := cell_of_row _ _ 1 _ _ _ (unhide HG1)
      have c2 := cell_of_row _ _ 2 _ _ _ (unhide HG1)
      simp at c0 c1 c2
      have HH2 := hide h2
      clear h2
      go_wp2_with fail
      refine Calls.mono (isName_any X.nm _ (by omega)) ?_
      rintro e w2 ⟨rfl, rfl⟩
      cases hn : isNm X.nm
      · have HN := hide hn
        clear hn
        go_wp2_with fail
        go_ret
        exact ⟨by rw [formedB_no (fun hf => by have h9 := (unhide HNO hf).1; rw [unhide HN] at h9; cases h9)]; rfl, unhide HK1⟩
      · have HN := hide hn
        clear hn
        by_cases s0 : X.sy < 0
        · have HS := hide s0
          go_wp2_with fail
          go_ret
          exact ⟨by rw [formedB_no (fun hf => by have h9 := (unhide HNO hf).2.1; have := unhide HS; omega)]; rfl, unhide HK1⟩
        · have HS := hide s0
          by_cases s1 : (X.bs.length : Int) < X.sy
          · have HS1 := hide s1
            go_wp2_with fail
            go_ret
            exact ⟨by rw [formedB_no (fun hf => by have h9 := (unhide HNO hf).2.2.1; have := unhide HS1; omega)]; rfl, unhide HK1⟩
          · have HS1 := hide s1
            go_upto_region 6 with fail
            by_cases hp : 0 < i
            · have hip : (0 : Int) < (i : Int) := by omega
              have q0 := (unhide HK1).cell (unhide HPR hp) (by simp)
              rw [Nat.add_zero] at q0
              have hsub : (i : Int) - 1 = ((i - 1 : Nat) : Int) := by omega
              have HLTP := hide (fun hf => (unhide HNO hf).2.2.2 hp)
              have HOK2 := hide (fun (a4 : l[i - 1].nm.data.toList < X.nm.data.toList) => unhide HOK (unhide HN) (by have := unhide HS; omega) (by have := unhide HS1; omega) (fun _ => a4))
              generalize l[i - 1] = Y at q0 HLTP HOK2
              obtain ⟨i1, hi1⟩ : ∃ i1, i - 1 = i1 := ⟨_, rfl⟩
              rw [hi1] at q0 hsub
              have hi1c : (i1 : Int) < l.length := by omega
              refine wp_region_quiet_lit (by kernel_rfl) (by kernel_rfl) ?_
              repeat (go_big_quiet_step (fail))
              refine wpQuiet_nil ?_
              rintro _ ⟨n5, rfl⟩
              rw [less_str]
              by_cases hls : Y.nm.data.toList < X.nm.data.toList
              · rw [decide_eq_true hls]
                have HLS := hide hls
                clear hls q0 hsub hip
                go_wp2_with fail
                refine ⟨⟨i + 1, by omega, by simp, hide (fun j hj h9 => ?_), hide ((unhide HK1).drewN n5)⟩, ?_⟩
                · by_cases hji : j < i
                  · exact unhide HA j hj hji
                  · have : j = i := by omega
                    subst this
                    exact unhide HOK2 (unhide HLS)
                · simp [intOf]; omega
              · rw [decide_eq_false hls]
                have HLS := hide hls
                clear hls q0 hsub hip
                go_wp2_with fail
                go_ret
                exact ⟨by rw [formedB_no (fun hf => unhide HLS (unhide HLTP hf))]; rfl, (unhide HK1).drewN n5⟩
            · have hip : ¬ (0 : Int) < (i : Int) := by omega
              refine wp_region_quiet_lit (by kernel_rfl) (by kernel_rfl) ?_
              repeat (go_big_quiet_step (fail))
              refine wpQuiet_nil ?_
              rintro _ ⟨n5, rfl⟩
              have HP := hide hp
              go_wp2_with fail
              refine ⟨⟨i + 1, by omega, by simp, hide (fun j hj h9 => ?_), hide ((unhide HK1).drewN n5)⟩, ?_⟩
              · by_cases hji : j < i
                · exact unhide HA j hj hji
                · have : j = i := by omega
                  subst this
                  exact unhide HOK (unhide HN) (by have := unhide HS; omega) (by have := unhide HS1; omega) (fun h => absurd h (unhide HP))
              · simp [intOf]; omega
    · have hlt' : ¬ (i : Int) < l.length := by omega
      have hie : i = l.length := by omega
      subst hie
      go_wp2_with fail
      go_ret
      exact ⟨by rw [(formedB_iff l).2 (fun j hj => unhide HA j hj hj)]; rfl, unhide HK⟩
end Go.Proofs.Ytaflchnipcmpoaa
/-
  Laws for drawn regions, by genreg.py. No program.
-/
namespace Go.Proofs.Ytaflchnipcmpoaa
open Go Go.RowKit Go.BigFrame
set_option linter.unusedVariables false
set_option linter.unusedSimpArgs false
section
variable {P : Program} {Q : Exit → Act → World → Prop}
theorem wp_fl19 {id : Nat} {o0 o1 o2 o3 o4 o5 o6 o7 o8 o9 o10 o11 o12 o13 o14 o15 o16 o17 o18 : Oper} {a : Act} {w : World} (hm : P.follows .mixedOrders = true) (hs : Region.noSelect #[o0, o1, o2, o3, o4, o5, o6, o7, o8, o9, o10, o11, o12, o13, o14, o15, o16, o17, o18] = true)
    (f0 : Region.free .any #[o0, o1, o2, o3, o4, o5, o6, o7, o8, o9, o10, o11, o12, o13, o14, o15, o16, o17, o18] #[false, false, false, false, false, false, false, false, false, false, false, false, false, false, false, false, false, false, false] 0 = true) (r0 : (Region.ready .any #[o0, o1, o2, o3, o4, o5, o6, o7, o8, o9, o10, o11, o12, o13, o14, o15, o16, o17, o18] #[false, false, false, false, false, false, false, false, false, false, false, false, false, false, false, false, false, false, false]).contains 0 = true)
    (f1 : Region.free .any #[o0, o1, o2, o3, o4, o5, o6, o7, o8, o9, o10, o11, o12, o13, o14, o15, o16, o17, o18] #[true, false, false, false, false, false, false, false, false, false, false, false, false, false, false, false, false, false, false] 1 = true) (r1 : (Region.ready .any #[o0, o1, o2, o3, o4, o5, o6, o7, o8, o9, o10, o11, o12, o13, o14, o15, o16, o17, o18] #[true, false, false, false, false, false, false, false, false, false, false, false, false, false, false, false, false, false, false]).contains 1 = true)
    (f2 : Region.free .any #[o0, o1, o2, o3, o4, o5, o6, o7, o8, o9, o10, o11, o12, o13, o14, o15, o16, o17, o18] #[true, true, false, false, false, false, false, false, false, false, false, false, false, false, false, false, false, false, false] 2 = true) (r2 : (Region.ready .any #[o0, o1, o2, o3, o4, o5, o6, o7, o8, o9, o10, o11, o12, o13, o14, o15, o16, o17, o18] #[true, true, false, false, false, false, false, false, false, false, false, false, false, false, false, false, false, false, false]).contains 2 = true)
    (f3 : Region.free .any #[o0, o1, o2, o3, o4, o5, o6, o7, o8, o9, o10, o11, o12, o13, o14, o15, o16, o17, o18] #[true, true, true, false, false, false, false, false, false, false, false, false, false, false, false, false, false, false, false] 3 = true) (r3 : (Region.ready .any #[o0, o1, o2, o3, o4, o5, o6, o7, o8, o9, o10, o11, o12, o13, o14, o15, o16, o17, o18] #[true, true, true, false, false, false, false, false, false, false, false, false, false, false, false, false, false, false, false]).contains 3 = true)
    (f4 : Region.free .any #[o0, o1, o2, o3, o4, o5, o6, o7, o8, o9, o10, o11, o12, o13, o14, o15, o16, o17, o18] #[true, true, true, true, false, false, false, false, false, false, false, false, false, false, false, false, false, false, false] 4 = true) (r4 : (Region.ready .any #[o0, o1, o2, o3, o4, o5, o6, o7, o8, o9, o10, o11, o12, o13, o14, o15, o16, o17, o18] #[true, true, true, true, false, false, false, false, false, false, false, false, false, false, false, false, false, false, false]).contains 4 = true)
    (f5 : Region.free .any #[o0, o1, o2, o3, o4, o5, o6, o7, o8, o9, o10, o11, o12, o13, o14, o15, o16, o17, o18] #[true, true, true, true, true, false, false, false, false, false, false, false, false, false, false, false, false, false, false] 5 = true) (r5 : (Region.ready .any #[o0, o1, o2, o3, o4, o5, o6, o7, o8, o9, o10, o11, o12, o13, o14, o15, o16, o17, o18] #[true, true, true, true, true, false, false, false, false, false, false, false, false, false, false, false, false, false, false]).contains 5 = true)
    (f7 : Region.free .any #[o0, o1, o2, o3, o4, o5, o6, o7, o8, o9, o10, o11, o12, o13, o14, o15, o16, o17, o18] #[true, true, true, true, true, true, false, false, false, false, false, false, false, false, false, false, false, false, false] 7 = true) (r7 : (Region.ready .any #[o0, o1, o2, o3, o4, o5, o6, o7, o8, o9, o10, o11, o12, o13, o14, o15, o16, o17, o18] #[true, true, true, true, true, true, false, false, false, false, false, false, false, false, false, false, false, false, false]).contains 7 = true)
    (f8 : Region.free .any #[o0, o1, o2, o3, o4, o5, o6, o7, o8, o9, o10, o11, o12, o13, o14, o15, o16, o17, o18] #[true, true, true, true, true, true, false, true, false, false, false, false, false, false, false, false, false, false, false] 8 = true) (r8 : (Region.ready .any #[o0, o1, o2, o3, o4, o5, o6, o7, o8, o9, o10, o11, o12, o13, o14, o15, o16, o17, o18] #[true, true, true, true, true, true, false, true, false, false, false, false, false, false, false, false, false, false, false]).contains 8 = true)
    (f9 : Region.free .any #[o0, o1, o2, o3, o4, o5, o6, o7, o8, o9, o10, o11, o12, o13, o14, o15, o16, o17, o18] #[true, true, true, true, true, true, false, true, true, false, false, false, false, false, false, false, false, false, false] 9 = true) (r9 : (Region.ready .any #[o0, o1, o2, o3, o4, o5, o6, o7, o8, o9, o10, o11, o12, o13, o14, o15, o16, o17, o18] #[true, true, true, true, true, true, false, true, true, false, false, false, false, false, false, false, false, false, false]).contains 9 = true)
    (f10 : Region.free .any #[o0, o1, o2, o3, o4, o5, o6, o7, o8, o9, o10, o11, o12, o13, o14, o15, o16, o17, o18] #[true, true, true, true, true, true, false, true, true, true, false, false, false, false, false, false, false, false, false] 10 = true) (r10 : (Region.ready .any #[o0, o1, o2, o3, o4, o5, o6, o7, o8, o9, o10, o11, o12, o13, o14, o15, o16, o17, o18] #[true, true, true, true, true, true, false, true, true, true, false, false, false, false, false, false, false, false, false]).contains 10 = true)
    (f11 : Region.free .any #[o0, o1, o2, o3, o4, o5, o6, o7, o8, o9, o10, o11, o12, o13, o14, o15, o16, o17, o18] #[true, true, true, true, true, true, false, true, true, true, true, false, false, false, false, false, false, false, false] 11 = true) (r11 : (Region.ready .any #[o0, o1, o2, o3, o4, o5, o6, o7, o8, o9, o10, o11, o12, o13, o14, o15, o16, o17, o18] #[true, true, true, true, true, true, false, true, true, true, true, false, false, false, false, false, false, false, false]).contains 11 = true)
    (f12 : Region.free .any #[o0, o1, o2, o3, o4, o5, o6, o7, o8, o9, o10, o11, o12, o13, o14, o15, o16, o17, o18] #[true, true, true, true, true, true, false, true, true, true, true, true, false, false, false, false, false, false, false] 12 = true) (r12 : (Region.ready .any #[o0, o1, o2, o3, o4, o5, o6, o7, o8, o9, o10, o11, o12, o13, o14, o15, o16, o17, o18] #[true, true, true, true, true, true, false, true, true, true, true, true, false, false, false, false, false, false, false]).contains 12 = true)
    (f13 : Region.free .any #[o0, o1, o2, o3, o4, o5, o6, o7, o8, o9, o10, o11, o12, o13, o14, o15, o16, o17, o18] #[true, true, true, true, true, true, false, true, true, true, true, true, true, false, false, false, false, false, false] 13 = true) (r13 : (Region.ready .any #[o0, o1, o2, o3, o4, o5, o6, o7, o8, o9, o10, o11, o12, o13, o14, o15, o16, o17, o18] #[true, true, true, true, true, true, false, true, true, true, true, true, true, false, false, false, false, false, false]).contains 13 = true)
    (f14 : Region.free .any #[o0, o1, o2, o3, o4, o5, o6, o7, o8, o9, o10, o11, o12, o13, o14, o15, o16, o17, o18] #[true, true, true, true, true, true, false, true, true, true, true, true, true, true, false, false, false, false, false] 14 = true) (r14 : (Region.ready .any #[o0, o1, o2, o3, o4, o5, o6, o7, o8, o9, o10, o11, o12, o13, o14, o15, o16, o17, o18] #[true, true, true, true, true, true, false, true, true, true, true, true, true, true, false, false, false, false, false]).contains 14 = true)
    (q_ : Region.ready .any #[o0, o1, o2, o3, o4, o5, o6, o7, o8, o9, o10, o11, o12, o13, o14, o15, o16, o17, o18] #[true, true, true, true, true, true, false, true, true, true, true, true, true, true, true, false, false, false, false] = [6])
    (f_6_15 : Region.free .any #[o0, o1, o2, o3, o4, o5, o6, o7, o8, o9, o10, o11, o12, o13, o14, o15, o16, o17, o18] #[true, true, true, true, true, true, true, true, true, true, true, true, true, true, true, false, false, false, false] 15 = true) (r_6_15 : (Region.ready .any #[o0, o1, o2, o3, o4, o5, o6, o7, o8, o9, o10, o11, o12, o13, o14, o15, o16, o17, o18] #[true, true, true, true, true, true, true, true, true, true, true, true, true, true, true, false, false, false, false]).contains 15 = true)
    (q6_ : Region.ready .any #[o0, o1, o2, o3, o4, o5, o6, o7, o8, o9, o10, o11, o12, o13, o14, o15, o16, o17, o18] #[true, true, true, true, true, true, true, true, true, true, true, true, true, true, true, true, false, false, false] = [16])
    (q6_16_ : Region.ready .any #[o0, o1, o2, o3, o4, o5, o6, o7, o8, o9, o10, o11, o12, o13, o14, o15, o16, o17, o18] #[true, true, true, true, true, true, true, true, true, true, true, true, true, true, true, true, true, false, false] = [17])
    (f6_16_17_18 : Region.free .any #[o0, o1, o2, o3, o4, o5, o6, o7, o8, o9, o10, o11, o12, o13, o14, o15, o16, o17, o18] #[true, true, true, true, true, true, true, true, true, true, true, true, true, true, true, true, true, true, false] 18 = true) (r6_16_17_18 : (Region.ready .any #[o0, o1, o2, o3, o4, o5, o6, o7, o8, o9, o10, o11, o12, o13, o14, o15, o16, o17, o18] #[true, true, true, true, true, true, true, true, true, true, true, true, true, true, true, true, true, true, false]).contains 18 = true)
    (q6_16_17_ : Region.ready .any #[o0, o1, o2, o3, o4, o5, o6, o7, o8, o9, o10, o11, o12, o13, o14, o15, o16, o17, o18] #[true, true, true, true, true, true, true, true, true, true, true, true, true, true, true, true, true, true, true] = [])
    (g6 : o6.guard = none)    (g16 : o16.guard = none)    (g17 : o17.guard = none)
    (v0 v1 v2 v3 v4 v5 v7 v8 v9 v10 v11 v12 v13 v14 : Value) (A0 A1 A2 A3 A4 A5 A6 A7 A8 A9 A10 A11 A12 A13 : Act)
    (S : World → Prop)
    (I_ : World → Prop)
    (I6_ : Value → World → Prop)
    (I6_16_ : Value → Value → World → Prop)
    (I6_16_17_ : Value → Value → Value → World → Prop)
    (v15 : Value → Value)
    (v18 : Value → Value → Value → Value)
    (p0 : a.put o0.dst v0 = A0) (hy0 : YieldsIf P #[o0, o1, o2, o3, o4, o5, o6, o7, o8, o9, o10, o11, o12, o13, o14, o15, o16, o17, o18] S o0 v0 a)
    (p1 : A0.put o1.dst v1 = A1) (hy1 : YieldsIf P #[o0, o1, o2, o3, o4, o5, o6, o7, o8, o9, o10, o11, o12, o13, o14, o15, o16, o17, o18] S o1 v1 A0)
    (p2 : A1.put o2.dst v2 = A2) (hy2 : YieldsIf P #[o0, o1, o2, o3, o4, o5, o6, o7, o8, o9, o10, o11, o12, o13, o14, o15, o16, o17, o18] S o2 v2 A1)
    (p3 : A2.put o3.dst v3 = A3) (hy3 : YieldsIf P #[o0, o1, o2, o3, o4, o5, o6, o7, o8, o9, o10, o11, o12, o13, o14, o15, o16, o17, o18] S o3 v3 A2)
    (p4 : A3.put o4.dst v4 = A4) (hy4 : YieldsIf P #[o0, o1, o2, o3, o4, o5, o6, o7, o8, o9, o10, o11, o12, o13, o14, o15, o16, o17, o18] S o4 v4 A3)
    (p5 : A4.put o5.dst v5 = A5) (hy5 : YieldsIf P #[o0, o1, o2, o3, o4, o5, o6, o7, o8, o9, o10, o11, o12, o13, o14, o15, o16, o17, o18] S o5 v5 A4)
    (p7 : A5.put o7.dst v7 = A6) (hy7 : YieldsIf P #[o0, o1, o2, o3, o4, o5, o6, o7, o8, o9, o10, o11, o12, o13, o14, o15, o16, o17, o18] S o7 v7 A5)
    (p8 : A6.put o8.dst v8 = A7) (hy8 : YieldsIf P #[o0, o1, o2, o3, o4, o5, o6, o7, o8, o9, o10, o11, o12, o13, o14, o15, o16, o17, o18] S o8 v8 A6)
    (p9 : A7.put o9.dst v9 = A8) (hy9 : YieldsIf P #[o0, o1, o2, o3, o4, o5, o6, o7, o8, o9, o10, o11, o12, o13, o14, o15, o16, o17, o18] S o9 v9 A7)
    (p10 : A8.put o10.dst v10 = A9) (hy10 : YieldsIf P #[o0, o1, o2, o3, o4, o5, o6, o7, o8, o9, o10, o11, o12, o13, o14, o15, o16, o17, o18] S o10 v10 A8)
    (p11 : A9.put o11.dst v11 = A10) (hy11 : YieldsIf P #[o0, o1, o2, o3, o4, o5, o6, o7, o8, o9, o10, o11, o12, o13, o14, o15, o16, o17, o18] S o11 v11 A9)
    (p12 : A10.put o12.dst v12 = A11) (hy12 : YieldsIf P #[o0, o1, o2, o3, o4, o5, o6, o7, o8, o9, o10, o11, o12, o13, o14, o15, o16, o17, o18] S o12 v12 A10)
    (p13 : A11.put o13.dst v13 = A12) (hy13 : YieldsIf P #[o0, o1, o2, o3, o4, o5, o6, o7, o8, o9, o10, o11, o12, o13, o14, o15, o16, o17, o18] S o13 v13 A11)
    (p14 : A12.put o14.dst v14 = A13) (hy14 : YieldsIf P #[o0, o1, o2, o3, o4, o5, o6, o7, o8, o9, o10, o11, o12, o13, o14, o15, o16, o17, o18] S o14 v14 A12)
    (i0 : I_ w.drew)
    (hIS : (∀ w', I_  w' → S w') ∧ (∀ (u6 : Value) w', I6_ u6 w' → S w') ∧ (∀ (u6 u16 : Value) w', I6_16_ u6 u16 w' → S w') ∧ (∀ (u6 u16 u17 : Value) w', I6_16_17_ u6 u16 u17 w' → S w'))
    (s_6 : ∀ w', I_  w' → ∀ K : Act → World → Prop, (∀ (u6 : Value) w2, I6_ u6 w2 → K (A13.put o6.dst u6) w2) → o6.wp P A13 w' K (NoPanic Q))
    (s6_16 : ∀ (u6 : Value) w', I6_ u6 w' → ∀ K : Act → World → Prop, (∀ (u16 : Value) w2, I6_16_ u6 u16 w2 → K (((A13.put o6.dst u6).put o15.dst (v15 u6)).put o16.dst u16) w2) → o16.wp P ((A13.put o6.dst u6).put o15.dst (v15 u6)) w' K (NoPanic Q))
    (s6_16_17 : ∀ (u6 u16 : Value) w', I6_16_ u6 u16 w' → ∀ K : Act → World → Prop, (∀ (u17 : Value) w2, I6_16_17_ u6 u16 u17 w2 → K ((((A13.put o6.dst u6).put o15.dst (v15 u6)).put o16.dst u16).put o17.dst u17) w2) → o17.wp P (((A13.put o6.dst u6).put o15.dst (v15 u6)).put o16.dst u16) w' K (NoPanic Q))
    (y_6_15 : ∀ (u6 : Value) w', I6_ u6 w' → YieldsIf P #[o0, o1, o2, o3, o4, o5, o6, o7, o8, o9, o10, o11, o12, o13, o14, o15, o16, o17, o18] S o15 (v15 u6) (A13.put o6.dst u6))
    (y6_16_17_18 : ∀ (u6 u16 u17 : Value) w', I6_16_17_ u6 u16 u17 w' → YieldsIf P #[o0, o1, o2, o3, o4, o5, o6, o7, o8, o9, o10, o11, o12, o13, o14, o15, o16, o17, o18] S o18 (v18 u6 u16 u17) ((((A13.put o6.dst u6).put o15.dst (v15 u6)).put o16.dst u16).put o17.dst u17))
    (h : ∀ (u6 u16 u17 : Value) w', I6_16_17_ u6 u16 u17 w' → Q .normal (((((A13.put o6.dst u6).put o15.dst (v15 u6)).put o16.dst u16).put o17.dst u17).put o18.dst (v18 u6 u16 u17)) w') :
    (Code.region id #[o0, o1, o2, o3, o4, o5, o6, o7, o8, o9, o10, o11, o12, o13, o14, o15, o16, o17, o18] true).wp P Q a w := by
  subst p0 p1 p2 p3 p4 p5 p7 p8 p9 p10 p11 p12 p13 p14
  obtain ⟨z_, z6_, z6_16_, z6_16_17_⟩ := hIS
  refine wp_region_noPanic ?_
  refine wp_region_held_drew (S := S) hm (z_ _ i0) (fun hH => ?_)
  show wpAnyH P .any #[o0, o1, o2, o3, o4, o5, o6, o7, o8, o9, o10, o11, o12, o13, o14, o15, o16, o17, o18] (NoPanic Q) S 19 #[false, false, false, false, false, false, false, false, false, false, false, false, false, false, false, false, false, false, false] a w.drew
  refine wpAnyH_take (i := 0) (oi := o0) rfl hs f0 r0 (fun _ _ _ h => h) hy0 hH ?_
  refine wpAnyH_take (i := 1) (oi := o1) rfl hs f1 r1 (fun _ _ _ h => h) hy1 hH ?_
  refine wpAnyH_take (i := 2) (oi := o2) rfl hs f2 r2 (fun _ _ _ h => h) hy2 hH ?_
  refine wpAnyH_take (i := 3) (oi := o3) rfl hs f3 r3 (fun _ _ _ h => h) hy3 hH ?_
  refine wpAnyH_take (i := 4) (oi := o4) rfl hs f4 r4 (fun _ _ _ h => h) hy4 hH ?_
  refine wpAnyH_take (i := 5) (oi := o5) rfl hs f5 r5 (fun _ _ _ h => h) hy5 hH ?_
  refine wpAnyH_take (i := 7) (oi := o7) rfl hs f7 r7 (fun _ _ _ h => h) hy7 hH ?_
  refine wpAnyH_take (i := 8) (oi := o8) rfl hs f8 r8 (fun _ _ _ h => h) hy8 hH ?_
  refine wpAnyH_take (i := 9) (oi := o9) rfl hs f9 r9 (fun _ _ _ h => h) hy9 hH ?_
  refine wpAnyH_take (i := 10) (oi := o10) rfl hs f10 r10 (fun _ _ _ h => h) hy10 hH ?_
  refine wpAnyH_take (i := 11) (oi := o11) rfl hs f11 r11 (fun _ _ _ h => h) hy11 hH ?_
  refine wpAnyH_take (i := 12) (oi := o12) rfl hs f12 r12 (fun _ _ _ h => h) hy12 hH ?_
  refine wpAnyH_take (i := 13) (oi := o13) rfl hs f13 r13 (fun _ _ _ h => h) hy13 hH ?_
  refine wpAnyH_take (i := 14) (oi := o14) rfl hs f14 r14 (fun _ _ _ h => h) hy14 hH ?_
  generalize ((((((((((((((a.put o0.dst v0).put o1.dst v1).put o2.dst v2).put o3.dst v3).put o4.dst v4).put o5.dst v5).put o7.dst v7).put o8.dst v8).put o9.dst v9).put o10.dst v10).put o11.dst v11).put o12.dst v12).put o13.dst v13).put o14.dst v14) = B at *
  have wa6 : ∀ y, Region.wanted o6 y = true := fun y => by unfold Region.wanted; rw [g6]
  have wa16 : ∀ y, Region.wanted o16 y = true := fun y => by unfold Region.wanted; rw [g16]
  have wa17 : ∀ y, Region.wanted o17 y = true := fun y => by unfold Region.wanted; rw [g17]
  have t6_16_17_ : ∀ (u6 u16 u17 : Value) w', I6_16_17_ u6 u16 u17 w' → wpAnyH P .any #[o0, o1, o2, o3, o4, o5, o6, o7, o8, o9, o10, o11, o12, o13, o14, o15, o16, o17, o18] (NoPanic Q) S 0 #[true, true, true, true, true, true, true, true, true, true, true, true, true, true, true, true, true, true, true] (((((B.put o6.dst u6).put o15.dst (v15 u6)).put o16.dst u16).put o17.dst u17).put o18.dst (v18 u6 u16 u17)) w' := by
    intro u6 u16 u17 w0 i0
    exact ⟨q6_16_17_, NoPanic.normal (h u6 u16 u17 w0 i0)⟩
  have t6_16_ : ∀ (u6 u16 : Value) w', I6_16_ u6 u16 w' → wpAnyH P .any #[o0, o1, o2, o3, o4, o5, o6, o7, o8, o9, o10, o11, o12, o13, o14, o15, o16, o17, o18] (NoPanic Q) S 2 #[true, true, true, true, true, true, true, true, true, true, true, true, true, true, true, true, true, false, false] (((B.put o6.dst u6).put o15.dst (v15 u6)).put o16.dst u16) w' := by
    intro u6 u16 w0 i0
    refine wpAnyH_ready (rs := [17]) q6_16_ (by simp) (AllReadyH.cons (o := o17) rfl (fun K hK => ?_) AllReadyH.nil)
    · rw [if_pos (wa17 _)]
      refine s6_16_17 u6 u16 w0 i0 K (fun u17 w1 i1 => hK.out _ _ (z6_16_17_ u6 u16 u17 w1 i1) (fun _ => ?_))
      clear hK
      refine wpAnyH_take (i := 18) (oi := o18) rfl hs f6_16_17_18 r6_16_17_18 (fun _ _ _ h => h) (y6_16_17_18 u6 u16 u17 w1 i1) (z6_16_17_ u6 u16 u17 w1 i1) ?_
      exact t6_16_17_ u6 u16 u17 w1 i1
  have t6_ : ∀ (u6 : Value) w', I6_ u6 w' → wpAnyH P .any #[o0, o1, o2, o3, o4, o5, o6, o7, o8, o9, o10, o11, o12, o13, o14, o15, o16, o17, o18] (NoPanic Q) S 3 #[true, true, true, true, true, true, true, true, true, true, true, true, true, true, true, true, false, false, false] ((B.put o6.dst u6).put o15.dst (v15 u6)) w' := by
    intro u6 w0 i0
    refine wpAnyH_ready (rs := [16]) q6_ (by simp) (AllReadyH.cons (o := o16) rfl (fun K hK => ?_) AllReadyH.nil)
    · rw [if_pos (wa16 _)]
      refine s6_16 u6 w0 i0 K (fun u16 w1 i1 => hK.out _ _ (z6_16_ u6 u16 w1 i1) (fun _ => ?_))
      clear hK
      exact t6_16_ u6 u16 w1 i1
  have t_ : ∀ w', I_  w' → wpAnyH P .any #[o0, o1, o2, o3, o4, o5, o6, o7, o8, o9, o10, o11, o12, o13, o14, o15, o16, o17, o18] (NoPanic Q) S 5 #[true, true, true, true, true, true, false, true, true, true, true, true, true, true, true, false, false, false, false] B w' := by
    intro w0 i0
    refine wpAnyH_ready (rs := [6]) q_ (by simp) (AllReadyH.cons (o := o6) rfl (fun K hK => ?_) AllReadyH.nil)
    · rw [if_pos (wa6 _)]
      refine s_6  w0 i0 K (fun u6 w1 i1 => hK.out _ _ (z6_ u6 w1 i1) (fun _ => ?_))
      clear hK
      refine wpAnyH_take (i := 15) (oi := o15) rfl hs f_6_15 r_6_15 (fun _ _ _ h => h) (y_6_15 u6 w1 i1) (z6_ u6 w1 i1) ?_
      exact t6_ u6 w1 i1
  exact t_ w.drew i0

theorem wp_fr13 {id : Nat} {o0 o1 o2 o3 o4 o5 o6 o7 o8 o9 o10 o11 o12 : Oper} {a : Act} {w : World} (hm : P.follows .mixedOrders = true) (hs : Region.noSelect #[o0, o1, o2, o3, o4, o5, o6, o7, o8, o9, o10, o11, o12] = true)
    (f0 : Region.free .any #[o0, o1, o2, o3, o4, o5, o6, o7, o8, o9, o10, o11, o12] #[false, false, false, false, false, false, false, false, false, false, false, false, false] 0 = true) (r0 : (Region.ready .any #[o0, o1, o2, o3, o4, o5, o6, o7, o8, o9, o10, o11, o12] #[false, false, false, false, false, false, false, false, false, false, false, false, false]).contains 0 = true)
    (f1 : Region.free .any #[o0, o1, o2, o3, o4, o5, o6, o7, o8, o9, o10, o11, o12] #[true, false, false, false, false, false, false, false, false, false, false, false, false] 1 = true) (r1 : (Region.ready .any #[o0, o1, o2, o3, o4, o5, o6, o7, o8, o9, o10, o11, o12] #[true, false, false, false, false, false, false, false, false, false, false, false, false]).contains 1 = true)
    (f2 : Region.free .any #[o0, o1, o2, o3, o4, o5, o6, o7, o8, o9, o10, o11, o12] #[true, true, false, false, false, false, false, false, false, false, false, false, false] 2 = true) (r2 : (Region.ready .any #[o0, o1, o2, o3, o4, o5, o6, o7, o8, o9, o10, o11, o12] #[true, true, false, false, false, false, false, false, false, false, false, false, false]).contains 2 = true)
    (f3 : Region.free .any #[o0, o1, o2, o3, o4, o5, o6, o7, o8, o9, o10, o11, o12] #[true, true, true, false, false, false, false, false, false, false, false, false, false] 3 = true) (r3 : (Region.ready .any #[o0, o1, o2, o3, o4, o5, o6, o7, o8, o9, o10, o11, o12] #[true, true, true, false, false, false, false, false, false, false, false, false, false]).contains 3 = true)
    (f4 : Region.free .any #[o0, o1, o2, o3, o4, o5, o6, o7, o8, o9, o10, o11, o12] #[true, true, true, true, false, false, false, false, false, false, false, false, false] 4 = true) (r4 : (Region.ready .any #[o0, o1, o2, o3, o4, o5, o6, o7, o8, o9, o10, o11, o12] #[true, true, true, true, false, false, false, false, false, false, false, false, false]).contains 4 = true)
    (f6 : Region.free .any #[o0, o1, o2, o3, o4, o5, o6, o7, o8, o9, o10, o11, o12] #[true, true, true, true, true, false, false, false, false, false, false, false, false] 6 = true) (r6 : (Region.ready .any #[o0, o1, o2, o3, o4, o5, o6, o7, o8, o9, o10, o11, o12] #[true, true, true, true, true, false, false, false, false, false, false, false, false]).contains 6 = true)
    (f7 : Region.free .any #[o0, o1, o2, o3, o4, o5, o6, o7, o8, o9, o10, o11, o12] #[true, true, true, true, true, false, true, false, false, false, false, false, false] 7 = true) (r7 : (Region.ready .any #[o0, o1, o2, o3, o4, o5, o6, o7, o8, o9, o10, o11, o12] #[true, true, true, true, true, false, true, false, false, false, false, false, false]).contains 7 = true)
    (f8 : Region.free .any #[o0, o1, o2, o3, o4, o5, o6, o7, o8, o9, o10, o11, o12] #[true, true, true, true, true, false, true, true, false, false, false, false, false] 8 = true) (r8 : (Region.ready .any #[o0, o1, o2, o3, o4, o5, o6, o7, o8, o9, o10, o11, o12] #[true, true, true, true, true, false, true, true, false, false, false, false, false]).contains 8 = true)
    (f9 : Region.free .any #[o0, o1, o2, o3, o4, o5, o6, o7, o8, o9, o10, o11, o12] #[true, true, true, true, true, false, true, true, true, false, false, false, false] 9 = true) (r9 : (Region.ready .any #[o0, o1, o2, o3, o4, o5, o6, o7, o8, o9, o10, o11, o12] #[true, true, true, true, true, false, true, true, true, false, false, false, false]).contains 9 = true)
    (q_ : Region.ready .any #[o0, o1, o2, o3, o4, o5, o6, o7, o8, o9, o10, o11, o12] #[true, true, true, true, true, false, true, true, true, true, false, false, false] = [5])
    (f_5_10 : Region.free .any #[o0, o1, o2, o3, o4, o5, o6, o7, o8, o9, o10, o11, o12] #[true, true, true, true, true, true, true, true, true, true, false, false, false] 10 = true) (r_5_10 : (Region.ready .any #[o0, o1, o2, o3, o4, o5, o6, o7, o8, o9, o10, o11, o12] #[true, true, true, true, true, true, true, true, true, true, false, false, false]).contains 10 = true)
    (q5_ : Region.ready .any #[o0, o1, o2, o3, o4, o5, o6, o7, o8, o9, o10, o11, o12] #[true, true, true, true, true, true, true, true, true, true, true, false, false] = [11])
    (q5_11_ : Region.ready .any #[o0, o1, o2, o3, o4, o5, o6, o7, o8, o9, o10, o11, o12] #[true, true, true, true, true, true, true, true, true, true, true, true, false] = [12])
    (q5_11_12_ : Region.ready .any #[o0, o1, o2, o3, o4, o5, o6, o7, o8, o9, o10, o11, o12] #[true, true, true, true, true, true, true, true, true, true, true, true, true] = [])
    (g5 : o5.guard = none)    (g11 : o11.guard = none)    (g12 : o12.guard = none)
    (v0 v1 v2 v3 v4 v6 v7 v8 v9 : Value) (A0 A1 A2 A3 A4 A5 A6 A7 A8 : Act)
    (S : World → Prop)
    (I_ : World → Prop)
    (I5_ : Value → World → Prop)
    (I5_11_ : Value → Value → World → Prop)
    (I5_11_12_ : Value → Value → Value → World → Prop)
    (v10 : Value → Value)
    (p0 : a.put o0.dst v0 = A0) (hy0 : YieldsIf P #[o0, o1, o2, o3, o4, o5, o6, o7, o8, o9, o10, o11, o12] S o0 v0 a)
    (p1 : A0.put o1.dst v1 = A1) (hy1 : YieldsIf P #[o0, o1, o2, o3, o4, o5, o6, o7, o8, o9, o10, o11, o12] S o1 v1 A0)
    (p2 : A1.put o2.dst v2 = A2) (hy2 : YieldsIf P #[o0, o1, o2, o3, o4, o5, o6, o7, o8, o9, o10, o11, o12] S o2 v2 A1)
    (p3 : A2.put o3.dst v3 = A3) (hy3 : YieldsIf P #[o0, o1, o2, o3, o4, o5, o6, o7, o8, o9, o10, o11, o12] S o3 v3 A2)
    (p4 : A3.put o4.dst v4 = A4) (hy4 : YieldsIf P #[o0, o1, o2, o3, o4, o5, o6, o7, o8, o9, o10, o11, o12] S o4 v4 A3)
    (p6 : A4.put o6.dst v6 = A5) (hy6 : YieldsIf P #[o0, o1, o2, o3, o4, o5, o6, o7, o8, o9, o10, o11, o12] S o6 v6 A4)
    (p7 : A5.put o7.dst v7 = A6) (hy7 : YieldsIf P #[o0, o1, o2, o3, o4, o5, o6, o7, o8, o9, o10, o11, o12] S o7 v7 A5)
    (p8 : A6.put o8.dst v8 = A7) (hy8 : YieldsIf P #[o0, o1, o2, o3, o4, o5, o6, o7, o8, o9, o10, o11, o12] S o8 v8 A6)
    (p9 : A7.put o9.dst v9 = A8) (hy9 : YieldsIf P #[o0, o1, o2, o3, o4, o5, o6, o7, o8, o9, o10, o11, o12] S o9 v9 A7)
    (i0 : I_ w.drew)
    (hIS : (∀ w', I_  w' → S w') ∧ (∀ (u5 : Value) w', I5_ u5 w' → S w') ∧ (∀ (u5 u11 : Value) w', I5_11_ u5 u11 w' → S w') ∧ (∀ (u5 u11 u12 : Value) w', I5_11_12_ u5 u11 u12 w' → S w'))
    (s_5 : ∀ w', I_  w' → ∀ K : Act → World → Prop, (∀ (u5 : Value) w2, I5_ u5 w2 → K (A8.put o5.dst u5) w2) → o5.wp P A8 w' K (NoPanic Q))
    (s5_11 : ∀ (u5 : Value) w', I5_ u5 w' → ∀ K : Act → World → Prop, (∀ (u11 : Value) w2, I5_11_ u5 u11 w2 → K (((A8.put o5.dst u5).put o10.dst (v10 u5)).put o11.dst u11) w2) → o11.wp P ((A8.put o5.dst u5).put o10.dst (v10 u5)) w' K (NoPanic Q))
    (s5_11_12 : ∀ (u5 u11 : Value) w', I5_11_ u5 u11 w' → ∀ K : Act → World → Prop, (∀ (u12 : Value) w2, I5_11_12_ u5 u11 u12 w2 → K ((((A8.put o5.dst u5).put o10.dst (v10 u5)).put o11.dst u11).put o12.dst u12) w2) → o12.wp P (((A8.put o5.dst u5).put o10.dst (v10 u5)).put o11.dst u11) w' K (NoPanic Q))
    (y_5_10 : ∀ (u5 : Value) w', I5_ u5 w' → YieldsIf P #[o0, o1, o2, o3, o4, o5, o6, o7, o8, o9, o10, o11, o12] S o10 (v10 u5) (A8.put o5.dst u5))
    (h : ∀ (u5 u11 u12 : Value) w', I5_11_12_ u5 u11 u12 w' → Q .normal ((((A8.put o5.dst u5).put o10.dst (v10 u5)).put o11.dst u11).put o12.dst u12) w') :
    (Code.region id #[o0, o1, o2, o3, o4, o5, o6, o7, o8, o9, o10, o11, o12] true).wp P Q a w := by
  subst p0 p1 p2 p3 p4 p6 p7 p8 p9
  obtain ⟨z_, z5_, z5_11_, z5_11_12_⟩ := hIS
  refine wp_region_noPanic ?_
  refine wp_region_held_drew (S := S) hm (z_ _ i0) (fun hH => ?_)
  show wpAnyH P .any #[o0, o1, o2, o3, o4, o5, o6, o7, o8, o9, o10, o11, o12] (NoPanic Q) S 13 #[false, false, false, false, false, false, false, false, false, false, false, false, false] a w.drew
  refine wpAnyH_take (i := 0) (oi := o0) rfl hs f0 r0 (fun _ _ _ h => h) hy0 hH ?_
  refine wpAnyH_take (i := 1) (oi := o1) rfl hs f1 r1 (fun _ _ _ h => h) hy1 hH ?_
  refine wpAnyH_take (i := 2) (oi := o2) rfl hs f2 r2 (fun _ _ _ h => h) hy2 hH ?_
  refine wpAnyH_take (i := 3) (oi := o3) rfl hs f3 r3 (fun _ _ _ h => h) hy3 hH ?_
  refine wpAnyH_take (i := 4) (oi := o4) rfl hs f4 r4 (fun _ _ _ h => h) hy4 hH ?_
  refine wpAnyH_take (i := 6) (oi := o6) rfl hs f6 r6 (fun _ _ _ h => h) hy6 hH ?_
  refine wpAnyH_take (i := 7) (oi := o7) rfl hs f7 r7 (fun _ _ _ h => h) hy7 hH ?_
  refine wpAnyH_take (i := 8) (oi := o8) rfl hs f8 r8 (fun _ _ _ h => h) hy8 hH ?_
  refine wpAnyH_take (i := 9) (oi := o9) rfl hs f9 r9 (fun _ _ _ h => h) hy9 hH ?_
  generalize (((((((((a.put o0.dst v0).put o1.dst v1).put o2.dst v2).put o3.dst v3).put o4.dst v4).put o6.dst v6).put o7.dst v7).put o8.dst v8).put o9.dst v9) = B at *
  have wa5 : ∀ y, Region.wanted o5 y = true := fun y => by unfold Region.wanted; rw [g5]
  have wa11 : ∀ y, Region.wanted o11 y = true := fun y => by unfold Region.wanted; rw [g11]
  have wa12 : ∀ y, Region.wanted o12 y = true := fun y => by unfold Region.wanted; rw [g12]
  have t5_11_12_ : ∀ (u5 u11 u12 : Value) w', I5_11_12_ u5 u11 u12 w' → wpAnyH P .any #[o0, o1, o2, o3, o4, o5, o6, o7, o8, o9, o10, o11, o12] (NoPanic Q) S 0 #[true, true, true, true, true, true, true, true, true, true, true, true, true] ((((B.put o5.dst u5).put o10.dst (v10 u5)).put o11.dst u11).put o12.dst u12) w' := by
    intro u5 u11 u12 w0 i0
    exact ⟨q5_11_12_, NoPanic.normal (h u5 u11 u12 w0 i0)⟩
  have t5_11_ : ∀ (u5 u11 : Value) w', I5_11_ u5 u11 w' → wpAnyH P .any #[o0, o1, o2, o3, o4, o5, o6, o7, o8, o9, o10, o11, o12] (NoPanic Q) S 1 #[true, true, true, true, true, true, true, true, true, true, true, true, false] (((B.put o5.dst u5).put o10.dst (v10 u5)).put o11.dst u11) w' := by
    intro u5 u11 w0 i0
    refine wpAnyH_ready (rs := [12]) q5_11_ (by simp) (AllReadyH.cons (o := o12) rfl (fun K hK => ?_) AllReadyH.nil)
    · rw [if_pos (wa12 _)]
      refine s5_11_12 u5 u11 w0 i0 K (fun u12 w1 i1 => hK.out _ _ (z5_11_12_ u5 u11 u12 w1 i1) (fun _ => ?_))
      clear hK
      exact t5_11_12_ u5 u11 u12 w1 i1
  have t5_ : ∀ (u5 : Value) w', I5_ u5 w' → wpAnyH P .any #[o0, o1, o2, o3, o4, o5, o6, o7, o8, o9, o10, o11, o12] (NoPanic Q) S 2 #[true, true, true, true, true, true, true, true, true, true, true, false, false] ((B.put o5.dst u5).put o10.dst (v10 u5)) w' := by
    intro u5 w0 i0
    refine wpAnyH_ready (rs := [11]) q5_ (by simp) (AllReadyH.cons (o := o11) rfl (fun K hK => ?_) AllReadyH.nil)
    · rw [if_pos (wa11 _)]
      refine s5_11 u5 w0 i0 K (fun u11 w1 i1 => hK.out _ _ (z5_11_ u5 u11 w1 i1) (fun _ => ?_))
      clear hK
      exact t5_11_ u5 u11 w1 i1
  have t_ : ∀ w', I_  w' → wpAnyH P .any #[o0, o1, o2, o3, o4, o5, o6, o7, o8, o9, o10, o11, o12] (NoPanic Q) S 4 #[true, true, true, true, true, false, true, true, true, true, false, false, false] B w' := by
    intro w0 i0
    refine wpAnyH_ready (rs := [5]) q_ (by simp) (AllReadyH.cons (o := o5) rfl (fun K hK => ?_) AllReadyH.nil)
    · rw [if_pos (wa5 _)]
      refine s_5  w0 i0 K (fun u5 w1 i1 => hK.out _ _ (z5_ u5 w1 i1) (fun _ => ?_))
      clear hK
      refine wpAnyH_take (i := 10) (oi := o10) rfl hs f_5_10 r_5_10 (fun _ _ _ h => h) (y_5_10 u5 w1 i1) (z5_ u5 w1 i1) ?_
      exact t5_ u5 w1 i1
  exact t_ w.drew i0

end
end Go.Proofs.Ytaflchnipcmpoaa
namespace Go.Proofs.Ytaflchnipcmpoaa
open Go.RowKit Go.BigFrame Go.Maps Go.Sort
set_option linter.unusedVariables false
set_option linter.unusedSimpArgs false

/-- The files, in the order of their names. -/
def srtA (A : List DF) : List DF := A.mergeSort fun a b => decide (a.nm.data.toList ≤ b.nm.data.toList)
theorem srtA_perm (A : List DF) : (srtA A).Perm A := List.mergeSort_perm _ _
theorem srtA_mem {A : List DF} {f : DF} : f ∈ srtA A ↔ f ∈ A := (srtA_perm A).mem_iff
theorem srtA_len (A : List DF) : (srtA A).length = A.length := (srtA_perm A).length_eq
theorem le_trans_u8 (a b c : List UInt8) (h1 : a ≤ b) (h2 : b ≤ c) : a ≤ c := List.le_trans h1 h2
theorem srtA_names {A : List DF} (hd : Dist A) : (srtA A).map (fun f => f.nm.data.toList) = srtN A := by
  unfold srtA srtN
  rw [List.map_mergeSort]
  intro a _ b _
  rfl
theorem findA_of {A : List DF} (hd : Dist A) {f : DF} (hf : f ∈ A) : findA A f.nm.data.toList = some f := by
  cases h : findA A f.nm.data.toList with
  | none => exact absurd rfl (findA_none h f hf)
  | some g =>
    unfold findA at h
    have h1 := List.mem_of_find?_eq_some h
    have h2 : g.nm.data.toList = f.nm.data.toList := by simpa using List.find?_some h
    have h3 := ba_ext h2
    congr 1
    have hd2 : A.Pairwise fun a b => a.nm ≠ b.nm := hd
    clear h hd
    induction hd2 with
    | nil => simp at hf
    | @cons x l hx hl ih =>
      simp only [List.mem_cons] at hf h1
      rcases hf with rfl | hf
      · rcases h1 with rfl | h1
        · rfl
        · exact absurd h3.symm (hx g h1)
      · rcases h1 with rfl | h1
        · exact absurd h3 (hx f hf)
        · exact ih hf h1

/-- The cells of a file. -/
def dfC (t : DF × Value) : List Value := [.string t.1.nm, t.2, .int .i64 (t.1.sy : Int), .bool t.1.nd]
theorem dfC_len (ts : List (DF × Value)) : (ts.flatMap dfC).length = ts.length * 4 := by
  induction ts with
  | nil => rfl
  | cons t r ih => simp only [List.flatMap_cons, List.length_append, List.length_cons, dfC, List.length_nil] at ih ⊢; omega
theorem dfC_get : ∀ (ts : List (DF × Value)) (i : Nat) (h : i < ts.length) (j : Nat) (v : Value), (dfC ts[i])[j]? = some v → (ts.flatMap dfC)[i * 4 + j]? = some v
  | t :: r, 0, _, j, v, hv => by
    have hj := (List.getElem?_eq_some_iff.1 hv).1
    rw [List.flatMap_cons, List.getElem?_append_left (by simpa using hj)]
    simpa using hv
  | t :: r, i + 1, h, j, v, hv => by
    have h' : i < r.length := by simpa using h
    have h1 := dfC_get r i h' j v (by simpa using hv)
    rw [List.flatMap_cons, List.getElem?_append_right (by simp [dfC]; omega)]
    rw [show (i + 1) * 4 + j - (dfC t).length = i * 4 + j by simp [dfC]; omega]
    exact h1
/-- Files that are owned, each file's bytes in memory of their own. -/
structure OwnFl (B : Nat) (w : World) (v : Value) (ts : List (DF × Value)) : Prop where
  own : w.ownsRow B 54 4 v ts.length (ts.flatMap dfC)
  el : ∀ t ∈ ts, w.ownsRow B 5 1 t.2 t.1.bs.length (t.1.bs.map u8) ∧ (∀ x ∈ t.1.bs, x < 256) ∧ t.1.bs.length ≤ 140737488355328
  ap : ts.Pairwise fun a b => ∀ x ∈ blk a.2, x ∉ blk b.2
theorem OwnFl.nil (B : Nat) (w : World) : OwnFl B w (.slice none 0 0) [] := ⟨World.ownsRow_nil _ _ _ _, by simp, List.Pairwise.nil⟩
/-- Files that can be read. -/
def RdFl (w : World) (v : Value) (ts : List (DF × Value)) : Prop := RdC 4 w v (ts.map dfC) ∧ ∀ t ∈ ts, Rd w t.2 t.1.bs
theorem OwnFl.rd {B : Nat} {w : World} {v : Value} {ts : List (DF × Value)} (h : OwnFl B w v ts) : RdFl w v ts := by
  refine ⟨?_, fun t ht => rd_owns (h.el t ht).1 (h.el t ht).2.1 (h.el t ht).2.2⟩
  rcases h.own.2 with ⟨rfl, h0⟩ | ⟨g, cap, cur, rfl, _, hg, hc, hm', hs, ht⟩
  · have : ts = [] := List.eq_nil_of_length_eq_zero h0
    subst this
    exact RdC.nil 4 w
  · refine ⟨some ⟨g, 0, none⟩, ts.length, cap, rfl, by simp, hc, by unfold maxLen at hm'; omega, fun _ => ⟨g, 0, rfl, fun i hi j u hu => ?_⟩⟩
    have hi' : i < ts.length := by simpa using hi
    rw [List.getElem_map] at hu
    have h9 := h.own.cells (g := g) rfl (i * 4 + j) u (dfC_get ts i hi' j u hu)
    rw [Addr.add_lit, Nat.zero_add] at h9
    rw [Nat.zero_add]
    exact h9
theorem OwnFl.kept {L : List Nat} {B : Nat} {w w' : World} {v : Value} {ts : List (DF × Value)} (h : OwnFl B w v ts) (k : Kept L w w') (hv : ∀ x ∈ blk v, x ∉ L) (ht : ∀ t ∈ ts, ∀ x ∈ blk t.2, x ∉ L) : OwnFl B w' v ts :=
  ⟨k.owns h.own (fun x hx => hv x (own_blk hx)), fun t h1 => ⟨k.owns (h.el t h1).1 (fun x hx => ht t h1 x (own_blk hx)), (h.el t h1).2⟩, h.ap⟩
theorem blk_own4 {w : World} {base e s n : Nat} {v : Value} {xs : List Value} (h : w.ownsRow base e s v n xs) {x : Nat} (hx : x ∈ blk v) : v.ownBlock = some x := by
  rcases h.2 with ⟨rfl, _⟩ | ⟨g, cap, cur, rfl, _, hg, _⟩
  · simp [blk] at hx
  · simp only [blk, List.mem_singleton] at hx
    subst hx
    rfl
/-- The blocks of a list of files. -/
def flB (v : Value) (ts : List (DF × Value)) : List Nat := blk v ++ ts.flatMap fun t => blk t.2
theorem OwnFl.ge {B : Nat} {w : World} {v : Value} {ts : List (DF × Value)} (h : OwnFl B w v ts) : ∀ x ∈ flB v ts, B ≤ x ∧ x < w.heap.size := by
  intro x hx
  simp only [flB, List.mem_append, List.mem_flatMap] at hx
  rcases hx with hx | ⟨t, ht, hx⟩
  · exact h.own.lt x (blk_own4 h.own hx)
  · exact (h.el t ht).1.lt x (blk_own (h.el t ht).1 hx)
theorem OwnFl.keptF {L : List Nat} {B : Nat} {w w' : World} {v : Value} {ts : List (DF × Value)} (h : OwnFl B w v ts) (k : Kept L w w') (hn : ∀ x ∈ flB v ts, x ∉ L) : OwnFl B w' v ts :=
  h.kept k (fun x hx => hn x (by simp [flB, hx])) (fun t ht x hx => hn x (by simp only [flB, List.mem_append, List.mem_flatMap]; exact .inr ⟨t, ht, hx⟩))

theorem Try.infoF : (Try.prog.info? 54).map (fun i => (i.zero, i.size, i.bytes)) = some (some (.agg #[.string ⟨#[]⟩, .slice none 0 0, .int .i64 0, .bool false]), 4, 56) := by kernel_rfl
/-- One file more. -/
theorem pushFl (w : World) (B : Nat) (v : Value) (ts : List (DF × Value)) (t : DF × Value) (H : Nat) (h : OwnFl B w v ts) (hnew : w.heap[H]? = some (.cells (dfC t).toArray 54 (0, 0))) (ho : w.ownsRow B 5 1 t.2 t.1.bs.length (t.1.bs.map u8) ∧ (∀ x ∈ t.1.bs, x < 256) ∧ t.1.bs.length ≤ 140737488355328)
    (ha : ∀ a ∈ ts, ∀ x ∈ blk a.2, x ∉ blk t.2) (hl : ts.length + 1 ≤ 1000000000) (hb : B ≤ w.heap.size) :
    ∃ g cap w1, (Builtin.append_ #[22, 22] 22 #[v, .slice (some ⟨H, 0, none⟩) 1 1]).run Try.prog w = .ok (.slice (some ⟨g, 0, none⟩) (ts.length + 1) cap) w1 ∧
      OwnFl B w1 (.slice (some ⟨g, 0, none⟩) (ts.length + 1) cap) (ts ++ [t]) ∧ w.grownBy w1 v.ownBlock ∧ (v.ownBlock = some g ∨ g = w.heap.size) := by
  obtain ⟨i0, hi, hz0, hz1, hz2⟩ := info_parts Try.infoF
  obtain ⟨ao, len, cap0, hv2⟩ : ∃ ao len cap, t.2 = .slice ao len cap := by
    obtain ⟨a, c, h9⟩ := owns_shape ho.1
    exact ⟨a, _, c, h9⟩
  obtain ⟨g, cap, w1, hr, hown, hgrow, hat, hlt⟩ := run_append_lies (P := Try.prog) w 22 22 B 54 i0 (.agg #[.string ⟨#[]⟩, .slice none 0 0, .int .i64 0, .bool false]) 4 56 Try.underlying22 hi hz0 hz1 hz2 rfl (by decide)
    v ts.length (ts.flatMap dfC) h.own ⟨H, 0, none⟩ 1 1 (dfC t) rfl (World.news_of_block hnew) (by intro u hu; simp only [dfC, List.mem_cons, List.not_mem_nil, or_false] at hu; rcases hu with rfl | rfl | rfl | rfl; rfl; rw [hv2]; rfl; rfl; rfl) (by decide) (by unfold maxLen; omega) (by omega) hb _ rfl
  have k1 : Kept v.ownBlock.toList w w1 := (Kept.refl _ w).grown hgrow (by intro k hk; left; simp [hk])
  have hty : ∀ {x : Nat} {cs : Array Value}, w.heap[x]? = some (.cells cs 5 (0, 0)) → x ∉ v.ownBlock.toList := by
    intro x cs hx hm
    simp only [Option.mem_toList] at hm
    rcases h.own.2 with ⟨hv, _⟩ | ⟨g9, c9, cur9, hv, _, hg9, _⟩
    · rw [hv] at hm; cases hm
    · rw [hv] at hm
      injection hm with hm
      subst hm
      exact cells_ne hx hg9 (by decide) rfl
  refine ⟨g, cap, w1, hr, ⟨?_, ?_, ?_⟩, hgrow, hat⟩
  · rw [List.flatMap_append, List.length_append]
    simpa using hown
  · intro a ha2
    rw [List.mem_append, List.mem_singleton] at ha2
    have h9 : w.ownsRow B 5 1 a.2 a.1.bs.length (a.1.bs.map u8) ∧ (∀ x ∈ a.1.bs, x < 256) ∧ a.1.bs.length ≤ 140737488355328 := by
      rcases ha2 with h1 | rfl
      · exact h.el a h1
      · exact ho
    refine ⟨k1.owns h9.1 ?_, h9.2⟩
    intro x hx
    obtain ⟨cs, hc⟩ := owns_cells h9.1 (own_blk hx)
    exact hty hc
  · rw [List.pairwise_append]
    exact ⟨h.ap, List.pairwise_singleton _ _, by intro a h1 b h2; rw [List.mem_singleton] at h2; subst h2; exact ha a h1⟩

theorem look_ptr1 {w : World} {b n : Nat} {D : DataW Unit} {f : List UInt8 → Option Nat} (hown : w.ownsMap Try.prog 9 ptrElem b n D) (hD : MapIs D f) (s : ByteArray) (hk : keyOf Try.prog 9 (.string s) = some (.string s.data.toList)) {g : Nat} (hg : f s.data.toList = some g) :
    (Instr.lookup 74 (.map (some b)) (.string s) false).run Try.prog w = .ok (.pointer (some ⟨g, 0, none⟩)) w := by
  obtain ⟨v, ps, hrun, hv⟩ := hown.lookup keyS Try.underlying74 (zeroPF _) ptrElem_nil hk
  rw [(hD _).2, hg] at hv
  rw [hrun]
  rcases ptrElem_inv hv with ⟨rfl, h⟩ | ⟨g', rfl, h⟩
  · simp at h
  · simp at h
    have : g = g' := by omega
    subst this
    rfl
theorem wp_appendFl {o : Oper} {a : Act} {w : World} {K : Act → World → Prop} {Q : Exit → Act → World → Prop} {s x : Operand} (ho : o.op = .call { callee := .builtin .append, args := #[s, x], argTypes := #[22, 22] }) (hty : o.type = 22) {v u r : Value} {w1 : World} (hs : a.eval s = v) (hx : a.eval x = u)
    (hrun : (Builtin.append_ #[22, 22] 22 #[v, u]).run Try.prog w = .ok r w1) (hK : K (a.put o.dst r) w1) : o.wp Try.prog a w K Q := by
  unfold Oper.wp execOp
  simp only [ho, hty, resolve, invoke, builtin, Sem.run_bind, Sem.run_pure, Result.andThen_ok, List.map_toArray, List.map_cons, List.map_nil, hs, hx, hrun]
  exact hK
end Go.Proofs.Ytaflchnipcmpoaa
namespace Go.Proofs.Ytaflchnipcmpoaa
open Go.RowKit Go.BigFrame Go.Maps Go.Sort
set_option linter.unusedVariables false
set_option linter.unusedSimpArgs false

def toDF (f : IFile) : DF := ⟨f.nm, f.bs, f.sy.toNat, f.nd⟩
theorem formed_lt {l : List IFile} (h : FormedL l) : ∀ (j i : Nat) (hj : j < l.length) (hi : i < j), l[i].nm.data.toList < l[j].nm.data.toList := by
  intro j
  induction j with
  | zero => intro i hj hi; omega
  | succ j ih =>
    intro i hj hi
    have h1 := (h (j + 1) hj).2.2.2 (by omega)
    by_cases hij : i = j
    · subst hij
      exact h1
    · exact List.lt_trans (ih i (by omega) (by omega)) h1
theorem formed_dist {l : List IFile} (h : FormedL l) : Dist (l.map toDF) := by
  unfold Dist
  rw [List.pairwise_map, List.pairwise_iff_getElem]
  intro i j hi hj hij e
  have h1 := formed_lt h j i hj hij
  have e2 : l[i].nm = l[j].nm := e
  rw [e2] at h1
  exact List.lt_irrefl _ h1

set_option maxRecDepth 100000 in
set_option maxHeartbeats 1000000 in
theorem from_arg (sec : Int) (v : Value) (w : World) (h : sec < 1 ∨ 4096 < sec) :
    Calls Try.prog 10 #[.int .i64 sec, v] w fun e w' => e = .returned (.tuple #[.pointer none, .int .i64 1]) ∧ w' = w := by
  by_cases h1 : sec < 1
  · clear h
    go_enter Try.func10, Try.ntmps10
    go_wp2_with fail
    go_ret2
    exact ⟨rfl, rfl⟩
  · have h2 : 4096 < sec := by omega
    clear h
    go_enter Try.func10, Try.ntmps10
    go_wp2_with fail
    go_ret2
    exact ⟨rfl, rfl⟩

set_option maxRecDepth 100000 in
set_option maxHeartbeats 1000000 in
theorem from_form (sec : Int) (v : Value) (l : List IFile) (w : World) (h1 : 1 ≤ sec) (h2 : sec ≤ 4096) (h : RdC 4 w v (l.map ifC)) (ho : ∀ f ∈ l, OkIf w f) (hl : l.length ≤ 1048576) (hf : formedB l = false) :
    Calls Try.prog 10 #[.int .i64 sec, v] w fun e w' => e = .returned (.tuple #[.pointer none, .int .i64 3]) ∧ Kept [] w w' := by
  have HC := hide (formed_any v l w h ho hl)
  rw [hf] at HC
  have e1 : ¬ sec < 1 := by omega
  have e2 : ¬ 4096 < sec := by omega
  clear h ho hf h1 h2
  go_enter Try.func10, Try.ntmps10
  go_wp2_with fail
  refine Calls.mono (unhide HC) ?_
  rintro e w1 ⟨rfl, k1⟩
  have HK := hide k1
  clear k1
  go_wp2_with fail
  go_ret2
  exact ⟨rfl, unhide HK⟩

set_option maxRecDepth 100000 in
set_option maxHeartbeats 2000000 in
theorem from_ok (sec : Nat) (v : Value) (l : List IFile) (w : World) (h1 : 1 ≤ sec) (h2 : sec ≤ 4096) (h : RdC 4 w v (l.map ifC)) (ho : ∀ f ∈ l, OkIf w f) (hl : l.length ≤ 1048576) (hf : formedB l = true) :
    Calls Try.prog 10 #[.int .i64 sec, v] w fun e w' => ∃ d m u gs, e = .returned (.tuple #[.pointer (some ⟨d, 0, none⟩), .int .i64 0]) ∧ DkAt w' d sec m l.length u (.map none) 0 0 false (fun _ => none) gs ∧ gs.map absF = l.map toDF ∧ Kept [] w w' ∧ ∀ x ∈ dkB d m u (.map none) gs, w.heap.size ≤ x := by
  have HC := hide (formed_any v l w h ho hl)
  rw [hf] at HC
  have HF := hide ((formedB_iff l).1 hf)
  have e1 : ¬ (sec : Int) < 1 := by omega
  have e2 : ¬ 4096 < (sec : Int) := by omega
  obtain ⟨ao, len, cap, rfl, g1, g2, g3, g4⟩ := h
  rw [List.length_map] at g1
  subst g1
  have H4 := hide g4
  have HO := hide ho
  have HS := hide (And.intro h1 h2)
  clear g4 ho hf h1 h2
  go_enter Try.func10, Try.ntmps10
  go_wp2_with fail
  refine Calls.mono (unhide HC) ?_
  rintro e w1 ⟨rfl, k1⟩
  have HK1 := hide k1
  have hmm := run_makeMap (P := Try.prog) 74 w1
  clear k1
  go_wp2_with fail
  have k2 := (((Kept.refl [] w1).alloc (.map #[] 0)).alloc (.cells #[.int .i64 sec, .map (some w1.heap.size), .slice none 0 0, .map none, .int .i64 0, .int .i64 0, .bool false] 78 (0, 0)))
  have hrow := heap_alloc_new (w1.alloc (.map #[] 0)) (.cells #[.int .i64 sec, .map (some w1.heap.size), .slice none 0 0, .map none, .int .i64 0, .int .i64 0, .bool false] 78 (0, 0))
  rw [show (w1.alloc (.map #[] 0)).heap.size = w1.heap.size + 1 by simp] at hrow
  have HD0 := hide (⟨hrow, ⟨0, .map [], (World.ownsMap_made w1 Try.prog 9 ptrElem).alloc _, Nat.le_refl _, MapIs.empty⟩, Qr.nil _ _, .inl ⟨rfl, fun _ => rfl⟩, by simp, List.Pairwise.nil, by simp [mblk]⟩ : DkAt ((w1.alloc (.map #[] 0)).alloc (.cells #[.int .i64 sec, .map (some w1.heap.size), .slice none 0 0, .map none, .int .i64 0, .int .i64 0, .bool false] 78 (0, 0))) (w1.heap.size + 1) sec w1.heap.size 0 (.slice none 0 0) (.map none) 0 0 false (fun _ => none) [])
  have HK2 := hide ((unhide HK1).trans k2 (by simp))
  have HS1 := hide (unhide HK1).size
  clear hrow k2 hmm
  go_loopw [24] (fun t24 wr => ∃ (i : Nat) (u : Value) (gs : List DFile), i ≤ l.length ∧ t24 = .int .i64 i ∧ Hid (DkAt wr (w1.heap.size + 1) sec w1.heap.size i u (.map none) 0 0 false (fun _ => none) gs) ∧ Hid (gs.map absF = (l.take i).map toDF) ∧ Hid (Kept [] w wr) ∧ Hid (∀ x ∈ dkB (w1.heap.size + 1) w1.heap.size u (.map none) gs, w.heap.size ≤ x)) (fun t _ => l.length - (intOf t).toNat)
  case atStart => exact ⟨0, _, [], Nat.zero_le _, rfl, HD0, hide rfl, HK2, hide (by intro x hx; have := unhide HS1; simp [dkB, blk, mblk] at hx; omega)⟩
  case round =>
    obtain ⟨i, u, gs, hi, rfl, HD, HGS, HK, HB⟩ := hrel
    by_cases hlt : i < l.length
    · have hlt' : (i : Int) < l.length := by omega
      obtain ⟨b, off, rfl, hcc⟩ := unhide H4 (by omega)
      have hr := hcc i (by rw [List.length_map]; exact hlt)
      rw [List.getElem_map] at hr
      have p0 := (unhide HK).cell (hr 0 _ rfl) (by simp)
      have p1 := (unhide HK).cell (hr 1 _ rfl) (by simp)
      have p2 := (unhide HK).cell (hr 2 _ rfl) (by simp)
      have p3 := (unhide HK).cell (hr 3 _ rfl) (by simp)
      rw [Nat.add_zero] at p0
      have hof := unhide HO l[i] (List.getElem_mem hlt)
      have hok := unhide HF i hlt
      have HT := hide (List.take_succ_eq_append_getElem hlt)
      have HLK := hide (by
        refine look_no ?_
        rw [unhide HGS]
        unfold findA
        rw [List.find?_eq_none]
        intro x hx
        obtain ⟨a, ha, rfl⟩ := List.mem_map.1 hx
        obtain ⟨j, hj, rfl⟩ := List.getElem_of_mem ha
        have hj2 : j < i := by rw [List.length_take] at hj; omega
        rw [List.getElem_take]
        have h9 := formed_lt (unhide HF) i j hlt hj2
        intro e
        have e2 : l[j].nm.data.toList = l[i].nm.data.toList := by simpa [toDF] using e
        rw [e2] at h9
        exact List.lt_irrefl _ h9 : look gs l[i].nm.data.toList = none)
      have HGL := hide (by have := congrArg List.length (unhide HGS); rw [List.length_map, List.length_map, List.length_take] at this; omega : gs.length = i)
      clear hr hcc
      obtain ⟨va, vl, vc, hv⟩ := (show ∃ va vl vc, l[i].v = .slice va vl vc by obtain ⟨a, b, c, h9, _⟩ := hof.1; exact ⟨a, b, c, h9⟩)
      rw [hv] at p1
      have HRD := hide (by rw [← hv]; exact hof.1.kept (unhide HK) (by simp) : Rd wr (.slice va vl vc) l[i].bs)
      have HNS := hide hof.2.1
      have HNM := hide hok.1
      have hsy : l[i].sy = ((l[i].sy.toNat : Nat) : Int) := by have := hok.2.1; omega
      have HSL := hide (by have := hok.2.2.1; omega : l[i].sy.toNat ≤ l[i].bs.length)
      have HLN := hide (show l[i].bs.length ≤ 140737488355328 by obtain ⟨a, b, c, h9, h10, h11, h12, _⟩ := hof.1; omega)
      clear hof hok hv
      have HTD : Hid (toDF l[i] = ⟨l[i].nm, l[i].bs, l[i].sy.toNat, l[i].nd⟩) := hide rfl
      rw [hsy] at p2
      generalize l[i].sy.toNat = SY at p2 HSL HTD
      generalize l[i] = X at p0 p1 p2 p3 HT HLK HRD HNS HNM HSL HLN HTD
      clear hsy
      go_upto_region 9 with fail
      have HG1 := hide (heap_alloc_new wr (.cells #[.string X.nm, .slice va vl vc, .int .i64 (SY : Int), .bool X.nd] 54 (0, 0)))
      have HD1 := hide ((unhide HD).kept ((Kept.refl [] wr).alloc (.cells #[.string X.nm, .slice va vl vc, .int .i64 (SY : Int), .bool X.nd] 54 (0, 0))) (by simp))
      have HK1' := hide ((unhide HK).alloc (.cells #[.string X.nm, .slice va vl vc, .int .i64 (SY : Int), .bool X.nd] 54 (0, 0)))
      have HR1 := hide ((unhide HRD).kept ((Kept.refl [] wr).alloc (.cells #[.string X.nm, .slice va vl vc, .int .i64 (SY : Int), .bool X.nd] 54 (0, 0))) (by simp))
      obtain ⟨W1, hW1⟩ : ∃ W, wr.alloc (.cells #[.string X.nm, .slice va vl vc, .int .i64 (SY : Int), .bool X.nd] 54 (0, 0)) = W := ⟨_, rfl⟩
      rw [hW1] at HG1 HD1 HK1' HR1 ⊢
      clear hW1 p0 p1 p2 p3 HD HRD
      have HGX := hide (by
        intro hx
        simp only [List.mem_cons] at hx
        rcases hx with hx | hx | hx
        · exact cells_ne (unhide HG1) (unhide HD1).row (by decide) hx
        · obtain ⟨n9, D9, ho9, _⟩ := (unhide HD1).map
          exact map_ne ho9 (unhide HG1) hx
        · obtain ⟨cs, hc⟩ := qr_cells (unhide HD1).un hx
          exact cells_ne (unhide HG1) hc (by decide) rfl : wr.heap.size ∉ (w1.heap.size + 1) :: w1.heap.size :: blk u)
      refine wp_fr13 (by kernel_rfl) (by kernel_rfl) (by kernel_rfl) (by kernel_rfl) (by kernel_rfl) (by kernel_rfl) (by kernel_rfl) (by kernel_rfl) (by kernel_rfl) (by kernel_rfl) (by kernel_rfl) (by kernel_rfl) (by kernel_rfl) (by kernel_rfl) (by kernel_rfl) (by kernel_rfl) (by kernel_rfl) (by kernel_rfl) (by kernel_rfl) (by kernel_rfl) (by kernel_rfl) (by kernel_rfl) (by kernel_rfl) (by kernel_rfl) (by kernel_rfl) (by kernel_rfl) rfl rfl rfl
        (.pointer (some ⟨w1.heap.size + 1, 0, none⟩)) (.pointer (some ⟨wr.heap.size, 0, none⟩)) (.string X.nm) (.pointer (some ⟨wr.heap.size, 1, none⟩)) (.slice va vl vc) (.pointer (some ⟨wr.heap.size, 2, none⟩)) (.int .i64 (SY : Int)) (.pointer (some ⟨wr.heap.size, 3, none⟩)) (.bool X.nd) _ _ _ _ _ _ _ _ _
        (fun w' => w'.heap[wr.heap.size]? = some (.cells #[.string X.nm, .slice va vl vc, .int .i64 (SY : Int), .bool X.nd] 54 (0, 0)))
        (fun w' => Kept [] W1 w')
        (fun u5 w' => (∃ g, u5 = .slice (some ⟨g, 0, none⟩) X.bs.length X.bs.length ∧ W1.heap.size ≤ g ∧ w'.heap[g]? = some (.cells (X.bs.map Go.Proofs.Ytaflchnipcmpoaa.u8).toArray 5 (0, 0))) ∧ Kept [] W1 w')
        (fun u5 u11 w' => (∃ g, u5 = .slice (some ⟨g, 0, none⟩) X.bs.length X.bs.length ∧ W1.heap.size ≤ g ∧ w'.heap[g]? = some (.cells (X.bs.map Go.Proofs.Ytaflchnipcmpoaa.u8).toArray 5 (0, 0))) ∧ (∃ G, u11 = .pointer (some ⟨G, 0, none⟩) ∧ W1.heap.size ≤ G ∧ w'.heap[G]? = some (.cells #[.string X.nm, u5, .int .i64 (SY : Int), .bool X.nd] 83 (0, 0))) ∧ Kept [] W1 w')
        (fun u5 u11 u12 w' => ∃ (u' : Value) (F : DFile), u12 = .tuple #[] ∧ absF F = toDF X ∧ DkAt w' (w1.heap.size + 1) sec w1.heap.size (i + 1) u' (.map none) 0 0 false (fun _ => none) (gs ++ [F]) ∧ Kept ((w1.heap.size + 1) :: w1.heap.size :: blk u) W1 w' ∧ (∀ x ∈ blk u', x ∈ blk u ∨ W1.heap.size ≤ x) ∧ (∀ x ∈ F.g :: blk F.v, W1.heap.size ≤ x))
        (fun u5 => .agg #[.string X.nm, u5, .int .i64 (SY : Int), .bool X.nd])
        (by simp only [Act.put, List.setIfInBounds_toArray, List.set_cons_zero, List.set_cons_succ]; rfl) (by exact Or.inl ⟨by rfl, fun W' hW' => by go_simp⟩)
        (by simp only [Act.put, List.setIfInBounds_toArray, List.set_cons_zero, List.set_cons_succ]; rfl) (by exact Or.inl ⟨by rfl, fun W' hW' => by go_simp⟩)
        (by simp only [Act.put, List.setIfInBounds_toArray, List.set_cons_zero, List.set_cons_succ]; rfl) (by exact Or.inl ⟨by rfl, fun W' hW' => by have h9 := cell_of_row _ _ 0 _ _ _ hW'; simp at h9; go_simp⟩)
        (by simp only [Act.put, List.setIfInBounds_toArray, List.set_cons_zero, List.set_cons_succ]; rfl) (by exact Or.inl ⟨by rfl, fun W' hW' => by go_simp⟩)
        (by simp only [Act.put, List.setIfInBounds_toArray, List.set_cons_zero, List.set_cons_succ]; rfl) (by exact Or.inl ⟨by rfl, fun W' hW' => by have h9 := cell_of_row _ _ 1 _ _ _ hW'; simp at h9; go_simp⟩)
        (by simp only [Act.put, List.setIfInBounds_toArray, List.set_cons_zero, List.set_cons_succ]; rfl) (by exact Or.inl ⟨by rfl, fun W' hW' => by go_simp⟩)
        (by simp only [Act.put, List.setIfInBounds_toArray, List.set_cons_zero, List.set_cons_succ]; rfl) (by exact Or.inl ⟨by rfl, fun W' hW' => by have h9 := cell_of_row _ _ 2 _ _ _ hW'; simp at h9; go_simp⟩)
        (by simp only [Act.put, List.setIfInBounds_toArray, List.set_cons_zero, List.set_cons_succ]; rfl) (by exact Or.inl ⟨by rfl, fun W' hW' => by go_simp⟩)
        (by simp only [Act.put, List.setIfInBounds_toArray, List.set_cons_zero, List.set_cons_succ]; rfl) (by exact Or.inl ⟨by rfl, fun W' hW' => by have h9 := cell_of_row _ _ 3 _ _ _ hW'; simp at h9; go_simp⟩)
        (Kept.refl [] W1).drew
        ⟨fun w' h => h.heap (unhide HG1) (by simp), fun u5 w' h => h.2.heap (unhide HG1) (by simp), fun u5 u11 w' h => h.2.2.heap (unhide HG1) (by simp), fun u5 u11 u12 w' h => by obtain ⟨u', F, _, _, _, k9, _⟩ := h; exact k9.heap (unhide HG1) (unhide HGX)⟩
        (by
          intro w' k K hK
          refine wp_callN rfl Try.call38 [.slice va vl vc] rfl (dcloned_any _ X.bs w' ((unhide HR1).kept k (by simp))) ?_
          rintro e w2 ⟨rfl, k2, h2⟩
          exact ⟨_, rfl, hK _ _ ⟨⟨_, rfl, k.size, h2⟩, k.trans k2 (by simp)⟩⟩)
        (by
          rintro u5 w' ⟨⟨g, rfl, hg, hh⟩, k⟩ K hK
          simp only [Act.put, List.setIfInBounds_toArray, List.set_cons_zero, List.set_cons_succ] at hK ⊢
          unfold Oper.wp execOp
          go_simp
          exact hK _ _ ⟨⟨_, rfl, hg, ((Kept.refl [] w').alloc _).heap hh (by simp)⟩, ⟨_, rfl, k.size, heap_alloc_new _ _⟩, k.alloc _⟩)
        (by
          rintro u5 u11 w' ⟨⟨g, rfl, hg, hh⟩, ⟨G, rfl, hG, hGG⟩, k⟩ K hK
          refine wp_callN rfl Try.call37 [.pointer (some ⟨w1.heap.size + 1, 0, none⟩), .pointer (some ⟨G, 0, none⟩)] rfl (add_any (w1.heap.size + 1) sec w1.heap.size i ⟨G, X.nm, .slice (some ⟨g, 0, none⟩) X.bs.length X.bs.length, X.bs, SY, X.nd⟩ w' u (.map none) 0 0 false (fun _ => none) gs ((unhide HD1).kept k (by simp)) ⟨hGG, owns_fresh hh (unhide HLN) (Nat.zero_le _), (unhide HR1).byte, unhide HSL⟩ (by omega) (by have := unhide HGL; omega) (by have := unhide HNS; show X.nm.size ≤ _; omega) (unhide HLK) ?_) ?_
          · intro a ha
            have h8 := (unhide HD1).lt a.g (dkB_g ha)
            refine ⟨by show a.g ≠ G; omega, ?_⟩
            intro x hx hy
            simp only [blk, List.mem_singleton] at hy
            have h7 := (unhide HD1).lt x (dkB_v ha hx)
            omega
          · rintro e w2 ⟨u', rfl, hd2, hk2, hu2⟩
            refine ⟨_, rfl, hK _ _ ⟨u', _, rfl, by rw [unhide HTD]; rfl, hd2, (k.mono (by simp)).trans hk2 (fun x hx => .inl hx), ?_, ?_⟩⟩
            · intro x hx
              rcases hu2 x hx with h9 | h9
              · exact .inl h9
              · exact .inr (Nat.le_trans k.size h9)
            · intro x hx
              simp only [blk, List.mem_cons, List.not_mem_nil, or_false] at hx
              rcases hx with rfl | rfl
              · exact hG
              · exact hg)
        (by rintro u5 w' ⟨⟨g, rfl, hg, hh⟩, k⟩; exact Or.inl ⟨by rfl, fun W' hW' => by go_simp⟩)
        ?_
      rintro u5 u11 u12 w5 ⟨u', F, rfl, hF, hd5, hk5, hu5, hF5⟩
      simp only [Act.put, List.setIfInBounds_toArray, List.set_cons_zero, List.set_cons_succ]
      have hsz := (unhide HK1').size
      have HD5 := hide hd5
      have HGS5 := hide (by rw [List.map_append, unhide HGS, unhide HT, List.map_append]; simp [hF] : (gs ++ [F]).map absF = (l.take (i + 1)).map toDF)
      have HK5 := hide ((unhide HK1').trans hk5 (by intro x hx; right; exact unhide HB x (by simp only [List.mem_cons] at hx; rcases hx with h | h | h <;> simp [dkB, h])))
      have HB5 := hide (by
        intro x hx
        simp only [dkB, mblk, List.mem_cons, List.mem_append, List.mem_flatMap, List.not_mem_nil, or_false, List.mem_singleton] at hx
        rcases hx with hx | hx | hx | ⟨a, ha, hx⟩
        · exact unhide HB x (by simp [dkB, hx])
        · exact unhide HB x (by simp [dkB, hx])
        · rcases hu5 x hx with h9 | h9
          · exact unhide HB x (by simp [dkB, h9])
          · omega
        · rcases ha with ha | rfl
          · rcases hx with rfl | hx
            · exact unhide HB _ (dkB_g ha)
            · exact unhide HB x (dkB_v ha hx)
          · have := hF5 x (by simpa using hx)
            omega : ∀ x ∈ dkB (w1.heap.size + 1) w1.heap.size u' (.map none) (gs ++ [F]), w.heap.size ≤ x)
      clear hF hd5 hk5 hu5 hF5 hsz
      go_wp2_with fail
      refine ⟨⟨i + 1, u', gs ++ [F], by omega, by simp, HD5, HGS5, HK5, HB5⟩, ?_⟩
      simp [intOf]; omega
    · have hlt' : ¬ (i : Int) < l.length := by omega
      have hie : i = l.length := by omega
      subst hie
      rw [List.take_length] at HGS
      go_wp2_with fail
      go_ret2
      exact ⟨_, rfl, _, u, gs, unhide HD, unhide HGS, unhide HK, unhide HB⟩
end Go.Proofs.Ytaflchnipcmpoaa
namespace Go.Proofs.Ytaflchnipcmpoaa
open Go.RowKit Go.BigFrame Go.Maps
set_option linter.unusedVariables false
set_option linter.unusedSimpArgs false

def MapF (D : DataW Unit) (ft : Int → Option Int) : Prop := ∀ a, Maps.has D (.int .i64 a) = (ft a).isSome ∧ ∀ z, D.atKey (.int .i64 a) z = match ft a with | none => z | some c => .lit (.int .i64 c)
theorem MapF.empty : MapF (.map []) (fun _ => none) := fun s => ⟨rfl, fun z => Maps.atKey_of_not_has rfl z⟩
theorem MapF.put {D : DataW Unit} {f : Int → Option Int} (h : MapF D f) (hm : Maps.IsMap D) (a : Int) (hk : WideAt.IsKeyLit (.int .i64 a)) (c : Int) :
    MapF (D.put (.int .i64 a) (.lit (.int .i64 c))) (fun t => if t = a then some c else f t) := by
  intro t
  by_cases ht : t = a
  · subst ht
    simp only [if_true]
    exact ⟨Maps.has_put_same hm hk _, fun z => Maps.atKey_put_same hm hk _ z⟩
  · have hne : Lit.int .i64 t ≠ Lit.int .i64 a := by simpa using ht
    simp only [if_neg ht]
    exact ⟨by rw [Maps.has_put_other hne]; exact (h t).1, fun z => by rw [Maps.atKey_put_other hne]; exact (h t).2 z⟩
theorem fstF_snoc (ks : List (Int × Int)) (k : Int × Int) (s : Int) : fstF (ks ++ [k]) s = if (fstF ks s).isSome then fstF ks s else if s = k.1 then some k.2 else none := by
  unfold fstF
  rw [List.find?_append]
  cases List.find? (fun x => x.1 == s) ks with
  | some x => rfl
  | none =>
    simp only [Option.none_or, Option.map_none, Option.isSome_none, Bool.false_eq_true, if_false]
    by_cases h : s = k.1
    · subst h; simp
    · rw [if_neg h]
      have : (k.1 == s) = false := by simpa using fun e => h e.symm
      simp [this]
theorem fstF_put {ks : List (Int × Int)} {k : Int × Int} (h : fstF ks k.1 = none) : (fun t => if t = k.1 then some k.2 else fstF ks t) = fstF (ks ++ [k]) := by
  funext t
  rw [fstF_snoc]
  by_cases ht : t = k.1
  · subst ht; rw [if_pos rfl, h]; simp
  · rw [if_neg ht, if_neg ht]
    cases fstF ks t <;> rfl
theorem fstF_same {ks : List (Int × Int)} {k : Int × Int} (h : (fstF ks k.1).isSome = true) : fstF (ks ++ [k]) = fstF ks := by
  funext t
  rw [fstF_snoc]
  by_cases ht : t = k.1
  · subst ht; rw [if_pos h]
  · rw [if_neg ht]
    cases fstF ks t <;> rfl
theorem wf_rng {x : Int} (h : Rng x) : (Lit.int .i64 x).wf = true := by
  unfold Rng at h
  simp [Lit.wf, IntKind.min, IntKind.max, IntKind.signed, IntKind.bits]
  omega

set_option maxRecDepth 100000 in
set_option maxHeartbeats 2000000 in
theorem plan_any (d sec m N : Nat) (lv : Value) (fl : List (Int × Int)) (crash : Int) (w : World) (u fv : Value) (cr op : Int) (off : Bool) (ft : Int → Option Int) (fs : List DFile)
    (h : DkAt w d sec m N u fv cr op off ft fs) (hfl : RdC 2 w lv (fl.map faC)) (hfd : d ∉ zblk lv (fl.map faC)) (hfo : ∀ x ∈ fl, OkFa x) (hll : fl.length ≤ 1048576) :
    Calls Try.prog 45 #[.pointer (some ⟨d, 0, none⟩), lv, .int .i64 crash] w fun e w' => ∃ M, e = .returned (.tuple #[]) ∧ w.heap.size ≤ M ∧ DkAt w' d sec m (N + fl.length) u (.map (some M)) crash 0 off (fstF fl) fs ∧ Kept [d] w w' := by
  have HD := hide h
  obtain ⟨ao, len, cap, rfl, g1, g2, g3, g4⟩ := hfl
  rw [List.length_map] at g1
  subst g1
  have H4 := hide g4
  have HFO := hide hfo
  have HFD := hide hfd
  have hrow := h.row
  unfold DRow at hrow
  have HR := hide hrow
  have c3 := cell_of_row _ _ 3 _ _ _ hrow
  have c4 := cell_of_row _ _ 4 _ _ _ hrow
  have c5 := cell_of_row _ _ 5 _ _ _ hrow
  simp at c3 c4 c5
  have z3 := frozen_of_row _ _ 3 _ _ hrow
  have z4 := frozen_of_row _ _ 4 _ _ hrow
  have z5 := frozen_of_row _ _ 5 _ _ hrow
  clear h g4 hfo hfd hrow
  go_enter Try.func45, Try.ntmps45
  go_wp2_with fail
  refine Calls.mono (dnone_any d w sec m u fv cr op off (unhide HD).row) ?_
  rintro e w1 ⟨rfl, rfl⟩
  go_upto_region 2 with fail
  have HR1 := hide (heap_setCell_same _ _ 4 _ _ (.int .i64 crash) (heap_setCell_same w1 _ 5 _ _ (.int .i64 0) (unhide HR)))
  have HK1 := hide (((Kept.refl [d] w1).setCell (p := ⟨d, 5, none⟩) (.inl (by simp)) (.int .i64 0)).setCell (p := ⟨d, 4, none⟩) (.inl (by simp)) (.int .i64 crash))
  obtain ⟨W1, hW1⟩ : ∃ W, (w1.setCell ⟨d, 5, none⟩ (.int .i64 0)).setCell ⟨d, 4, none⟩ (.int .i64 crash) = W := ⟨_, rfl⟩
  rw [hW1] at HR1 HK1 ⊢
  clear hW1 c3 c4 c5 z3 z4 z5
  have hmm := run_makeMap (P := Try.prog) 76 W1
  have HK2 := hide ((unhide HK1).alloc (.map #[] 0))
  have HR2 := hide (((Kept.refl [] W1).alloc (.map #[] 0)).heap (unhide HR1) (by simp))
  have c3 : (W1.alloc (.map #[] 0)).cell? ⟨d, 3, none⟩ = some fv := by have h9 := cell_of_row _ _ 3 _ _ _ (unhide HR2); simp at h9; exact h9
  have z3 := frozen_of_row _ _ 3 _ _ (unhide HR2)
  go_wp2_with fail
  have HR3 := hide (heap_setCell_same _ _ 3 _ _ (.map (some W1.heap.size)) (unhide HR2))
  have HK3 := hide ((unhide HK2).setCell (p := ⟨d, 3, none⟩) (.inl (by simp)) (.map (some W1.heap.size)))
  have HDM := hide (by have := lt_of_block (unhide HR1); omega : W1.heap.size ≠ d)
  have HO3 := hide ((World.ownsMap_made W1 Try.prog 3 (plainElem (H := Unit) Try.prog 3)).setCell (a := ⟨d, 3, none⟩) (unhide HDM) (.map (some W1.heap.size)))
  obtain ⟨W3, hW3⟩ : ∃ W, (W1.alloc (.map #[] 0)).setCell ⟨d, 3, none⟩ (.map (some W1.heap.size)) = W := ⟨_, rfl⟩
  rw [hW3] at HR3 HK3 HO3 ⊢
  clear hW3 c3 z3 hmm
  have HMS := hide (by have := (unhide HK1).size; omega : w1.heap.size ≤ W1.heap.size)
  generalize hMM : W1.heap.size = M at *
  have HRR := hide (unhide HR3)
  go_loopw [25] (fun t25 wr => ∃ (i : Nat) (D : DataW Unit), i ≤ fl.length ∧ t25 = .int .i64 i ∧ Hid (wr.ownsMap Try.prog 3 (plainElem Try.prog 3) M i D) ∧ Hid (MapF D (fstF (fl.take i))) ∧ Hid (Kept [d] w1 wr) ∧ Hid (wr.heap[d]? = W3.heap[d]?)) (fun t _ => fl.length - (intOf t).toNat)
  case atStart => exact ⟨0, .map [], Nat.zero_le _, rfl, HO3, hide MapF.empty, HK3, hide rfl⟩
  case round =>
    obtain ⟨i, D, hi, rfl, HO, HMF, HK, HE⟩ := hrel
    have HRW := hide ((unhide HE).trans (unhide HR3))
    by_cases hlt : i < fl.length
    · have hlt' : (i : Int) < fl.length := by omega
      obtain ⟨b, off', rfl, hcc⟩ := unhide H4 (by omega)
      have hr := hcc i (by rw [List.length_map]; exact hlt)
      rw [List.getElem_map] at hr
      have hbd : b ∉ [d] := by
        intro hx
        simp only [List.mem_singleton] at hx
        exact unhide HFD (zblk_of (by simp [blk, hx]) (by intro e; simp at e; subst e; simp at hlt))
      have p0 := (unhide HK).cell (hr 0 _ rfl) hbd
      have p1 := (unhide HK).cell (hr 1 _ rfl) hbd
      rw [Nat.add_zero] at p0
      have HT := hide (List.take_succ_eq_append_getElem hlt)
      have hX := unhide HFO fl[i] (List.getElem_mem hlt)
      clear hcc hr hbd
      generalize fl[i] = X at p0 p1 HT hX
      have HX := hide hX
      clear hX
      go_upto_region 6 with fail
      have HG1 := hide (heap_alloc_new wr (.cells #[.int .i64 X.1, .int .i64 X.2] 102 (0, 0)))
      have HOa := hide ((unhide HO).alloc (.cells #[.int .i64 X.1, .int .i64 X.2] 102 (0, 0)))
      have HKa := hide ((unhide HK).alloc (.cells #[.int .i64 X.1, .int .i64 X.2] 102 (0, 0)))
      have HRa := hide (((Kept.refl [] wr).alloc (.cells #[.int .i64 X.1, .int .i64 X.2] 102 (0, 0))).heap (unhide HRW) (by simp))
      obtain ⟨V, hV⟩ : ∃ W, wr.alloc (.cells #[.int .i64 X.1, .int .i64 X.2] 102 (0, 0)) = W := ⟨_, rfl⟩
      rw [hV] at HG1 HOa HKa HRa ⊢
      clear hV p0 p1
      have q0 := cell_of_row _ _ 0 _ _ _ (unhide HG1)
      have q1 := cell_of_row _ _ 1 _ _ _ (unhide HG1)
      have c3 := cell_of_row _ _ 3 _ _ _ (unhide HRa)
      simp at q0 q1 c3
      have hkey := Maps.keyOf_int_mk (P := Try.prog) (k := 3) Try.underlying3 (a := X.1) (wf_rng (unhide HX).1)
      have hlk := fun j : Nat => look_faults (ft := fstF (fl.take i)) (ownsMap_heap (w' := V.drewN j) (unhide HOa) rfl) (unhide HMF) X.1 hkey
      have HKEY := hide hkey
      clear hkey
      cases hfs : fstF (fl.take i) X.1 with
      | some Y =>
        rw [hfs] at hlk
        simp only [Option.getD_some, Option.isSome_some] at hlk
        have HFS := hide hfs
        clear hfs
        refine wp_region_quiet_lit (by kernel_rfl) (by kernel_rfl) ?_
        repeat (go_big_quiet_step (fail))
        refine wpQuiet_nil ?_
        rintro _ ⟨n5, rfl⟩
        clear hlk q0 q1 c3
        go_wp2_with fail
        refine ⟨⟨i + 1, D, by omega, by simp, hide ((unhide HOa).mono (Nat.le_succ _)), hide ?_, hide ((unhide HKa).drewN n5), hide ?_⟩, ?_⟩
        · rw [unhide HT, fstF_same (by rw [unhide HFS]; rfl)]
          exact unhide HMF
        · exact (unhide HRa).trans (unhide HR3).symm
        · simp [intOf]; omega
      | none =>
        rw [hfs] at hlk
        simp only [Option.getD_none, Option.isSome_none] at hlk
        have HFS := hide hfs
        clear hfs
        refine wp_region_quiet_lit (by kernel_rfl) (by kernel_rfl) ?_
        repeat (go_big_quiet_step (fail))
        refine wpQuiet_nil ?_
        rintro _ ⟨n5, rfl⟩
        clear hlk
        go_upto_region 8 with fail
        refine wp_quiet_tail 8 (by kernel_rfl) (by kernel_rfl) ?_
        simp only [List.take_succ_cons, List.take_zero, List.drop_succ_cons, List.drop_zero]
        repeat (go_big_quiet_step (fail))
        refine wpQuiet_nil ?_
        rintro _ ⟨n6, rfl⟩
        clear q0 q1 c3
        at_mapUpdate
        refine wpList_mapUpdate_in _ rfl _ _ _ 76 rfl 3 3 keyI Try.underlying76 (plainElem Try.prog 3) M i D rfl (ownsMap_heap (unhide HOa) rfl) (by unfold maxLen; omega) _ _ _ rfl rfl (unhide HKEY) _ _ (plainElem_int Try.underlying3 (wf_rng (unhide HX).2)) ?_
        intro w7 hown7 hturn7
        have HO7 := hide hown7
        have HK7 := hide ((((unhide HKa).drewN (n5 + n6))).grown (by simpa [drewN_drewN] using hturn7.grown) (by intro k hk; injection hk with hk; subst hk; exact .inr (unhide HMS)))
        have HE7 := hide ((hturn7.grown.block d (lt_of_block (unhide HRa)) (by simpa using fun e => unhide HDM e.symm)).trans ((unhide HRa).trans (unhide HR3).symm))
        clear hown7 hturn7
        go_wp2_with fail
        refine ⟨⟨i + 1, _, by omega, by simp, HO7, hide ?_, HK7, HE7⟩, ?_⟩
        · rw [unhide HT, ← fstF_put (unhide HFS)]
          exact (unhide HMF).put (unhide HO).isMap _ trivial X.2
        · simp [intOf]; omega
    · have hlt' : ¬ (i : Int) < fl.length := by omega
      have hie : i = fl.length := by omega
      subst hie
      rw [List.take_length] at HMF
      go_wp2_with fail
      refine bodyPost_end (v := .tuple #[]) (results_none rfl _ _ _) rfl ⟨rfl, M, unhide HMS, ((unhide HD).more (Nat.le_add_right N fl.length)).turnedF (unhide HK) (unhide HRW) (.inr ⟨M, _, D, rfl, unhide HO, Nat.le_add_left _ _, unhide HMF⟩) ?_, unhide HK⟩
      simp only [mblk, List.mem_singleton]
      intro e
      obtain ⟨n9, D9, ho9, _⟩ := (unhide HD).map
      have := ho9.lt
      have := unhide HMS
      omega
end Go.Proofs.Ytaflchnipcmpoaa
namespace Go.Proofs.Ytaflchnipcmpoaa
open Go.RowKit Go.BigFrame Go.Maps Go.Sort
set_option linter.unusedVariables false
set_option linter.unusedSimpArgs false

set_option maxRecDepth 100000 in
set_option maxHeartbeats 2000000 in
theorem files_any (d sec m N : Nat) (w : World) (u fv : Value) (cr op : Int) (off : Bool) (ft : Int → Option Int) (fs : List DFile) (h : DkAt w d sec m N u fv cr op off ft fs) (hd : Dist (fs.map absF)) (hN : N ≤ 1000000000) (hfs : fs.length ≤ 1000000000) (hfb : ∀ f ∈ fs, f.bs.length ≤ 140737488350000) (hfn : ∀ f ∈ fs, f.nm.size ≤ 40) :
    Calls Try.prog 22 #[.pointer (some ⟨d, 0, none⟩)] w fun e w' => ∃ v ts, e = .returned v ∧ OwnFl w.heap.size w' v ts ∧ ts.map Prod.fst = srtA (fs.map absF) ∧ Kept [] w w' := by
  have HD := hide h
  have HDI := hide hd
  have HFB := hide hfb
  have HFN0 := hide hfn
  have HSO := hide (sorted_any d sec m N w u fv cr op off ft fs h hd hN)
  have HLN := hide (by rw [srtA_len, List.length_map] : (srtA (fs.map absF)).length = fs.length)
  have HNM := hide (srtA_names hd)
  have HMM := hide (fun x (hx : x ∈ srtA (fs.map absF)) => srtA_mem.1 hx)
  generalize srtA (fs.map absF) = SA at HLN HNM HMM ⊢
  have HNL := hide (by rw [← unhide HNM, List.length_map] : (srtN (fs.map absF)).length = SA.length)
  generalize srtN (fs.map absF) = SS at HSO HNM HNL
  clear h hd hfb hfn
  go_enter Try.func22, Try.ntmps22
  go_wp2_with fail
  refine Calls.mono (dnone_any d w sec m u fv cr op off (unhide HD).row) ?_
  rintro e w1 ⟨rfl, rfl⟩
  go_wp2_with fail
  refine Calls.mono (unhide HSO) ?_
  rintro e w2 ⟨nv, rfl, ho, hk⟩
  rw [unhide HNL] at ho
  have HO := hide ho
  have HK2 := hide hk
  obtain ⟨na, nl, nc, rfl, hn1, hn2, hn3, hn4⟩ : RdS w2 nv SS := rds_owns (by rw [unhide HNL]; exact ho)
  rw [unhide HNL] at hn1
  subst hn1
  have HN4 := hide hn4
  have HLB := hide (by rw [unhide HLN]; exact hfs : SA.length ≤ 1000000000)
  clear ho hk hn4
  go_wp2_with fail
  go_loopw [3, 12] (fun v t12 wr => ∃ (i : Nat) (ts : List (DF × Value)), i ≤ SA.length ∧ t12 = .int .i64 i ∧ Hid (OwnFl w1.heap.size wr v ts) ∧ Hid (ts.map Prod.fst = SA.take i) ∧ Hid (Kept [] w1 wr) ∧ Hid (wr.ownsRow w1.heap.size 9 1 (.slice na SA.length nc) SA.length (SS.map encStr))) (fun _ t _ => SA.length - (intOf t).toNat)
  case atStart => exact ⟨0, [], Nat.zero_le _, rfl, hide (OwnFl.nil _ _), hide rfl, HK2, HO⟩
  case round =>
    obtain ⟨i, ts, hi, rfl, HOW, HTS, HK, HNO⟩ := hrel
    obtain ⟨va, vl, vc, hv⟩ : ∃ va vl vc, u3 = .slice va vl vc := by
      obtain ⟨a, l, c, h9, _⟩ := (unhide HOW).rd.1
      exact ⟨a, l, c, h9⟩
    subst hv
    have HTL := hide (by have := congrArg List.length (unhide HTS); rw [List.length_map, List.length_take] at this; omega : ts.length = i)
    have HLB2 := hide (unhide HLB)
    by_cases hlt : i < SA.length
    · have hlt' : (i : Int) < SA.length := by omega
      obtain ⟨ao', len', cap', e9, g1, g2, g3, g4⟩ := rds_owns (by rw [unhide HNL]; exact unhide HNO : wr.ownsRow w1.heap.size 9 1 (.slice na SA.length nc) SS.length (SS.map encStr))
      injection e9 with e1 e2 e3
      subst e1 e2 e3
      obtain ⟨nb, no, rfl, hcc⟩ := g4 (by omega)
      have hsi : i < SS.length := by rw [unhide HNL]; exact hlt
      have c0 := hcc i hsi
      have hX : SS[i] = SA[i].nm.data.toList := by
        have h9 := congrArg (fun l => l[i]?) (unhide HNM)
        simp only [List.getElem?_map, List.getElem?_eq_getElem hlt, List.getElem?_eq_getElem hsi, Option.map_some, Option.some.injEq] at h9
        exact h9.symm
      rw [hX] at c0
      have HT := hide (List.take_succ_eq_append_getElem hlt)
      have hXm := unhide HMM SA[i] (List.getElem_mem hlt)
      clear hcc hX hsi g1 g4
      generalize SA[i] = X at c0 HT hXm
      obtain ⟨f, hfm, rfl⟩ := List.mem_map.1 hXm
      rw [show encStr (absF f).nm.data.toList = Value.string f.nm from rfl] at c0
      have hlook : look fs f.nm.data.toList = some f.g := by
        obtain ⟨f', hf', hl', ha', _⟩ := look_file (findA_of (unhide HDI) hXm)
        have h8 : f' = f := dist_eq (unhide HDI) hf' hfm (congrArg DF.nm ha')
        rw [← h8]
        rw [h8] at hl' ⊢
        exact hl'
      obtain ⟨n9, D9, ho9, hn9, hD9⟩ := (unhide HD).map
      have hkey := WideMaps.keyOf_string_mk Try.underlying9 (s := f.nm) (by have := unhide HFN0 f hfm; unfold maxLen; omega)
      have hlk := look_ptr1 (ownsMap_heap ho9 ((unhide HK).block m ho9.lt (by simp))) hD9 f.nm hkey hlook
      have d1 := cell_of_row _ _ 1 _ _ _ ((unhide HK).heap (unhide HD).row (by simp))
      have hfile := ((unhide HD).files f hfm).kept (unhide HK) (by simp) (by simp)
      obtain ⟨fa, fc, hfv⟩ := owns_shape hfile.2.1
      have hrow := hfile.1
      rw [hfv] at hrow
      have f1 := cell_of_row _ _ 1 _ _ _ hrow
      have f2 := cell_of_row _ _ 2 _ _ _ hrow
      have f3 := cell_of_row _ _ 3 _ _ _ hrow
      simp at d1 f1 f2 f3
      have HRD := hide (by rw [← hfv]; exact rd_owns hfile.2.1 hfile.2.2.1 (by have := unhide HFB f hfm; omega) : Rd wr (.slice fa f.bs.length fc) f.bs)
      have HBY := hide hfile.2.2.1
      have HBL := hide (unhide HFB f hfm)
      have HFN := hide (by
        intro hx
        have h8 := lt_of_block ((unhide HD).files f hfm).1
        simp only [Option.mem_toList] at hx
        have := ((unhide HOW).own.lt _ hx).1
        omega : f.g ∉ (Value.slice va vl vc).ownBlock.toList)
      have HBS := hide (unhide HK).size
      clear hfile hrow hkey ho9 hn9 hD9 hlook hXm hfv hfm
      go_upto_region 8 with fail
      clear hlk d1 c0
      refine wp_fl19 (by kernel_rfl) (by kernel_rfl) (by kernel_rfl) (by kernel_rfl) (by kernel_rfl) (by kernel_rfl) (by kernel_rfl) (by kernel_rfl) (by kernel_rfl) (by kernel_rfl) (by kernel_rfl) (by kernel_rfl) (by kernel_rfl) (by kernel_rfl) (by kernel_rfl) (by kernel_rfl) (by kernel_rfl) (by kernel_rfl) (by kernel_rfl) (by kernel_rfl) (by kernel_rfl) (by kernel_rfl) (by kernel_rfl) (by kernel_rfl) (by kernel_rfl) (by kernel_rfl) (by kernel_rfl) (by kernel_rfl) (by kernel_rfl) (by kernel_rfl) (by kernel_rfl) (by kernel_rfl) (by kernel_rfl) (by kernel_rfl) (by kernel_rfl) (by kernel_rfl) (by kernel_rfl) (by kernel_rfl) rfl rfl rfl
        (.slice va vl vc) (.string f.nm) (.pointer (some ⟨f.g, 0, none⟩)) (.pointer (some ⟨f.g, 0, none⟩)) (.pointer (some ⟨f.g, 1, none⟩)) (.slice fa f.bs.length fc) (.pointer (some ⟨f.g, 0, none⟩)) (.pointer (some ⟨f.g, 0, none⟩)) (.pointer (some ⟨f.g, 2, none⟩)) (.int .i64 (f.sy : Int)) (.pointer (some ⟨f.g, 0, none⟩)) (.pointer (some ⟨f.g, 0, none⟩)) (.pointer (some ⟨f.g, 3, none⟩)) (.bool f.nd) _ _ _ _ _ _ _ _ _ _ _ _ _ _
        (fun w' => Kept (Value.slice va vl vc).ownBlock.toList wr w')
        (fun w' => Kept [] wr w')
        (fun u6 w' => (∃ g, u6 = .slice (some ⟨g, 0, none⟩) f.bs.length f.bs.length ∧ wr.heap.size ≤ g ∧ w'.heap[g]? = some (.cells (f.bs.map u8).toArray 5 (0, 0))) ∧ Kept [] wr w')
        (fun u6 u16 w' => (∃ g, u6 = .slice (some ⟨g, 0, none⟩) f.bs.length f.bs.length ∧ wr.heap.size ≤ g ∧ w'.heap[g]? = some (.cells (f.bs.map u8).toArray 5 (0, 0))) ∧ (∃ H, u16 = .slice (some ⟨H, 0, none⟩) 1 1 ∧ w'.heap[H]? = some (.cells #[.string f.nm, u6, .int .i64 (f.sy : Int), .bool f.nd] 54 (0, 0))) ∧ Kept [] wr w')
        (fun u6 u16 u17 w' => (∃ g cap, u17 = .slice (some ⟨g, 0, none⟩) (ts.length + 1) cap) ∧ OwnFl w1.heap.size w' u17 (ts ++ [(absF f, u6)]) ∧ Kept (Value.slice va vl vc).ownBlock.toList wr w')
        (fun u6 => .agg #[.string f.nm, u6, .int .i64 (f.sy : Int), .bool f.nd])
        (fun _ _ u17 => u17)
        (by simp only [Act.put, List.setIfInBounds_toArray, List.set_cons_zero, List.set_cons_succ]; rfl) (by exact Or.inl ⟨by rfl, fun W' hW' => by go_simp⟩)
        (by simp only [Act.put, List.setIfInBounds_toArray, List.set_cons_zero, List.set_cons_succ]; rfl) (by exact Or.inl ⟨by rfl, fun W' hW' => by go_simp⟩)
        (by simp only [Act.put, List.setIfInBounds_toArray, List.set_cons_zero, List.set_cons_succ]; rfl) (by exact Or.inl ⟨by rfl, fun W' hW' => by go_simp⟩)
        (by simp only [Act.put, List.setIfInBounds_toArray, List.set_cons_zero, List.set_cons_succ]; rfl) (by exact Or.inl ⟨by rfl, fun W' hW' => by go_simp⟩)
        (by simp only [Act.put, List.setIfInBounds_toArray, List.set_cons_zero, List.set_cons_succ]; rfl) (by exact Or.inl ⟨by rfl, fun W' hW' => by go_simp⟩)
        (by simp only [Act.put, List.setIfInBounds_toArray, List.set_cons_zero, List.set_cons_succ]; rfl) (by exact Or.inl ⟨by rfl, fun W' hW' => by have h9 := hW'.cell f1 (unhide HFN); go_simp⟩)
        (by simp only [Act.put, List.setIfInBounds_toArray, List.set_cons_zero, List.set_cons_succ]; rfl) (by exact Or.inl ⟨by rfl, fun W' hW' => by go_simp⟩)
        (by simp only [Act.put, List.setIfInBounds_toArray, List.set_cons_zero, List.set_cons_succ]; rfl) (by exact Or.inl ⟨by rfl, fun W' hW' => by go_simp⟩)
        (by simp only [Act.put, List.setIfInBounds_toArray, List.set_cons_zero, List.set_cons_succ]; rfl) (by exact Or.inl ⟨by rfl, fun W' hW' => by go_simp⟩)
        (by simp only [Act.put, List.setIfInBounds_toArray, List.set_cons_zero, List.set_cons_succ]; rfl) (by exact Or.inl ⟨by rfl, fun W' hW' => by have h9 := hW'.cell f2 (unhide HFN); go_simp⟩)
        (by simp only [Act.put, List.setIfInBounds_toArray, List.set_cons_zero, List.set_cons_succ]; rfl) (by exact Or.inl ⟨by rfl, fun W' hW' => by go_simp⟩)
        (by simp only [Act.put, List.setIfInBounds_toArray, List.set_cons_zero, List.set_cons_succ]; rfl) (by exact Or.inl ⟨by rfl, fun W' hW' => by go_simp⟩)
        (by simp only [Act.put, List.setIfInBounds_toArray, List.set_cons_zero, List.set_cons_succ]; rfl) (by exact Or.inl ⟨by rfl, fun W' hW' => by go_simp⟩)
        (by simp only [Act.put, List.setIfInBounds_toArray, List.set_cons_zero, List.set_cons_succ]; rfl) (by exact Or.inl ⟨by rfl, fun W' hW' => by have h9 := hW'.cell f3 (unhide HFN); go_simp⟩)
        (Kept.refl [] wr).drew
        ⟨fun w' h => h.mono (by simp), fun u6 w' h => h.2.mono (by simp), fun u6 u16 w' h => h.2.2.mono (by simp), fun u6 u16 u17 w' h => h.2.2⟩
        (by
          intro w' k K hK
          refine wp_callN rfl Try.call38 [.slice fa f.bs.length fc] rfl (dcloned_any _ f.bs w' ((unhide HRD).kept k (by simp))) ?_
          rintro e w2 ⟨rfl, k2, h2⟩
          exact ⟨_, rfl, hK _ _ ⟨⟨_, rfl, k.size, h2⟩, k.trans k2 (by simp)⟩⟩)
        (by
          rintro u6 w' ⟨⟨g, rfl, hg, hh⟩, k⟩ K hK
          simp only [Act.put, List.setIfInBounds_toArray, List.set_cons_zero, List.set_cons_succ] at hK ⊢
          unfold Oper.wp execOp
          go_simp
          exact hK _ _ ⟨⟨_, rfl, hg, ((Kept.refl [] w').alloc _).heap hh (by simp)⟩, ⟨_, rfl, heap_alloc_new _ _⟩, k.alloc _⟩)
        (by
          rintro u6 u16 w' ⟨⟨g, rfl, hg, hh⟩, ⟨H, rfl, hH⟩, k⟩ K hK
          have hO := (unhide HOW).keptF k (by simp)
          obtain ⟨g', cap', w1', hrun, h3, h4, h5⟩ := pushFl w' w1.heap.size (.slice va vl vc) ts (absF f, .slice (some ⟨g, 0, none⟩) f.bs.length f.bs.length) H hO hH ⟨owns_fresh hh (by have := unhide HBL; show f.bs.length ≤ _; omega) (by have := unhide HBS; omega), unhide HBY, by have := unhide HBL; show f.bs.length ≤ _; omega⟩ (by
            intro a ha x hx hy
            simp only [blk, List.mem_singleton] at hy
            subst hy
            have := ((unhide HOW).ge x (by simp only [flB, List.mem_append, List.mem_flatMap]; exact .inr ⟨a, ha, hx⟩)).2
            omega) (by have := unhide HTL; have := unhide HLB2; omega) (Nat.le_trans (unhide HBS) k.size)
          exact wp_appendFl rfl rfl rfl rfl hrun (hK _ _ ⟨⟨_, _, rfl⟩, h3, (k.mono (by simp)).grown h4 (by intro x hx; left; simp [hx])⟩))
        (by rintro u6 w' ⟨⟨g, rfl, hg, hh⟩, k⟩; exact Or.inl ⟨by rfl, fun W' hW' => by go_simp⟩)
        (by rintro u6 u16 u17 w' ⟨⟨g, cap, rfl⟩, h1, k⟩; exact Or.inl ⟨by rfl, fun W' hW' => by go_simp⟩)
        ?_
      rintro u6 u16 u17 w5 ⟨⟨g5, cap5, rfl⟩, h5, k5⟩
      simp only [Act.put, List.setIfInBounds_toArray, List.set_cons_zero, List.set_cons_succ]
      have HOW5 := hide h5
      have HK5 := hide ((unhide HK).trans k5 (by intro x hx; right; simp only [Option.mem_toList] at hx; exact ((unhide HOW).own.lt x hx).1))
      have HNO5 := hide (k5.owns (unhide HNO) (by
        intro x hx hm
        simp only [Option.mem_toList] at hm
        obtain ⟨cs1, hc1⟩ := owns_cells (unhide HNO) (own_blk hx)
        obtain ⟨cs2, hc2⟩ := owns_cells (unhide HOW).own (own_blk hm)
        exact cells_ne hc1 hc2 (by decide) rfl))
      clear h5 k5 f1 f2 f3
      go_wp2_with fail
      refine ⟨⟨i + 1, _, by omega, by have := unhide HLB2; go_num, HOW5, hide ?_, HK5, HNO5⟩, ?_⟩
      · rw [unhide HT, List.map_append, unhide HTS]
        rfl
      · have := unhide HLB2
        simp [intOf]; omega
    · have hlt' : ¬ (i : Int) < SA.length := by omega
      have hie : i = SA.length := by omega
      subst hie
      rw [List.take_length] at HTS
      go_wp2_with fail
      go_ret
      exact ⟨_, rfl, ts, unhide HOW, unhide HTS, unhide HK⟩
end Go.Proofs.Ytaflchnipcmpoaa
namespace Go.Proofs.Ytaflchnipcmpoaa
open Go.RowKit Go.BigFrame Go.Maps Go.Sort
set_option linter.unusedVariables false
set_option linter.unusedSimpArgs false

theorem plan_D (d nb bb : Nat) (B : List Nat) (σ : DSt) (lv : Value) (fl : List (Int × Int)) (cr : Int) (w : World) (h : DK w d B nb bb σ) (hfl : RdC 2 w lv (fl.map faC)) (hfd : ∀ x ∈ zblk lv (fl.map faC), x ∉ B) (hfo : ∀ x ∈ fl, OkFa x) (hll : fl.length ≤ 1048576) :
    Calls Try.prog 45 #[.pointer (some ⟨d, 0, none⟩), lv, .int .i64 cr] w fun e w' => ∃ B', e = .returned (.tuple #[]) ∧ DK w' d B' (nb + fl.length) bb (stPlan σ fl cr) ∧ Ev w w' B B' := by
  obtain ⟨sec, cr0, op, off, ft, A⟩ := σ
  obtain ⟨⟨m, u, fv, fs, h1, rfl, hA⟩, h2, h3, h4, h5, h6, h7⟩ := h
  dsimp only at *
  subst hA
  refine Calls.mono (plan_any d sec m nb lv fl cr w u fv cr0 op off ft fs h1 hfl (fun hx => hfd d hx (by simp [dkB])) hfo hll) ?_
  rintro e w' ⟨M, rfl, hM, hD, hK⟩
  refine ⟨_, rfl, ⟨⟨m, u, _, fs, hD, rfl, rfl⟩, h2, ⟨by simp [stPlan], by simp only [stPlan]; omega⟩, by simp only [stPlan]; omega, h5, h6, h7⟩, hK.mono (by intro x hx; simp at hx; simp [dkB, hx]), ?_⟩
  intro x hx
  simp only [dkB, mblk, List.mem_cons, List.mem_append, List.not_mem_nil, or_false] at hx ⊢
  rcases hx with h | h | (h | h) | h
  · exact .inl (.inl h)
  · exact .inl (.inr (.inl h))
  · exact .inl (.inr (.inr (.inl (.inl h))))
  · exact .inr (by omega)
  · exact .inl (.inr (.inr (.inr h)))

theorem files_D (d nb bb : Nat) (B : List Nat) (σ : DSt) (w : World) (h : DK w d B nb bb σ) (hn : nb ≤ 1000000000) (hb : bb ≤ 140737488350000) :
    Calls Try.prog 22 #[.pointer (some ⟨d, 0, none⟩)] w fun e w' => ∃ v ts, e = .returned v ∧ OwnFl w.heap.size w' v ts ∧ ts.map Prod.fst = srtA σ.A ∧ Kept [] w w' := by
  obtain ⟨sec, cr0, op, off, ft, A⟩ := σ
  obtain ⟨⟨m, u, fv, fs, h1, rfl, hA⟩, h2, h3, h4, h5, h6, h7⟩ := h
  dsimp only at *
  subst hA
  exact files_any d sec m nb w u fv cr0 op off ft fs h1 h2 hn (by rw [List.length_map] at h4; omega) (fun f hf => Nat.le_trans (h5 (absF f) (List.mem_map.2 ⟨f, hf, rfl⟩)) hb) (fun f hf => (isNm_size (h7 (absF f) (List.mem_map.2 ⟨f, hf, rfl⟩))).2)

theorem from_D (sec : Nat) (v : Value) (l : List IFile) (bb : Nat) (w : World) (h1 : 1 ≤ sec) (h2 : sec ≤ 4096) (h : RdC 4 w v (l.map ifC)) (ho : ∀ f ∈ l, OkIf w f) (hl : l.length ≤ 1048576) (hb : ∀ f ∈ l, f.bs.length ≤ bb) (hf : formedB l = true) :
    Calls Try.prog 10 #[.int .i64 sec, v] w fun e w' => ∃ d B, e = .returned (.tuple #[.pointer (some ⟨d, 0, none⟩), .int .i64 0]) ∧ DK w' d B l.length bb ⟨sec, 0, 0, false, fun _ => none, l.map toDF⟩ ∧ Kept [] w w' ∧ ∀ x ∈ B, w.heap.size ≤ x := by
  refine Calls.mono (from_ok sec v l w h1 h2 h ho hl hf) ?_
  rintro e w' ⟨d, m, u, gs, rfl, hD, hG, hK, hB⟩
  have hF := (formedB_iff l).1 hf
  refine ⟨d, _, rfl, ⟨⟨m, u, _, gs, hD, rfl, hG.symm⟩, formed_dist hF, ⟨by simp, by simp⟩, by simp, ?_, ⟨h1, h2⟩, ?_⟩, hK, hB⟩
  · intro f hf2
    obtain ⟨a, ha, rfl⟩ := List.mem_map.1 hf2
    exact hb a ha
  · intro f hf2
    obtain ⟨a, ha, rfl⟩ := List.mem_map.1 hf2
    obtain ⟨i, hi, rfl⟩ := List.getElem_of_mem ha
    exact (hF i hi).1

theorem owns_low {w : World} {b c e s n : Nat} {v : Value} {xs : List Value} (h : w.ownsRow b e s v n xs) (hc : c ≤ b) : w.ownsRow c e s v n xs := by
  refine ⟨h.1, ?_⟩
  rcases h.2 with h1 | ⟨g, cap, cur, h1, h2, r⟩
  · exact .inl h1
  · exact .inr ⟨g, cap, cur, h1, Nat.le_trans hc h2, r⟩
theorem NwB.low {w0 w w' : World} {v : Value} {bs : List Nat} (h : NwB w w' v bs) (hs : w0.heap.size ≤ w.heap.size) : NwB w0 w' v bs := ⟨owns_low h.own hs, h.byte, h.len⟩
theorem NwB.none (w w' : World) : NwB w w' (.slice none 0 0) [] := ⟨World.ownsRow_nil _ _ _ _, by simp, by simp⟩
theorem Ev.pre {w W w' : World} {B B' : List Nat} (k : Kept [] w W) (e : Ev W w' B B') : Ev w w' B B' := ⟨(k.mono (by simp)).trans e.1 (fun x hx => .inl hx), fun x hx => (e.2 x hx).imp id (fun h => Nat.le_trans k.size h)⟩

/-- One call. -/
def stepD (σ : DSt) (o : OpD) : (List Nat × Int) × DSt :=
  if o.k = 1 then (([], ((stCreate σ o.s).1 : Nat)), (stCreate σ o.s).2)
  else if o.k = 2 then (([], ((stAppend σ o.s o.ps).1 : Nat)), (stAppend σ o.s o.ps).2)
  else if o.k = 3 then (([], ((stSync σ o.s).1 : Nat)), (stSync σ o.s).2)
  else if o.k = 4 then (([], ((stNames σ).1 : Nat)), (stNames σ).2)
  else if o.k = 5 then (((stRead σ o.s).1, ((stRead σ o.s).2 : Nat)), σ)
  else if o.k = 6 then (([], 0), stPlan σ o.fl o.cr)
  else if o.k = 7 then (([], 0), stCut σ)
  else if o.k = 8 then (([], 0), stRestart σ o.n o.ks)
  else (([], 0), σ)

set_option maxRecDepth 100000 in
set_option maxHeartbeats 2000000 in
theorem call_D (d nb bb : Nat) (B : List Nat) (σ : DSt) (o : OpD) (w : World) (h : DK w d B nb bb σ) (ho : OkOp w o) (hp : ∀ x ∈ zblk o.pv o.ps, x ∉ B) (hf : ∀ x ∈ zblk o.fv (o.fl.map faC), x ∉ B) (hk : ∀ x ∈ zblk o.kv (o.ks.map keC), x ∉ B) (hn : nb ≤ 1000000000) (hb : bb + o.ps.length ≤ 140737488350000) (hfl : o.fl.length ≤ 1048576) (hkl : o.ks.length ≤ 1048576) :
    Calls Try.prog 14 #[.pointer (some ⟨d, 0, none⟩), .agg (opL o).toArray] w fun e w' => ∃ v B', e = .returned (.tuple #[v, .int .i64 (stepD σ o).1.2]) ∧ DK w' d B' (nb + 1 + o.fl.length) (bb + 4096 + o.ps.length) (stepD σ o).2 ∧ Ev w w' B B' ∧ NwB w w' v (stepD σ o).1.1 := by
  obtain ⟨pa, pl, pc, hp1⟩ : ∃ a l c, o.pv = .slice a l c := by obtain ⟨a, l, c, h1, _⟩ := ho.p; exact ⟨a, l, c, h1⟩
  obtain ⟨fa, fl, fc, hf1⟩ : ∃ a l c, o.fv = .slice a l c := by obtain ⟨a, l, c, h1, _⟩ := ho.f; exact ⟨a, l, c, h1⟩
  obtain ⟨ka, kl, kc, hk1⟩ : ∃ a l c, o.kv = .slice a l c := by obtain ⟨a, l, c, h1, _⟩ := ho.kk; exact ⟨a, l, c, h1⟩
  obtain ⟨k, s, pv, ps, fv, fls, cr, n, kv, ks⟩ := o
  dsimp only at *
  subst hp1 hf1 hk1
  have hk0 := (Kept.refl [] w).alloc (.cells #[.int .i64 k, .string s, .slice pa pl pc, .slice fa fl fc, .int .i64 cr, .int .i64 n, .slice ka kl kc] 42 (0, 0))
  have hg := heap_alloc_new w (.cells #[.int .i64 k, .string s, .slice pa pl pc, .slice fa fl fc, .int .i64 cr, .int .i64 n, .slice ka kl kc] 42 (0, 0))
  obtain ⟨W, hW⟩ : ∃ W, w.alloc (.cells #[.int .i64 k, .string s, .slice pa pl pc, .slice fa fl fc, .int .i64 cr, .int .i64 n, .slice ka kl kc] 42 (0, 0)) = W := ⟨_, rfl⟩
  rw [hW] at hk0 hg
  have HW := hide hW
  have HK := hide hk0
  have c0 := cell_of_row _ _ 0 _ _ _ hg
  have c1 := cell_of_row _ _ 1 _ _ _ hg
  have c2 := cell_of_row _ _ 2 _ _ _ hg
  have c3 := cell_of_row _ _ 3 _ _ _ hg
  have c4 := cell_of_row _ _ 4 _ _ _ hg
  have c5 := cell_of_row _ _ 5 _ _ _ hg
  have c6 := cell_of_row _ _ 6 _ _ _ hg
  simp at c0 c1 c2 c3 c4 c5 c6
  have HD := hide (h.old hk0)
  have HPR := hide (ho.p.kept hk0 (by simp))
  have HFR := hide (ho.f.old hk0)
  have HKR := hide (ho.kk.old hk0)
  have HSS := hide (by have := ho.s; dsimp only at this; omega : s.size ≤ 140737488355328)
  have HFO := hide ho.fr
  have HKO := hide (fun x hx => by have := (ho.kr x hx).1; omega : ∀ x ∈ ks, x.nm.size ≤ 140737488355328)
  have HP := hide hp
  have HF := hide hf
  have HKB := hide hk
  dsimp only [opL]
  clear hW hk0 hg h ho hp hf hk
  by_cases h1 : k = 1
  · subst h1
    have hst : stepD σ ⟨1, s, .slice pa pl pc, ps, .slice fa fl fc, fls, cr, n, .slice ka kl kc, ks⟩ = (([], (((stCreate σ s).1 : Nat) : Int)), (stCreate σ s).2) := rfl
    rw [hst]
    have HC := hide (create_D d nb bb B σ s W (unhide HD) (unhide HSS) hn)
    clear hst
    generalize (stCreate σ s) = R at HC ⊢
    go_enter Try.func14, Try.ntmps14
    go_wp2_with (first | (rw [unhide HW]) | fail)
    refine Calls.mono (unhide HC) ?_
    rintro e w1 ⟨B', rfl, h9, ev⟩
    have HD1 := hide h9
    have HE1 := hide ev
    clear h9 ev
    go_wp2_with fail
    go_ret2
    exact ⟨_, B', rfl, (unhide HD1).more (by omega) (by omega), Ev.pre (unhide HK) (unhide HE1), NwB.none _ _⟩
  have g1 : (k == 1) = false := by simpa using h1
  by_cases h2 : k = 2
  · subst h2
    have hst : stepD σ ⟨2, s, .slice pa pl pc, ps, .slice fa fl fc, fls, cr, n, .slice ka kl kc, ks⟩ = (([], (((stAppend σ s ps).1 : Nat) : Int)), (stAppend σ s ps).2) := rfl
    rw [hst]
    have HC := hide (append_D d nb bb B σ s (.slice pa pl pc) ps W (unhide HD) (unhide HSS) hn (unhide HPR) (unhide HP) hb)
    clear hst
    generalize (stAppend σ s ps) = R at HC ⊢
    go_enter Try.func14, Try.ntmps14
    go_wp2_with (first | (rw [unhide HW]) | fail)
    refine Calls.mono (unhide HC) ?_
    rintro e w1 ⟨B', rfl, h9, ev⟩
    have HD1 := hide h9
    have HE1 := hide ev
    clear h9 ev
    go_wp2_with fail
    go_ret2
    exact ⟨_, B', rfl, (unhide HD1).more (by omega) (by omega), Ev.pre (unhide HK) (unhide HE1), NwB.none _ _⟩
  have g2 : (k == 2) = false := by simpa using h2
  by_cases h3 : k = 3
  · subst h3
    have hst : stepD σ ⟨3, s, .slice pa pl pc, ps, .slice fa fl fc, fls, cr, n, .slice ka kl kc, ks⟩ = (([], (((stSync σ s).1 : Nat) : Int)), (stSync σ s).2) := rfl
    rw [hst]
    have HC := hide (sync_D d nb bb B σ s W (unhide HD) (unhide HSS) hn)
    clear hst
    generalize (stSync σ s) = R at HC ⊢
    go_enter Try.func14, Try.ntmps14
    go_wp2_with (first | (rw [unhide HW]) | fail)
    refine Calls.mono (unhide HC) ?_
    rintro e w1 ⟨B', rfl, h9, ev⟩
    have HD1 := hide h9
    have HE1 := hide ev
    clear h9 ev
    go_wp2_with fail
    go_ret2
    exact ⟨_, B', rfl, (unhide HD1).more (by omega) (by omega), Ev.pre (unhide HK) (unhide HE1), NwB.none _ _⟩
  have g3 : (k == 3) = false := by simpa using h3
  by_cases h4 : k = 4
  · subst h4
    have hst : stepD σ ⟨4, s, .slice pa pl pc, ps, .slice fa fl fc, fls, cr, n, .slice ka kl kc, ks⟩ = (([], (((stNames σ).1 : Nat) : Int)), (stNames σ).2) := rfl
    rw [hst]
    have HC := hide (names_D d nb bb B σ W (unhide HD) hn)
    clear hst
    generalize (stNames σ) = R at HC ⊢
    go_enter Try.func14, Try.ntmps14
    go_wp2_with (first | (rw [unhide HW]) | fail)
    refine Calls.mono (unhide HC) ?_
    rintro e w1 ⟨B', rfl, h9, ev⟩
    have HD1 := hide h9
    have HE1 := hide ev
    clear h9 ev
    go_wp2_with fail
    go_ret2
    exact ⟨_, B', rfl, (unhide HD1).more (by omega) (by omega), Ev.pre (unhide HK) (unhide HE1), NwB.none _ _⟩
  have g4 : (k == 4) = false := by simpa using h4
  by_cases h5 : k = 5
  · subst h5
    have hst : stepD σ ⟨5, s, .slice pa pl pc, ps, .slice fa fl fc, fls, cr, n, .slice ka kl kc, ks⟩ = (((stRead σ s).1, (((stRead σ s).2 : Nat) : Int)), σ) := rfl
    rw [hst]
    have HC := hide (read_D d nb bb B σ s W (unhide HD) (unhide HSS) (by omega))
    clear hst
    generalize (stRead σ s) = R at HC ⊢
    go_enter Try.func14, Try.ntmps14
    go_wp2_with (first | (rw [unhide HW]) | fail)
    refine Calls.mono (unhide HC) ?_
    rintro e w1 ⟨v, rfl, h9, ev⟩
    have HN1 := hide h9
    have HE1 := hide ev
    clear h9 ev
    go_wp2_with fail
    go_ret2
    exact ⟨_, B, rfl, ((unhide HD).old (unhide HE1)).more (by omega) (by omega), ⟨((unhide HK).mono (by simp)).trans ((unhide HE1).mono (by simp)) (fun x hx => .inl hx), fun x hx => .inl hx⟩, (unhide HN1).low (unhide HK).size⟩
  have g5 : (k == 5) = false := by simpa using h5
  by_cases h6 : k = 6
  · subst h6
    have hst : stepD σ ⟨6, s, .slice pa pl pc, ps, .slice fa fl fc, fls, cr, n, .slice ka kl kc, ks⟩ = (([], 0), stPlan σ fls cr) := rfl
    rw [hst]
    have HC := hide (plan_D d nb bb B σ (.slice fa fl fc) fls cr W (unhide HD) (unhide HFR) (unhide HF) (unhide HFO) hfl)
    clear hst
    generalize (stPlan σ fls cr) = R at HC ⊢
    go_enter Try.func14, Try.ntmps14
    go_wp2_with (first | (rw [unhide HW]) | fail)
    refine Calls.mono (unhide HC) ?_
    rintro e w1 ⟨B', rfl, h9, ev⟩
    have HD1 := hide h9
    have HE1 := hide ev
    clear h9 ev
    go_wp2_with fail
    go_ret2
    exact ⟨_, B', rfl, (unhide HD1).more (by omega) (by omega), Ev.pre (unhide HK) (unhide HE1), NwB.none _ _⟩
  have g6 : (k == 6) = false := by simpa using h6
  by_cases h7 : k = 7
  · subst h7
    have hst : stepD σ ⟨7, s, .slice pa pl pc, ps, .slice fa fl fc, fls, cr, n, .slice ka kl kc, ks⟩ = (([], 0), stCut σ) := rfl
    rw [hst]
    have HC := hide (cut_D d nb bb B σ W (unhide HD))
    clear hst
    generalize (stCut σ) = R at HC ⊢
    go_enter Try.func14, Try.ntmps14
    go_wp2_with (first | (rw [unhide HW]) | fail)
    refine Calls.mono (unhide HC) ?_
    rintro e w1 ⟨B', rfl, h9, ev⟩
    have HD1 := hide h9
    have HE1 := hide ev
    clear h9 ev
    go_wp2_with fail
    go_ret2
    exact ⟨_, B', rfl, (unhide HD1).more (by omega) (by omega), Ev.pre (unhide HK) (unhide HE1), NwB.none _ _⟩
  have g7 : (k == 7) = false := by simpa using h7
  by_cases h8 : k = 8
  · subst h8
    have hst : stepD σ ⟨8, s, .slice pa pl pc, ps, .slice fa fl fc, fls, cr, n, .slice ka kl kc, ks⟩ = (([], 0), stRestart σ n ks) := rfl
    rw [hst]
    have HC := hide (restart_D d nb bb B σ n (.slice ka kl kc) ks W (unhide HD) hn (by omega) (unhide HKR) (unhide HKB) (unhide HKO) (by omega))
    clear hst
    generalize (stRestart σ n ks) = R at HC ⊢
    go_enter Try.func14, Try.ntmps14
    go_wp2_with (first | (rw [unhide HW]) | fail)
    refine Calls.mono (unhide HC) ?_
    rintro e w1 ⟨B', rfl, h9, ev⟩
    have HD1 := hide h9
    have HE1 := hide ev
    clear h9 ev
    go_wp2_with fail
    go_ret2
    exact ⟨_, B', rfl, (unhide HD1).more (by omega) (by omega), Ev.pre (unhide HK) (unhide HE1), NwB.none _ _⟩
  have g8 : (k == 8) = false := by simpa using h8
  have hst : stepD σ ⟨k, s, .slice pa pl pc, ps, .slice fa fl fc, fls, cr, n, .slice ka kl kc, ks⟩ = (([], 0), σ) := by
    unfold stepD
    dsimp only
    rw [if_neg h1, if_neg h2, if_neg h3, if_neg h4, if_neg h5, if_neg h6, if_neg h7, if_neg h8]
  rw [hst]
  clear hst h1 h2 h3 h4 h5 h6 h7 h8
  go_enter Try.func14, Try.ntmps14
  go_wp2_with (first | (rw [unhide HW]) | fail)
  go_ret2
  exact ⟨_, rfl, B, (unhide HD).more (by omega) (by omega), ⟨(unhide HK).mono (by simp), fun x hx => .inl hx⟩, NwB.none _ _⟩
end Go.Proofs.Ytaflchnipcmpoaa
/-
  Laws for drawn regions, by genreg.py. No program.
-/
namespace Go.Proofs.Ytaflchnipcmpoaa
open Go Go.RowKit Go.BigFrame
set_option linter.unusedVariables false
set_option linter.unusedSimpArgs false
section
variable {P : Program} {Q : Exit → Act → World → Prop}
theorem wp_pl11 {id : Nat} {o0 o1 o2 o3 o4 o5 o6 o7 o8 o9 o10 : Oper} {a : Act} {w : World} (hm : P.follows .mixedOrders = true) (hs : Region.noSelect #[o0, o1, o2, o3, o4, o5, o6, o7, o8, o9, o10] = true)
    (f0 : Region.free .any #[o0, o1, o2, o3, o4, o5, o6, o7, o8, o9, o10] #[false, false, false, false, false, false, false, false, false, false, false] 0 = true) (r0 : (Region.ready .any #[o0, o1, o2, o3, o4, o5, o6, o7, o8, o9, o10] #[false, false, false, false, false, false, false, false, false, false, false]).contains 0 = true)
    (f1 : Region.free .any #[o0, o1, o2, o3, o4, o5, o6, o7, o8, o9, o10] #[true, false, false, false, false, false, false, false, false, false, false] 1 = true) (r1 : (Region.ready .any #[o0, o1, o2, o3, o4, o5, o6, o7, o8, o9, o10] #[true, false, false, false, false, false, false, false, false, false, false]).contains 1 = true)
    (f2 : Region.free .any #[o0, o1, o2, o3, o4, o5, o6, o7, o8, o9, o10] #[true, true, false, false, false, false, false, false, false, false, false] 2 = true) (r2 : (Region.ready .any #[o0, o1, o2, o3, o4, o5, o6, o7, o8, o9, o10] #[true, true, false, false, false, false, false, false, false, false, false]).contains 2 = true)
    (f3 : Region.free .any #[o0, o1, o2, o3, o4, o5, o6, o7, o8, o9, o10] #[true, true, true, false, false, false, false, false, false, false, false] 3 = true) (r3 : (Region.ready .any #[o0, o1, o2, o3, o4, o5, o6, o7, o8, o9, o10] #[true, true, true, false, false, false, false, false, false, false, false]).contains 3 = true)
    (q_ : Region.ready .any #[o0, o1, o2, o3, o4, o5, o6, o7, o8, o9, o10] #[true, true, true, true, false, false, false, false, false, false, false] = [4])
    (q4_ : Region.ready .any #[o0, o1, o2, o3, o4, o5, o6, o7, o8, o9, o10] #[true, true, true, true, true, false, false, false, false, false, false] = [5])
    (f4_5_6 : Region.free .any #[o0, o1, o2, o3, o4, o5, o6, o7, o8, o9, o10] #[true, true, true, true, true, true, false, false, false, false, false] 6 = true) (r4_5_6 : (Region.ready .any #[o0, o1, o2, o3, o4, o5, o6, o7, o8, o9, o10] #[true, true, true, true, true, true, false, false, false, false, false]).contains 6 = true)
    (f4_5_7 : Region.free .any #[o0, o1, o2, o3, o4, o5, o6, o7, o8, o9, o10] #[true, true, true, true, true, true, true, false, false, false, false] 7 = true) (r4_5_7 : (Region.ready .any #[o0, o1, o2, o3, o4, o5, o6, o7, o8, o9, o10] #[true, true, true, true, true, true, true, false, false, false, false]).contains 7 = true)
    (f4_5_8 : Region.free .any #[o0, o1, o2, o3, o4, o5, o6, o7, o8, o9, o10] #[true, true, true, true, true, true, true, true, false, false, false] 8 = true) (r4_5_8 : (Region.ready .any #[o0, o1, o2, o3, o4, o5, o6, o7, o8, o9, o10] #[true, true, true, true, true, true, true, true, false, false, false]).contains 8 = true)
    (f4_5_9 : Region.free .any #[o0, o1, o2, o3, o4, o5, o6, o7, o8, o9, o10] #[true, true, true, true, true, true, true, true, true, false, false] 9 = true) (r4_5_9 : (Region.ready .any #[o0, o1, o2, o3, o4, o5, o6, o7, o8, o9, o10] #[true, true, true, true, true, true, true, true, true, false, false]).contains 9 = true)
    (f4_5_10 : Region.free .any #[o0, o1, o2, o3, o4, o5, o6, o7, o8, o9, o10] #[true, true, true, true, true, true, true, true, true, true, false] 10 = true) (r4_5_10 : (Region.ready .any #[o0, o1, o2, o3, o4, o5, o6, o7, o8, o9, o10] #[true, true, true, true, true, true, true, true, true, true, false]).contains 10 = true)
    (q4_5_ : Region.ready .any #[o0, o1, o2, o3, o4, o5, o6, o7, o8, o9, o10] #[true, true, true, true, true, true, true, true, true, true, true] = [])
    (g4 : o4.guard = none)    (g5 : o5.guard = none)
    (v0 v1 v2 v3 : Value) (A0 A1 A2 A3 : Act)
    (S : World → Prop)
    (I_ : World → Prop)
    (I4_ : Value → World → Prop)
    (I4_5_ : Value → Value → World → Prop)
    (v6 : Value → Value → Value)
    (v7 : Value → Value → Value)
    (v8 : Value → Value → Value)
    (v9 : Value → Value → Value)
    (v10 : Value → Value → Value)
    (p0 : a.put o0.dst v0 = A0) (hy0 : YieldsIf P #[o0, o1, o2, o3, o4, o5, o6, o7, o8, o9, o10] S o0 v0 a)
    (p1 : A0.put o1.dst v1 = A1) (hy1 : YieldsIf P #[o0, o1, o2, o3, o4, o5, o6, o7, o8, o9, o10] S o1 v1 A0)
    (p2 : A1.put o2.dst v2 = A2) (hy2 : YieldsIf P #[o0, o1, o2, o3, o4, o5, o6, o7, o8, o9, o10] S o2 v2 A1)
    (p3 : A2.put o3.dst v3 = A3) (hy3 : YieldsIf P #[o0, o1, o2, o3, o4, o5, o6, o7, o8, o9, o10] S o3 v3 A2)
    (i0 : I_ w.drew)
    (hIS : (∀ w', I_  w' → S w') ∧ (∀ (u4 : Value) w', I4_ u4 w' → S w') ∧ (∀ (u4 u5 : Value) w', I4_5_ u4 u5 w' → S w'))
    (s_4 : ∀ w', I_  w' → ∀ K : Act → World → Prop, (∀ (u4 : Value) w2, I4_ u4 w2 → K (A3.put o4.dst u4) w2) → o4.wp P A3 w' K (NoPanic Q))
    (s4_5 : ∀ (u4 : Value) w', I4_ u4 w' → ∀ K : Act → World → Prop, (∀ (u5 : Value) w2, I4_5_ u4 u5 w2 → K ((A3.put o4.dst u4).put o5.dst u5) w2) → o5.wp P (A3.put o4.dst u4) w' K (NoPanic Q))
    (y4_5_6 : ∀ (u4 u5 : Value) w', I4_5_ u4 u5 w' → YieldsIf P #[o0, o1, o2, o3, o4, o5, o6, o7, o8, o9, o10] S o6 (v6 u4 u5) ((A3.put o4.dst u4).put o5.dst u5))
    (y4_5_7 : ∀ (u4 u5 : Value) w', I4_5_ u4 u5 w' → YieldsIf P #[o0, o1, o2, o3, o4, o5, o6, o7, o8, o9, o10] S o7 (v7 u4 u5) (((A3.put o4.dst u4).put o5.dst u5).put o6.dst (v6 u4 u5)))
    (y4_5_8 : ∀ (u4 u5 : Value) w', I4_5_ u4 u5 w' → YieldsIf P #[o0, o1, o2, o3, o4, o5, o6, o7, o8, o9, o10] S o8 (v8 u4 u5) ((((A3.put o4.dst u4).put o5.dst u5).put o6.dst (v6 u4 u5)).put o7.dst (v7 u4 u5)))
    (y4_5_9 : ∀ (u4 u5 : Value) w', I4_5_ u4 u5 w' → YieldsIf P #[o0, o1, o2, o3, o4, o5, o6, o7, o8, o9, o10] S o9 (v9 u4 u5) (((((A3.put o4.dst u4).put o5.dst u5).put o6.dst (v6 u4 u5)).put o7.dst (v7 u4 u5)).put o8.dst (v8 u4 u5)))
    (y4_5_10 : ∀ (u4 u5 : Value) w', I4_5_ u4 u5 w' → YieldsIf P #[o0, o1, o2, o3, o4, o5, o6, o7, o8, o9, o10] S o10 (v10 u4 u5) ((((((A3.put o4.dst u4).put o5.dst u5).put o6.dst (v6 u4 u5)).put o7.dst (v7 u4 u5)).put o8.dst (v8 u4 u5)).put o9.dst (v9 u4 u5)))
    (h : ∀ (u4 u5 : Value) w', I4_5_ u4 u5 w' → Q .normal (((((((A3.put o4.dst u4).put o5.dst u5).put o6.dst (v6 u4 u5)).put o7.dst (v7 u4 u5)).put o8.dst (v8 u4 u5)).put o9.dst (v9 u4 u5)).put o10.dst (v10 u4 u5)) w') :
    (Code.region id #[o0, o1, o2, o3, o4, o5, o6, o7, o8, o9, o10] true).wp P Q a w := by
  subst p0 p1 p2 p3
  obtain ⟨z_, z4_, z4_5_⟩ := hIS
  refine wp_region_noPanic ?_
  refine wp_region_held_drew (S := S) hm (z_ _ i0) (fun hH => ?_)
  show wpAnyH P .any #[o0, o1, o2, o3, o4, o5, o6, o7, o8, o9, o10] (NoPanic Q) S 11 #[false, false, false, false, false, false, false, false, false, false, false] a w.drew
  refine wpAnyH_take (i := 0) (oi := o0) rfl hs f0 r0 (fun _ _ _ h => h) hy0 hH ?_
  refine wpAnyH_take (i := 1) (oi := o1) rfl hs f1 r1 (fun _ _ _ h => h) hy1 hH ?_
  refine wpAnyH_take (i := 2) (oi := o2) rfl hs f2 r2 (fun _ _ _ h => h) hy2 hH ?_
  refine wpAnyH_take (i := 3) (oi := o3) rfl hs f3 r3 (fun _ _ _ h => h) hy3 hH ?_
  generalize ((((a.put o0.dst v0).put o1.dst v1).put o2.dst v2).put o3.dst v3) = B at *
  have wa4 : ∀ y, Region.wanted o4 y = true := fun y => by unfold Region.wanted; rw [g4]
  have wa5 : ∀ y, Region.wanted o5 y = true := fun y => by unfold Region.wanted; rw [g5]
  have t4_5_ : ∀ (u4 u5 : Value) w', I4_5_ u4 u5 w' → wpAnyH P .any #[o0, o1, o2, o3, o4, o5, o6, o7, o8, o9, o10] (NoPanic Q) S 0 #[true, true, true, true, true, true, true, true, true, true, true] (((((((B.put o4.dst u4).put o5.dst u5).put o6.dst (v6 u4 u5)).put o7.dst (v7 u4 u5)).put o8.dst (v8 u4 u5)).put o9.dst (v9 u4 u5)).put o10.dst (v10 u4 u5)) w' := by
    intro u4 u5 w0 i0
    exact ⟨q4_5_, NoPanic.normal (h u4 u5 w0 i0)⟩
  have t4_ : ∀ (u4 : Value) w', I4_ u4 w' → wpAnyH P .any #[o0, o1, o2, o3, o4, o5, o6, o7, o8, o9, o10] (NoPanic Q) S 6 #[true, true, true, true, true, false, false, false, false, false, false] (B.put o4.dst u4) w' := by
    intro u4 w0 i0
    refine wpAnyH_ready (rs := [5]) q4_ (by simp) (AllReadyH.cons (o := o5) rfl (fun K hK => ?_) AllReadyH.nil)
    · rw [if_pos (wa5 _)]
      refine s4_5 u4 w0 i0 K (fun u5 w1 i1 => hK.out _ _ (z4_5_ u4 u5 w1 i1) (fun _ => ?_))
      clear hK
      refine wpAnyH_take (i := 6) (oi := o6) rfl hs f4_5_6 r4_5_6 (fun _ _ _ h => h) (y4_5_6 u4 u5 w1 i1) (z4_5_ u4 u5 w1 i1) ?_
      refine wpAnyH_take (i := 7) (oi := o7) rfl hs f4_5_7 r4_5_7 (fun _ _ _ h => h) (y4_5_7 u4 u5 w1 i1) (z4_5_ u4 u5 w1 i1) ?_
      refine wpAnyH_take (i := 8) (oi := o8) rfl hs f4_5_8 r4_5_8 (fun _ _ _ h => h) (y4_5_8 u4 u5 w1 i1) (z4_5_ u4 u5 w1 i1) ?_
      refine wpAnyH_take (i := 9) (oi := o9) rfl hs f4_5_9 r4_5_9 (fun _ _ _ h => h) (y4_5_9 u4 u5 w1 i1) (z4_5_ u4 u5 w1 i1) ?_
      refine wpAnyH_take (i := 10) (oi := o10) rfl hs f4_5_10 r4_5_10 (fun _ _ _ h => h) (y4_5_10 u4 u5 w1 i1) (z4_5_ u4 u5 w1 i1) ?_
      exact t4_5_ u4 u5 w1 i1
  have t_ : ∀ w', I_  w' → wpAnyH P .any #[o0, o1, o2, o3, o4, o5, o6, o7, o8, o9, o10] (NoPanic Q) S 7 #[true, true, true, true, false, false, false, false, false, false, false] B w' := by
    intro w0 i0
    refine wpAnyH_ready (rs := [4]) q_ (by simp) (AllReadyH.cons (o := o4) rfl (fun K hK => ?_) AllReadyH.nil)
    · rw [if_pos (wa4 _)]
      refine s_4  w0 i0 K (fun u4 w1 i1 => hK.out _ _ (z4_ u4 w1 i1) (fun _ => ?_))
      clear hK
      exact t4_ u4 w1 i1
  exact t_ w.drew i0

end
end Go.Proofs.Ytaflchnipcmpoaa
namespace Go.Proofs.Ytaflchnipcmpoaa
open Go.RowKit Go.BigFrame Go.Maps Go.Sort
set_option linter.unusedVariables false
set_option linter.unusedSimpArgs false

theorem ifC_len (ts : List IFile) : (ts.flatMap ifC).length = ts.length * 4 := by
  induction ts with
  | nil => rfl
  | cons t r ih => simp only [List.flatMap_cons, List.length_append, List.length_cons, ifC, List.length_nil] at ih ⊢; omega
theorem ifC_get : ∀ (ts : List IFile) (i : Nat) (h : i < ts.length) (j : Nat) (v : Value), (ifC ts[i])[j]? = some v → (ts.flatMap ifC)[i * 4 + j]? = some v
  | t :: r, 0, _, j, v, hv => by
    have hj := (List.getElem?_eq_some_iff.1 hv).1
    rw [List.flatMap_cons, List.getElem?_append_left (by simpa using hj)]
    simpa using hv
  | t :: r, i + 1, h, j, v, hv => by
    have h' : i < r.length := by simpa using h
    have h1 := ifC_get r i h' j v (by simpa using hv)
    rw [List.flatMap_cons, List.getElem?_append_right (by simp [ifC]; omega)]
    rw [show (i + 1) * 4 + j - (ifC t).length = i * 4 + j by simp [ifC]; omega]
    exact h1
/-- Files that are owned, each file's bytes in memory of their own. -/
structure OwnI (B : Nat) (w : World) (v : Value) (ts : List IFile) : Prop where
  own : w.ownsRow B 54 4 v ts.length (ts.flatMap ifC)
  el : ∀ t ∈ ts, w.ownsRow B 5 1 t.v t.bs.length (t.bs.map u8) ∧ (∀ x ∈ t.bs, x < 256) ∧ t.bs.length ≤ 140737488355328
  ap : ts.Pairwise fun a b => ∀ x ∈ blk a.v, x ∉ blk b.v
theorem OwnI.nil (B : Nat) (w : World) : OwnI B w (.slice none 0 0) [] := ⟨World.ownsRow_nil _ _ _ _, by simp, List.Pairwise.nil⟩
/-- One file more. -/
theorem pushI (w : World) (B : Nat) (v : Value) (ts : List IFile) (t : IFile) (H : Nat) (h : OwnI B w v ts) (hnew : w.heap[H]? = some (.cells (ifC t).toArray 54 (0, 0))) (ho : w.ownsRow B 5 1 t.v t.bs.length (t.bs.map u8) ∧ (∀ x ∈ t.bs, x < 256) ∧ t.bs.length ≤ 140737488355328)
    (ha : ∀ a ∈ ts, ∀ x ∈ blk a.v, x ∉ blk t.v) (hl : ts.length + 1 ≤ 1000000000) (hb : B ≤ w.heap.size) :
    ∃ g cap w1, (Builtin.append_ #[22, 22] 22 #[v, .slice (some ⟨H, 0, none⟩) 1 1]).run Try.prog w = .ok (.slice (some ⟨g, 0, none⟩) (ts.length + 1) cap) w1 ∧
      OwnI B w1 (.slice (some ⟨g, 0, none⟩) (ts.length + 1) cap) (ts ++ [t]) ∧ w.grownBy w1 v.ownBlock ∧ (v.ownBlock = some g ∨ g = w.heap.size) := by
  obtain ⟨i0, hi, hz0, hz1, hz2⟩ := info_parts Try.infoF
  obtain ⟨ao, len, cap0, hv2⟩ : ∃ ao len cap, t.v = .slice ao len cap := by
    obtain ⟨a, c, h9⟩ := owns_shape ho.1
    exact ⟨a, _, c, h9⟩
  obtain ⟨g, cap, w1, hr, hown, hgrow, hat, hlt⟩ := run_append_lies (P := Try.prog) w 22 22 B 54 i0 (.agg #[.string ⟨#[]⟩, .slice none 0 0, .int .i64 0, .bool false]) 4 56 Try.underlying22 hi hz0 hz1 hz2 rfl (by decide)
    v ts.length (ts.flatMap ifC) h.own ⟨H, 0, none⟩ 1 1 (ifC t) rfl (World.news_of_block hnew) (by intro u hu; simp only [ifC, List.mem_cons, List.not_mem_nil, or_false] at hu; rcases hu with rfl | rfl | rfl | rfl; rfl; rw [hv2]; rfl; rfl; rfl) (by decide) (by unfold maxLen; omega) (by omega) hb _ rfl
  have k1 : Kept v.ownBlock.toList w w1 := (Kept.refl _ w).grown hgrow (by intro k hk; left; simp [hk])
  have hty : ∀ {x : Nat} {cs : Array Value}, w.heap[x]? = some (.cells cs 5 (0, 0)) → x ∉ v.ownBlock.toList := by
    intro x cs hx hm
    simp only [Option.mem_toList] at hm
    rcases h.own.2 with ⟨hv, _⟩ | ⟨g9, c9, cur9, hv, _, hg9, _⟩
    · rw [hv] at hm; cases hm
    · rw [hv] at hm
      injection hm with hm
      subst hm
      exact cells_ne hx hg9 (by decide) rfl
  refine ⟨g, cap, w1, hr, ⟨?_, ?_, ?_⟩, hgrow, hat⟩
  · rw [List.flatMap_append, List.length_append]
    simpa using hown
  · intro a ha2
    rw [List.mem_append, List.mem_singleton] at ha2
    have h9 : w.ownsRow B 5 1 a.v a.bs.length (a.bs.map u8) ∧ (∀ x ∈ a.bs, x < 256) ∧ a.bs.length ≤ 140737488355328 := by
      rcases ha2 with h1 | rfl
      · exact h.el a h1
      · exact ho
    refine ⟨k1.owns h9.1 ?_, h9.2⟩
    intro x hx
    obtain ⟨cs, hc⟩ := owns_cells h9.1 (own_blk hx)
    exact hty hc
  · rw [List.pairwise_append]
    exact ⟨h.ap, List.pairwise_singleton _ _, by intro a h1 b h2; rw [List.mem_singleton] at h2; subst h2; exact ha a h1⟩


theorem OwnI.kept {L : List Nat} {B : Nat} {w w' : World} {v : Value} {ts : List IFile} (h : OwnI B w v ts) (k : Kept L w w') (hv : ∀ x ∈ blk v, x ∉ L) (ht : ∀ t ∈ ts, ∀ x ∈ blk t.v, x ∉ L) : OwnI B w' v ts :=
  ⟨k.owns h.own (fun x hx => hv x (own_blk hx)), fun t h1 => ⟨k.owns (h.el t h1).1 (fun x hx => ht t h1 x (own_blk hx)), (h.el t h1).2⟩, h.ap⟩
theorem OwnI.old {B : Nat} {w w' : World} {v : Value} {ts : List IFile} (h : OwnI B w v ts) (k : Kept [] w w') : OwnI B w' v ts := h.kept k (by simp) (by simp)
theorem OwnI.rd {B : Nat} {w : World} {v : Value} {ts : List IFile} (h : OwnI B w v ts) : RdC 4 w v (ts.map ifC) ∧ ∀ t ∈ ts, Rd w t.v t.bs := by
  refine ⟨?_, fun t ht => rd_owns (h.el t ht).1 (h.el t ht).2.1 (h.el t ht).2.2⟩
  rcases h.own.2 with ⟨rfl, h0⟩ | ⟨g, cap, cur, rfl, _, hg, hc, hm', hs, ht⟩
  · have : ts = [] := List.eq_nil_of_length_eq_zero h0
    subst this
    exact RdC.nil 4 w
  · refine ⟨some ⟨g, 0, none⟩, ts.length, cap, rfl, by simp, hc, by unfold maxLen at hm'; omega, fun _ => ⟨g, 0, rfl, fun i hi j u hu => ?_⟩⟩
    have hi' : i < ts.length := by simpa using hi
    rw [List.getElem_map] at hu
    have h9 := h.own.cells (g := g) rfl (i * 4 + j) u (ifC_get ts i hi' j u hu)
    rw [Addr.add_lit, Nat.zero_add] at h9
    rw [Nat.zero_add]
    exact h9
theorem OwnI.fl {B : Nat} {w : World} {v : Value} {ts : List IFile} (h : OwnI B w v ts) : ∀ x, x ∈ blk v ∨ (∃ t ∈ ts, x ∈ blk t.v) → B ≤ x ∧ x < w.heap.size := by
  rintro x (hx | ⟨t, ht, hx⟩)
  · exact h.own.lt x (blk_own4 h.own hx)
  · exact (h.el t ht).1.lt x (blk_own (h.el t ht).1 hx)
def iK (f : IFile) : ByteArray × List Nat × Int × Bool := (f.nm, f.bs, f.sy, f.nd)
end Go.Proofs.Ytaflchnipcmpoaa
namespace Go.Proofs.Ytaflchnipcmpoaa
open Go.RowKit Go.BigFrame Go.Maps Go.Sort
set_option linter.unusedVariables false
set_option linter.unusedSimpArgs false

theorem wpList_pushI {ops : Array Oper} {rest : List Oper} {o : Oper} {a : Act} {Q : Exit → Act → World → Prop} (hgd : o.guard = none) (s x : Operand)
    (ho : o.op = .call { callee := .builtin .append, args := #[s, x], argTypes := #[22, 22] }) (hty : o.type = 22)
    (w : World) (B : Nat) (v : Value) (ts : List IFile) (t : IFile) (H : Nat) (h : OwnI B w v ts) (hnew : w.heap[H]? = some (.cells (ifC t).toArray 54 (0, 0))) (ho2 : w.ownsRow B 5 1 t.v t.bs.length (t.bs.map u8) ∧ (∀ x ∈ t.bs, x < 256) ∧ t.bs.length ≤ 140737488355328)
    (ha : ∀ a ∈ ts, ∀ x ∈ blk a.v, x ∉ blk t.v) (hl : ts.length + 1 ≤ 1000000000) (hb : B ≤ w.heap.size) (hs : a.eval s = v) (hx : a.eval x = .slice (some ⟨H, 0, none⟩) 1 1)
    (hK : ∀ g cap w1, Hid (OwnI B w1 (.slice (some ⟨g, 0, none⟩) (ts.length + 1) cap) (ts ++ [t])) → Hid (w.grownBy w1 v.ownBlock) →
      wpList Try.prog ops Q rest (a.put o.dst (.slice (some ⟨g, 0, none⟩) (ts.length + 1) cap)) w1) :
    wpList Try.prog ops Q (o :: rest) a w := by
  obtain ⟨g, cap, w1, hrun, h2, h3, h4⟩ := pushI w B v ts t H h hnew ho2 ha hl hb
  refine wpList_plain hgd fun K hK' => ?_
  unfold Oper.wp execOp
  simp only [ho, hty, resolve, invoke, builtin, Sem.run_bind, Sem.run_pure, Result.andThen_ok, List.map_toArray, List.map_cons, List.map_nil, hs, hx, hrun]
  exact hK' _ _ (hK g cap w1 h2 h3)

set_option maxRecDepth 100000 in
set_option maxHeartbeats 2000000 in
theorem twins_any (v : Value) (l : List IFile) (w : World) (h : RdC 4 w v (l.map ifC)) (ho : ∀ f ∈ l, Rd w f.v f.bs) (hl : l.length ≤ 1048576) :
    Calls Try.prog 11 #[v] w fun e w' => ∃ v' ts, e = .returned v' ∧ OwnI w.heap.size w' v' ts ∧ ts.map iK = l.map iK ∧ Kept [] w w' := by
  obtain ⟨ao, len, cap, rfl, h1, h2, h3, h4⟩ := h
  rw [List.length_map] at h1
  subst h1
  have H4 := hide h4
  have HO := hide ho
  clear h4 ho
  go_enter Try.func11, Try.ntmps11
  go_wp2_with fail
  go_loopw [3, 8] (fun v t8 wr => ∃ (i : Nat) (ts : List IFile), i ≤ l.length ∧ t8 = .int .i64 i ∧ Hid (OwnI w.heap.size wr v ts) ∧ Hid (ts.map iK = (l.take i).map iK) ∧ Hid (Kept [] w wr)) (fun _ t _ => l.length - (intOf t).toNat)
  case atStart => exact ⟨0, [], Nat.zero_le _, rfl, hide (OwnI.nil _ _), hide rfl, hide (Kept.refl _ _)⟩
  case round =>
    obtain ⟨i, ts, hi, rfl, HOW, HTS, HK⟩ := hrel
    obtain ⟨va, vl, vc, hv⟩ : ∃ va vl vc, u3 = .slice va vl vc := by
      obtain ⟨a, l, c, h9, _⟩ := (unhide HOW).rd.1
      exact ⟨a, l, c, h9⟩
    subst hv
    have HTL := hide (by have := congrArg List.length (unhide HTS); rw [List.length_map, List.length_map, List.length_take] at this; omega : ts.length = i)
    by_cases hlt : i < l.length
    · have hlt' : (i : Int) < l.length := by omega
      obtain ⟨b, off, rfl, hcc⟩ := unhide H4 (by omega)
      have hr := hcc i (by rw [List.length_map]; exact hlt)
      rw [List.getElem_map] at hr
      have p0 := (unhide HK).cell (hr 0 _ rfl) (by simp)
      have p1 := (unhide HK).cell (hr 1 _ rfl) (by simp)
      have p2 := (unhide HK).cell (hr 2 _ rfl) (by simp)
      have p3 := (unhide HK).cell (hr 3 _ rfl) (by simp)
      rw [Nat.add_zero] at p0
      have hof := unhide HO l[i] (List.getElem_mem hlt)
      have HT := hide (List.take_succ_eq_append_getElem hlt)
      clear hr hcc
      obtain ⟨xa, xl, xc, hv⟩ := (show ∃ va vl vc, l[i].v = .slice va vl vc by obtain ⟨a, b, c, h9, _⟩ := hof; exact ⟨a, b, c, h9⟩)
      rw [hv] at p1
      have HRD := hide (by rw [← hv]; exact hof.kept (unhide HK) (by simp) : Rd wr (.slice xa xl xc) l[i].bs)
      have HLN := hide (show l[i].bs.length ≤ 140737488355328 by obtain ⟨a, b, c, h9, h10, h11, h12, _⟩ := hof; omega)
      clear hof hv
      generalize l[i] = X at p0 p1 p2 p3 HT HRD HLN
      go_upto_region 5 with fail
      have HG1 := hide (heap_alloc_new wr (.cells #[.string X.nm, .slice xa xl xc, .int .i64 X.sy, .bool X.nd] 54 (0, 0)))
      have HKa := hide ((Kept.refl [] wr).alloc (.cells #[.string X.nm, .slice xa xl xc, .int .i64 X.sy, .bool X.nd] 54 (0, 0)))
      obtain ⟨W1, hW1⟩ : ∃ W, wr.alloc (.cells #[.string X.nm, .slice xa xl xc, .int .i64 X.sy, .bool X.nd] 54 (0, 0)) = W := ⟨_, rfl⟩
      rw [hW1] at HG1 HKa ⊢
      clear hW1 p0 p1 p2 p3
      have q1 := cell_of_row _ _ 1 _ _ _ (unhide HG1)
      simp at q1
      have HS1 := hide (unhide HKa).size
      go_wp2_with fail
      refine Calls.mono (twin_any (.slice xa xl xc) X.bs W1 ((unhide HRD).kept (unhide HKa) (by simp))) ?_
      rintro e w2 ⟨rfl, k2, hh2⟩
      have HG2 := hide (k2.heap (unhide HG1) (by simp))
      have HH2 := hide hh2
      have HK2 := hide ((unhide HKa).trans k2 (by simp))
      have HGN := hide (lt_of_block (unhide HG1))
      clear k2 hh2 q1
      have q1 := cell_of_row _ _ 1 _ _ _ (unhide HG2)
      simp at q1
      have z1 := frozen_of_row _ _ 1 _ _ (unhide HG2)
      go_upto_region 6 with fail
      have HG3 := hide (heap_setCell_same w2 _ 1 _ _ (.slice (some ⟨W1.heap.size, 0, none⟩) X.bs.length X.bs.length) (unhide HG2))
      have HK3 := hide ((unhide HK2).setCell (p := ⟨wr.heap.size, 1, none⟩) (.inr (Nat.le_refl _)) (.slice (some ⟨W1.heap.size, 0, none⟩) X.bs.length X.bs.length))
      have HH3 := hide (((Kept.refl [wr.heap.size] w2).setCell (p := ⟨wr.heap.size, 1, none⟩) (.inl (by simp)) (.slice (some ⟨W1.heap.size, 0, none⟩) X.bs.length X.bs.length)).heap (unhide HH2) (by have := unhide HGN; simp; omega))
      obtain ⟨W3, hW3⟩ : ∃ W, w2.setCell ⟨wr.heap.size, 1, none⟩ (.slice (some ⟨W1.heap.size, 0, none⟩) X.bs.length X.bs.length) = W := ⟨_, rfl⟩
      rw [hW3] at HG3 HK3 HH3 ⊢
      clear hW3 q1 z1
      have r0 := cell_of_row _ _ 0 _ _ _ (unhide HG3)
      have r1 := cell_of_row _ _ 1 _ _ _ (unhide HG3)
      have r2 := cell_of_row _ _ 2 _ _ _ (unhide HG3)
      have r3 := cell_of_row _ _ 3 _ _ _ (unhide HG3)
      simp at r0 r1 r2 r3
      have HK4 := hide ((unhide HK3).alloc (.cells #[.string X.nm, .slice (some ⟨W1.heap.size, 0, none⟩) X.bs.length X.bs.length, .int .i64 X.sy, .bool X.nd] 54 (0, 0)))
      have HH4 := hide (((Kept.refl [] W3).alloc (.cells #[.string X.nm, .slice (some ⟨W1.heap.size, 0, none⟩) X.bs.length X.bs.length, .int .i64 X.sy, .bool X.nd] 54 (0, 0))).heap (unhide HH3) (by simp))
      have HN4 := hide (heap_alloc_new W3 (.cells #[.string X.nm, .slice (some ⟨W1.heap.size, 0, none⟩) X.bs.length X.bs.length, .int .i64 X.sy, .bool X.nd] 54 (0, 0)))
      have HBW := hide (unhide HK).size
      have HAA := hide (by
        intro a ha x hx hy
        simp only [blk, List.mem_singleton] at hy
        have := ((unhide HOW).fl x (.inr ⟨a, ha, hx⟩)).2
        have := unhide HS1
        omega : ∀ a ∈ ts, ∀ x ∈ blk a.v, x ∉ blk (.slice (some ⟨W1.heap.size, 0, none⟩) X.bs.length X.bs.length))
      go_wp2_with (at_builtin; refine wpList_pushI rfl _ _ rfl rfl _ w.heap.size (.slice va vl vc) ts ⟨X.nm, .slice (some ⟨W1.heap.size, 0, none⟩) X.bs.length X.bs.length, X.bs, X.sy, X.nd⟩ W3.heap.size ((unhide HOW).old (unhide HK4)) (unhide HN4) ⟨owns_fresh (unhide HH4) (unhide HLN) (by have := unhide HS1; have := unhide HBW; omega), (unhide HRD).byte, unhide HLN⟩ (unhide HAA) (by have := unhide HTL; omega) (Nat.le_trans (unhide HBW) (unhide HK4).size) rfl rfl ?_; intro g5 cap5 w5 HO5 HGR5)
      refine ⟨⟨i + 1, _, by omega, by simp, HO5, hide ?_, hide ?_⟩, ?_⟩
      · rw [unhide HT, List.map_append, List.map_append, unhide HTS]
        rfl
      · exact ((unhide HK).trans (unhide HK4) (by simp)).grown (unhide HGR5) (by intro x hx; right; exact ((unhide HOW).own.lt x hx).1)
      · simp [intOf]; omega
    · have hlt' : ¬ (i : Int) < l.length := by omega
      have hie : i = l.length := by omega
      subst hie
      rw [List.take_length] at HTS
      go_wp2_with fail
      go_ret
      exact ⟨_, rfl, ts, unhide HOW, unhide HTS, unhide HK⟩
end Go.Proofs.Ytaflchnipcmpoaa
namespace Go.Proofs.Ytaflchnipcmpoaa
open Go.RowKit Go.BigFrame Go.Maps Go.Sort
set_option linter.unusedVariables false
set_option linter.unusedSimpArgs false

theorem formed_key {l l' : List IFile} (h : l'.map iK = l.map iK) : formedB l' = formedB l ∧ l'.map toDF = l.map toDF ∧ l'.length = l.length := by
  have hl : l'.length = l.length := by have := congrArg List.length h; simpa using this
  have hi : ∀ i (h1 : i < l.length) (h2 : i < l'.length), iK l'[i] = iK l[i] := by
    intro i h1 h2
    have := congrArg (fun x => x[i]?) h
    simpa [List.getElem?_eq_getElem h1, List.getElem?_eq_getElem h2] using this
  refine ⟨?_, ?_, hl⟩
  · rw [Bool.eq_iff_iff, formedB_iff, formedB_iff]
    have key : ∀ (a b : List IFile), a.length = b.length → (∀ i (h1 : i < b.length) (h2 : i < a.length), iK a[i] = iK b[i]) → FormedL b → FormedL a := by
      intro a b hab hk hf i hia
      have hib : i < b.length := by omega
      have e := hk i hib hia
      simp only [iK, Prod.mk.injEq] at e
      obtain ⟨f1, f2, f3, f4⟩ := hf i hib
      refine ⟨by rw [e.1]; exact f1, by rw [e.2.2.1]; exact f2, by rw [e.2.2.1, e.2.1]; exact f3, fun hp => ?_⟩
      have e2 := hk (i - 1) (by omega) (by omega)
      simp only [iK, Prod.mk.injEq] at e2
      rw [e.1, e2.1]
      exact f4 hp
    exact ⟨key l l' hl.symm (fun i h1 h2 => (hi i h2 h1).symm), key l' l hl hi⟩
  · have e : ∀ f : IFile, toDF f = (fun (x : ByteArray × List Nat × Int × Bool) => (⟨x.1, x.2.1, x.2.2.1.toNat, x.2.2.2⟩ : DF)) (iK f) := fun f => rfl
    have : ∀ a : List IFile, a.map toDF = (a.map iK).map (fun (x : ByteArray × List Nat × Int × Bool) => (⟨x.1, x.2.1, x.2.2.1.toNat, x.2.2.2⟩ : DF)) := by
      intro a
      rw [List.map_map]
      rfl
    rw [this, this, h]
theorem OwnI.ok {B : Nat} {w : World} {v : Value} {ts l : List IFile} (h : OwnI B w v ts) (hk : ts.map iK = l.map iK) (ho : ∀ f ∈ l, f.nm.size ≤ 1048576 ∧ Rng f.sy) : ∀ f ∈ ts, OkIf w f := by
  intro f hf
  have h1 : iK f ∈ l.map iK := by rw [← hk]; exact List.mem_map.2 ⟨f, hf, rfl⟩
  obtain ⟨a, ha, hae⟩ := List.mem_map.1 h1
  simp only [iK, Prod.mk.injEq] at hae
  exact ⟨h.rd.2 f hf, by rw [← hae.1]; exact (ho a ha).1, by rw [← hae.2.2.1]; exact (ho a ha).2⟩

def tupAt : Value → Nat → Value
  | .tuple xs, i => xs.toList.getD i undef
  | _, _ => undef
/-- What From answers: the disk, or none. -/
def FrR (sec : Int) (l : List IFile) : Nat := if 1 ≤ sec ∧ sec ≤ 4096 then (if formedB l then 0 else 3) else 1
theorem fromT_any (sec : Int) (v : Value) (l ts : List IFile) (B bb : Nat) (w : World) (h : OwnI B w v ts) (hk : ts.map iK = l.map iK) (ho : ∀ f ∈ l, f.nm.size ≤ 1048576 ∧ Rng f.sy) (hl : l.length ≤ 1048576) (hb : ∀ f ∈ l, f.bs.length ≤ bb) :
    Calls Try.prog 10 #[.int .i64 sec, v] w fun e w' => ∃ p, e = .returned (.tuple #[p, .int .i64 (FrR sec l : Nat)]) ∧ Kept [] w w' ∧ (FrR sec l ≠ 0 → p = .pointer none) ∧ (FrR sec l = 0 → ∃ d D, p = .pointer (some ⟨d, 0, none⟩) ∧ DK w' d D l.length bb ⟨sec.toNat, 0, 0, false, fun _ => none, l.map toDF⟩ ∧ ∀ x ∈ D, w.heap.size ≤ x) := by
  obtain ⟨k1, k2, k3⟩ := formed_key hk
  have hok := h.ok hk ho
  unfold FrR
  by_cases hs : 1 ≤ sec ∧ sec ≤ 4096
  · rw [if_pos hs]
    cases hf : formedB l
    · refine Calls.mono (from_form sec v ts w hs.1 hs.2 h.rd.1 hok (by omega) (by rw [k1]; exact hf)) ?_
      rintro e w' ⟨rfl, kk⟩
      exact ⟨_, rfl, kk, fun _ => rfl, fun h9 => by simp at h9⟩
    · have hs2 : ((sec.toNat : Nat) : Int) = sec := by omega
      have hc := from_D sec.toNat v ts bb w (by omega) (by omega) h.rd.1 hok (by omega) (by
        intro f hf2
        have h1 : iK f ∈ l.map iK := by rw [← hk]; exact List.mem_map.2 ⟨f, hf2, rfl⟩
        obtain ⟨a, ha, hae⟩ := List.mem_map.1 h1
        simp only [iK, Prod.mk.injEq] at hae
        rw [← hae.2.1]
        exact hb a ha) (by rw [k1]; exact hf)
      rw [hs2] at hc
      refine Calls.mono hc ?_
      rintro e w' ⟨d, D, rfl, hd, kk, hn⟩
      rw [k2, k3] at hd
      exact ⟨_, rfl, kk, fun h9 => absurd rfl h9, fun _ => ⟨d, D, rfl, hd, hn⟩⟩
  · rw [if_neg hs]
    refine Calls.mono (from_arg sec v w (by omega)) ?_
    rintro e w' ⟨rfl, rfl⟩
    exact ⟨_, rfl, Kept.refl _ _, fun _ => rfl, fun h9 => by simp at h9⟩

theorem okOp_old {w w' : World} {o : OpD} (h : OkOp w o) (k : Kept [] w w') : OkOp w' o := ⟨h.k, h.s, h.p.kept k (by simp), h.f.old k, h.fr, h.cr, h.n, h.kk.old k, h.kr⟩
theorem stepD_sec (σ : DSt) (o : OpD) : (stepD σ o).2.sec = σ.sec := by
  unfold stepD
  (repeat' split) <;> first | rfl | (unfold stCreate; split <;> rfl) | (unfold stAppend; (repeat' split) <;> rfl) | (unfold stSync; (repeat' split) <;> rfl) | (unfold stNames; split <;> rfl)
theorem opW_take {os : List OpD} {i : Nat} (h : i < os.length) : ((os.take (i + 1)).map opW).sum = ((os.take i).map opW).sum + opW os[i] := by
  rw [List.take_succ_eq_append_getElem h, List.map_append, List.sum_append]
  simp
theorem opW_le {os : List OpD} (i : Nat) : ((os.take i).map opW).sum ≤ (os.map opW).sum := by
  conv => rhs; rw [← List.take_append_drop i os, List.map_append, List.sum_append]
  omega
theorem fsum_mem {l : List IFile} {f : IFile} (h : f ∈ l) : f.bs.length + 1 ≤ (l.map fun f => f.bs.length + 1).sum := by
  induction l with
  | nil => simp at h
  | cons a l ih =>
    rcases List.mem_cons.1 h with rfl | h
    · simp
    · have := ih h; simp only [List.map_cons, List.sum_cons]; omega
theorem fsum_len (l : List IFile) : l.length ≤ (l.map fun f => f.bs.length + 1).sum := sum_len l _ (by intro a; omega)

set_option maxRecDepth 100000 in
set_option maxHeartbeats 2000000 in
theorem play_any (sec : Int) (fv ov : Value) (fs : List IFile) (os : List OpD) (w : World) (hf : RdC 4 w fv (fs.map ifC)) (hfo : ∀ a ∈ fs, OkIf w a) (ho : RdC 7 w ov (os.map opL)) (hoo : ∀ a ∈ os, OkOp w a) (hw : (fs.map fun f => f.bs.length + 1).sum + (os.map opW).sum + 1 ≤ 1048576) :
    Calls Try.prog 26 #[.agg #[.int .i64 sec, fv, ov]] w fun e w' => ∃ p, e = .returned p ∧ Kept [] w w' ∧ (FrR sec fs ≠ 0 → p = .pointer none) ∧ (FrR sec fs = 0 → ∃ d D σ, p = .pointer (some ⟨d, 0, none⟩) ∧ DK w' d D 2097152 4300000000 σ ∧ σ.sec = sec.toNat ∧ ∀ x ∈ D, w.heap.size ≤ x) := by
  have HFR := hide hf
  obtain ⟨fa, fl, fc, rfl, _⟩ := id hf
  obtain ⟨oa, ol, oc, rfl, g1, g2, g3, g4⟩ := ho
  rw [List.length_map] at g1
  subst g1
  have HLF := hide (fsum_len fs)
  have HLO := hide (sum_len os opW (by intro a; unfold opW; omega))
  have hk0 := (Kept.refl [] w).alloc (.cells #[.int .i64 sec, .slice fa fl fc, .slice oa os.length oc] 25 (0, 0))
  have hg := heap_alloc_new w (.cells #[.int .i64 sec, .slice fa fl fc, .slice oa os.length oc] 25 (0, 0))
  obtain ⟨W, hW⟩ : ∃ W, w.alloc (.cells #[.int .i64 sec, .slice fa fl fc, .slice oa os.length oc] 25 (0, 0)) = W := ⟨_, rfl⟩
  rw [hW] at hk0 hg
  have HW := hide hW
  have HK := hide hk0
  have HG := hide hg
  have HTW := hide (fun X (k : Kept [] W X) => twins_any (.slice fa fl fc) fs X ((hf.old hk0).old k) (fun f h9 => ((hfo f h9).1.kept hk0 (by simp)).kept k (by simp)) (by have := unhide HLF; omega))
  have HFO := hide (fun f hf2 => And.intro (hfo f hf2).2.1 (hfo f hf2).2.2 : ∀ f ∈ fs, f.nm.size ≤ 1048576 ∧ Rng f.sy)
  have HFB := hide (fun f hf2 => by have := fsum_mem hf2; omega : ∀ f ∈ fs, f.bs.length ≤ 1048576)
  have H4 := hide g4
  have HOO := hide hoo
  clear hW hk0 hg hf hfo hoo g4
  go_enter Try.func26, Try.ntmps26
  go_upto_region 1 with (first | (rw [unhide HW]) | fail)
  refine wp_pl11 (by kernel_rfl) (by kernel_rfl) (by kernel_rfl) (by kernel_rfl) (by kernel_rfl) (by kernel_rfl) (by kernel_rfl) (by kernel_rfl) (by kernel_rfl) (by kernel_rfl) (by kernel_rfl) (by kernel_rfl) (by kernel_rfl) (by kernel_rfl) (by kernel_rfl) (by kernel_rfl) (by kernel_rfl) (by kernel_rfl) (by kernel_rfl) (by kernel_rfl) (by kernel_rfl) (by kernel_rfl) (by kernel_rfl) rfl rfl
    (.pointer (some ⟨w.heap.size, 0, none⟩)) (.int .i64 sec) (.pointer (some ⟨w.heap.size, 1, none⟩)) (.slice fa fl fc) _ _ _ _
    (fun w' => w'.heap[w.heap.size]? = some (.cells #[.int .i64 sec, .slice fa fl fc, .slice oa os.length oc] 25 (0, 0)))
    (fun w' => Kept [] W w')
    (fun u4 w' => (∃ ts, OwnI W.heap.size w' u4 ts ∧ ts.map iK = fs.map iK) ∧ Kept [] W w')
    (fun u4 u5 w' => ∃ p, u5 = .tuple #[p, .int .i64 (FrR sec fs : Nat)] ∧ Kept [] W w' ∧ (FrR sec fs ≠ 0 → p = .pointer none) ∧ (FrR sec fs = 0 → ∃ d D, p = .pointer (some ⟨d, 0, none⟩) ∧ DK w' d D fs.length 1048576 ⟨sec.toNat, 0, 0, false, fun _ => none, fs.map toDF⟩ ∧ ∀ x ∈ D, W.heap.size ≤ x))
    (fun _ u5 => u5) (fun _ u5 => tupAt u5 0) (fun _ u5 => tupAt u5 1) (fun _ u5 => tupAt u5 0) (fun _ u5 => tupAt u5 1)
    (by simp only [Act.put, List.setIfInBounds_toArray, List.set_cons_zero, List.set_cons_succ]; rfl) (by exact Or.inl ⟨by rfl, fun W' hW' => by go_simp⟩)
    (by simp only [Act.put, List.setIfInBounds_toArray, List.set_cons_zero, List.set_cons_succ]; rfl) (by exact Or.inl ⟨by rfl, fun W' hW' => by have h9 := cell_of_row _ _ 0 _ _ _ hW'; simp at h9; go_simp⟩)
    (by simp only [Act.put, List.setIfInBounds_toArray, List.set_cons_zero, List.set_cons_succ]; rfl) (by exact Or.inl ⟨by rfl, fun W' hW' => by go_simp⟩)
    (by simp only [Act.put, List.setIfInBounds_toArray, List.set_cons_zero, List.set_cons_succ]; rfl) (by exact Or.inl ⟨by rfl, fun W' hW' => by have h9 := cell_of_row _ _ 1 _ _ _ hW'; simp at h9; go_simp⟩)
    (Kept.refl [] W).drew
    ⟨fun w' h => h.heap (unhide HG) (by simp), fun u4 w' h => h.2.heap (unhide HG) (by simp), fun u4 u5 w' h => by obtain ⟨p, _, k9, _⟩ := h; exact k9.heap (unhide HG) (by simp)⟩
    (by
      intro w' k K hK
      refine wp_callN rfl Try.call11 [.slice fa fl fc] rfl (unhide HTW w' k) ?_
      rintro e w2 ⟨v', ts, rfl, h1, h2, k2⟩
      exact ⟨_, rfl, hK _ _ ⟨⟨ts, ⟨owns_low h1.own k.size, fun t ht => ⟨owns_low (h1.el t ht).1 k.size, (h1.el t ht).2⟩, h1.ap⟩, h2⟩, k.trans k2 (by simp)⟩⟩)
    (by
      rintro u4 w' ⟨⟨ts, h1, h2⟩, k⟩ K hK
      refine wp_callN rfl Try.call10 [.int .i64 sec, u4] rfl (fromT_any sec u4 fs ts W.heap.size 1048576 w' h1 h2 (unhide HFO) (by have := unhide HLF; omega) (unhide HFB)) ?_
      rintro e w2 ⟨p, rfl, k2, h3, h4⟩
      refine ⟨_, rfl, hK _ _ ⟨p, rfl, k.trans k2 (by simp), h3, fun h0 => ?_⟩⟩
      obtain ⟨d, D, h5, h6, h7⟩ := h4 h0
      exact ⟨d, D, h5, h6, fun x hx => Nat.le_trans k.size (h7 x hx)⟩)
    (by rintro u4 u5 w' ⟨p, rfl, _⟩; exact Or.inl ⟨by rfl, fun W' hW' => by go_simp⟩)
    (by rintro u4 u5 w' ⟨p, rfl, _⟩; exact Or.inl ⟨by rfl, fun W' hW' => by simp only [tupAt]; go_simp⟩)
    (by rintro u4 u5 w' ⟨p, rfl, _⟩; exact Or.inl ⟨by rfl, fun W' hW' => by simp only [tupAt]; go_simp⟩)
    (by rintro u4 u5 w' ⟨p, rfl, _⟩; exact Or.inl ⟨by rfl, fun W' hW' => by simp only [tupAt]; go_simp⟩)
    (by rintro u4 u5 w' ⟨p, rfl, _⟩; exact Or.inl ⟨by rfl, fun W' hW' => by simp only [tupAt]; go_simp⟩)
    ?_
  rintro u4 u5 w5 ⟨p, rfl, k5, hp0, hp1⟩
  simp only [Act.put, List.setIfInBounds_toArray, List.set_cons_zero, List.set_cons_succ, tupAt, List.getD_cons_zero, List.getD_cons_succ]
  have HK5 := hide ((unhide HK).trans k5 (by simp))
  have HG5 := hide (k5.heap (unhide HG) (by simp))
  have HWS := hide (unhide HK).size
  obtain ⟨E, hE⟩ : ∃ E, FrR sec fs = E := ⟨_, rfl⟩
  rw [hE] at hp0 hp1 ⊢
  have HE := hide hE
  clear hE k5
  by_cases h0 : E = 0
  · obtain ⟨d, D, rfl, hd, hn⟩ := hp1 h0
    have HD := hide hd
    have HN := hide (fun x hx => Nat.le_trans (unhide HWS) (hn x hx) : ∀ x ∈ D, w.heap.size ≤ x)
    clear hp0 hp1 hd hn
    subst h0
    rw [show ((0 : Nat) : Int) = 0 from rfl]
    have q2 := cell_of_row _ _ 2 _ _ _ (unhide HG5)
    simp at q2
    go_wp2_with fail
    go_loopw [25] (fun t25 wr => ∃ (i : Nat) (D : List Nat) (nb bb : Nat) (σ : DSt), i ≤ os.length ∧ t25 = .int .i64 i ∧ Hid (DK wr d D nb bb σ) ∧ Hid (σ.sec = sec.toNat) ∧ Hid (Kept [] w wr) ∧ Hid (∀ x ∈ D, w.heap.size ≤ x) ∧ Hid (nb ≤ fs.length + ((os.take i).map opW).sum ∧ bb ≤ 1048576 + 4096 * ((os.take i).map opW).sum)) (fun t _ => os.length - (intOf t).toNat)
    case atStart => exact ⟨0, D, _, _, _, Nat.zero_le _, rfl, HD, hide rfl, HK5, HN, hide ⟨by simp, by simp⟩⟩
    case round =>
      clear HD HN
      obtain ⟨i, D', nb, bb, σ, hi, rfl, HD, HSE, HKW, HN, HBB⟩ := hrel
      have hosb : os.length ≤ 1048576 := by have := unhide HLO; omega
      by_cases hlt : i < os.length
      · have hlt' : (i : Int) < os.length := by omega
        obtain ⟨b, off, rfl, hcc⟩ := unhide H4 (by omega)
        have hr := hcc i (by rw [List.length_map]; exact hlt)
        rw [List.getElem_map] at hr
        have p0 := (unhide HKW).cell (hr 0 _ rfl) (by simp)
        have p1 := (unhide HKW).cell (hr 1 _ rfl) (by simp)
        have p2 := (unhide HKW).cell (hr 2 _ rfl) (by simp)
        have p3 := (unhide HKW).cell (hr 3 _ rfl) (by simp)
        have p4 := (unhide HKW).cell (hr 4 _ rfl) (by simp)
        have p5 := (unhide HKW).cell (hr 5 _ rfl) (by simp)
        have p6 := (unhide HKW).cell (hr 6 _ rfl) (by simp)
        rw [Nat.add_zero] at p0
        have hof := unhide HOO os[i] (List.getElem_mem hlt)
        have HOW := hide (opW_take hlt)
        have HTOT := hide (opW_le (os := os) (i + 1))
        clear hr hcc
        generalize os[i] = X at p0 p1 p2 p3 p4 p5 p6 hof HOW
        have HOF := hide hof
        obtain ⟨pa, pl, pc, hpv⟩ : ∃ a l c, X.pv = .slice a l c := by obtain ⟨a, l, c, h1, _⟩ := hof.p; exact ⟨a, l, c, h1⟩
        obtain ⟨ga, gl, gc, hfv⟩ : ∃ a l c, X.fv = .slice a l c := by obtain ⟨a, l, c, h1, _⟩ := hof.f; exact ⟨a, l, c, h1⟩
        obtain ⟨ka, kl, kc, hkv⟩ : ∃ a l c, X.kv = .slice a l c := by obtain ⟨a, l, c, h1, _⟩ := hof.kk; exact ⟨a, l, c, h1⟩
        rw [hpv] at p2
        rw [hfv] at p3
        rw [hkv] at p6
        clear hof
        go_upto_region 7 with fail
        obtain ⟨V, hV⟩ : ∃ V, wr.alloc (.cells #[.int .i64 X.k, .string X.s, .slice pa pl pc, .slice ga gl gc, .int .i64 X.cr, .int .i64 X.n, .slice ka kl kc] 42 (0, 0)) = V := ⟨_, rfl⟩
        have hkv0 := (Kept.refl [] wr).alloc (.cells #[.int .i64 X.k, .string X.s, .slice pa pl pc, .slice ga gl gc, .int .i64 X.cr, .int .i64 X.n, .slice ka kl kc] 42 (0, 0))
        have hgv0 := heap_alloc_new wr (.cells #[.int .i64 X.k, .string X.s, .slice pa pl pc, .slice ga gl gc, .int .i64 X.cr, .int .i64 X.n, .slice ka kl kc] 42 (0, 0))
        rw [hV] at hkv0 hgv0 ⊢
        have HKV := hide hkv0
        have r0 := cell_of_row _ _ 0 _ _ _ hgv0
        have r1 := cell_of_row _ _ 1 _ _ _ hgv0
        have r2 := cell_of_row _ _ 2 _ _ _ hgv0
        have r3 := cell_of_row _ _ 3 _ _ _ hgv0
        have r4 := cell_of_row _ _ 4 _ _ _ hgv0
        have r5 := cell_of_row _ _ 5 _ _ _ hgv0
        have r6 := cell_of_row _ _ 6 _ _ _ hgv0
        simp at r0 r1 r2 r3 r4 r5 r6
        clear p0 p1 p2 p3 p4 p5 p6 hV hkv0 hgv0
        have HXW := hide (rfl : opW X = X.ps.length + X.fl.length + X.ks.length + 1)
        have hxw : opW X = X.ps.length + X.fl.length + X.ks.length + 1 := rfl
        have hbl : ∀ l : List Nat, (∀ x ∈ l, x < w.heap.size) → ∀ x ∈ l, x ∉ D' := by
          intro l h9 x hx hy
          have := h9 x hx
          have := unhide HN x hy
          omega
        have hcall := call_D d nb bb D' σ X V ((unhide HD).old (unhide HKV)) (okOp_old (okOp_old (unhide HOF) (unhide HKW)) (unhide HKV)) (hbl _ (unhide HOF).p.ltZ) (hbl _ ((unhide HOF).f.ltZ (by intro r hr; obtain ⟨a, _, rfl⟩ := List.mem_map.1 hr; simp [faC]))) (hbl _ ((unhide HOF).kk.ltZ (by intro r hr; obtain ⟨a, _, rfl⟩ := List.mem_map.1 hr; simp [keC]))) (by have := unhide HBB; have := unhide HTOT; have := unhide HLF; have := unhide HOW; omega) (by have := unhide HBB; have := unhide HTOT; have := unhide HOW; omega) (by have := unhide HTOT; have := unhide HOW; omega) (by have := unhide HTOT; have := unhide HOW; omega)
        have hopl : Value.agg (opL X).toArray = .agg #[.int .i64 X.k, .string X.s, .slice pa pl pc, .slice ga gl gc, .int .i64 X.cr, .int .i64 X.n, .slice ka kl kc] := by unfold opL; rw [hpv, hfv, hkv]
        rw [hopl] at hcall
        have HCALL := hide hcall
        have HXW2 := hide hxw
        clear hcall hopl hbl hpv hfv hkv hxw
        go_wp2_with fail
        refine Calls.mono (unhide HCALL) ?_
        rintro e w7 ⟨v7, B7, rfl, hd7, ev7, hn7⟩
        have HD7 := hide hd7
        have HE7 := hide ((((unhide HKW).trans (unhide HKV) (by simp))).ev (unhide HN) ev7)
        have HS7 := hide (by rw [stepD_sec]; exact unhide HSE : (stepD σ X).2.sec = sec.toNat)
        clear hd7 ev7 hn7 HCALL r0 r1 r2 r3 r4 r5 r6
        go_wp2_with fail
        refine ⟨⟨i + 1, B7, _, _, _, by omega, by simp, HD7, HS7, hide (unhide HE7).1, hide (unhide HE7).2, hide ?_⟩, ?_⟩
        · have := unhide HBB
          have := unhide HOW
          have := unhide HXW2
          constructor <;> omega
        · simp [intOf]; omega
      · have hlt' : ¬ (i : Int) < os.length := by omega
        have hie : i = os.length := by omega
        subst hie
        rw [List.take_length] at HBB
        go_wp2_with fail
        go_ret
        exact ⟨_, rfl, unhide HKW, fun h9 => absurd (unhide HE) h9, fun _ => ⟨d, rfl, D', σ, (unhide HD).more (by have := unhide HBB; have := unhide HLF; omega) (by have := unhide HBB; omega), unhide HSE, unhide HN⟩⟩
  · have hp := hp0 h0
    subst hp
    have hb : ((E : Int) != 0) = true := by simp; omega
    clear hp0 hp1
    have H0 := hide h0
    clear h0
    go_wp2_with fail
    go_ret
    exact ⟨_, rfl, unhide HK5, fun _ => rfl, fun h9 => absurd ((unhide HE).symm.trans h9) (unhide H0)⟩
end Go.Proofs.Ytaflchnipcmpoaa
namespace Go.Proofs.Ytaflchnipcmpoaa
open Go.RowKit Go.BigFrame Go.Maps Go.Sort
set_option linter.unusedVariables false
set_option linter.unusedSimpArgs false

theorem RdFl.kept {L : List Nat} {w w' : World} {v : Value} {ts : List (DF × Value)} (h : RdFl w v ts) (k : Kept L w w') (hn : ∀ x ∈ flB v ts, x ∉ L) : RdFl w' v ts :=
  ⟨h.1.kept k (fun x hx => hn x (by simp [flB, hx])), fun t ht => (h.2 t ht).kept k (fun x hx => hn x (by simp only [flB, List.mem_append, List.mem_flatMap]; exact .inr ⟨t, ht, hx⟩))⟩
theorem RdFl.old {w w' : World} {v : Value} {ts : List (DF × Value)} (h : RdFl w v ts) (k : Kept [] w w') : RdFl w' v ts := h.kept k (by simp)

set_option maxRecDepth 100000 in
set_option maxHeartbeats 2000000 in
theorem alike_any (u v : Value) (ts ss : List (DF × Value)) (w : World) (hu : RdFl w u ts) (hv : RdFl w v ss) (he : ts.map Prod.fst = ss.map Prod.fst) (hl : ts.length ≤ 1000000000) :
    Calls Try.prog 30 #[u, v] w fun e w' => e = .returned (.bool true) ∧ Kept [] w w' := by
  obtain ⟨⟨ao, len, cap, rfl, h1, h2, h3, h4⟩, h5⟩ := hu
  obtain ⟨⟨bo, len', cap', rfl, g1, g2, g3, g4⟩, g5⟩ := hv
  rw [List.length_map] at h1 g1
  have hle : ts.length = ss.length := by have := congrArg List.length he; simpa using this
  have hl2 : len = len' := by omega
  subst h1 hl2
  have H4 := hide h4
  have G4 := hide g4
  have H5 := hide h5
  have G5 := hide g5
  have HE := hide he
  have HLE := hide hle
  clear h4 g4 h5 g5 he hle g1
  go_enter Try.func30, Try.ntmps30
  go_wp2_with fail
  go_loopw [13] (fun t13 wr => ∃ k n : Nat, k ≤ ts.length ∧ t13 = .int .i64 k ∧ Hid (wr = w.drewN n)) (fun t _ => ts.length - (intOf t).toNat)
  case atStart => exact ⟨0, 0, Nat.zero_le _, rfl, hide rfl⟩
  case round =>
    obtain ⟨k, n, hk, rfl, HW⟩ := hrel
    by_cases hlt : k < ts.length
    · have hltq : k < ss.length := by have := unhide HLE; omega
      have e3 : (k : Int) < (ts.length : Int) := by omega
      obtain ⟨b, off, rfl, hc⟩ := unhide H4 (by omega)
      obtain ⟨b', off', rfl, hc'⟩ := unhide G4 (by omega)
      have hr := hc k (by rw [List.length_map]; exact hlt)
      have hr' := hc' k (by rw [List.length_map]; exact hltq)
      rw [List.getElem_map] at hr hr'
      have hx : ts[k].1 = ss[k].1 := by
        have h9 := congrArg (fun l => l[k]?) (unhide HE)
        simpa [List.getElem?_eq_getElem hlt, List.getElem?_eq_getElem hltq] using h9
      have hw := unhide HW
      have a0 : wr.cell? ⟨b, off + k * 4, none⟩ = some (.string ts[k].1.nm) := by rw [hw]; exact hr 0 _ rfl
      have a1 : wr.cell? ⟨b, off + k * 4 + 1, none⟩ = some (ts[k].2) := by rw [hw]; exact hr 1 _ rfl
      have a2 : wr.cell? ⟨b, off + k * 4 + 2, none⟩ = some (.int .i64 (ts[k].1.sy : Int)) := by rw [hw]; exact hr 2 _ rfl
      have a3 : wr.cell? ⟨b, off + k * 4 + 3, none⟩ = some (.bool ts[k].1.nd) := by rw [hw]; exact hr 3 _ rfl
      have b0 : wr.cell? ⟨b', off' + k * 4, none⟩ = some (.string ss[k].1.nm) := by rw [hw]; exact hr' 0 _ rfl
      have b1 : wr.cell? ⟨b', off' + k * 4 + 1, none⟩ = some (ss[k].2) := by rw [hw]; exact hr' 1 _ rfl
      have b2 : wr.cell? ⟨b', off' + k * 4 + 2, none⟩ = some (.int .i64 (ss[k].1.sy : Int)) := by rw [hw]; exact hr' 2 _ rfl
      have b3 : wr.cell? ⟨b', off' + k * 4 + 3, none⟩ = some (.bool ss[k].1.nd) := by rw [hw]; exact hr' 3 _ rfl
      have hrd := unhide H5 ts[k] (List.getElem_mem hlt)
      have hrd' := unhide G5 ss[k] (List.getElem_mem hltq)
      rw [← hx] at b0 b2 b3 hrd'
      have HSM := hide (fun j : Nat => by
        have h9 := same_any ts[k].2 ss[k].2 ts[k].1.bs ts[k].1.bs (wr.drewN j) (by rw [hw]; exact (hrd.kept ((Kept.refl [] w).drewN n) (by simp)).kept ((Kept.refl [] _).drewN j) (by simp)) (by rw [hw]; exact (hrd'.kept ((Kept.refl [] w).drewN n) (by simp)).kept ((Kept.refl [] _).drewN j) (by simp))
        rw [decide_eq_true rfl] at h9
        exact h9 : ∀ j : Nat, Calls Try.prog 16 #[ts[k].2, ss[k].2] (wr.drewN j) fun e w' => e = .returned (.bool true) ∧ ∃ n, w' = (wr.drewN j).drewN n)
      clear hr hr' hc hc' hrd hrd' hx hw
      generalize ts[k].2 = x1 at a1 HSM
      generalize ss[k].2 = x2 at b1 HSM
      generalize ts[k].1 = X at a0 a2 a3 b0 b2 b3
      have HH := hide (And.intro h2 g2)
      clear h2 g2 hltq
      go_upto_region 6 with fail
      refine wp_region_quiet_lit (by kernel_rfl) (by kernel_rfl) ?_
      repeat (go_big_quiet_step (exact Calls.mono (unhide HSM _) (fun e x h => ⟨h.1, by obtain ⟨m, hm⟩ := h.2; exact ⟨_, by rw [hm, drewN_drewN]⟩⟩)))
      refine wpQuiet_nil ?_
      rintro _ ⟨n5, rfl⟩
      clear a0 a1 a2 a3 b0 b1 b2 b3
      go_wp2_with fail
      refine ⟨⟨k + 1, n + n5, by omega, by simp, hide (by rw [unhide HW, drewN_drewN])⟩, ?_⟩
      simp [intOf]; omega
    · have e3 : ¬ (k : Int) < (ts.length : Int) := by omega
      go_wp2_with fail
      go_ret
      exact ⟨rfl, by rw [unhide HW]; exact (Kept.refl [] w).drewN n⟩
end Go.Proofs.Ytaflchnipcmpoaa
namespace Go.Proofs.Ytaflchnipcmpoaa
open Go.RowKit Go.BigFrame Go.Maps Go.Sort
set_option linter.unusedVariables false
set_option linter.unusedSimpArgs false

theorem u8_total (a b : List UInt8) : (decide (a ≤ b) || decide (b ≤ a)) = true := by
  rcases List.le_total a b with h | h <;> simp [h]
theorem srtA_pw (A : List DF) : (srtA A).Pairwise fun a b => a.nm.data.toList ≤ b.nm.data.toList := by
  have h := List.pairwise_mergeSort (le := fun a b : DF => decide (a.nm.data.toList ≤ b.nm.data.toList)) (fun a b c h1 h2 => by simp at h1 h2 ⊢; exact List.le_trans h1 h2) (fun a b => u8_total _ _) A
  exact h.imp (fun h9 => by simpa using h9)
/-- A sorted list of files with these members is the sorted list. -/
theorem srtA_unique {A L : List DF} (hd : Dist A) (hp : L.Perm A) (hs : L.Pairwise fun a b => a.nm.data.toList ≤ b.nm.data.toList) : srtA A = L := by
  refine List.Perm.eq_of_pairwise (le := fun a b => a.nm.data.toList ≤ b.nm.data.toList) ?_ (srtA_pw A) hs ((srtA_perm A).trans hp.symm)
  intro a b ha hb h1 h2
  have ha' := srtA_mem.1 ha
  have hb' := hp.mem_iff.1 hb
  have hn := ba_ext (List.le_antisymm h1 h2)
  have e1 := findA_of hd ha'
  have e2 := findA_of hd hb'
  rw [hn, e2] at e1
  exact (Option.some.inj e1).symm
theorem srtA_map {A : List DF} (hd : Dist A) {g : DF → DF} (hg : ∀ x, (g x).nm = x.nm) : srtA (A.map g) = (srtA A).map g := by
  refine srtA_unique ?_ ((srtA_perm A).map g) ?_
  · rw [dist_iff, List.map_map]
    have : (DF.nm ∘ g) = DF.nm := by funext x; exact hg x
    rw [this]
    exact (dist_iff A).1 hd
  · rw [List.pairwise_map]
    exact (srtA_pw A).imp (fun h => by rw [hg, hg]; exact h)
theorem srtA_filter {A : List DF} (hd : Dist A) (p : DF → Bool) : srtA (A.filter p) = (srtA A).filter p := by
  refine srtA_unique (hd.sublist List.filter_sublist) ((srtA_perm A).filter p) ?_
  exact (srtA_pw A).sublist List.filter_sublist
theorem srtA_dist {A : List DF} (hd : Dist A) : Dist (srtA A) := by
  rw [dist_iff]
  exact ((srtA_perm A).map DF.nm).nodup_iff.2 ((dist_iff A).1 hd)
end Go.Proofs.Ytaflchnipcmpoaa
namespace Go.Proofs.Ytaflchnipcmpoaa
open Go.RowKit Go.BigFrame Go.Maps Go.Sort
set_option linter.unusedVariables false
set_option linter.unusedSimpArgs false

theorem Rd.tail {w : World} {b off L cap : Nat} {p : List Nat} (h : Rd w (.slice (some ⟨b, off, none⟩) L cap) p) (n : Nat) (hn : n ≤ p.length) : Rd w (.slice (if cap = n then some ⟨b, off, none⟩ else some ⟨b, off + n, none⟩) (L - n) (cap - n)) (p.drop n) := by
  obtain ⟨ao, len, c, e, h1, h2, ⟨h3, h3'⟩, h4, h5, h6⟩ := h
  cases e
  refine ⟨_, _, _, rfl, by rw [List.length_drop]; omega, by omega, ⟨by omega, by omega⟩, by split <;> simp, fun x hx => h5 x (List.mem_of_mem_drop hx), fun hp => ?_⟩
  obtain ⟨b', off', e2, hc⟩ := h6 (by omega)
  cases e2
  rw [if_neg (by omega)]
  refine ⟨b, off + n, rfl, fun i hi => ?_⟩
  have h9 := hc (n + i) (by omega)
  rw [List.getD_eq_getElem?_getD, List.getElem?_drop, ← List.getD_eq_getElem?_getD, Nat.add_assoc]
  exact h9

set_option maxRecDepth 100000 in
set_option maxHeartbeats 1000000 in
theorem noughts_any (v : Value) (p : List Nat) (w : World) (h : Rd w v p) :
    Calls Try.prog 65 #[v] w fun e w' => e = .returned (.bool (p.all fun x => x == 0)) ∧ w' = w := by
  obtain ⟨ao, len, cap, rfl, h1, h2, ⟨h3, h3'⟩, h4, h5, h6⟩ := h
  subst h1
  have H5 := hide h5
  have H6 := hide h6
  clear h4 h5 h6
  obtain ⟨R, hR⟩ : ∃ R, (p.all fun x => x == 0) = R := ⟨_, rfl⟩
  rw [hR]
  have HR := hide hR
  clear hR
  go_enter Try.func65, Try.ntmps65
  go_wp2_with fail
  go_loopw [7] (fun t7 wr => ∃ k : Nat, k ≤ p.length ∧ t7 = .int .i64 k ∧ Hid (∀ j, j < k → p.getD j 0 = 0) ∧ wr = w) (fun t _ => p.length - (intOf t).toNat)
  case atStart => exact ⟨0, Nat.zero_le _, rfl, hide (fun j h => by omega), rfl⟩
  case round =>
    obtain ⟨k, hk, rfl, HA, rfl⟩ := hrel
    by_cases hlt : k < p.length
    · have e3 : (k : Int) < (p.length : Int) := by omega
      obtain ⟨b, off, rfl, hc⟩ := unhide H6 (by omega)
      have c0 := hc k hlt
      unfold Go.Proofs.Ytaflchnipcmpoaa.u8 at c0
      have hkc : k < cap := by omega
      have hm : p.getD k 0 ∈ p := by rw [List.getD_eq_getElem?_getD, List.getElem?_eq_getElem hlt]; exact List.getElem_mem hlt
      have HB := hide (unhide H5 _ hm)
      have HMM := hide hm
      clear hc hm
      obtain ⟨x, hx⟩ : ∃ x, p.getD k 0 = x := ⟨_, rfl⟩
      rw [hx] at c0 HB HMM
      by_cases h0 : x = 0
      · subst h0
        have HX := hide hx
        clear hx
        go_wp2_with fail
        refine ⟨⟨k + 1, by omega, by simp, hide (fun j hj => ?_), trivial⟩, ?_⟩
        · by_cases hjk : j < k
          · exact unhide HA j hjk
          · have : j = k := by omega
            subst this
            exact unhide HX
        · simp [intOf]; omega
      · have hb : ((x : Int) != 0) = true := by simp; omega
        have H0 := hide h0
        clear hx h0
        go_wp2_with fail
        go_ret
        refine ⟨?_, rfl⟩
        rw [← unhide HR, show (p.all fun x => x == 0) = false by rw [List.all_eq_false]; exact ⟨x, unhide HMM, by simpa using unhide H0⟩]
        rfl
    · have e3 : ¬ (k : Int) < (p.length : Int) := by omega
      have hke : k = p.length := by omega
      have HT := hide (by
        rw [← unhide HR, List.all_eq_true]
        intro x hx
        obtain ⟨j, hj, rfl⟩ := List.getElem_of_mem hx
        have h9 := unhide HA j (by omega)
        rw [List.getD_eq_getElem?_getD, List.getElem?_eq_getElem hj, Option.getD_some] at h9
        simp [h9] : R = true)
      clear hke
      go_wp2_with fail
      go_ret
      exact ⟨by rw [unhide HT]; rfl, rfl⟩

set_option maxRecDepth 100000 in
set_option maxHeartbeats 1000000 in
theorem begins_any (u v : Value) (p q : List Nat) (w : World) (hu : Rd w u p) (hv : Rd w v q) (hl : p.length ≤ q.length) (hp : p = q.take p.length) :
    Calls Try.prog 64 #[u, v] w fun e w' => e = .returned (.bool true) ∧ ∃ n, w' = w.drewN n := by
  have HU := hide hu
  have HV := hide hv
  obtain ⟨ao, len, cap, rfl, h1, h2, ⟨h3, h3'⟩, h4, h5, h6⟩ := hu
  obtain ⟨bo, len', cap', rfl, g1, g2, ⟨g3, g3'⟩, g4, g5, g6⟩ := hv
  subst h1 g1
  have HS := hide (by
    have h9 := same_any (.slice ao p.length cap) (.slice bo p.length cap') p (q.take p.length) w (unhide HU) ((unhide HV).cut hl)
    rw [decide_eq_true hp] at h9
    exact h9)
  have hl2 : (p.length : Int) ≤ q.length := by omega
  have hl3 : (p.length : Int) ≤ cap' := by omega
  clear hp h4 h5 h6 g4 g5 g6
  go_enter Try.func64, Try.ntmps64
  go_wp2_with fail
  refine Calls.mono (unhide HS) ?_
  rintro e w1 ⟨rfl, hn⟩
  have HN := hide hn
  clear hn
  go_wp2_with fail
  go_ret
  exact ⟨rfl, unhide HN⟩
end Go.Proofs.Ytaflchnipcmpoaa
namespace Go.Proofs.Ytaflchnipcmpoaa
open Go.RowKit Go.BigFrame Go.Maps Go.Sort
set_option linter.unusedVariables false
set_option linter.unusedSimpArgs false

/-- What a cut leaves of a file. -/
structure LeftOf (X Y : DF) (sec n0 : Nat) : Prop where
  sy : Y.sy = Y.bs.length
  nd : Y.nd = true
  lo : X.sy ≤ n0
  hi : n0 ≤ X.bs.length
  hy : n0 ≤ Y.bs.length
  pre : X.bs.take n0 = Y.bs.take n0
  zero : ((Y.bs.drop n0).all fun x => x == 0) = true
  len : Y.bs.length - n0 < sec
  md : Y.bs.length - n0 = 0 ∨ Y.bs.length % sec = 0
theorem left_setF (k : KeepD) (sec : Nat) (f : DF) (hs : 1 ≤ sec) (hf : f.sy ≤ f.bs.length) : LeftOf f (setF k sec f) sec (setN k f) := by
  have h1 : f.sy ≤ setN k f := by unfold setN; omega
  have h2 : setN k f ≤ f.bs.length := by unfold setN wtn; omega
  have hl : (f.bs.take (setN k f)).length = setN k f := by rw [List.length_take]; omega
  unfold setF
  split
  · have htl : (f.bs.take (setN k f) ++ List.replicate (tse (setN k f) sec) 0).length = setN k f + tse (setN k f) sec := by rw [List.length_append, hl, List.length_replicate]
    have hts : tse (setN k f) sec < sec := Nat.mod_lt _ (by omega)
    refine ⟨htl.symm, rfl, h1, h2, by dsimp only; rw [htl]; omega, ?_, ?_, by dsimp only; rw [htl]; omega, ?_⟩
    · dsimp only
      rw [List.take_append_of_le_length (by rw [hl]; exact Nat.le_refl _), List.take_take, Nat.min_self]
    · dsimp only
      rw [List.drop_append_of_le_length (by rw [hl]; exact Nat.le_refl _), List.drop_take, Nat.sub_self, List.take_zero, List.nil_append]
      simp
    · right
      dsimp only
      rw [htl]
      unfold tse
      have hm : setN k f % sec < sec := Nat.mod_lt _ (by omega)
      by_cases h0 : setN k f % sec = 0
      · rw [h0, Nat.sub_zero, Nat.mod_self, Nat.add_zero]
        exact h0
      · rw [Nat.mod_eq_of_lt (show sec - setN k f % sec < sec by omega)]
        have h9 := Nat.div_add_mod (setN k f) sec
        have : setN k f + (sec - setN k f % sec) = sec * (setN k f / sec + 1) := by rw [Nat.mul_add]; omega
        rw [this]
        exact Nat.mul_mod_right _ _
  · refine ⟨hl.symm, rfl, h1, h2, by dsimp only; rw [hl]; exact Nat.le_refl _, ?_, ?_, by dsimp only; rw [hl]; omega, .inl (by dsimp only; rw [hl]; omega)⟩
    · dsimp only
      rw [List.take_take, Nat.min_self]
    · dsimp only
      rw [List.drop_take, Nat.sub_self]
      rfl

set_option maxRecDepth 100000 in
set_option maxHeartbeats 4000000 in
theorem left_any (X Y : DF) (xv yv : Value) (sec n0 : Nat) (w : World) (hx : Rd w xv X.bs) (hy : Rd w yv Y.bs) (hyo : yv = .slice none 0 0 ∨ ∃ g c, yv = .slice (some ⟨g, 0, none⟩) Y.bs.length c) (h : LeftOf X Y sec n0) (hs : 1 ≤ sec) (hs2 : sec ≤ 4096) :
    Calls Try.prog 28 #[.agg (dfC (X, xv)).toArray, .agg (dfC (Y, yv)).toArray, .int .i64 sec] w fun e w' => e = .returned (.bool true) ∧ Kept [] w w' := by
  obtain ⟨xa, xl, xc, rfl, x1, x2, ⟨x3, x3'⟩, _⟩ := id hx
  obtain ⟨ya, yl, yc, rfl, y1, y2, ⟨y3, y3'⟩, y4, _⟩ := id hy
  subst x1 y1
  have HYO : Hid (ya = none ∨ ∃ g, ya = some ⟨g, 0, none⟩) := hide (by
    rcases hyo with e | ⟨g, c, e⟩
    · injection e with e1 _ _
      exact .inl e1
    · injection e with e1 _ _
      exact .inr ⟨g, e1⟩)
  have H := hide h
  clear hyo
  have hys := h.sy
  have hyn := h.nd
  have e1 : (dfC (X, .slice xa X.bs.length xc)).toArray = #[.string X.nm, .slice xa X.bs.length xc, .int .i64 (X.sy : Int), .bool X.nd] := rfl
  have e2 : (dfC (Y, .slice ya Y.bs.length yc)).toArray = #[.string Y.nm, .slice ya Y.bs.length yc, .int .i64 (Y.bs.length : Int), .bool true] := by unfold dfC; rw [hys, hyn]
  rw [e1, e2]
  have kA := (Kept.refl [] w).alloc (.cells #[.string X.nm, .slice xa X.bs.length xc, .int .i64 (X.sy : Int), .bool X.nd] 54 (0, 0))
  have gA := heap_alloc_new w (.cells #[.string X.nm, .slice xa X.bs.length xc, .int .i64 (X.sy : Int), .bool X.nd] 54 (0, 0))
  obtain ⟨WA, hWA⟩ : ∃ W, w.alloc (.cells #[.string X.nm, .slice xa X.bs.length xc, .int .i64 (X.sy : Int), .bool X.nd] 54 (0, 0)) = W := ⟨_, rfl⟩
  rw [hWA] at kA gA
  have kB := (Kept.refl [] WA).alloc (.cells #[.string Y.nm, .slice ya Y.bs.length yc, .int .i64 (Y.bs.length : Int), .bool true] 54 (0, 0))
  have gB := heap_alloc_new WA (.cells #[.string Y.nm, .slice ya Y.bs.length yc, .int .i64 (Y.bs.length : Int), .bool true] 54 (0, 0))
  obtain ⟨WB, hWB⟩ : ∃ W, WA.alloc (.cells #[.string Y.nm, .slice ya Y.bs.length yc, .int .i64 (Y.bs.length : Int), .bool true] 54 (0, 0)) = W := ⟨_, rfl⟩
  rw [hWB] at kB gB
  have HWA := hide hWA
  have HWB := hide hWB
  have HK := hide (kA.trans kB (by simp))
  have gA2 := kB.heap gA (by simp)
  have HX := hide (fun j : Nat => ((hx.kept kA (by simp)).kept kB (by simp)).kept ((Kept.refl [] WB).drewN j) (by simp))
  have HY := hide (fun j : Nat => ((hy.kept kA (by simp)).kept kB (by simp)).kept ((Kept.refl [] WB).drewN j) (by simp))
  have a1 := cell_of_row _ _ 1 _ _ _ gA2
  have a2 := cell_of_row _ _ 2 _ _ _ gA2
  have b1 := cell_of_row _ _ 1 _ _ _ gB
  have b2 := cell_of_row _ _ 2 _ _ _ gB
  have b3 := cell_of_row _ _ 3 _ _ _ gB
  simp at a1 a2 b1 b2 b3
  have hlo := h.lo
  have hhi := h.hi
  have hhy := h.hy
  have HBG := hide (fun j : Nat => begins_any (.slice xa X.sy xc) (.slice ya Y.bs.length yc) (X.bs.take X.sy) Y.bs (WB.drewN j) ((unhide HX j).cut (by omega)) (unhide HY j) (by rw [List.length_take]; omega) (by
    rw [List.length_take, Nat.min_eq_left (by omega)]
    have h9 := congrArg (List.take X.sy) h.pre
    rw [List.take_take, List.take_take, Nat.min_eq_left hlo] at h9
    exact h9))
  have hsx : (X.sy : Int) ≤ xc := by omega
  clear hWA hWB kA gA kB gB gA2 hx hy h e1 e2 hys hyn
  go_enter Try.func28, Try.ntmps28
  go_upto_region 1 with (first | (rw [unhide HWA]) | (rw [unhide HWB]) | fail)
  refine wp_region_quiet_lit (by kernel_rfl) (by kernel_rfl) ?_
  repeat (go_big_quiet_step (exact Calls.mono (unhide HBG _) (fun e x h => ⟨h.1, by obtain ⟨m, hm⟩ := h.2; exact ⟨_, by rw [hm, drewN_drewN]⟩⟩)))
  refine wpQuiet_nil ?_
  rintro _ ⟨n1, rfl⟩
  clear HBG hsx
  go_wp2_with fail
  go_loopw [7] (fun t7 wr => ∃ n k : Nat, X.sy ≤ n ∧ n ≤ n0 ∧ t7 = .int .i64 n ∧ Hid (wr = WB.drewN k)) (fun t _ => n0 - (intOf t).toNat)
  case atStart => exact ⟨X.sy, n1, Nat.le_refl _, hlo, rfl, hide rfl⟩
  case round =>
    obtain ⟨n, k, hn1, hn2, rfl, HW⟩ := hrel
    have hw := unhide HW
    have a1' : wr.cell? ⟨w.heap.size, 1, none⟩ = some (.slice xa X.bs.length xc) := by rw [hw]; exact a1
    have b1' : wr.cell? ⟨WA.heap.size, 1, none⟩ = some (.slice ya Y.bs.length yc) := by rw [hw]; exact b1
    have i1 : (n : Int) ≤ X.bs.length := by omega
    have i2 : (n : Int) ≤ Y.bs.length := by omega
    have i3 : (n : Int) ≤ xc := by omega
    have i4 : (n : Int) ≤ yc := by omega
    have i5 : ¬ (n : Int) < 0 := by omega
    have hz : ((sec : Int) == 0) = false := by simp; omega
    obtain ⟨C1, hC1⟩ : ∃ C, decide (X.bs.take n = Y.bs.take n) = C := ⟨_, rfl⟩
    obtain ⟨C2, hC2⟩ : ∃ C, ((Y.bs.drop n).all fun x => x == 0) = C := ⟨_, rfl⟩
    obtain ⟨C5, hC5⟩ : ∃ C, decide (Y.bs.length % sec = 0) = C := ⟨_, rfl⟩
    have hmd : (((Y.bs.length : Int) % (sec : Int)) == 0) = C5 := by
      rw [← hC5, Bool.eq_iff_iff]
      simp
      omega
    have hmt : ((Int.tmod (Y.bs.length : Int) (sec : Int)) == 0) = C5 := by
      rw [show Int.tmod (Y.bs.length : Int) (sec : Int) = (Y.bs.length : Int) % (sec : Int) from rfl]
      exact hmd
    have HSM := hide (fun j : Nat => by
      have h9 := same_any (.slice xa n xc) (.slice ya n yc) (X.bs.take n) (Y.bs.take n) (wr.drewN j) (by rw [hw, drewN_drewN]; exact (unhide HX _).cut (by omega)) (by rw [hw, drewN_drewN]; exact (unhide HY _).cut (by omega))
      rw [hC1] at h9
      exact h9 : ∀ j : Nat, Calls Try.prog 16 #[.slice xa n xc, .slice ya n yc] (wr.drewN j) fun e w' => e = .returned (.bool C1) ∧ ∃ n, w' = (wr.drewN j).drewN n)
    have HC1 := hide hC1
    have HC2 := hide hC2
    have HC5 := hide hC5
    have HFIN := hide (fun (c1 : C1 = true) (c2 : C2 = true) => (True.intro))
    have HN0 := hide (fun (e : n = n0) => by
      have h9 := unhide H
      refine (⟨?_, ?_, ?_, ?_⟩ : C1 = true ∧ C2 = true ∧ Y.bs.length - n < sec ∧ (Y.bs.length - n = 0 ∨ C5 = true))
      · rw [← hC1, e]; exact decide_eq_true h9.pre
      · rw [← hC2, e]; exact h9.zero
      · rw [e]; exact h9.len
      · rw [e, ← hC5]
        rcases h9.md with h8 | h8
        · exact .inl h8
        · exact .inr (decide_eq_true h8) : n = n0 → C1 = true ∧ C2 = true ∧ Y.bs.length - n < sec ∧ (Y.bs.length - n = 0 ∨ C5 = true))
    clear hC1 hC2 hC5 hw a1 a2 b1 b2 b3
    go_upto_region 6 with fail
    rcases unhide HYO with hya | ⟨g, hya⟩
    case' inl =>
      subst hya
      have hyc := y4 rfl
      have HNZ0 := hide (fun j : Nat => by
        have hbs : Y.bs = [] := List.eq_nil_of_length_eq_zero (by omega)
        have h9 := noughts_any (.slice none (Y.bs.length - n) (yc - n)) (Y.bs.drop n) (wr.drewN j) (by rw [hbs]; rw [show ([] : List Nat).length - n = 0 by simp, show yc - n = 0 by omega, List.drop_nil]; exact Rd.nil _)
        rw [unhide HC2] at h9
        exact h9 : ∀ j : Nat, Calls Try.prog 65 #[.slice none (Y.bs.length - n) (yc - n)] (wr.drewN j) fun e w' => e = .returned (.bool C2) ∧ w' = wr.drewN j)
      clear hyc y4
      go_upto_region 7 with fail
      obtain ⟨ra, hra⟩ : ∃ ra : Option Addr, none = ra := ⟨_, rfl⟩
      rw [show Value.slice none (Y.bs.length - n) (yc - n) = Value.slice ra (Y.bs.length - n) (yc - n) by rw [hra]]
      have HNZ := hide (by rw [← hra]; exact unhide HNZ0 : ∀ j : Nat, Calls Try.prog 65 #[.slice ra (Y.bs.length - n) (yc - n)] (wr.drewN j) fun e w' => e = .returned (.bool C2) ∧ w' = wr.drewN j)
      clear hra HNZ0
    case' inr =>
      subst hya
      clear y4
      have HNZ0 := hide (fun j : Nat => by
        have h9 := noughts_any _ (Y.bs.drop n) (wr.drewN j) (by rw [unhide HW, drewN_drewN]; exact (unhide HY _).tail n (by omega))
        rw [unhide HC2] at h9
        exact h9 : ∀ j : Nat, Calls Try.prog 65 #[.slice (if yc = n then some ⟨g, 0, none⟩ else some ⟨g, 0 + n, none⟩) (Y.bs.length - n) (yc - n)] (wr.drewN j) fun e w' => e = .returned (.bool C2) ∧ w' = wr.drewN j)
      rw [Nat.zero_add] at HNZ0
      go_upto_region 7 with fail
      obtain ⟨ra, hra⟩ : ∃ ra : Option Addr, (if yc = n then some ⟨g, 0, none⟩ else some ⟨g, n, none⟩) = ra := ⟨_, rfl⟩
      rw [hra] at HNZ0
      rw [hra]
      have HNZ := hide (unhide HNZ0)
      clear hra HNZ0
    all_goals
      obtain ⟨r, hr⟩ : ∃ r, Y.bs.length - n = r := ⟨_, rfl⟩
      rw [hr] at HNZ HN0 ⊢
      have hrb : r ≤ 9223372036854775807 := by omega
      clear hr
      cases C1
      case false =>
        have hne : n ≠ n0 := fun e => by have h9 := unhide HN0 e; simp at h9
        have HNE := hide hne
        clear hne
        refine wp_region_quiet_lit (by kernel_rfl) (by kernel_rfl) ?_
        repeat (go_big_quiet_step (first | (go_at_call 16; exact Calls.mono (unhide HSM _) (fun e x h => ⟨h.1, by obtain ⟨m, hm⟩ := h.2; exact ⟨_, by rw [hm, drewN_drewN]⟩⟩)) | (go_at_call 65; exact Calls.mono (unhide HNZ _) (fun e x h => ⟨h.1, _, h.2⟩))))
        refine wpQuiet_nil ?_
        rintro _ ⟨n5, rfl⟩
        clear a1' b1' hmd hmt
        go_wp2_with fail
        refine ⟨⟨n + 1, k + n5, by omega, by have := unhide HNE; omega, by simp, hide (by rw [unhide HW, drewN_drewN])⟩, ?_⟩
        have := unhide HNE
        simp [intOf]; omega
      case true =>
        cases C2
        case false =>
          have hne : n ≠ n0 := fun e => by have h9 := unhide HN0 e; simp at h9
          have HNE := hide hne
          clear hne
          refine wp_region_quiet_lit (by kernel_rfl) (by kernel_rfl) ?_
          repeat (go_big_quiet_step (first | (go_at_call 16; exact Calls.mono (unhide HSM _) (fun e x h => ⟨h.1, by obtain ⟨m, hm⟩ := h.2; exact ⟨_, by rw [hm, drewN_drewN]⟩⟩)) | (go_at_call 65; exact Calls.mono (unhide HNZ _) (fun e x h => ⟨h.1, _, h.2⟩))))
          refine wpQuiet_nil ?_
          rintro _ ⟨n5, rfl⟩
          clear a1' b1' hmd hmt
          go_wp2_with fail
          refine ⟨⟨n + 1, k + n5, by omega, by have := unhide HNE; omega, by simp, hide (by rw [unhide HW, drewN_drewN])⟩, ?_⟩
          have := unhide HNE
          simp [intOf]; omega
        case true =>
          by_cases h3 : r < sec
          · have j3 : (r : Int) < (sec : Int) := by omega
            by_cases h4 : r = 0
            · subst h4
              have j0 : (0 : Int) < (sec : Int) := by omega
              have j0' : 0 < sec := by omega
              clear h3 j3
              refine wp_region_quiet_lit (by kernel_rfl) (by kernel_rfl) ?_
              repeat (go_big_quiet_step (first | (go_at_call 16; exact Calls.mono (unhide HSM _) (fun e x h => ⟨h.1, by obtain ⟨m, hm⟩ := h.2; exact ⟨_, by rw [hm, drewN_drewN]⟩⟩)) | (go_at_call 65; exact Calls.mono (unhide HNZ _) (fun e x h => ⟨h.1, _, h.2⟩))))
              refine wpQuiet_nil ?_
              rintro _ ⟨n5, rfl⟩
              clear a1' b1' hmd hmt
              go_wp2_with fail
              go_ret
              exact ⟨rfl, by rw [unhide HW, drewN_drewN]; exact (unhide HK).drewN _⟩
            · have j4 : ((r : Int) == 0) = false := by simp; omega
              cases C5
              case false =>
                have hne : n ≠ n0 := fun e => (unhide HN0 e).2.2.2.elim h4 Bool.false_ne_true
                have HNE := hide hne
                clear hne
                refine wp_region_quiet_lit (by kernel_rfl) (by kernel_rfl) ?_
                repeat (go_big_quiet_step (first | (go_at_call 16; exact Calls.mono (unhide HSM _) (fun e x h => ⟨h.1, by obtain ⟨m, hm⟩ := h.2; exact ⟨_, by rw [hm, drewN_drewN]⟩⟩)) | (go_at_call 65; exact Calls.mono (unhide HNZ _) (fun e x h => ⟨h.1, _, h.2⟩))))
                refine wpQuiet_nil ?_
                rintro _ ⟨n5, rfl⟩
                clear a1' b1' hmd hmt
                go_wp2_with fail
                refine ⟨⟨n + 1, k + n5, by omega, by have := unhide HNE; omega, by simp, hide (by rw [unhide HW, drewN_drewN])⟩, ?_⟩
                have := unhide HNE
                simp [intOf]; omega
              case true =>
                refine wp_region_quiet_lit (by kernel_rfl) (by kernel_rfl) ?_
                repeat (go_big_quiet_step (first | (go_at_call 16; exact Calls.mono (unhide HSM _) (fun e x h => ⟨h.1, by obtain ⟨m, hm⟩ := h.2; exact ⟨_, by rw [hm, drewN_drewN]⟩⟩)) | (go_at_call 65; exact Calls.mono (unhide HNZ _) (fun e x h => ⟨h.1, _, h.2⟩))))
                refine wpQuiet_nil ?_
                rintro _ ⟨n5, rfl⟩
                clear a1' b1' hmd hmt
                go_wp2_with fail
                go_ret
                exact ⟨rfl, by rw [unhide HW, drewN_drewN]; exact (unhide HK).drewN _⟩
          · have j3 : ¬ (r : Int) < (sec : Int) := by omega
            have hne : n ≠ n0 := fun e => by have h9 := unhide HN0 e; omega
            have HNE := hide hne
            clear hne
            refine wp_region_quiet_lit (by kernel_rfl) (by kernel_rfl) ?_
            repeat (go_big_quiet_step (first | (go_at_call 16; exact Calls.mono (unhide HSM _) (fun e x h => ⟨h.1, by obtain ⟨m, hm⟩ := h.2; exact ⟨_, by rw [hm, drewN_drewN]⟩⟩)) | (go_at_call 65; exact Calls.mono (unhide HNZ _) (fun e x h => ⟨h.1, _, h.2⟩))))
            refine wpQuiet_nil ?_
            rintro _ ⟨n5, rfl⟩
            clear a1' b1' hmd hmt
            go_wp2_with fail
            refine ⟨⟨n + 1, k + n5, by omega, by have := unhide HNE; omega, by simp, hide (by rw [unhide HW, drewN_drewN])⟩, ?_⟩
            have := unhide HNE
            simp [intOf]; omega
end Go.Proofs.Ytaflchnipcmpoaa
namespace Go.Proofs.Ytaflchnipcmpoaa
open Go.RowKit Go.BigFrame Go.Maps Go.Sort
set_option linter.unusedVariables false
set_option linter.unusedSimpArgs false

theorem cutN_nd (k : Nat) (A : List DF) : ∀ f ∈ A, f.nd = true → f ∈ cutN k A := by
  induction A generalizing k with
  | nil => simp
  | cons a r ih =>
    intro f hf hn
    unfold cutN
    rcases List.mem_cons.1 hf with rfl | hf
    · rw [if_pos hn]; simp
    · split
      · exact List.mem_cons_of_mem _ (ih k f hf hn)
      · cases k with
        | zero => exact ih 0 f hf hn
        | succ k => exact List.mem_cons_of_mem _ (ih k f hf hn)
theorem cutN_all (k : Nat) (A : List DF) (h : ∀ f ∈ A, f.nd = true) : cutN k A = A := by
  induction A with
  | nil => rfl
  | cons a r ih =>
    unfold cutN
    rw [if_pos (h a (by simp)), ih (fun f hf => h f (by simp [hf]))]
/-- What stays, told by name. -/
def kpt (L : List DF) (f : DF) : Bool := L.any fun x => decide (x.nm = f.nm)
theorem kpt_iff {L : List DF} {f : DF} : kpt L f = true ↔ ∃ x ∈ L, x.nm = f.nm := by unfold kpt; simp
theorem sub_filter {L A : List DF} (h : L.Sublist A) (hd : Dist A) : L = A.filter (kpt L) := by
  induction h with
  | slnil => rfl
  | @cons l₁ l₂ a h ih =>
    have hd2 : Dist l₂ := (List.pairwise_cons.1 hd).2
    have hn : kpt l₁ a = false := by
      rw [Bool.eq_false_iff]
      intro h9
      obtain ⟨x, hx, e⟩ := kpt_iff.1 h9
      exact (List.pairwise_cons.1 hd).1 x (h.subset hx) e.symm
    rw [List.filter_cons_of_neg (by rw [hn]; simp)]
    exact ih hd2
  | @cons_cons l₁ l₂ a h ih =>
    have hd2 : Dist l₂ := (List.pairwise_cons.1 hd).2
    rw [List.filter_cons_of_pos (by rw [kpt_iff]; exact ⟨a, by simp, rfl⟩)]
    congr 1
    have e : l₂.filter (kpt (a :: l₁)) = l₂.filter (kpt l₁) := by
      apply List.filter_congr
      intro x hx
      have hne := (List.pairwise_cons.1 hd).1 x hx
      unfold kpt
      simp [hne]
    rw [e]
    exact ih hd2
theorem setF_nd (k : KeepD) (sec : Nat) (f : DF) : (setF k sec f).nd = true := by unfold setF; split <;> rfl
theorem setF_fix (k : KeepD) (sec : Nat) (f : DF) (h1 : f.sy = f.bs.length) (h2 : f.nd = true) : setF k sec f = f := by
  obtain ⟨nm, bs, sy, nd⟩ := f
  dsimp only at h1 h2
  subst h1 h2
  have hN : setN k ⟨nm, bs, bs.length, true⟩ = bs.length := by unfold setN wtn; dsimp only; omega
  unfold setF
  rw [hN]
  dsimp only
  rw [if_neg (by omega), List.take_length]
/-- The first cut: what is left, in order. -/
theorem leaves_pure (σ : DSt) (hd : Dist σ.A) (hs : 1 ≤ σ.sec) (n : Int) (ks : List KeepD) (hsy : ∀ f ∈ σ.A, f.sy ≤ f.bs.length) :
    ∃ (p : DF → Bool) (g : DF → KeepD), srtA (stRestart σ n ks).A = ((srtA σ.A).filter p).map (fun f => setF (g f) σ.sec f) ∧ (∀ f ∈ srtA σ.A, f.nd = true → p f = true) := by
  let L := cutN (wtn n (unA σ.A)).toNat σ.A
  have hL : L = σ.A.filter (kpt L) := sub_filter (cutN_sub _ _) hd
  refine ⟨kpt L, fun f => (fstK ks f.nm.data.toList).getD zK, ?_, ?_⟩
  · show srtA (setA ks σ.sec L) = _
    unfold setA
    rw [srtA_map (hd.sublist (cutN_sub _ _)) (fun x => setF_nm _ _ x)]
    have e := srtA_filter hd (kpt L)
    rw [← hL] at e
    rw [e]
  · intro f hf hn
    rw [kpt_iff]
    exact ⟨f, cutN_nd _ _ f (srtA_mem.1 hf) hn, rfl⟩
/-- The second cut leaves all as it is. -/
theorem leaves_again (σ : DSt) (n m : Int) (ks ls : List KeepD) (h : ∀ f ∈ (stRestart σ n ks).A, f.sy = f.bs.length) : (stRestart (stRestart σ n ks) m ls).A = (stRestart σ n ks).A := by
  have hnd : ∀ f ∈ (stRestart σ n ks).A, f.nd = true := by
    intro f hf
    obtain ⟨a, _, rfl⟩ := List.mem_map.1 hf
    exact setF_nd _ _ _
  show setA ls σ.sec (cutN _ (stRestart σ n ks).A) = _
  rw [cutN_all _ _ hnd]
  unfold setA
  conv => rhs; rw [← List.map_id (stRestart σ n ks).A]
  apply List.map_congr_left
  intro f hf
  exact setF_fix _ _ _ (h f hf) (hnd f hf)
/-- Where the walk over what was stands in what is. -/
theorem kept_at {W : List DF} {p : DF → Bool} {i : Nat} (hi : i < W.length) (hp : p W[i] = true) : (W.filter p)[((W.take i).filter p).length]? = some W[i] := by
  conv => lhs; arg 1; rw [← List.take_append_drop i W]
  rw [List.filter_append, List.getElem?_append_right (Nat.le_refl _), Nat.sub_self, List.drop_eq_getElem_cons hi, List.filter_cons_of_pos hp]
  rfl
theorem kept_no {W : List DF} {p : DF → Bool} (hd : Dist W) {i j : Nat} (hi : i < W.length) (hp : p W[i] = false) {x : DF} (hx : (W.filter p)[j]? = some x) : x.nm ≠ W[i].nm := by
  intro e
  have hm := List.mem_filter.1 (List.mem_of_getElem? hx)
  have e1 := findA_of hd hm.1
  have e2 := findA_of hd (List.getElem_mem hi)
  rw [e, e2] at e1
  have := Option.some.inj e1
  rw [← this, hp] at hm
  simp at hm
theorem kept_step {W : List DF} {p : DF → Bool} {i : Nat} (hi : i < W.length) : ((W.take (i + 1)).filter p).length = ((W.take i).filter p).length + (if p W[i] then 1 else 0) := by
  rw [List.take_succ_eq_append_getElem hi, List.filter_append, List.length_append]
  by_cases h : p W[i] = true
  · rw [if_pos h, List.filter_cons_of_pos h]; rfl
  · rw [if_neg h, List.filter_cons_of_neg h]; rfl
end Go.Proofs.Ytaflchnipcmpoaa
/-
  Laws for drawn regions, by genreg.py. No program.
-/
namespace Go.Proofs.Ytaflchnipcmpoaa
open Go Go.RowKit Go.BigFrame
set_option linter.unusedVariables false
set_option linter.unusedSimpArgs false
section
variable {P : Program} {Q : Exit → Act → World → Prop}
theorem wp_lv9 {id : Nat} {o0 o1 o2 o3 o4 o5 o6 o7 o8 : Oper} {a : Act} {w : World} (hm : P.follows .mixedOrders = true) (hs : Region.noSelect #[o0, o1, o2, o3, o4, o5, o6, o7, o8] = true)
    (f0 : Region.free .any #[o0, o1, o2, o3, o4, o5, o6, o7, o8] #[false, false, false, false, false, false, false, false, false] 0 = true) (r0 : (Region.ready .any #[o0, o1, o2, o3, o4, o5, o6, o7, o8] #[false, false, false, false, false, false, false, false, false]).contains 0 = true)
    (f1 : Region.free .any #[o0, o1, o2, o3, o4, o5, o6, o7, o8] #[true, false, false, false, false, false, false, false, false] 1 = true) (r1 : (Region.ready .any #[o0, o1, o2, o3, o4, o5, o6, o7, o8] #[true, false, false, false, false, false, false, false, false]).contains 1 = true)
    (f2 : Region.free .any #[o0, o1, o2, o3, o4, o5, o6, o7, o8] #[true, true, false, false, false, false, false, false, false] 2 = true) (r2 : (Region.ready .any #[o0, o1, o2, o3, o4, o5, o6, o7, o8] #[true, true, false, false, false, false, false, false, false]).contains 2 = true)
    (f3 : Region.free .any #[o0, o1, o2, o3, o4, o5, o6, o7, o8] #[true, true, true, false, false, false, false, false, false] 3 = true) (r3 : (Region.ready .any #[o0, o1, o2, o3, o4, o5, o6, o7, o8] #[true, true, true, false, false, false, false, false, false]).contains 3 = true)
    (f4 : Region.free .any #[o0, o1, o2, o3, o4, o5, o6, o7, o8] #[true, true, true, true, false, false, false, false, false] 4 = true) (r4 : (Region.ready .any #[o0, o1, o2, o3, o4, o5, o6, o7, o8] #[true, true, true, true, false, false, false, false, false]).contains 4 = true)
    (f5 : Region.free .any #[o0, o1, o2, o3, o4, o5, o6, o7, o8] #[true, true, true, true, true, false, false, false, false] 5 = true) (r5 : (Region.ready .any #[o0, o1, o2, o3, o4, o5, o6, o7, o8] #[true, true, true, true, true, false, false, false, false]).contains 5 = true)
    (f6 : Region.free .any #[o0, o1, o2, o3, o4, o5, o6, o7, o8] #[true, true, true, true, true, true, false, false, false] 6 = true) (r6 : (Region.ready .any #[o0, o1, o2, o3, o4, o5, o6, o7, o8] #[true, true, true, true, true, true, false, false, false]).contains 6 = true)
    (q_ : Region.ready .any #[o0, o1, o2, o3, o4, o5, o6, o7, o8] #[true, true, true, true, true, true, true, false, false] = [7])
    (f_7_8 : Region.free .any #[o0, o1, o2, o3, o4, o5, o6, o7, o8] #[true, true, true, true, true, true, true, true, false] 8 = true) (r_7_8 : (Region.ready .any #[o0, o1, o2, o3, o4, o5, o6, o7, o8] #[true, true, true, true, true, true, true, true, false]).contains 8 = true)
    (q7_ : Region.ready .any #[o0, o1, o2, o3, o4, o5, o6, o7, o8] #[true, true, true, true, true, true, true, true, true] = [])
    (g7 : o7.guard = none)
    (v0 v1 v2 v3 v4 v5 v6 : Value) (A0 A1 A2 A3 A4 A5 A6 : Act)
    (S : World → Prop)
    (I_ : World → Prop)
    (I7_ : Value → World → Prop)
    (v8 : Value → Value)
    (p0 : a.put o0.dst v0 = A0) (hy0 : YieldsIf P #[o0, o1, o2, o3, o4, o5, o6, o7, o8] S o0 v0 a)
    (p1 : A0.put o1.dst v1 = A1) (hy1 : YieldsIf P #[o0, o1, o2, o3, o4, o5, o6, o7, o8] S o1 v1 A0)
    (p2 : A1.put o2.dst v2 = A2) (hy2 : YieldsIf P #[o0, o1, o2, o3, o4, o5, o6, o7, o8] S o2 v2 A1)
    (p3 : A2.put o3.dst v3 = A3) (hy3 : YieldsIf P #[o0, o1, o2, o3, o4, o5, o6, o7, o8] S o3 v3 A2)
    (p4 : A3.put o4.dst v4 = A4) (hy4 : YieldsIf P #[o0, o1, o2, o3, o4, o5, o6, o7, o8] S o4 v4 A3)
    (p5 : A4.put o5.dst v5 = A5) (hy5 : YieldsIf P #[o0, o1, o2, o3, o4, o5, o6, o7, o8] S o5 v5 A4)
    (p6 : A5.put o6.dst v6 = A6) (hy6 : YieldsIf P #[o0, o1, o2, o3, o4, o5, o6, o7, o8] S o6 v6 A5)
    (i0 : I_ w.drew)
    (hIS : (∀ w', I_  w' → S w') ∧ (∀ (u7 : Value) w', I7_ u7 w' → S w'))
    (s_7 : ∀ w', I_  w' → ∀ K : Act → World → Prop, (∀ (u7 : Value) w2, I7_ u7 w2 → K (A6.put o7.dst u7) w2) → o7.wp P A6 w' K (NoPanic Q))
    (y_7_8 : ∀ (u7 : Value) w', I7_ u7 w' → YieldsIf P #[o0, o1, o2, o3, o4, o5, o6, o7, o8] S o8 (v8 u7) (A6.put o7.dst u7))
    (h : ∀ (u7 : Value) w', I7_ u7 w' → Q .normal ((A6.put o7.dst u7).put o8.dst (v8 u7)) w') :
    (Code.region id #[o0, o1, o2, o3, o4, o5, o6, o7, o8] true).wp P Q a w := by
  subst p0 p1 p2 p3 p4 p5 p6
  obtain ⟨z_, z7_⟩ := hIS
  refine wp_region_noPanic ?_
  refine wp_region_held_drew (S := S) hm (z_ _ i0) (fun hH => ?_)
  show wpAnyH P .any #[o0, o1, o2, o3, o4, o5, o6, o7, o8] (NoPanic Q) S 9 #[false, false, false, false, false, false, false, false, false] a w.drew
  refine wpAnyH_take (i := 0) (oi := o0) rfl hs f0 r0 (fun _ _ _ h => h) hy0 hH ?_
  refine wpAnyH_take (i := 1) (oi := o1) rfl hs f1 r1 (fun _ _ _ h => h) hy1 hH ?_
  refine wpAnyH_take (i := 2) (oi := o2) rfl hs f2 r2 (fun _ _ _ h => h) hy2 hH ?_
  refine wpAnyH_take (i := 3) (oi := o3) rfl hs f3 r3 (fun _ _ _ h => h) hy3 hH ?_
  refine wpAnyH_take (i := 4) (oi := o4) rfl hs f4 r4 (fun _ _ _ h => h) hy4 hH ?_
  refine wpAnyH_take (i := 5) (oi := o5) rfl hs f5 r5 (fun _ _ _ h => h) hy5 hH ?_
  refine wpAnyH_take (i := 6) (oi := o6) rfl hs f6 r6 (fun _ _ _ h => h) hy6 hH ?_
  generalize (((((((a.put o0.dst v0).put o1.dst v1).put o2.dst v2).put o3.dst v3).put o4.dst v4).put o5.dst v5).put o6.dst v6) = B at *
  have wa7 : ∀ y, Region.wanted o7 y = true := fun y => by unfold Region.wanted; rw [g7]
  have t7_ : ∀ (u7 : Value) w', I7_ u7 w' → wpAnyH P .any #[o0, o1, o2, o3, o4, o5, o6, o7, o8] (NoPanic Q) S 0 #[true, true, true, true, true, true, true, true, true] ((B.put o7.dst u7).put o8.dst (v8 u7)) w' := by
    intro u7 w0 i0
    exact ⟨q7_, NoPanic.normal (h u7 w0 i0)⟩
  have t_ : ∀ w', I_  w' → wpAnyH P .any #[o0, o1, o2, o3, o4, o5, o6, o7, o8] (NoPanic Q) S 2 #[true, true, true, true, true, true, true, false, false] B w' := by
    intro w0 i0
    refine wpAnyH_ready (rs := [7]) q_ (by simp) (AllReadyH.cons (o := o7) rfl (fun K hK => ?_) AllReadyH.nil)
    · rw [if_pos (wa7 _)]
      refine s_7  w0 i0 K (fun u7 w1 i1 => hK.out _ _ (z7_ u7 w1 i1) (fun _ => ?_))
      clear hK
      refine wpAnyH_take (i := 8) (oi := o8) rfl hs f_7_8 r_7_8 (fun _ _ _ h => h) (y_7_8 u7 w1 i1) (z7_ u7 w1 i1) ?_
      exact t7_ u7 w1 i1
  exact t_ w.drew i0

end
end Go.Proofs.Ytaflchnipcmpoaa
namespace Go.Proofs.Ytaflchnipcmpoaa
open Go.RowKit Go.BigFrame Go.Maps Go.Sort
set_option linter.unusedVariables false
set_option linter.unusedSimpArgs false
theorem OwnFl.shapeL {B : Nat} {w : World} {v : Value} {ts : List (DF × Value)} (h : OwnFl B w v ts) : ∃ a c, v = .slice a ts.length c ∧ (0 < ts.length → ∃ g, a = some ⟨g, 0, none⟩) := by
  rcases h.own.2 with ⟨rfl, h0⟩ | ⟨g, cap, cur, rfl, _⟩
  · exact ⟨none, 0, by rw [h0], fun h9 => by omega⟩
  · exact ⟨_, cap, rfl, fun _ => ⟨g, rfl⟩⟩
theorem owns_two {w : World} {B : Nat} {v : Value} {n : Nat} {xs : List Value} (h : w.ownsRow B 5 1 v n xs) : v = .slice none 0 0 ∨ ∃ g c, v = .slice (some ⟨g, 0, none⟩) n c := by
  rcases h.2 with ⟨rfl, h0⟩ | ⟨g, cap, cur, rfl, _⟩
  · exact .inl rfl
  · exact .inr ⟨g, cap, rfl⟩
theorem rdFl_at {w : World} {g n c i : Nat} {ts : List (DF × Value)} (h : RdFl w (.slice (some ⟨g, 0, none⟩) n c) ts) (hi : i < ts.length) :
    w.cell? ⟨g, i * 4, none⟩ = some (.string ts[i].1.nm) ∧ w.cell? ⟨g, i * 4 + 1, none⟩ = some ts[i].2 ∧ w.cell? ⟨g, i * 4 + 2, none⟩ = some (.int .i64 (ts[i].1.sy : Int)) ∧ w.cell? ⟨g, i * 4 + 3, none⟩ = some (.bool ts[i].1.nd) := by
  obtain ⟨ao, len, cap, e9, r1, r2, r3, r4⟩ := h.1
  cases e9
  rw [List.length_map] at r1
  obtain ⟨b9, o9, e8, hcc⟩ := r4 (by omega)
  cases e8
  have hr := hcc i (by rw [List.length_map]; exact hi)
  rw [List.getElem_map] at hr
  have p0 := hr 0 _ rfl
  have p1 := hr 1 _ rfl
  have p2 := hr 2 _ rfl
  have p3 := hr 3 _ rfl
  simp only [Nat.zero_add, Nat.add_zero] at p0 p1 p2 p3
  exact ⟨p0, p1, p2, p3⟩
theorem fst_at {ts : List (DF × Value)} {S : List DF} (h : ts.map Prod.fst = S) {i : Nat} (h1 : i < ts.length) (h2 : i < S.length) : ts[i].1 = S[i] := by
  have h9 := congrArg (fun l => l[i]?) h
  simpa [List.getElem?_eq_getElem h1, List.getElem?_eq_getElem h2] using h9
theorem DK.syl {w : World} {d nb bb : Nat} {B : List Nat} {σ : DSt} (h : DK w d B nb bb σ) : ∀ f ∈ σ.A, f.sy ≤ f.bs.length := by
  obtain ⟨m, u, fv, fs, h1, rfl, h3⟩ := h.ex
  rw [h3]
  intro f hf
  obtain ⟨a, ha, rfl⟩ := List.mem_map.1 hf
  exact (h1.files a ha).2.2.2

set_option maxRecDepth 100000 in
set_option maxHeartbeats 8000000 in
theorem diskLeaves_go (sec : Int) (fv ov : Value) (fs : List IFile) (os : List OpD) (n1 : Int) (kv1 : Value) (ks1 : List KeepD) (n2 : Int) (kv2 : Value) (ks2 : List KeepD) (w : World) (hs : Rng sec) (hf : RdC 4 w fv (fs.map ifC)) (hfo : ∀ a ∈ fs, OkIf w a) (ho : RdC 7 w ov (os.map opL)) (hoo : ∀ a ∈ os, OkOp w a) (hw : (fs.map fun f => f.bs.length + 1).sum + (os.map opW).sum + 1 ≤ 1048576) (hn1 : Rng n1) (hk1 : RdC 3 w kv1 (ks1.map keC)) (hk1o : ∀ a ∈ ks1, OkKe a) (hk1l : ks1.length ≤ 1048576) (hn2 : Rng n2) (hk2 : RdC 3 w kv2 (ks2.map keC)) (hk2o : ∀ a ∈ ks2, OkKe a) (hk2l : ks2.length ≤ 1048576) :
    Calls Try.prog 7 #[.agg #[.int .i64 sec, fv, ov], .agg #[.int .i64 n1, kv1], .agg #[.int .i64 n2, kv2]] w fun e w' => e = .returned (.bool true) ∧ Kept [] w w' := by
  obtain ⟨fa, fl, fc, hfv⟩ : ∃ a l c, fv = .slice a l c := by obtain ⟨a, l, c, h1, _⟩ := hf; exact ⟨a, l, c, h1⟩
  obtain ⟨oa, ol, oc, hov⟩ : ∃ a l c, ov = .slice a l c := by obtain ⟨a, l, c, h1, _⟩ := ho; exact ⟨a, l, c, h1⟩
  obtain ⟨ka, kl, kc, hkv⟩ : ∃ a l c, kv1 = .slice a l c := by obtain ⟨a, l, c, h1, _⟩ := hk1; exact ⟨a, l, c, h1⟩
  obtain ⟨la, ll, lc, hlv⟩ : ∃ a l c, kv2 = .slice a l c := by obtain ⟨a, l, c, h1, _⟩ := hk2; exact ⟨a, l, c, h1⟩
  subst hfv hov hkv hlv
  have kA := (Kept.refl [] w).alloc (.cells #[.int .i64 sec, .slice fa fl fc, .slice oa ol oc] 25 (0, 0))
  have gA := heap_alloc_new w (.cells #[.int .i64 sec, .slice fa fl fc, .slice oa ol oc] 25 (0, 0))
  obtain ⟨WA, hWA⟩ : ∃ W, w.alloc (.cells #[.int .i64 sec, .slice fa fl fc, .slice oa ol oc] 25 (0, 0)) = W := ⟨_, rfl⟩
  rw [hWA] at kA gA
  have HWA := hide hWA
  have kB := (Kept.refl [] WA).alloc (.cells #[.int .i64 n1, .slice ka kl kc] 40 (0, 0))
  have gB := heap_alloc_new WA (.cells #[.int .i64 n1, .slice ka kl kc] 40 (0, 0))
  obtain ⟨WB, hWB⟩ : ∃ W, WA.alloc (.cells #[.int .i64 n1, .slice ka kl kc] 40 (0, 0)) = W := ⟨_, rfl⟩
  rw [hWB] at kB gB
  have HWB := hide hWB
  have kC := (Kept.refl [] WB).alloc (.cells #[.int .i64 n2, .slice la ll lc] 40 (0, 0))
  have gC := heap_alloc_new WB (.cells #[.int .i64 n2, .slice la ll lc] 40 (0, 0))
  obtain ⟨WC, hWC⟩ : ∃ W, WB.alloc (.cells #[.int .i64 n2, .slice la ll lc] 40 (0, 0)) = W := ⟨_, rfl⟩
  rw [hWC] at kC gC
  have HWC := hide hWC
  have HK := hide ((kA.trans kB (by simp)).trans kC (by simp))
  have HGA := hide (kC.heap (kB.heap gA (by simp)) (by simp))
  have HGB := hide (kC.heap gB (by simp))
  have HGC := hide gC
  have HRUN := hide (fun X (k9 : Kept [] w X) => play_any sec (.slice fa fl fc) (.slice oa ol oc) fs os X (hf.old k9) (fun a ha => ⟨(hfo a ha).1.kept k9 (by simp), (hfo a ha).2⟩) (ho.old k9) (fun a ha => okOp_old (hoo a ha) k9) hw)
  have HR1 := hide hk1
  have HR2 := hide hk2
  have HO1 := hide (fun a ha => by have := (hk1o a ha).1; omega : ∀ a ∈ ks1, a.nm.size ≤ 140737488355328)
  have HO2 := hide (fun a ha => by have := (hk2o a ha).1; omega : ∀ a ∈ ks2, a.nm.size ≤ 140737488355328)
  clear hWA hWB hWC kA gA kB gB kC gC hf hfo ho hoo hw hk1 hk2 hk1o hk2o
  go_enter Try.func7, Try.ntmps7
  go_wp2_with (first | (rw [unhide HWA]) | (rw [unhide HWB]) | (rw [unhide HWC]) | fail)
  refine Calls.mono (dawake_any _) ?_
  rintro e w1 ⟨rfl, k1⟩
  have HK1 := hide ((unhide HK).trans k1 (by simp))
  have HGA1 := hide (k1.heap (unhide HGA) (by simp))
  have HGB1 := hide (k1.heap (unhide HGB) (by simp))
  have HGC1 := hide (k1.heap (unhide HGC) (by simp))
  have q0 := cell_of_row _ _ 0 _ _ _ (unhide HGA1)
  have q1 := cell_of_row _ _ 1 _ _ _ (unhide HGA1)
  have q2 := cell_of_row _ _ 2 _ _ _ (unhide HGA1)
  simp at q0 q1 q2
  clear k1
  go_wp2_with fail
  refine Calls.mono (unhide HRUN _ (unhide HK1)) ?_
  rintro e w2 ⟨p, rfl, k2, hp0, hp1⟩
  have HK2 := hide k2
  clear k2 q0 q1 q2
  by_cases h0 : FrR sec fs = 0
  · obtain ⟨d, D, σ, rfl, hd, hse, hn⟩ := hp1 h0
    have HD := hide hd
    have HN := hide hn
    have hsb := hd.secb
    obtain ⟨sN, hsN⟩ : ∃ s, σ.sec = s := ⟨_, rfl⟩
    rw [hsN] at hsb hse
    have hsec : sec = (sN : Int) := by omega
    have HSB := hide hsb
    have HSY := hide hd.syl
    have HDI := hide hd.dist
    obtain ⟨q, gk, hS1, hnd⟩ := leaves_pure σ hd.dist (by rw [hsN]; exact hsb.1) n1 ks1 hd.syl
    rw [hsN] at hS1
    have HSN := hide hsN
    have HS1 := hide hS1
    have HND := hide hnd
    clear hp0 hp1 hn h0 hse hd hsb hS1 hnd hsN
    subst hsec
    go_wp2_with fail
    refine Calls.mono (files_D d _ _ D _ _ (unhide HD) (by decide) (by decide)) ?_
    rintro e w3 ⟨v3, ts3, rfl, ho3, ht3, k3⟩
    have HO3 := hide ho3
    have HT3 := hide ht3
    have HD3 := hide ((unhide HD).old k3)
    have HK3 := hide ((unhide HK2).trans k3 (by simp))
    have HF3 := hide (fun x hx hy => by have h8 := (ho3.ge x hx).1; have h9 := (unhide HD).lt x hy; omega : ∀ x ∈ flB v3 ts3, x ∉ D)
    obtain ⟨a3, c3, hv3, hg3⟩ := ho3.shapeL
    subst hv3
    clear ho3 ht3 k3
    have r0 := cell_of_row _ _ 0 _ _ _ ((unhide HK3).heap (unhide HGB1) (by simp))
    have r1 := cell_of_row _ _ 1 _ _ _ ((unhide HK3).heap (unhide HGB1) (by simp))
    simp at r0 r1
    go_wp2_with fail
    refine Calls.mono (restart_D d _ _ D σ n1 (.slice ka kl kc) ks1 _ (unhide HD3) (by decide) (by decide) (((unhide HR1).old (unhide HK1)).old (unhide HK3)) (by intro x hx hy; have h8 := (unhide HR1).ltZ (by intro r hr; obtain ⟨a, _, rfl⟩ := List.mem_map.1 hr; simp [keC]) x hx; have h9 := unhide HN x hy; have h7 := (unhide HK1).size; omega) (unhide HO1) (by omega)) ?_
    rintro e w4 ⟨D4, rfl, hd4, ev4⟩
    have HD4 := hide hd4
    have HK4 := hide ((unhide HK3).ev (unhide HN) ev4)
    have HO4 := hide ((unhide HO3).keptF ev4.1 (unhide HF3))
    have HF4 := hide (fun x hx hy => by
      rcases ev4.2 x hy with h9 | h9
      · exact unhide HF3 x hx h9
      · have := ((unhide HO3).ge x hx).2; omega : ∀ x ∈ flB (.slice a3 ts3.length c3) ts3, x ∉ D4)
    clear hd4 ev4 r0 r1
    go_wp2_with fail
    refine Calls.mono (files_D d _ _ D4 _ _ (unhide HD4) (by decide) (by decide)) ?_
    rintro e w5 ⟨v5, ts5, rfl, ho5, ht5, k5⟩
    have HO5 := hide ho5
    rw [unhide HS1] at ht5
    have HT5 := hide ht5
    have HD5 := hide ((unhide HD4).old k5)
    have HK5 := hide ((unhide HK4).1.trans k5 (by simp))
    have HR3 := hide ((unhide HO4).rd.old k5)
    have HF5 := hide (fun x hx hy => by have h8 := (ho5.ge x hx).1; have h9 := (unhide HD4).lt x hy; omega : ∀ x ∈ flB v5 ts5, x ∉ D4)
    have HR5 := hide ho5.rd
    have HTW := hide (fun t ht => owns_two (ho5.el t ht).1 : ∀ t ∈ ts5, t.2 = .slice none 0 0 ∨ ∃ g c, t.2 = .slice (some ⟨g, 0, none⟩) t.1.bs.length c)
    obtain ⟨a5, c5, hv5, hg5⟩ := ho5.shapeL
    subst hv5
    clear ho5 ht5 k5
    go_wp2_with fail
    refine Calls.mono (off_D d _ _ D4 _ _ (unhide HD5)) ?_
    rintro e w6 ⟨rfl, hw6⟩
    rw [hw6]
    clear hw6 w6
    rw [show (stRestart σ n1 ks1).off = false from rfl]
    go_wp2_with fail
    refine Calls.mono (ops_D d _ _ D4 _ _ (unhide HD5)) ?_
    rintro e w6 ⟨rfl, hw6⟩
    rw [hw6]
    clear hw6 w6
    rw [show (stRestart σ n1 ks1).op = 0 from rfl]
    obtain ⟨SA, hSA⟩ : ∃ SA, srtA σ.A = SA := ⟨_, rfl⟩
    rw [hSA] at HT3 HT5 HND
    obtain ⟨IS, hIS⟩ : ∃ IS, (SA.filter q).map (fun f => setF (gk f) sN f) = IS := ⟨_, rfl⟩
    rw [hIS] at HT5
    have hl3 : ts3.length = SA.length := by have := congrArg List.length (unhide HT3); simpa using this
    have hl5 : ts5.length = IS.length := by have := congrArg List.length (unhide HT5); simpa using this
    have HLB := hide (by rw [← hSA, srtA_len]; exact (unhide HD).len : SA.length ≤ 2097152)
    have HLI := hide (by rw [← hIS, List.length_map]; exact Nat.le_trans (List.length_filter_le _ _) (unhide HLB) : IS.length ≤ 2097152)
    have HDS := hide (by rw [← hSA]; exact srtA_dist (unhide HDI) : Dist SA)
    have HSS := hide (fun f hf => unhide HSY f (srtA_mem.1 (by rw [hSA]; exact hf)) : ∀ f ∈ SA, f.sy ≤ f.bs.length)
    have HIA := hide (by rw [unhide HS1, hSA, hIS] : srtA (stRestart σ n1 ks1).A = IS)
    rw [hl3] at HR3 hg3 ⊢
    rw [hl5] at HR5 hg5 HF5 HO5 ⊢
    have HL3 := hide hl3
    have HL5 := hide hl5
    have HG3 := hide hg3
    have HG5 := hide hg5
    have HIS := hide hIS
    clear hSA hIS hl3 hl5 hg3 hg5
    go_wp2_with fail
    go_loopw [10, 37] (fun t10 t37 wr => ∃ i j : Nat, i ≤ SA.length ∧ j ≤ IS.length ∧ t37 = .int .i64 i ∧ t10 = .int .i64 j ∧ Hid (j = ((SA.take i).filter q).length) ∧ Hid (Kept [] w5 wr)) (fun _ t _ => SA.length - (intOf t).toNat)
    case atStart => exact ⟨0, 0, Nat.zero_le _, Nat.zero_le _, rfl, rfl, hide (by simp), hide (Kept.refl _ _)⟩
    case round =>
      obtain ⟨i, j, hi, hj, rfl, rfl, HJ, HW⟩ := hrel
      have hlb : SA.length ≤ 2097152 := unhide HLB
      have hli : IS.length ≤ 2097152 := unhide HLI
      by_cases hlt : i < SA.length
      · have hlt' : (i : Int) < SA.length := by omega
        have l3 : i < ts3.length := by rw [unhide HL3]; exact hlt
        obtain ⟨g3, rfl⟩ := unhide HG3 (by omega)
        obtain ⟨p0, p1, p2, p3⟩ := rdFl_at (unhide HR3) l3
        have hrd := (unhide HR3).2 ts3[i] (List.getElem_mem l3)
        obtain ⟨xa, xl, xc, hxv, hxl, _⟩ := id hrd
        have x3 := fst_at (unhide HT3) l3 hlt
        have p0 := (unhide HW).cell p0 (by simp)
        have p1 := (unhide HW).cell p1 (by simp)
        have p2 := (unhide HW).cell p2 (by simp)
        have p3 := (unhide HW).cell p3 (by simp)
        rw [hxv] at p1
        rw [x3] at p0 p2 p3 hrd hxl
        rw [hxv] at hrd
        have HRX := hide (hrd.kept (unhide HW) (by simp))
        have HPY := hide (fun (h9 : q SA[i] = true) => by
          have h8 := kept_at hlt h9
          rw [← unhide HJ] at h8
          rw [← unhide HIS, List.getElem?_map, h8]
          rfl : q SA[i] = true → IS[j]? = some (setF (gk SA[i]) sN SA[i]))
        have HPN := hide (fun (h9 : q SA[i] = false) (y : DF) (hy : IS[j]? = some y) => by
          rw [← unhide HIS, List.getElem?_map] at hy
          obtain ⟨x, hx, hxy⟩ := Option.map_eq_some_iff.1 hy
          rw [← hxy, setF_nm]
          exact kept_no (unhide HDS) hlt h9 hx : q SA[i] = false → ∀ y, IS[j]? = some y → y.nm ≠ SA[i].nm)
        have HJ2 := hide (kept_step (p := q) hlt)
        have HXN := hide (unhide HND SA[i] (List.getElem_mem hlt))
        have HXS := hide (unhide HSS SA[i] (List.getElem_mem hlt))
        clear hrd hxv x3
        generalize SA[i] = X at p0 p1 p2 p3 HRX HPY HPN HJ2 HXN HXS hxl
        subst hxl
        rw [← unhide HJ] at HJ2
        go_upto_region 15 with fail
        have HGV := hide (heap_alloc_new wr (.cells #[.string X.nm, .slice xa X.bs.length xc, .int .i64 (X.sy : Int), .bool X.nd] 54 (0, 0)))
        have HKV := hide ((Kept.refl [] wr).alloc (.cells #[.string X.nm, .slice xa X.bs.length xc, .int .i64 (X.sy : Int), .bool X.nd] 54 (0, 0)))
        obtain ⟨V, hV⟩ : ∃ W, wr.alloc (.cells #[.string X.nm, .slice xa X.bs.length xc, .int .i64 (X.sy : Int), .bool X.nd] 54 (0, 0)) = W := ⟨_, rfl⟩
        rw [hV] at HGV HKV ⊢
        have HW2 := hide ((unhide HW).trans (unhide HKV) (by simp))
        have HRX2 := hide ((unhide HRX).kept (unhide HKV) (by simp))
        have z0 := cell_of_row _ _ 0 _ _ _ (unhide HGV)
        have z1 := cell_of_row _ _ 1 _ _ _ (unhide HGV)
        have z2 := cell_of_row _ _ 2 _ _ _ (unhide HGV)
        have z3 := cell_of_row _ _ 3 _ _ _ (unhide HGV)
        simp at z0 z1 z2 z3
        clear hV p0 p1 p2 p3 HRX
        cases hq : q X
        case false =>
          have hnd : X.nd = false := by
            cases h9 : X.nd
            · rfl
            · have := unhide HXN h9; rw [hq] at this; simp at this
          rw [hnd] at z3
          have hj2 : j = ((SA.take (i + 1)).filter q).length := by have h9 := unhide HJ2; rw [hq] at h9; simp at h9; omega
          have HJ3 := hide hj2
          have HPN2 := hide (unhide HPN hq)
          clear hnd hj2 HPY HPN HJ2 HXN hq
          by_cases hjl : j < IS.length
          case' pos =>
            have hjl' : (j : Int) < IS.length := by omega
            have l5 : j < ts5.length := by rw [unhide HL5]; exact hjl
            obtain ⟨g5, rfl⟩ := unhide HG5 (by omega)
            obtain ⟨s0, _, _, _⟩ := rdFl_at (unhide HR5) l5
            have s0 := (unhide HW2).cell s0 (by simp)
            have x5 := fst_at (unhide HT5) l5 hjl
            rw [x5] at s0
            have hne : (IS[j].nm.toList == X.nm.toList) = false := by
              rw [beq_eq_false_iff_ne, ba_toListS, ba_toListS]
              exact fun e => unhide HPN2 IS[j] (List.getElem?_eq_getElem hjl) (ba_ext e)
            clear x5 HPN2
            generalize IS[j].nm = ynm at s0 hne
            refine wp_region_quiet_lit (by kernel_rfl) (by kernel_rfl) ?_
            repeat (go_big_quiet_step (fail))
            refine wpQuiet_nil ?_
            rintro _ ⟨m5, rfl⟩
          case' neg =>
            have hjl' : ¬ (j : Int) < IS.length := by omega
            refine wp_region_quiet_lit (by kernel_rfl) (by kernel_rfl) ?_
            repeat (go_big_quiet_step (fail))
            refine wpQuiet_nil ?_
            rintro _ ⟨m5, rfl⟩
          all_goals
            clear hjl hjl'
            go_wp2_with fail
            refine ⟨⟨i + 1, j, by omega, hj, by simp, rfl, HJ3, hide ((unhide HW2).drewN _)⟩, ?_⟩
            simp [intOf]; omega
        case true =>
          have hy := unhide HPY hq
          obtain ⟨hjl, hy2⟩ := List.getElem?_eq_some_iff.1 hy
          have hjl' : (j : Int) < IS.length := by omega
          have l5 : j < ts5.length := by rw [unhide HL5]; exact hjl
          obtain ⟨g5, rfl⟩ := unhide HG5 (by omega)
          obtain ⟨s0, s1, s2, s3⟩ := rdFl_at (unhide HR5) l5
          have x5 := (fst_at (unhide HT5) l5 hjl).trans hy2
          have HRY := hide (((unhide HR5).2 ts5[j] (List.getElem_mem l5)).kept (unhide HW2) (by simp))
          have HYO := hide (unhide HTW ts5[j] (List.getElem_mem l5))
          have s0 := (unhide HW2).cell s0 (by simp)
          have s1 := (unhide HW2).cell s1 (by simp)
          have s2 := (unhide HW2).cell s2 (by simp)
          have s3 := (unhide HW2).cell s3 (by simp)
          have hj2 : j + 1 = ((SA.take (i + 1)).filter q).length := by have h9 := unhide HJ2; rw [hq] at h9; simp at h9; omega
          have HJ3 := hide hj2
          have HLE := hide (left_setF (gk X) sN X (unhide HSB).1 (unhide HXS))
          have hynm : ts5[j].1.nm = X.nm := by rw [x5, setF_nm]
          rw [← x5] at HLE
          rw [hynm] at s0
          have HYN := hide hynm
          clear hj2 hy hy2 x5 hynm HPY HPN HJ2 HXN HXS hq
          generalize ts5[j] = t5 at s0 s1 s2 s3 HRY HYO HLE HYN
          obtain ⟨Y, yv⟩ := t5
          dsimp only at s0 s1 s2 s3 HRY HYO HLE HYN
          refine wp_region_quiet_lit (by kernel_rfl) (by kernel_rfl) ?_
          repeat (go_big_quiet_step (fail))
          refine wpQuiet_nil ?_
          rintro _ ⟨m5, rfl⟩
          have s0 := ((Kept.refl [] V).drewN m5).cell s0 (by simp)
          have s1 := ((Kept.refl [] V).drewN m5).cell s1 (by simp)
          have s2 := ((Kept.refl [] V).drewN m5).cell s2 (by simp)
          have s3 := ((Kept.refl [] V).drewN m5).cell s3 (by simp)
          have z0 := ((Kept.refl [] V).drewN m5).cell z0 (by simp)
          have z1 := ((Kept.refl [] V).drewN m5).cell z1 (by simp)
          have z2 := ((Kept.refl [] V).drewN m5).cell z2 (by simp)
          have z3 := ((Kept.refl [] V).drewN m5).cell z3 (by simp)
          have HW3 := hide ((unhide HW2).drewN m5)
          have HRX3 := hide ((unhide HRX2).kept ((Kept.refl [] V).drewN m5) (by simp))
          have HRY3 := hide ((unhide HRY).kept ((Kept.refl [] V).drewN m5) (by simp))
          obtain ⟨V2, hV2⟩ : ∃ W, V.drewN m5 = W := ⟨_, rfl⟩
          rw [hV2] at s0 s1 s2 s3 z0 z1 z2 z3 HW3 HRX3 HRY3 ⊢
          have t0 := cell_of_row _ _ 0 _ _ _ (((unhide HK5).trans (unhide HW3) (by simp)).heap (unhide HGA1) (by simp))
          simp at t0
          clear hV2
          go_upto_region 16 with fail
          refine wp_lv9 (by kernel_rfl) (by kernel_rfl) (by kernel_rfl) (by kernel_rfl) (by kernel_rfl) (by kernel_rfl) (by kernel_rfl) (by kernel_rfl) (by kernel_rfl) (by kernel_rfl) (by kernel_rfl) (by kernel_rfl) (by kernel_rfl) (by kernel_rfl) (by kernel_rfl) (by kernel_rfl) (by kernel_rfl) (by kernel_rfl) (by kernel_rfl) (by kernel_rfl) rfl
            (.agg #[.string X.nm, .slice xa X.bs.length xc, .int .i64 (X.sy : Int), .bool X.nd]) (.slice (some ⟨g5, 0, none⟩) IS.length c5) (.int .i64 j) (.pointer (some ⟨g5, j * 4, none⟩)) (.agg #[.string X.nm, yv, .int .i64 (Y.sy : Int), .bool Y.nd]) (.pointer (some ⟨w.heap.size, 0, none⟩)) (.int .i64 (sN : Int)) _ _ _ _ _ _ _
            (fun w' => Kept [] V2 w')
            (fun w' => Kept [] V2 w')
            (fun u7 w' => u7 = .bool true ∧ Kept [] V2 w')
            (fun _ => .bool false)
            (by simp only [Act.put, List.setIfInBounds_toArray, List.set_cons_zero, List.set_cons_succ]; rfl) (by exact Or.inl ⟨by rfl, fun W' hW' => by have h90 := hW'.cell z0 (by simp); have h91 := hW'.cell z1 (by simp); have h92 := hW'.cell z2 (by simp); have h93 := hW'.cell z3 (by simp); go_simp⟩)
            (by simp only [Act.put, List.setIfInBounds_toArray, List.set_cons_zero, List.set_cons_succ]; rfl) (by exact Or.inl ⟨by rfl, fun W' hW' => by go_simp⟩)
            (by simp only [Act.put, List.setIfInBounds_toArray, List.set_cons_zero, List.set_cons_succ]; rfl) (by exact Or.inl ⟨by rfl, fun W' hW' => by go_simp⟩)
            (by simp only [Act.put, List.setIfInBounds_toArray, List.set_cons_zero, List.set_cons_succ]; rfl) (by exact Or.inl ⟨by rfl, fun W' hW' => by go_simp⟩)
            (by simp only [Act.put, List.setIfInBounds_toArray, List.set_cons_zero, List.set_cons_succ]; rfl) (by exact Or.inl ⟨by rfl, fun W' hW' => by have h90 := hW'.cell s0 (by simp); have h91 := hW'.cell s1 (by simp); have h92 := hW'.cell s2 (by simp); have h93 := hW'.cell s3 (by simp); go_simp⟩)
            (by simp only [Act.put, List.setIfInBounds_toArray, List.set_cons_zero, List.set_cons_succ]; rfl) (by exact Or.inl ⟨by rfl, fun W' hW' => by go_simp⟩)
            (by simp only [Act.put, List.setIfInBounds_toArray, List.set_cons_zero, List.set_cons_succ]; rfl) (by exact Or.inl ⟨by rfl, fun W' hW' => by have h90 := hW'.cell t0 (by simp); go_simp⟩)
            (Kept.refl [] V2).drew
            ⟨fun w' h => h, fun u7 w' h => h.2⟩
            (by
              intro w' k K hK
              refine wp_callN rfl Try.call28 [.agg #[.string X.nm, .slice xa X.bs.length xc, .int .i64 (X.sy : Int), .bool X.nd], .agg #[.string X.nm, yv, .int .i64 (Y.sy : Int), .bool Y.nd], .int .i64 (sN : Int)] rfl (by
                have h9 := left_any X Y (.slice xa X.bs.length xc) yv sN _ w' ((unhide HRX3).kept k (by simp)) ((unhide HRY3).kept k (by simp)) (unhide HYO) (unhide HLE) (unhide HSB).1 (unhide HSB).2
                have e9 : (dfC (Y, yv)).toArray = #[.string X.nm, yv, .int .i64 (Y.sy : Int), .bool Y.nd] := by unfold dfC; dsimp only; rw [unhide HYN]
                rw [e9] at h9
                exact h9) ?_
              rintro e w2 ⟨rfl, k2⟩
              exact ⟨_, rfl, hK _ _ ⟨rfl, k.trans k2 (by simp)⟩⟩)
            (by rintro u7 w' ⟨rfl, k⟩; exact Or.inl ⟨by rfl, fun W' hW' => by go_simp⟩)
            ?_
          rintro u7 w9 ⟨rfl, k9⟩
          simp only [Act.put, List.setIfInBounds_toArray, List.set_cons_zero, List.set_cons_succ]
          have HW9 := hide ((unhide HW3).trans k9 (by simp))
          clear k9 s0 s1 s2 s3 z0 z1 z2 z3 t0
          go_wp2_with fail
          refine ⟨⟨i + 1, j + 1, by omega, by omega, by simp, by simp, HJ3, HW9⟩, ?_⟩
          simp [intOf]; omega
      · have hlt' : ¬ (i : Int) < SA.length := by omega
        have hie : i = SA.length := by omega
        subst hie
        have hjl : j = IS.length := by have h9 := unhide HJ; rw [List.take_length] at h9; rw [h9, ← unhide HIS, List.length_map]
        subst hjl
        obtain ⟨R0, hR0⟩ : ∃ R, R = wr := ⟨_, rfl⟩
        subst hR0
        have HKR := hide ((unhide HK5).trans (unhide HW) (by simp))
        have HDR := hide ((unhide HD5).old (unhide HW))
        have r0 := cell_of_row _ _ 0 _ _ _ ((unhide HKR).heap (unhide HGC1) (by simp))
        have r1 := cell_of_row _ _ 1 _ _ _ ((unhide HKR).heap (unhide HGC1) (by simp))
        simp at r0 r1
        go_wp2_with fail
        refine Calls.mono (restart_D d _ _ D4 _ n2 (.slice la ll lc) ks2 _ (unhide HDR) (by decide) (by decide) (((unhide HR2).old (unhide HK1)).old (unhide HKR)) (by intro x hx hy; have h8 := (unhide HR2).ltZ (by intro r hr; obtain ⟨a, _, rfl⟩ := List.mem_map.1 hr; simp [keC]) x hx; have h9 := (unhide HK4).2 x hy; have h7 := (unhide HK1).size; omega) (unhide HO2) (by omega)) ?_
        rintro e w7 ⟨D7, rfl, hd7, ev7⟩
        have HAG := hide (leaves_again σ n1 n2 ks1 ks2 (fun f hf => by
          have h9 : f ∈ IS := by rw [← unhide HIA]; exact srtA_mem.2 hf
          rw [← unhide HIS] at h9
          obtain ⟨a, ha, rfl⟩ := List.mem_map.1 h9
          exact (left_setF (gk a) sN a (unhide HSB).1 (unhide HSS a (List.mem_filter.1 ha).1)).sy))
        have HD7 := hide hd7
        have HK7 := hide ((unhide HKR).ev (unhide HK4).2 ev7)
        have HR7 := hide (((unhide HR5).old (unhide HW)).kept ev7.1 (unhide HF5))
        clear hd7 ev7 r0 r1
        go_wp2_with fail
        refine Calls.mono (files_D d _ _ D7 _ _ (unhide HD7) (by decide) (by decide)) ?_
        rintro e w8 ⟨v8, ts8, rfl, ho8, ht8, k8⟩
        rw [unhide HAG, unhide HIA] at ht8
        have HT8 := hide ht8
        have HR8 := hide ho8.rd
        have HR58 := hide ((unhide HR7).old k8)
        have HK8 := hide ((unhide HK1).trans ((unhide HK7).1.trans k8 (by simp)) (by simp))
        obtain ⟨a8, c8, hv8, hg8⟩ := ho8.shapeL
        have hl8 : ts8.length = IS.length := by have := congrArg List.length ht8; simpa using this
        subst hv8
        rw [hl8] at HR8 hg8 ⊢
        have HL8 := hide hl8
        have HG8 := hide hg8
        clear ho8 ht8 k8 hl8 hg8 HW HJ hi hlt
        go_wp2_with fail
        go_loopw [80] (fun t80 wr => ∃ i k : Nat, i ≤ IS.length ∧ t80 = .int .i64 i ∧ Hid (wr = w8.drewN k)) (fun t _ => IS.length - (intOf t).toNat)
        case atStart => exact ⟨0, 0, Nat.zero_le _, rfl, hide (by simp [World.drewN])⟩
        case round =>
          obtain ⟨i, k, hi, rfl, HW⟩ := hrel
          by_cases hlt : i < IS.length
          · have hlt' : (i : Int) < IS.length := by omega
            have hge : ¬ (IS.length : Int) ≤ i := by omega
            have l5 : i < ts5.length := by rw [unhide HL5]; exact hlt
            have l8 : i < ts8.length := by rw [unhide HL8]; exact hlt
            obtain ⟨g5, rfl⟩ := unhide HG5 (by omega)
            obtain ⟨g8, rfl⟩ := unhide HG8 (by omega)
            have kw : Kept [] w8 wr := by rw [unhide HW]; exact (Kept.refl [] w8).drewN k
            have HKW := hide kw
            obtain ⟨s0, s1, _, _⟩ := rdFl_at (unhide HR58) l5
            obtain ⟨y0, y1, _, _⟩ := rdFl_at (unhide HR8) l8
            have s0 := kw.cell s0 (by simp)
            have s1 := kw.cell s1 (by simp)
            have y0 := kw.cell y0 (by simp)
            have y1 := kw.cell y1 (by simp)
            have x5 := fst_at (unhide HT5) l5 hlt
            have x8 := fst_at (unhide HT8) l8 hlt
            have HSM := hide (fun m : Nat => by
              have h9 := same_any ts8[i].2 ts5[i].2 ts8[i].1.bs ts5[i].1.bs (wr.drewN m) (((unhide HR8).2 ts8[i] (List.getElem_mem l8)).kept ((unhide HKW).trans ((Kept.refl [] wr).drewN m) (by simp)) (by simp)) (((unhide HR58).2 ts5[i] (List.getElem_mem l5)).kept ((unhide HKW).trans ((Kept.refl [] wr).drewN m) (by simp)) (by simp))
              rw [x5, x8, decide_eq_true rfl] at h9
              exact h9 : ∀ m : Nat, Calls Try.prog 16 #[ts8[i].2, ts5[i].2] (wr.drewN m) fun e w' => e = .returned (.bool true) ∧ ∃ n, w' = (wr.drewN m).drewN n)
            rw [x5] at s0
            rw [x8] at y0
            clear kw x5 x8
            generalize ts8[i].2 = yv at y1 HSM
            generalize ts5[i].2 = sv at s1 HSM
            generalize IS[i].nm = ynm at s0 y0
            go_upto_region 29 with fail
            refine wp_region_quiet_lit (by kernel_rfl) (by kernel_rfl) ?_
            repeat (go_big_quiet_step (first | (go_at_call 16; exact Calls.mono (unhide HSM _) (fun e x h => ⟨h.1, by obtain ⟨m, hm⟩ := h.2; exact ⟨_, by rw [hm, drewN_drewN]⟩⟩))))
            refine wpQuiet_nil ?_
            rintro _ ⟨m5, rfl⟩
            clear s0 s1 y0 y1
            go_wp2_with fail
            refine ⟨⟨i + 1, k + m5, by omega, by simp, hide (by rw [unhide HW, drewN_drewN])⟩, ?_⟩
            simp [intOf]; omega
          · have hlt' : ¬ (i : Int) < IS.length := by omega
            go_wp2_with fail
            go_ret
            exact ⟨rfl, by rw [unhide HW]; exact (unhide HK8).drewN _⟩
  · have hp := hp0 h0
    subst hp
    clear hp0 hp1 h0
    go_wp2_with fail
    go_ret
    exact ⟨rfl, (unhide HK1).trans (unhide HK2) (by simp)⟩

theorem diskLeaves_walk (sec : Int) (fv ov : Value) (fs : List IFile) (os : List OpD) (n1 : Int) (kv1 : Value) (ks1 : List KeepD) (n2 : Int) (kv2 : Value) (ks2 : List KeepD) (w : World) (hs : Rng sec) (hf : RdC 4 w fv (fs.map ifC)) (hfo : ∀ a ∈ fs, OkIf w a) (ho : RdC 7 w ov (os.map opL)) (hoo : ∀ a ∈ os, OkOp w a) (hw : (fs.map fun f => f.bs.length + 1).sum + (os.map opW).sum + 1 ≤ 1048576) (hn1 : Rng n1) (hk1 : RdC 3 w kv1 (ks1.map keC)) (hk1o : ∀ a ∈ ks1, OkKe a) (hk1l : ks1.length ≤ 1048576) (hn2 : Rng n2) (hk2 : RdC 3 w kv2 (ks2.map keC)) (hk2o : ∀ a ∈ ks2, OkKe a) (hk2l : ks2.length ≤ 1048576) :
    Calls Try.prog 7 #[.agg #[.int .i64 sec, fv, ov], .agg #[.int .i64 n1, kv1], .agg #[.int .i64 n2, kv2]] w fun e w' => e = .returned (.bool true) ∧ Below w.heap.size w w' :=
  (diskLeaves_go sec fv ov fs os n1 kv1 ks1 n2 kv2 ks2 w hs hf hfo ho hoo hw hn1 hk1 hk1o hk1l hn2 hk2 hk2o hk2l).mono fun e w' h9 => ⟨h9.1, h9.2.below (Nat.le_refl _) (by simp)⟩
end Go.Proofs.Ytaflchnipcmpoaa
