import Derived.Test.YtjbmafjnbncbpaaFScan
import Derived.Test.YtjbmafjnbncbpaaFNxO
import Derived.Test.YtjbmafjnbncbpaaFOwn
namespace Go.Proofs.Ytjbmafjnbncbpaa
open Go.RowKit Go.BigFrame
set_option linter.unusedVariables false
set_option linter.unusedSimpArgs false

/-- Frames that are owned, each payload a row of its own. -/
structure OwnS (w0 w : World) (v : Value) (ts : List (Nat × Value × List Nat)) : Prop where
  f : OwnF w0 w v ts
  own : ∀ t ∈ ts, w.ownsRow w0.heap.size 5 1 t.2.1 t.2.2.length (t.2.2.map u8)
  ap : ts.Pairwise fun s t => ∀ b, s.2.1.ownBlock = some b → t.2.1.ownBlock ≠ some b
theorem OwnS.pass {w0 w w' : World} {v : Value} {ts : List (Nat × Value × List Nat)} (h : OwnS w0 w v ts) (k : Kept [] w w') : OwnS w0 w' v ts :=
  ⟨h.f.pass k, fun t ht => k.owns (h.own t ht) (by simp), h.ap⟩
theorem OwnS.push {w0 w W : World} {v : Value} {ts : List (Nat × Value × List Nat)} (h : OwnS w0 w v ts) {pl : Nat} {y : Value} {pay : List Nat} (hy : Rd w y pay) (hn : ∀ b ∈ blk y, v.ownBlock ≠ some b ∧ b < w.heap.size)
    (ho : w.ownsRow w0.heap.size 5 1 y pay.length (pay.map u8)) (hnew : ∀ t ∈ ts, ∀ b, t.2.1.ownBlock = some b → y.ownBlock ≠ some b) {g cap : Nat}
    (o : W.ownsRow w0.heap.size 40 2 (.slice (some ⟨g, 0, none⟩) (ts.length + 1) cap) (ts.length + 1) (cellsF ts ++ [.int .u64 (pl : Int), y])) (gr : w.grownBy W v.ownBlock) (hg : v.ownBlock = some g ∨ g = w.heap.size) :
    OwnS w0 W (.slice (some ⟨g, 0, none⟩) (ts.length + 1) cap) (ts ++ [(pl, y, pay)]) := by
  have kW : Kept v.ownBlock.toList w W := ((Kept.refl _ w)).grown gr (by intro k hk; left; simp [hk])
  refine ⟨h.f.push hy hn o gr hg, fun t ht => ?_, ?_⟩
  · rcases List.mem_append.1 ht with ht | ht
    · exact kW.owns (h.own t ht) (fun b hb hm => owns_ne (h.own t ht) h.f.own (by decide) b hb (by simpa using hm))
    · rw [List.mem_singleton] at ht; subst ht
      exact kW.owns ho (fun b hb hm => owns_ne ho h.f.own (by decide) b hb (by simpa using hm))
  · rw [List.pairwise_append]
    exact ⟨h.ap, List.pairwise_singleton _ _, fun s hs t ht => by rw [List.mem_singleton] at ht; subst ht; exact hnew s hs⟩

set_option maxRecDepth 100000 in
set_option maxHeartbeats 2000000 in
theorem scan_own (v : Value) (p : List Nat) (w : World) (h : Rd w v p) (hl : p.length ≤ 1000000000) :
    Calls Try.prog 23 #[v] w fun e w' => ∃ v' ts, e = .returned (.tuple #[v', .int .i64 (scanF p).2]) ∧ OwnS w w' v' ts ∧ ts.map (fun t => (t.1, t.2.2)) = (scanF p).1 := by
  have H := hide h
  obtain ⟨a1, n1, c1, rfl, hn1, hc1, ⟨hc2, hc3⟩, _⟩ := id h
  subst hn1
  clear h
  go_enter Try.func23, Try.ntmps23
  go_wp2_with fail
  go_loopw [4, 5] (fun t4 t5 wr => ∃ (n f : Nat) (ts : List (Nat × Value × List Nat)), t5 = .int .i64 n ∧ n ≤ p.length ∧ Hid (p.length ≤ n + f ∧ ts.length ≤ n) ∧ Hid (scanF p = (ts.map (fun t => (t.1, t.2.2)) ++ (scanL f p n).1, (scanL f p n).2)) ∧ Hid (OwnS w wr t4 ts)) (fun _ t _ => p.length - (intOf t).toNat)
  case atStart => exact ⟨0, p.length, [], rfl, Nat.zero_le _, hide ⟨by omega, by simp⟩, hide (by simp [scanF]), hide ⟨⟨World.ownsRow_nil _ _ _ _, by simp, by simp, by simp, Kept.refl _ _⟩, by simp, List.Pairwise.nil⟩⟩
  case round =>
    obtain ⟨n, f, ts, rfl, hn, HN, HS, HO⟩ := hrel
    go_wp2_with fail
    refine Calls.mono (next_own _ p n wr ((unhide H).old (unhide HO).f.kept (by simp)) (by omega)) ?_
    rintro e w1 ⟨v1, rfl, n1, k1⟩
    have HN1 := hide n1
    have HO1 := hide ((unhide HO).pass k1)
    clear n1
    have hsz1 := k1.size
    rcases nextF_cases p n (unhide H).byte with ⟨hz1, hN⟩ | ⟨hz1, hN⟩ | ⟨m, pl, pay, hzn, hN, b1, b2, b3, b4, b5, b6, b7⟩
    · rw [hN] at HN1 ⊢
      simp only at HN1 ⊢
      obtain ⟨a5, m5, c5, rfl, hm5, _⟩ := id (unhide HN1).1
      have HE := hide (scanL_none (f := f) (n := n) (p := p) (firstF_short (by rw [List.length_drop]; omega)))
      clear k1
      go_wp2
      go_ret2
      have hs := unhide HS
      rw [unhide HE] at hs
      exact ⟨u4, ts, by rw [hs]; rfl, (unhide HO1).pass ((Kept.refl [] w1).alloc _), by rw [hs, List.append_nil]⟩
    · have HE := hide (scanL_none (f := f) (n := n) (p := p) (nextF_two (by omega) hN))
      rw [hN] at HN1 ⊢
      simp only at HN1 ⊢
      obtain ⟨a5, m5, c5, rfl, hm5, _⟩ := id (unhide HN1).1
      clear k1
      go_wp2
      go_ret2
      have hs := unhide HS
      rw [unhide HE] at hs
      exact ⟨u4, ts, by rw [hs]; rfl, (unhide HO1).pass ((Kept.refl [] w1).alloc _), by rw [hs, List.append_nil]⟩
    · obtain rfl : n = m := by omega
      have HE := hide (fun f => scanL_some (f := f) b7)
      rw [hN] at HN1 ⊢
      simp only at HN1 ⊢
      obtain ⟨a5, m5, c5, rfl, hm5, _, _, _, _, hcl⟩ := id (unhide HN1).1
      subst hm5
      obtain ⟨b', off', e', hcl'⟩ := hcl (by omega)
      subst e'
      have HBL := hide (block_lt_of_cell (hcl' 0 (by omega)))
      obtain ⟨f', rfl⟩ : ∃ f', f = f' + 1 := ⟨f - 1, by have := (unhide HN).1; omega⟩
      have HOW := hide (fun k hk => ((unhide HO).f.own.lt k hk).2 : ∀ k, u4.ownBlock = some k → k < wr.heap.size)
      have HO2 := hide (((unhide HO1).pass ((Kept.refl [] w1).alloc (.cells #[.int .u64 (pl : Int), .slice (some ⟨b', off', none⟩) pay.length c5] 40))).pass ((Kept.refl [] _).alloc (.cells #[.int .u64 (pl : Int), .slice (some ⟨b', off', none⟩) pay.length c5] 40)))
      have HR2 := hide ((unhide HN1).1.old (((Kept.refl [] w1).alloc (.cells #[.int .u64 (pl : Int), .slice (some ⟨b', off', none⟩) pay.length c5] 40)).alloc (.cells #[.int .u64 (pl : Int), .slice (some ⟨b', off', none⟩) pay.length c5] 40)) (by simp))
      have HOY := hide (owns_base ((((Kept.refl [] w1).alloc (.cells #[.int .u64 (pl : Int), .slice (some ⟨b', off', none⟩) pay.length c5] 40)).alloc (.cells #[.int .u64 (pl : Int), .slice (some ⟨b', off', none⟩) pay.length c5] 40)).owns (unhide HN1).2.2 (by simp)) (unhide HO).f.kept.size)
      have HNY := hide (fun t ht b hb e => by
        have h1 := ((unhide HO).own t ht).lt b hb
        have h2 := ((unhide HN1).2.2.lt b e).1
        omega : ∀ t ∈ ts, ∀ b, t.2.1.ownBlock = some b → (Value.slice (some ⟨b', off', none⟩) pay.length c5).ownBlock ≠ some b)
      clear k1 hN hcl hcl'
      go_wp2_with (at_builtin; refine wpList_pushF rfl (.tmp 20) (.tmp 22) rfl rfl _ w.heap.size u4 ts pl (.slice (some ⟨b', off', none⟩) pay.length c5) (w1.heap.size + 1) (unhide HO2).f.own (heap_alloc2_new _ _ _) rfl (by have := (unhide HN).2; omega) (by have := (unhide HO2).f.kept.size; omega) rfl rfl ?_; intro g cap w2 HO3 HG3 HA3)
      refine ⟨⟨n + 18 + pay.length, f', ts ++ [(pl, .slice (some ⟨b', off', none⟩) pay.length c5, pay)], by simp, b5, hide ⟨by have := (unhide HN).1; omega, by have := (unhide HN).2; rw [List.length_append]; simp; omega⟩, hide ?_, hide ?_⟩, ?_⟩
      · rw [unhide HS, unhide HE f']
        simp
      · refine (unhide HO2).push (unhide HR2) ?_ (unhide HOY) (unhide HNY) (unhide HO3) (unhide HG3) (unhide HA3)
        intro b hb
        simp only [blk, List.mem_singleton] at hb
        subst hb
        have h7 := (unhide HN1).2.1 b (by simp [blk])
        have h8 := unhide HBL
        simp only at h8
        refine ⟨fun e => by have := unhide HOW _ e; omega, ?_⟩
        simp; omega
      · simp [intOf]; omega
end Go.Proofs.Ytjbmafjnbncbpaa
