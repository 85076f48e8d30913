import Derived.Test.YtialndpejechbaaQOne
namespace Go.Proofs.Ytialndpejechbaa
open Go.RowKit Go.MuLone Go.BigFrame
set_option linter.unusedVariables false
set_option linter.unusedSimpArgs false

/-- What a call answers, of a queue and the document's. -/
def OneP (w w' : World) (q p : Nat) (pl : Int) (vq vp : Value) (xs : List Int) (cl : Bool) : Prop :=
  ∃ vq' vp', Two w' q p pl vq' (xs.map iv) cl vp' (xs.map iv) cl ∧ Kept (q :: p :: (blk vq ++ blk vp)) w w' ∧ ∀ b, b ∈ blk vq' ∨ b ∈ blk vp' → b ∈ blk vq ∨ b ∈ blk vp ∨ w.heap.size ≤ b

set_option maxRecDepth 100000 in
set_option maxHeartbeats 4000000 in
theorem one_put_shut (x : Int) (xs : List Value) (w : World) (q p : Nat) (pl : Int) (vq vp : Value) (h : Two w q p pl vq (xs) true vp (xs) true) (hp : 1 ≤ pl ∧ pl ≤ 64) (hl : (xs).length ≤ 1000000000000) :
    Calls Try.prog 11 #[.pointer (some ⟨q, 0, none⟩), .pointer (some ⟨p, 0, none⟩), .agg #[.int .i64 1, .int .i64 x]] w fun e w' => e = .returned (.bool true) ∧ ∃ vq' vp', Two w' q p pl vq' (xs) true vp' (xs) true ∧ Kept (q :: p :: (blk vq ++ blk vp)) w w' ∧ ∀ b, b ∈ blk vq' ∨ b ∈ blk vp' → b ∈ blk vq ∨ b ∈ blk vp ∨ w.heap.size ≤ b := by
  have HT := hide (h.pass ((Kept.refl [] w).alloc (.cells #[.int .i64 1, .int .i64 x] 32)) (by simp))
  have HK := hide ((Kept.refl (q :: p :: (blk vq ++ blk vp)) w).alloc (.cells #[.int .i64 1, .int .i64 x] 32))
  have HB := hide (fun b (hb : b ∈ blk vq ∨ b ∈ blk vp) => (by rcases hb with hb | hb; exact .inl hb; exact .inr (.inl hb) : b ∈ blk vq ∨ b ∈ blk vp ∨ w.heap.size ≤ b))
  have hsz : w.heap.size ≤ (w.alloc (.cells #[.int .i64 1, .int .i64 x] 32)).heap.size := by simp
  have HO := hide (heap_alloc_new w (.cells #[.int .i64 1, .int .i64 x] 32))
  have hqo := lt_of_block h.qa.row
  have HOq := hide (fun (hb : w.heap.size ∈ q :: blk vq) => (by rcases List.mem_cons.1 hb with e | e; omega; exact Nat.lt_irrefl _ (h.qa.vals.lt _ e) : False))
  have hn : xs.length ≤ 1000000000001 := by omega
  clear h
  go_enter Try.func11, Try.ntmps11
  go_wp2_with (first
      | (go_at_call 19; refine (putI_shut q _ pl x _ _ (unhide HT).qa hp.1).mono ?_; rintro e w1 ⟨rfl, h1, h2⟩; replace HO := hide (h2.heap (unhide HO) (fun hm => unhide HOq (by simp at hm ⊢; exact .inl hm))); have co := cell_of_row _ _ 1 _ _ _ (unhide HO); simp at co; replace HT := hide ((unhide HT).goQ (h2.mono (by simp)) h1 (fun b hb => .inl hb)); replace HK := hide ((unhide HK).trans h2 (by simp)); clear h1 h2)
      | (go_at_call 31; refine (putR_shut p _ pl x _ _ (unhide HT).ra).mono ?_; rintro e w1 ⟨rfl, h2⟩; replace HT := hide ((unhide HT).pass h2 (by simp)); replace HK := hide ((unhide HK).trans h2 (by simp)); clear h2)
      | (go_at_call 23; refine (lenT (unhide HT) hp.1 hn).mono ?_; rintro e w1 ⟨rfl, ht, hk⟩; replace HT := hide ht; replace HK := hide ((unhide HK).trans hk (by simp)))
      | (go_at_call 24; refine (lineT (unhide HT) hp.1 hn).mono ?_; rintro e w1 ⟨rfl, ht, hk⟩; replace HT := hide ht; replace HK := hide ((unhide HK).trans hk (by simp)))
      | (go_at_call 26; refine (closedT (unhide HT) hp.1).mono ?_; rintro e w1 ⟨rfl, ht, hk⟩; replace HT := hide ht; replace HK := hide ((unhide HK).trans hk (by simp)))
      | (go_at_call 34; refine (lenU (unhide HT) hn).mono ?_; rintro e w1 ⟨rfl, ht, hk⟩; replace HT := hide ht; replace HK := hide ((unhide HK).trans hk (by simp)))
      | (go_at_call 35; refine (lineU (unhide HT) hn hp).mono ?_; rintro e w1 ⟨rfl, ht, hk⟩; replace HT := hide ht; replace HK := hide ((unhide HK).trans hk (by simp)))
      | (go_at_call 36; refine (closedU (unhide HT)).mono ?_; rintro e w1 ⟨rfl, ht, hk⟩; replace HT := hide ht; replace HK := hide ((unhide HK).trans hk (by simp))))
  all_goals go_ret
  all_goals exact ⟨rfl, _, _, unhide HT, unhide HK, unhide HB⟩

set_option maxRecDepth 100000 in
set_option maxHeartbeats 4000000 in
theorem one_put_open (x : Int) (xs : List Value) (w : World) (q p : Nat) (pl : Int) (vq vp : Value) (h : Two w q p pl vq (xs) false vp (xs) false) (hp : 1 ≤ pl ∧ pl ≤ 64) (hl : (xs).length ≤ 1000000000000) :
    Calls Try.prog 11 #[.pointer (some ⟨q, 0, none⟩), .pointer (some ⟨p, 0, none⟩), .agg #[.int .i64 1, .int .i64 x]] w fun e w' => e = .returned (.bool true) ∧ ∃ vq' vp', Two w' q p pl vq' (xs ++ [.int .i64 x]) false vp' (xs ++ [.int .i64 x]) false ∧ Kept (q :: p :: (blk vq ++ blk vp)) w w' ∧ ∀ b, b ∈ blk vq' ∨ b ∈ blk vp' → b ∈ blk vq ∨ b ∈ blk vp ∨ w.heap.size ≤ b := by
  have HT := hide (h.pass ((Kept.refl [] w).alloc (.cells #[.int .i64 1, .int .i64 x] 32)) (by simp))
  have HK := hide ((Kept.refl (q :: p :: (blk vq ++ blk vp)) w).alloc (.cells #[.int .i64 1, .int .i64 x] 32))
  have HB := hide (fun b (hb : b ∈ blk vq ∨ b ∈ blk vp) => (by rcases hb with hb | hb; exact .inl hb; exact .inr (.inl hb) : b ∈ blk vq ∨ b ∈ blk vp ∨ w.heap.size ≤ b))
  have hsz : w.heap.size ≤ (w.alloc (.cells #[.int .i64 1, .int .i64 x] 32)).heap.size := by simp
  have HO := hide (heap_alloc_new w (.cells #[.int .i64 1, .int .i64 x] 32))
  have hqo := lt_of_block h.qa.row
  have HOq := hide (fun (hb : w.heap.size ∈ q :: blk vq) => (by rcases List.mem_cons.1 hb with e | e; omega; exact Nat.lt_irrefl _ (h.qa.vals.lt _ e) : False))
  have hn : (xs ++ [Value.int .i64 x]).length ≤ 1000000000001 := by simp; omega
  have HKq := hide (fun b (hb : b ∈ q :: blk vq) => (by simp at hb ⊢; rcases hb with rfl | hb; exact .inl rfl; exact .inr (.inr (.inl hb)) : b ∈ q :: p :: (blk vq ++ blk vp)))
  have HKp := hide (fun b (hb : b ∈ p :: blk vp) => (by simp at hb ⊢; rcases hb with rfl | hb; exact .inr (.inl rfl); exact .inr (.inr (.inr hb)) : b ∈ q :: p :: (blk vq ++ blk vp)))
  clear h
  go_enter Try.func11, Try.ntmps11
  go_wp2_with (first
      | (go_at_call 19; refine (putI_open q _ pl x _ _ (unhide HT).qa hp.1 hl).mono ?_; rintro e w1 ⟨rfl, vq2, h1, h2, h3⟩; replace HO := hide (h2.heap (unhide HO) (unhide HOq)); have co := cell_of_row _ _ 1 _ _ _ (unhide HO); simp at co; replace HB := hide (fun b (hb : b ∈ blk vq2 ∨ b ∈ blk vp) => (by rcases hb with hb | hb; exact (h3 b hb).elim .inl (fun h => .inr (.inr (Nat.le_trans hsz h))); exact .inr (.inl hb) : b ∈ blk vq ∨ b ∈ blk vp ∨ w.heap.size ≤ b)); replace HT := hide ((unhide HT).goQ h2 h1 h3); replace HK := hide ((unhide HK).trans h2 (fun b hb => .inl (unhide HKq b hb))); clear h1 h2 h3)
      | (go_at_call 31; refine (putR_open p _ pl x _ _ (unhide HT).ra hl).mono ?_; rintro e w1 ⟨rfl, vp2, h1, h2, h3⟩; replace HB := hide (fun b (hb : b ∈ blk _ ∨ b ∈ blk vp2) => (by rcases hb with hb | hb; exact unhide HB b (.inl hb); exact (h3 b hb).elim (fun h => .inr (.inl h)) (fun h => .inr (.inr (Nat.le_trans (unhide HK).size h))) : b ∈ blk vq ∨ b ∈ blk vp ∨ w.heap.size ≤ b)); replace HT := hide ((unhide HT).goR h2 h1 h3); replace HK := hide ((unhide HK).trans h2 (fun b hb => .inl (unhide HKp b hb))); clear h1 h2 h3)
      | (go_at_call 23; refine (lenT (unhide HT) hp.1 hn).mono ?_; rintro e w1 ⟨rfl, ht, hk⟩; replace HT := hide ht; replace HK := hide ((unhide HK).trans hk (by simp)))
      | (go_at_call 24; refine (lineT (unhide HT) hp.1 hn).mono ?_; rintro e w1 ⟨rfl, ht, hk⟩; replace HT := hide ht; replace HK := hide ((unhide HK).trans hk (by simp)))
      | (go_at_call 26; refine (closedT (unhide HT) hp.1).mono ?_; rintro e w1 ⟨rfl, ht, hk⟩; replace HT := hide ht; replace HK := hide ((unhide HK).trans hk (by simp)))
      | (go_at_call 34; refine (lenU (unhide HT) hn).mono ?_; rintro e w1 ⟨rfl, ht, hk⟩; replace HT := hide ht; replace HK := hide ((unhide HK).trans hk (by simp)))
      | (go_at_call 35; refine (lineU (unhide HT) hn hp).mono ?_; rintro e w1 ⟨rfl, ht, hk⟩; replace HT := hide ht; replace HK := hide ((unhide HK).trans hk (by simp)))
      | (go_at_call 36; refine (closedU (unhide HT)).mono ?_; rintro e w1 ⟨rfl, ht, hk⟩; replace HT := hide ht; replace HK := hide ((unhide HK).trans hk (by simp))))
  all_goals go_ret
  all_goals exact ⟨rfl, _, _, unhide HT, unhide HK, unhide HB⟩

set_option maxRecDepth 100000 in
set_option maxHeartbeats 4000000 in
theorem one_take_nil (x : Int) (cl : Bool) (w : World) (q p : Nat) (pl : Int) (vq vp : Value) (h : Two w q p pl vq (([] : List Value)) cl vp (([] : List Value)) cl) (hp : 1 ≤ pl ∧ pl ≤ 64) (hl : (([] : List Value)).length ≤ 1000000000000) :
    Calls Try.prog 11 #[.pointer (some ⟨q, 0, none⟩), .pointer (some ⟨p, 0, none⟩), .agg #[.int .i64 2, .int .i64 x]] w fun e w' => e = .returned (.bool true) ∧ ∃ vq' vp', Two w' q p pl vq' ([]) cl vp' ([]) cl ∧ Kept (q :: p :: (blk vq ++ blk vp)) w w' ∧ ∀ b, b ∈ blk vq' ∨ b ∈ blk vp' → b ∈ blk vq ∨ b ∈ blk vp ∨ w.heap.size ≤ b := by
  have HT := hide (h.pass ((Kept.refl [] w).alloc (.cells #[.int .i64 2, .int .i64 x] 32)) (by simp))
  have HK := hide ((Kept.refl (q :: p :: (blk vq ++ blk vp)) w).alloc (.cells #[.int .i64 2, .int .i64 x] 32))
  have HB := hide (fun b (hb : b ∈ blk vq ∨ b ∈ blk vp) => (by rcases hb with hb | hb; exact .inl hb; exact .inr (.inl hb) : b ∈ blk vq ∨ b ∈ blk vp ∨ w.heap.size ≤ b))
  have hsz : w.heap.size ≤ (w.alloc (.cells #[.int .i64 2, .int .i64 x] 32)).heap.size := by simp
  have HO := hide (heap_alloc_new w (.cells #[.int .i64 2, .int .i64 x] 32))
  have hqo := lt_of_block h.qa.row
  have HOq := hide (fun (hb : w.heap.size ∈ q :: blk vq) => (by rcases List.mem_cons.1 hb with e | e; omega; exact Nat.lt_irrefl _ (h.qa.vals.lt _ e) : False))
  have hn : ([] : List Value).length ≤ 1000000000001 := by simp
  clear h
  go_enter Try.func11, Try.ntmps11
  go_wp2_with (first
      | (go_at_call 21; refine (takeI_nil q _ pl _ cl (unhide HT).qa hp.1).mono ?_; rintro e w1 ⟨rfl, h1, h2⟩; replace HT := hide ((unhide HT).goQ (h2.mono (by simp)) h1 (fun b hb => .inl hb)); replace HK := hide ((unhide HK).trans h2 (by simp)); clear h1 h2)
      | (go_at_call 32; refine (takeR_nil p _ pl _ cl (unhide HT).ra).mono ?_; rintro e w1 ⟨rfl, h2⟩; replace HT := hide ((unhide HT).pass h2 (by simp)); replace HK := hide ((unhide HK).trans h2 (by simp)); clear h2)
      | (go_at_call 23; refine (lenT (unhide HT) hp.1 hn).mono ?_; rintro e w1 ⟨rfl, ht, hk⟩; replace HT := hide ht; replace HK := hide ((unhide HK).trans hk (by simp)))
      | (go_at_call 24; refine (lineT (unhide HT) hp.1 hn).mono ?_; rintro e w1 ⟨rfl, ht, hk⟩; replace HT := hide ht; replace HK := hide ((unhide HK).trans hk (by simp)))
      | (go_at_call 26; refine (closedT (unhide HT) hp.1).mono ?_; rintro e w1 ⟨rfl, ht, hk⟩; replace HT := hide ht; replace HK := hide ((unhide HK).trans hk (by simp)))
      | (go_at_call 34; refine (lenU (unhide HT) hn).mono ?_; rintro e w1 ⟨rfl, ht, hk⟩; replace HT := hide ht; replace HK := hide ((unhide HK).trans hk (by simp)))
      | (go_at_call 35; refine (lineU (unhide HT) hn hp).mono ?_; rintro e w1 ⟨rfl, ht, hk⟩; replace HT := hide ht; replace HK := hide ((unhide HK).trans hk (by simp)))
      | (go_at_call 36; refine (closedU (unhide HT)).mono ?_; rintro e w1 ⟨rfl, ht, hk⟩; replace HT := hide ht; replace HK := hide ((unhide HK).trans hk (by simp))))
  all_goals go_ret
  all_goals exact ⟨rfl, _, _, unhide HT, unhide HK, unhide HB⟩

set_option maxRecDepth 100000 in
set_option maxHeartbeats 4000000 in
theorem one_take_one (x n : Int) (xs : List Value) (cl : Bool) (w : World) (q p : Nat) (pl : Int) (vq vp : Value) (h : Two w q p pl vq (.int .i64 n :: xs) cl vp (.int .i64 n :: xs) cl) (hp : 1 ≤ pl ∧ pl ≤ 64) (hl : (.int .i64 n :: xs).length ≤ 1000000000000) :
    Calls Try.prog 11 #[.pointer (some ⟨q, 0, none⟩), .pointer (some ⟨p, 0, none⟩), .agg #[.int .i64 2, .int .i64 x]] w fun e w' => e = .returned (.bool true) ∧ ∃ vq' vp', Two w' q p pl vq' (xs) cl vp' (xs) cl ∧ Kept (q :: p :: (blk vq ++ blk vp)) w w' ∧ ∀ b, b ∈ blk vq' ∨ b ∈ blk vp' → b ∈ blk vq ∨ b ∈ blk vp ∨ w.heap.size ≤ b := by
  have HT := hide (h.pass ((Kept.refl [] w).alloc (.cells #[.int .i64 2, .int .i64 x] 32)) (by simp))
  have HK := hide ((Kept.refl (q :: p :: (blk vq ++ blk vp)) w).alloc (.cells #[.int .i64 2, .int .i64 x] 32))
  have HB := hide (fun b (hb : b ∈ blk vq ∨ b ∈ blk vp) => (by rcases hb with hb | hb; exact .inl hb; exact .inr (.inl hb) : b ∈ blk vq ∨ b ∈ blk vp ∨ w.heap.size ≤ b))
  have hsz : w.heap.size ≤ (w.alloc (.cells #[.int .i64 2, .int .i64 x] 32)).heap.size := by simp
  have HO := hide (heap_alloc_new w (.cells #[.int .i64 2, .int .i64 x] 32))
  have hqo := lt_of_block h.qa.row
  have HOq := hide (fun (hb : w.heap.size ∈ q :: blk vq) => (by rcases List.mem_cons.1 hb with e | e; omega; exact Nat.lt_irrefl _ (h.qa.vals.lt _ e) : False))
  have hn : xs.length ≤ 1000000000001 := by simp at hl; omega
  have HKq := hide (fun b (hb : b ∈ q :: blk vq) => (by simp at hb ⊢; rcases hb with rfl | hb; exact .inl rfl; exact .inr (.inr (.inl hb)) : b ∈ q :: p :: (blk vq ++ blk vp)))
  clear h
  go_enter Try.func11, Try.ntmps11
  go_wp2_with (first
      | (go_at_call 21; refine (takeI_one q _ pl n _ xs cl (unhide HT).qa hp.1).mono ?_; rintro e w1 ⟨rfl, vq2, h1, h2, h3⟩; replace HB := hide (fun b (hb : b ∈ blk vq2 ∨ b ∈ blk vp) => (by rcases hb with hb | hb; exact .inl (h3 b hb); exact .inr (.inl hb) : b ∈ blk vq ∨ b ∈ blk vp ∨ w.heap.size ≤ b)); replace HT := hide ((unhide HT).goQ h2 h1 (fun b hb => .inl (h3 b hb))); replace HK := hide ((unhide HK).trans h2 (fun b hb => .inl (unhide HKq b hb))); clear h1 h2 h3)
      | (go_at_call 32; refine (takeR_one p _ pl n _ xs cl (unhide HT).ra).mono ?_; rintro e w1 ⟨rfl, vp2, h1, h2, h3⟩; replace HB := hide (fun b (hb : b ∈ blk _ ∨ b ∈ blk vp2) => (by rcases hb with hb | hb; exact unhide HB b (.inl hb); exact .inr (.inl (h3 b hb)) : b ∈ blk vq ∨ b ∈ blk vp ∨ w.heap.size ≤ b)); replace HT := hide ((unhide HT).goR (h2.mono (by simp)) h1 (fun b hb => .inl (h3 b hb))); replace HK := hide ((unhide HK).trans h2 (by simp)); clear h1 h2 h3)
      | (go_at_call 23; refine (lenT (unhide HT) hp.1 hn).mono ?_; rintro e w1 ⟨rfl, ht, hk⟩; replace HT := hide ht; replace HK := hide ((unhide HK).trans hk (by simp)))
      | (go_at_call 24; refine (lineT (unhide HT) hp.1 hn).mono ?_; rintro e w1 ⟨rfl, ht, hk⟩; replace HT := hide ht; replace HK := hide ((unhide HK).trans hk (by simp)))
      | (go_at_call 26; refine (closedT (unhide HT) hp.1).mono ?_; rintro e w1 ⟨rfl, ht, hk⟩; replace HT := hide ht; replace HK := hide ((unhide HK).trans hk (by simp)))
      | (go_at_call 34; refine (lenU (unhide HT) hn).mono ?_; rintro e w1 ⟨rfl, ht, hk⟩; replace HT := hide ht; replace HK := hide ((unhide HK).trans hk (by simp)))
      | (go_at_call 35; refine (lineU (unhide HT) hn hp).mono ?_; rintro e w1 ⟨rfl, ht, hk⟩; replace HT := hide ht; replace HK := hide ((unhide HK).trans hk (by simp)))
      | (go_at_call 36; refine (closedU (unhide HT)).mono ?_; rintro e w1 ⟨rfl, ht, hk⟩; replace HT := hide ht; replace HK := hide ((unhide HK).trans hk (by simp))))
  all_goals go_ret
  all_goals exact ⟨rfl, _, _, unhide HT, unhide HK, unhide HB⟩

set_option maxRecDepth 100000 in
set_option maxHeartbeats 4000000 in
theorem one_close (x : Int) (xs : List Value) (cl : Bool) (w : World) (q p : Nat) (pl : Int) (vq vp : Value) (h : Two w q p pl vq (xs) cl vp (xs) cl) (hp : 1 ≤ pl ∧ pl ≤ 64) (hl : (xs).length ≤ 1000000000000) :
    Calls Try.prog 11 #[.pointer (some ⟨q, 0, none⟩), .pointer (some ⟨p, 0, none⟩), .agg #[.int .i64 3, .int .i64 x]] w fun e w' => e = .returned (.bool true) ∧ ∃ vq' vp', Two w' q p pl vq' (xs) true vp' (xs) true ∧ Kept (q :: p :: (blk vq ++ blk vp)) w w' ∧ ∀ b, b ∈ blk vq' ∨ b ∈ blk vp' → b ∈ blk vq ∨ b ∈ blk vp ∨ w.heap.size ≤ b := by
  have HT := hide (h.pass ((Kept.refl [] w).alloc (.cells #[.int .i64 3, .int .i64 x] 32)) (by simp))
  have HK := hide ((Kept.refl (q :: p :: (blk vq ++ blk vp)) w).alloc (.cells #[.int .i64 3, .int .i64 x] 32))
  have HB := hide (fun b (hb : b ∈ blk vq ∨ b ∈ blk vp) => (by rcases hb with hb | hb; exact .inl hb; exact .inr (.inl hb) : b ∈ blk vq ∨ b ∈ blk vp ∨ w.heap.size ≤ b))
  have hsz : w.heap.size ≤ (w.alloc (.cells #[.int .i64 3, .int .i64 x] 32)).heap.size := by simp
  have HO := hide (heap_alloc_new w (.cells #[.int .i64 3, .int .i64 x] 32))
  have hqo := lt_of_block h.qa.row
  have HOq := hide (fun (hb : w.heap.size ∈ q :: blk vq) => (by rcases List.mem_cons.1 hb with e | e; omega; exact Nat.lt_irrefl _ (h.qa.vals.lt _ e) : False))
  have hn : xs.length ≤ 1000000000001 := by omega
  clear h
  go_enter Try.func11, Try.ntmps11
  go_wp2_with (first
      | (go_at_call 25; refine (closeI_any q _ pl _ _ cl (unhide HT).qa hp.1).mono ?_; rintro e w1 ⟨rfl, h1, h2⟩; replace HT := hide ((unhide HT).goQ (h2.mono (by simp)) h1 (fun b hb => .inl hb)); replace HK := hide ((unhide HK).trans h2 (by simp)); clear h1 h2)
      | (go_at_call 33; refine (closeR_any p _ pl _ _ cl (unhide HT).ra).mono ?_; rintro e w1 ⟨rfl, h1, h2⟩; replace HT := hide ((unhide HT).goR (h2.mono (by simp)) h1 (fun b hb => .inl hb)); replace HK := hide ((unhide HK).trans h2 (by simp)); clear h1 h2)
      | (go_at_call 23; refine (lenT (unhide HT) hp.1 hn).mono ?_; rintro e w1 ⟨rfl, ht, hk⟩; replace HT := hide ht; replace HK := hide ((unhide HK).trans hk (by simp)))
      | (go_at_call 24; refine (lineT (unhide HT) hp.1 hn).mono ?_; rintro e w1 ⟨rfl, ht, hk⟩; replace HT := hide ht; replace HK := hide ((unhide HK).trans hk (by simp)))
      | (go_at_call 26; refine (closedT (unhide HT) hp.1).mono ?_; rintro e w1 ⟨rfl, ht, hk⟩; replace HT := hide ht; replace HK := hide ((unhide HK).trans hk (by simp)))
      | (go_at_call 34; refine (lenU (unhide HT) hn).mono ?_; rintro e w1 ⟨rfl, ht, hk⟩; replace HT := hide ht; replace HK := hide ((unhide HK).trans hk (by simp)))
      | (go_at_call 35; refine (lineU (unhide HT) hn hp).mono ?_; rintro e w1 ⟨rfl, ht, hk⟩; replace HT := hide ht; replace HK := hide ((unhide HK).trans hk (by simp)))
      | (go_at_call 36; refine (closedU (unhide HT)).mono ?_; rintro e w1 ⟨rfl, ht, hk⟩; replace HT := hide ht; replace HK := hide ((unhide HK).trans hk (by simp))))
  all_goals go_ret
  all_goals exact ⟨rfl, _, _, unhide HT, unhide HK, unhide HB⟩

set_option maxRecDepth 100000 in
set_option maxHeartbeats 4000000 in
theorem one_other (k x : Int) (k1 : ¬ k = 1) (k2 : ¬ k = 2) (k3 : ¬ k = 3) (xs : List Value) (cl : Bool) (w : World) (q p : Nat) (pl : Int) (vq vp : Value) (h : Two w q p pl vq (xs) cl vp (xs) cl) (hp : 1 ≤ pl ∧ pl ≤ 64) (hl : (xs).length ≤ 1000000000000) :
    Calls Try.prog 11 #[.pointer (some ⟨q, 0, none⟩), .pointer (some ⟨p, 0, none⟩), .agg #[.int .i64 k, .int .i64 x]] w fun e w' => e = .returned (.bool true) ∧ ∃ vq' vp', Two w' q p pl vq' (xs) cl vp' (xs) cl ∧ Kept (q :: p :: (blk vq ++ blk vp)) w w' ∧ ∀ b, b ∈ blk vq' ∨ b ∈ blk vp' → b ∈ blk vq ∨ b ∈ blk vp ∨ w.heap.size ≤ b := by
  have HT := hide (h.pass ((Kept.refl [] w).alloc (.cells #[.int .i64 k, .int .i64 x] 32)) (by simp))
  have HK := hide ((Kept.refl (q :: p :: (blk vq ++ blk vp)) w).alloc (.cells #[.int .i64 k, .int .i64 x] 32))
  have HB := hide (fun b (hb : b ∈ blk vq ∨ b ∈ blk vp) => (by rcases hb with hb | hb; exact .inl hb; exact .inr (.inl hb) : b ∈ blk vq ∨ b ∈ blk vp ∨ w.heap.size ≤ b))
  have hsz : w.heap.size ≤ (w.alloc (.cells #[.int .i64 k, .int .i64 x] 32)).heap.size := by simp
  have HO := hide (heap_alloc_new w (.cells #[.int .i64 k, .int .i64 x] 32))
  have hqo := lt_of_block h.qa.row
  have HOq := hide (fun (hb : w.heap.size ∈ q :: blk vq) => (by rcases List.mem_cons.1 hb with e | e; omega; exact Nat.lt_irrefl _ (h.qa.vals.lt _ e) : False))
  have hn : xs.length ≤ 1000000000001 := by omega
  have e1 : (k == 1) = false := by simpa using k1
  have e2 : (k == 2) = false := by simpa using k2
  have e3 : (k == 3) = false := by simpa using k3
  clear h
  go_enter Try.func11, Try.ntmps11
  go_wp2_with (first
      | (go_at_call 23; refine (lenT (unhide HT) hp.1 hn).mono ?_; rintro e w1 ⟨rfl, ht, hk⟩; replace HT := hide ht; replace HK := hide ((unhide HK).trans hk (by simp)))
      | (go_at_call 24; refine (lineT (unhide HT) hp.1 hn).mono ?_; rintro e w1 ⟨rfl, ht, hk⟩; replace HT := hide ht; replace HK := hide ((unhide HK).trans hk (by simp)))
      | (go_at_call 26; refine (closedT (unhide HT) hp.1).mono ?_; rintro e w1 ⟨rfl, ht, hk⟩; replace HT := hide ht; replace HK := hide ((unhide HK).trans hk (by simp)))
      | (go_at_call 34; refine (lenU (unhide HT) hn).mono ?_; rintro e w1 ⟨rfl, ht, hk⟩; replace HT := hide ht; replace HK := hide ((unhide HK).trans hk (by simp)))
      | (go_at_call 35; refine (lineU (unhide HT) hn hp).mono ?_; rintro e w1 ⟨rfl, ht, hk⟩; replace HT := hide ht; replace HK := hide ((unhide HK).trans hk (by simp)))
      | (go_at_call 36; refine (closedU (unhide HT)).mono ?_; rintro e w1 ⟨rfl, ht, hk⟩; replace HT := hide ht; replace HK := hide ((unhide HK).trans hk (by simp))))
  all_goals go_ret
  all_goals exact ⟨rfl, _, _, unhide HT, unhide HK, unhide HB⟩

theorem one_any (k x : Int) (w : World) (q p : Nat) (pl : Int) (vq vp : Value) (xs : List Int) (cl : Bool) (h : Two w q p pl vq (xs.map iv) cl vp (xs.map iv) cl) (hp : 1 ≤ pl ∧ pl ≤ 64) (hl : xs.length ≤ 1000000000000) :
    Calls Try.prog 11 #[.pointer (some ⟨q, 0, none⟩), .pointer (some ⟨p, 0, none⟩), .agg #[.int .i64 k, .int .i64 x]] w fun e w' => e = .returned (.bool true) ∧ OneP w w' q p pl vq vp (stepV k x xs cl) (stepC k cl) := by
  have hl' : (xs.map iv).length ≤ 1000000000000 := by simpa using hl
  by_cases k1 : k = 1
  · subst k1
    cases cl
    · refine (one_put_open x _ w q p pl vq vp h hp hl').mono ?_
      rintro e w' ⟨rfl, a, b, h1, h2, h3⟩
      exact ⟨rfl, a, b, by simpa [stepV, stepC] using h1, h2, h3⟩
    · refine (one_put_shut x _ w q p pl vq vp h hp hl').mono ?_
      rintro e w' ⟨rfl, a, b, h1, h2, h3⟩
      exact ⟨rfl, a, b, by simpa [stepV, stepC] using h1, h2, h3⟩
  by_cases k2 : k = 2
  · subst k2
    cases xs with
    | nil =>
      refine (one_take_nil x cl w q p pl vq vp h hp (by simp)).mono ?_
      rintro e w' ⟨rfl, a, b, h1, h2, h3⟩
      exact ⟨rfl, a, b, by simpa [stepV, stepC] using h1, h2, h3⟩
    | cons n xs =>
      refine (one_take_one x n (xs.map iv) cl w q p pl vq vp h hp hl').mono ?_
      rintro e w' ⟨rfl, a, b, h1, h2, h3⟩
      exact ⟨rfl, a, b, by simpa [stepV, stepC] using h1, h2, h3⟩
  by_cases k3 : k = 3
  · subst k3
    refine (one_close x _ cl w q p pl vq vp h hp hl').mono ?_
    rintro e w' ⟨rfl, a, b, h1, h2, h3⟩
    exact ⟨rfl, a, b, by simpa [stepV, stepC] using h1, h2, h3⟩
  · refine (one_other k x k1 k2 k3 _ cl w q p pl vq vp h hp hl').mono ?_
    rintro e w' ⟨rfl, a, b, h1, h2, h3⟩
    exact ⟨rfl, a, b, by simpa [stepV, stepC, k1, k2, k3] using h1, h2, h3⟩
end Go.Proofs.Ytialndpejechbaa
