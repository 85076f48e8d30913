import Derived.Test.YtbbjbpjpejekgaaBase
namespace Go.Proofs.Ytbbjbpjpejekgaa
open Go.RowKit
set_option linter.unusedVariables false

/-- R holds in w and in every world behind it in which of the blocks below base some may have turned, and new ones came. -/
def Stay (base : Nat) (w : World) (R : World → Prop) : Prop := ∀ M w', Kept M w w' → (∀ b ∈ M, b < base) → R w'
theorem Stay.now {base : Nat} {w : World} {R : World → Prop} (h : Stay base w R) : R w := h [] w (Kept.refl _ _) (by simp)
theorem Kept.join {L M : List Nat} {a b c : World} (h : Kept L a b) (k : Kept M b c) : Kept (L ++ M) a c :=
  (h.mono (fun x hx => List.mem_append_left _ hx)).trans k (fun x hx => .inl (List.mem_append_right _ hx))
theorem Stay.pass {base : Nat} {M : List Nat} {w w' : World} {R : World → Prop} (h : Stay base w R) (k : Kept M w w') (hM : ∀ b ∈ M, b < base) : Stay base w' R :=
  fun N w'' k2 hN => h (M ++ N) w'' (k.join k2) (fun b hb => by rcases List.mem_append.1 hb with hb | hb; exact hM b hb; exact hN b hb)
theorem Stay.weak {base b2 : Nat} {w : World} {R : World → Prop} (h : Stay base w R) (hb : b2 ≤ base) : Stay b2 w R := fun M w' k hM => h M w' k (fun b hb2 => Nat.lt_of_lt_of_le (hM b hb2) hb)
theorem Stay.and {base : Nat} {w : World} {R S : World → Prop} (h : Stay base w R) (g : Stay base w S) : Stay base w (fun W => R W ∧ S W) := fun M w' k hM => ⟨h M w' k hM, g M w' k hM⟩
theorem Rd.stay {base : Nat} {w : World} {v : Value} {bs : List Nat} (h : Rd w v bs) (hb : ∀ x ∈ blk v, base ≤ x) : Stay base w (fun W => Rd W v bs) :=
  fun M w' k hM => h.kept k (fun x hx hm => by have := hb x hx; have := hM x hm; omega)
theorem owns_stay {base b : Nat} {w : World} {e : TypeId} {s n : Nat} {v : Value} {xs : List Value} (h : w.ownsRow b e s v n xs) (hb : base ≤ b) : Stay base w (fun W => W.ownsRow b e s v n xs) :=
  fun M w' k hM => k.owns h (fun g hg hm => by have := (h.lt g hg).1; have := hM g hm; omega)
end Go.Proofs.Ytbbjbpjpejekgaa
