import Derived.WalkKit
import Derived.WalkSpells
import Derived.Deep.AppendLies
import Derived.Laws.CopyOwn
import Derived.Deep.Draws
import Derived.Deep.OwnRows
import Derived.Deep.LoopGhost
import Derived.Deep.QuietTactic
import Derived.BigQuiet
import Derived.Deep.RegionHeld3
import Derived.Deep.DeepMust
import Derived.WalkLawsBesides
import Derived.Deep.DrawnRows
import Derived.Test.YtkolfhgbojenjaaGreatDoorRows
import Derived.Maps.OwnSet
import Derived.Maps.RangeWalk
import Derived.Maps.Ext
import Derived.Laws.BitsAllLaws
import Derived.Deep.RegionLaw
import Derived.Laws.ShiftsVarLaws
import Derived.BigFrame
import Derived.StillTail
import Derived.ArgAppend
import Derived.Deep.Cut
import Derived.Laws.Cover3
import Derived.Test.YtkolfhgbojenjaaGreatDoorShelf
import Derived.Maps.AppendAt
import Derived.Sort.OwnSorted
import Derived.Sort.KeysCollected
import Derived.Lib.ConvBytes
import Derived.Laws.AppendOwn
import Derived.Lib.ItoaNum
import Derived.Lib.AppendIntMem
import Derived.Lib.ParseIntBCases
import Derived.Deep.DeepAppendRoom
import Derived.Defers
import Derived.Recover
import Derived.Laws.Rows
import Derived.Laws.StructEq
import Derived.Deep.MidRow
import Derived.Lib.SlBytesConst
import Derived.Test.YtkolfhgbojenjaaGreatDoorCards
import Derived.Test.YtkolfhgbojenjaaGreatDoorTie
import Derived.ProofKit
import Derived.OpenShut
import Derived.Deep.Slices
import Derived.SizedLaws
import Derived.Sort.Walk0
import Derived.Laws.IdiomStrings
namespace Go.Proofs.YtkolfhgbojenjaaGreatDoor
set_option linter.unusedVariables false
set_option linter.unusedSimpArgs false
set_option maxRecDepth 100000
section
open Go.RowKit
theorem hide {p:Prop} (h:p):Hid p:=h
theorem uh {p:Prop} (h:Hid p):p:=h
structure Kept (L:List Nat) (w w':World):Prop where
 os:w'.os = w.os
 tape:w'.tape = w.tape
 output:w'.output = w.output
 size:w.heap.size≤w'.heap.size
 block:∀ k,k < w.heap.size→k∉L→w'.heap[k]? = w.heap[k]?
theorem Kept.refl (L:List Nat) (w:World):Kept L w w:=⟨rfl,rfl,rfl,Nat.le_refl _,fun _ _ _=>rfl⟩
theorem Kept.trans {L M:List Nat} {a b c:World} (h:Kept L a b) (k:Kept M b c) (hM:∀ x∈M,x∈L∨a.heap.size≤x):Kept L a c :=
 ⟨k.os.trans h.os,k.tape.trans h.tape,k.output.trans h.output,Nat.le_trans h.size k.size,fun i hi hn =>
  (k.block i (Nat.lt_of_lt_of_le hi h.size) (fun hm=>by rcases hM i hm with h1 | h1; exact hn h1; omega)).trans (h.block i hi hn)⟩
theorem Kept.mono {L M:List Nat} {a b:World} (h:Kept L a b) (hM:∀ x∈L,x∈M):Kept M a b :=
 ⟨h.os,h.tape,h.output,h.size,fun i hi hn=>h.block i hi (fun x=>hn (hM i x))⟩
theorem Kept.drew {L:List Nat} {a w:World} (h:Kept L a w):Kept L a w.drew:=⟨h.os,h.tape,h.output,h.size,h.block⟩
theorem Kept.drewN {L:List Nat} {a w:World} (h:Kept L a w) (n:Nat):Kept L a (w.drewN n):=⟨h.os,h.tape,h.output,h.size,h.block⟩
theorem Kept.alloc {L:List Nat} {a w:World} (h:Kept L a w) (o:Obj):Kept L a (w.alloc o) :=
 h.trans (M:=[]) ⟨rfl,rfl,rfl,by simp,fun k hk _=>Below.heap_alloc _ _ _ hk⟩ (by simp)
theorem Kept.setCell {L:List Nat} {a w:World} (h:Kept L a w) {p:Addr} (hp:p.block∈L∨a.heap.size≤p.block) (u:Value):Kept L a (w.setCell p u) :=
 h.trans (M:=[p.block]) ⟨rfl,rfl,rfl,by simp [World.setCell],fun k _ hn=>Below.heap_setCell _ _ _ _ (by simpa using hn)⟩ (by simpa using hp)
theorem Kept.grown {L:List Nat} {a w w':World} {row:Option Nat} (h:Kept L a w) (hg:w.grownBy w' row) (hr:∀ k,row = some k→k∈L∨a.heap.size≤k):Kept L a w' :=
 h.trans (M:=row.toList) ⟨hg.os,hg.tape,hg.output,hg.size,fun k hk hn=>hg.block k hk (fun e=>hn (by simp [← e]))⟩ (by
  intro x hx; exact hr x (by simpa using hx))
theorem Kept.ofBelow {B:Nat} {w w':World} (h:Below B w w') (hB:w.heap.size≤B):Kept [] w w' :=
 ⟨h.os,h.tape,h.output,h.size,fun k hk _=>h.block k (Nat.lt_of_lt_of_le hk hB)⟩
theorem Kept.below {L:List Nat} {B:Nat} {w w':World} (h:Kept L w w') (hB:B≤w.heap.size) (hL:∀ k∈L,B≤k):Below B w w' :=
 ⟨h.os,h.tape,h.output,h.size,fun k hk=>h.block k (Nat.lt_of_lt_of_le hk hB) (fun hm=>by have:=hL k hm; omega)⟩
theorem Kept.cell {L:List Nat} {w w':World} (h:Kept L w w') {a:Addr} {v:Value} (hc:w.cell? a = some v) (hn:a.block∉L):w'.cell? a = some v :=
 (World.cell?_of_block (h.block a.block (block_lt_of_cell hc) hn)).trans hc
theorem Kept.heap {L:List Nat} {w w':World} (h:Kept L w w') {b:Nat} {o:Obj} (hc:w.heap[b]? = some o) (hn:b∉L):w'.heap[b]? = some o :=
 (h.block b (lt_of_block hc) hn).trans hc
theorem Kept.owns {L:List Nat} {w w':World} (h:Kept L w w') {base:Nat} {e:TypeId} {size:Nat} {v:Value} {n:Nat} {xs:List Value} (ho:w.ownsRow base e size v n xs)
  (hn:∀ k,v.ownBlock = some k→k∉L):w'.ownsRow base e size v n xs:=by
 obtain ⟨h1,h2⟩:=ho
 refine ⟨h1,?_⟩
 rcases h2 with h2 | ⟨g,cap,cur,hv,hg,hh,r⟩
 ·exact Or.inl h2
 ·exact Or.inr ⟨g,cap,cur,hv,hg,h.heap hh (hn g (by rw [hv]; rfl)),r⟩
abbrev u8 (n:Nat):Value:=.int .u8 (n:Int)
def Rd (w:World) (v:Value) (bs:List Nat):Prop :=
 ∃ (ao:Option Addr) (len cap:Nat),v = .slice ao len cap∧bs.length = len∧len≤cap∧(cap≤9223372036854775807∧len≤140737488355328)∧(ao = none→cap = 0) ∧
  (∀ x∈bs,x < 256)∧(0 < len→∃ b off,ao = some ⟨b,off,none⟩∧∀ i,i < len→w.cell? ⟨b,off + i,none⟩ = some (u8 (bs.getD i 0)))
def blk:Value→List Nat
 | .slice (some a) _ _=>[a.block]
 | _=>[]
theorem Rd.kept {L:List Nat} {w w':World} {v:Value} {bs:List Nat} (h:Rd w v bs) (k:Kept L w w') (hn:∀ x∈blk v,x∉L):Rd w' v bs:=by
 obtain ⟨ao,len,cap,rfl,h1,h2,h3,h4,h5,h6⟩:=h
 refine ⟨ao,len,cap,rfl,h1,h2,h3,h4,h5,fun hp=>?_⟩
 obtain ⟨b,off,rfl,hc⟩:=h6 hp
 exact ⟨b,off,rfl,fun i hi=>k.cell (hc i hi) (hn b (by simp [blk]))⟩
theorem Rd.old {L:List Nat} {w0 w:World} {v:Value} {bs:List Nat} (h:Rd w0 v bs) (k:Kept L w0 w) (hL:∀ x∈L,w0.heap.size≤x):Rd w v bs:=by
 obtain ⟨ao,len,cap,rfl,h1,h2,h3,h4,h5,h6⟩:=h
 refine ⟨ao,len,cap,rfl,h1,h2,h3,h4,h5,fun hp=>?_⟩
 obtain ⟨b,off,rfl,hc⟩:=h6 hp
 exact ⟨b,off,rfl,fun i hi=>k.cell (hc i hi) (fun hm=>by have h7:=block_lt_of_cell (hc i hi); have h8:=hL b hm; simp at h7; omega)⟩
theorem Rd.nil (w:World):Rd w (.slice none 0 0) []:=⟨none,0,0,rfl,rfl,Nat.le_refl _,⟨by omega,by omega⟩,fun _=>rfl,by simp,fun h=>by omega⟩
theorem sa1.{u} {α : Type u} (l : List α) (i : Nat) (a : α) : l.toArray.setIfInBounds i a = (l.set i a).toArray := List.setIfInBounds_toArray l i a
theorem sa2.{u} {α : Type u} {x : α} {xs : List α} {a : α} : (x :: xs).set 0 a = a :: xs := List.set_cons_zero
theorem sa3.{u} {α : Type u} {x : α} {xs : List α} {n : Nat} {a : α} : (x :: xs).set (n + 1) a = x :: xs.set n a := List.set_cons_succ
def ptrElem {H:Type}:Value→Option (DataW H × List MemPlace)
 | .pointer none=>some (.lit .nil,[])
 | .pointer (some a)=>if a.off = 0∧a.spot = none then some (.lit (.int .u64 a.block),[]) else none
 | _=>none
theorem xb0d {H:Type}:ptrElem (H:=H) (.pointer none) = some (.lit .nil,[]):=rfl
theorem xb2j {H:Type} (g:Nat):ptrElem (H:=H) (.pointer (some ⟨g,0,none⟩)) = some (.lit (.int .u64 g),[]):=rfl
theorem xa2o {H:Type} {v:Value} {z:DataW H × List MemPlace} (h:ptrElem v = some z):(v = .pointer none∧z = (.lit .nil,[]))∨∃ g:Nat,v = .pointer (some ⟨g,0,none⟩)∧z = (.lit (.int .u64 g),[]):=by
 unfold ptrElem at h
 split at h
 ·cases h; exact .inl ⟨rfl,rfl⟩
 ·rename_i a
  split at h
  ·rename_i hc
   cases h
   obtain ⟨b,o,s⟩:=a
   obtain ⟨h1,h2⟩:=hc
   subst h1 h2
   exact .inr ⟨b,rfl,rfl⟩
  ·cases h
 ·cases h
def MapIs {H:Type} (D:DataW H) (f:List UInt8→Option Nat):Prop :=
 ∀ s,Maps.has D (.string s) = (f s).isSome∧∀ z,D.atKey (.string s) z = match f s with | none=>z | some g=>.lit (.int .u64 g)
theorem MapIs.empty {H:Type}:MapIs (H:=H) (.map []) (fun _=>none):=by
 intro s
 exact ⟨rfl,fun z=>Maps.atKey_of_not_has rfl z⟩
theorem MapIs.put {H:Type} {D:DataW H} {f:List UInt8→Option Nat} (h:MapIs D f) (hm:Maps.IsMap D) (s:List UInt8) (hk:WideAt.IsKeyLit (.string s)) (g:Nat) :
  MapIs (D.put (.string s) (.lit (.int .u64 g))) (fun t=>if t = s then some g else f t):=by
 intro t
 by_cases ht:t = s
 ·subst ht
  simp only [if_true]
  exact ⟨Maps.has_put_same hm hk _,fun z=>Maps.atKey_put_same hm hk _ z⟩
 ·have hne:Lit.string t≠Lit.string s:=by simpa using ht
  simp only [if_neg ht]
  exact ⟨by rw [Maps.has_put_other hne]; exact (h t).1,fun z=>by rw [Maps.atKey_put_other hne]; exact (h t).2 z⟩
theorem xa1i {H:Type} {P:Program} (w:World) {ops:Array Oper} {rest:List Oper} {o:Oper} {a:Act} {Q:Exit→Act→World→Prop}
  (hg:o.guard = none) (m x:Operand) (t:TypeId) (hop:o.op = Op.lookup t m x true)
  (k e:TypeId) (K:Maps.Keyed P k) (ht:P.underlying t = some (.map k e)) (hz:(zeroValue e).run P w = .ok (.pointer none) w) (b n:Nat) (D:DataW H) (f:List UInt8→Option Nat)
  (hm:a.eval m = .map (some b)) (hown:w.ownsMap P k ptrElem b n D) (hf:MapIs D f) (key:Value) (s:List UInt8) (hx:a.eval x = key) (hkey:keyOf P k key = some (.string s))
  (hK:wpList P ops Q rest (a.put o.dst (.tuple #[.pointer ((f s).map fun g=>⟨g,0,none⟩),.bool (f s).isSome])) w) :
  wpList P ops Q (o :: rest) a w :=
 wpList_lookup_own_ok w hg m x t hop k e K ht ptrElem hz (.lit .nil) [] xb0d b n D hm hown key (.string s) hx hkey (fun v ps hv=>by
  rw [(hf s).2,(hf s).1] at *
  revert hK hv
  cases f s with
  | none =>
   intro hK hv
   rcases xa2o hv with ⟨rfl,h⟩ | ⟨g,rfl,h⟩
   ·exact hK
   ·simp at h
  | some g0 =>
   intro hK hv
   rcases xa2o hv with ⟨rfl,h⟩ | ⟨g,rfl,h⟩
   ·simp at h
   ·simp at h
    obtain ⟨h,_⟩:=h
    have:g0 = g:=by omega
    subst this
    exact hK)
theorem xa2l {H:Type} {P:Program} (w:World) {ops:Array Oper} {rest:List Oper} {o:Oper} {a:Act} {Q:Exit→Act→World→Prop}
  (hg:o.guard = none) (m x:Operand) (t:TypeId) (hop:o.op = Op.lookup t m x true)
  (k e:TypeId) (K:Maps.Keyed P k) (ht:P.underlying t = some (.map k e)) (hz:(zeroValue e).run P w = .ok (.pointer none) w) (b n:Nat) (D:DataW H) (f:List UInt8→Option Nat)
  (hm:a.eval m = .map (some b)) (hown:w.ownsMap P k ptrElem b n D) (hf:MapIs D f) (key:Value) (s:List UInt8) (hx:a.eval x = key) (hkey:keyOf P k key = some (.string s)) (g:Nat) (hr:f s = some g)
  (hK:wpList P ops Q rest (a.put o.dst (.tuple #[.pointer (some ⟨g,0,none⟩),.bool true])) w) :
  wpList P ops Q (o :: rest) a w :=
 xa1i w hg m x t hop k e K ht hz b n D f hm hown hf key s hx hkey (by rw [hr]; exact hK)
theorem xa2j {H:Type} {P:Program} (w:World) {ops:Array Oper} {rest:List Oper} {o:Oper} {a:Act} {Q:Exit→Act→World→Prop}
  (hg:o.guard = none) (m x:Operand) (t:TypeId) (hop:o.op = Op.lookup t m x true)
  (k e:TypeId) (K:Maps.Keyed P k) (ht:P.underlying t = some (.map k e)) (hz:(zeroValue e).run P w = .ok (.pointer none) w) (b n:Nat) (D:DataW H) (f:List UInt8→Option Nat)
  (hm:a.eval m = .map (some b)) (hown:w.ownsMap P k ptrElem b n D) (hf:MapIs D f) (key:Value) (s:List UInt8) (hx:a.eval x = key) (hkey:keyOf P k key = some (.string s)) (hr:f s = none)
  (hK:wpList P ops Q rest (a.put o.dst (.tuple #[.pointer none,.bool false])) w) :
  wpList P ops Q (o :: rest) a w :=
 xa1i w hg m x t hop k e K ht hz b n D f hm hown hf key s hx hkey (by rw [hr]; exact hK)
end
def uv (v:Nat):List Nat:=if _h:v < 128 then [v] else (v % 128 + 128) :: uv (v / 128)
theorem uv_lt {v:Nat} (h:v < 128):uv v = [v]:=by rw [uv,dif_pos h]
theorem uv_ge {v:Nat} (h:128≤v):uv v = (v % 128 + 128) :: uv (v / 128):=by rw [uv,dif_neg (by omega)]
theorem uv_pos (v:Nat):0 < (uv v).length:=by rw [uv]; split <;> simp
theorem xa9f (v:Nat):∀ x∈uv v,x < 256:=by
 induction v using uv.induct with
 | case1 v h=>rw [uv_lt h]; simp; omega
 | case2 v h ih=>rw [uv_ge (by omega)]; intro x hx; simp at hx; rcases hx with rfl | hx; omega; exact ih x hx
theorem xb5q (k:Nat):∀ v,v < 128 ^ (k + 1)→(uv v).length≤k + 1:=by
 induction k with
 | zero=>intro v h; rw [uv_lt (by simpa using h)]; simp
 | succ k ih =>
  intro v h
  by_cases hv:v < 128
  ·rw [uv_lt hv]; simp
  ·rw [uv_ge (by omega)]
   have:=ih (v / 128) (by rw [Nat.div_lt_iff_lt_mul (by omega)]; rw [Nat.pow_succ] at h; exact h)
   simp; omega
theorem uv_len (v:Nat) (h:v < 18446744073709551616):(uv v).length≤10:=xb5q 9 v (by omega)
theorem xb6p (a:Nat) (h:a < 256):a ||| 128 = a % 128 + 128:=by
 rcases Nat.lt_or_ge a 128 with h1 | h1
 ·rw [Nat.or_comm,nat_join 7 128 a (by decide) h1,Nat.mod_eq_of_lt h1,Nat.add_comm]
 ·obtain ⟨c,rfl⟩:∃ c,a = 128 + c:=⟨a - 128,by omega⟩
  have hc:c < 128:=by omega
  have e:128 + c = 128 ||| c:=(nat_join 7 128 c (by decide) hc).symm
  rw [e,Nat.or_assoc,Nat.or_comm c 128,← Nat.or_assoc,Nat.or_self,← e]; omega
theorem or128 (x:Int) (h0:0≤x) (h1:x < 256):bits .or .u8 x 128 = x % 128 + 128:=by
 obtain ⟨a,rfl⟩:=Int.eq_ofNat_of_zero_le h0
 rw [show (128:Int) = ((128:Nat):Int) from rfl,u8_or_nat a 128 (by omega) (by omega),xb6p a (by omega)]; omega
def wide (v:Nat):Nat→List Nat
 | 0=>[]
 | k + 1=>(v / 256 ^ k % 256) :: wide v k
theorem xa0d (v k:Nat):(wide v k).length = k:=by induction k with | zero=>rfl | succ k ih=>simp [wide,ih]
theorem xa0p (v k:Nat):∀ x∈wide v k,x < 256:=by
 induction k with
 | zero=>simp [wide]
 | succ k ih=>intro x hx; simp only [wide,List.mem_cons] at hx; rcases hx with rfl | hx; exact Nat.mod_lt _ (by omega); exact ih x hx
section
open Go.RowKit
theorem Tryz.info5:(Tryz.prog.info? 5).map (fun i=>(i.zero,i.size,i.bytes)) = some (some (.int .u8 0),1,1):=by kernel_rfl
theorem Tryz.size5:(Tryz.prog.info? 5).map (·.size) = some 1:=by kernel_rfl
def zeros (n:Nat):List Value:=List.replicate n (.int .u8 0)
theorem madeZeros (n:Nat):madeCells #[(.int .u8 0:Value)] n = (zeros n).toArray:=by
 apply Array.toList_inj.1; rw [toList_madeCells_one]; rfl
theorem xa3q (bs:List Nat):∀ v∈bs.map u8,v.oneCell' = true:=by
 intro v hv; obtain ⟨x,_,rfl⟩:=List.mem_map.1 hv; rfl
theorem Rd.src {w:World} {ao:Option Addr} {len cap:Nat} {bs:List Nat} (h:Rd w (.slice ao len cap) bs) (hp:0 < (bs.map u8).length) :
  ∃ ad,ao = some ad∧∀ j v,(bs.map u8)[j]? = some v→w.cell? (ad.add j) = some v:=by
 obtain ⟨ao',len',cap',he,rfl,h2,h3,h4,h5,h6⟩:=h
 cases he
 obtain ⟨b,off,rfl,hc⟩:=h6 (by simpa using hp)
 refine ⟨_,rfl,fun j v hj=>?_⟩
 rw [List.getElem?_map] at hj
 obtain ⟨x,hx,rfl⟩:=Option.map_eq_some_iff.1 hj
 have hlt:j < bs.length:=by
  rcases Nat.lt_or_ge j bs.length with h | h
  ·exact h
  ·rw [List.getElem?_eq_none h] at hx; cases hx
 rw [Addr.add_mid,hc j hlt,List.getD_eq_getElem?_getD,hx]; rfl
theorem xa1j {P:Program} (dT sT ty elem:TypeId) (hu:P.underlying dT = some (.slice elem)) (hsz:(P.info? elem).map (·.size) = some 1)
  (w:World) (g dLen dCap sCap:Nat) (sp:Option Addr) (bs:List Nat) (cur:List Value) (t:TypeId) (hg:w.heap[g]? = some (.cells cur.toArray t (0,0)))
  (hs:Rd w (.slice sp bs.length sCap) bs) (hd:bs.length≤dLen) (hfit:bs.length≤cur.length) :
  ∃ w2,(Builtin.copy_ #[dT,sT] ty #[.slice (some ⟨g,0,none⟩) dLen dCap,.slice sp bs.length sCap]).run P w = .ok (goInt bs.length) w2 ∧
   w2.heap[g]? = some (.cells (bs.map u8++cur.drop bs.length).toArray t (0,0))∧Kept [g] w w2:=by
 by_cases h0:bs = []
 ·subst h0
  exact ⟨w,run_copy_none (P:=P) w dT sT ty elem _ sp dLen dCap 0 sCap hu hsz (by simp),by simpa using hg,Kept.refl _ _⟩
 ·have hp:0 < (bs.map u8).length:=by rw [List.length_map]; exact List.length_pos_iff.2 h0
  obtain ⟨ad,rfl,hc⟩:=hs.src hp
  have hr:=run_copy_row (P:=P) w dT sT ty elem g 0 dLen dCap ad bs.length sCap cur.toArray t (bs.map u8) hu hsz hg (by rw [List.length_map]; exact (Nat.min_eq_left hd).symm) hc (by simpa using hfit) (xa3q bs)
  refine ⟨_,by simpa using hr,?_,?_⟩
  ·exact setRow_heap w g _ _ t _ hg
  ·exact ⟨rfl,rfl,rfl,by simp [World.setRow],fun k _ hn=>setRow_other w g k _ (by simpa using hn)⟩
theorem xa3i {w:World} {g:Nat} {bs:List Nat} (h:w.heap[g]? = some (.cells (bs.map u8).toArray 5 (0,0))) (hb:∀ x∈bs,x < 256) (hl:bs.length≤140737488355328) :
  Rd w (.slice (some ⟨g,0,none⟩) bs.length bs.length) bs:=by
 refine ⟨_,_,_,rfl,rfl,Nat.le_refl _,⟨by omega,hl⟩,by simp,hb,fun _=>⟨g,0,rfl,fun i hi=>?_⟩⟩
 rw [cell_of_row w g (0 + i) _ 5 (0,0) h]
 simp [List.getD_eq_getElem?_getD,List.getElem?_eq_getElem hi]
set_option maxHeartbeats 400000 in
theorem xa3h (v:Value) (bs:List Nat) (w:World) (h:Rd w v bs) :
  Calls Tryz.prog 192 #[v] w fun e w'=>e = .returned (.slice (some ⟨w.heap.size,0,none⟩) bs.length bs.length)∧Kept [] w w' ∧
   w'.heap[w.heap.size]? = some (.cells (bs.map u8).toArray 5 (0,0)):=by
 have hk:Rd (w.alloc (.cells (zeros bs.length).toArray 5)) v bs:=h.kept ((Kept.refl [] w).alloc _) (by simp)
 obtain ⟨ao,len,cap,rfl,rfl,h2,⟨h3,h3'⟩,h4,h5,h6⟩:=h
 have hmk:=run_make_row' (P:=Tryz.prog) 49 5 (.int .u8 0) 1 Tryz.underlying49 Tryz.info5 rfl .i64 .i64 bs.length (by omega) (by omega)
 simp only [madeZeros] at hmk
 obtain ⟨w2,hrun,hg,hw⟩:=xa1j 49 49 3 5 Tryz.underlying49 Tryz.size5 _ w.heap.size bs.length bs.length cap ao bs (zeros bs.length) 5 (heap_alloc_new w _) hk (Nat.le_refl _) (by simp [zeros])
 have HG:=hide hg
 have HW:=hide hw
 clear hg hw hk h6
 go_enter Tryz.func192,Tryz.ntmps192
 go_wp2
 go_ret
 refine ⟨rfl,((Kept.refl [] w).alloc _).trans (uh HW) (by simp),?_⟩
 rw [uh HG]; simp [zeros]
set_option maxRecDepth 100000
structure WrAt (w:World) (b:Nat) (v:Value) (bs:List Nat):Prop where
 at_:w.heap[b]? = some (.cells #[v] 250 (0,0))
 own:w.ownsRow 0 5 1 v bs.length (bs.map u8)
 byte:∀ x∈bs,x < 256
structure Grew (b:Nat) (v v':Value) (w w':World):Prop where
 kept:Kept (b :: v.ownBlock.toList) w w'
 own:v'.ownBlock = v.ownBlock∨∃ g,v'.ownBlock = some g∧w.heap.size≤g
theorem Grew.refl (b:Nat) (v:Value) (w:World):Grew b v v w w:=⟨Kept.refl _ _,.inl rfl⟩
theorem Grew.trans {b:Nat} {v1 v2 v3:Value} {w1 w2 w3:World} (h:Grew b v1 v2 w1 w2) (k:Grew b v2 v3 w2 w3):Grew b v1 v3 w1 w3:=by
 refine ⟨h.kept.trans k.kept ?_,?_⟩
 ·intro x hx
  simp only [List.mem_cons,Option.mem_toList] at hx
  rcases hx with rfl | hx
  ·left; simp
  ·rcases h.own with h1 | ⟨g,h1,h2⟩
   ·left; rw [h1] at hx; simp [hx]
   ·right; rw [h1] at hx; cases hx; exact h2
 ·rcases k.own with k1 | ⟨g,k1,k2⟩
  ·rw [k1]; rcases h.own with h1 | h1
   ·exact .inl h1
   ·exact .inr h1
  ·exact .inr ⟨g,k1,Nat.le_trans h.kept.size k2⟩
theorem WrAt.ne {w:World} {b:Nat} {v:Value} {bs:List Nat} (h:WrAt w b v bs):v.ownBlock≠some b:=by
 intro e
 rcases h.own.2 with ⟨rfl,_⟩ | ⟨g,cap,cur,rfl,_,hg,_⟩
 ·simp [Value.ownBlock] at e
 ·simp [Value.ownBlock] at e
  subst e
  rw [h.at_] at hg; simp at hg
theorem WrAt.lt {w:World} {b:Nat} {v:Value} {bs:List Nat} (h:WrAt w b v bs):b < w.heap.size:=lt_of_block h.at_
theorem WrAt.ownlt {w:World} {b:Nat} {v:Value} {bs:List Nat} (h:WrAt w b v bs) {g:Nat} (hg:v.ownBlock = some g):g < w.heap.size:=(h.own.lt g hg).2
theorem WrAt.kept {L:List Nat} {w w':World} {b:Nat} {v:Value} {bs:List Nat} (h:WrAt w b v bs) (k:Kept L w w') (hb:b∉L) (hv:∀ g,v.ownBlock = some g→g∉L):WrAt w' b v bs :=
 ⟨k.heap h.at_ hb,k.owns h.own hv,h.byte⟩
theorem WrAt.rd {w:World} {b:Nat} {v:Value} {bs:List Nat} (h:WrAt w b v bs) (hl:bs.length≤140737488355328):Rd w v bs:=by
 rcases h.own.2 with ⟨rfl,h0⟩ | ⟨g,cap,cur,rfl,_,hg,hc,hm,hs,ht⟩
 ·have:bs = []:=List.eq_nil_of_length_eq_zero h0
  subst this
  exact Rd.nil w
 ·refine ⟨_,_,_,rfl,rfl,hc,⟨by unfold maxLen at hm; omega,hl⟩,by simp,h.byte,fun _=>⟨g,0,rfl,fun i hi=>?_⟩⟩
  have:=h.own.cells (g:=g) rfl i (u8 (bs.getD i 0)) (by rw [List.getElem?_map,List.getD_eq_getElem?_getD,List.getElem?_eq_getElem hi]; rfl)
  rw [Addr.add_mid] at this; exact this
theorem WrAt.alloc {w:World} {b:Nat} {v:Value} {bs:List Nat} (h:WrAt w b v bs) (o:Obj):WrAt (w.alloc o) b v bs :=
 h.kept ((Kept.refl [] w).alloc o) (by simp) (by simp)
theorem WrAt.drew {w:World} {b:Nat} {v:Value} {bs:List Nat} (h:WrAt w b v bs):WrAt w.drew b v bs:=⟨h.at_,h.own,h.byte⟩
theorem Grew.alloc {a w:World} {b:Nat} {v v':Value} (h:Grew b v v' a w) (o:Obj):Grew b v v' a (w.alloc o):=⟨h.kept.alloc o,h.own⟩
theorem Grew.drew {a w:World} {b:Nat} {v v':Value} (h:Grew b v v' a w):Grew b v v' a w.drew:=⟨h.kept.drew,h.own⟩
theorem Grew.fresh {b B:Nat} {v v':Value} {w w':World} (h:Grew b v v' w w') (hv:∀ g,v.ownBlock = some g→B≤g) (hB:B≤w.heap.size):∀ g,v'.ownBlock = some g→B≤g:=by
 intro g hg
 rcases h.own with h1 | ⟨k,h1,h2⟩
 ·exact hv g (by rw [← h1]; exact hg)
 ·rw [h1] at hg; cases hg; omega
theorem Grew.keptNil {b:Nat} {v v':Value} {a w w':World} (h:Grew b v v' w w') (k:Kept [] a w) (hb:a.heap.size≤b) (hv:∀ g,v.ownBlock = some g→a.heap.size≤g):Kept [] a w' :=
 k.trans h.kept (by intro x hx; right; simp only [List.mem_cons,Option.mem_toList] at hx; rcases hx with rfl | hx; exact hb; exact hv x hx)
theorem push (w:World) (b:Nat) (v:Value) (bs:List Nat) (z:Int) (H:Nat) (h:WrAt w b v bs) (hnew:w.heap[H]? = some (.cells #[.int .u8 z] 5 (0,0))) (z0:0≤z) (z1:z < 256) (hl:bs.length + 1≤140737488355328) :
  ∃ g cap w1,(Builtin.append_ #[49,49] 49 #[v,.slice (some ⟨H,0,none⟩) 1 1]).run Tryz.prog w = .ok (.slice (some ⟨g,0,none⟩) (bs.length + 1) cap) w1 ∧
   w1.heap[b]? = some (.cells #[v] 250 (0,0)) ∧
   WrAt (w1.setCell ⟨b,0,none⟩ (.slice (some ⟨g,0,none⟩) (bs.length + 1) cap)) b (.slice (some ⟨g,0,none⟩) (bs.length + 1) cap) (bs++[z.toNat]) ∧
   Grew b v (.slice (some ⟨g,0,none⟩) (bs.length + 1) cap) w (w1.setCell ⟨b,0,none⟩ (.slice (some ⟨g,0,none⟩) (bs.length + 1) cap)):=by
 obtain ⟨i0,hi,hz0,hz1,hz2⟩:=info_parts Tryz.info5
 obtain ⟨g,cap,w1,hr,hown,hgrow,hat,hlt⟩:=run_append_lies (P:=Tryz.prog) w 49 49 0 5 i0 (.int .u8 0) 1 1 Tryz.underlying49 hi hz0 hz1 hz2 rfl (by decide)
  v bs.length (bs.map u8) h.own ⟨H,0,none⟩ 1 1 [.int .u8 z] rfl (World.news_of_block hnew) (by simp [Value.oneCell']) (by decide) (by unfold maxLen; omega) (by omega) (Nat.zero_le _) _ rfl
 have hb1:w1.heap[b]? = some (.cells #[v] 250 (0,0)):=by
  rw [hgrow.block b h.lt (Ne.symm h.ne)]; exact h.at_
 refine ⟨g,cap,w1,hr,hb1,⟨one_setCell hb1,?_,?_⟩,⟨?_,?_⟩⟩
 ·have e:(bs++[z.toNat]).length = bs.length + 1:=by simp
  have e2:(bs++[z.toNat]).map u8 = bs.map u8++[.int .u8 z]:=by
   rw [List.map_append]; congr 1; simp [u8]; omega
  rw [e,e2]
  refine ownsRow_setCell_other hown ?_ _
  intro e3
  simp [Value.ownBlock] at e3
  subst e3
  rcases hown.2 with ⟨h1,_⟩ | ⟨g',cap',cur,h1,_,h2,_⟩
  ·cases h1
  ·cases h1; rw [hb1] at h2; simp at h2
 ·intro x hx; simp at hx; rcases hx with hx | rfl; exact h.byte x hx; omega
 ·have k1:Kept (b :: v.ownBlock.toList) w w1:=(Kept.refl (b :: v.ownBlock.toList) w).grown hgrow (by intro k hk; left; simp [hk])
  exact k1.setCell (by simp) _
 ·rcases hat with hat | hat
  ·left; rw [hat]; rfl
  ·right; exact ⟨g,rfl,by rw [hat]; exact Nat.le_refl _⟩
theorem xb7s {o:Oper} {a:Act} {K:Act→World→Prop} {Q:Exit→Act→World→Prop} (s x:Operand)
  (ho:o.op = .call { callee:=.builtin .append,args:=#[s,x],argTypes:=#[49,49] }) (hty:o.type = 49)
  (w:World) (b:Nat) (v:Value) (bs:List Nat) (z:Int) (H:Nat) (h:WrAt w b v bs) (hnew:w.heap[H]? = some (.cells #[.int .u8 z] 5 (0,0))) (z0:0≤z) (z1:z < 256) (hl:bs.length + 1≤140737488355328)
  (hs:a.eval s = v) (hx:a.eval x = .slice (some ⟨H,0,none⟩) 1 1)
  (hK:∀ g cap w1,w1.cell? ⟨b,0,none⟩ = some v→w1.frozen? ⟨b,0,none⟩ = false →
   Hid (WrAt (w1.setCell ⟨b,0,none⟩ (.slice (some ⟨g,0,none⟩) (bs.length + 1) cap)) b (.slice (some ⟨g,0,none⟩) (bs.length + 1) cap) (bs++[z.toNat])) →
   Hid (Grew b v (.slice (some ⟨g,0,none⟩) (bs.length + 1) cap) w (w1.setCell ⟨b,0,none⟩ (.slice (some ⟨g,0,none⟩) (bs.length + 1) cap))) →
   K (a.put o.dst (.slice (some ⟨g,0,none⟩) (bs.length + 1) cap)) w1):o.wp Tryz.prog a w K Q:=by
 obtain ⟨g,cap,w1,hr,hb1,h2,h3⟩:=push w b v bs z H h hnew z0 z1 hl
 unfold Oper.wp execOp
 simp only [ho,hty,resolve,invoke,builtin,Sem.run_bind,Sem.run_pure,Result.andThen_ok,List.map_toArray,List.map_cons,List.map_nil,hs,hx,hr]
 exact hK g cap w1 (cell_of_one hb1) (free_of_one hb1) h2 h3
theorem xa4b {ops:Array Oper} {rest:List Oper} {o:Oper} {a:Act} {Q:Exit→Act→World→Prop} (hgd:o.guard = none) (s x:Operand)
  (ho:o.op = .call { callee:=.builtin .append,args:=#[s,x],argTypes:=#[49,49] }) (hty:o.type = 49)
  (w:World) (b:Nat) (v:Value) (bs:List Nat) (z:Int) (H:Nat) (h:WrAt w b v bs) (hnew:w.heap[H]? = some (.cells #[.int .u8 z] 5 (0,0))) (z0:0≤z) (z1:z < 256) (hl:bs.length + 1≤140737488355328)
  (hs:a.eval s = v) (hx:a.eval x = .slice (some ⟨H,0,none⟩) 1 1)
  (hK:∀ g cap w1,w1.cell? ⟨b,0,none⟩ = some v→w1.frozen? ⟨b,0,none⟩ = false →
   Hid (WrAt (w1.setCell ⟨b,0,none⟩ (.slice (some ⟨g,0,none⟩) (bs.length + 1) cap)) b (.slice (some ⟨g,0,none⟩) (bs.length + 1) cap) (bs++[z.toNat])) →
   Hid (Grew b v (.slice (some ⟨g,0,none⟩) (bs.length + 1) cap) w (w1.setCell ⟨b,0,none⟩ (.slice (some ⟨g,0,none⟩) (bs.length + 1) cap))) →
   wpList Tryz.prog ops Q rest (a.put o.dst (.slice (some ⟨g,0,none⟩) (bs.length + 1) cap)) w1) :
  wpList Tryz.prog ops Q (o :: rest) a w :=
 wpList_plain hgd fun _ hK'=>xb7s s x ho hty w b v bs z H h hnew z0 z1 hl hs hx fun g cap w1 h1 h2 h3 h4=>hK' _ _ (hK g cap w1 h1 h2 h3 h4)
theorem xb5s {ops:Array Oper} {o:Oper} {a:Act} {K:Act→World→Prop} {Q:Exit→Act→World→Prop} {E:Prop} (hgd:o.guard = none) (s x:Operand)
  (ho:o.op = .call { callee:=.builtin .append,args:=#[s,x],argTypes:=#[49,49] }) (hty:o.type = 49)
  (w:World) (b:Nat) (v:Value) (bs:List Nat) (z:Int) (H:Nat) (h:WrAt w b v bs) (hnew:w.heap[H]? = some (.cells #[.int .u8 z] 5 (0,0))) (z0:0≤z) (z1:z < 256) (hl:bs.length + 1≤140737488355328)
  (hs:a.eval s = v) (hx:a.eval x = .slice (some ⟨H,0,none⟩) 1 1)
  (hK:∀ g cap w1,w1.cell? ⟨b,0,none⟩ = some v→w1.frozen? ⟨b,0,none⟩ = false →
   Hid (WrAt (w1.setCell ⟨b,0,none⟩ (.slice (some ⟨g,0,none⟩) (bs.length + 1) cap)) b (.slice (some ⟨g,0,none⟩) (bs.length + 1) cap) (bs++[z.toNat])) →
   Hid (Grew b v (.slice (some ⟨g,0,none⟩) (bs.length + 1) cap) w (w1.setCell ⟨b,0,none⟩ (.slice (some ⟨g,0,none⟩) (bs.length + 1) cap))) →
   K (a.put o.dst (.slice (some ⟨g,0,none⟩) (bs.length + 1) cap)) w1) :
  if Region.wanted o (yielded ops a.tmps) = true then Oper.wp Tryz.prog o a w K Q else E:=by
 have hw:Region.wanted o (yielded ops a.tmps) = true:=by simp [Region.wanted,hgd]
 rw [if_pos hw]
 exact xb7s s x ho hty w b v bs z H h hnew z0 z1 hl hs hx hK
set_option maxRecDepth 100000
attribute [local go_sem ↓] Go.wp_at_zero Go.wp_at_succ
theorem shr8 (x j:Nat) (hj:j≤7):Op.shift .shr .u64 (x:Int) .i64 (IntKind.i64.wrap (8 * (j:Int))) = pure (.int .u64 ((x / 256 ^ j:Nat):Int)):=by
 have e:IntKind.i64.wrap (8 * (j:Int)) = ((8 * j:Nat):Int):=by simp [IntKind.wrap,IntKind.bits,IntKind.signed]; omega
 rw [e,shift_shr .u64 .i64 _ _ (by omega) (by simp [IntKind.bits]; omega),Int.toNat_natCast,Int.pow_mul]
 simp
set_option maxHeartbeats 1000000 in
theorem xa2r (b:Nat) (v:Value) (bs:List Nat) (x n:Nat) (w:World) (hw:WrAt w b v bs) (hn:n≤8) (hl:bs.length + 8≤140737488355328) :
  Calls Tryz.prog 210 #[.pointer (some ⟨b,0,none⟩),.int .u64 x,.int .i64 n] w fun e w'=>e = .returned (.tuple #[])∧∃ v',WrAt w' b v' (bs++wide x n)∧Grew b v v' w w':=by
 go_enter Tryz.func210,Tryz.ntmps210
 go_wp2_with fail
 go_loopw [6] (fun t wr=>∃ (k:Nat) (cur:List Nat) (v':Value),t = .int .i64 ((k:Int) - 1)∧k≤n∧Hid (cur++wide x k = bs++wide x n)∧Hid (WrAt wr b v' cur)∧Hid (Grew b v v' w wr)) (fun t _=>(intOf t + 1).toNat)
 case atStart=>exact ⟨n,bs,v,rfl,Nat.le_refl _,rfl,hw,Grew.refl _ _ _⟩
 case round =>
  obtain ⟨k,cur,v',rfl,hk,Hp,HW,HG⟩:=hrel
  have hlen:cur.length + k≤140737488355328:=by have h1:=congrArg List.length (uh Hp); simp [xa0d] at h1; omega
  have hc0:=cell_of_one (uh HW).at_
  by_cases h0:k = 0
  ·subst h0
   go_wp2_with fail
   go_end0
   refine ⟨rfl,_,?_,uh HG⟩
   have h1:=uh Hp
   simp only [wide,List.append_nil] at h1
   rw [← h1]; exact uh HW
  ·obtain ⟨j,rfl⟩:∃ j,k = j + 1:=⟨k - 1,by omega⟩
   have e1:(((j + 1:Nat):Int) - 1) = (j:Int):=by omega
   rw [e1]
   have hj0:(0:Int)≤(j:Int):=by omega
   have hj8:(j:Int)≤7:=by omega
   obtain ⟨q,hq⟩:∃ q,q = x / 256 ^ j:=⟨_,rfl⟩
   have hsh:=shr8 x j (by omega)
   rw [← hq] at hsh
   have Hq:=hide hq
   clear hq
   have hz0:0≤IntKind.u8.wrap (q:Int):=by rw [IntKind.wrap_u8']; omega
   have hz1:IntKind.u8.wrap (q:Int) < 256:=by rw [IntKind.wrap_u8']; omega
   have hca:∀ o,(wr.alloc o).cell? ⟨b,0,none⟩ = some v':=fun o=>cell_of_one ((uh HW).alloc o).at_
   have hlen1:cur.length + 1≤140737488355328:=by omega
   go_wp2_with fail
   go_region_law ((refine xb5s (by rfl) (.tmp 19) (.tmp 25) (by rfl) (by rfl) _ b v' cur (IntKind.u8.wrap (q:Int)) wr.heap.size (by first | exact (uh HW).drew.alloc _ | exact ((uh HW).alloc _).drew) (by exact heap_alloc_new wr _) hz0 hz1 hlen1 (by simp [Act.eval]) (by simp [Act.eval]) ?_; intro g cap w1 hc1 hf1 HW1 HG1))
   all_goals
    go_wp2
    go_roundw
    case rel =>
     refine ⟨j,cur++[q % 256],_,rfl,by omega,?_,?_,(((uh HG).alloc _).drew).trans (uh HG1)⟩
     ·rw [← uh Hp,uh Hq]; show _ = _; simp [wide]
     ·have h1:=uh HW1
      rw [show (IntKind.u8.wrap (q:Int)).toNat = q % 256 from by rw [IntKind.wrap_u8']; omega] at h1; exact h1
    case measure=>simp [intOf]
set_option maxRecDepth 100000
set_option maxHeartbeats 1000000 in
theorem xa8x (b:Nat) (v:Value) (bs:List Nat) (x:Nat) (w:World) (hw:WrAt w b v bs) (hx:x < 18446744073709551616) (hl:bs.length + 10≤140737488355328) :
  Calls Tryz.prog 154 #[.pointer (some ⟨b,0,none⟩),.int .u64 x] w fun e w'=>e = .returned (.tuple #[])∧∃ v',WrAt w' b v' (bs++uv x)∧Grew b v v' w w':=by
 go_enter Tryz.func154,Tryz.ntmps154
 go_wp2_with fail
 go_loopw [1] (fun t wr=>∃ (y:Nat) (cur:List Nat) (v':Value),t = .int .u64 y∧y≤x∧Hid (cur++uv y = bs++uv x)∧Hid (WrAt wr b v' cur)∧Hid (Grew b v v' w wr)) (fun t _=>(intOf t).toNat)
 case atStart=>exact ⟨x,bs,v,rfl,Nat.le_refl _,rfl,hw,Grew.refl _ _ _⟩
 case round =>
  obtain ⟨y,cur,v',rfl,hy,Hp,HW,HG⟩:=hrel
  have hlen:cur.length + 1≤140737488355328:=by have h1:=congrArg List.length (uh Hp); have h2:=uv_len x hx; have h3:=uv_pos y; simp at h1; omega
  have hc0:=cell_of_one (uh HW).at_
  by_cases hlt:y < 128
  ·have hlt':(y:Int) < 128:=by omega
   go_wp2_with (at_builtin; go_must (refine xa4b rfl (.tmp 26) (.tmp 29) rfl rfl _ b v' cur _ wr.heap.size (by exact (uh HW).alloc _) (by exact heap_alloc_new wr _) ?_ ?_ hlen rfl rfl ?_; rotate_right; intro g cap w1 hc1 hf1 HW1 HG1))
   ·go_end0
    refine ⟨rfl,_,?_,((uh HG).alloc _).trans (uh HG1)⟩
    have h1:=uh HW1
    rw [Int.toNat_natCast] at h1
    rw [← uh Hp,uv_lt hlt]; exact h1
   ·omega
   ·omega
  ·have hor:=or128 ((y:Int) % 256) (by omega) (by omega)
   have hge:128≤(y:Int):=by omega
   go_wp2_with (at_builtin; go_must (refine xa4b rfl (.tmp 14) (.tmp 18) rfl rfl _ b v' cur _ wr.heap.size (by exact (uh HW).alloc _) (by exact heap_alloc_new wr _) ?_ ?_ hlen rfl rfl ?_; rotate_right; intro g cap w1 hc1 hf1 HW1 HG1))
   ·go_roundw
    case rel =>
     refine ⟨y / 128,cur++[y % 128 + 128],_,by simp,by omega,?_,?_,((uh HG).alloc _).trans (uh HG1)⟩
     ·rw [← uh Hp,uv_ge (v:=y) (by omega)]; show _ = _; simp
     ·have h1:=uh HW1
      rw [show ((y:Int) % 128 + 128).toNat = y % 128 + 128 from by omega] at h1; exact h1
    case measure=>simp [intOf]; omega
   ·omega
   ·omega
set_option maxRecDepth 100000
set_option maxHeartbeats 400000 in
theorem xb1k (b:Nat) (v:Value) (bs:List Nat) (w:World) (hw:WrAt w b v bs) (hl:bs.length≤140737488355328) :
  Calls Tryz.prog 156 #[.pointer (some ⟨b,0,none⟩)] w fun e w'=>e = .returned (.slice (some ⟨w.heap.size,0,none⟩) bs.length bs.length)∧Kept [] w w' ∧
   w'.heap[w.heap.size]? = some (.cells (bs.map u8).toArray 5 (0,0)):=by
 have hc0:=cell_of_one hw.at_
 have HR:=hide (hw.rd hl)
 go_enter Tryz.func156,Tryz.ntmps156
 go_wp2_with (go_at_call 192; go_must (refine (xa3h v bs _ (uh HR)).mono ?_; rintro e w1 ⟨rfl,hk,hg⟩; have HK:=hide hk; have HG:=hide hg; clear hk hg))
 go_ret
 exact ⟨rfl,uh HK,uh HG⟩
theorem xa6v {p q:List Nat} {k:Nat} (h:p.take k = q.take k) (hp:k < p.length) (hq:k < q.length) (e:p.getD k 0 = q.getD k 0):p.take (k + 1) = q.take (k + 1):=by
 rw [List.take_succ_eq_append_getElem hp,List.take_succ_eq_append_getElem hq,h]
 rw [List.getD_eq_getElem?_getD,List.getD_eq_getElem?_getD,List.getElem?_eq_getElem hp,List.getElem?_eq_getElem hq] at e
 simp only [Option.getD_some] at e
 rw [e]
theorem xa9p (w:World) (n m:Nat):(w.drewN n).drewN m = w.drewN (n + m):=by simp [World.drewN,Nat.add_assoc]
theorem xb1m {p q:List Nat} {k:Nat} (e:p.getD k 0≠q.getD k 0):p≠q:=fun h=>e (by rw [h])
set_option maxHeartbeats 1000000 in
theorem xb0v (u v:Value) (p q:List Nat) (w:World) (hu:Rd w u p) (hv:Rd w v q) :
  Calls Tryz.prog 124 #[u,v] w fun e w'=>e = .returned (.bool (decide (p = q)))∧∃ n,w' = w.drewN n:=by
 obtain ⟨ao,len,cap,rfl,rfl,h2,⟨h3,h3'⟩,h4,h5,h6⟩:=hu
 obtain ⟨ao',len',cap',rfl,rfl,g2,⟨g3,g3'⟩,g4,g5,g6⟩:=hv
 have H6:=hide h6
 have G6:=hide g6
 clear h6 g6 h4 g4 h5 g5
 by_cases hl:p.length = q.length
 ·have hl':((p.length:Int) != q.length) = false:=by simp [hl]
  have Hl:=hide hl
  clear hl
  go_enter Tryz.func124,Tryz.ntmps124
  go_wp2_with fail
  go_loopw [5,13] (fun t i wr=>∃ k:Nat,k≤p.length∧i = .int .i64 k∧Hid (p.take k = q.take k)∧∃ n,wr = w.drewN n) (fun _ i _=>p.length - (intOf i).toNat)
  case atStart=>exact ⟨0,Nat.zero_le _,rfl,(by show _ = _; simp),0,rfl⟩
  case round =>
   obtain ⟨k,hk,rfl,Ht,n,rfl⟩:=hrel
   by_cases hlt:k < p.length
   ·obtain ⟨ba,oa,rfl,ha⟩:=uh H6 (by omega)
    obtain ⟨bb,ob,rfl,hb⟩:=uh G6 (by have:=uh Hl; omega)
    have ca:=ha k hlt
    have cb:=hb k (by have:=uh Hl; omega)
    have hq:(k:Int) < (q.length:Int):=by have:=uh Hl; omega
    have hp:(k:Int) < (p.length:Int):=by omega
    clear ha hb
    by_cases e:p.getD k 0 = q.getD k 0
    ·have Hn:=hide (xa6v (uh Ht) hlt (by have:=uh Hl; omega) e)
     rw [← e] at cb
     obtain ⟨x,hx⟩:∃ x,x = p.getD k 0:=⟨_,rfl⟩
     rw [← hx] at ca cb
     clear e hx
     go_wp2_with fail
     go_quiet (fail)
     go_wp2
     go_roundw
     case rel=>exact ⟨k + 1,by omega,by go_num,Hn,_,rfl⟩
     case measure=>simp [intOf]; omega
    ·have Hn:=hide (xb1m e)
     have hne:((p.getD k 0:Int) != (q.getD k 0:Int)) = true:=by rw [bne_iff_ne]; omega
     obtain ⟨x,hx⟩:∃ x,x = p.getD k 0:=⟨_,rfl⟩
     obtain ⟨y,hy⟩:∃ y,y = q.getD k 0:=⟨_,rfl⟩
     rw [← hx] at ca hne
     rw [← hy] at cb hne
     clear e hx hy
     go_wp2_with fail
     go_quiet (fail)
     go_wp2
     go_ret
     exact ⟨by simp [uh Hn],_,xa9p _ _ _⟩
   ·go_wp2
    go_ret
    have e:p = q:=by
     have h1:=uh Ht
     have h2:=uh Hl
     rwa [List.take_of_length_le (by omega),List.take_of_length_le (by omega)] at h1
    exact ⟨by simp [e],_,rfl⟩
 ·have hl':((p.length:Int) != q.length) = true:=by rw [bne_iff_ne]; omega
  have Hl:=hide hl
  clear hl
  go_enter Tryz.func124,Tryz.ntmps124
  go_wp2
  go_ret
  exact ⟨by simp; intro h; exact uh Hl (by rw [h]),0,rfl⟩
structure ReAt (w:World) (b:Nat) (gv:Value) (p:List Nat) (i e:Nat):Prop where
 at_:w.heap[b]? = some (.cells #[gv,.int .i64 i,.int .i64 e] 289 (0,0))
 rd:Rd w gv p
 le:i≤p.length
 ne:b∉blk gv
theorem ReAt.c0 {w:World} {b:Nat} {gv:Value} {p:List Nat} {i e:Nat} (h:ReAt w b gv p i e):w.cell? ⟨b,0,none⟩ = some gv:=by simp [World.cell?,h.at_]
theorem ReAt.c1 {w:World} {b:Nat} {gv:Value} {p:List Nat} {i e:Nat} (h:ReAt w b gv p i e):w.cell? ⟨b,1,none⟩ = some (.int .i64 i):=by simp [World.cell?,h.at_]
theorem ReAt.c2 {w:World} {b:Nat} {gv:Value} {p:List Nat} {i e:Nat} (h:ReAt w b gv p i e):w.cell? ⟨b,2,none⟩ = some (.int .i64 e):=by simp [World.cell?,h.at_]
theorem ReAt.free {w:World} {b:Nat} {gv:Value} {p:List Nat} {i e:Nat} (h:ReAt w b gv p i e) (o:Nat):w.frozen? ⟨b,o,none⟩ = false:=by simp [World.frozen?,h.at_]
theorem ReAt.lt {w:World} {b:Nat} {gv:Value} {p:List Nat} {i e:Nat} (h:ReAt w b gv p i e):b < w.heap.size:=lt_of_block h.at_
theorem ReAt.kept {L:List Nat} {w w':World} {b:Nat} {gv:Value} {p:List Nat} {i e:Nat} (h:ReAt w b gv p i e) (k:Kept L w w') (hb:b∉L) (hv:∀ x∈blk gv,x∉L):ReAt w' b gv p i e :=
 ⟨k.heap h.at_ hb,h.rd.kept k hv,h.le,h.ne⟩
theorem xa0k (b:Nat) (gv:Value) (p:List Nat) (i e:Nat) (w:World) (h:ReAt w b gv p i e) :
  Calls Tryz.prog 194 #[.pointer (some ⟨b,0,none⟩)] w fun r w'=>r = .returned (.int .i64 e)∧w' = w:=by
 have c2:=h.c2
 clear h
 go_enter Tryz.func194,Tryz.ntmps194
 go_wp2
 go_ret
 exact ⟨rfl,rfl⟩
theorem xb2p (x:Addr) (i:Nat):(x.add i).block = x.block:=by unfold Addr.add; split <;> rfl
theorem Rd.drop0 {w:World} {ao:Option Addr} {cap i:Nat} {p:List Nat} (h:Rd w (.slice ao p.length cap) p) (hc:cap = i) (hi:i≤p.length):Rd w (.slice ao (p.length - i) 0) (p.drop i):=by
 obtain ⟨ao',len',cap',he,_,h2,⟨h3,h3'⟩,h4,h5,h6⟩:=h
 cases he
 have e:p.length = i:=by omega
 have ed:p.drop i = []:=List.drop_eq_nil_of_le (by omega)
 rw [ed]
 exact ⟨_,_,_,rfl,by simp; omega,by omega,⟨by omega,by omega⟩,fun _=>rfl,by simp,fun hp=>by omega⟩
theorem Rd.drop {w:World} {ao:Option Addr} {cap i:Nat} {p:List Nat} (h:Rd w (.slice ao p.length cap) p) (hi:i≤p.length) :
  Rd w (.slice (Option.map (fun x=>x.add i) ao) (p.length - i) (cap - i)) (p.drop i):=by
 obtain ⟨ao',len',cap',he,_,h2,⟨h3,h3'⟩,h4,h5,h6⟩:=h
 cases he
 refine ⟨_,_,_,rfl,by simp,by omega,⟨by omega,by omega⟩,fun h=>?_,fun x hx=>h5 x (List.mem_of_mem_drop hx),fun hp=>?_⟩
 ·have:=h4 (by simpa using h); omega
 ·obtain ⟨b,off,rfl,hc⟩:=h6 (by omega)
  refine ⟨b,off + i,by simp [Addr.add_mid],fun j hj=>?_⟩
  have:=hc (i + j) (by omega)
  rw [Nat.add_assoc,this]
  simp [List.getD_eq_getElem?_getD]
theorem xb9x {ao:Option Addr} {n c n' c' i:Nat}:∀ x∈blk (.slice (Option.map (fun x=>x.add i) ao) n' c'),x∈blk (.slice ao n c):=by
 cases ao with
 | none=>simp [blk]
 | some a=>simp [blk,xb2p]
theorem xa0r (b:Nat) (gv:Value) (p:List Nat) (i e:Nat) (w:World) (h:ReAt w b gv p i e) :
  Calls Tryz.prog 197 #[.pointer (some ⟨b,0,none⟩)] w fun r w'=>∃ lv,r = .returned lv∧(∃ n,w' = w.drewN n)∧Rd w lv (p.drop i)∧∀ x∈blk lv,x∈blk gv:=by
 have c0:=h.c0
 have c1:=h.c1
 obtain ⟨_,hrd,hle,_⟩:=h
 have HR:=hide hrd
 obtain ⟨ao,len,cap,rfl,rfl,h2,⟨h3,h3'⟩,h4,h5,h6⟩:=hrd
 have i0:(0:Int)≤(i:Int):=by omega
 have i1:(i:Int)≤(p.length:Int):=by omega
 have i2:(p.length:Int)≤(cap:Int):=by omega
 clear h4 h5 h6
 go_enter Tryz.func197,Tryz.ntmps197
 go_wp2_with fail
 go_quiet (fail)
 all_goals go_wp2
 all_goals go_ret
 ·exact ⟨_,rfl,⟨_,rfl⟩,Rd.drop0 (uh HR) (by assumption) (by omega),fun x hx=>by cases ao <;> exact hx⟩
 ·exact ⟨_,rfl,⟨_,rfl⟩,Rd.drop (uh HR) (by omega),xb9x⟩
def doneE (p:List Nat) (i e:Nat):Nat:=if e = 0∧i < p.length then 3 else e
theorem xb5l (b:Nat) (gv:Value) (p:List Nat) (i e:Nat) (w:World) (h:ReAt w b gv p i e) :
  Calls Tryz.prog 138 #[.pointer (some ⟨b,0,none⟩)] w fun r w'=>r = .returned (.int .i64 (doneE p i e))∧∃ n,w' = w.drewN n:=by
 have HR:=hide h
 clear h
 by_cases he:e = 0
 ·subst he
  by_cases hi:i < p.length
  ·have hpos:(0:Int) < (p.drop i).length:=by simp; omega
   go_enter Tryz.func138,Tryz.ntmps138
   go_wp2_with (first | (go_at_call 194; go_must (refine (xa0k b gv p i 0 _ (uh HR)).mono ?_; rintro r w1 ⟨rfl,rfl⟩)) | (go_at_call 197; go_must (refine (xa0r b gv p i 0 _ (uh HR)).mono ?_; rintro r w1 ⟨lv,rfl,⟨n,rfl⟩,⟨ao,len,cap,rfl,rfl,_⟩,hb⟩; clear hb)))
   go_ret
   exact ⟨by simp [doneE,hi],_,rfl⟩
  ·have hpos:¬ (0:Int) < (p.drop i).length:=by simp; omega
   go_enter Tryz.func138,Tryz.ntmps138
   go_wp2_with (first | (go_at_call 194; go_must (refine (xa0k b gv p i 0 _ (uh HR)).mono ?_; rintro r w1 ⟨rfl,rfl⟩)) | (go_at_call 197; go_must (refine (xa0r b gv p i 0 _ (uh HR)).mono ?_; rintro r w1 ⟨lv,rfl,⟨n,rfl⟩,⟨ao,len,cap,rfl,rfl,_⟩,hb⟩; clear hb)))
   go_ret
   exact ⟨by simp [doneE,hi],_,rfl⟩
 ·have he':((e:Int) != 0) = true:=by rw [bne_iff_ne]; omega
  have Hn:=hide he
  clear he
  go_enter Tryz.func138,Tryz.ntmps138
  go_wp2_with (go_at_call 194; go_must (refine (xa0k b gv p i e _ (uh HR)).mono ?_; rintro r w1 ⟨rfl,rfl⟩))
  go_ret
  exact ⟨by simp [doneE,uh Hn],0,rfl⟩
def fuv:List Nat→Nat→Nat→Nat × Nat
 | [],_,_=>(0,0)
 | c :: r,i,a=>if i = 9∧c≠1 then (0,0) else if 128≤c then fuv r (i + 1) (a + c % 128 * 128 ^ i) else if c = 0∧0 < i then (0,0) else (a + c % 128 * 128 ^ i,i + 1)
theorem xb5u {p:List Nat} {k:Nat} (h:k < p.length):p.drop k = p.getD k 0 :: p.drop (k + 1):=by
 rw [List.drop_eq_getElem_cons h,List.getD_eq_getElem?_getD,List.getElem?_eq_getElem h]; rfl
theorem xb3f (k c:Nat) (hk:k≤9) (h9:k = 9→c = 1):c % 128 * 128 ^ k < 18446744073709551616:=by
 rcases Nat.lt_or_ge k 9 with h | h
 ·have h1:128 ^ k≤128 ^ 8:=Nat.pow_le_pow_right (by omega) (by omega)
  have h2:c % 128 < 128:=Nat.mod_lt _ (by omega)
  calc c % 128 * 128 ^ k≤127 * 128 ^ 8:=Nat.mul_le_mul (by omega) h1
   _ < 18446744073709551616:=by decide
 ·have:k = 9:=by omega
  subst this; rw [h9 rfl]; decide
theorem xb9i (k c a:Nat) (hk:k≤9) (h9:k = 9→c = 1) (ha:a < 128 ^ k):bits .or .u64 (a:Int) ((c % 128 * 128 ^ k:Nat):Int) = ((a + c % 128 * 128 ^ k:Nat):Int):=by
 have h1:=xb3f k c hk h9
 have h2:128 ^ k≤128 ^ 9:=Nat.pow_le_pow_right (by omega) hk
 rw [u64_or_nat a _ (by have h3:(128:Nat) ^ 9 = 9223372036854775808:=(by decide); omega) h1,Nat.or_comm,nat_join (7 * k) _ a (by rw [Nat.pow_mul]; exact Nat.mul_mod_left _ _) (by rw [Nat.pow_mul]; exact ha),Nat.add_comm]
theorem xb5v (k c a:Nat) (hk:k≤9) (h9:k = 9→c = 1) (ha:a < 128 ^ k):bits .or .u64 (a:Int) (IntKind.u64.wrap ((c:Int) % 128 * 2 ^ (7 * k))) = ((a + c % 128 * 128 ^ k:Nat):Int):=by
 have e2:((c:Int) % 128) * 2 ^ (7 * k) = ((c % 128 * 128 ^ k:Nat):Int):=by rw [Int.natCast_mul,Int.pow_mul]; simp
 have h1:=xb3f k c hk h9
 rw [IntKind.wrap_u64,e2,← xb9i k c a hk h9 ha]
 congr 1; omega
theorem xa5w (k c a:Nat) (ha:a < 128 ^ k):a + c % 128 * 128 ^ k < 128 ^ (k + 1):=by
 have h2:c % 128 < 128:=Nat.mod_lt _ (by omega)
 have h3:c % 128 * 128 ^ k≤127 * 128 ^ k:=Nat.mul_le_mul (by omega) (Nat.le_refl _)
 rw [Nat.pow_succ]; omega
set_option maxHeartbeats 1000000 in
theorem xa3j (v:Value) (p:List Nat) (w:World) (hv:Rd w v p) :
  Calls Tryz.prog 231 #[v] w fun r w'=>r = .returned (.tuple #[.int .u64 (fuv p 0 0).1,.int .i64 (fuv p 0 0).2])∧w' = w:=by
 obtain ⟨ao,len,cap,rfl,rfl,h2,⟨h3,h3'⟩,h4,h5,h6⟩:=hv
 have H6:=hide h6
 clear h6 h4
 go_enter Tryz.func231,Tryz.ntmps231
 go_wp2_with fail
 go_loopw [4,5,6,9] (fun t4 t5 t6 t9 wr=>∃ k a:Nat,k≤p.length∧k≤9∧t9 = .int .i64 k∧t4 = .int .u64 a∧Hid (a < 128 ^ k)∧Hid (fuv (p.drop k) k a = fuv p 0 0)∧wr = w) (fun _ _ _ i _=>p.length - (intOf i).toNat)
 case atStart=>exact ⟨0,0,Nat.zero_le _,Nat.zero_le _,rfl,rfl,hide (by decide),rfl,rfl⟩
 case round =>
  obtain ⟨k,a,hk,hk9,rfl,rfl,Ha,Hf,rfl⟩:=hrel
  by_cases hlt:k < p.length
  ·obtain ⟨b,o,rfl,hc⟩:=uh H6 (by omega)
   have hck:=hc k hlt
   have hcb:p.getD k 0 < 256:=h5 _ (by rw [List.getD_eq_getElem?_getD,List.getElem?_eq_getElem hlt]; exact List.getElem_mem hlt)
   have hfk:=uh Hf
   rw [xb5u hlt,fuv] at hfk
   obtain ⟨c,hcc⟩:∃ c,c = p.getD k 0:=⟨_,rfl⟩
   rw [← hcc] at hck hfk hcb
   clear hc hcc h5
   by_cases h9:k = 9∧c≠1
   ·rw [if_pos h9] at hfk
    obtain ⟨rfl,hc1⟩:=h9
    have t1:((c:Int) != 1) = true:=by rw [bne_iff_ne]; omega
    have HF:=hide hfk
    clear hfk hc1
    go_wp2
    go_ret2
    exact ⟨by rw [← uh HF]; rfl,rfl⟩
   ·have h9':k = 9→c = 1:=by intro h; omega
    rw [if_neg h9] at hfk
    have hval:=xb5v k c a hk9 h9' (uh Ha)
    have Hn:=hide (xa5w k c a (uh Ha))
    obtain ⟨a',ha'⟩:∃ a',a' = a + c % 128 * 128 ^ k:=⟨_,rfl⟩
    rw [← ha'] at hval Hn hfk
    by_cases hbig:128≤c
    ·rw [if_pos hbig] at hfk
     have HF:=hide hfk
     have hk8:k≤8:=by omega
     have t9:((k:Int) == 9) = false:=by simp; omega
     have tb:(128:Int)≤c:=by omega
     clear ha' hfk h9 h9'
     go_wp2
     go_roundw
     case rel=>exact ⟨k + 1,a',by omega,by omega,by go_num,rfl,Hn,HF,trivial⟩
     case measure=>simp [intOf]; omega
    ·rw [if_neg hbig] at hfk
     have tb:(c:Int) < 128:=by omega
     by_cases hz:c = 0∧0 < k
     ·rw [if_pos hz] at hfk
      have HF:=hide hfk
      obtain ⟨rfl,hk0⟩:=hz
      have hk8:k≤8:=by omega
      have t9:((k:Int) == 9) = false:=by simp; omega
      have tk:(0:Int) < k:=by omega
      clear ha' hfk h9 h9'
      go_wp2
      go_ret2
      exact ⟨by rw [← uh HF]; rfl,rfl⟩
     ·rw [if_neg hz] at hfk
      have HF:=hide hfk
      clear ha' hfk
      by_cases hc0:c = 0
      ·have t9:((k:Int) == 9) = false:=by simp; omega
       have t0:((c:Int) == 0) = true:=by simp; omega
       have tk:¬ (0:Int) < k:=by omega
       clear h9 h9' hz hc0
       go_wp2
       go_ret2
       exact ⟨by rw [← uh HF]; simp,rfl⟩
      ·have t0:((c:Int) == 0) = false:=by simp; omega
       by_cases hk9':k = 9
       ·have t9:((k:Int) == 9) = true:=by simp; omega
        have t1:((c:Int) != 1) = false:=by have:=h9' hk9'; simp; omega
        clear h9 h9' hz hk9'
        go_wp2
        go_ret2
        exact ⟨by rw [← uh HF]; simp,rfl⟩
       ·have t9:((k:Int) == 9) = false:=by simp; omega
        clear h9 h9' hz
        go_wp2
        go_ret2
        exact ⟨by rw [← uh HF]; simp,rfl⟩
  ·have e:p.drop k = []:=List.drop_eq_nil_of_le (by omega)
   have HF:=hide (by rw [← uh Hf,e,fuv]:fuv p 0 0 = (0,0))
   clear e
   go_wp2
   go_ret2
   exact ⟨by rw [uh HF]; rfl,rfl⟩
theorem fuv_le (q:List Nat):∀ k a,(fuv q k a).2≤k + q.length:=by
 induction q with
 | nil=>intro k a; simp [fuv]
 | cons c r ih =>
  intro k a
  rw [fuv]
  split
  ·simp
  ·split
   ·have:=ih (k + 1) (a + c % 128 * 128 ^ k); simp only [List.length_cons]; omega
   ·split
    ·simp
    ·simp only [List.length_cons]; omega
theorem Rd.drewN {w:World} {v:Value} {p:List Nat} (h:Rd w v p) (n:Nat):Rd (w.drewN n) v p:=h
theorem ReAt.drewN {w:World} {b:Nat} {gv:Value} {p:List Nat} {i e:Nat} (h:ReAt w b gv p i e) (n:Nat):ReAt (w.drewN n) b gv p i e:=⟨h.at_,h.rd,h.le,h.ne⟩
theorem ReAt.setAt {w:World} {b:Nat} {gv:Value} {p:List Nat} {i e:Nat} (h:ReAt w b gv p i e) (j:Nat) (hj:j≤p.length):ReAt (w.setCell ⟨b,1,none⟩ (.int .i64 j)) b gv p j e:=by
 refine ⟨?_,h.rd.kept ((Kept.refl [b] w).setCell (by simp) _) (by intro x hx; simp; rintro rfl; exact h.ne hx),hj,h.ne⟩
 rw [heap_setCell_same w b 1 _ 289 _ h.at_]; rfl
theorem ReAt.setFault {w:World} {b:Nat} {gv:Value} {p:List Nat} {i e:Nat} (h:ReAt w b gv p i e) (f:Nat):ReAt (w.setCell ⟨b,2,none⟩ (.int .i64 f)) b gv p i f:=by
 refine ⟨?_,h.rd.kept ((Kept.refl [b] w).setCell (by simp) _) (by intro x hx; simp; rintro rfl; exact h.ne hx),h.le,h.ne⟩
 rw [heap_setCell_same w b 2 _ 289 _ h.at_]; rfl
def rUvar (p:List Nat) (i e:Nat):Nat × Nat × Nat :=
 if e≠0 then (0,i,e) else if (fuv (p.drop i) 0 0).2 = 0 then (0,i,3) else ((fuv (p.drop i) 0 0).1,i + (fuv (p.drop i) 0 0).2,0)
set_option maxHeartbeats 1000000 in
theorem xa8q (b:Nat) (gv:Value) (p:List Nat) (i e:Nat) (w:World) (h:ReAt w b gv p i e) :
  Calls Tryz.prog 193 #[.pointer (some ⟨b,0,none⟩)] w fun r w'=>r = .returned (.int .u64 (rUvar p i e).1)∧ReAt w' b gv p (rUvar p i e).2.1 (rUvar p i e).2.2∧Kept [b] w w':=by
 have HR:=hide h
 have c1:=h.c1
 have c2:=h.c2
 have f1:=h.free 1
 have f2:=h.free 2
 have hl:p.length≤140737488355328:=by obtain ⟨_,_,_,_,rfl,_,⟨_,h3⟩,_⟩:=h.rd; exact h3
 have hle:=h.le
 clear h
 by_cases he:e = 0
 ·subst he
  by_cases hs:(fuv (p.drop i) 0 0).2 = 0
  ·have HV:=hide (by simp [rUvar,hs]:rUvar p i 0 = (0,i,3))
   obtain ⟨x,s,hx⟩:∃ x s,fuv (p.drop i) 0 0 = (x,s):=⟨_,_,rfl⟩
   rw [hx] at hs
   simp only at hs
   subst hs
   have HX:=hide hx
   clear hx
   go_enter Tryz.func193,Tryz.ntmps193
   go_wp2_with (first
    | (go_at_call 194; go_must (refine (xa0k b gv p i 0 _ (uh HR)).mono ?_; rintro r w1 ⟨rfl,hw1⟩; subst w1))
    | (go_at_call 197; go_must (refine (xa0r b gv p i 0 _ (uh HR)).mono ?_; rintro r w1 ⟨lv,rfl,⟨n,hw1⟩,hq,hb⟩; subst w1; have HQ:=hide hq; clear hq hb))
    | (go_at_call 231; go_must (refine (xa3j lv (p.drop i) _ (by exact (uh HQ).drewN _)).mono ?_; rintro r w1 ⟨rfl,hw1⟩; subst w1; rw [uh HX])))
   go_ret
   rw [uh HV]
   exact ⟨rfl,((uh HR).drewN _).setFault 3,((Kept.refl [b] w).drewN _).setCell (by simp) _⟩
  ·have HV:=hide (by simp [rUvar,hs]:rUvar p i 0 = ((fuv (p.drop i) 0 0).1,i + (fuv (p.drop i) 0 0).2,0))
   have hfl:=fuv_le (p.drop i) 0 0
   obtain ⟨x,s,hx⟩:∃ x s,fuv (p.drop i) 0 0 = (x,s):=⟨_,_,rfl⟩
   rw [hx] at hs HV hfl
   simp only [List.length_drop] at hs HV hfl
   have HX:=hide hx
   have ts:((s:Int) == 0) = false:=by simp; omega
   clear hx
   go_enter Tryz.func193,Tryz.ntmps193
   go_wp2_with (first
    | (go_at_call 194; go_must (refine (xa0k b gv p i 0 _ (uh HR)).mono ?_; rintro r w1 ⟨rfl,hw1⟩; subst w1))
    | (go_at_call 197; go_must (refine (xa0r b gv p i 0 _ (uh HR)).mono ?_; rintro r w1 ⟨lv,rfl,⟨n,hw1⟩,hq,hb⟩; subst w1; have HQ:=hide hq; clear hq hb))
    | (go_at_call 231; go_must (refine (xa3j lv (p.drop i) _ (by exact (uh HQ).drewN _)).mono ?_; rintro r w1 ⟨rfl,hw1⟩; subst w1; rw [uh HX])))
   go_ret
   rw [uh HV]
   exact ⟨rfl,((uh HR).drewN _).setAt (i + s) (by omega),((Kept.refl [b] w).drewN _).setCell (by simp) _⟩
 ·have he':((e:Int) != 0) = true:=by rw [bne_iff_ne]; omega
  have HV:=hide (by simp [rUvar,he]:rUvar p i e = (0,i,e))
  clear he
  go_enter Tryz.func193,Tryz.ntmps193
  go_wp2_with (go_at_call 194; go_must (refine (xa0k b gv p i e _ (uh HR)).mono ?_; rintro r w1 ⟨rfl,hw1⟩; subst w1))
  go_ret
  rw [uh HV]
  exact ⟨rfl,uh HR,Kept.refl _ _⟩
def beL (bs:List Nat):Nat:=bs.foldl (fun a c=>(a * 256 + c) % 18446744073709551616) 0
theorem beL_lt (bs:List Nat):beL bs < 18446744073709551616:=by
 unfold beL
 suffices h:∀ (l:List Nat) (a:Nat),a < 18446744073709551616→l.foldl (fun a c=>(a * 256 + c) % 18446744073709551616) a < 18446744073709551616 from h bs 0 (by decide)
 intro l
 induction l with
 | nil=>intro a h; exact h
 | cons c r ih=>intro a h; exact ih _ (Nat.mod_lt _ (by decide))
theorem xb3d (p:List Nat) (k:Nat) (h:k < p.length):beL (p.take (k + 1)) = (beL (p.take k) * 256 + p.getD k 0) % 18446744073709551616:=by
 rw [List.take_succ_eq_append_getElem h,beL,List.foldl_append,List.getD_eq_getElem?_getD,List.getElem?_eq_getElem h]; rfl
theorem xb7r (a c:Nat) (hc:c < 256):bits .or .u64 (IntKind.u64.wrap ((a:Int) * 256)) (c:Int) = (((a * 256 + c) % 18446744073709551616:Nat):Int):=by
 rw [IntKind.wrap_u64,show ((a:Int) * 256) % 18446744073709551616 = ((a * 256 % 18446744073709551616:Nat):Int) from by omega,u64_or_nat _ _ (Nat.mod_lt _ (by decide)) (by omega),nat_join 8 _ c (by omega) hc]
 omega
def rNum (p:List Nat) (i e n:Nat):Nat × Nat × Nat :=
 if e≠0 then (0,i,e) else if p.length - i < n then (0,i,3) else (beL ((p.drop i).take n),i + n,0)
set_option maxHeartbeats 1000000 in
theorem xa6y (b:Nat) (gv:Value) (p:List Nat) (i e n:Nat) (w:World) (h:ReAt w b gv p i e) (hn:n≤8) :
  Calls Tryz.prog 230 #[.pointer (some ⟨b,0,none⟩),.int .i64 n] w fun r w'=>r = .returned (.int .u64 (rNum p i e n).1)∧ReAt w' b gv p (rNum p i e n).2.1 (rNum p i e n).2.2∧Kept [b] w w':=by
 have HR:=hide h
 have c1:=h.c1
 have c2:=h.c2
 have f1:=h.free 1
 have f2:=h.free 2
 have hl:p.length≤140737488355328:=by obtain ⟨_,_,_,_,rfl,_,⟨_,h3⟩,_⟩:=h.rd; exact h3
 have hle:=h.le
 have hne:=hide h.ne
 clear h
 by_cases he:e = 0
 ·subst he
  obtain ⟨q,hq⟩:∃ q,p.drop i = q:=⟨_,rfl⟩
  have hql:q.length = p.length - i:=by rw [← hq]; simp
  have Hq:=hide hq
  have Hql:=hide hql
  have hq47:q.length≤140737488355328:=by omega
  clear hq hql
  by_cases hs:q.length < n
  ·have HV:=hide (by rw [uh Hql] at hs; simp [rNum,hs]:rNum p i 0 n = (0,i,3))
   have hs':(q.length:Int) < n:=by omega
   go_enter Tryz.func230,Tryz.ntmps230
   go_wp2_with (first
    | (go_at_call 194; go_must (refine (xa0k b gv p i 0 _ (uh HR)).mono ?_; rintro r w1 ⟨rfl,hw1⟩; subst w1))
    | (go_at_call 197; go_must (refine (xa0r b gv p i 0 _ (uh HR)).mono ?_; rintro r w1 ⟨lv,rfl,⟨m,hw1⟩,hq,hb⟩; subst w1; rw [uh Hq] at hq; obtain ⟨ao,len,cap,rfl,rfl,_⟩:=hq; clear hb)))
   go_ret
   rw [uh HV]
   exact ⟨rfl,((uh HR).drewN _).setFault 3,((Kept.refl [b] w).drewN _).setCell (by simp) _⟩
  ·have HV:=hide (by rw [uh Hql] at hs; simp [rNum,hs,uh Hq]:rNum p i 0 n = (beL (q.take n),i + n,0))
   have hs':(n:Int)≤q.length:=by omega
   have hin:i + n≤p.length:=by have:=uh Hql; omega
   go_enter Tryz.func230,Tryz.ntmps230
   go_wp2_with (first
    | (go_at_call 194; go_must (refine (xa0k b gv p i 0 _ (uh HR)).mono ?_; rintro r w1 ⟨rfl,hw1⟩; subst w1))
    | (go_at_call 197; go_must (refine (xa0r b gv p i 0 _ (uh HR)).mono ?_; rintro r w1 ⟨lv,rfl,⟨m,hw1⟩,hq,hb⟩; subst w1; rw [uh Hq] at hq; have HQ:=hide hq; have HB:=hide hb; obtain ⟨ao,len,cap,rfl,rfl,h2,⟨h3,h3'⟩,_⟩:=hq; clear hb)))
   have hrd:Rd ((w.drewN m).setCell ⟨b,1,none⟩ (.int .i64 ((i:Int) + n))) (.slice ao q.length cap) q :=
    (uh HQ).kept (((Kept.refl [b] w).drewN m).setCell (by simp) _) (by intro x hx; simp; rintro rfl; exact uh hne (uh HB _ hx))
   have HFin:=hide (((uh HR).drewN m).setAt (i + n) (by omega))
   have HK:=hide (((Kept.refl [b] w).drewN m).setCell (p:=⟨b,1,none⟩) (by simp) (.int .i64 ((i:Int) + n)))
   rw [show (((i + n:Nat):Int)) = (i:Int) + n from by omega] at HFin
   obtain ⟨W,hW⟩:∃ W,(w.drewN m).setCell ⟨b,1,none⟩ (.int .i64 ((i:Int) + n)) = W:=⟨_,rfl⟩
   rw [hW] at hrd HFin HK ⊢
   obtain ⟨_,_,_,he,_,_,_,_,h5,h6⟩:=hrd
   cases he
   have H5:=hide h5
   have H6:=hide h6
   clear h5 h6 hW HQ HB hne HR
   go_loopw [6,8,33] (fun t6 t8 t33 wr=>∃ k:Nat,k≤n∧t33 = .int .i64 k∧t6 = .int .u64 (beL (q.take k))∧wr = W) (fun _ _ i _=>n - (intOf i).toNat)
   case atStart=>exact ⟨0,Nat.zero_le _,rfl,by simp [beL],rfl⟩
   case round =>
    obtain ⟨k,hk,rfl,rfl,rfl⟩:=hrel
    by_cases hlt:k < n
    ·obtain ⟨bb,oo,rfl,hc⟩:=uh H6 (by omega)
     have hck:=hc k (by omega)
     have hkq:k < q.length:=by omega
     have hcb:q.getD k 0 < 256:=uh H5 _ (by rw [List.getD_eq_getElem?_getD,List.getElem?_eq_getElem hkq]; exact List.getElem_mem hkq)
     have hsn:=xb3d q k hkq
     have hval:=xb7r (beL (q.take k)) (q.getD k 0) hcb
     rw [← hsn] at hval
     obtain ⟨c,hcc⟩:∃ c,q.getD k 0 = c:=⟨_,rfl⟩
     have ha1:=beL_lt (q.take k)
     obtain ⟨a,ha⟩:∃ a,beL (q.take k) = a:=⟨_,rfl⟩
     obtain ⟨a',ha'⟩:∃ a',beL (q.take (k + 1)) = a':=⟨_,rfl⟩
     rw [hcc] at hck hcb hval
     rw [ha] at hval ha1 ⊢
     rw [ha'] at hval
     have Ha':=hide ha'
     have hlt':(k:Int) < n:=by omega
     clear hc hcc ha ha' hsn
     go_wp2
     go_roundw
     case rel=>exact ⟨k + 1,by omega,by go_num,by rw [uh Ha'],trivial⟩
     case measure=>simp [intOf]; omega
    ·have hkn:k = n:=by omega
     subst hkn
     go_wp2
     go_ret
     rw [uh HV]
     exact ⟨rfl,uh HFin,uh HK⟩
 ·have he':((e:Int) != 0) = true:=by rw [bne_iff_ne]; omega
  have HV:=hide (by simp [rNum,he]:rNum p i e n = (0,i,e))
  clear he
  go_enter Tryz.func230,Tryz.ntmps230
  go_wp2_with (go_at_call 194; go_must (refine (xa0k b gv p i e _ (uh HR)).mono ?_; rintro r w1 ⟨rfl,hw1⟩; subst w1))
  go_ret
  rw [uh HV]
  exact ⟨rfl,uh HR,Kept.refl _ _⟩
theorem ru_lt (p:List Nat) (i e n:Nat):(rNum p i e n).1 < 18446744073709551616:=by
 unfold rNum; split
 ·simp
 ·split
  ·simp
  ·exact beL_lt _
set_option maxHeartbeats 1000000 in
theorem xb7i (b:Nat) (gv:Value) (p:List Nat) (i e:Nat) (w:World) (h:ReAt w b gv p i e) :
  Calls Tryz.prog 187 #[.pointer (some ⟨b,0,none⟩)] w fun r w'=>r = .returned (.int .u8 ((rNum p i e 1).1 % 256:Nat))∧ReAt w' b gv p (rNum p i e 1).2.1 (rNum p i e 1).2.2∧Kept [b] w w':=by
 have HR:=hide h
 have hlt:=ru_lt p i e 1
 obtain ⟨x,hx⟩:∃ x,(rNum p i e 1).1 = x:=⟨_,rfl⟩
 rw [hx] at hlt ⊢
 have Hx:=hide hx
 clear h hx
 go_enter Tryz.func187,Tryz.ntmps187
 go_wp2_with (go_at_call 230; go_must (refine (xa6y b gv p i e 1 _ (uh HR) (by omega)).mono ?_; rintro r w1 ⟨rfl,h1,h2⟩; rw [uh Hx]; have H1:=hide h1; have H2:=hide h2; clear h1 h2))
 go_ret
 exact ⟨by simp,uh H1,uh H2⟩
theorem xa2s (v:Value) (p:List Nat) (w:World) (h:Rd w v p) :
  Calls Tryz.prog 135 #[v] w fun r w'=>∃ b gv,r = .returned (.pointer (some ⟨b,0,none⟩))∧w.heap.size≤b∧ReAt w' b gv p 0 0∧(∀ x∈blk gv,w.heap.size≤x∧x < w'.heap.size)∧Kept [] w w':=by
 have HR:=hide h
 have hp:∀ x∈p,x < 256:=by obtain ⟨_,_,_,_,_,_,_,_,h5,_⟩:=h; exact h5
 have hl:p.length≤140737488355328:=by obtain ⟨_,_,_,_,rfl,_,⟨_,h3⟩,_⟩:=h; exact h3
 clear h
 go_enter Tryz.func135,Tryz.ntmps135
 go_wp2_with (go_at_call 192; go_must (refine (xa3h v p _ (uh HR)).mono ?_; rintro r w1 ⟨rfl,h1,h2⟩; have H1:=hide h1; have H2:=hide h2; clear h1 h2))
 go_ret
 have hlt:=lt_of_block (uh H2)
 refine ⟨w1.heap.size,_,rfl,by omega,⟨heap_alloc_new w1 _,?_,Nat.zero_le _,?_⟩,?_,(uh H1).alloc _⟩
 ·exact (xa3i (uh H2) hp hl).kept ((Kept.refl [] w1).alloc _) (by simp)
 ·simp [blk]; omega
 ·simp [blk]; omega
end

section
open Go.RowKit
set_option maxRecDepth 100000
theorem Rd.byte {w:World} {v:Value} {p:List Nat} (h:Rd w v p):∀ x∈p,x < 256:=by obtain ⟨_,_,_,_,_,_,_,_,h5,_⟩:=h; exact h5
theorem Rd.len {w:World} {v:Value} {p:List Nat} (h:Rd w v p):p.length≤140737488355328:=by obtain ⟨_,_,_,_,rfl,_,⟨_,h3⟩,_⟩:=h; exact h3
theorem pushAll (w:World) (b:Nat) (v:Value) (bs p:List Nat) (ao:Option Addr) (n c:Nat) (h:WrAt w b v bs) (hr:Rd w (.slice ao n c) p) (hl:bs.length + p.length≤140737488355328) :
  ∃ ao' n' cap' w1,(Builtin.append_ #[49,49] 49 #[v,.slice ao n c]).run Tryz.prog w = .ok (.slice ao' n' cap') w1 ∧
   w1.heap[b]? = some (.cells #[v] 250 (0,0)) ∧
   WrAt (w1.setCell ⟨b,0,none⟩ (.slice ao' n' cap')) b (.slice ao' n' cap') (bs++p) ∧
   Grew b v (.slice ao' n' cap') w (w1.setCell ⟨b,0,none⟩ (.slice ao' n' cap')):=by
 obtain ⟨i0,hi,hz0,hz1,hz2⟩:=info_parts Tryz.info5
 have fin:∀ v' w1,w1.ownsRow 0 5 1 v' (bs.length + p.length) (bs.map u8++p.map u8)→w.grownBy w1 v.ownBlock→(v'.ownBlock = v.ownBlock∨v'.ownBlock = some w.heap.size) →
   w1.heap[b]? = some (.cells #[v] 250 (0,0))∧WrAt (w1.setCell ⟨b,0,none⟩ v') b v' (bs++p)∧Grew b v v' w (w1.setCell ⟨b,0,none⟩ v'):=by
  intro v' w1 hown hgrow hat
  have hb1:w1.heap[b]? = some (.cells #[v] 250 (0,0)):=by
   rw [hgrow.block b h.lt (Ne.symm h.ne)]; exact h.at_
  refine ⟨hb1,⟨one_setCell hb1,?_,?_⟩,⟨?_,?_⟩⟩
  ·rw [List.length_append,List.map_append]
   refine ownsRow_setCell_other hown ?_ _
   intro e3
   rcases hown.2 with ⟨rfl,_⟩ | ⟨g',cap',cur,rfl,_,h2,_⟩
   ·simp [Value.ownBlock] at e3
   ·simp [Value.ownBlock] at e3; subst e3; rw [hb1] at h2; simp at h2
  ·intro x hx; simp at hx; rcases hx with hx | hx; exact h.byte x hx; exact hr.byte x hx
  ·have k1:Kept (b :: v.ownBlock.toList) w w1:=(Kept.refl (b :: v.ownBlock.toList) w).grown hgrow (by intro k hk; left; simp [hk])
   exact k1.setCell (by simp) _
  ·rcases hat with hat | hat
   ·exact .inl hat
   ·exact .inr ⟨_,hat,Nat.le_refl _⟩
 have shape:∀ (v':Value) (w1:World) (n:Nat) (xs:List Value),w1.ownsRow 0 5 1 v' n xs→∃ ao' n' cap',v' = .slice ao' n' cap':=by
  intro v' w1 n xs hown
  rcases hown.2 with ⟨rfl,_⟩ | ⟨g,cap,cur,rfl,_⟩
  ·exact ⟨_,_,_,rfl⟩
  ·exact ⟨_,_,_,rfl⟩
 obtain ⟨ao1,n1,c1,he,hn,h2,⟨h3,h3'⟩,h4,h5,h6⟩:=id hr
 cases he
 subst hn
 cases ao with
 | none =>
  have hc0:=h4 rfl
  have hp:p = []:=List.eq_nil_of_length_eq_zero (by omega)
  subst hp
  subst hc0
  have hrun:=run_append_owned_none (P:=Tryz.prog) (w:=w) 0 49 49 5 i0 1 Tryz.underlying49 hi v bs.length (bs.map u8) h.own
  obtain ⟨ao',n',cap',rfl⟩:=shape v w _ _ h.own
  exact ⟨ao',n',cap',w,hrun,fin _ _ (by simpa using h.own) (World.grownBy.refl _ _) (.inl rfl)⟩
 | some ad =>
  have hnews:∀ j u,(p.map u8)[j]? = some u→w.cell? (ad.add j) = some u:=by
   intro j u hj
   by_cases h0:0 < (p.map u8).length
   ·obtain ⟨ad',e,hc⟩:=hr.src h0
    cases e
    exact hc j u hj
   ·have:p.map u8 = []:=List.eq_nil_of_length_eq_zero (by omega)
    rw [this] at hj; simp at hj
  obtain ⟨v',w1,hrun,hown,hgrow,_,hat⟩:=run_append_own_at (P:=Tryz.prog) w 0 49 49 5 i0 (.int .u8 0) 1 1 Tryz.underlying49 hi hz0 hz1 hz2 rfl (by decide)
   v bs.length (bs.map u8) h.own ad p.length c (p.map u8) (by simp) hnews (xa3q p) (by unfold maxLen; omega) (by omega) (Nat.zero_le _)
  obtain ⟨ao',n',cap',rfl⟩:=shape v' w1 _ _ hown
  exact ⟨ao',n',cap',w1,hrun,fin _ _ hown hgrow hat⟩
theorem xa4o {ops:Array Oper} {rest:List Oper} {o:Oper} {a:Act} {Q:Exit→Act→World→Prop} (hgd:o.guard = none) (s x:Operand)
  (ho:o.op = .call { callee:=.builtin .append,args:=#[s,x],argTypes:=#[49,49] }) (hty:o.type = 49)
  (w:World) (b:Nat) (v:Value) (bs p:List Nat) (ao:Option Addr) (n c:Nat) (h:WrAt w b v bs) (hr:Rd w (.slice ao n c) p) (hl:bs.length + p.length≤140737488355328)
  (hs:a.eval s = v) (hx:a.eval x = .slice ao n c)
  (hK:∀ ao' n' cap' w1,w1.cell? ⟨b,0,none⟩ = some v→w1.frozen? ⟨b,0,none⟩ = false →
   Hid (WrAt (w1.setCell ⟨b,0,none⟩ (.slice ao' n' cap')) b (.slice ao' n' cap') (bs++p)) →
   Hid (Grew b v (.slice ao' n' cap') w (w1.setCell ⟨b,0,none⟩ (.slice ao' n' cap'))) →
   wpList Tryz.prog ops Q rest (a.put o.dst (.slice ao' n' cap')) w1) :
  wpList Tryz.prog ops Q (o :: rest) a w:=by
 obtain ⟨ao',n',cap',w1,hrun,hb1,h2,h3⟩:=pushAll w b v bs p ao n c h hr hl
 refine wpList_plain hgd fun K hK'=>?_
 unfold Oper.wp execOp
 simp only [ho,hty,resolve,invoke,builtin,Sem.run_bind,Sem.run_pure,Result.andThen_ok,List.map_toArray,List.map_cons,List.map_nil,hs,hx,hrun]
 exact hK' _ _ (hK ao' n' cap' w1 (cell_of_one hb1) (free_of_one hb1) h2 h3)
theorem xb3t (b:Nat) (v pv:Value) (bs p:List Nat) (w:World) (hw:WrAt w b v bs) (hr:Rd w pv p) (hl:bs.length + p.length≤140737488355328) :
  Calls Tryz.prog 161 #[.pointer (some ⟨b,0,none⟩),pv] w fun e w'=>e = .returned (.tuple #[])∧∃ v',WrAt w' b v' (bs++p)∧Grew b v v' w w':=by
 obtain ⟨ao,n,c,rfl⟩:∃ ao n c,pv = .slice ao n c:=by obtain ⟨ao,n,c,rfl,_⟩:=hr; exact ⟨ao,n,c,rfl⟩
 have HW:=hide hw
 have HR:=hide hr
 have hc0:=cell_of_one hw.at_
 clear hw hr
 go_enter Tryz.func161,Tryz.ntmps161
 go_wp2_with (at_builtin; go_must (refine xa4o rfl (.tmp 10) (.tmp 11) rfl rfl _ b v bs p ao n c (uh HW) (uh HR) hl rfl rfl ?_; intro ao' n' cap' w1 hc1 hf1 HW1 HG1))
 go_end0
 exact ⟨rfl,_,uh HW1,uh HG1⟩
theorem xa8j (b:Nat) (v pv:Value) (bs p:List Nat) (w:World) (hw:WrAt w b v bs) (hr:∀ w',Kept (b :: v.ownBlock.toList) w w'→Rd w' pv p) (hl:bs.length + 10 + p.length≤140737488355328) :
  Calls Tryz.prog 209 #[.pointer (some ⟨b,0,none⟩),pv] w fun e w'=>e = .returned (.tuple #[])∧∃ v',WrAt w' b v' (bs++(uv p.length++p))∧Grew b v v' w w':=by
 have hr0:=hr w (Kept.refl _ _)
 have hpl:p.length≤140737488355328:=hr0.len
 have HR:=hide hr
 clear hr
 obtain ⟨ao,n,c,rfl,rfl,_⟩:=hr0
 have HW:=hide hw
 have hul:=uv_len p.length (by omega)
 clear hw
 go_enter Tryz.func209,Tryz.ntmps209
 go_wp2_with fail
 refine (xa8x b v bs p.length _ (uh HW) (by omega) (by omega)).mono ?_
 rintro e w1 ⟨rfl,v1,h1,k1⟩
 have HR1:=hide (uh HR _ k1.kept)
 have HW1:=hide h1
 have HG1:=hide k1
 clear h1 k1
 go_wp2_with fail
 refine (xb3t b v1 _ _ p _ (uh HW1) (uh HR1) (by simp only [List.length_append]; omega)).mono ?_
 rintro e w2 ⟨rfl,v2,h2,k2⟩
 rw [List.append_assoc] at h2
 have HW2:=hide h2
 have HG2:=hide ((uh HG1).trans k2)
 clear h2 k2
 go_wp2
 go_end0
 exact ⟨rfl,v2,uh HW2,uh HG2⟩
set_option maxRecDepth 100000
theorem xa1l {w:World} {base:Nat} {v:Value} {n:Nat} {xs:List Value} (h:w.ownsRow base 5 1 v n xs):∃ ao cap,v = .slice ao n cap:=by
 rcases h.2 with ⟨rfl,rfl⟩ | ⟨g,cap,cur,rfl,_⟩
 ·exact ⟨_,_,rfl⟩
 ·exact ⟨_,_,rfl⟩
theorem xa6h {w:World} {base:Nat} {v:Value} {bs:List Nat} (h:w.ownsRow base 5 1 v bs.length (bs.map u8)) (hb:∀ x∈bs,x < 256) (hl:bs.length≤140737488355328):Rd w v bs:=by
 rcases h.2 with ⟨rfl,h0⟩ | ⟨g,cap,cur,rfl,_,hg,hc,hm,hs,ht⟩
 ·have:bs = []:=List.eq_nil_of_length_eq_zero h0
  subst this
  exact Rd.nil w
 ·refine ⟨_,_,_,rfl,rfl,hc,⟨by unfold maxLen at hm; omega,hl⟩,by simp,hb,fun _=>⟨g,0,rfl,fun i hi=>?_⟩⟩
  have:=h.cells (g:=g) rfl i (u8 (bs.getD i 0)) (by rw [List.getElem?_map,List.getD_eq_getElem?_getD,List.getElem?_eq_getElem hi]; rfl)
  rw [Addr.add_mid] at this; exact this
theorem appendAll (w:World) (base:Nat) (v:Value) (bs p:List Nat) (ao:Option Addr) (n c:Nat) (h:w.ownsRow base 5 1 v bs.length (bs.map u8)) (hr:Rd w (.slice ao n c) p) (hl:bs.length + p.length≤140737488355328) (hb:base≤w.heap.size) :
  ∃ ao' cap' w1,(Builtin.append_ #[49,49] 49 #[v,.slice ao n c]).run Tryz.prog w = .ok (.slice ao' (bs.length + p.length) cap') w1 ∧
   w1.ownsRow base 5 1 (.slice ao' (bs.length + p.length) cap') (bs++p).length ((bs++p).map u8)∧w.grownBy w1 v.ownBlock ∧
   ((Value.slice ao' (bs.length + p.length) cap').ownBlock = v.ownBlock∨(Value.slice ao' (bs.length + p.length) cap').ownBlock = some w.heap.size):=by
 obtain ⟨i0,hi,hz0,hz1,hz2⟩:=info_parts Tryz.info5
 obtain ⟨ao1,n1,c1,he,hn,h2,⟨h3,h3'⟩,h4,h5,h6⟩:=id hr
 cases he
 subst hn
 cases ao with
 | none =>
  have hc0:=h4 rfl
  have hp:p = []:=List.eq_nil_of_length_eq_zero (by omega)
  subst hp
  subst hc0
  have hrun:=run_append_owned_none (P:=Tryz.prog) (w:=w) base 49 49 5 i0 1 Tryz.underlying49 hi v bs.length (bs.map u8) h
  obtain ⟨ao',cap',rfl⟩:=xa1l h
  exact ⟨ao',cap',w,hrun,by simpa using h,World.grownBy.refl _ _,.inl rfl⟩
 | some ad =>
  have hnews:∀ j u,(p.map u8)[j]? = some u→w.cell? (ad.add j) = some u:=by
   intro j u hj
   by_cases h0:0 < (p.map u8).length
   ·obtain ⟨ad',e,hc⟩:=hr.src h0
    cases e
    exact hc j u hj
   ·have:p.map u8 = []:=List.eq_nil_of_length_eq_zero (by omega)
    rw [this] at hj; simp at hj
  obtain ⟨v',w1,hrun,hown,hgrow,_,hat⟩:=run_append_own_at (P:=Tryz.prog) w base 49 49 5 i0 (.int .u8 0) 1 1 Tryz.underlying49 hi hz0 hz1 hz2 rfl (by decide)
   v bs.length (bs.map u8) h ad p.length c (p.map u8) (by simp) hnews (xa3q p) (by unfold maxLen; omega) (by omega) hb
  obtain ⟨ao',cap',rfl⟩:=xa1l hown
  exact ⟨ao',cap',w1,hrun,by rw [List.length_append,List.map_append]; exact hown,hgrow,hat⟩
theorem xa0q {ops:Array Oper} {rest:List Oper} {o:Oper} {a:Act} {Q:Exit→Act→World→Prop} (hgd:o.guard = none) (s x:Operand)
  (ho:o.op = .call { callee:=.builtin .append,args:=#[s,x],argTypes:=#[49,49] }) (hty:o.type = 49)
  (w:World) (base:Nat) (v:Value) (bs p:List Nat) (ao:Option Addr) (n c:Nat) (h:w.ownsRow base 5 1 v bs.length (bs.map u8)) (hr:Rd w (.slice ao n c) p) (hl:bs.length + p.length≤140737488355328) (hb:base≤w.heap.size)
  (hs:a.eval s = v) (hx:a.eval x = .slice ao n c)
  (hK:∀ ao' cap' w1,Hid (w1.ownsRow base 5 1 (.slice ao' (bs.length + p.length) cap') (bs++p).length ((bs++p).map u8))→Hid (w.grownBy w1 v.ownBlock) →
   Hid ((Value.slice ao' (bs.length + p.length) cap').ownBlock = v.ownBlock∨(Value.slice ao' (bs.length + p.length) cap').ownBlock = some w.heap.size) →
   wpList Tryz.prog ops Q rest (a.put o.dst (.slice ao' (bs.length + p.length) cap')) w1) :
  wpList Tryz.prog ops Q (o :: rest) a w:=by
 obtain ⟨ao',cap',w1,hrun,h2,h3,h4⟩:=appendAll w base v bs p ao n c h hr hl hb
 refine wpList_plain hgd fun K hK'=>?_
 unfold Oper.wp execOp
 simp only [ho,hty,resolve,invoke,builtin,Sem.run_bind,Sem.run_pure,Result.andThen_ok,List.map_toArray,List.map_cons,List.map_nil,hs,hx,hrun]
 exact hK' _ _ (hK ao' cap' w1 h2 h3 h4)
set_option maxHeartbeats 400000 in
theorem xb9s (v:Value) (bs:List Nat) (w:World) (h:Rd w v bs) :
  Calls Tryz.prog 113 #[v] w fun e w'=>e = .returned (.slice (some ⟨w.heap.size,0,none⟩) bs.length bs.length)∧Kept [] w w' ∧
   w'.heap[w.heap.size]? = some (.cells (bs.map u8).toArray 5 (0,0)):=by
 have hk:Rd (w.alloc (.cells (zeros bs.length).toArray 5)) v bs:=h.kept ((Kept.refl [] w).alloc _) (by simp)
 obtain ⟨ao,len,cap,rfl,rfl,h2,⟨h3,h3'⟩,h4,h5,h6⟩:=h
 have hmk:=run_make_row' (P:=Tryz.prog) 49 5 (.int .u8 0) 1 Tryz.underlying49 Tryz.info5 rfl .i64 .i64 bs.length (by omega) (by omega)
 simp only [madeZeros] at hmk
 obtain ⟨w2,hrun,hg,hw⟩:=xa1j 49 49 3 5 Tryz.underlying49 Tryz.size5 _ w.heap.size bs.length bs.length cap ao bs (zeros bs.length) 5 (heap_alloc_new w _) hk (Nat.le_refl _) (by simp [zeros])
 have HG:=hide hg
 have HW:=hide hw
 clear hg hw hk h6
 go_enter Tryz.func113,Tryz.ntmps113
 go_wp2
 go_ret
 refine ⟨rfl,((Kept.refl [] w).alloc _).trans (uh HW) (by simp),?_⟩
 rw [uh HG]; simp [zeros]
theorem rd_lit {w:World} {g:Nat} {bs:List Nat} {cs:Array Value} (h:w.heap[g]? = some (.cells cs 5 (0,0))) (hc:cs = (bs.map u8).toArray) (hb:∀ x∈bs,x < 256) (n:Nat) (hn:bs.length = n) (hl:n≤140737488355328) :
  Rd w (.slice (some ⟨g,0,none⟩) n n) bs:=by
 subst hc; subst hn; exact xa3i h hb hl
end
section
open Go.RowKit Go.BigFrame
def wtn (n m:Int):Int:=min (max n 0) m
set_option maxHeartbeats 1000000 in
theorem xb3n (n m:Int) (w:World) :
  Calls Tryz.prog 56 #[.int .i64 n,.int .i64 m] w fun e w'=>e = .returned (.int .i64 (wtn n m))∧w' = w:=by
 go_enter Tryz.func56,Tryz.ntmps56
 go_wp2
 all_goals
  go_ret
  refine ⟨?_,rfl⟩
  simp
  unfold wtn
  (repeat' split at *) <;> omega
def nameB (b:Nat):Bool:=decide (97≤b∧b≤122) || decide (48≤b∧b≤57) || decide (b = 45)
set_option maxHeartbeats 1000000 in
theorem xa5h (b:Nat) (w:World) (hb:b < 256) :
  Calls Tryz.prog 163 #[.int .u8 b] w fun e w'=>e = .returned (.bool (nameB b))∧w' = w:=by
 go_enter Tryz.func163,Tryz.ntmps163
 go_wp2
 all_goals
  go_ret
  refine ⟨?_,rfl⟩
  simp
  unfold nameB
  rw [Bool.eq_iff_iff]
  simp
  omega
def isNm (s:ByteArray):Bool:=decide (1≤s.size∧s.size≤40) && s.data.toList.all fun b=>nameB b.toNat
theorem xb4r {s:ByteArray} (h:¬ (1≤s.size∧s.size≤40)):isNm s = false:=by unfold isNm; rw [decide_eq_false h]; rfl
theorem xb9e {s:ByteArray} {k:Nat} (hk:k < s.size) (h:nameB (s[k]'hk).toNat = false):isNm s = false:=by
 unfold isNm
 rw [Bool.and_eq_false_iff]
 refine .inr (List.all_eq_false.2 ⟨s[k]'hk,?_,by rw [h]; simp⟩)
 show s.data[k]∈s.data.toList
 exact Array.getElem_mem_toList _
theorem xb5n {s:ByteArray} (h1:1≤s.size) (h2:s.size≤40) (h:∀ k (hk:k < s.size),nameB (s[k]'hk).toNat = true):isNm s = true:=by
 unfold isNm
 rw [decide_eq_true ⟨h1,h2⟩,Bool.true_and,List.all_eq_true]
 intro b hb
 obtain ⟨k,hk,rfl⟩:=List.getElem_of_mem hb
 have hk':k < s.size:=by rw [Array.length_toList] at hk; exact hk
 rw [Array.getElem_toList]
 exact h k hk'
set_option maxHeartbeats 2000000 in
theorem xb4c (s:ByteArray) (w:World) (hs:s.size≤140737488355328) :
  Calls Tryz.prog 112 #[.string s] w fun e w'=>e = .returned (.bool (isNm s))∧w' = w:=by
 by_cases h1:1≤s.size
 ·by_cases h2:s.size≤40
  ·have e1:¬ (s.size:Int) < 1:=by omega
   have e2:¬ (40:Int) < (s.size:Int):=by omega
   have H1:=hide h1
   have H2:=hide h2
   clear h1 h2
   go_enter Tryz.func112,Tryz.ntmps112
   go_wp2_with fail
   go_loopw [14] (fun t14 wr=>∃ k:Nat,k≤s.size∧t14 = .int .i64 k∧Hid (∀ j (hj:j < s.size),j < k→nameB (s[j]'hj).toNat = true)∧wr = w) (fun t _=>s.size - (intOf t).toNat)
   case atStart=>exact ⟨0,Nat.zero_le _,rfl,hide (fun j hj h=>by omega),rfl⟩
   case round =>
    obtain ⟨k,hk,rfl,HA,rfl⟩:=hrel
    by_cases hlt:k < s.size
    ·have e3:(k:Int) < (s.size:Int):=by omega
     have hb:(s[k]'hlt).toNat < 256:=(s[k]'hlt).toNat_lt
     go_wp2_with fail
     refine Calls.mono (xa5h _ _ hb) ?_
     rintro e w1 ⟨rfl,rfl⟩
     obtain ⟨nb,hnb⟩:∃ nb,nameB (s[k]'hlt).toNat = nb:=⟨_,rfl⟩
     rw [hnb]
     cases nb
     ·go_wp2_with fail
      go_ret
      exact ⟨by rw [xb9e hlt hnb]; rfl,rfl⟩
     ·go_wp2_with fail
      refine ⟨⟨k + 1,by omega,by simp,hide (fun j hj h=>?_),trivial⟩,?_⟩
      ·by_cases hjk:j < k
       ·exact uh HA j hj hjk
       ·have:j = k:=by omega
        subst this
        exact hnb
      ·simp [intOf]; omega
    ·have e3:¬ (k:Int) < (s.size:Int):=by omega
     have hk2:k = s.size:=by omega
     go_wp2_with fail
     go_ret
     exact ⟨by rw [xb5n (uh H1) (uh H2) (fun j hj=>uh HA j hj (by omega))]; rfl,rfl⟩
  ·rw [xb4r (by omega)]
   have e2:(40:Int) < (s.size:Int):=by omega
   have e1:¬ (s.size:Int) < 1:=by omega
   go_enter Tryz.func112,Tryz.ntmps112
   go_wp2_with fail
   go_ret
   exact ⟨rfl,rfl⟩
 ·rw [xb4r (by omega)]
  have e1:(s.size:Int) < 1:=by omega
  go_enter Tryz.func112,Tryz.ntmps112
  go_wp2_with fail
  go_ret
  exact ⟨rfl,rfl⟩
structure DFile where
 g:Nat
 nm:ByteArray
 v:Value
 bs:List Nat
 sy:Nat
 nd:Bool
def look (fs:List DFile) (s:List UInt8):Option Nat:=(fs.find? fun f=>f.nm.data.toList == s).map (·.g)
def ptrO (o:Option Nat):Value:=.pointer (o.map fun g=>⟨g,0,none⟩)
def unN (fs:List DFile):List Value:=(fs.filter fun f=>!f.nd).map fun f=>.pointer (some ⟨f.g,0,none⟩)
def FileAt (w:World) (f:DFile):Prop :=
 w.heap[f.g]? = some (.cells #[.string f.nm,f.v,.int .i64 f.sy,.bool f.nd] 119 (0,0))∧w.ownsRow 0 5 1 f.v f.bs.length (f.bs.map u8)∧(∀ x∈f.bs,x < 256)∧f.sy≤f.bs.length
def DRow (w:World) (d:Nat) (sec:Int) (m:Value) (u fv:Value) (cr op:Int) (off:Bool):Prop :=
 w.heap[d]? = some (.cells #[.int .i64 sec,m,u,fv,.int .i64 cr,.int .i64 op,.bool off] 110 (0,0))
def DMap (w:World) (m N:Nat) (fs:List DFile):Prop:=∃ (n:Nat) (D:DataW Unit),w.ownsMap Tryz.prog 9 ptrElem m n D∧n≤N∧MapIs D (look fs)
theorem keyS:Maps.Keyed Tryz.prog 9:=Maps.string_keyed Tryz.underlying9
theorem zeroPF (w:World):(zeroValue 114).run Tryz.prog w = .ok (.pointer none) w:=by kernel_rfl
theorem eqMS (m:Nat) (w:World):(binOp .eql 106 (.map (some m)) (.map none)).run Tryz.prog w = .ok (.bool false) w:=by kernel_rfl
set_option maxHeartbeats 1000000 in
theorem xa4u (d:Nat) (w:World) (sec:Int) (m:Nat) (u fv:Value) (cr op:Int) (off:Bool) (h:DRow w d sec (.map (some m)) u fv cr op off) :
  Calls Tryz.prog 42 #[.pointer (some ⟨d,0,none⟩)] w fun e w'=>e = .returned (.bool false)∧w' = w:=by
 unfold DRow at h
 have c1:=cell_of_row _ _ 1 _ _ _ h
 simp at c1
 clear h
 have hq:=fun w=>eqMS m w
 go_enter Tryz.func42,Tryz.ntmps42
 go_wp2
 go_ret
 exact ⟨rfl,rfl⟩
set_option maxHeartbeats 1000000 in
theorem xa0g (d:Nat) (w:World) (sec:Int) (m:Nat) (u fv:Value) (cr op:Int) (off:Bool) (h:DRow w d sec (.map (some m)) u fv cr op off) :
  Calls Tryz.prog 43 #[.pointer (some ⟨d,0,none⟩)] w fun e w'=>e = .returned (.int .i64 (if off then 12 else 0))∧w' = w:=by
 have H0:=hide h
 unfold DRow at h
 have c1:=cell_of_row _ _ 6 _ _ _ h
 simp at c1
 clear h
 go_enter Tryz.func43,Tryz.ntmps43
 go_wp2_with fail
 refine Calls.mono (xa4u d w sec m u fv cr op off (uh H0)) ?_
 rintro e w1 ⟨rfl,rfl⟩
 cases off
 ·go_wp2
  go_ret
  exact ⟨rfl,rfl⟩
 ·go_wp2
  go_ret
  exact ⟨rfl,rfl⟩
set_option maxHeartbeats 1000000 in
theorem xa0y (d:Nat) (s:ByteArray) (w:World) (sec:Int) (m N:Nat) (u fv:Value) (cr op:Int) (off:Bool) (fs:List DFile) (h:DRow w d sec (.map (some m)) u fv cr op off) (hm:DMap w m N fs) (hs:s.size≤140737488355328) :
  Calls Tryz.prog 45 #[.pointer (some ⟨d,0,none⟩),.string s] w fun e w'=>e = .returned (.tuple #[ptrO (look fs s.data.toList),.int .i64 (if (look fs s.data.toList).isSome then 0 else 5)])∧w' = w:=by
 unfold DRow at h
 have c1:=cell_of_row _ _ 1 _ _ _ h
 simp at c1
 clear h
 obtain ⟨n,D,hown,hn,hD⟩:=hm
 have HO:=hide hown
 have HD:=hide hD
 have HK:=hide (WideMaps.keyOf_string_mk Tryz.underlying9 (s:=s) (by unfold maxLen; omega))
 clear hown hn hD
 cases hL:look fs s.data.toList with
 | none =>
  have HL:=hide hL
  clear hL
  go_enter Tryz.func45,Tryz.ntmps45
  go_wp2_with (at_lookup; refine xa2j _ rfl _ _ 106 rfl 9 114 keyS Tryz.underlying106 (zeroPF _) m n D (look fs) rfl (uh HO) (uh HD) _ _ rfl (uh HK) (uh HL) ?_)
  go_ret2
  exact ⟨rfl,rfl⟩
 | some g =>
  have HL:=hide hL
  clear hL
  go_enter Tryz.func45,Tryz.ntmps45
  go_wp2_with (at_lookup; refine xa2l _ rfl _ _ 106 rfl 9 114 keyS Tryz.underlying106 (zeroPF _) m n D (look fs) rfl (uh HO) (uh HD) _ _ rfl (uh HK) g (uh HL) ?_)
  go_ret2
  exact ⟨rfl,rfl⟩
def own1 (fs:List DFile) (s:ByteArray):Nat:=if isNm s then (if (look fs s.data.toList).isSome then 6 else 0) else 3
set_option maxHeartbeats 1000000 in
theorem xa3x (d:Nat) (s:ByteArray) (w:World) (sec:Int) (m N:Nat) (u fv:Value) (cr op:Int) (off:Bool) (fs:List DFile) (h:DRow w d sec (.map (some m)) u fv cr op off) (hm:DMap w m N fs) (hs:s.size≤140737488355328) :
  Calls Tryz.prog 142 #[.pointer (some ⟨d,0,none⟩),.string s] w fun e w'=>e = .returned (.int .i64 (own1 fs s:Nat))∧w' = w:=by
 have H1:=hide h
 have H2:=hide hm
 clear h hm
 obtain ⟨E,hE⟩:∃ E,own1 fs s = E:=⟨_,rfl⟩
 rw [hE]
 have HE:=hide hE
 clear hE
 cases hI:isNm s
 all_goals
  have HI:=hide hI
  clear hI
  go_enter Tryz.func142,Tryz.ntmps142
  go_wp2_with fail
  refine Calls.mono (xb4c s w hs) ?_
  rintro e w1 ⟨rfl,rfl⟩
  rw [uh HI]
 ·go_wp2_with fail
  go_ret
  exact ⟨by rw [← uh HE,own1,uh HI]; rfl,rfl⟩
 ·go_wp2_with fail
  refine Calls.mono (xa0y d s _ sec m N u fv cr op off fs (uh H1) (uh H2) hs) ?_
  rintro e w2 ⟨rfl,rfl⟩
  cases hL:look fs s.data.toList with
  | none =>
   have HL:=hide hL
   clear hL
   simp only [ptrO,Option.map_none,Option.isSome_none]
   go_wp2_with fail
   go_ret
   exact ⟨by rw [← uh HE,own1,uh HI,uh HL]; rfl,rfl⟩
  | some g =>
   have HL:=hide hL
   clear hL
   simp only [ptrO,Option.map_some,Option.isSome_some]
   go_wp2_with fail
   go_ret
   exact ⟨by rw [← uh HE,own1,uh HI,uh HL]; rfl,rfl⟩
theorem xa0l {H:Type} {P:Program} {k:TypeId} {R:Value→Option (DataW H × List MemPlace)} {w w':World} {b n:Nat} {D:DataW H} (h:w.ownsMap P k R b n D) (e:w'.heap[b]? = w.heap[b]?):w'.ownsMap P k R b n D:=by
 obtain ⟨es,ck,he,r⟩:=h
 exact ⟨es,ck,e.trans he,r⟩
def FMap (w:World) (fv:Value) (N:Nat) (ft:Int→Option Int):Prop :=
 (fv = .map none∧∀ a,ft a = none)∨∃ (b n:Nat) (D:DataW Unit),fv = .map (some b)∧w.ownsMap Tryz.prog 3 (plainElem Tryz.prog 3) b n D∧n≤N∧∀ a,Maps.has D (.int .i64 a) = (ft a).isSome∧∀ z,D.atKey (.int .i64 a) z = match ft a with | none=>z | some c=>.lit (.int .i64 c)
def opE (ft:Int→Option Int) (cr op:Int) (own:Nat):Nat:=if op + 1 = cr then 12 else if own≠0 then own else if (ft (op + 1)).isSome then 7 else 0
theorem keyI:Maps.Keyed Tryz.prog 3:=Maps.int_keyed Tryz.underlying3
theorem zeroI3 (w:World):(zeroValue 3).run Tryz.prog w = .ok (.int .i64 0) w:=by kernel_rfl
theorem xa9l {w:World} {b n:Nat} {D:DataW Unit} {ft:Int→Option Int} (hown:w.ownsMap Tryz.prog 3 (plainElem Tryz.prog 3) b n D) (hD:∀ a,Maps.has D (.int .i64 a) = (ft a).isSome∧∀ z,D.atKey (.int .i64 a) z = match ft a with | none=>z | some c=>.lit (.int .i64 c)) (a:Int) (hk:keyOf Tryz.prog 3 (.int .i64 a) = some (.int .i64 a)) :
  (Instr.lookup 108 (.map (some b)) (.int .i64 a) true).run Tryz.prog w = .ok (.tuple #[.int .i64 ((ft a).getD 0),.bool (ft a).isSome]) w:=by
 obtain ⟨v,ps,hrun,hv⟩:=hown.look_ok keyI Tryz.underlying108 (zeroI3 _) (plainElem_int Tryz.underlying3 (by decide)) hk
 obtain ⟨c,rfl,h2,_⟩:=plainElem_int_inv Tryz.underlying3 hv
 rw [(hD a).1] at hrun
 rw [(hD a).2] at h2
 rw [hrun]
 cases hf:ft a with
 | none=>rw [hf] at h2; simp at h2; rw [← h2.1]; rfl
 | some c0=>rw [hf] at h2; simp at h2; rw [← h2.1]; rfl
set_option maxHeartbeats 1000000 in
theorem xa0m (d own:Nat) (w:World) (sec:Int) (m:Value) (N:Nat) (u fv:Value) (cr op:Int) (off:Bool) (ft:Int→Option Int) (h:DRow w d sec m u fv cr op off) (hf:FMap w fv N ft) (ho:0≤op∧op≤1000000000000) (hw:own < 100) :
  Calls Tryz.prog 60 #[.pointer (some ⟨d,0,none⟩),.int .i64 own] w fun e w'=>e = .returned (.int .i64 (opE ft cr op own:Nat))∧DRow w' d sec m u fv cr (op + 1) (off || decide (op + 1 = cr))∧Kept [d] w w':=by
 unfold DRow at h
 have HR:=hide h
 have c4:=cell_of_row _ _ 4 _ _ _ h
 have c5:=cell_of_row _ _ 5 _ _ _ h
 simp at c4 c5
 have hz:=frozen_of_row _ _ 5 _ _ h
 have hz6:=frozen_of_row _ _ 6 _ _ h
 clear h
 have HF:=hide hf
 clear hf
 obtain ⟨E,hE⟩:∃ E,opE ft cr op own = E:=⟨_,rfl⟩
 rw [hE]
 have HE:=hide hE
 clear hE
 go_enter Tryz.func60,Tryz.ntmps60
 go_wp2_with fail
 clear c4 c5 hz hz6
 have HK1:=hide ((Kept.refl [d] w).setCell (p:=⟨d,5,none⟩) (.inl (by simp)) (.int .i64 (op + 1)))
 have HR1:=hide (heap_setCell_same _ _ 5 _ _ (.int .i64 (op + 1)) (uh HR))
 obtain ⟨W1,hW1⟩:∃ W,w.setCell ⟨d,5,none⟩ (.int .i64 (op + 1)) = W:=⟨_,rfl⟩
 rw [hW1] at HK1 HR1 ⊢
 clear hW1
 have c4:=cell_of_row _ _ 4 _ _ _ (uh HR1)
 have c5:=cell_of_row _ _ 5 _ _ _ (uh HR1)
 simp at c4 c5
 have c6:=cell_of_row _ _ 6 _ _ _ (uh HR1)
 simp at c6
 have hz6:=frozen_of_row _ _ 6 _ _ (uh HR1)
 refine wp_region_quiet_lit (by kernel_rfl) (by kernel_rfl) ?_
 repeat (go_big_quiet_step (fail))
 refine wpQuiet_nil ?_
 rintro _ ⟨n1,rfl⟩
 by_cases h1:op + 1 = cr
 ·go_wp2_with fail
  go_ret
  refine ⟨by rw [← uh HE,opE,if_pos h1]; rfl,?_,((uh HK1).drewN n1).setCell (.inl (by simp)) _⟩
  rw [decide_eq_true h1,Bool.or_true]
  exact heap_setCell_same _ _ 6 _ _ (.bool true) (uh HR1)
 ·have HN:=hide h1
  have hb:(op + 1 == cr) = false:=by simpa using h1
  have HR2:=hide (by
   rw [decide_eq_false h1,Bool.or_false]
   exact uh HR1:DRow (W1.drewN n1) d sec m u fv cr (op + 1) (off || decide (op + 1 = cr)))
  have HK2:=hide ((uh HK1).drewN n1)
  have c3:=cell_of_row _ _ 3 _ _ _ (uh HR1)
  simp at c3
  clear h1
  by_cases h2:own = 0
  ·subst h2
   have HKI:=hide (Maps.keyOf_int_mk (P:=Tryz.prog) (k:=3) Tryz.underlying3 (a:=op + 1) (by simp [Lit.wf,IntKind.min,IntKind.max,IntKind.signed,IntKind.bits]; omega))
   rcases uh HF with ⟨rfl,hft⟩ | ⟨b,n,D,rfl,hown,hn,hD⟩
   ·have hlk:∀ x:World,(Instr.lookup 108 (.map none) (.int .i64 (op + 1)) true).run Tryz.prog x = .ok (.tuple #[.int .i64 0,.bool false]) x:=fun x=>Maps.look_nil true keyI Tryz.underlying108 (zeroI3 x) (uh HKI)
    go_wp2_with fail
    refine wp_region_quiet_lit (by kernel_rfl) (by kernel_rfl) ?_
    repeat (go_big_quiet_step (fail))
    refine wpQuiet_nil ?_
    rintro _ ⟨n2,rfl⟩
    go_wp2_with fail
    go_ret
    exact ⟨by rw [← uh HE,opE,if_neg (uh HN),if_neg (by simp),hft]; rfl,uh HR2,(uh HK2).drewN n2⟩
   ·have hob:(W1.drewN n1).ownsMap Tryz.prog 3 (plainElem Tryz.prog 3) b n D:=xa0l hown (by
     refine (uh HK1).block b hown.lt ?_
     intro hm
     simp only [List.mem_singleton] at hm
     subst hm
     obtain ⟨es,ck,he,_⟩:=hown
     rw [uh HR] at he
     cases he)
    have hrun:=fun j:Nat=>xa9l (ft:=ft) (xa0l (w':=W1.drewN j) hob rfl) hD (op + 1) (uh HKI)
    have HD:=hide hD
    clear hD hown hob
    cases hft:ft (op + 1)
    all_goals
     have HFT:=hide hft
     rw [hft] at hrun
     simp only [Option.isSome_none,Option.isSome_some,Option.getD_none,Option.getD_some] at hrun
     clear hft
     go_wp2_with fail
     refine wp_region_quiet_lit (by kernel_rfl) (by kernel_rfl) ?_
     repeat (go_big_quiet_step (fail))
     refine wpQuiet_nil ?_
     rintro _ ⟨n2,rfl⟩
     go_wp2_with fail
     go_ret
     exact ⟨by rw [← uh HE,opE,if_neg (uh HN),if_neg (by simp),uh HFT]; rfl,uh HR2,(uh HK2).drewN n2⟩
  ·have h3:((own:Int) == 0) = false:=by simp; omega
   have H2:=hide h2
   clear h2
   go_wp2_with fail
   go_ret
   exact ⟨by rw [← uh HE,opE,if_neg (uh HN),if_pos (uh H2)]; rfl,uh HR2,uh HK2⟩
end
section
open Go
section
variable {P:Program} {ops:Array Oper} {md:Region.Mode} {C:World→Prop}
def AnyHead (P:Program) (md:Region.Mode) (ops:Array Oper) (C:World→Prop) (n:Nat) (L:Array Bool→Act→Prop):Nat→Array Bool→Act→Prop
 | 0,d,a=>L d a
 | f + 1,d,a=>Region.ready md ops d≠[]∧∀ i∈Region.ready md ops d,i < n∧qOp P ops C i (AnyHead P md ops C n L f (d.setIfInBounds i true)) a
theorem AnyHead.any {n g:Nat} {L:Array Bool→Act→Prop} {Q:Exit→Act→World→Prop} (hL:∀ d a w,C w→L d a→wpAny P md ops Q g d a w) :
  ∀ (f:Nat) (d:Array Bool) (a:Act) (w:World),C w→AnyHead P md ops C n L f d a→wpAny P md ops Q (f + g) d a w:=by
 intro f
 induction f with
 | zero=>intro d a w hw h; rw [Nat.zero_add]; exact hL d a w hw h
 | succ f ih =>
  intro d a w hw h
  rw [Nat.add_right_comm]
  exact ⟨fun h0=>absurd h0 h.1,fun i hi=>wpOp_of_qOp hw (fun a' w' hw' h'=>ih _ a' w' hw' h') (h.2 i hi).2⟩
theorem AnyHead.first {n i:Nat} {oi:Oper} {v:Value} {L:Array Bool→Act→Prop} (hi:ops[i]? = some oi) (hsel:∀ (j:Nat) (o:Oper) cs b,ops[j]? = some o→o.op≠.select cs b)
  (hs:Region.sinkB md ops n = true) (hc:Region.chainB md ops n = true) (hn:n < ops.size) (hin:i < n) (hdone:∀ d a,L d a→∀ j∈Region.ready md ops d,n≤j) (f:Nat) :
  ∀ (d:Array Bool) (a:Act),HeadInv md ops n d →
   (∀ j oj,ops[j]? = some oj→j≠i→d.getD j true = false→(∀ e∈oj.after,Region.binds md e = true→e.on≠i)→oi.apart ops oj = true) →
   i∈Region.ready md ops d→YieldsIn P ops C oi v a→AnyHead P md ops C n L f (d.setIfInBounds i true) (a.put oi.dst v)→AnyHead P md ops C n L (f + 1) d a:=by
 induction f with
 | zero =>
  intro d a inv _ hr hy H
  refine ⟨List.ne_nil_of_mem hr,fun j hj=>?_⟩
  have hjn:j < n:=Nat.lt_of_not_le fun h=>tail_waits hs hc hn inv _ i rfl hin (mem_ready.1 hr).1 j h hj
  refine ⟨hjn,?_⟩
  by_cases e:j = i
  ·rw [e]; exact hy.qOp hi H
  ·exact absurd (hdone _ _ H j (ready_mono hj e)) (by omega)
 | succ f ih =>
  intro d a inv hfree hr hy H
  refine ⟨List.ne_nil_of_mem hr,fun j hj=>?_⟩
  have hun:=(mem_ready.1 hr).1
  have hjn:j < n:=Nat.lt_of_not_le fun h=>tail_waits hs hc hn inv _ i rfl hin hun j h hj
  refine ⟨hjn,?_⟩
  by_cases e:j = i
  ·rw [e]; exact hy.qOp hi H
  ·obtain ⟨hjun,oj,hoj,hall⟩:=mem_ready.1 hj
   have hap:oi.apart ops oj = true:=hfree j oj hoj e hjun fun x hx hb heq=>by
    have h1:=hall x hx hb
    rw [heq,getD_both hun] at h1
    cases h1
   refine qOp_mono (fun a' h3=>ih (d.setIfInBounds j true) a' (inv.set hj hjn) (fun k ok hk hki hu hno=>hfree k ok hk hki ?_ hno) (ready_mono hr (Ne.symm e)) h3.1 ?_)
    (qOp_put hoj hap (fun cs b=>hsel i oi cs b hi) (fun cs b=>hsel j oj cs b hoj) hy (H.2 j (ready_mono hj e)).2)
   ·by_cases hjk:j = k
    ·rw [← hjk]; exact hjun
    ·rwa [getD_set_ne true hjk] at hu
   ·rw [Array.setIfInBounds_comm _ _ e]
    exact h3.2
theorem AnyHead.lex {n g:Nat} {Lq:Act→Prop} (hsel:Region.noSelect ops = true) (hs:Region.sinkB md ops n = true) (hc:Region.chainB md ops n = true) (hn:n < ops.size) (l:List Oper) :
  ∀ (k:Nat) (d:Array Bool) (a:Act),(∀ j,j < l.length→l[j]? = ops[k + j]?)→k + l.length = n→HeadInv md ops n d→Region.lexHead md ops g l.length k d = true→wpQuiet P ops C Lq l a →
  AnyHead P md ops C n (fun d' a'=>Region.seqB md ops g n d' = true∧Lq a') l.length d a:=by
 induction l with
 | nil =>
  intro k d a _ hk _ hB h
  obtain rfl:k = n:=by simpa using hk
  exact ⟨by simpa [Region.lexHead] using hB,h⟩
 | cons o l ih =>
  intro k d a hl hk inv hB h
  have h0:ops[k]? = some o:=by have:=hl 0 (by simp); simpa using this.symm
  simp only [List.length_cons,Region.lexHead,Bool.and_eq_true] at hB hk
  obtain ⟨⟨hr,hf⟩,hB'⟩:=hB
  have hr':k∈Region.ready md ops d:=by simpa using hr
  obtain ⟨v,hy,hK⟩:=yieldsIn_of_qOp h0 (show qOp P ops C k (wpQuiet P ops C Lq l) a by unfold qOp; simp only [h0]; exact h)
  refine AnyHead.first h0 (Region.noSelect_spec hsel) hs hc hn (by omega) (fun d' a' hL=>seqB_ready hL.1) l.length d a inv (Region.free_spec h0 hf) hr' hy
   (ih (k + 1) _ _ (fun j hj=>?_) (by omega) (inv.set hr' (by omega)) hB' hK)
  have:=hl (j + 1) (by simp; omega)
  rw [List.getElem?_cons_succ] at this
  rw [this]; congr 1; omega
theorem xa0z {id:Nat} {Q:Exit→Act→World→Prop} {a:Act} {w:World} {l:List Oper} (n:Nat) (hm:P.follows .mixedOrders = true) (hB:Region.lexTailB .any l.toArray n = true)
  (h:wpQuiet P l.toArray (fun w'=>∃ m,w' = w.drewN m) (fun a'=>∀ w',(∃ m,w' = w.drewN m)→wpList P l.toArray Q (l.drop n) a' w') (l.take n) a):(Code.region id l.toArray true).wp P Q a w:=by
 simp only [Region.lexTailB,Bool.and_eq_true,decide_eq_true_eq] at hB
 obtain ⟨⟨⟨⟨hsel,hn⟩,hs⟩,hc⟩,hlex⟩:=hB
 have hn':n < l.length:=by simpa using hn
 have htl:(l.take n).length = n:=by simp; omega
 have hdl:(l.drop n).length = l.toArray.size - n:=by simp
 have inv:HeadInv .any l.toArray n (Array.replicate l.toArray.size false) :=
  ⟨by simp,fun j oj _ hl=>absurd hl (by rw [getD_replicate_false]; decide),fun t _ ht=>getD_in (by simpa using ht) (getD_replicate_false _ _)⟩
 have H:=AnyHead.lex (md:=.any) (g:=l.toArray.size - n) hsel hs hc hn (l.take n) 0 _ a (fun j hj=>by
  rw [htl] at hj
  simp [hj]) (by omega) inv (by rw [htl]; exact hlex) h
 refine wp_region_any hm ?_
 have K:=AnyHead.any (Q:=Q) (g:=l.toArray.size - n) (fun d a' w' hw' hL=>by
  have:=wpAny_of_seq (md:=.any) (Q':=Q) (l.drop n) n d a' w' (fun j=>by simp [List.getElem?_drop]) (by rw [hdl]; exact hL.1) (hL.2 w' hw')
  rwa [hdl] at this) _ _ _ (w.drewN 1) ⟨1,rfl⟩ H
 rw [htl,show n + (l.toArray.size - n) = l.toArray.size by omega] at K
 exact K
end
end
section
open Go.RowKit
def Qr (w:World) (e:TypeId) (v:Value) (xs:List Value):Prop :=
 (v = .slice none 0 0∧xs = [])∨∃ (g off cap:Nat) (cur:Array Value),v = .slice (some ⟨g,off,none⟩) xs.length cap∧w.heap[g]? = some (.cells cur e (0,0))∧xs.length≤cap∧off + cap≤cur.size∧cap≤maxLen ∧
  ∀ j u,xs[j]? = some u→cur[off + j]? = some u
theorem Qr.nil (w:World) (e:TypeId):Qr w e (.slice none 0 0) []:=.inl ⟨rfl,rfl⟩
theorem Qr.kept {L:List Nat} {w w':World} {e:TypeId} {v:Value} {xs:List Value} (h:Qr w e v xs) (k:Kept L w w') (hn:∀ x∈blk v,x∉L):Qr w' e v xs:=by
 rcases h with h | ⟨g,off,cap,cur,rfl,hg,r⟩
 ·exact .inl h
 ·exact .inr ⟨g,off,cap,cur,rfl,k.heap hg (hn g (by simp [blk])),r⟩
theorem Qr.lt {w:World} {e:TypeId} {v:Value} {xs:List Value} (h:Qr w e v xs):∀ x∈blk v,x < w.heap.size:=by
 intro x hx
 rcases h with ⟨rfl,_⟩ | ⟨g,off,cap,cur,rfl,hg,r⟩
 ·simp [blk] at hx
 ·simp only [blk,List.mem_singleton] at hx; subst hx; exact lt_of_block hg
theorem Qr.apart {w:World} {e T:TypeId} {v:Value} {xs:List Value} (h:Qr w e v xs) {q:Nat} {cs:Array Value} {m:Nat × Nat} (hq:w.heap[q]? = some (.cells cs T m)) (hT:T≠e):q∉blk v:=by
 intro hx
 rcases h with ⟨rfl,_⟩ | ⟨g,off,cap,cur,rfl,hg,r⟩
 ·simp [blk] at hx
 ·simp only [blk,List.mem_singleton] at hx; subst hx; rw [hq] at hg; injection hg with hg; injection hg with h1 h2 h3; exact hT h2
theorem Qr.shape {w:World} {e:TypeId} {v:Value} {xs:List Value} (h:Qr w e v xs):∃ ao cap,v = .slice ao xs.length cap:=by
 rcases h with ⟨rfl,rfl⟩ | ⟨g,off,cap,cur,rfl,_⟩
 ·exact ⟨none,0,rfl⟩
 ·exact ⟨_,_,rfl⟩
theorem Qr.own {w:World} {base:Nat} {e:TypeId} {v:Value} {n:Nat} {xs:List Value} (h:w.ownsRow base e 1 v n xs) (hb:base≤w.heap.size):Qr w e v xs∧∀ b∈blk v,base≤b:=by
 have hl:=h.1
 rw [Nat.mul_one] at hl
 rcases h.2 with ⟨rfl,h0⟩ | ⟨g,cap,cur,rfl,hg0,hg,hc,hm,hs,ht⟩
 ·exact ⟨.inl ⟨rfl,List.eq_nil_of_length_eq_zero (by omega)⟩,by simp [blk]⟩
 ·rw [Nat.mul_one] at hs ht
  refine ⟨.inr ⟨g,0,cap,cur,by rw [hl],hg,by omega,by omega,hm,fun j u hj=>?_⟩,by simpa [blk] using hg0⟩
  rw [← ht] at hj
  rw [List.getElem?_take] at hj
  split at hj
  ·rw [Nat.zero_add,← Array.getElem?_toList]; exact hj
  ·cases hj
theorem xb5t (w:World) (t ty e:TypeId) (i0:TypeInfo) (z:Value) (bytes:Nat) (ht:Tryz.prog.underlying t = some (.slice e)) (hi:Tryz.prog.info? e = some i0) (hz0:i0.zero = some z) (hz1:i0.size = 1) (hz2:i0.bytes = bytes) (hzs:z.cells.size = 1) (hby:bytes≤24)
  (v:Value) (xs:List Value) (x:Value) (H:Nat) (h:Qr w e v xs) (hnew:w.heap[H]? = some (.cells #[x] e (0,0))) (hx:x.oneCell' = true) (hl:xs.length≤1000000000000) :
  ∃ ao cap w1,(Builtin.append_ #[t,t] ty #[v,.slice (some ⟨H,0,none⟩) 1 1]).run Tryz.prog w = .ok (.slice ao (xs.length + 1) cap) w1∧Qr w1 e (.slice ao (xs.length + 1) cap) (xs++[x])∧Kept (blk v) w w1∧∀ b∈blk (.slice ao (xs.length + 1) cap),b∈blk v∨w.heap.size≤b:=by
 have hbb:(xs.length + 1) * bytes≤140737488355328:=Nat.le_trans (Nat.mul_le_mul_left _ hby) (by omega)
 have hnews:∀ j u,[x][j]? = some u→w.cell? ((⟨H,0,none⟩:Addr).add j) = some u:=World.news_of_block (by simpa using hnew)
 have fin:∀ (v':Value) (w':World),w'.ownsRow w.heap.size e 1 v' (xs.length + 1) (xs++[x])→w.grownBy w' none→∃ ao cap,v' = .slice ao (xs.length + 1) cap∧Qr w' e (.slice ao (xs.length + 1) cap) (xs++[x])∧Kept (blk v) w w'∧∀ b∈blk (.slice ao (xs.length + 1) cap),b∈blk v∨w.heap.size≤b:=by
  intro v' w' ho hg
  obtain ⟨q1,q2⟩:=Qr.own ho hg.size
  obtain ⟨ao,cap,rfl⟩:=q1.shape
  rw [show (xs++[x]).length = xs.length + 1 by simp] at q1 q2
  exact ⟨ao,cap,by simp,q1,((Kept.refl _ w).grown hg (by simp)),fun b hb=>.inr (q2 b hb)⟩
 rcases h with ⟨rfl,rfl⟩ | ⟨g,off,cap,cur,rfl,hg,hc,hs,hm,hcells⟩
 ·obtain ⟨v',w',hrun,r1,r2,_⟩:=run_append_own (P:=Tryz.prog) w w.heap.size t ty e i0 z 1 bytes ht hi hz0 hz1 hz2 hzs (by decide) (.slice none 0 0) 0 [] (World.ownsRow_nil w _ e 1) ⟨H,0,none⟩ 1 1 [x] rfl hnews (by simpa using hx) (by unfold maxLen; omega) (by simpa using hbb) (Nat.le_refl _)
  obtain ⟨ao,cap,rfl,q⟩:=fin v' w' (by simpa using r1) r2
  exact ⟨ao,cap,w',hrun,q⟩
 ·have holds:∀ j u,xs[j]? = some u→w.cell? ⟨g,off + j,none⟩ = some u:=fun j u hj=>by rw [cell_of_row w g (off + j) _ e (0,0) hg]; exact hcells j u hj
  by_cases hr:xs.length + 1≤cap
  ·have hrun:=run_append_room_cells (P:=Tryz.prog) w t ty e i0 ht hi g off xs.length cap ⟨H,0,none⟩ 1 1 [x] (by simp [hz1]) hnews (by simpa using hx) hr (fun j hj=>by
    have:j = 0:=by simpa using hj
    subst this
    rw [hz1,Nat.mul_one,Nat.add_zero,cell_of_row w g _ _ e (0,0) hg,Array.getElem?_eq_getElem (by omega)]; rfl) (fun j hj=>by exact frozen_of_row _ _ _ _ _ hg)
   rw [hz1,Nat.mul_one] at hrun
   have hset:w.setCells g (off + xs.length) [x] = w.setCell ⟨g,off + xs.length,none⟩ x:=by simp [World.setCells]
   rw [hset] at hrun
   refine ⟨_,_,_,hrun,.inr ⟨g,off,cap,cur.set! (off + xs.length) x,by simp,heap_setCell_same _ _ _ _ _ _ hg,by simp; omega,by simpa using hs,hm,fun j u hj=>?_⟩,(Kept.refl _ w).setCell (.inl (by simp [blk])) _,fun b hb=>.inl (by simpa [blk] using hb)⟩
   rw [Array.set!_eq_setIfInBounds,Array.getElem?_setIfInBounds]
   by_cases hj0:j < xs.length
   ·rw [if_neg (by omega)]; rw [List.getElem?_append_left hj0] at hj; exact hcells j u hj
   ·have hj1:j = xs.length:=by
     have:=(List.getElem?_eq_some_iff.1 hj).1
     simp at this; omega
    subst hj1
    rw [if_pos rfl,if_pos (by omega)]
    simpa using hj
  ·obtain ⟨v',w',hrun,r1,r2⟩:=run_append_arg_grows (P:=Tryz.prog) w t ty e i0 z 1 bytes ht hi hz0 hz1 hz2 hzs (by decide) ⟨g,off,none⟩ xs.length cap xs (by simp) (fun j u hj=>by rw [Addr.add_lit]; exact holds j u hj) ⟨H,0,none⟩ 1 1 [x] rfl hnews (by omega) (by unfold maxLen; omega) hbb
   obtain ⟨ao,cap',rfl,q⟩:=fin v' w' r1 r2
   exact ⟨ao,cap',w',hrun,q⟩
theorem xa7b {ops:Array Oper} {rest:List Oper} {o:Oper} {a:Act} {Q:Exit→Act→World→Prop} (hgd:o.guard = none) (s x:Operand) (t e:TypeId)
  (ho:o.op = .call { callee:=.builtin .append,args:=#[s,x],argTypes:=#[t,t] }) (z:Value) (bytes:Nat) (ht:Tryz.prog.underlying t = some (.slice e)) (hinfo:(Tryz.prog.info? e).map (fun i=>(i.zero,i.size,i.bytes)) = some (some z,1,bytes)) (hzs:z.cells.size = 1) (hby:bytes≤24)
  (w:World) (v:Value) (xs:List Value) (y:Value) (H:Nat) (h:Qr w e v xs) (hnew:w.heap[H]? = some (.cells #[y] e (0,0))) (hy:y.oneCell' = true) (hl:xs.length≤1000000000000)
  (hs:a.eval s = v) (hx:a.eval x = .slice (some ⟨H,0,none⟩) 1 1)
  (hK:∀ ao cap w1,Hid (Qr w1 e (.slice ao (xs.length + 1) cap) (xs++[y]))→Hid (Kept (blk v) w w1)→Hid (∀ b∈blk (.slice ao (xs.length + 1) cap),b∈blk v∨w.heap.size≤b) →
   wpList Tryz.prog ops Q rest (a.put o.dst (.slice ao (xs.length + 1) cap)) w1) :
  wpList Tryz.prog ops Q (o :: rest) a w:=by
 obtain ⟨i0,hi,hz0,hz1,hz2⟩:=info_parts hinfo
 obtain ⟨ao,cap,w1,hrun,h2,h3,h4⟩:=xb5t w t o.type e i0 z bytes ht hi hz0 hz1 hz2 hzs hby v xs y H h hnew hy hl
 refine wpList_plain hgd fun K hK'=>?_
 unfold Oper.wp execOp
 simp only [ho,resolve,invoke,builtin,Sem.run_bind,Sem.run_pure,Result.andThen_ok,List.map_toArray,List.map_cons,List.map_nil,hs,hx,hrun]
 exact hK' _ _ (hK ao cap w1 h2 h3 h4)
end
section
open Go.RowKit Go.BigFrame
theorem map_ne {H:Type} {P:Program} {k:TypeId} {R:Value→Option (DataW H × List MemPlace)} {w:World} {b n:Nat} {D:DataW H} (h:w.ownsMap P k R b n D) {q:Nat} {cs:Array Value} {T:TypeId} {z:Nat × Nat} (hq:w.heap[q]? = some (.cells cs T z)):q≠b:=by
 intro e
 subst e
 obtain ⟨es,ck,he,_⟩:=h
 rw [hq] at he
 cases he
theorem Qr.notMap {H:Type} {P:Program} {k:TypeId} {R:Value→Option (DataW H × List MemPlace)} {w:World} {b n:Nat} {D:DataW H} {e:TypeId} {v:Value} {xs:List Value} (h:Qr w e v xs) (hm:w.ownsMap P k R b n D):b∉blk v:=by
 intro hx
 rcases h with ⟨rfl,_⟩ | ⟨g,off,cap,cur,rfl,hg,r⟩
 ·simp [blk] at hx
 ·simp only [blk,List.mem_singleton] at hx
  exact map_ne hm hg hx.symm
theorem xb4y {fs:List DFile} {f:DFile} (h:look fs f.nm.data.toList = none) (s:List UInt8):look (fs++[f]) s = if s = f.nm.data.toList then some f.g else look fs s:=by
 unfold look at h ⊢
 rw [List.find?_append]
 by_cases hs:s = f.nm.data.toList
 ·subst hs
  rw [if_pos rfl,Option.map_eq_none_iff.1 h]
  simp
 ·rw [if_neg hs]
  have:(f.nm.data.toList == s) = false:=by simpa using fun e=>hs e.symm
  simp [this]
theorem xb8r {w1:World} {m n N:Nat} {D:DataW Unit} {fs:List DFile} {f:DFile} (h:w1.ownsMap Tryz.prog 9 ptrElem m (n + 1) (D.put (.string f.nm.data.toList) (.lit (.int .u64 f.g)))) (hD:MapIs D (look fs)) (hl:look fs f.nm.data.toList = none) (hm:Maps.IsMap D) (hn:n≤N):DMap w1 m (N + 1) (fs++[f]):=by
 refine ⟨n + 1,_,h,by omega,?_⟩
 have h2:=hD.put hm f.nm.data.toList trivial f.g
 intro s
 rw [xb4y hl]
 exact h2 s
theorem xa5g {L:List Nat} {w w':World} {m N:Nat} {fs:List DFile} (h:DMap w m N fs) (k:Kept L w w') (hn:m∉L):DMap w' m N fs:=by
 obtain ⟨n,D,ho,r⟩:=h
 exact ⟨n,D,xa0l ho (k.block m ho.lt hn),r⟩
set_option maxHeartbeats 1000000 in
theorem xb9f (d:Nat) (f:DFile) (w:World) (sec:Int) (m N:Nat) (u fv:Value) (cr op:Int) (off:Bool) (fs:List DFile) (h:DRow w d sec (.map (some m)) u fv cr op off) (hm:DMap w m N fs)
  (hu:Qr w 114 u (unN fs)) (hf:FileAt w f) (hN:N≤1000000000) (hfs:fs.length≤1000000000) (hs:f.nm.size≤140737488355328) (hl:look fs f.nm.data.toList = none) :
  Calls Tryz.prog 68 #[.pointer (some ⟨d,0,none⟩),.pointer (some ⟨f.g,0,none⟩)] w fun e w'=>∃ u',e = .returned (.tuple #[])∧DRow w' d sec (.map (some m)) u' fv cr op off∧DMap w' m (N + 1) (fs++[f])∧Qr w' 114 u' (unN (fs++[f]))∧Kept (d :: m :: blk u) w w'∧∀ x∈blk u',x∈blk u∨w.heap.size≤x:=by
 obtain ⟨g,nm,v,bs,sy,nd⟩:=f
 dsimp only at hs hl ⊢
 unfold DRow at h
 have HR:=hide h
 have c1:=cell_of_row _ _ 1 _ _ _ h
 simp at c1
 have f0:=cell_of_row _ _ 0 _ _ _ hf.1
 simp at f0
 obtain ⟨n,D,hown,hn,hD⟩:=hm
 have HO:=hide hown
 have HD:=hide hD
 have HK:=hide (WideMaps.keyOf_string_mk Tryz.underlying9 (s:=nm) (by unfold maxLen; omega))
 have HU:=hide hu
 have HF:=hide hf
 have HL:=hide hl
 have hn2:n < maxLen:=by unfold maxLen; omega
 have HN2:=hide hn2
 have HDM:=hide (map_ne hown h)
 have HGM:=hide (map_ne hown hf.1)
 have hlen:(unN fs).length≤1000000000000:=by
  have:=List.length_filter_le (fun f:DFile=>!f.nd) fs
  unfold unN
  rw [List.length_map]
  omega
 clear hown hD hu hf h hl hn2
 go_enter Tryz.func68,Tryz.ntmps68
 go_wp2_with fail
 refine xa0z 9 (by kernel_rfl) (by kernel_rfl) ?_
 simp only [List.take_succ_cons,List.take_zero,List.drop_succ_cons,List.drop_zero]
 repeat (go_big_quiet_step (fail))
 refine wpQuiet_nil ?_
 rintro _ ⟨n1,rfl⟩
 clear c1 f0
 at_mapUpdate
 refine wpList_mapUpdate_in _ rfl _ _ _ 106 rfl 9 114 keyS Tryz.underlying106 ptrElem m n D rfl (xa0l (uh HO) rfl) (uh HN2) _ _ _ rfl rfl (uh HK) _ _ (xb2j g) ?_
 intro w1 hown1 hturn1
 have HK1:=hide (((Kept.refl [m] w).drewN n1).grown hturn1.grown (by intro k hk; injection hk with hk; subst hk; simp))
 have HR1:=hide ((uh HK1).heap (uh HR) (by simpa using uh HDM))
 have HG1:=hide ((uh HK1).heap (uh HF).1 (by simpa using uh HGM))
 have HU1:=hide ((uh HU).kept (uh HK1) (by intro x hx hm; simp at hm; subst hm; exact Qr.notMap (uh HU) (uh HO) hx))
 have HM1:=hide (xb8r hown1 (uh HD) (uh HL) (uh HO).isMap hn:DMap w1 m (N + 1) (fs++[⟨g,nm,v,bs,sy,nd⟩]))
 clear hown1 hturn1
 have c2:=cell_of_row _ _ 2 _ _ _ (uh HR1)
 have f3:=cell_of_row _ _ 3 _ _ _ (uh HG1)
 simp at c2 f3
 have hz2:=frozen_of_row _ _ 2 _ _ (uh HR1)
 cases nd
 ·have HU2:=hide ((uh HU1).kept ((Kept.refl [] w1).alloc (.cells #[.pointer (some ⟨g,0,none⟩)] 114 (0,0))) (by simp))
  have HDU:=hide ((uh HU1).apart (uh HR1) (by decide))
  have HR2:=hide (((Kept.refl [] w1).alloc (.cells #[.pointer (some ⟨g,0,none⟩)] 114 (0,0))).heap (uh HR1) (by simp))
  go_wp2_with (refine xa7b rfl _ _ 107 114 rfl (.pointer none) 8 Tryz.underlying107 (by kernel_rfl) rfl (by decide) _ u (unN fs) (.pointer (some ⟨g,0,none⟩)) w1.heap.size (uh HU2) (heap_alloc_new _ _) rfl hlen rfl rfl ?_; intro ao cap w3 A1 A2 A3; have HR3:=hide ((uh A2).heap (uh HR2) (uh HDU)); have c3:=cell_of_row _ _ 2 _ _ _ (uh HR3); simp at c3; have hz3:=frozen_of_row _ _ 2 _ _ (uh HR3))
  have hlt:=lt_of_block (uh HR1)
  have hmu:m∉blk u:=Qr.notMap (uh HU) (uh HO)
  have KA:Kept (blk u) w1 w3:=(((Kept.refl [] w1).alloc (.cells #[.pointer (some ⟨g,0,none⟩)] 114 (0,0))).mono (by simp)).trans (uh A2) (by intro y hy; exact .inl hy)
  have KB:Kept (d :: blk u) w1 (w3.setCell ⟨d,2,none⟩ (.slice ao ((unN fs).length + 1) cap)):=(KA.mono (by intro x hx; simp [hx])).setCell (.inl (by simp)) _
  have K4:Kept (d :: m :: blk u) w (w3.setCell ⟨d,2,none⟩ (.slice ao ((unN fs).length + 1) cap)):=((uh HK1).mono (by intro x hx; simp at hx; simp [hx])).trans KB (by intro y hy; left; simp at hy ⊢; rcases hy with h | h <;> simp [h])
  have hun:unN (fs++[⟨g,nm,v,bs,sy,false⟩]) = unN fs++[.pointer (some ⟨g,0,none⟩)]:=by simp [unN]
  refine bodyPost_end (v:=.tuple #[]) (results_none rfl _ _ _) rfl ⟨rfl,_,heap_setCell_same _ _ 2 _ _ _ (uh HR3),xa5g (uh HM1) KB ?_,?_,K4,fun x hx=>(uh A3 x hx).imp id (fun h=>by simp at h; have:=(uh HK1).size; omega)⟩
  ·intro hx
   simp only [List.mem_cons] at hx
   rcases hx with hx | hx
   ·exact uh HDM hx.symm
   ·exact hmu hx
  ·rw [hun]
   refine (uh A1).kept ((Kept.refl [d] w3).setCell (.inl (by simp)) _) ?_
   intro x hx hxd
   simp only [List.mem_singleton] at hxd
   subst hxd
   rcases uh A3 x hx with h1 | h1
   ·exact uh HDU h1
   ·simp at h1
    omega
 ·go_wp2_with fail
  have hun:unN (fs++[⟨g,nm,v,bs,sy,true⟩]) = unN fs:=by simp [unN]
  refine bodyPost_end (v:=.tuple #[]) (results_none rfl _ _ _) rfl ⟨rfl,u,uh HR1,uh HM1,?_,(uh HK1).mono (by intro x hx; simp at hx; simp [hx]),fun x hx=>.inl hx⟩
  rw [hun]
  exact uh HU1
set_option maxHeartbeats 400000 in
theorem xa9z (v:Value) (bs:List Nat) (w:World) (h:Rd w v bs) :
  Calls Tryz.prog 46 #[v] w fun e w'=>e = .returned (.slice (some ⟨w.heap.size,0,none⟩) bs.length bs.length)∧Kept [] w w' ∧
   w'.heap[w.heap.size]? = some (.cells (bs.map u8).toArray 5 (0,0)):=by
 have hk:Rd (w.alloc (.cells (zeros bs.length).toArray 5)) v bs:=h.kept ((Kept.refl [] w).alloc _) (by simp)
 obtain ⟨ao,len,cap,rfl,rfl,h2,⟨h3,h3'⟩,h4,h5,h6⟩:=h
 have hmk:=run_make_row' (P:=Tryz.prog) 49 5 (.int .u8 0) 1 Tryz.underlying49 Tryz.info5 rfl .i64 .i64 bs.length (by omega) (by omega)
 simp only [madeZeros] at hmk
 obtain ⟨w2,hrun,hg,hw⟩:=xa1j 49 49 3 5 Tryz.underlying49 Tryz.size5 _ w.heap.size bs.length bs.length cap ao bs (zeros bs.length) 5 (heap_alloc_new w _) hk (Nat.le_refl _) (by simp [zeros])
 have HG:=hide hg
 have HW:=hide hw
 clear hg hw hk h6
 go_enter Tryz.func46,Tryz.ntmps46
 go_wp2
 go_ret
 refine ⟨rfl,((Kept.refl [] w).alloc _).trans (uh HW) (by simp),?_⟩
 rw [uh HG]; simp [zeros]
def mblk:Value→List Nat
 | .map (some b)=>[b]
 | _=>[]
structure DkAt (w:World) (d sec m N:Nat) (u fv:Value) (cr op:Int) (off:Bool) (ft:Int→Option Int) (fs:List DFile):Prop where
 row:DRow w d sec (.map (some m)) u fv cr op off
 map:DMap w m N fs
 un:Qr w 114 u (unN fs)
 ft:FMap w fv N ft
 files:∀ f∈fs,FileAt w f
 apart:fs.Pairwise fun a b=>a.g≠b.g∧∀ x∈blk a.v,x∉blk b.v
 two:m∉mblk fv
def dkB (d m:Nat) (u fv:Value) (fs:List DFile):List Nat:=d :: m :: (blk u++mblk fv++fs.flatMap fun f=>f.g :: blk f.v)
theorem FMap.kept {L:List Nat} {w w':World} {fv:Value} {N:Nat} {ft:Int→Option Int} (h:FMap w fv N ft) (k:Kept L w w') (hn:∀ x∈mblk fv,x∉L):FMap w' fv N ft:=by
 rcases h with h | ⟨b,n,D,rfl,ho,r⟩
 ·exact .inl h
 ·exact .inr ⟨b,n,D,rfl,xa0l ho (k.block b ho.lt (hn b (by simp [mblk]))),r⟩
theorem xa1x {v:Value} {x:Nat} (h:v.ownBlock = some x):x∈blk v:=by
 unfold Value.ownBlock at h
 split at h <;> simp_all [blk]
theorem FileAt.kept {L:List Nat} {w w':World} {f:DFile} (h:FileAt w f) (k:Kept L w w') (hg:f.g∉L) (hv:∀ x∈blk f.v,x∉L):FileAt w' f :=
 ⟨k.heap h.1 hg,k.owns h.2.1 (fun x hx=>hv x (xa1x hx)),h.2.2⟩
theorem DkAt.kept {L:List Nat} {w w':World} {d sec m N:Nat} {u fv:Value} {cr op:Int} {off:Bool} {ft:Int→Option Int} {fs:List DFile} (h:DkAt w d sec m N u fv cr op off ft fs) (k:Kept L w w') (hn:∀ x∈dkB d m u fv fs,x∉L):DkAt w' d sec m N u fv cr op off ft fs where
 row:=k.heap h.row (hn d (by simp [dkB]))
 map:=xa5g h.map k (hn m (by simp [dkB]))
 un:=h.un.kept k (fun x hx=>hn x (by simp [dkB,hx]))
 ft:=h.ft.kept k (fun x hx=>hn x (by simp [dkB,hx]))
 files:=fun f hf=>(h.files f hf).kept k (hn f.g (by
  simp only [dkB,List.mem_cons,List.mem_append,List.mem_flatMap]
  exact .inr (.inr (.inr ⟨f,hf,.inl rfl⟩)))) (fun x hx=>hn x (by
  simp only [dkB,List.mem_cons,List.mem_append,List.mem_flatMap]
  exact .inr (.inr (.inr ⟨f,hf,.inr hx⟩))))
 apart:=h.apart
 two:=h.two
theorem xa0h {w:World} {p q:Nat} {a b:Array Value} {T S:TypeId} {x y:Nat × Nat} (hp:w.heap[p]? = some (.cells a T x)) (hq:w.heap[q]? = some (.cells b S y)) (h:T≠S):p≠q:=by
 intro e
 subst e
 rw [hp] at hq
 injection hq with hq
 injection hq with h1 h2 h3
 exact h h2
theorem xa0c {w:World} {base e s n:Nat} {v:Value} {xs:List Value} (h:w.ownsRow base e s v n xs) {x:Nat} (hx:x∈blk v):∃ cs,w.heap[x]? = some (.cells cs e (0,0)):=by
 rcases h.2 with ⟨rfl,_⟩ | ⟨g,cap,cur,rfl,_,hg,_⟩
 ·simp [blk] at hx
 ·simp only [blk,List.mem_singleton] at hx
  subst hx
  exact ⟨_,hg⟩
theorem xa4p {w:World} {e:TypeId} {v:Value} {xs:List Value} (h:Qr w e v xs) {x:Nat} (hx:x∈blk v):∃ cs,w.heap[x]? = some (.cells cs e (0,0)):=by
 rcases h with ⟨rfl,_⟩ | ⟨g,off,cap,cur,rfl,hg,r⟩
 ·simp [blk] at hx
 ·simp only [blk,List.mem_singleton] at hx
  subst hx
  exact ⟨_,hg⟩
theorem xa1n {w:World} {fv:Value} {N:Nat} {ft:Int→Option Int} (h:FMap w fv N ft) {x:Nat} (hx:x∈mblk fv):∃ (n:Nat) (D:DataW Unit),w.ownsMap Tryz.prog 3 (plainElem Tryz.prog 3) x n D:=by
 rcases h with ⟨rfl,_⟩ | ⟨b,n,D,rfl,ho,_⟩
 ·simp [mblk] at hx
 ·simp only [mblk,List.mem_singleton] at hx
  subst hx
  exact ⟨n,D,ho⟩
theorem DkAt.turned {w w':World} {d sec m N:Nat} {u fv:Value} {cr op:Int} {off:Bool} {ft:Int→Option Int} {fs:List DFile} (h:DkAt w d sec m N u fv cr op off ft fs) (k:Kept [d] w w') {cr' op':Int} {off':Bool} (hr:DRow w' d sec (.map (some m)) u fv cr' op' off'):DkAt w' d sec m N u fv cr' op' off' ft fs where
 row:=hr
 map:=by
  obtain ⟨n,D,ho,_⟩:=h.map
  exact xa5g h.map k (by simpa using (map_ne ho h.row).symm)
 un:=h.un.kept k (by
  intro x hx
  obtain ⟨cs,hc⟩:=xa4p h.un hx
  simpa using xa0h hc h.row (by decide))
 ft:=h.ft.kept k (by
  intro x hx
  obtain ⟨n,D,ho⟩:=xa1n h.ft hx
  simpa using (map_ne ho h.row).symm)
 files:=fun f hf=>(h.files f hf).kept k (by simpa using xa0h (h.files f hf).1 h.row (by decide)) (by
  intro x hx
  obtain ⟨cs,hc⟩:=xa0c (h.files f hf).2.1 hx
  simpa using xa0h hc h.row (by decide))
 apart:=h.apart
 two:=h.two
theorem DkAt.more {w:World} {d sec m N M:Nat} {u fv:Value} {cr op:Int} {off:Bool} {ft:Int→Option Int} {fs:List DFile} (h:DkAt w d sec m N u fv cr op off ft fs) (hM:N≤M):DkAt w d sec m M u fv cr op off ft fs where
 row:=h.row
 map:=by obtain ⟨n,D,ho,hn,r⟩:=h.map; exact ⟨n,D,ho,by omega,r⟩
 un:=h.un
 ft:=by
  rcases h.ft with h1 | ⟨b,n,D,h1,ho,hn,r⟩
  ·exact .inl h1
  ·exact .inr ⟨b,n,D,h1,ho,by omega,r⟩
 files:=h.files
 apart:=h.apart
 two:=h.two
theorem xc1k (d sec m N:Nat) (f:DFile) (w:World) (u fv:Value) (cr op:Int) (off:Bool) (ft:Int→Option Int) (fs:List DFile) (h:DkAt w d sec m N u fv cr op off ft fs) (hf:FileAt w f) (hN:N≤1000000000) (hfs:fs.length≤1000000000) (hs:f.nm.size≤140737488355328)
  (hl:look fs f.nm.data.toList = none) (hap:∀ a∈fs,a.g≠f.g∧∀ x∈blk a.v,x∉blk f.v) :
  Calls Tryz.prog 68 #[.pointer (some ⟨d,0,none⟩),.pointer (some ⟨f.g,0,none⟩)] w fun e w'=>∃ u',e = .returned (.tuple #[])∧DkAt w' d sec m (N + 1) u' fv cr op off ft (fs++[f])∧Kept (d :: m :: blk u) w w'∧∀ x∈blk u',x∈blk u∨w.heap.size≤x:=by
 refine Calls.mono (xb9f d f w sec m N u fv cr op off fs h.row h.map h.un hf hN hfs hs hl) ?_
 rintro e w' ⟨u',rfl,h1,h2,h3,hk,h5⟩
 obtain ⟨n,D,ho,_⟩:=h.map
 have hfree:∀ {q:Nat} {cs:Array Value} {T:TypeId} {z:Nat × Nat},w.heap[q]? = some (.cells cs T z)→T≠110→T≠114→q∉d :: m :: blk u:=by
  intro q cs T z hq hT hS hx
  simp only [List.mem_cons] at hx
  rcases hx with hx | hx | hx
  ·exact xa0h hq h.row hT hx
  ·exact map_ne ho hq hx
  ·obtain ⟨c2,hc⟩:=xa4p h.un hx
   exact xa0h hq hc hS rfl
 have hfile:∀ {a:DFile},FileAt w a→FileAt w' a:=by
  intro a ha
  refine ha.kept hk (hfree ha.1 (by decide) (by decide)) ?_
  intro x hx
  obtain ⟨cs,hc⟩:=xa0c ha.2.1 hx
  exact hfree hc (by decide) (by decide)
 refine ⟨u',rfl,⟨h1,h2,h3,?_,?_,?_,h.two⟩,hk,h5⟩
 ·have h6:=h.more (Nat.le_succ N)
  refine h6.ft.kept hk ?_
  intro x hx hx2
  obtain ⟨n2,D2,ho2⟩:=xa1n h.ft hx
  simp only [List.mem_cons] at hx2
  rcases hx2 with hx2 | hx2 | hx2
  ·exact map_ne ho2 h.row hx2.symm
  ·subst hx2
   exact h.two hx
  ·exact Qr.notMap h.un ho2 hx2
 ·intro a ha
  rw [List.mem_append] at ha
  rcases ha with ha | ha
  ·exact hfile (h.files a ha)
  ·simp only [List.mem_singleton] at ha
   subst ha
   exact hfile hf
 ·rw [List.pairwise_append]
  refine ⟨h.apart,List.pairwise_singleton _ _,?_⟩
  intro a ha b hb
  simp only [List.mem_singleton] at hb
  subst hb
  exact hap a ha
theorem xc1g (fs:List DFile) (s:ByteArray):own1 fs s < 100:=by unfold own1; (repeat' split) <;> omega
theorem xb5x {fs:List DFile} {s:ByteArray} (h:own1 fs s = 0):look fs s.data.toList = none:=by
 unfold own1 at h
 split at h
 ·split at h
  ·cases h
  ·rename_i h2
   simpa using h2
 ·cases h
theorem dkB_g {d m:Nat} {u fv:Value} {fs:List DFile} {a:DFile} (h:a∈fs):a.g∈dkB d m u fv fs:=by
 simp only [dkB,List.mem_cons,List.mem_append,List.mem_flatMap]
 exact .inr (.inr (.inr ⟨a,h,.inl rfl⟩))
theorem DkAt.lt {w:World} {d sec m N:Nat} {u fv:Value} {cr op:Int} {off:Bool} {ft:Int→Option Int} {fs:List DFile} (h:DkAt w d sec m N u fv cr op off ft fs):∀ x∈dkB d m u fv fs,x < w.heap.size:=by
 intro x hx
 simp only [dkB,List.mem_cons,List.mem_append,List.mem_flatMap] at hx
 rcases hx with rfl | rfl | (hx | hx) | ⟨f,hf,hx⟩
 ·exact lt_of_block h.row
 ·obtain ⟨n,D,ho,_⟩:=h.map
  exact ho.lt
 ·exact h.un.lt x hx
 ·obtain ⟨n,D,ho⟩:=xa1n h.ft hx
  exact ho.lt
 ·rcases hx with rfl | hx
  ·exact lt_of_block (h.files f hf).1
  ·obtain ⟨cs,hc⟩:=xa0c (h.files f hf).2.1 hx
   exact lt_of_block hc
def crF (fs:List DFile) (s:ByteArray) (E G:Nat):List DFile:=if own1 fs s = 0∧E≠7 then fs++[⟨G,s,.slice none 0 0,[],0,false⟩] else fs
set_option maxHeartbeats 1000000 in
theorem xb3z (d sec m N:Nat) (s:ByteArray) (w:World) (u fv:Value) (cr op:Int) (ft:Int→Option Int) (fs:List DFile) (h:DkAt w d sec m N u fv cr op true ft fs) :
  Calls Tryz.prog 93 #[.pointer (some ⟨d,0,none⟩),.string s] w fun e w'=>e = .returned (.int .i64 12)∧w' = w:=by
 have HD:=hide h
 clear h
 go_enter Tryz.func93,Tryz.ntmps93
 go_wp2_with fail
 refine Calls.mono (xa0g d w sec m u fv cr op true (uh HD).row) ?_
 rintro e w1 ⟨rfl,rfl⟩
 simp only [if_true]
 go_wp2_with fail
 go_ret
 exact ⟨rfl,rfl⟩
set_option maxHeartbeats 1000000 in
theorem xb2o (d sec m N:Nat) (s:ByteArray) (w:World) (u fv:Value) (cr op:Int) (ft:Int→Option Int) (fs:List DFile) (h:DkAt w d sec m N u fv cr op false ft fs) (hs:s.size≤140737488355328) (ho:0≤op∧op≤1000000000000) (hN:N≤1000000000) (hfs:fs.length≤1000000000) :
  Calls Tryz.prog 93 #[.pointer (some ⟨d,0,none⟩),.string s] w fun e w'=>∃ (E G:Nat) (u':Value),e = .returned (.int .i64 E)∧E = opE ft cr op (own1 fs s) ∧
   DkAt w' d sec m (N + 1) u' fv cr (op + 1) (decide (op + 1 = cr)) ft (crF fs s E G)∧Kept (dkB d m u fv fs) w w'∧∀ x∈dkB d m u' fv (crF fs s E G),x∈dkB d m u fv fs∨w.heap.size≤x:=by
 have HD:=hide h
 clear h
 obtain ⟨E0,hE0⟩:∃ E,own1 fs s = E:=⟨_,rfl⟩
 have HE0:=hide hE0
 have hlt:E0 < 100:=by rw [← hE0]; exact xc1g fs s
 clear hE0
 obtain ⟨E,hE⟩:∃ E,opE ft cr op E0 = E:=⟨_,rfl⟩
 have HE:=hide hE
 clear hE
 go_enter Tryz.func93,Tryz.ntmps93
 go_wp2_with fail
 refine Calls.mono (xa0g d w sec m u fv cr op false (uh HD).row) ?_
 rintro e w1 ⟨rfl,rfl⟩
 simp only [Bool.false_eq_true,if_false]
 go_wp2_with fail
 refine Calls.mono (xa3x d s _ sec m N u fv cr op false fs (uh HD).row (uh HD).map hs) ?_
 rintro e w2 ⟨rfl,rfl⟩
 rw [uh HE0]
 go_wp2_with fail
 refine Calls.mono (xa0m d E0 _ sec (.map (some m)) N u fv cr op false ft (uh HD).row (uh HD).ft ho hlt) ?_
 rintro e w3 ⟨rfl,hr3,hk3⟩
 rw [uh HE]
 have HR3:=hide hr3
 have HK3:=hide hk3
 clear hr3 hk3
 have HD3:=hide ((uh HD).turned (uh HK3) (uh HR3))
 by_cases hc:E0 = 0∧E≠7
 ·obtain ⟨rfl,hE7⟩:=hc
  have hb:((E:Int) != 7) = true:=by simp; omega
  have HEC:=hide (by unfold crF; rw [if_pos ⟨uh HE0,hE7⟩]:crF fs s E w3.heap.size = fs++[⟨w3.heap.size,s,.slice none 0 0,[],0,false⟩])
  clear hE7
  go_wp2_with fail
  have HD4:=hide ((uh HD3).kept ((Kept.refl [] w3).alloc (.cells #[.string s,.slice none 0 0,.int .i64 0,.bool false] 119 (0,0))) (by simp))
  refine Calls.mono (xc1k d sec m N ⟨w3.heap.size,s,.slice none 0 0,[],0,false⟩ _ u fv cr (op + 1) _ ft fs (uh HD4) ⟨heap_alloc_new _ _,World.ownsRow_nil _ _ _ _,by simp,by simp⟩ hN hfs hs (xb5x (uh HE0)) ?_) ?_
  ·intro a ha
   have:=(uh HD3).lt a.g (dkB_g ha)
   exact ⟨by dsimp only; omega,by simp [blk]⟩
  rintro e w5 ⟨u',rfl,hD5,hK5,hu5⟩
  have HD5:=hide hD5
  have HK5:=hide hK5
  have HU5:=hide hu5
  clear hD5 hK5 hu5
  go_wp2_with fail
  go_ret
  have hs3:=(uh HK3).size
  refine ⟨E,w3.heap.size,u',rfl,by rw [uh HE0]; exact (uh HE).symm,?_,?_,?_⟩
  ·rw [uh HEC]
   simpa using uh HD5
  ·have k1:Kept (dkB d m u fv fs) w2 (w3.alloc (.cells #[.string s,.slice none 0 0,.int .i64 0,.bool false] 119 (0,0))):=((uh HK3).mono (by intro x hx; simp at hx; simp [dkB,hx])).alloc _
   exact k1.trans (uh HK5) (by intro x hx; left; simp only [List.mem_cons] at hx; rcases hx with h | h | h <;> simp [dkB,h])
  ·rw [uh HEC]
   intro x hx
   simp only [dkB,List.mem_cons,List.mem_append,List.mem_flatMap,List.flatMap_append,List.flatMap_cons,List.flatMap_nil,List.append_nil] at hx ⊢
   rcases hx with h | h | (h | h) | h | h
   ·exact .inl (.inl h)
   ·exact .inl (.inr (.inl h))
   ·rcases uh HU5 x h with h1 | h1
    ·exact .inl (.inr (.inr (.inl (.inl h1))))
    ·right
     simp at h1
     omega
   ·exact .inl (.inr (.inr (.inl (.inr h))))
   ·exact .inl (.inr (.inr (.inr h)))
   ·simp [blk] at h
    right
    omega
 ·have HEC:=hide (by unfold crF; rw [uh HE0,if_neg hc]:crF fs s E 0 = fs)
  have hfin:∃ (E' G:Nat) (u':Value),(E:Int) = E'∧E' = opE ft cr op (own1 fs s) ∧
   DkAt w3 d sec m (N + 1) u' fv cr (op + 1) (decide (op + 1 = cr)) ft (crF fs s E' G)∧Kept (dkB d m u fv fs) w2 w3∧∀ x∈dkB d m u' fv (crF fs s E' G),x∈dkB d m u fv fs∨w2.heap.size≤x:=by
   refine ⟨E,0,u,rfl,by rw [uh HE0]; exact (uh HE).symm,?_,(uh HK3).mono (by intro x hx; simp at hx; simp [dkB,hx]),?_⟩
   ·rw [uh HEC]
    simpa using (uh HD3).more (Nat.le_succ N)
   ·rw [uh HEC]
    exact fun x hx=>.inl hx
  have HFIN:=hide hfin
  clear hfin
  by_cases h0:E0 = 0
  ·subst h0
   have h7:E = 7:=by simpa using hc
   have hb:((E:Int) != 7) = false:=by simp; omega
   clear hc
   go_wp2_with fail
   go_ret
   obtain ⟨E',G,u',r0,r⟩:=uh HFIN
   exact ⟨E',G,u',by rw [← r0,h7]; rfl,r⟩
  ·have hb:((E0:Int) == 0) = false:=by simp; omega
   clear hc
   go_wp2_with fail
   go_ret
   obtain ⟨E',G,u',r0,r⟩:=uh HFIN
   exact ⟨E',G,u',by rw [← r0]; rfl,r⟩
def Apt (a b:DFile):Prop:=a.g≠b.g∧∀ x∈blk a.v,x∉blk b.v
theorem Apt.symm {a b:DFile} (h:Apt a b):Apt b a:=⟨fun e=>h.1 e.symm,fun x hx hy=>h.2 x hy hx⟩
theorem xa6j {fs:List DFile} (h:fs.Pairwise Apt) {a b:DFile} (ha:a∈fs) (hb:b∈fs):a = b∨Apt a b:=by
 induction h with
 | nil=>simp at ha
 | @cons x l hx hl ih =>
  simp only [List.mem_cons] at ha hb
  rcases ha with rfl | ha
  ·rcases hb with rfl | hb
   ·exact .inl rfl
   ·exact .inr (hx b hb)
  ·rcases hb with rfl | hb
   ·exact .inr (hx a ha).symm
   ·exact ih ha hb
def upOne (g:Nat) (v:Value) (bs:List Nat) (sy:Nat) (f:DFile):DFile:=if f.g = g then { f with v:=v,bs:=bs,sy:=sy } else f
def upF (fs:List DFile) (g:Nat) (v:Value) (bs:List Nat) (sy:Nat):List DFile:=fs.map (upOne g v bs sy)
theorem xa6k (g:Nat) (v:Value) (bs:List Nat) (sy:Nat) (f:DFile):(upOne g v bs sy f).g = f.g:=by unfold upOne; split <;> rfl
theorem xb9y (g:Nat) (v:Value) (bs:List Nat) (sy:Nat) (f:DFile):(upOne g v bs sy f).nm = f.nm:=by unfold upOne; split <;> rfl
theorem xb9a (g:Nat) (v:Value) (bs:List Nat) (sy:Nat) (f:DFile):(upOne g v bs sy f).nd = f.nd:=by unfold upOne; split <;> rfl
theorem xc0m (fs:List DFile) (g:Nat) (v:Value) (bs:List Nat) (sy:Nat):look (upF fs g v bs sy) = look fs:=by
 funext s
 unfold look upF
 rw [List.find?_map]
 have:((fun f:DFile=>f.nm.data.toList == s) ∘ upOne g v bs sy) = fun f=>f.nm.data.toList == s:=by
  funext f
  simp [xb9y]
 rw [this,Option.map_map]
 congr 1
 funext f
 simp [xa6k]
theorem unN_up (fs:List DFile) (g:Nat) (v:Value) (bs:List Nat) (sy:Nat):unN (upF fs g v bs sy) = unN fs:=by
 unfold unN upF
 rw [List.filter_map,List.map_map]
 have h1:((fun f:DFile=>!f.nd) ∘ upOne g v bs sy) = fun f=>!f.nd:=by
  funext f
  simp [xb9a]
 rw [h1]
 congr 1
 funext f
 simp [xa6k]
theorem DkAt.upd {w w':World} {d sec m N:Nat} {u fv:Value} {cr op:Int} {off:Bool} {ft:Int→Option Int} {fs:List DFile} (h:DkAt w d sec m N u fv cr op off ft fs) {f:DFile} (hf:f∈fs) (k:Kept (f.g :: blk f.v) w w') {v:Value} {bs:List Nat} {sy:Nat}
  (hn:FileAt w' { f with v:=v,bs:=bs,sy:=sy }) (hv:∀ x∈blk v,x∈blk f.v∨w.heap.size≤x):DkAt w' d sec m N u fv cr op off ft (upF fs f.g v bs sy):=by
 have hfree:∀ {q:Nat} {cs:Array Value} {T:TypeId} {z:Nat × Nat},w.heap[q]? = some (.cells cs T z)→T≠119→T≠5→q∉f.g :: blk f.v:=by
  intro q cs T z hq hT hS hx
  simp only [List.mem_cons] at hx
  rcases hx with hx | hx
  ·exact xa0h hq (h.files f hf).1 hT hx
  ·obtain ⟨c2,hc⟩:=xa0c (h.files f hf).2.1 hx
   exact xa0h hq hc hS rfl
 have hmfree:∀ {H:Type} {kk:TypeId} {R:Value→Option (DataW H × List MemPlace)} {b n:Nat} {D:DataW H},w.ownsMap Tryz.prog kk R b n D→b∉f.g :: blk f.v:=by
  intro H kk R b n D ho hx
  simp only [List.mem_cons] at hx
  rcases hx with hx | hx
  ·exact map_ne ho (h.files f hf).1 hx.symm
  ·obtain ⟨c2,hc⟩:=xa0c (h.files f hf).2.1 hx
   exact map_ne ho hc rfl
 refine ⟨k.heap h.row (hfree h.row (by decide) (by decide)),?_,?_,?_,?_,?_,h.two⟩
 ·obtain ⟨n,D,ho,hN,hD⟩:=h.map
  exact ⟨n,D,xa0l ho (k.block m ho.lt (hmfree ho)),hN,by rw [xc0m]; exact hD⟩
 ·rw [unN_up]
  refine h.un.kept k ?_
  intro x hx
  obtain ⟨cs,hc⟩:=xa4p h.un hx
  exact hfree hc (by decide) (by decide)
 ·refine h.ft.kept k ?_
  intro x hx
  obtain ⟨n,D,ho⟩:=xa1n h.ft hx
  exact hmfree ho
 ·intro a ha
  obtain ⟨b,hb,rfl⟩:=List.mem_map.1 ha
  rcases xa6j h.apart hb hf with rfl | hab
  ·unfold upOne
   rw [if_pos rfl]
   exact hn
  ·unfold upOne
   rw [if_neg hab.1]
   refine (h.files b hb).kept k ?_ ?_
   ·intro hx
    simp only [List.mem_cons] at hx
    rcases hx with hx | hx
    ·exact hab.1 hx
    ·obtain ⟨cs,hc⟩:=xa0c (h.files f hf).2.1 hx
     exact xa0h (h.files b hb).1 hc (by decide) rfl
   ·intro x hx hy
    simp only [List.mem_cons] at hy
    rcases hy with hy | hy
    ·subst hy
     obtain ⟨cs,hc⟩:=xa0c (h.files b hb).2.1 hx
     exact xa0h (h.files f hf).1 hc (by decide) rfl
    ·exact hab.2 x hx hy
 ·show (List.map (upOne f.g v bs sy) fs).Pairwise Apt
  rw [List.pairwise_map]
  have hin:fs.Pairwise fun a b=>a∈fs∧b∈fs∧Apt a b:=by
   have h1:=h.apart
   rw [List.pairwise_iff_getElem] at h1 ⊢
   intro i j hi hj hij
   exact ⟨List.getElem_mem hi,List.getElem_mem hj,h1 i j hi hj hij⟩
  refine hin.imp ?_
  rintro a b ⟨ha,hb,hab⟩
  refine ⟨by rw [xa6k,xa6k]; exact hab.1,?_⟩
  have hold:∀ c∈fs,∀ x∈blk c.v,x < w.heap.size:=by
   intro c hc x hx
   obtain ⟨cs,hcc⟩:=xa0c (h.files c hc).2.1 hx
   exact lt_of_block hcc
  intro x hx hy
  unfold upOne at hx hy
  split at hx
  ·rename_i hga
   split at hy
   ·rename_i hgb
    exact hab.1 (hga.trans hgb.symm)
   ·rcases xa6j h.apart ha hf with rfl | haf
    ·rcases hv x hx with h1 | h1
     ·exact hab.2 x h1 hy
     ·have:=hold b hb x hy
      omega
    ·exact haf.1 hga
  ·split at hy
   ·rename_i hgb
    rcases xa6j h.apart hb hf with rfl | hbf
    ·rcases hv x hy with h1 | h1
     ·exact hab.2 x hx h1
     ·have:=hold a ha x hx
      omega
    ·exact hbf.1 hgb
   ·exact hab.2 x hx hy
def zblk {α:Type} (v:Value) (bs:List α):List Nat:=if bs.isEmpty then [] else blk v
theorem xa4n {α:Type} {v:Value} {bs:List α} {x:Nat} (h:x∈zblk v bs):x∈blk v∧bs≠[]:=by
 unfold zblk at h
 split at h
 ·simp at h
 ·rename_i h1; exact ⟨h,by simpa using h1⟩
theorem xc1e {α:Type} {v:Value} {bs:List α} {x:Nat} (h:x∈blk v) (hb:bs≠[]):x∈zblk v bs:=by
 unfold zblk
 rw [if_neg (by simpa using hb)]
 exact h
theorem Rd.keptZ {L:List Nat} {w w':World} {v:Value} {bs:List Nat} (h:Rd w v bs) (k:Kept L w w') (hn:∀ x∈zblk v bs,x∉L):Rd w' v bs:=by
 by_cases he:bs = []
 ·subst he
  obtain ⟨ao,len,cap,rfl,h1,h2,h3,h4,h5,h6⟩:=h
  exact ⟨ao,len,cap,rfl,h1,h2,h3,h4,h5,fun hp=>by simp at h1; omega⟩
 ·exact h.kept k (fun x hx=>hn x (xc1e hx he))
theorem Rd.ltZ {w:World} {v:Value} {bs:List Nat} (h:Rd w v bs):∀ x∈zblk v bs,x < w.heap.size:=by
 intro x hx
 obtain ⟨h1,h2⟩:=xa4n hx
 obtain ⟨ao,len,cap,rfl,h3,_,_,_,_,h6⟩:=h
 obtain ⟨b,off,rfl,hc⟩:=h6 (by rw [← h3]; exact List.length_pos_iff.2 h2)
 have h9:=block_lt_of_cell (hc 0 (by rw [← h3]; exact List.length_pos_iff.2 h2))
 simp only [blk,List.mem_singleton] at h1
 subst h1
 exact h9
set_option maxHeartbeats 1000000 in
theorem xb9k (d sec m N:Nat) (s:ByteArray) (w:World) (u fv:Value) (cr op:Int) (ft:Int→Option Int) (fs:List DFile) (h:DkAt w d sec m N u fv cr op true ft fs) :
  Calls Tryz.prog 91 #[.pointer (some ⟨d,0,none⟩),.string s] w fun e w'=>e = .returned (.int .i64 12)∧w' = w:=by
 have HD:=hide h
 clear h
 go_enter Tryz.func91,Tryz.ntmps91
 go_wp2_with fail
 refine Calls.mono (xa0g d w sec m u fv cr op true (uh HD).row) ?_
 rintro e w1 ⟨rfl,rfl⟩
 simp only [if_true]
 go_wp2_with fail
 go_ret
 exact ⟨rfl,rfl⟩
set_option maxHeartbeats 1000000 in
theorem xb5i (d sec m N:Nat) (s:ByteArray) (w:World) (u fv:Value) (cr op:Int) (ft:Int→Option Int) (fs:List DFile) (h:DkAt w d sec m N u fv cr op false ft fs) (hs:s.size≤140737488355328) (ho:0≤op∧op≤1000000000000) (hl:look fs s.data.toList = none) :
  Calls Tryz.prog 91 #[.pointer (some ⟨d,0,none⟩),.string s] w fun e w'=>e = .returned (.int .i64 (opE ft cr op 5:Nat)) ∧
   DkAt w' d sec m N u fv cr (op + 1) (decide (op + 1 = cr)) ft fs∧Kept [d] w w':=by
 have HD:=hide h
 have HL:=hide hl
 clear h hl
 obtain ⟨E,hE⟩:∃ E,opE ft cr op 5 = E:=⟨_,rfl⟩
 have h0:E≠0:=by
  rw [← hE]
  unfold opE
  split
  ·decide
  ·rw [if_pos (by decide)]; decide
 rw [hE]
 have HE:=hide hE
 clear hE
 have hb:((E:Int) == 0) = false:=by simp; omega
 clear h0
 go_enter Tryz.func91,Tryz.ntmps91
 go_wp2_with fail
 refine Calls.mono (xa0g d w sec m u fv cr op false (uh HD).row) ?_
 rintro e w1 ⟨rfl,rfl⟩
 simp only [Bool.false_eq_true,if_false]
 go_wp2_with fail
 refine Calls.mono (xa0y d s _ sec m N u fv cr op false fs (uh HD).row (uh HD).map hs) ?_
 rintro e w2 ⟨rfl,rfl⟩
 rw [uh HL]
 simp only [ptrO,Option.map_none,Option.isSome_none,Bool.false_eq_true,if_false]
 go_wp2_with fail
 refine Calls.mono (xa0m d 5 _ sec (.map (some m)) N u fv cr op false ft (uh HD).row (uh HD).ft ho (by decide)) ?_
 rintro e w3 ⟨rfl,hr3,hk3⟩
 rw [uh HE]
 have HR3:=hide hr3
 have HK3:=hide hk3
 clear hr3 hk3
 go_wp2_with fail
 go_ret
 exact ⟨rfl,by simpa using (uh HD).turned (uh HK3) (uh HR3),uh HK3⟩
set_option maxHeartbeats 1000000 in
theorem xb6c (d sec m N:Nat) (s:ByteArray) (w:World) (u fv:Value) (cr op:Int) (ft:Int→Option Int) (fs:List DFile) (h:DkAt w d sec m N u fv cr op false ft fs) (hs:s.size≤140737488355328) (ho:0≤op∧op≤1000000000000) (f:DFile) (hf:f∈fs) (hl:look fs s.data.toList = some f.g) :
  Calls Tryz.prog 91 #[.pointer (some ⟨d,0,none⟩),.string s] w fun e w'=>∃ E,E = opE ft cr op 0∧e = .returned (.int .i64 (E:Nat)) ∧
   DkAt w' d sec m N u fv cr (op + 1) (decide (op + 1 = cr)) ft (if E = 0 then upF fs f.g f.v f.bs f.bs.length else fs)∧Kept [d,f.g] w w':=by
 have HD:=hide h
 have HL:=hide hl
 have HF:=hide hf
 clear h hl hf
 obtain ⟨E,hE⟩:∃ E,opE ft cr op 0 = E:=⟨_,rfl⟩
 have HE:=hide hE
 clear hE
 go_enter Tryz.func91,Tryz.ntmps91
 go_wp2_with fail
 refine Calls.mono (xa0g d w sec m u fv cr op false (uh HD).row) ?_
 rintro e w1 ⟨rfl,rfl⟩
 simp only [Bool.false_eq_true,if_false]
 go_wp2_with fail
 refine Calls.mono (xa0y d s _ sec m N u fv cr op false fs (uh HD).row (uh HD).map hs) ?_
 rintro e w2 ⟨rfl,rfl⟩
 rw [uh HL]
 simp only [ptrO,Option.map_some,Option.isSome_some,if_true]
 go_wp2_with fail
 refine Calls.mono (xa0m d 0 _ sec (.map (some m)) N u fv cr op false ft (uh HD).row (uh HD).ft ho (by decide)) ?_
 rintro e w3 ⟨rfl,hr3,hk3⟩
 rw [uh HE]
 have HK3:=hide hk3
 have HD3:=hide (by simpa using (uh HD).turned hk3 hr3:DkAt w3 d sec m N u fv cr (op + 1) (decide (op + 1 = cr)) ft fs)
 clear hr3 hk3
 by_cases h0:E = 0
 ·subst h0
  have hg:=((uh HD3).files f (uh HF)).1
  obtain ⟨ao,cap,hv⟩:=xa1l ((uh HD3).files f (uh HF)).2.1
  have c1:=cell_of_row _ _ 1 _ _ _ hg
  have c2:=cell_of_row _ _ 2 _ _ _ hg
  simp at c1 c2
  rw [hv] at c1
  have hz2:=frozen_of_row _ _ 2 _ _ hg
  have HG:=hide hg
  have HV:=hide hv
  clear hg hv
  go_wp2_with fail
  go_ret
  have hfile:=(uh HD3).files f (uh HF)
  have kf:Kept [f.g] w3 (w3.setCell ⟨f.g,2,none⟩ (.int .i64 f.bs.length)):=(Kept.refl [f.g] w3).setCell (.inl (by simp)) _
  refine ⟨0,(uh HE).symm,rfl,?_,((uh HK3).mono (by intro x hx; simp at hx; simp [hx])).trans kf (by intro x hx; simp at hx; simp [hx])⟩
  rw [if_pos rfl]
  refine (uh HD3).upd (uh HF) (kf.mono (by intro x hx; simp at hx; simp [hx])) ⟨heap_setCell_same _ _ 2 _ _ _ (uh HG),kf.owns hfile.2.1 ?_,hfile.2.2.1,Nat.le_refl _⟩ (fun x hx=>.inl hx)
  intro x hx
  obtain ⟨cs,hc⟩:=xa0c hfile.2.1 (xa1x hx)
  simpa using xa0h hc hfile.1 (by decide)
 ·have hb:((E:Int) == 0) = false:=by simp; omega
  have H0:=hide h0
  clear h0
  go_wp2_with fail
  go_ret
  exact ⟨E,(uh HE).symm,rfl,by rw [if_neg (uh H0)]; exact uh HD3,(uh HK3).mono (by intro x hx; simp at hx; simp [hx])⟩
set_option maxHeartbeats 1000000 in
theorem xb3b (d sec m N:Nat) (s:ByteArray) (pv:Value) (w:World) (u fv:Value) (cr op:Int) (ft:Int→Option Int) (fs:List DFile) (h:DkAt w d sec m N u fv cr op true ft fs) :
  Calls Tryz.prog 25 #[.pointer (some ⟨d,0,none⟩),.string s,pv] w fun e w'=>e = .returned (.int .i64 12)∧w' = w:=by
 have HD:=hide h
 clear h
 go_enter Tryz.func25,Tryz.ntmps25
 go_wp2_with fail
 refine Calls.mono (xa0g d w sec m u fv cr op true (uh HD).row) ?_
 rintro e w1 ⟨rfl,rfl⟩
 simp only [if_true]
 go_wp2_with fail
 go_ret
 exact ⟨rfl,rfl⟩
set_option maxHeartbeats 1000000 in
theorem xa9q (d sec m N:Nat) (s:ByteArray) (pv:Value) (w:World) (u fv:Value) (cr op:Int) (ft:Int→Option Int) (fs:List DFile) (h:DkAt w d sec m N u fv cr op false ft fs) (hs:s.size≤140737488355328) (ho:0≤op∧op≤1000000000000) (hl:look fs s.data.toList = none) :
  Calls Tryz.prog 25 #[.pointer (some ⟨d,0,none⟩),.string s,pv] w fun e w'=>e = .returned (.int .i64 (opE ft cr op 5:Nat)) ∧
   DkAt w' d sec m N u fv cr (op + 1) (decide (op + 1 = cr)) ft fs∧Kept [d] w w':=by
 have HD:=hide h
 have HL:=hide hl
 clear h hl
 obtain ⟨E,hE⟩:∃ E,opE ft cr op 5 = E:=⟨_,rfl⟩
 have h0:E≠0:=by
  rw [← hE]
  unfold opE
  split
  ·decide
  ·rw [if_pos (by decide)]; decide
 rw [hE]
 have HE:=hide hE
 clear hE
 have hb:((E:Int) == 0) = false:=by simp; omega
 clear h0
 go_enter Tryz.func25,Tryz.ntmps25
 go_wp2_with fail
 refine Calls.mono (xa0g d w sec m u fv cr op false (uh HD).row) ?_
 rintro e w1 ⟨rfl,rfl⟩
 simp only [Bool.false_eq_true,if_false]
 go_wp2_with fail
 refine Calls.mono (xa0y d s _ sec m N u fv cr op false fs (uh HD).row (uh HD).map hs) ?_
 rintro e w2 ⟨rfl,rfl⟩
 rw [uh HL]
 simp only [ptrO,Option.map_none,Option.isSome_none,Bool.false_eq_true,if_false]
 go_wp2_with fail
 refine Calls.mono (xa0m d 5 _ sec (.map (some m)) N u fv cr op false ft (uh HD).row (uh HD).ft ho (by decide)) ?_
 rintro e w3 ⟨rfl,hr3,hk3⟩
 rw [uh HE]
 have HR3:=hide hr3
 have HK3:=hide hk3
 clear hr3 hk3
 go_wp2_with fail
 go_ret
 exact ⟨rfl,by simpa using (uh HD).turned (uh HK3) (uh HR3),uh HK3⟩
theorem xa5m {w:World} {base e s n:Nat} {v:Value} {xs:List Value} (h:w.ownsRow base e s v n xs) {x:Nat} (hx:x∈blk v):v.ownBlock = some x:=by
 rcases h.2 with ⟨rfl,_⟩ | ⟨g,cap,cur,rfl,_,hg,_⟩
 ·simp [blk] at hx
 ·simp only [blk,List.mem_singleton] at hx
  subst hx
  rfl
set_option maxHeartbeats 1000000 in
theorem xb0e (d sec m N:Nat) (s:ByteArray) (pv:Value) (ps:List Nat) (w:World) (u fv:Value) (cr op:Int) (ft:Int→Option Int) (fs:List DFile) (h:DkAt w d sec m N u fv cr op false ft fs) (hs:s.size≤140737488355328) (ho:0≤op∧op≤1000000000000) (f:DFile) (hf:f∈fs) (hl:look fs s.data.toList = some f.g)
  (hp:Rd w pv ps) (hpd:d∉zblk pv ps) (hlen:f.bs.length + ps.length≤140737488355328) (hE7:opE ft cr op 0≠7) :
  Calls Tryz.prog 25 #[.pointer (some ⟨d,0,none⟩),.string s,pv] w fun e w'=>∃ v',e = .returned (.int .i64 (opE ft cr op 0:Nat)) ∧
   DkAt w' d sec m N u fv cr (op + 1) (decide (op + 1 = cr)) ft (upF fs f.g v' (f.bs++ps) f.sy)∧Kept (d :: f.g :: blk f.v) w w'∧∀ x∈blk v',x∈blk f.v∨w.heap.size≤x:=by
 have HD:=hide h
 have HL:=hide hl
 have HF:=hide hf
 have HP:=hide hp
 have HPD:=hide hpd
 clear h hl hf hp hpd
 obtain ⟨E,hE⟩:∃ E,opE ft cr op 0 = E:=⟨_,rfl⟩
 rw [hE] at hE7
 rw [hE]
 have HE:=hide hE
 have hb:((E:Int) == 7) = false:=by simp; omega
 clear hE hE7
 obtain ⟨pa,pn,pc,rfl,-⟩:∃ pa pn pc,pv = .slice pa pn pc∧True:=by
  obtain ⟨a,n,c,h,-⟩:=uh HP
  exact ⟨a,n,c,h,trivial⟩
 go_enter Tryz.func25,Tryz.ntmps25
 go_wp2_with fail
 refine Calls.mono (xa0g d w sec m u fv cr op false (uh HD).row) ?_
 rintro e w1 ⟨rfl,rfl⟩
 simp only [Bool.false_eq_true,if_false]
 go_wp2_with fail
 refine Calls.mono (xa0y d s _ sec m N u fv cr op false fs (uh HD).row (uh HD).map hs) ?_
 rintro e w2 ⟨rfl,rfl⟩
 rw [uh HL]
 simp only [ptrO,Option.map_some,Option.isSome_some,if_true]
 go_wp2_with fail
 refine Calls.mono (xa0m d 0 _ sec (.map (some m)) N u fv cr op false ft (uh HD).row (uh HD).ft ho (by decide)) ?_
 rintro e w3 ⟨rfl,hr3,hk3⟩
 rw [uh HE]
 have HK3:=hide hk3
 have HD3:=hide (by simpa using (uh HD).turned hk3 hr3:DkAt w3 d sec m N u fv cr (op + 1) (decide (op + 1 = cr)) ft fs)
 have HP3:=hide ((uh HP).keptZ hk3 (by intro x hx hy; simp at hy; subst hy; exact uh HPD hx))
 clear hr3 hk3
 have hg:=((uh HD3).files f (uh HF)).1
 have c1:=cell_of_row _ _ 1 _ _ _ hg
 simp at c1
 have HG:=hide hg
 have HO3:=hide ((uh HD3).files f (uh HF)).2.1
 have HGV:=hide (by
  intro hx
  obtain ⟨cs,hc⟩:=xa0c (uh HO3) hx
  exact xa0h hg hc (by decide) rfl:f.g∉blk f.v)
 clear hg
 go_wp2_with (refine xa0q rfl _ _ rfl rfl _ 0 f.v f.bs ps pa pn pc (uh HO3) (uh HP3) hlen (Nat.zero_le _) rfl rfl ?_; intro ao cap w4 A1 A2 A3; have HK4:=hide ((Kept.refl (blk f.v) w3).grown (uh A2) (fun k hk=>.inl (xa1x hk))); have HG4:=hide ((uh HK4).heap (uh HG) (uh HGV)); have c4:=cell_of_row _ _ 1 _ _ _ (uh HG4); simp at c4; have hz4:=frozen_of_row _ _ 1 _ _ (uh HG4))
 go_ret
 have hs3:=(uh HK3).size
 have hfile:=(uh HD3).files f (uh HF)
 have hnew:∀ x∈blk (.slice ao (f.bs.length + ps.length) cap),x∈blk f.v∨x = w3.heap.size:=by
  intro x hx
  have hox:=xa5m (uh A1) hx
  rcases uh A3 with h1 | h1
  ·exact .inl (xa1x (h1 ▸ hox))
  ·rw [h1] at hox
   injection hox with hox
   exact .inr hox.symm
 have kb:Kept (f.g :: blk f.v) w3 (w4.setCell ⟨f.g,1,none⟩ (.slice ao (f.bs.length + ps.length) cap)):=((uh HK4).mono (by intro x hx; simp [hx])).setCell (.inl (by simp)) _
 refine ⟨.slice ao (f.bs.length + ps.length) cap,rfl,?_,((uh HK3).mono (by intro x hx; simp at hx; simp [hx])).trans kb (by intro x hx; left; simp only [List.mem_cons] at hx; rcases hx with h | h <;> simp [h]),fun x hx=>(hnew x hx).imp id (by omega)⟩
 refine (uh HD3).upd (uh HF) kb ⟨heap_setCell_same _ _ 1 _ _ _ (uh HG4),?_,?_,?_⟩ (fun x hx=>(hnew x hx).imp id (by omega))
 ·refine ((Kept.refl [f.g] w4).setCell (p:=⟨f.g,1,none⟩) (.inl (by simp)) _).owns (uh A1) ?_
  intro x hx
  obtain ⟨cs,hc⟩:=xa0c (uh A1) (xa1x hx)
  simpa using xa0h hc (uh HG4) (by decide)
 ·intro x hx
  rw [List.mem_append] at hx
  rcases hx with hx | hx
  ·exact hfile.2.2.1 x hx
  ·obtain ⟨_,_,_,_,_,_,_,_,h5,_⟩:=uh HP
   exact h5 x hx
 ·show f.sy≤(f.bs++ps).length
  have:=hfile.2.2.2
  rw [List.length_append]
  omega
theorem xa7p {w:World} {b n:Nat} {D:DataW Unit} {ft:Int→Option Int} (hown:w.ownsMap Tryz.prog 3 (plainElem Tryz.prog 3) b n D) (hD:∀ a,Maps.has D (.int .i64 a) = (ft a).isSome∧∀ z,D.atKey (.int .i64 a) z = match ft a with | none=>z | some c=>.lit (.int .i64 c)) (a:Int) (hk:keyOf Tryz.prog 3 (.int .i64 a) = some (.int .i64 a)) :
  (Instr.lookup 108 (.map (some b)) (.int .i64 a) false).run Tryz.prog w = .ok (.int .i64 ((ft a).getD 0)) w:=by
 obtain ⟨c,hrun,h2,_⟩:=hown.lookup_int keyI Tryz.underlying108 Tryz.underlying3 (zeroI3 _) hk
 rw [(hD a).2] at h2
 rw [hrun]
 cases hf:ft a with
 | none=>rw [hf] at h2; simp at h2; rw [← h2]; rfl
 | some c0=>rw [hf] at h2; simp at h2; rw [← h2]; rfl
theorem Rd.cut {w:World} {pa:Option Addr} {n pc:Nat} {ps:List Nat} (h:Rd w (.slice pa n pc) ps) {k:Nat} (hk:k≤ps.length):Rd w (.slice pa k pc) (ps.take k):=by
 obtain ⟨_,_,_,he,hn,h2,⟨h3,h3'⟩,h4,h5,h6⟩:=h
 cases he
 refine ⟨pa,k,pc,rfl,by rw [List.length_take]; omega,by omega,⟨h3,by omega⟩,h4,fun x hx=>h5 x (List.mem_of_mem_take hx),fun hp=>?_⟩
 obtain ⟨b,off,rfl,hc⟩:=h6 (by omega)
 refine ⟨b,off,rfl,fun i hi=>?_⟩
 rw [hc i (by omega),List.getD_eq_getElem?_getD,List.getD_eq_getElem?_getD,List.getElem?_take,if_pos hi]
set_option maxHeartbeats 1000000 in
theorem xb6l (d sec m N:Nat) (s:ByteArray) (pv:Value) (ps:List Nat) (w:World) (u fv:Value) (cr op:Int) (ft:Int→Option Int) (fs:List DFile) (h:DkAt w d sec m N u fv cr op false ft fs) (hs:s.size≤140737488355328) (ho:0≤op∧op≤1000000000000) (f:DFile) (hf:f∈fs) (hl:look fs s.data.toList = some f.g)
  (hp:Rd w pv ps) (hpd:d∉zblk pv ps) (hlen:f.bs.length + ps.length≤140737488355328) (hne:op + 1≠cr) (c:Int) (hft:ft (op + 1) = some c) :
  Calls Tryz.prog 25 #[.pointer (some ⟨d,0,none⟩),.string s,pv] w fun e w'=>∃ v',e = .returned (.int .i64 7) ∧
   DkAt w' d sec m N u fv cr (op + 1) false ft (upF fs f.g v' (f.bs++ps.take (wtn c ps.length).toNat) f.sy)∧Kept (d :: f.g :: blk f.v) w w'∧∀ x∈blk v',x∈blk f.v∨w.heap.size≤x:=by
 have HD:=hide h
 have HL:=hide hl
 have HF:=hide hf
 have HP:=hide hp
 have HPD:=hide hpd
 clear h hl hf hp hpd
 have HE:=hide (by unfold opE; rw [if_neg hne,if_neg (by decide),hft]; rfl:opE ft cr op 0 = 7)
 have HNE:=hide hne
 have HFT:=hide hft
 clear hne hft
 obtain ⟨pa,pn,pc,rfl,-⟩:∃ pa pn pc,pv = .slice pa pn pc∧True:=by
  obtain ⟨a,n,c,h,-⟩:=uh HP
  exact ⟨a,n,c,h,trivial⟩
 obtain ⟨_,_,_,hpe,hpn,hpc,⟨_,hpm⟩,_⟩:=uh HP
 cases hpe
 obtain ⟨k,hk⟩:∃ k:Nat,wtn c ps.length = k:=⟨(wtn c ps.length).toNat,by unfold wtn; omega⟩
 have hkn:k≤ps.length:=by unfold wtn at hk; omega
 rw [hk,Int.toNat_natCast]
 subst hpn
 have hwt:=fun x:World=>xb3n c ps.length x
 simp only [hk] at hwt
 have HWT:=hide hwt
 clear hwt hk
 go_enter Tryz.func25,Tryz.ntmps25
 go_wp2_with fail
 refine Calls.mono (xa0g d w sec m u fv cr op false (uh HD).row) ?_
 rintro e w1 ⟨rfl,rfl⟩
 simp only [Bool.false_eq_true,if_false]
 go_wp2_with fail
 refine Calls.mono (xa0y d s _ sec m N u fv cr op false fs (uh HD).row (uh HD).map hs) ?_
 rintro e w2 ⟨rfl,rfl⟩
 rw [uh HL]
 simp only [ptrO,Option.map_some,Option.isSome_some,if_true]
 go_wp2_with fail
 refine Calls.mono (xa0m d 0 _ sec (.map (some m)) N u fv cr op false ft (uh HD).row (uh HD).ft ho (by decide)) ?_
 rintro e w3 ⟨rfl,hr3,hk3⟩
 rw [uh HE]
 have HK3:=hide hk3
 have HD3:=hide (by
  rw [Bool.false_or,decide_eq_false (uh HNE)] at hr3
  exact (uh HD).turned hk3 hr3:DkAt w3 d sec m N u fv cr (op + 1) false ft fs)
 have HP3:=hide ((uh HP).keptZ hk3 (by intro x hx hy; simp at hy; subst hy; exact uh HPD hx))
 clear hr3 hk3
 have hg:=((uh HD3).files f (uh HF)).1
 have c1:=cell_of_row _ _ 1 _ _ _ hg
 simp at c1
 have HG:=hide hg
 have HO3:=hide ((uh HD3).files f (uh HF)).2.1
 have HGV:=hide (by
  intro hx
  obtain ⟨cs,hc⟩:=xa0c (uh HO3) hx
  exact xa0h hg hc (by decide) rfl:f.g∉blk f.v)
 clear hg
 have hrow:=(uh HD3).row
 unfold DRow at hrow
 have d3:=cell_of_row _ _ 3 _ _ _ hrow
 have d5:=cell_of_row _ _ 5 _ _ _ hrow
 simp at d3 d5
 clear hrow
 have HKI:=hide (Maps.keyOf_int_mk (P:=Tryz.prog) (k:=3) Tryz.underlying3 (a:=op + 1) (by simp [Lit.wf,IntKind.min,IntKind.max,IntKind.signed,IntKind.bits]; omega))
 obtain ⟨b,hrun,rfl⟩:∃ b,(∀ j:Nat,(Instr.lookup 108 (.map (some b)) (.int .i64 (op + 1)) false).run Tryz.prog (w3.drewN j) = .ok (.int .i64 c) (w3.drewN j))∧fv = .map (some b):=by
  rcases (uh HD3).ft with ⟨_,h2⟩ | ⟨b,n,D,h1,hown,hn,hDD⟩
  ·rw [h2] at HFT
   cases uh HFT
  ·refine ⟨b,fun j=>?_,h1⟩
   have h9:=xa7p (ft:=ft) (xa0l (w':=w3.drewN j) hown rfl) hDD (op + 1) (uh HKI)
   rw [uh HFT] at h9
   exact h9
 have hk1:(k:Int)≤(pc:Int):=by omega
 go_wp2_with fail
 refine wp_region_quiet_lit (by kernel_rfl) (by kernel_rfl) ?_
 repeat (go_big_quiet_step (exact Calls.mono (uh HWT _) (fun e x h=>⟨h.1,_,h.2⟩)))
 refine wpQuiet_nil ?_
 rintro _ ⟨n1,rfl⟩
 have HP5:=hide ((uh HP3).cut hkn)
 have HPT:=hide (by rw [List.length_take]; omega:f.bs.length + (ps.take k).length≤140737488355328)
 have HLT:=hide (by rw [List.length_take]; omega:(ps.take k).length = k)
 obtain ⟨q,hq⟩:∃ q,ps.take k = q:=⟨_,rfl⟩
 rw [hq] at HP5 HPT HLT
 have HQ:=hide hq
 clear d3 d5 hrun hk1 hq
 obtain ⟨W3,hW3⟩:∃ W,w3.drewN n1 = W:=⟨_,rfl⟩
 have HG5:=hide (by rw [← hW3]; exact uh HG:W3.heap[f.g]? = some (.cells #[.string f.nm,f.v,.int .i64 f.sy,.bool f.nd] 119 (0,0)))
 have HD5:=hide (by rw [← hW3]; exact (uh HD3).kept ((Kept.refl [] w3).drewN n1) (by simp):DkAt W3 d sec m N u (.map (some b)) cr (op + 1) false ft fs)
 have HO5:=hide ((uh HD5).files f (uh HF)).2.1
 have HP6:=hide (by rw [← hW3]; exact (uh HP5).kept ((Kept.refl [] w3).drewN n1) (by simp):Rd W3 (.slice pa k pc) q)
 have HK5:=hide (by rw [← hW3]; exact (uh HK3).drewN n1:Kept [d] w2 W3)
 rw [hW3]
 clear hW3 c1
 have c1:=cell_of_row _ _ 1 _ _ _ (uh HG5)
 simp at c1
 go_wp2_with (refine xa0q rfl _ _ rfl rfl _ 0 f.v f.bs q pa k pc (uh HO5) (uh HP6) (uh HPT) (Nat.zero_le _) rfl rfl ?_; intro ao cap w4 A1 A2 A3; have HK4:=hide ((Kept.refl (blk f.v) W3).grown (uh A2) (fun k hk=>.inl (xa1x hk))); have HG4:=hide ((uh HK4).heap (uh HG5) (uh HGV)); have c4:=cell_of_row _ _ 1 _ _ _ (uh HG4); simp at c4; have hz4:=frozen_of_row _ _ 1 _ _ (uh HG4))
 go_ret
 have hs3:=(uh HK5).size
 have hfile:=(uh HD5).files f (uh HF)
 have hnew:∀ x∈blk (.slice ao (f.bs.length + q.length) cap),x∈blk f.v∨x = W3.heap.size:=by
  intro x hx
  have hox:=xa5m (uh A1) hx
  rcases uh A3 with h1 | h1
  ·exact .inl (xa1x (h1 ▸ hox))
  ·rw [h1] at hox
   injection hox with hox
   exact .inr hox.symm
 have kb:Kept (f.g :: blk f.v) W3 (w4.setCell ⟨f.g,1,none⟩ (.slice ao (f.bs.length + q.length) cap)):=((uh HK4).mono (by intro x hx; simp [hx])).setCell (.inl (by simp)) _
 refine ⟨.slice ao (f.bs.length + q.length) cap,rfl,?_,((uh HK5).mono (by intro x hx; simp at hx; simp [hx])).trans kb (by intro x hx; left; simp only [List.mem_cons] at hx; rcases hx with h | h <;> simp [h]),fun x hx=>(hnew x hx).imp id (by omega)⟩
 rw [uh HQ]
 refine (uh HD5).upd (uh HF) kb ⟨heap_setCell_same _ _ 1 _ _ _ (uh HG4),?_,?_,?_⟩ (fun x hx=>(hnew x hx).imp id (by omega))
 ·refine ((Kept.refl [f.g] w4).setCell (p:=⟨f.g,1,none⟩) (.inl (by simp)) _).owns (uh A1) ?_
  intro x hx
  obtain ⟨cs,hc⟩:=xa0c (uh A1) (xa1x hx)
  simpa using xa0h hc (uh HG4) (by decide)
 ·intro x hx
  rw [List.mem_append] at hx
  rcases hx with hx | hx
  ·exact hfile.2.2.1 x hx
  ·obtain ⟨_,_,_,_,_,_,_,_,h5,_⟩:=uh HP6
   exact h5 x hx
 ·show f.sy≤(f.bs++q).length
  have:=hfile.2.2.2
  rw [List.length_append]
  omega
set_option maxHeartbeats 1000000 in
theorem xb8f (d sec m N:Nat) (s:ByteArray) (w:World) (u fv:Value) (cr op:Int) (ft:Int→Option Int) (fs:List DFile) (h:DkAt w d sec m N u fv cr op true ft fs) :
  Calls Tryz.prog 14 #[.pointer (some ⟨d,0,none⟩),.string s] w fun e w'=>e = .returned (.tuple #[.slice none 0 0,.int .i64 12])∧w' = w:=by
 have HD:=hide h
 clear h
 go_enter Tryz.func14,Tryz.ntmps14
 go_wp2_with fail
 refine Calls.mono (xa0g d w sec m u fv cr op true (uh HD).row) ?_
 rintro e w1 ⟨rfl,rfl⟩
 simp only [if_true]
 go_wp2_with fail
 go_ret2
 exact ⟨rfl,rfl⟩
set_option maxHeartbeats 1000000 in
theorem xb4z (d sec m N:Nat) (s:ByteArray) (w:World) (u fv:Value) (cr op:Int) (ft:Int→Option Int) (fs:List DFile) (h:DkAt w d sec m N u fv cr op false ft fs) (hs:s.size≤140737488355328) (hl:look fs s.data.toList = none) :
  Calls Tryz.prog 14 #[.pointer (some ⟨d,0,none⟩),.string s] w fun e w'=>e = .returned (.tuple #[.slice none 0 0,.int .i64 5])∧w' = w:=by
 have HD:=hide h
 have HL:=hide hl
 clear h hl
 go_enter Tryz.func14,Tryz.ntmps14
 go_wp2_with fail
 refine Calls.mono (xa0g d w sec m u fv cr op false (uh HD).row) ?_
 rintro e w1 ⟨rfl,rfl⟩
 simp only [Bool.false_eq_true,if_false]
 go_wp2_with fail
 refine Calls.mono (xa0y d s _ sec m N u fv cr op false fs (uh HD).row (uh HD).map hs) ?_
 rintro e w2 ⟨rfl,rfl⟩
 rw [uh HL]
 simp only [ptrO,Option.map_none,Option.isSome_none,Bool.false_eq_true,if_false]
 go_wp2_with fail
 go_ret2
 exact ⟨rfl,rfl⟩
set_option maxHeartbeats 1000000 in
theorem xb6o (d sec m N:Nat) (s:ByteArray) (w:World) (u fv:Value) (cr op:Int) (ft:Int→Option Int) (fs:List DFile) (h:DkAt w d sec m N u fv cr op false ft fs) (hs:s.size≤140737488355328) (f:DFile) (hf:f∈fs) (hl:look fs s.data.toList = some f.g) (hlen:f.bs.length≤140737488355328) :
  Calls Tryz.prog 14 #[.pointer (some ⟨d,0,none⟩),.string s] w fun e w'=>e = .returned (.tuple #[.slice (some ⟨w.heap.size,0,none⟩) f.bs.length f.bs.length,.int .i64 0])∧Kept [] w w'∧w'.heap[w.heap.size]? = some (.cells (f.bs.map u8).toArray 5 (0,0)):=by
 have HD:=hide h
 have HL:=hide hl
 have HF:=hide hf
 have hfile:=h.files f hf
 have c1:=cell_of_row _ _ 1 _ _ _ hfile.1
 simp at c1
 have HR:=hide (xa6h hfile.2.1 hfile.2.2.1 hlen)
 clear h hl hf hfile
 go_enter Tryz.func14,Tryz.ntmps14
 go_wp2_with fail
 refine Calls.mono (xa0g d w sec m u fv cr op false (uh HD).row) ?_
 rintro e w1 ⟨rfl,rfl⟩
 simp only [Bool.false_eq_true,if_false]
 go_wp2_with fail
 refine Calls.mono (xa0y d s _ sec m N u fv cr op false fs (uh HD).row (uh HD).map hs) ?_
 rintro e w2 ⟨rfl,rfl⟩
 rw [uh HL]
 simp only [ptrO,Option.map_some,Option.isSome_some,if_true]
 go_wp2_with fail
 refine Calls.mono (xa9z _ f.bs _ (uh HR)) ?_
 rintro e w3 ⟨rfl,hk3,hh3⟩
 have HK3:=hide hk3
 have HH3:=hide hh3
 clear hk3 hh3
 go_wp2_with fail
 go_ret2
 exact ⟨rfl,uh HK3,uh HH3⟩
set_option maxHeartbeats 1000000 in
theorem xc0b (d sec m N:Nat) (w:World) (u fv:Value) (cr op:Int) (off:Bool) (ft:Int→Option Int) (fs:List DFile) (h:DkAt w d sec m N u fv cr op off ft fs) :
  Calls Tryz.prog 22 #[.pointer (some ⟨d,0,none⟩)] w fun e w'=>e = .returned (.int .i64 op)∧w' = w:=by
 have HD:=hide h
 have hrow:=h.row
 unfold DRow at hrow
 have d5:=cell_of_row _ _ 5 _ _ _ hrow
 simp at d5
 clear h hrow
 go_enter Tryz.func22,Tryz.ntmps22
 go_wp2_with fail
 refine Calls.mono (xa4u d w sec m u fv cr op off (uh HD).row) ?_
 rintro e w1 ⟨rfl,rfl⟩
 go_wp2_with fail
 go_ret
 exact ⟨rfl,rfl⟩
set_option maxHeartbeats 1000000 in
theorem xc0y (d sec m N:Nat) (w:World) (u fv:Value) (cr op:Int) (off:Bool) (ft:Int→Option Int) (fs:List DFile) (h:DkAt w d sec m N u fv cr op off ft fs) :
  Calls Tryz.prog 11 #[.pointer (some ⟨d,0,none⟩)] w fun e w'=>e = .returned (.bool off)∧w' = w:=by
 have HD:=hide h
 have hrow:=h.row
 unfold DRow at hrow
 have d6:=cell_of_row _ _ 6 _ _ _ hrow
 simp at d6
 clear h hrow
 go_enter Tryz.func11,Tryz.ntmps11
 go_wp2_with fail
 refine Calls.mono (xa4u d w sec m u fv cr op off (uh HD).row) ?_
 rintro e w1 ⟨rfl,rfl⟩
 go_wp2_with fail
 go_ret
 exact ⟨rfl,rfl⟩
def unL (fs:List DFile):List DFile:=fs.filter fun f=>!f.nd
def ndK (fs:List DFile) (k:Nat) (f:DFile):DFile:={ f with nd:=f.nd || ((unL fs).take k).any fun x=>x.g == f.g }
theorem xb8e (fs:List DFile) (f:DFile):ndK fs 0 f = f:=by simp [ndK]
theorem xc1r {fs:List DFile} {f:DFile} (h:f∈fs):ndK fs (unL fs).length f = { f with nd:=true }:=by
 unfold ndK
 rw [List.take_length]
 cases hn:f.nd
 ·have:f∈unL fs:=List.mem_filter.2 ⟨h,by simp [hn]⟩
  rw [Bool.false_or,List.any_eq_true.2 ⟨f,this,by simp⟩]
 ·rfl
theorem xb3s {fs:List DFile} {k:Nat} (hk:k < (unL fs).length) (f:DFile):ndK fs (k + 1) f = { f with nd:=f.nd || ((unL fs).take k).any (fun x=>x.g == f.g) || (((unL fs)[k]'hk).g == f.g) }:=by
 unfold ndK
 rw [List.take_succ_eq_append_getElem hk,List.any_append]
 simp [Bool.or_assoc]
theorem xc0f (fs:List DFile):look (fs.map fun f=>{ f with nd:=true }) = look fs:=by
 funext s
 unfold look
 rw [List.find?_map,Option.map_map]
 rfl
theorem unN_nd (fs:List DFile):unN (fs.map fun f=>{ f with nd:=true }) = []:=by
 unfold unN
 rw [List.filter_map]
 simp
set_option maxHeartbeats 1000000 in
theorem xb0f (d sec m N:Nat) (w:World) (u fv:Value) (cr op:Int) (off:Bool) (ft:Int→Option Int) (fs:List DFile) (h:DkAt w d sec m N u fv cr op off ft fs) (hfs:fs.length≤1000000000) :
  Calls Tryz.prog 57 #[.pointer (some ⟨d,0,none⟩)] w fun e w'=>e = .returned (.tuple #[])∧DkAt w' d sec m N (.slice none 0 0) fv cr op off ft (fs.map fun f=>{ f with nd:=true })∧Kept (d :: fs.map DFile.g) w w':=by
 have HD:=hide h
 have hrow:=h.row
 unfold DRow at hrow
 have HR:=hide hrow
 have d2:=cell_of_row _ _ 2 _ _ _ hrow
 simp at d2
 have hz:=frozen_of_row _ _ 2 _ _ hrow
 obtain ⟨ao,cap,rfl⟩:=h.un.shape
 clear h hrow
 have HU:=hide (uh HD).un
 have hlen:(unN fs).length = (unL fs).length:=by unfold unN unL; rw [List.length_map]
 have HLE:=hide (Nat.le_trans (List.length_filter_le (fun f:DFile=>!f.nd) fs) hfs:(unL fs).length≤1000000000)
 rw [hlen] at d2 HU HR HD
 have HLN:=hide hlen
 clear hlen hz
 go_enter Tryz.func57,Tryz.ntmps57
 go_wp2_with fail
 go_loopw [9] (fun t9 wr=>∃ k:Nat,k≤(unL fs).length∧t9 = .int .i64 k∧Hid (∀ f∈fs,FileAt wr (ndK fs k f))∧Hid (Kept (fs.map DFile.g) w wr)) (fun t _=>(unL fs).length - (intOf t).toNat)
 case atStart=>exact ⟨0,Nat.zero_le _,rfl,hide (fun f hf=>by rw [xb8e]; exact (uh HD).files f hf),hide (Kept.refl _ _)⟩
 case round =>
  obtain ⟨k,hk,rfl,HA,HK⟩:=hrel
  by_cases hlt:k < (unL fs).length
  ·have e3:(k:Int) < ((unL fs).length:Int):=by omega
   have hU:=(uh HU).kept (uh HK) (by
    intro x hx hy
    obtain ⟨cs,hc⟩:=xa4p (uh HU) hx
    obtain ⟨a,ha,rfl⟩:=List.mem_map.1 hy
    exact xa0h ((uh HD).files a ha).1 hc (by decide) rfl)
   have hle:=uh HLE
   rcases hU with ⟨h1,h2⟩ | ⟨gu,off',cap',cur,he,hg,hc1,hc2,hc3,hcell⟩
   ·have h3:=congrArg List.length h2
    rw [uh HLN,List.length_nil] at h3
    omega
   ·injection he with h1 h2 h3
    subst h1 h3
    have hck:=hcell k (.pointer (some ⟨((unL fs)[k]'hlt).g,0,none⟩)) (by unfold unN; unfold unL at hlt ⊢; rw [List.getElem?_map,List.getElem?_eq_getElem hlt]; rfl)
    have c0:=cell_of_row _ _ (off' + k) _ _ _ hg
    rw [hck] at c0
    have hkc:k < cap:=by rw [uh HLN] at hc1; omega
    have hmem:(unL fs)[k]'hlt∈fs:=(List.mem_filter.1 (List.getElem_mem hlt)).1
    have hfk:=uh HA _ hmem
    obtain ⟨X,hX⟩:∃ X,(unL fs)[k]'hlt = X:=⟨_,rfl⟩
    rw [hX] at c0 hmem hfk
    have hrx:=hfk.1
    rw [show (ndK fs k X).g = X.g from rfl,show (ndK fs k X).nm = X.nm from rfl,show (ndK fs k X).v = X.v from rfl,show (ndK fs k X).sy = X.sy from rfl] at hrx
    obtain ⟨nb,hnb⟩:∃ nb,(ndK fs k X).nd = nb:=⟨_,rfl⟩
    rw [hnb] at hrx
    have f3:=cell_of_row _ _ 3 _ _ _ hrx
    simp at f3
    have hz3:=frozen_of_row _ _ 3 _ _ hrx
    have HRX:=hide hrx
    have HX:=hide hX
    have HM:=hide hmem
    clear hrx hX hmem hfk hnb hg hcell hck hc2
    go_wp2_with fail
    refine ⟨⟨k + 1,by omega,by simp,hide (fun f hf=>?_),hide ?_⟩,?_⟩
    ·rcases xa6j (uh HD).apart hf (uh HM) with rfl | hab
     ·have e1:(ndK fs (k + 1) f).nd = true:=by
       rw [xb3s hlt,uh HX]
       simp
      refine ⟨?_,((Kept.refl [f.g] _).setCell (p:=⟨f.g,3,none⟩) (.inl (by simp)) _).owns (uh HA f hf).2.1 ?_,(uh HA f hf).2.2⟩
      ·rw [e1]
       exact heap_setCell_same _ _ 3 _ _ _ (uh HRX)
      ·intro x hx
       obtain ⟨cs,hc⟩:=xa0c (uh HA f hf).2.1 (xa1x hx)
       simpa using xa0h hc (uh HRX) (by decide)
     ·have e1:ndK fs (k + 1) f = ndK fs k f:=by
       rw [xb3s hlt,uh HX]
       have:(X.g == f.g) = false:=by simpa using fun e=>hab.1 e.symm
       rw [this,Bool.or_false]
       rfl
      rw [e1]
      refine (uh HA f hf).kept ((Kept.refl [X.g] _).setCell (p:=⟨X.g,3,none⟩) (.inl (by simp)) _) (by intro hy; simp only [List.mem_singleton] at hy; exact hab.1 hy) ?_
      intro x hx
      obtain ⟨cs,hc⟩:=xa0c (uh HA f hf).2.1 hx
      simpa using xa0h hc (uh HRX) (by decide)
    ·exact (uh HK).setCell (.inl (List.mem_map.2 ⟨X,uh HM,rfl⟩)) _
    ·simp [intOf]; omega
  ·have e3:¬ (k:Int) < ((unL fs).length:Int):=by omega
   have hk2:k = (unL fs).length:=by omega
   subst hk2
   have HR2:=hide ((uh HK).heap (uh HR) (by
    intro hy
    obtain ⟨a,ha,hag⟩:=List.mem_map.1 hy
    exact xa0h ((uh HD).files a ha).1 (uh HD).row (by decide) hag))
   have d2':=cell_of_row _ _ 2 _ _ _ (uh HR2)
   simp at d2'
   have hz2:=frozen_of_row _ _ 2 _ _ (uh HR2)
   go_wp2_with fail
   have kk:=((uh HK).mono (M:=d :: fs.map DFile.g) (by intro x hx; simp only [List.mem_cons]; exact .inr hx)).setCell (p:=⟨d,2,none⟩) (.inl (by simp)) (.slice none 0 0)
   refine bodyPost_end (v:=.tuple #[]) (results_none rfl _ _ _) rfl ⟨rfl,⟨heap_setCell_same _ _ 2 _ _ _ (uh HR2),?_,?_,?_,?_,?_,(uh HD).two⟩,kk⟩
   ·obtain ⟨n,D,ho,hn,hD⟩:=(uh HD).map
    refine ⟨n,D,xa0l ho (kk.block m ho.lt ?_),hn,by rw [xc0f]; exact hD⟩
    intro hx
    simp only [List.mem_cons] at hx
    rcases hx with hx | hx
    ·exact map_ne ho (uh HD).row hx.symm
    ·obtain ⟨a,ha,hag⟩:=List.mem_map.1 hx
     exact map_ne ho ((uh HD).files a ha).1 hag
   ·rw [unN_nd]
    exact Qr.nil _ _
   ·refine (uh HD).ft.kept kk ?_
    intro x hx hy
    obtain ⟨n,D,ho⟩:=xa1n (uh HD).ft hx
    simp only [List.mem_cons] at hy
    rcases hy with hy | hy
    ·exact map_ne ho (uh HD).row hy.symm
    ·obtain ⟨a,ha,hag⟩:=List.mem_map.1 hy
     exact map_ne ho ((uh HD).files a ha).1 hag
   ·intro a ha
    obtain ⟨f,hf,rfl⟩:=List.mem_map.1 ha
    have h9:=uh HA f hf
    rw [xc1r hf] at h9
    refine h9.kept ((Kept.refl [d] _).setCell (p:=⟨d,2,none⟩) (.inl (by simp)) _) ?_ ?_
    ·simpa using xa0h h9.1 (uh HR2) (by decide)
    ·intro x hx
     obtain ⟨cs,hc⟩:=xa0c h9.2.1 hx
     simpa using xa0h hc (uh HR2) (by decide)
   ·rw [List.pairwise_map]
    exact (uh HD).apart
set_option maxHeartbeats 1000000 in
theorem xa5v (d sec m N:Nat) (w:World) (u fv:Value) (cr op:Int) (ft:Int→Option Int) (fs:List DFile) (h:DkAt w d sec m N u fv cr op true ft fs) :
  Calls Tryz.prog 95 #[.pointer (some ⟨d,0,none⟩)] w fun e w'=>e = .returned (.int .i64 12)∧w' = w:=by
 have HD:=hide h
 clear h
 go_enter Tryz.func95,Tryz.ntmps95
 go_wp2_with fail
 refine Calls.mono (xa0g d w sec m u fv cr op true (uh HD).row) ?_
 rintro e w1 ⟨rfl,rfl⟩
 simp only [if_true]
 go_wp2_with fail
 go_ret
 exact ⟨rfl,rfl⟩
def snF (fs:List DFile) (E:Nat):List DFile:=if E = 0 then fs.map fun f=>{ f with nd:=true } else fs
def snU (u:Value) (E:Nat):Value:=if E = 0 then .slice none 0 0 else u
set_option maxHeartbeats 1000000 in
theorem xa5s (d sec m N:Nat) (w:World) (u fv:Value) (cr op:Int) (ft:Int→Option Int) (fs:List DFile) (h:DkAt w d sec m N u fv cr op false ft fs) (ho:0≤op∧op≤1000000000000) (hfs:fs.length≤1000000000) :
  Calls Tryz.prog 95 #[.pointer (some ⟨d,0,none⟩)] w fun e w'=>∃ E,E = opE ft cr op 0∧e = .returned (.int .i64 (E:Nat)) ∧
   DkAt w' d sec m N (snU u E) fv cr (op + 1) (decide (op + 1 = cr)) ft (snF fs E)∧Kept (d :: fs.map DFile.g) w w':=by
 have HD:=hide h
 clear h
 obtain ⟨E,hE⟩:∃ E,opE ft cr op 0 = E:=⟨_,rfl⟩
 have HE:=hide hE
 clear hE
 go_enter Tryz.func95,Tryz.ntmps95
 go_wp2_with fail
 refine Calls.mono (xa0g d w sec m u fv cr op false (uh HD).row) ?_
 rintro e w1 ⟨rfl,rfl⟩
 simp only [Bool.false_eq_true,if_false]
 go_wp2_with fail
 refine Calls.mono (xa0m d 0 _ sec (.map (some m)) N u fv cr op false ft (uh HD).row (uh HD).ft ho (by decide)) ?_
 rintro e w3 ⟨rfl,hr3,hk3⟩
 rw [uh HE]
 have HK3:=hide (hk3.mono (M:=d :: fs.map DFile.g) (by intro x hx; simp at hx; simp [hx]))
 have HD3:=hide (by simpa using (uh HD).turned hk3 hr3:DkAt w3 d sec m N u fv cr (op + 1) (decide (op + 1 = cr)) ft fs)
 clear hr3 hk3
 by_cases h0:E = 0
 ·subst h0
  go_wp2_with fail
  refine Calls.mono (xb0f d sec m N _ u fv cr (op + 1) _ ft fs (uh HD3) hfs) ?_
  rintro e w4 ⟨rfl,hd4,hk4⟩
  have HD4:=hide hd4
  have HK4:=hide hk4
  clear hd4 hk4
  go_wp2_with fail
  go_ret
  exact ⟨0,(uh HE).symm,rfl,uh HD4,(uh HK3).trans (uh HK4) (fun x hx=>.inl hx)⟩
 ·have hb:((E:Int) == 0) = false:=by simp; omega
  have H0:=hide h0
  clear h0
  go_wp2_with fail
  go_ret
  refine ⟨E,(uh HE).symm,rfl,?_,uh HK3⟩
  unfold snU snF
  rw [if_neg (uh H0),if_neg (uh H0)]
  exact uh HD3
set_option maxHeartbeats 1000000 in
theorem xb0w (w:World):Calls Tryz.prog 67 #[.slice none 0 0] w fun e w'=>e = .returned (.bool true)∧w' = w:=by
 go_enter Tryz.func67,Tryz.ntmps67
 go_wp2_with fail
 go_loopw [7] (fun t7 wr=>t7 = .int .i64 0∧wr = w) (fun t _=>0)
 case atStart=>exact ⟨rfl,rfl⟩
 case round =>
  obtain ⟨rfl,rfl⟩:=hrel
  go_wp2_with fail
  go_ret
  exact ⟨rfl,rfl⟩
set_option maxHeartbeats 1000000 in
theorem xc1b (sec:Nat) (w:World) (h1:1≤sec) (h2:sec≤4096) :
  Calls Tryz.prog 35 #[.int .i64 sec,.slice none 0 0] w fun e w'=>∃ d m,e = .returned (.tuple #[.pointer (some ⟨d,0,none⟩),.int .i64 0])∧w.heap.size≤d∧w.heap.size≤m∧DkAt w' d sec m 0 (.slice none 0 0) (.map none) 0 0 false (fun _=>none) []∧Kept [] w w':=by
 go_enter Tryz.func35,Tryz.ntmps35
 go_wp2_with fail
 refine Calls.mono (xb0w w) ?_
 rintro e w1 ⟨rfl,rfl⟩
 have hmm:=run_makeMap (P:=Tryz.prog) 106 w1
 go_wp2_with fail
 go_loopw [24] (fun t24 wr=>t24 = .int .i64 0∧wr = (w1.alloc (.map #[] 0)).alloc (.cells #[.int .i64 sec,.map (some w1.heap.size),.slice none 0 0,.map none,.int .i64 0,.int .i64 0,.bool false] 110 (0,0))) (fun t _=>0)
 case atStart=>exact ⟨rfl,rfl⟩
 case round =>
  obtain ⟨rfl,rfl⟩:=hrel
  go_wp2_with fail
  go_ret2
  have k2:=(((Kept.refl [] w1).alloc (.map #[] 0)).alloc (.cells #[.int .i64 sec,.map (some w1.heap.size),.slice none 0 0,.map none,.int .i64 0,.int .i64 0,.bool false] 110 (0,0)))
  have hrow:=heap_alloc_new (w1.alloc (.map #[] 0)) (.cells #[.int .i64 sec,.map (some w1.heap.size),.slice none 0 0,.map none,.int .i64 0,.int .i64 0,.bool false] 110 (0,0))
  rw [show (w1.alloc (.map #[] 0)).heap.size = w1.heap.size + 1 by simp] at hrow
  refine ⟨_,w1.heap.size,rfl,by omega,Nat.le_refl _,⟨hrow,⟨0,.map [],(World.ownsMap_made w1 Tryz.prog 9 ptrElem).alloc _,Nat.le_refl _,MapIs.empty⟩,Qr.nil _ _,.inl ⟨rfl,fun _=>rfl⟩,by simp,List.Pairwise.nil,by simp [mblk]⟩,k2⟩




def RdC (s:Nat) (w:World) (v:Value) (rows:List (List Value)):Prop :=
 ∃ (ao:Option Addr) (len cap:Nat),v = .slice ao len cap∧rows.length = len∧len≤cap∧cap≤9223372036854775807∧(0 < len→∃ b off,ao = some ⟨b,off,none⟩∧∀ i (h:i < rows.length),w.rangeAt b (off + i * s) rows[i])
theorem RdC.nil (s:Nat) (w:World):RdC s w (.slice none 0 0) []:=⟨none,0,0,rfl,rfl,Nat.le_refl _,by omega,fun h=>by omega⟩
theorem RdC.kept {s:Nat} {L:List Nat} {w w':World} {v:Value} {rows:List (List Value)} (h:RdC s w v rows) (k:Kept L w w') (hn:∀ x∈blk v,x∉L):RdC s w' v rows:=by
 obtain ⟨ao,len,cap,rfl,h1,h2,h3,h4⟩:=h
 refine ⟨ao,len,cap,rfl,h1,h2,h3,fun hp=>?_⟩
 obtain ⟨b,off,rfl,hc⟩:=h4 hp
 exact ⟨b,off,rfl,fun i hi j u hu=>k.cell (hc i hi j u hu) (hn b (by simp [blk]))⟩
structure KeepD where
 nm:ByteArray
 kb:Int
 tn:Bool

structure DF where
 nm:ByteArray
 bs:List Nat
 sy:Nat
 nd:Bool
structure DSt where
 sec:Nat
 cr:Int
 op:Int
 off:Bool
 ft:Int→Option Int
 A:List DF
def absF (f:DFile):DF:=⟨f.nm,f.bs,f.sy,f.nd⟩
def findA (A:List DF) (s:List UInt8):Option DF:=A.find? fun f=>f.nm.data.toList == s
def Dist (A:List DF):Prop:=A.Pairwise fun a b=>a.nm≠b.nm
def upA (A:List DF) (nm:ByteArray) (F:DF→DF):List DF:=A.map fun x=>if x.nm = nm then F x else x
def tick (σ:DSt) (A:List DF):DSt:={ σ with op:=σ.op + 1,off:=decide (σ.op + 1 = σ.cr),A:=A }
def ownA (A:List DF) (s:ByteArray):Nat:=if isNm s then (if (findA A s.data.toList).isSome then 6 else 0) else 3
def stCreate (σ:DSt) (s:ByteArray):Nat × DSt :=
 if σ.off then (12,σ) else
  (opE σ.ft σ.cr σ.op (ownA σ.A s),tick σ (if ownA σ.A s = 0∧opE σ.ft σ.cr σ.op (ownA σ.A s)≠7 then σ.A++[⟨s,[],0,false⟩] else σ.A))
def appK (σ:DSt) (p:List Nat):Nat:=if opE σ.ft σ.cr σ.op 0 = 7 then (wtn ((σ.ft (σ.op + 1)).getD 0) p.length).toNat else p.length
def stAppend (σ:DSt) (s:ByteArray) (p:List Nat):Nat × DSt :=
 if σ.off then (12,σ) else if (findA σ.A s.data.toList).isSome then (opE σ.ft σ.cr σ.op 0,tick σ (upA σ.A s fun f=>{ f with bs:=f.bs++p.take (appK σ p) })) else (opE σ.ft σ.cr σ.op 5,tick σ σ.A)
def stSync (σ:DSt) (s:ByteArray):Nat × DSt :=
 if σ.off then (12,σ) else if (findA σ.A s.data.toList).isSome then (opE σ.ft σ.cr σ.op 0,tick σ (if opE σ.ft σ.cr σ.op 0 = 0 then upA σ.A s fun f=>{ f with sy:=f.bs.length } else σ.A)) else (opE σ.ft σ.cr σ.op 5,tick σ σ.A)
def ndA (A:List DF):List DF:=A.map fun f=>{ f with nd:=true }
def stNames (σ:DSt):Nat × DSt :=
 if σ.off then (12,σ) else (opE σ.ft σ.cr σ.op 0,tick σ (if opE σ.ft σ.cr σ.op 0 = 0 then ndA σ.A else σ.A))
def stRead (σ:DSt) (s:ByteArray):List Nat × Nat :=
 if σ.off then ([],12) else match findA σ.A s.data.toList with | none=>([],5) | some f=>(f.bs,0)
theorem ba_ext {a b:ByteArray} (h:a.data.toList = b.data.toList):a = b:=by
 obtain ⟨⟨a⟩⟩:=a
 obtain ⟨⟨b⟩⟩:=b
 simp only at h
 subst h
 rfl
theorem xb0n (fs:List DFile) (s:List UInt8):findA (fs.map absF) s = (fs.find? fun f=>f.nm.data.toList == s).map absF:=by
 unfold findA
 rw [List.find?_map]
 rfl
theorem xa2m (fs:List DFile) (s:List UInt8):(look fs s).isSome = (findA (fs.map absF) s).isSome:=by
 rw [xb0n]
 unfold look
 simp
theorem xb1a (fs:List DFile) (s:ByteArray):own1 fs s = ownA (fs.map absF) s:=by
 unfold own1 ownA
 rw [xa2m]
theorem xa4q {fs:List DFile} {s:List UInt8} {x:DF} (h:findA (fs.map absF) s = some x):∃ f∈fs,look fs s = some f.g∧absF f = x∧f.nm.data.toList = s:=by
 rw [xb0n] at h
 obtain ⟨f,hf,rfl⟩:=Option.map_eq_some_iff.1 h
 exact ⟨f,List.mem_of_find?_eq_some hf,by unfold look; rw [hf]; rfl,rfl,by simpa using List.find?_some hf⟩
theorem xb3e {fs:List DFile} {s:List UInt8} (h:findA (fs.map absF) s = none):look fs s = none:=by
 have:=xa2m fs s
 rw [h] at this
 simpa using this
theorem xc0v {fs:List DFile} (h:Dist (fs.map absF)) {a b:DFile} (ha:a∈fs) (hb:b∈fs) (e:a.nm = b.nm):a = b:=by
 unfold Dist at h
 rw [List.pairwise_map] at h
 induction h with
 | nil=>simp at ha
 | @cons x l hx hl ih =>
  simp only [List.mem_cons] at ha hb
  rcases ha with rfl | ha
  ·rcases hb with rfl | hb
   ·rfl
   ·exact absurd e (hx b hb)
  ·rcases hb with rfl | hb
   ·exact absurd e.symm (hx a ha)
   ·exact ih ha hb
theorem up_abs {fs:List DFile} (hap:fs.Pairwise Apt) (hd:Dist (fs.map absF)) {f:DFile} (hf:f∈fs) (v:Value) (bs:List Nat) (sy:Nat) :
  (upF fs f.g v bs sy).map absF = upA (fs.map absF) f.nm fun x=>{ x with bs:=bs,sy:=sy }:=by
 unfold upF upA
 rw [List.map_map,List.map_map]
 apply List.map_congr_left
 intro a ha
 simp only [Function.comp]
 by_cases hg:a.g = f.g
 ·rcases xa6j hap ha hf with rfl | hab
  ·simp [upOne,absF]
  ·exact absurd hg hab.1
 ·have hn:a.nm≠f.nm:=fun e=>hg (by rw [xc0v hd ha hf e])
  simp [upOne,absF,hg,hn]
theorem xb4l {A:List DF} (hd:Dist A) {x:DF} (hx:x∈A) {F G:DF→DF} (h:F x = G x):upA A x.nm F = upA A x.nm G:=by
 unfold upA
 apply List.map_congr_left
 intro a ha
 by_cases hn:a.nm = x.nm
 ·have:a = x:=by
   have hd2:A.Pairwise fun a b=>a.nm≠b.nm:=hd
   clear h
   induction hd2 with
   | nil=>simp at ha
   | @cons y l hy hl ih =>
    simp only [List.mem_cons] at ha hx
    rcases ha with rfl | ha
    ·rcases hx with rfl | hx
     ·rfl
     ·exact absurd hn (hy x hx)
    ·rcases hx with rfl | hx
     ·exact absurd hn.symm (hy a ha)
     ·exact ih hl hx ha
  rw [if_pos hn,if_pos hn,this,h]
 ·rw [if_neg hn,if_neg hn]
theorem upA_nm {A:List DF} {s:ByteArray} {F:DF→DF} (h:∀ x,(F x).nm = x.nm):(upA A s F).map DF.nm = A.map DF.nm:=by
 unfold upA
 rw [List.map_map]
 apply List.map_congr_left
 intro a _
 simp only [Function.comp]
 split
 ·exact h a
 ·rfl
theorem xa1w (A:List DF):Dist A↔(A.map DF.nm).Nodup:=by
 unfold Dist List.Nodup
 rw [List.pairwise_map]
theorem xb6z {A:List DF} {s:ByteArray} {F:DF→DF} (h:∀ x,(F x).nm = x.nm) (hd:Dist A):Dist (upA A s F):=by
 rw [xa1w,upA_nm h]
 exact (xa1w A).1 hd
def Ev (w w':World) (B B':List Nat):Prop:=Kept B w w'∧∀ x∈B',x∈B∨w.heap.size≤x
theorem Ev.refl (w:World) (B:List Nat):Ev w w B B:=⟨Kept.refl _ _,fun x hx=>.inl hx⟩
theorem Ev.trans {a b c:World} {A B C:List Nat} (h:Ev a b A B) (k:Ev b c B C):Ev a c A C:=by
 refine ⟨h.1.trans k.1 h.2,?_⟩
 intro x hx
 rcases k.2 x hx with h1 | h1
 ·exact h.2 x h1
 ·exact .inr (Nat.le_trans h.1.size h1)
structure DK (w:World) (d:Nat) (B:List Nat) (nb bb:Nat) (σ:DSt):Prop where
 ex:∃ m u fv fs,DkAt w d σ.sec m nb u fv σ.cr σ.op σ.off σ.ft fs∧B = dkB d m u fv fs∧σ.A = fs.map absF
 dist:Dist σ.A
 opb:0≤σ.op∧σ.op≤nb
 len:σ.A.length≤nb
 byt:∀ f∈σ.A,f.bs.length≤bb
 secb:1≤σ.sec∧σ.sec≤4096
 nms:∀ f∈σ.A,isNm f.nm = true
theorem xa8s {s:ByteArray} (h:isNm s = true):1≤s.size∧s.size≤40:=by
 unfold isNm at h
 simp only [Bool.and_eq_true,decide_eq_true_eq] at h
 exact h.1
theorem DK.lt {w:World} {d nb bb:Nat} {B:List Nat} {σ:DSt} (h:DK w d B nb bb σ):∀ x∈B,x < w.heap.size:=by
 obtain ⟨m,u,fv,fs,h1,rfl,h3⟩:=h.ex
 exact h1.lt
theorem DK.kept {L:List Nat} {w w':World} {d nb bb:Nat} {B:List Nat} {σ:DSt} (h:DK w d B nb bb σ) (k:Kept L w w') (hn:∀ x∈B,x∉L):DK w' d B nb bb σ:=by
 obtain ⟨m,u,fv,fs,h1,rfl,h3⟩:=h.ex
 exact ⟨⟨m,u,fv,fs,h1.kept k hn,rfl,h3⟩,h.dist,h.opb,h.len,h.byt,h.secb,h.nms⟩

end
section
open Go
section
variable {P:Program} {ops:Array Oper} {Q:Exit→Act→World→Prop} {md:Region.Mode} {S:Array Bool→World→Prop}
def AnyL (P:Program) (md:Region.Mode) (ops:Array Oper) (Q:Exit→Act→World→Prop) (S:Array Bool→World→Prop):Nat→Array Bool→Act→World→Prop
 | 0,d,a,w=>Region.ready md ops d = []∧Q .normal a w
 | g + 1,d,a,w=>(Region.ready md ops d = []→Q .normal a w)∧∀ i∈Region.ready md ops d,wpOp P ops Q i (fun a' w'=>S (d.setIfInBounds i true) w'∧AnyL P md ops Q S g (d.setIfInBounds i true) a' w') a w
theorem AnyL.any:∀ (g:Nat) (d:Array Bool) (a:Act) (w:World),AnyL P md ops Q S g d a w→wpAny P md ops Q g d a w
 | 0,_,_,_,h=>h
 | g + 1,_,_,_,h=>⟨h.1,fun i hi=>wpOp_mono (fun a' w' h'=>AnyL.any g _ a' w' h'.2) (h.2 i hi)⟩
theorem AnyL.first {i t:Nat} {oi ot:Oper} {v:Value} {T:World→Prop} (hi:ops[i]? = some oi) (ht:ops[t]? = some ot) (hit:t≠i) (hb:∃ e∈ot.after,Region.binds md e = true∧e.on = i)
  (hsel:∀ (j:Nat) (o:Oper) cs b,ops[j]? = some o→o.op≠.select cs b) (hQ:∀ c a w,Q (.panic c) (a.put oi.dst v) w→Q (.panic c) a w)
  (hST:∀ d w,S d w→d.getD t true = false→T w) (hSi:∀ d w,S (d.setIfInBounds i true) w↔S d w) :
  ∀ (g:Nat) (d:Array Bool) (a:Act) (w:World),
   (∀ j oj,ops[j]? = some oj→j≠i→d.getD j true = false→(∀ e∈oj.after,Region.binds md e = true→e.on≠i)→oi.apart ops oj = true) →
   i∈Region.ready md ops d→YieldsIf P ops T oi v a→d.getD t true = false→S d w →
   AnyL P md ops Q S g (d.setIfInBounds i true) (a.put oi.dst v) w→AnyL P md ops Q S (g + 1) d a w:=by
 intro g
 induction g with
 | zero =>
  intro d a w _ hr hy hdt hS H
  refine ⟨fun h=>(by rw [h] at hr; cases hr),fun j hj=>?_⟩
  by_cases hji:j = i
  ·subst hji; exact hy.wpOp hi (hST d w hS hdt) ⟨(hSi d w).2 hS,H⟩
  ·have:=ready_mono hj hji
   rw [H.1] at this
   cases this
 | succ g ih =>
  intro d a w hfree hr hy hdt hS H
  refine ⟨fun h=>(by rw [h] at hr; cases hr),fun j hj=>?_⟩
  by_cases hji:j = i
  ·subst hji; exact hy.wpOp hi (hST d w hS hdt) ⟨(hSi d w).2 hS,H⟩
  ·have h1:=H.2 j (ready_mono hj hji)
   obtain ⟨hjun,oj,hoj,hall⟩:=mem_ready.1 hj
   have hnot:∀ e∈oj.after,Region.binds md e = true→e.on≠i:=fun e he hb heq=>by
    have h1:=hall e he hb
    have h0:=(mem_ready.1 hr).1
    rw [heq] at h1
    rcases Nat.lt_or_ge i d.size with h' | h'
    ·simp [h'] at h0 h1; rw [h0] at h1; cases h1
    ·simp [Array.getElem?_eq_none h'] at h1
   have hjt:j≠t:=fun e9=>by
    subst e9
    rw [ht] at hoj
    injection hoj with hoj
    obtain ⟨e,he,hb1,hb2⟩:=hb
    exact hnot e (by rw [← hoj]; exact he) hb1 hb2
   have h2:=wpOp_putIf hoj (hfree j oj hoj hji hjun hnot) (fun cs b=>hsel i oi cs b hi) (fun cs b=>hsel j oj cs b hoj) hQ hy h1
   refine wpOp_mono (fun a' w' h3=>?_) h2
   have hc:=Array.setIfInBounds_comm (xs:=d) true true hji
   have hS':S (d.setIfInBounds j true) w':=(hSi _ w').1 (by rw [hc]; exact h3.2.1)
   refine ⟨hS',ih (d.setIfInBounds j true) a' w' (fun k ok hk hki hun hno=>?_) (ready_mono hr (Ne.symm hji)) h3.1 ?_ hS' ?_⟩
   ·refine hfree k ok hk hki ?_ hno
    by_cases hjk:j = k
    ·subst hjk; exact hjun
    ·rw [getD_set_ne true hjk] at hun; exact hun
   ·rw [getD_set_ne true hjt]; exact hdt
   ·rw [hc]; exact h3.2.2
theorem AnyL.take {i t:Nat} {oi ot:Oper} {v:Value} {T:World→Prop} {g:Nat} {d:Array Bool} {a:Act} {w:World} (hi:ops[i]? = some oi) (ht:ops[t]? = some ot) (hit:t≠i) (hs:Region.noSelect ops = true) (hf:Region.free md ops d i = true)
  (hr:(Region.ready md ops d).contains i = true) (hb:ot.after.any (fun e=>Region.binds md e && e.on == i) = true) (hQ:∀ c a w,Q (.panic c) (a.put oi.dst v) w→Q (.panic c) a w)
  (hST:∀ d w,S d w→d.getD t true = false→T w) (hSi:∀ d w,S (d.setIfInBounds i true) w↔S d w) (hy:YieldsIf P ops T oi v a) (hd:d.getD t true = false) (hS:S d w)
  (h:AnyL P md ops Q S g (d.setIfInBounds i true) (a.put oi.dst v) w):AnyL P md ops Q S (g + 1) d a w:=by
 refine AnyL.first hi ht hit ?_ (Region.noSelect_spec hs) hQ hST hSi g d a w (Region.free_spec hi hf) (by simpa using hr) hy hd hS h
 obtain ⟨e,he,h9⟩:=Array.any_eq_true'.1 hb
 simp only [Bool.and_eq_true,beq_iff_eq] at h9
 exact ⟨e,he,h9⟩
theorem AnyL.forced {i:Nat} {o:Oper} {g:Nat} {d:Array Bool} {a:Act} {w:World} (hr:Region.ready md ops d = [i]) (ho:ops[i]? = some o) (hg:o.guard = none)
  (h:∀ K:Act→World→Prop,(∀ a' w',S (d.setIfInBounds i true) w'→AnyL P md ops Q S g (d.setIfInBounds i true) a' w'→K a' w')→o.wp P a w K Q):AnyL P md ops Q S (g + 1) d a w:=by
 refine ⟨fun h0=>(by rw [hr] at h0; cases h0),fun j hj=>?_⟩
 rw [hr] at hj
 obtain rfl:j = i:=by simpa using hj
 refine wpOp_step ho (fun K' hK=>?_)
 rw [if_pos (by unfold Region.wanted; rw [hg])]
 exact h K' (fun a' w' h1 h2=>hK a' w' ⟨h1,h2⟩)
end
section
variable {P:Program} {Q:Exit→Act→World→Prop}
end
end
section
open Go.RowKit
theorem WrAt.new (w:World):WrAt (w.alloc (.cells #[.slice none 0 0] 250)) w.heap.size (.slice none 0 0) [] :=
 ⟨heap_alloc_new w _,World.ownsRow_nil _ _ _ _,by simp⟩
theorem xb7p (b:Nat) (v:Value) (bs:List Nat) (x:Nat) (w:World) (hw:WrAt w b v bs) (hx:x < 256) (hl:bs.length + 8≤140737488355328) :
  Calls Tryz.prog 157 #[.pointer (some ⟨b,0,none⟩),.int .u8 x] w fun e w'=>e = .returned (.tuple #[])∧∃ v',WrAt w' b v' (bs++wide x 1)∧Grew b v v' w w':=by
 have HW:=hide hw
 clear hw
 go_enter Tryz.func157,Tryz.ntmps157
 go_wp2_with (go_at_call 210; go_must (refine (xa2r b v bs x 1 _ (uh HW) (by omega) hl).mono ?_; rintro e w1 ⟨rfl,hk⟩; have HK:=hide hk; clear hk))
 go_end0
 exact ⟨rfl,uh HK⟩
theorem xb8u (b:Nat) (v:Value) (bs:List Nat) (x:Nat) (w:World) (hw:WrAt w b v bs) (hx:x < 4294967296) (hl:bs.length + 8≤140737488355328) :
  Calls Tryz.prog 158 #[.pointer (some ⟨b,0,none⟩),.int .u32 x] w fun e w'=>e = .returned (.tuple #[])∧∃ v',WrAt w' b v' (bs++wide x 4)∧Grew b v v' w w':=by
 have HW:=hide hw
 clear hw
 go_enter Tryz.func158,Tryz.ntmps158
 go_wp2_with (go_at_call 210; go_must (refine (xa2r b v bs x 4 _ (uh HW) (by omega) hl).mono ?_; rintro e w1 ⟨rfl,hk⟩; have HK:=hide hk; clear hk))
 go_end0
 exact ⟨rfl,uh HK⟩
theorem xb9g (b:Nat) (v:Value) (bs:List Nat) (x:Nat) (w:World) (hw:WrAt w b v bs) (hl:bs.length + 8≤140737488355328) :
  Calls Tryz.prog 159 #[.pointer (some ⟨b,0,none⟩),.int .u64 x] w fun e w'=>e = .returned (.tuple #[])∧∃ v',WrAt w' b v' (bs++wide x 8)∧Grew b v v' w w':=by
 have HW:=hide hw
 clear hw
 go_enter Tryz.func159,Tryz.ntmps159
 go_wp2_with (go_at_call 210; go_must (refine (xa2r b v bs x 8 _ (uh HW) (by omega) hl).mono ?_; rintro e w1 ⟨rfl,hk⟩; have HK:=hide hk; clear hk))
 go_end0
 exact ⟨rfl,uh HK⟩
def NewB (w w':World) (v:Value) (bs:List Nat):Prop :=
 Rd w' v bs∧((bs = []∧v = .slice none 0 0)∨∃ g,v = .slice (some ⟨g,0,none⟩) bs.length bs.length∧w.heap.size≤g∧w'.heap[g]? = some (.cells (bs.map u8).toArray 5 (0,0)))
theorem NewB.weak {w0 w w':World} {v:Value} {bs:List Nat} (h:NewB w w' v bs) (k:w0.heap.size≤w.heap.size):NewB w0 w' v bs :=
 ⟨h.1,h.2.imp id fun ⟨g,h1,h2,h3⟩=>⟨g,h1,Nat.le_trans k h2,h3⟩⟩
theorem NewB.nil (w w':World):NewB w w' (.slice none 0 0) []:=⟨Rd.nil _,Or.inl ⟨rfl,rfl⟩⟩
theorem NewB.mk {w w':World} {g:Nat} {bs:List Nat} (hg:w.heap.size≤g) (h:w'.heap[g]? = some (.cells (bs.map u8).toArray 5 (0,0))) (hb:∀ x∈bs,x < 256) (hl:bs.length≤140737488355328):NewB w w' (.slice (some ⟨g,0,none⟩) bs.length bs.length) bs :=
 ⟨xa3i h hb hl,Or.inr ⟨g,rfl,hg,h⟩⟩
structure Wn (w0 w:World) (b:Nat) (v:Value) (bs:List Nat):Prop where
 at_:WrAt w b v bs
 new:∀ g,v.ownBlock = some g→w0.heap.size≤g
 hb:w0.heap.size≤b
 kept:Kept [] w0 w
theorem Wn.grew {w0 w w':World} {b:Nat} {v v':Value} {bs bs':List Nat} (h:Wn w0 w b v bs) (hw:WrAt w' b v' bs') (g:Grew b v v' w w'):Wn w0 w' b v' bs' :=
 ⟨hw,g.fresh h.new h.kept.size,h.hb,g.keptNil h.kept h.hb h.new⟩
theorem Wn.start {w0 w:World} (k:Kept [] w0 w):Wn w0 (w.alloc (.cells #[.slice none 0 0] 250)) w.heap.size (.slice none 0 0) [] :=
 ⟨WrAt.new w,by intro g hg; simp [Value.ownBlock] at hg,k.size,k.alloc _⟩
theorem Wn.rd {w0 w w':World} {b:Nat} {v:Value} {bs:List Nat} (h:Wn w0 w b v bs) {pv:Value} {p:List Nat} (hr:Rd w0 pv p) (k:Kept (b :: v.ownBlock.toList) w w'):Rd w' pv p:=by
 have k2:Kept (b :: v.ownBlock.toList) w0 w':=(h.kept.mono (by simp)).trans k (fun x hx=>Or.inl hx)
 refine hr.old k2 (fun x hx=>?_)
 rcases List.mem_cons.1 hx with rfl | hx
 ·exact h.hb
 ·exact h.new x (by simpa [Option.mem_toList] using hx)
theorem wn_u8 {w0 w:World} {b:Nat} {v:Value} {bs:List Nat} (x:Nat) (h:Wn w0 w b v bs) (hx:x < 256) (hl:bs.length + 8≤140737488355328) :
  Calls Tryz.prog 157 #[.pointer (some ⟨b,0,none⟩),.int .u8 x] w fun e w'=>e = .returned (.tuple #[])∧∃ v',Wn w0 w' b v' (bs++wide x 1) :=
 (xb7p b v bs x w h.at_ hx hl).mono fun e w' ⟨he,v',h1,h2⟩=>⟨he,v',h.grew h1 h2⟩
theorem wn_u32 {w0 w:World} {b:Nat} {v:Value} {bs:List Nat} (x:Nat) (h:Wn w0 w b v bs) (hx:x < 4294967296) (hl:bs.length + 8≤140737488355328) :
  Calls Tryz.prog 158 #[.pointer (some ⟨b,0,none⟩),.int .u32 x] w fun e w'=>e = .returned (.tuple #[])∧∃ v',Wn w0 w' b v' (bs++wide x 4) :=
 (xb8u b v bs x w h.at_ hx hl).mono fun e w' ⟨he,v',h1,h2⟩=>⟨he,v',h.grew h1 h2⟩
theorem wn_u64 {w0 w:World} {b:Nat} {v:Value} {bs:List Nat} (x:Nat) (h:Wn w0 w b v bs) (hl:bs.length + 8≤140737488355328) :
  Calls Tryz.prog 159 #[.pointer (some ⟨b,0,none⟩),.int .u64 x] w fun e w'=>e = .returned (.tuple #[])∧∃ v',Wn w0 w' b v' (bs++wide x 8) :=
 (xb9g b v bs x w h.at_ hl).mono fun e w' ⟨he,v',h1,h2⟩=>⟨he,v',h.grew h1 h2⟩
theorem wn_raw {w0 w:World} {b:Nat} {v pv:Value} {bs p:List Nat} (h:Wn w0 w b v bs) (hr:Rd w pv p) (hl:bs.length + p.length≤140737488355328) :
  Calls Tryz.prog 161 #[.pointer (some ⟨b,0,none⟩),pv] w fun e w'=>e = .returned (.tuple #[])∧∃ v',Wn w0 w' b v' (bs++p) :=
 (xb3t b v pv bs p w h.at_ hr hl).mono fun e w' ⟨he,v',h1,h2⟩=>⟨he,v',h.grew h1 h2⟩
theorem xb6y {w0 w:World} {b:Nat} {v:Value} {bs:List Nat} (x:Nat) (h:Wn w0 w b v bs) (hx:x < 18446744073709551616) (hl:bs.length + 10≤140737488355328) :
  Calls Tryz.prog 154 #[.pointer (some ⟨b,0,none⟩),.int .u64 x] w fun e w'=>e = .returned (.tuple #[])∧∃ v',Wn w0 w' b v' (bs++uv x) :=
 (xa8x b v bs x w h.at_ hx hl).mono fun e w' ⟨he,v',h1,h2⟩=>⟨he,v',h.grew h1 h2⟩
theorem xc1l {w0 w:World} {b:Nat} {v pv:Value} {bs p:List Nat} (h:Wn w0 w b v bs) (hr:Rd w0 pv p) (hl:bs.length + 10 + p.length≤140737488355328) :
  Calls Tryz.prog 209 #[.pointer (some ⟨b,0,none⟩),pv] w fun e w'=>e = .returned (.tuple #[])∧∃ v',Wn w0 w' b v' (bs++(uv p.length++p)) :=
 (xa8j b v pv bs p w h.at_ (fun w' k=>h.rd hr k) hl).mono fun e w' ⟨he,v',h1,h2⟩=>⟨he,v',h.grew h1 h2⟩
theorem xa6r {w0 w:World} {b:Nat} {v:Value} {bs:List Nat} (h:Wn w0 w b v bs) (hl:bs.length≤140737488355328) :
  Calls Tryz.prog 156 #[.pointer (some ⟨b,0,none⟩)] w fun e w'=>∃ v',e = .returned v'∧NewB w0 w' v' bs∧Kept [] w0 w' :=
 (xb1k b v bs w h.at_ hl).mono fun e w' ⟨he,k,h1⟩=>⟨_,he,NewB.mk h.kept.size h1 h.at_.byte hl,h.kept.trans k (by simp)⟩
end
theorem xlt {a b:Nat} (ha:a < 4294967296) (hb:b < 4294967296):a ^^^ b < 4294967296:=Nat.xor_lt_two_pow (n:=32) ha hb
def tn (c:Nat):Nat:=c / 2 ^^^ c % 2 * 2197175160
def zz (c:Nat):Nat:=tn (tn (tn (tn (tn (tn (tn (tn c)))))))
def it (f:Nat→Nat):Nat→Nat→Nat
 | 0,a=>a
 | n + 1,a=>it f n (f a)
theorem tn_lt {c:Nat} (h:c < 4294967296):tn c < 4294967296:=by
 unfold tn
 refine xlt (by omega) ?_
 rcases Nat.mod_two_eq_zero_or_one c with h | h <;> rw [h] <;> decide
theorem zz_lt {c:Nat} (h:c < 4294967296):zz c < 4294967296:=by unfold zz; exact tn_lt (tn_lt (tn_lt (tn_lt (tn_lt (tn_lt (tn_lt (tn_lt h)))))))
theorem xc0p (f:Nat→Nat) (n a:Nat):it f (n + 1) a = f (it f n a):=by
 induction n generalizing a with
 | zero=>rfl
 | succ n ih=>exact ih (f a)
def reg (x:Nat):List Nat→Nat
 | []=>x
 | v :: p=>reg (zz (x ^^^ v)) p
def le:List Nat→Nat
 | []=>0
 | v :: p=>v ^^^ le p * 256
theorem xa5r (p q:List Nat):∀ x,reg x (p++q) = reg (reg x p) q:=by
 induction p with
 | nil=>intro x; rfl
 | cons v p ih=>intro x; exact ih _
theorem reg_lt (p:List Nat):∀ x,x < 4294967296→(∀ v∈p,v < 256)→reg x p < 4294967296:=by
 induction p with
 | nil=>intro x h _; exact h
 | cons v p ih =>
  intro x h hp
  have:=hp v (by simp)
  exact ih _ (zz_lt (xlt h (by omega))) (fun u hu=>hp u (by simp [hu]))
def upd (c:Nat) (p:List Nat):Nat:=reg (c ^^^ 4294967295) p ^^^ 4294967295
theorem upd_lt {c:Nat} {p:List Nat} (h:c < 4294967296) (hp:∀ v∈p,v < 256):upd c p < 4294967296:=xlt (reg_lt p _ (xlt h (by decide)) hp) (by decide)
theorem xb0j (c:Nat) (p q:List Nat):upd c (p++q) = upd (upd c p) q:=by
 unfold upd; rw [xa5r]; congr 2; rw [Nat.xor_assoc,Nat.xor_self,Nat.xor_zero]
section
open Go.RowKit
theorem xb5o {bs:List Nat} (h:∀ x∈bs,x < 256) (j:Nat):bs.getD j 0 < 256:=by
 rw [List.getD_eq_getElem?_getD]
 rcases Nat.lt_or_ge j bs.length with hj | hj
 ·rw [List.getElem?_eq_getElem hj]; exact h _ (List.getElem_mem hj)
 ·rw [List.getElem?_eq_none hj]; decide
theorem compl (c:Nat) (hc:c < 4294967296):bits .xor .u32 IntKind.u32.max (c:Int) = ((c ^^^ 4294967295:Nat):Int):=by
 rw [show IntKind.u32.max = ((4294967295:Nat):Int) from rfl,u32_xor_nat _ _ (by decide) hc,Nat.xor_comm]
abbrev u32 (n:Nat):Value:=.int .u32 (n:Int)
theorem xb9m (c:Nat) (hc:c < 4294967296):bits .xor .u32 ((c:Int) / 2) (bits .and .u32 (c:Int) 1 * 2197175160 % 4294967296) = (tn c:Nat):=by
 rw [show (1:Int) = ((1:Nat):Int) from rfl,u32_and_nat c 1 hc (by decide),Nat.and_one_is_mod]
 have h2:c % 2 < 2:=Nat.mod_lt _ (by decide)
 rw [show (((c % 2:Nat):Int) * 2197175160 % 4294967296) = ((c % 2 * 2197175160:Nat):Int) by omega,show ((c:Int) / 2) = ((c / 2:Nat):Int) by omega,u32_xor_nat _ _ (by omega) (by omega)]
 rfl
set_option maxHeartbeats 1000000 in
theorem xa7a (c:Nat) (w:World) (hc:c < 4294967296) :
  Calls Tryz.prog 242 #[.int .u32 c] w fun e w'=>e = .returned (.int .u32 (zz c))∧w' = w:=by
 have hc':(c:Int)≤4294967295:=by omega
 go_enter Tryz.func242,Tryz.ntmps242
 go_wp2
 go_loopw [0,3] (fun t0 t3 wr=>∃ k y:Nat,k≤8∧y < 4294967296∧t0 = .int .u32 y∧t3 = .int .i64 k∧Hid (y = it tn k c)∧wr = w) (fun _ t _=>8 - (intOf t).toNat)
 case atStart=>exact ⟨0,c,by omega,hc,rfl,rfl,hide rfl,rfl⟩
 case round =>
  obtain ⟨k,y,hk,hy,rfl,rfl,Hy,rfl⟩:=hrel
  have hy':(y:Int)≤4294967295:=by omega
  by_cases hlt:k < 8
  ·have hlt':(k:Int) < 8:=by omega
   go_wp2
   go_roundw
   case rel =>
    refine ⟨k + 1,tn y,by omega,tn_lt hy,?_,by go_num,hide (by rw [xc0p,uh Hy]),trivial⟩
    exact congrArg (Value.int .u32) (xb9m y hy)
   case measure=>simp [intOf]; omega
  ·have hlt':¬ (k:Int) < 8:=by omega
   have hk8:k = 8:=by omega
   subst hk8
   go_wp2
   go_ret
   exact ⟨by rw [uh Hy]; rfl,rfl⟩
set_option maxHeartbeats 1000000 in
theorem xa6f (c:Nat) (v:Value) (p:List Nat) (w:World) (hc:c < 4294967296) (h:Rd w v p) :
  Calls Tryz.prog 211 #[.int .u32 c,v] w fun e w'=>e = .returned (.int .u32 (upd c p))∧w' = w:=by
 obtain ⟨ao,len,cap,rfl,rfl,h2,⟨h3,h3'⟩,h4,h5,h6⟩:=h
 have hcm:=compl c hc
 have H5:=hide h5
 have H6:=hide h6
 clear h4 h5 h6
 go_enter Tryz.func211,Tryz.ntmps211
 go_wp2
 go_loopw [5,12] (fun t5 t12 wr=>∃ k y:Nat,k≤p.length∧y < 4294967296∧t5 = .int .u32 y∧t12 = .int .i64 k∧Hid (y = reg (c ^^^ 4294967295) (p.take k))∧wr = w) (fun _ t _=>p.length - (intOf t).toNat)
 case atStart =>
  exact ⟨0,c ^^^ 4294967295,by omega,xlt hc (by decide),rfl,rfl,hide (by simp [reg]),rfl⟩
 case round =>
  obtain ⟨k,y,hk,hy,rfl,rfl,Hy,rfl⟩:=hrel
  have hy':(y:Int)≤4294967295:=by omega
  by_cases hlt:k < p.length
  ·have hlt':(k:Int) < p.length:=by omega
   obtain ⟨b,o,rfl,hcell⟩:=uh H6 (by omega)
   have ck:=hcell k hlt
   have hb:=xb5o (uh H5) k
   have HN:=hide (show reg (c ^^^ 4294967295) (p.take (k + 1)) = zz (y ^^^ p.getD k 0) by
    rw [List.take_succ_eq_append_getElem hlt,xa5r,← uh Hy,List.getD_eq_getElem?_getD,List.getElem?_eq_getElem hlt]; rfl)
   clear hcell
   generalize p.getD k 0 = z at ck hb HN
   have hx:bits .xor .u32 (y:Int) (z:Int) = ((y ^^^ z:Nat):Int):=u32_xor_nat y z hy (by omega)
   have hxl:y ^^^ z < 4294967296:=xlt hy (by omega)
   go_wp2_with fail
   refine (xa7a _ _ hxl).mono ?_
   rintro e w1 ⟨rfl,rfl⟩
   go_wp2
   go_roundw
   case rel =>
    exact ⟨k + 1,_,by omega,zz_lt hxl,rfl,by go_num,hide (uh HN).symm,trivial⟩
   case measure=>simp [intOf]; omega
  ·have hlt':¬ (k:Int) < p.length:=by omega
   have hk8:k = p.length:=by omega
   subst hk8
   have hcy:=compl y hy
   go_wp2
   go_ret
   exact ⟨by rw [uh Hy,List.take_length]; rfl,rfl⟩
set_option maxHeartbeats 1000000 in
theorem xc0u (v:Value) (p:List Nat) (w:World) (h:Rd w v p) :
  Calls Tryz.prog 212 #[v] w fun e w'=>e = .returned (.int .u32 (upd 0 p))∧w' = w:=by
 have H:=hide h
 clear h
 go_enter Tryz.func212,Tryz.ntmps212
 go_wp2_with fail
 refine (xa6f 0 v p _ (by decide) (uh H)).mono ?_
 rintro e w1 ⟨rfl,rfl⟩
 go_wp2
 go_ret
 exact ⟨rfl,rfl⟩
end

def rv:Nat→Nat→Nat
 | 0,_=>0
 | n + 1,c=>rv n c * 2 + c / 2 ^ n % 2
def dbl (r:Nat):Nat:=r * 2 ^^^ r / 2147483648 * 4812730177
def hor (a:Nat):Nat→Nat→Nat
 | 0,_=>0
 | j + 1,b=>dbl (hor a j (b / 2)) ^^^ b % 2 * a
section
open Go.RowKit


end
theorem xa4e (r:List Nat):∀ a,(∀ y∈r,y < 256)→∃ s,s < 256 ^ r.length∧r.foldl (fun a c=>a * 256 + c) a = a * 256 ^ r.length + s:=by
 induction r with
 | nil=>intro a _; exact ⟨0,by simp,by simp⟩
 | cons c r ih =>
  intro a hb
  obtain ⟨s,hs,e⟩:=ih (a * 256 + c) (fun y hy=>hb y (by simp [hy]))
  have hc:=hb c (by simp)
  refine ⟨c * 256 ^ r.length + s,?_,?_⟩
  ·simp only [List.length_cons]
   rw [Nat.pow_succ]
   have:c * 256 ^ r.length≤255 * 256 ^ r.length:=Nat.mul_le_mul (by omega) (Nat.le_refl _)
   omega
  ·simp only [List.foldl_cons,List.length_cons]
   rw [e,Nat.pow_succ,Nat.add_mul,Nat.mul_comm (256 ^ r.length) 256,← Nat.mul_assoc]; omega
theorem xa9w (r:List Nat):∀ a,(∀ y∈r,y < 256)→wide (r.foldl (fun a c=>a * 256 + c) a) r.length = r:=by
 induction r with
 | nil=>intro a _; rfl
 | cons c r ih =>
  intro a hb
  have hb':∀ y∈r,y < 256:=fun y hy=>hb y (by simp [hy])
  have hc:=hb c (by simp)
  obtain ⟨s,hs,e⟩:=xa4e r (a * 256 + c) hb'
  have h2:=ih (a * 256 + c) hb'
  simp only [List.foldl_cons,List.length_cons,wide]
  rw [h2,e]
  have hp:0 < 256 ^ r.length:=Nat.pow_pos (by omega)
  have:((a * 256 + c) * 256 ^ r.length + s) / 256 ^ r.length = a * 256 + c:=by
   rw [Nat.add_comm,Nat.add_mul_div_right _ _ hp,Nat.div_eq_of_lt hs,Nat.zero_add]
  rw [this]
  congr 1; omega
theorem xb4p (r:List Nat):∀ a,(∀ y∈r,y < 256)→(a + 1) * 256 ^ r.length≤18446744073709551616→r.foldl (fun a c=>(a * 256 + c) % 18446744073709551616) a = r.foldl (fun a c=>a * 256 + c) a:=by
 induction r with
 | nil=>intro a _ _; rfl
 | cons c r ih =>
  intro a hb h
  have hc:=hb c (by simp)
  simp only [List.foldl_cons]
  have hp:0 < 256 ^ r.length:=Nat.pow_pos (by omega)
  simp only [List.length_cons,Nat.pow_succ] at h
  have h2:(a * 256 + c + 1) * 256 ^ r.length≤(a + 1) * (256 ^ r.length * 256):=by
   rw [Nat.mul_comm (256 ^ r.length) 256,← Nat.mul_assoc]
   exact Nat.mul_le_mul (by omega) (Nat.le_refl _)
  have h3:a * 256 + c + 1≤(a * 256 + c + 1) * 256 ^ r.length:=Nat.le_mul_of_pos_right _ hp
  rw [Nat.mod_eq_of_lt (by omega)]
  exact ih _ (fun y hy=>hb y (by simp [hy])) (by omega)
theorem xa2f {r:List Nat} (hb:∀ y∈r,y < 256) (hl:r.length≤8):wide (beL r) r.length = r∧beL r < 256 ^ r.length:=by
 have hpow:256 ^ r.length≤256 ^ 8:=Nat.pow_le_pow_right (by omega) hl
 have h8:(256:Nat) ^ 8 = 18446744073709551616:=(by decide)
 have e:beL r = r.foldl (fun a c=>a * 256 + c) 0:=xb4p r 0 hb (by omega)
 obtain ⟨s,hs,e2⟩:=xa4e r 0 hb
 rw [e]
 exact ⟨xa9w r 0 hb,by rw [e2]; omega⟩
theorem xb3o (v:Nat):∀ n a,n≤8→a * 256 ^ n + v % 256 ^ n < 18446744073709551616→(wide v n).foldl (fun a c=>(a * 256 + c) % 18446744073709551616) a = a * 256 ^ n + v % 256 ^ n:=by
 intro n
 induction n with
 | zero=>intro a _ _; simp [wide,Nat.mod_one]
 | succ n ih =>
  intro a hn h
  have hpow:256 ^ (n + 1) = 256 ^ n * 256:=Nat.pow_succ ..
  have hv:v % 256 ^ (n + 1) = v / 256 ^ n % 256 * 256 ^ n + v % 256 ^ n:=by
   rw [hpow,Nat.mod_mul]
   rw [Nat.mul_comm (256 ^ n)]; omega
  have hpos:0 < 256 ^ n:=Nat.pow_pos (by omega)
  have e1:a * 256 ^ (n + 1) = a * 256 * 256 ^ n:=by rw [hpow,Nat.mul_comm (256 ^ n) 256,Nat.mul_assoc]
  have e2:(a * 256 + v / 256 ^ n % 256) * 256 ^ n = a * 256 * 256 ^ n + v / 256 ^ n % 256 * 256 ^ n:=Nat.add_mul ..
  have hle:a * 256 + v / 256 ^ n % 256≤(a * 256 + v / 256 ^ n % 256) * 256 ^ n:=Nat.le_mul_of_pos_right _ hpos
  simp only [wide,List.foldl_cons]
  rw [Nat.mod_eq_of_lt (by omega),ih _ (by omega) (by omega)]
  omega
theorem xa0o {v n:Nat} (hn:n≤8) (hv:v < 256 ^ n):beL (wide v n) = v:=by
 have h3:256 ^ n≤256 ^ 8:=Nat.pow_le_pow_right (by omega) hn
 have h4:(256:Nat) ^ 8 = 18446744073709551616:=(by decide)
 have h5:=xb3o v n 0 hn (by rw [Nat.mod_eq_of_lt hv]; omega)
 unfold beL
 rw [h5,Nat.mod_eq_of_lt hv]; omega
def txF (pl:Nat) (pay:List Nat):List Nat:=wide pay.length 4++(wide pl 8++pay)
def sumF (pl:Nat) (pay:List Nat):Nat:=upd 0 (txF pl pay)
def frB (pl:Nat) (pay:List Nat):List Nat:=245 :: (wide pay.length 4++(wide pl 8++(wide (sumF pl pay) 4++(pay++[95]))))
theorem xa1k (pl:Nat) (pay:List Nat):(frB pl pay).length = pay.length + 18:=by simp [frB,xa0d]; omega
theorem xb8m {pl:Nat} {pay:List Nat} (hb:∀ x∈pay,x < 256):∀ x∈txF pl pay,x < 256:=by
 intro x hx
 simp only [txF,List.mem_append] at hx
 rcases hx with h | h | h
 ·exact xa0p _ _ _ h
 ·exact xa0p _ _ _ h
 ·exact hb x h
theorem xb7v {pl:Nat} {pay:List Nat} (hb:∀ x∈pay,x < 256):sumF pl pay < 4294967296:=upd_lt (by decide) (xb8m hb)
theorem xb8d {pl:Nat} {pay:List Nat} (hb:∀ x∈pay,x < 256):∀ x∈frB pl pay,x < 256:=by
 intro x hx
 simp only [frB,List.mem_append,List.mem_cons,List.not_mem_nil,or_false] at hx
 rcases hx with rfl | h | h | h | h | rfl
 ·decide
 ·exact xa0p _ _ _ h
 ·exact xa0p _ _ _ h
 ·exact xa0p _ _ _ h
 ·exact hb x h
 ·decide
def firstF (p:List Nat):Option (Nat × List Nat) :=
 if p.getD 0 0 = 245∧1≤beL ((p.drop 1).take 4)∧beL ((p.drop 1).take 4)≤65535∧17 + beL ((p.drop 1).take 4) < p.length∧p.getD (17 + beL ((p.drop 1).take 4)) 0 = 95 ∧
   sumF (beL ((p.drop 5).take 8)) ((p.drop 17).take (beL ((p.drop 1).take 4))) = beL ((p.drop 13).take 4)
 then some (beL ((p.drop 5).take 8),(p.drop 17).take (beL ((p.drop 1).take 4))) else none
theorem xa4z (pl:Nat) (pay t:List Nat) (hpl:pl < 18446744073709551616) (hl:pay.length≤65535) (hb:∀ x∈pay,x < 256) :
  ((frB pl pay++t).drop 1).take 4 = wide pay.length 4∧((frB pl pay++t).drop 5).take 8 = wide pl 8∧((frB pl pay++t).drop 13).take 4 = wide (sumF pl pay) 4∧((frB pl pay++t).drop 17).take pay.length = pay∧(frB pl pay++t).getD (17 + pay.length) 0 = 95:=by
 have h4:=xa0d pay.length 4
 have h8:=xa0d pl 8
 have hs:=xa0d (sumF pl pay) 4
 obtain ⟨A,hA⟩:∃ A,wide pay.length 4 = A:=⟨_,rfl⟩
 obtain ⟨B,hB⟩:∃ B,wide pl 8 = B:=⟨_,rfl⟩
 obtain ⟨C,hC⟩:∃ C,wide (sumF pl pay) 4 = C:=⟨_,rfl⟩
 unfold frB
 rw [hA] at h4 ⊢
 rw [hB] at h8 ⊢
 rw [hC] at hs ⊢
 have e1:(245 :: (A++(B++(C++(pay++[95]))))++t) = [245]++(A++(B++(C++(pay++([95]++t))))):=by simp
 rw [e1]
 refine ⟨?_,?_,?_,?_,?_⟩
 ·rw [List.drop_append_of_le_length (by simp)]; simp [List.take_append,h4]
 ·rw [show 5 = 1 + 4 by rfl,← List.drop_drop,List.drop_append_of_le_length (by simp),show List.drop 1 [245] = [] from rfl,List.nil_append,← h4,List.drop_left,← h8,List.take_left]
 ·rw [show 13 = 1 + (4 + 8) by rfl,← List.drop_drop,← List.drop_drop,List.drop_append_of_le_length (by simp),show List.drop 1 [245] = [] from rfl,List.nil_append]
  rw [← h4,List.drop_left,← h8,List.drop_left]
  rw [h4,← hs,List.take_left]
 ·rw [show 17 = 1 + (4 + (8 + 4)) by rfl,← List.drop_drop,← List.drop_drop,← List.drop_drop,List.drop_append_of_le_length (by simp),show List.drop 1 [245] = [] from rfl,List.nil_append]
  conv=>lhs; arg 2; arg 1; rw [← hs]
  conv=>lhs; arg 2; arg 2; arg 1; rw [← h8]
  conv=>lhs; arg 2; arg 2; arg 2; arg 1; rw [← h4]
  rw [List.drop_left,List.drop_left,List.drop_left,List.take_left]
 ·rw [List.getD_eq_getElem?_getD,List.getElem?_append_right (by simp; omega),List.getElem?_append_right (by simp; omega),List.getElem?_append_right (by simp; omega),List.getElem?_append_right (by simp; omega),List.getElem?_append_right (by simp; omega),h4,h8,hs]
  simp only [List.length_cons,List.length_nil]
  rw [show 17 + pay.length - (0 + 1) - 4 - 8 - 4 - pay.length = 0 by omega]
  rfl
theorem xa4j (pl:Nat) (pay t:List Nat) (hpl:pl < 18446744073709551616) (h1:1≤pay.length) (hl:pay.length≤65535) (hb:∀ x∈pay,x < 256):firstF (frB pl pay++t) = some (pl,pay):=by
 obtain ⟨p1,p2,p3,p4,p5⟩:=xa4z pl pay t hpl hl hb
 have hlen:(frB pl pay++t).length = pay.length + 18 + t.length:=by rw [List.length_append,xa1k]
 have h0:(frB pl pay++t).getD 0 0 = 245:=rfl
 unfold firstF
 obtain ⟨P,hP⟩:∃ P,frB pl pay++t = P:=⟨_,rfl⟩
 rw [hP] at p1 p2 p3 p4 p5 hlen h0 ⊢
 rw [p1,p2,p3,xa0o (by omega) (show pay.length < 256 ^ 4 by omega),xa0o (by omega) (show pl < 256 ^ 8 by omega),xa0o (by omega) (show sumF pl pay < 256 ^ 4 from xb7v hb),p4]
 rw [if_pos ⟨h0,h1,hl,by omega,p5,rfl⟩]
theorem xa2i {p:List Nat} {pl:Nat} {pay:List Nat} (h:firstF p = some (pl,pay)) (hb:∀ x∈p,x < 256) :
  pl < 18446744073709551616∧1≤pay.length∧pay.length≤65535∧(∀ x∈pay,x < 256)∧p = frB pl pay++p.drop (pay.length + 18):=by
 unfold firstF at h
 split at h
 case isFalse=>simp at h
 rename_i hc
 obtain ⟨c1,c2,c3,c4,c5,c6⟩:=hc
 simp only [Option.some.injEq,Prod.mk.injEq] at h
 obtain ⟨h1,h2⟩:=h
 have hd:∀ a n x,x∈(p.drop a).take n→x < 256:=fun a n x hx=>hb x (List.mem_of_mem_drop (List.mem_of_mem_take hx))
 have l4:((p.drop 1).take 4).length = 4:=by simp; omega
 have l8:((p.drop 5).take 8).length = 8:=by simp; omega
 have ls:((p.drop 13).take 4).length = 4:=by simp; omega
 have w4:=xa2f (hd 1 4) (by omega)
 have w8:=xa2f (hd 5 8) (by omega)
 have ws:=xa2f (hd 13 4) (by omega)
 rw [l4] at w4
 rw [l8] at w8
 rw [ls] at ws
 have hpn:pay.length = beL ((p.drop 1).take 4):=by rw [← h2,List.length_take,List.length_drop]; omega
 have hpb:∀ x∈pay,x < 256:=fun x hx=>hd 17 _ x (by rw [← h2] at hx; exact hx)
 refine ⟨by rw [← h1]; have:=w8.2; simpa using this,by omega,by omega,hpb,?_⟩
 rw [h2,h1] at c6
 rw [h1] at w8
 unfold frB
 rw [c6,hpn,w4.1,w8.1,ws.1]
 have e0:p = p.getD 0 0 :: p.drop 1:=by
  cases p with
  | nil=>simp at c4
  | cons a r=>rfl
 have e1:p.drop 1 = (p.drop 1).take 4++p.drop 5:=by rw [show 5 = 1 + 4 by rfl,← List.drop_drop,List.take_append_drop]
 have e5:p.drop 5 = (p.drop 5).take 8++p.drop 13:=by rw [show 13 = 5 + 8 by rfl,← List.drop_drop,List.take_append_drop]
 have e13:p.drop 13 = (p.drop 13).take 4++p.drop 17:=by rw [show 17 = 13 + 4 by rfl,← List.drop_drop,List.take_append_drop]
 have e17:p.drop 17 = pay++p.drop (17 + pay.length):=by rw [hpn,← List.drop_drop,← h2,List.take_append_drop]
 have e18:p.drop (17 + pay.length) = [95]++p.drop (pay.length + 18):=by
  rw [hpn]
  rw [show beL ((p.drop 1).take 4) + 18 = 17 + beL ((p.drop 1).take 4) + 1 by omega]
  rw [List.drop_eq_getElem_cons c4]
  rw [List.getD_eq_getElem?_getD,List.getElem?_eq_getElem c4] at c5
  simp only [Option.getD_some] at c5
  rw [c5]; rfl
 rw [← hpn]
 conv=>lhs; rw [e0,c1,e1,e5,e13,e17,e18]
 simp
theorem xa2q (pl:Nat) (pay:List Nat) (c k:Nat) (hpl:pl < 18446744073709551616) (hl:pay.length≤65535) (hb:∀ x∈pay,x < 256) (hc:c < pay.length + 18) :
  firstF ((frB pl pay).take c++List.replicate k 0) = none:=by
 obtain ⟨p,hp⟩:∃ p,(frB pl pay).take c++List.replicate k 0 = p:=⟨_,rfl⟩
 have hpb:∀ x∈p,x < 256:=by
  intro x hx
  rw [← hp] at hx
  rcases List.mem_append.1 hx with h | h
  ·exact xb8d hb x (List.mem_of_mem_take h)
  ·have:=(List.mem_replicate.1 h).2; omega
 have hlt:((frB pl pay).take c).length = c:=by rw [List.length_take,xa1k]; omega
 have hz:∀ i,c≤i→p.getD i 0 = 0:=by
  intro i hi
  rw [← hp,List.getD_eq_getElem?_getD,List.getElem?_append_right (by omega),List.getElem?_replicate]
  split <;> rfl
 rw [hp]
 cases h:firstF p with
 | none=>rfl
 | some x =>
  exfalso
  obtain ⟨pl',pay'⟩:=x
  obtain ⟨g1,g2,g3,g4,g5⟩:=xa2i h hpb
  obtain ⟨p1,p2,p3,p4,p5⟩:=xa4z pl' pay' (p.drop (pay'.length + 18)) g1 g3 g4
  rw [← g5] at p1 p5
  rcases Nat.lt_or_ge 17 c with h17 | h17
  ·have q1:=(xa4z pl pay [] hpl hl hb).1
   rw [List.append_nil] at q1
   have e:(p.drop 1).take 4 = ((frB pl pay).drop 1).take 4:=by
    rw [← hp,List.drop_append_of_le_length (by omega),List.take_append_of_le_length (by rw [List.length_drop,hlt]; omega),List.drop_take,List.take_take,Nat.min_eq_left (by omega)]
   rw [p1,q1] at e
   have e2:=congrArg beL e
   rw [xa0o (by omega) (show pay'.length < 256 ^ 4 by omega),xa0o (by omega) (show pay.length < 256 ^ 4 by omega)] at e2
   have:=hz (17 + pay'.length) (by omega)
   omega
  ·have:=hz (17 + pay'.length) (by omega)
   omega
section
open Go.RowKit
set_option maxHeartbeats 1000000 in
theorem xa9h (pl:Nat) (v:Value) (p:List Nat) (w:World) (h:Rd w v p) (hpl:pl < 18446744073709551616) (hl:p.length≤65535) :
  Calls Tryz.prog 160 #[.int .u64 pl,v] w fun e w'=>e = .returned (.int .u32 (sumF pl p))∧Kept [] w w':=by
 have H:=hide h
 obtain ⟨a1,n1,c1,rfl,hn1,_⟩:=id h
 subst hn1
 clear h
 go_enter Tryz.func160,Tryz.ntmps160
 have HW0:=hide (Wn.start (Kept.refl [] w))
 go_wp2_with fail
 refine Calls.mono (wn_u32 p.length (uh HW0) (by omega) (by simp)) ?_
 rintro e w1 ⟨rfl,v1,h1⟩
 have HW1:=hide h1
 clear h1 HW0
 go_wp2_with fail
 refine Calls.mono (wn_u64 pl (uh HW1) (by simp [xa0d])) ?_
 rintro e w2 ⟨rfl,v2,h2⟩
 have HW2:=hide h2
 clear h2 HW1
 go_wp2_with fail
 refine Calls.mono (xa6r (uh HW2) (by simp [xa0d])) ?_
 rintro e w3 ⟨v3,rfl,n3,k3⟩
 have HR3:=hide n3.1
 have HK3:=hide k3
 have HP3:=hide ((uh H).old k3 (by simp))
 clear n3 k3 HW2
 go_wp2_with fail
 refine Calls.mono (xc0u v3 _ w3 (uh HR3)) ?_
 rintro e w4 ⟨rfl,rfl⟩
 go_wp2_with fail
 refine Calls.mono (xa6f _ _ p w4 (upd_lt (by decide) (uh HR3).byte) (uh HP3)) ?_
 rintro e w5 ⟨rfl,rfl⟩
 rw [← xb0j]
 go_wp2
 go_ret
 refine ⟨?_,uh HK3⟩
 simp [sumF,txF,List.append_assoc]
theorem Wn.pass {w0 w w':World} {b:Nat} {v:Value} {bs:List Nat} (h:Wn w0 w b v bs) (k:Kept [] w w'):Wn w0 w' b v bs :=
 ⟨h.at_.kept k (by simp) (by simp),h.new,h.hb,h.kept.trans k (by simp)⟩
def encE (p:List Nat):Nat:=if 65535 < p.length then 2 else if p.length = 0 then 3 else 0
def encB (pl:Nat) (p:List Nat):List Nat:=if encE p = 0 then frB pl p else []
set_option maxHeartbeats 1000000 in
theorem xa6n (pl:Nat) (v:Value) (p:List Nat) (w:World) (h:Rd w v p) (hpl:pl < 18446744073709551616) :
  Calls Tryz.prog 107 #[.agg #[.int .u64 pl,v]] w fun e w'=>∃ v',e = .returned (.tuple #[v',.int .i64 (encE p)])∧NewB w w' v' (encB pl p)∧Kept [] w w':=by
 have H:=hide h
 obtain ⟨a1,n1,c1,rfl,hn1,_⟩:=id h
 subst hn1
 clear h
 by_cases h1:65535 < p.length
 ·have h1':(65535:Int) < p.length:=by omega
  have HE:=hide (by simp [encE,h1]:encE p = 2)
  have HB:=hide (by simp [encB,uh HE]:encB pl p = [])
  rw [uh HE,uh HB]
  clear h1
  go_enter Tryz.func107,Tryz.ntmps107
  go_wp2
  go_ret2
  exact ⟨_,rfl,NewB.nil _ _,(Kept.refl [] w).alloc _⟩
 by_cases h0:p.length = 0
 ·have h1':¬ (65535:Int) < p.length:=by omega
  have h0':(p.length:Int) = 0:=by omega
  have HE:=hide (by simp [encE,h0]:encE p = 3)
  have HB:=hide (by simp [encB,uh HE]:encB pl p = [])
  rw [uh HE,uh HB]
  clear h1
  go_enter Tryz.func107,Tryz.ntmps107
  go_wp2
  go_ret2
  exact ⟨_,rfl,NewB.nil _ _,(Kept.refl [] w).alloc _⟩
 have h1':¬ (65535:Int) < p.length:=by omega
 have h0':¬ (p.length:Int) = 0:=by omega
 have HE:=hide (by simp [encE,h0,h1]:encE p = 0)
 have HB:=hide (by simp [encB,uh HE]:encB pl p = frB pl p)
 rw [uh HE,uh HB]
 have hl:p.length≤65535:=by omega
 clear h1 h0
 go_enter Tryz.func107,Tryz.ntmps107
 have HK0:=hide ((Kept.refl [] w).alloc (.cells #[.int .u64 (pl:Int),.slice a1 p.length c1] 173))
 have HC0:=hide (heap_alloc_new w (.cells #[.int .u64 (pl:Int),.slice a1 p.length c1] 173))
 go_wp2_with fail
 obtain ⟨W,hW⟩:∃ W,w.alloc (.cells #[.int .u64 (pl:Int),.slice a1 p.length c1] 173) = W:=⟨_,rfl⟩
 have hWs:W.heap.size = w.heap.size + 1:=by rw [← hW]; simp
 rw [hW] at HK0 HC0 ⊢
 clear hW
 have HW0:=hide (Wn.start (Kept.refl [] W))
 rw [hWs] at HW0
 refine Calls.mono (wn_u8 245 (uh HW0) (by decide) (by simp)) ?_
 rintro e w1 ⟨rfl,v1,h1⟩
 have HW1:=hide h1
 have c1a:w1.cell? ⟨w.heap.size,1,none⟩ = some (.slice a1 p.length c1):=h1.kept.cell (by rw [cell_of_row _ _ _ _ _ _ (uh HC0)]; rfl) (by simp)
 clear h1 HW0
 go_wp2_with fail
 refine Calls.mono (wn_u32 p.length (uh HW1) (by omega) (by simp [xa0d])) ?_
 rintro e w2 ⟨rfl,v2,h2⟩
 have HW2:=hide h2
 have c2:w2.cell? ⟨w.heap.size,0,none⟩ = some (.int .u64 pl):=h2.kept.cell (by rw [cell_of_row _ _ _ _ _ _ (uh HC0)]; rfl) (by simp)
 clear h2 HW1 c1a
 go_wp2_with fail
 refine Calls.mono (wn_u64 pl (uh HW2) (by simp [xa0d])) ?_
 rintro e w3 ⟨rfl,v3,h3⟩
 have HW3:=hide h3
 have c3:w3.cell? ⟨w.heap.size,0,none⟩ = some (.int .u64 pl):=h3.kept.cell (by rw [cell_of_row _ _ _ _ _ _ (uh HC0)]; rfl) (by simp)
 have c3':w3.cell? ⟨w.heap.size,1,none⟩ = some (.slice a1 p.length c1):=h3.kept.cell (by rw [cell_of_row _ _ _ _ _ _ (uh HC0)]; rfl) (by simp)
 clear h3 HW2 c2
 go_wp2_with fail
 refine Calls.mono (xa9h pl _ p w3 ((uh H).old ((uh HK0).trans (uh HW3).kept (by simp)) (by simp)) hpl hl) ?_
 rintro e w4 ⟨rfl,k4⟩
 have HW4:=hide ((uh HW3).pass k4)
 clear k4 HW3 c3 c3'
 go_wp2_with fail
 refine Calls.mono (wn_u32 (sumF pl p) (uh HW4) (xb7v (uh H).byte) (by simp [xa0d])) ?_
 rintro e w5 ⟨rfl,v5,h5⟩
 have HW5:=hide h5
 have c5':w5.cell? ⟨w.heap.size,1,none⟩ = some (.slice a1 p.length c1):=h5.kept.cell (by rw [cell_of_row _ _ _ _ _ _ (uh HC0)]; rfl) (by simp)
 clear h5 HW4
 go_wp2_with fail
 refine Calls.mono (wn_raw (uh HW5) ((uh H).old ((uh HK0).trans (uh HW5).kept (by simp)) (by simp)) (by simp [xa0d]; omega)) ?_
 rintro e w6 ⟨rfl,v6,h6⟩
 have HW6:=hide h6
 clear h6 HW5 c5'
 go_wp2_with fail
 refine Calls.mono (wn_u8 95 (uh HW6) (by decide) (by simp [xa0d]; omega)) ?_
 rintro e w7 ⟨rfl,v7,h7⟩
 have HW7:=hide h7
 clear h7 HW6
 go_wp2_with fail
 refine Calls.mono (xa6r (uh HW7) (by simp [xa0d]; omega)) ?_
 rintro e w8 ⟨v8,rfl,n8,k8⟩
 have HN8:=hide n8
 have HK8:=hide ((uh HK0).trans k8 (by simp))
 clear n8 k8
 go_wp2
 go_ret2
 refine ⟨_,rfl,?_,uh HK8⟩
 have e9:[]++wide 245 1++wide p.length 4++wide pl 8++wide (sumF pl p) 4++p++wide 95 1 = frB pl p:=by
  simp [frB,wide,List.append_assoc]
 rw [e9] at HN8
 exact (uh HN8).weak (uh HK0).size
theorem Kept.setRow {L:List Nat} {a w:World} (h:Kept L a w) {g:Nat} (hg:g∈L∨a.heap.size≤g) (cs:Array Value):Kept L a (w.setRow g cs) :=
 h.trans (M:=[g]) ⟨rfl,rfl,rfl,by simp [World.setRow],fun k _ hn=>setRow_other w g k _ (by simpa using hn)⟩ (by simpa using hg)
theorem xa0b {P:Program} {fn:Func} {p q:Tmp} {ty:TypeId} (h:fn.results = #[.cell p ty,.tmp q]) (tmps:Array Value) (w:World) (g:Nat) (t:TypeId) (cs:Array Value) (fr:Nat × Nat) (d:TypeDesc)
  (hp:tmps.getD p undef = .pointer (some ⟨g,0,none⟩)) (hg:w.heap[g]? = some (.cells cs t fr))
  (hu:P.underlying ty = some d) (hd:(match d with | .struct _ | .array _ _=>true | _=>false) = true) (hi:(P.info? ty).map (·.size) = some cs.size) (v:Value) (hq:tmps.getD q undef = v) :
  (results fn tmps).run P w = .ok (.tuple #[.agg cs,v]) w:=by
 have hp':tmps[p]?.getD undef = .pointer (some ⟨g,0,none⟩):=by simpa using hp
 have hq':tmps[q]?.getD undef = v:=by simpa using hq
 simp [results,h,hp',hq',asAddr,run_loadVar_row w g t ty cs fr d hg hu hd hi]
theorem xa0s {w:World} {g:Nat} {a b:Value} {t:TypeId} (h:w.heap[g]? = some (.cells #[a,b] t (0,0))) (x y:Value):((w.setCell ⟨g,0,none⟩ x).setCell ⟨g,1,none⟩ y).heap[g]? = some (.cells #[x,y] t (0,0)):=by
 rw [heap_setCell_same _ g 1 _ t _ (heap_setCell_same w g 0 _ t _ h)]; rfl
theorem xa0i {w0 w:World} (k:Kept [] w0 w) (g:Nat) (hg:w0.heap.size≤g) (x y:Value):Kept [] w0 ((w.setCell ⟨g,0,none⟩ x).setCell ⟨g,1,none⟩ y):=(k.setCell (Or.inr hg) x).setCell (Or.inr hg) y
theorem xa6d (w:World) (g:Nat) (x y:Value):Kept [g] w ((w.setCell ⟨g,0,none⟩ x).setCell ⟨g,1,none⟩ y):=((Kept.refl [g] w).setCell (Or.inl (by simp)) x).setCell (Or.inl (by simp)) y
theorem Tryz.size_frame:(Tryz.prog.info? 173).map (·.size) = some 2:=by kernel_rfl
set_option maxHeartbeats 1000000 in
theorem xb0y (b:Nat) (gv:Value) (p:List Nat) (i e:Nat) (w:World) (h:ReAt w b gv p i e) :
  Calls Tryz.prog 188 #[.pointer (some ⟨b,0,none⟩)] w fun r w'=>r = .returned (.int .u32 ((rNum p i e 4).1 % 4294967296:Nat))∧ReAt w' b gv p (rNum p i e 4).2.1 (rNum p i e 4).2.2∧Kept [b] w w':=by
 have HR:=hide h
 have hlt:=ru_lt p i e 4
 obtain ⟨x,hx⟩:∃ x,(rNum p i e 4).1 = x:=⟨_,rfl⟩
 rw [hx] at hlt ⊢
 have Hx:=hide hx
 clear h hx
 go_enter Tryz.func188,Tryz.ntmps188
 go_wp2_with (go_at_call 230; go_must (refine (xa6y b gv p i e 4 _ (uh HR) (by omega)).mono ?_; rintro r w1 ⟨rfl,h1,h2⟩; rw [uh Hx]; have H1:=hide h1; have H2:=hide h2; clear h1 h2))
 go_ret
 exact ⟨by simp,uh H1,uh H2⟩
set_option maxHeartbeats 1000000 in
theorem xb9d (b:Nat) (gv:Value) (p:List Nat) (i e:Nat) (w:World) (h:ReAt w b gv p i e) :
  Calls Tryz.prog 189 #[.pointer (some ⟨b,0,none⟩)] w fun r w'=>r = .returned (.int .u64 ((rNum p i e 8).1:Nat))∧ReAt w' b gv p (rNum p i e 8).2.1 (rNum p i e 8).2.2∧Kept [b] w w':=by
 have HR:=hide h
 have hlt:=ru_lt p i e 8
 obtain ⟨x,hx⟩:∃ x,(rNum p i e 8).1 = x:=⟨_,rfl⟩
 rw [hx] at hlt ⊢
 have Hx:=hide hx
 clear h hx
 go_enter Tryz.func189,Tryz.ntmps189
 go_wp2_with (go_at_call 230; go_must (refine (xa6y b gv p i e 8 _ (uh HR) (by omega)).mono ?_; rintro r w1 ⟨rfl,h1,h2⟩; rw [uh Hx]; have H1:=hide h1; have H2:=hide h2; clear h1 h2))
 go_ret
 exact ⟨by simp,uh H1,uh H2⟩
theorem xa9g {p:List Nat} {i n m:Nat} (hm:i + n≤m) (hl:m≤p.length):rNum (p.take m) i 0 n = (beL ((p.drop i).take n),i + n,0):=by
 have e:((p.take m).drop i).take n = (p.drop i).take n:=by rw [List.drop_take,List.take_take,Nat.min_eq_left (by omega)]
 unfold rNum
 rw [if_neg (by simp),if_neg (by rw [List.length_take]; omega),e]
theorem Rd.take0 {w:World} {ao:Option Addr} {cap n:Nat} {p:List Nat} (h:Rd w (.slice ao p.length cap) p) (hn:n≤p.length):Rd w (.slice ao n cap) (p.take n):=by
 obtain ⟨ao',len',cap',he,_,h2,⟨h3,h3'⟩,h4,h5,h6⟩:=h
 cases he
 refine ⟨_,_,_,rfl,by rw [List.length_take]; omega,by omega,⟨by omega,by omega⟩,h4,fun x hx=>h5 x (List.mem_of_mem_take hx),fun hp=>?_⟩
 obtain ⟨b,off,rfl,hc⟩:=h6 (by omega)
 refine ⟨b,off,rfl,fun i hi=>?_⟩
 rw [hc i (by omega),List.getD_eq_getElem?_getD,List.getD_eq_getElem?_getD,List.getElem?_take,if_pos hi]
theorem Rd.drop17 {w:World} {b off cap:Nat} {p:List Nat} (h:Rd w (.slice (some ⟨b,off,none⟩) p.length cap) p) (n:Nat) (hn:17 + n≤p.length):Rd w (.slice (some ⟨b,off + 17,none⟩) n (cap - 17)) ((p.drop 17).take n):=by
 obtain ⟨ao',len',cap',he,_,h2,⟨h3,h3'⟩,h4,h5,h6⟩:=h
 cases he
 refine ⟨_,_,_,rfl,by rw [List.length_take,List.length_drop]; omega,by omega,⟨by omega,by omega⟩,fun h=>by simp at h,fun x hx=>h5 x (List.mem_of_mem_drop (List.mem_of_mem_take hx)),fun hp=>?_⟩
 obtain ⟨b',off',e,hc⟩:=h6 (by omega)
 cases e
 refine ⟨b,off + 17,rfl,fun i hi=>?_⟩
 have:=hc (17 + i) (by omega)
 rw [Nat.add_assoc,this,List.getD_eq_getElem?_getD,List.getD_eq_getElem?_getD,List.getElem?_take,if_pos hi,List.getElem?_drop]
def fstPl (p:List Nat):Nat:=(firstF p).elim 0 (·.1)
def fstPay (p:List Nat):List Nat:=(firstF p).elim [] (·.2)
theorem Tryz.lt_of_beL {p:List Nat} (h:∀ x∈p,x < 256) (i n:Nat) (hn:n≤8):beL ((p.drop i).take n) < 256 ^ n:=by
 have:=(xa2f (r:=(p.drop i).take n) (fun y hy=>h y (List.mem_of_mem_drop (List.mem_of_mem_take hy))) (by rw [List.length_take]; omega)).2
 exact Nat.lt_of_lt_of_le this (Nat.pow_le_pow_right (by omega) (by rw [List.length_take]; omega))
theorem xa3t {p:List Nat} (h:p.length < 18):firstF p = none:=by
 unfold firstF
 rw [if_neg]
 rintro ⟨_,h1,_,h2,_⟩
 omega
theorem xb3k (p:List Nat) (h:∀ x∈p,x < 256) (hp:0 < p.length):beL ((p.drop 0).take 1) = p.getD 0 0:=by
 cases p with
 | nil=>simp at hp
 | cons a r =>
  have:=h a (by simp)
  simp [beL]
  omega
set_option maxHeartbeats 1000000 in
theorem xb6b (v:Value) (p:List Nat) (w:World) (h:Rd w v p) (hp:0 < p.length) :
  Calls Tryz.prog 190 #[v] w fun e w'=>∃ v',e = .returned v'∧Rd w' v' p∧(∀ x∈blk v',w.heap.size≤x)∧Kept [] w w':=by
 have H:=hide h
 obtain ⟨a1,n1,c1,rfl,hn1,hc1,⟨hc2,hc3⟩,hc4,hc5,hc6⟩:=id h
 subst hn1
 obtain ⟨b,off,rfl,_⟩:=hc6 hp
 clear h hc6 hc5 hc4
 have HO:=hide (World.ownsRow_made (base:=w.heap.size) (e:=5) (size:=1) w #[] 0 (Nat.le_refl _) (by unfold maxLen; omega) (by simp))
 go_enter Tryz.func190,Tryz.ntmps190
 have hq:∀ W:World,(binOp .eql 49 (.slice (some ⟨b,off,none⟩) p.length c1) (.slice none 0 0)).run Tryz.prog W = .ok (.bool false) W:=by
  intro W
  simp only [binOp]
  simp [run_equal_slice_nil W 49 5 (some ⟨b,off,none⟩) p.length c1 Tryz.underlying49]
 go_wp2_with (at_builtin; refine xa0q rfl (.tmp 5) (.tmp 6) rfl rfl _ w.heap.size (.slice (some ⟨w.heap.size,0,none⟩) 0 0) [] p (some ⟨b,off,none⟩) p.length c1 (uh HO) ((uh H).old ((Kept.refl [] w).alloc _) (by simp)) (by simp; omega) (by simp) rfl rfl ?_; intro ao1 cap1 w1 HO1 HG1 HA1; simp only [List.nil_append,List.length_nil,Nat.zero_add] at HO1 HA1; have HK1:=hide (((Kept.refl [] w).alloc _).grown (uh HG1) (by intro k hk; right; simp [Value.ownBlock] at hk; omega)); clear HG1)
 go_ret
 refine ⟨_,rfl,xa6h (uh HO1) (uh H).byte hc3,?_,uh HK1⟩
 intro x hx
 cases ao1 with
 | none=>simp [blk] at hx
 | some a=>simp [blk] at hx; subst hx; exact ((uh HO1).lt a.block rfl).1
def NewP (w w':World) (v:Value) (bs:List Nat):Prop:=Rd w' v bs∧∀ x∈blk v,w.heap.size≤x
theorem NewP.nil (w w':World):NewP w w' (.slice none 0 0) []:=⟨Rd.nil _,by simp [blk]⟩
set_option maxHeartbeats 2000000 in
theorem xa7t (v:Value) (p:List Nat) (w:World) (h:Rd w v p) :
  Calls Tryz.prog 131 #[v] w fun e w'=>∃ v',e = .returned (.tuple #[.agg #[.int .u64 (fstPl p),v'],.bool (firstF p).isSome])∧NewP w w' v' (fstPay p)∧Kept [] w w':=by
 have H:=hide h
 obtain ⟨a1,n1,c1,rfl,hn1,hc1,⟨hc2,hc3⟩,_,_,hcell⟩:=id h
 subst hn1
 clear h
 by_cases h18:p.length < 18
 ·have h18':(p.length:Int) < 18:=by omega
  have HF:=hide (xa3t h18)
  have e1:fstPl p = 0:=by simp [fstPl,uh HF]
  have e2:fstPay p = []:=by simp [fstPay,uh HF]
  rw [e1,e2,uh HF]
  clear e1 e2 hcell
  go_enter Tryz.func131,Tryz.ntmps131
  go_wp2
  refine bodyPost_ret (v:=.tuple #[.agg #[.int .u64 0,.slice none 0 0],.bool false]) ?_ rfl ⟨_,rfl,NewP.nil _ _,(Kept.refl [] w).alloc _⟩
  exact xa0b rfl _ _ w.heap.size _ #[.int .u64 0,.slice none 0 0] (0,0) _ rfl (heap_alloc_new _ _) Tryz.underlying173 rfl Tryz.size_frame _ rfl
 have h18':¬ (p.length:Int) < 18:=by omega
 obtain ⟨bb,off,rfl,hcl⟩:=hcell (by omega)
 have HCL:=hide hcl
 clear hcell hcl
 have hb:=(uh H).byte
 have t17:=(uh H).take0 (n:=17) (by omega)
 have HT:=hide t17
 have Hn1:=hide (xa9g (p:=p) (i:=0) (n:=1) (m:=17) (by omega) (by omega))
 have Hn4:=hide (xa9g (p:=p) (i:=1) (n:=4) (m:=17) (by omega) (by omega))
 have Hn8:=hide (xa9g (p:=p) (i:=5) (n:=8) (m:=17) (by omega) (by omega))
 have Hns:=hide (xa9g (p:=p) (i:=13) (n:=4) (m:=17) (by omega) (by omega))
 have ln:=Tryz.lt_of_beL hb 1 4 (by omega)
 have lpl:=Tryz.lt_of_beL hb 5 8 (by omega)
 have ls:=Tryz.lt_of_beL hb 13 4 (by omega)
 rw [xb3k p hb (by omega)] at Hn1
 have HFF:=hide (rfl:firstF p = firstF p)
 unfold Hid at HFF
 conv at HFF=>rhs; unfold firstF
 have lb:p.getD 0 0 < 256:=hb _ (by rw [List.getD_eq_getElem?_getD,List.getElem?_eq_getElem (show 0 < p.length by omega)]; exact List.getElem_mem _)
 obtain ⟨b0,hb0⟩:∃ x,p.getD 0 0 = x:=⟨_,rfl⟩
 obtain ⟨n,hn⟩:∃ x,beL ((p.drop 1).take 4) = x:=⟨_,rfl⟩
 obtain ⟨pl,hpl⟩:∃ x,beL ((p.drop 5).take 8) = x:=⟨_,rfl⟩
 obtain ⟨s,hs⟩:∃ x,beL ((p.drop 13).take 4) = x:=⟨_,rfl⟩
 rw [hn] at Hn4 HFF ln
 rw [hpl] at Hn8 HFF lpl
 rw [hs] at Hns HFF ls
 rw [hb0] at Hn1 HFF lb
 have HF:=hide HFF
 clear HFF t17 hb0 hn hpl hs hb
 obtain ⟨X,hX⟩:∃ x,fstPl p = x:=⟨_,rfl⟩
 obtain ⟨Y,hY⟩:∃ x,fstPay p = x:=⟨_,rfl⟩
 obtain ⟨Z,hZ⟩:∃ x,(firstF p).isSome = x:=⟨_,rfl⟩
 rw [hX,hY,hZ]
 have HX:=hide hX
 have HY:=hide hY
 have HZ:=hide hZ
 clear hX hY hZ
 go_enter Tryz.func131,Tryz.ntmps131
 have HZ0:=hide (heap_alloc_new w (.cells #[.int .u64 0,.slice none 0 0] 173))
 have HK0:=hide ((Kept.refl [] w).alloc (.cells #[.int .u64 0,.slice none 0 0] 173))
 go_wp2_with fail
 obtain ⟨W,hW⟩:∃ W,w.alloc (.cells #[.int .u64 0,.slice none 0 0] 173) = W:=⟨_,rfl⟩
 rw [hW] at HK0 HZ0 ⊢
 clear hW
 refine Calls.mono (xa2s _ (p.take 17) W ((uh HT).old (uh HK0) (by simp))) ?_
 rintro e w1 ⟨b,gv,rfl,hb1,r1,hg1,k1⟩
 have HR1:=hide r1
 have HK1:=hide k1
 have Hb:=hide hb1
 clear r1 k1 hg1 hb1
 go_wp2_with fail
 refine Calls.mono (xb7i b gv (p.take 17) 0 0 w1 (uh HR1)) ?_
 rintro e w2 ⟨rfl,r2,k2⟩
 rw [uh Hn1] at r2 ⊢
 rw [show (b0,0 + 1,0).1 % 256 = b0 from Nat.mod_eq_of_lt lb]
 have HR2:=hide r2
 have HK2:=hide (((uh HK1).trans k2 (by have:=uh Hb; simp; omega)))
 clear r2 k2 HR1 HK1
 go_wp2_with fail
 refine Calls.mono (xb0y b gv (p.take 17) 1 0 w2 (uh HR2)) ?_
 rintro e w3 ⟨rfl,r3,k3⟩
 rw [uh Hn4] at r3 ⊢
 rw [show (n,1 + 4,0).1 % 4294967296 = n from Nat.mod_eq_of_lt ln]
 have HR3:=hide r3
 have HK3:=hide (((uh HK2).trans k3 (by have:=uh Hb; simp; omega)))
 clear r3 k3 HR2 HK2
 go_wp2_with fail
 refine Calls.mono (xb9d b gv (p.take 17) 5 0 w3 (uh HR3)) ?_
 rintro e w4 ⟨rfl,r4,k4⟩
 rw [uh Hn8] at r4 ⊢
 have HR4:=hide r4
 have HK4:=hide (((uh HK3).trans k4 (by have:=uh Hb; simp; omega)))
 clear r4 k4 HR3 HK3
 go_wp2_with fail
 refine Calls.mono (xb0y b gv (p.take 17) 13 0 w4 (uh HR4)) ?_
 rintro e w5 ⟨rfl,r5,k5⟩
 rw [uh Hns]
 rw [show (s,13 + 4,0).1 % 4294967296 = s from Nat.mod_eq_of_lt ls]
 have HK5:=hide (((uh HK4).trans k5 (by have:=uh Hb; simp; omega)))
 clear r5 k5 HR4 HK4
 simp only
 have HZ5:=hide ((uh HK5).heap (uh HZ0) (by simp))
 have HKW:=hide ((uh HK0).trans (uh HK5) (by simp))
 have HNO:=hide (fun (h:firstF p = none)=>by
  rw [← uh HX,← uh HY,← uh HZ]
  exact ⟨by simp [fstPl,h],by simp [fstPay,h],by rw [h]; rfl⟩:firstF p = none→X = 0∧Y = []∧Z = false)
 have HQ0:=hide (xa0s (uh HZ5) (.int .u64 0) (.slice none 0 0))
 have HKQ:=hide (xa0i (uh HKW) w.heap.size (Nat.le_refl _) (.int .u64 0) (.slice none 0 0))
 have d0:w5.cell? ⟨w.heap.size,0,none⟩ = some (.int .u64 0):=by rw [cell_of_row _ _ _ _ _ _ (uh HZ5)]; rfl
 have d1:w5.cell? ⟨w.heap.size,1,none⟩ = some (.slice none 0 0):=by rw [cell_of_row _ _ _ _ _ _ (uh HZ5)]; rfl
 have f0:w5.frozen? ⟨w.heap.size,0,none⟩ = false:=frozen_of_row _ _ _ _ _ (uh HZ5)
 have f1:w5.frozen? ⟨w.heap.size,1,none⟩ = false:=frozen_of_row _ _ _ _ _ (uh HZ5)
 by_cases hA0:b0 = 245
 ·subst hA0
  by_cases hA1:n = 0
  ·have HFn:=hide (uh HNO (by rw [uh HF,if_neg]; rintro ⟨_,h,_⟩; omega))
   subst hA1
   go_wp2
   refine bodyPost_ret (v:=.tuple #[.agg #[.int .u64 0,.slice none 0 0],.bool false]) ?_ rfl ⟨_,by rw [(uh HFn).1,(uh HFn).2.2]; rfl,by rw [(uh HFn).2.1]; exact NewP.nil _ _,uh HKQ⟩
   exact xa0b rfl _ _ w.heap.size _ #[.int .u64 0,.slice none 0 0] (0,0) _ rfl (uh HQ0) Tryz.underlying173 rfl Tryz.size_frame _ rfl
  have hA1':((n:Int) == 0) = false:=by rw [beq_eq_false_iff_ne]; omega
  by_cases hA2:65535 < n
  ·have HFn:=hide (uh HNO (by rw [uh HF,if_neg]; rintro ⟨_,_,h,_⟩; omega))
   have hA2':(65535:Int) < n:=by omega
   go_wp2
   refine bodyPost_ret (v:=.tuple #[.agg #[.int .u64 0,.slice none 0 0],.bool false]) ?_ rfl ⟨_,by rw [(uh HFn).1,(uh HFn).2.2]; rfl,by rw [(uh HFn).2.1]; exact NewP.nil _ _,uh HKQ⟩
   exact xa0b rfl _ _ w.heap.size _ #[.int .u64 0,.slice none 0 0] (0,0) _ rfl (uh HQ0) Tryz.underlying173 rfl Tryz.size_frame _ rfl
  have hA2':¬ (65535:Int) < n:=by omega
  by_cases hB:17 + n < p.length
  ·have hB':(17:Int) + n < p.length:=by omega
   have hB2:¬ (p.length:Int)≤17 + n:=by omega
   have cE:=(uh HKW).cell (uh HCL (17 + n) hB) (by simp)
   obtain ⟨pe,hpe⟩:∃ x,p.getD (17 + n) 0 = x:=⟨_,rfl⟩
   rw [hpe] at cE HF
   clear hpe
   by_cases hE:pe = 95
   ·subst hE
    have HPD:=hide (((uh H).drop17 n (by omega)).old (uh HKW) (by simp))
    go_wp2_with fail
    refine Calls.mono (xa9h pl _ ((p.drop 17).take n) w5 (uh HPD) lpl (by rw [List.length_take]; omega)) ?_
    rintro e w6 ⟨rfl,k6⟩
    have HZ6:=hide (k6.heap (uh HZ5) (by simp))
    have HKW6:=hide ((uh HKW).trans k6 (by simp))
    have HPD6:=hide ((uh HPD).old k6 (by simp))
    have HQ6:=hide (xa0s (uh HZ6) (.int .u64 0) (.slice none 0 0))
    have HKQ6:=hide (xa0i (uh HKW6) w.heap.size (Nat.le_refl _) (.int .u64 0) (.slice none 0 0))
    clear k6 d0 d1 f0 f1
    have d0:w6.cell? ⟨w.heap.size,0,none⟩ = some (.int .u64 0):=by rw [cell_of_row _ _ _ _ _ _ (uh HZ6)]; rfl
    have d1:w6.cell? ⟨w.heap.size,1,none⟩ = some (.slice none 0 0):=by rw [cell_of_row _ _ _ _ _ _ (uh HZ6)]; rfl
    have f0:w6.frozen? ⟨w.heap.size,0,none⟩ = false:=frozen_of_row _ _ _ _ _ (uh HZ6)
    have f1:w6.frozen? ⟨w.heap.size,1,none⟩ = false:=frozen_of_row _ _ _ _ _ (uh HZ6)
    obtain ⟨q,hq⟩:∃ q,(p.drop 17).take n = q:=⟨_,rfl⟩
    have hql:q.length = n:=by rw [← hq,List.length_take,List.length_drop]; omega
    rw [hq] at HPD6 HF ⊢
    clear hq
    obtain ⟨t,ht⟩:∃ t,sumF pl q = t:=⟨_,rfl⟩
    rw [ht] at HF ⊢
    clear ht
    by_cases hS:t = s
    ·subst hS
     have HFs:=hide (by rw [uh HF,if_pos (by simp; omega)]:firstF p = some (pl,q))
     have HV:=hide (by
      rw [← uh HX,← uh HY,← uh HZ]
      exact ⟨by simp [fstPl,uh HFs],by simp [fstPay,uh HFs],by rw [uh HFs]; rfl⟩:X = pl∧Y = q∧Z = true)
     go_wp2_with fail
     refine Calls.mono (xb6b _ q w6 (uh HPD6) (by omega)) ?_
     rintro e w7 ⟨v7,rfl,r7,b7,k7⟩
     obtain ⟨a7,n7,c7,hv7,_⟩:=id r7
     have HZ7:=hide (k7.heap (uh HZ6) (by simp))
     have HQ7:=hide (xa0s (uh HZ7) (.int .u64 pl) v7)
     have HK7:=hide ((uh HKW6).trans k7 (by simp))
     have hlt6:w.heap.size < w6.heap.size:=lt_of_block (uh HZ6)
     have HN7:=hide (⟨r7.kept (xa6d w7 w.heap.size (.int .u64 pl) v7) (by intro x hx; have:=b7 x hx; simp; omega),fun x hx=>by have:=b7 x hx; omega⟩:NewP w _ v7 q)
     have HKQ7:=hide (xa0i (uh HK7) w.heap.size (Nat.le_refl _) (.int .u64 pl) v7)
     clear k7 d0 d1 f0 f1 r7 b7
     subst hv7
     have d0:w7.cell? ⟨w.heap.size,0,none⟩ = some (.int .u64 0):=by rw [cell_of_row _ _ _ _ _ _ (uh HZ7)]; rfl
     have d1:w7.cell? ⟨w.heap.size,1,none⟩ = some (.slice none 0 0):=by rw [cell_of_row _ _ _ _ _ _ (uh HZ7)]; rfl
     have f0:w7.frozen? ⟨w.heap.size,0,none⟩ = false:=frozen_of_row _ _ _ _ _ (uh HZ7)
     have f1:w7.frozen? ⟨w.heap.size,1,none⟩ = false:=frozen_of_row _ _ _ _ _ (uh HZ7)
     go_wp2
     refine bodyPost_ret (v:=.tuple #[.agg #[.int .u64 pl,.slice a7 n7 c7],.bool true]) ?_ rfl ⟨.slice a7 n7 c7,by rw [(uh HV).1,(uh HV).2.2],by rw [(uh HV).2.1]; exact uh HN7,uh HKQ7⟩
     exact xa0b rfl _ _ w.heap.size _ #[.int .u64 pl,.slice a7 n7 c7] (0,0) _ rfl (uh HQ7) Tryz.underlying173 rfl Tryz.size_frame _ rfl
    ·have hS':((t:Int) != s) = true:=by rw [bne_iff_ne]; omega
     have HFn:=hide (uh HNO (by rw [uh HF,if_neg]; rintro ⟨_,_,_,_,_,h⟩; exact hS h))
     go_wp2
     refine bodyPost_ret (v:=.tuple #[.agg #[.int .u64 0,.slice none 0 0],.bool false]) ?_ rfl ⟨_,by rw [(uh HFn).1,(uh HFn).2.2]; rfl,by rw [(uh HFn).2.1]; exact NewP.nil _ _,uh HKQ6⟩
     exact xa0b rfl _ _ w.heap.size _ #[.int .u64 0,.slice none 0 0] (0,0) _ rfl (uh HQ6) Tryz.underlying173 rfl Tryz.size_frame _ rfl
   ·have hE':((pe:Int) != 95) = true:=by rw [bne_iff_ne]; omega
    have HFn:=hide (uh HNO (by rw [uh HF,if_neg]; rintro ⟨_,_,_,_,h,_⟩; exact hE h))
    go_wp2
    refine bodyPost_ret (v:=.tuple #[.agg #[.int .u64 0,.slice none 0 0],.bool false]) ?_ rfl ⟨_,by rw [(uh HFn).1,(uh HFn).2.2]; rfl,by rw [(uh HFn).2.1]; exact NewP.nil _ _,uh HKQ⟩
    exact xa0b rfl _ _ w.heap.size _ #[.int .u64 0,.slice none 0 0] (0,0) _ rfl (uh HQ0) Tryz.underlying173 rfl Tryz.size_frame _ rfl
  ·have hB':(p.length:Int)≤17 + n:=by omega
   have HFn:=hide (uh HNO (by rw [uh HF,if_neg]; rintro ⟨_,_,_,h,_⟩; exact hB h))
   go_wp2
   refine bodyPost_ret (v:=.tuple #[.agg #[.int .u64 0,.slice none 0 0],.bool false]) ?_ rfl ⟨_,by rw [(uh HFn).1,(uh HFn).2.2]; rfl,by rw [(uh HFn).2.1]; exact NewP.nil _ _,uh HKQ⟩
   exact xa0b rfl _ _ w.heap.size _ #[.int .u64 0,.slice none 0 0] (0,0) _ rfl (uh HQ0) Tryz.underlying173 rfl Tryz.size_frame _ rfl
 ·have hA0':((b0:Int) != 245) = true:=by rw [bne_iff_ne]; omega
  have HFn:=hide (uh HNO (by rw [uh HF,if_neg]; rintro ⟨h,_⟩; exact hA0 h))
  go_wp2
  refine bodyPost_ret (v:=.tuple #[.agg #[.int .u64 0,.slice none 0 0],.bool false]) ?_ rfl ⟨_,by rw [(uh HFn).1,(uh HFn).2.2]; rfl,by rw [(uh HFn).2.1]; exact NewP.nil _ _,uh HKQ⟩
  exact xa0b rfl _ _ w.heap.size _ #[.int .u64 0,.slice none 0 0] (0,0) _ rfl (uh HQ0) Tryz.underlying173 rfl Tryz.size_frame _ rfl
end

section
open Go Go.RowKit Go.BigFrame
section
variable {P:Program} {Q:Exit→Act→World→Prop}
end
theorem xa0f {o:Oper} {a:Act} {w:World} {K:Act→World→Prop} {Q:Exit→Act→World→Prop} {f:FuncId} {xs:Array Operand} {ts:Array TypeId} (ho:o.op = .call { callee:=.value (.func f),args:=xs,argTypes:=ts })
  (hcl:∀ args W,(callFunc f args).run Tryz.prog W = .ok (.enter f args) W) (us:List Value) (he:xs.toList.map a.eval = us) {R:Ending→World→Prop}
  (hc:Calls Tryz.prog f us.toArray w R) (h:∀ e w',R e w'→∃ v,e = .returned v∧K (a.put o.dst v) w'):o.wp Tryz.prog a w K Q:=by
 have he2:xs.map a.eval = us.toArray:=by rw [← he]; cases xs; simp only [List.map_toArray]
 unfold Oper.wp execOp
 simp only [ho]
 have hf:a.eval (.func f) = .func (.func f) #[] #[]:=rfl
 simp only [resolve,invoke,hf,he2,Sem.run_bind,Sem.run_pure,Result.andThen_ok,hcl]
 simp [Deferred.ofValue,hcl,go_sem]
 refine hc.mono ?_
 intro e w2 h2
 obtain ⟨v,rfl,h3⟩:=h e w2 h2
 exact h3
end
section
open Go.RowKit Go.BigFrame

theorem xa9k {H:Type} {P:Program} {k:TypeId} {R:Value→Option (DataW H × List MemPlace)} {w w':World} {b r n:Nat} {D:DataW H} {left:Lit→Bool} {cnt:Nat} (h:w.ranges P k R b r n D left cnt) (e1:w'.heap[b]? = w.heap[b]?) (e2:w'.heap[r]? = w.heap[r]?):w'.ranges P k R b r n D left cnt:=by
 obtain ⟨es,clock,since,seen,c0,hb,F,hs,hD,hr,rest⟩:=h
 exact ⟨es,clock,since,seen,c0,e1.trans hb,F,hs,hD,e2.trans hr,rest⟩
theorem xa5j {key:Value} {kl:Lit} (h:keyOf Tryz.prog 9 key = some kl):∃ s:ByteArray,key = .string s∧kl = .string s.data.toList:=by
 cases key <;> simp [keyOf,Tryz.underlying9,mapKey] at h
 obtain ⟨_,rfl⟩:=h
 exact ⟨_,rfl,rfl⟩
theorem xb3v {A:List DF} {s:List UInt8} (h:findA A s = none):∀ f∈A,f.nm.data.toList≠s:=by
 intro f hf e
 unfold findA at h
 rw [List.find?_eq_none] at h
 exact h f hf (by simp [e])
theorem xa8b {A:List DF} {s:ByteArray} (h:ownA A s = 0):isNm s = true∧findA A s.data.toList = none:=by
 unfold ownA at h
 split at h
 ·rename_i h1
  split at h
  ·cases h
  ·rename_i h2
   exact ⟨h1,by simpa using h2⟩
 ·cases h
theorem opE_le (ft:Int→Option Int) (cr op:Int) (own:Nat) (h:own < 100):opE ft cr op own < 100:=by
 unfold opE
 (repeat' split) <;> omega
theorem xa7u {A:List DF} {s:ByteArray} {F:DF→DF} {y:DF} (h:y∈upA A s F):∃ x∈A,y = x∨(x.nm = s∧y = F x):=by
 unfold upA at h
 obtain ⟨x,hx,rfl⟩:=List.mem_map.1 h
 refine ⟨x,hx,?_⟩
 split
 ·rename_i h1; exact .inr ⟨h1,rfl⟩
 ·exact .inl rfl
theorem xb7e {fs:List DFile} {g:Nat} {v:Value} {bs:List Nat} {sy:Nat} {d m:Nat} {u fv:Value} {x:Nat} (h:x∈dkB d m u fv (upF fs g v bs sy)):x∈dkB d m u fv fs∨x∈blk v:=by
 simp only [dkB,List.mem_cons,List.mem_append,List.mem_flatMap] at h ⊢
 rcases h with h | h | h | ⟨f,hf,h⟩
 ·exact .inl (.inl h)
 ·exact .inl (.inr (.inl h))
 ·exact .inl (.inr (.inr (.inl h)))
 ·obtain ⟨a,ha,rfl⟩:=List.mem_map.1 hf
  rw [xa6k] at h
  unfold upOne at h
  split at h
  ·rcases h with h | h
   ·exact .inl (.inr (.inr (.inr ⟨a,ha,.inl h⟩)))
   ·exact .inr h
  ·exact .inl (.inr (.inr (.inr ⟨a,ha,h⟩)))
theorem dkB_v {d m:Nat} {u fv:Value} {fs:List DFile} {a:DFile} (h:a∈fs) {x:Nat} (hx:x∈blk a.v):x∈dkB d m u fv fs:=by
 simp only [dkB,List.mem_cons,List.mem_append,List.mem_flatMap]
 exact .inr (.inr (.inr ⟨a,h,.inr hx⟩))
theorem nd_nm (A:List DF):(ndA A).map DF.nm = A.map DF.nm:=by unfold ndA; rw [List.map_map]; rfl
theorem xc1w {A:List DF} (h:Dist A):Dist (ndA A):=by rw [xa1w,nd_nm]; exact (xa1w A).1 h
theorem nd_abs (fs:List DFile):(fs.map fun f=>{ f with nd:=true }).map absF = ndA (fs.map absF):=by unfold ndA; rw [List.map_map,List.map_map]; rfl
theorem dkB_nd (d m:Nat) (u fv:Value) (fs:List DFile):∀ x∈dkB d m u fv (fs.map fun f=>{ f with nd:=true }),x∈dkB d m u fv fs:=by
 intro x hx
 simp only [dkB,List.mem_cons,List.mem_append,List.mem_flatMap] at hx ⊢
 rcases hx with h | h | h | ⟨f,hf,h⟩
 ·exact .inl h
 ·exact .inr (.inl h)
 ·exact .inr (.inr (.inl h))
 ·obtain ⟨a,ha,rfl⟩:=List.mem_map.1 hf
  exact .inr (.inr (.inr ⟨a,ha,h⟩))
theorem xb4j {w:World} {base g:Nat} {bs:List Nat} (h:w.heap[g]? = some (.cells (bs.map u8).toArray 5 (0,0))) (hl:bs.length≤140737488355328) (hb:base≤g):w.ownsRow base 5 1 (.slice (some ⟨g,0,none⟩) bs.length bs.length) bs.length (bs.map u8):=by
 refine ⟨by simp,.inr ⟨g,bs.length,_,rfl,hb,h,Nat.le_refl _,by unfold maxLen; omega,by simp,?_⟩⟩
 rw [Nat.mul_one,List.toList_toArray,List.take_of_length_le (by simp)]
structure NwB (w w':World) (v:Value) (bs:List Nat):Prop where
 own:w'.ownsRow w.heap.size 5 1 v bs.length (bs.map u8)
 byte:∀ x∈bs,x < 256
 len:bs.length≤140737488355328
theorem NwB.rd {w w':World} {v:Value} {bs:List Nat} (h:NwB w w' v bs):Rd w' v bs:=xa6h h.own h.byte h.len
theorem read_D (d nb bb:Nat) (B:List Nat) (σ:DSt) (s:ByteArray) (w:World) (h:DK w d B nb bb σ) (hs:s.size≤140737488355328) (hb:bb≤140737488350000) :
  Calls Tryz.prog 14 #[.pointer (some ⟨d,0,none⟩),.string s] w fun e w'=>∃ v,e = .returned (.tuple #[v,.int .i64 ((stRead σ s).2:Nat)])∧NwB w w' v (stRead σ s).1∧Kept [] w w':=by
 obtain ⟨sec,cr,op,off,ft,A⟩:=σ
 obtain ⟨⟨m,u,fv,fs,h1,rfl,hA⟩,h2,h3,h4,h5,h6,h7⟩:=h
 dsimp only at *
 subst hA
 cases off
 ·cases hf:findA (fs.map absF) s.data.toList with
  | none =>
   refine Calls.mono (xb4z d sec m nb s w u fv cr op ft fs h1 hs (xb3e hf)) ?_
   rintro e w' ⟨rfl,rfl⟩
   exact ⟨_,by simp only [stRead,hf]; rfl,by simp only [stRead,hf]; exact ⟨World.ownsRow_nil _ _ _ _,by simp,by simp⟩,Kept.refl _ _⟩
  | some x =>
   obtain ⟨f,hfm,hl,rfl,hnm⟩:=xa4q hf
   have hfl:f.bs.length≤bb:=h5 (absF f) (List.mem_map.2 ⟨f,hfm,rfl⟩)
   refine Calls.mono (xb6o d sec m nb s w u fv cr op ft fs h1 hs f hfm hl (by omega)) ?_
   rintro e w' ⟨rfl,hk,hh⟩
   exact ⟨_,by simp only [stRead,hf]; rfl,by simp only [stRead,hf]; exact ⟨xb4j hh (by omega) (Nat.le_refl _),(h1.files f hfm).2.2.1,by show f.bs.length≤_; omega⟩,hk⟩
 ·refine Calls.mono (xb8f d sec m nb s w u fv cr op ft fs h1) ?_
  rintro e w' ⟨rfl,rfl⟩
  exact ⟨_,rfl,⟨World.ownsRow_nil _ _ _ _,by simp [stRead],by simp [stRead]⟩,Kept.refl _ _⟩

set_option maxHeartbeats 1000000 in
theorem xa9u (w:World):Calls Tryz.prog 176 #[.slice none 0 0,.int .i64 0,.int .i64 0] w fun e w'=>e = .returned (.tuple #[])∧w' = w:=by
 go_enter Tryz.func176,Tryz.ntmps176
 go_wp2_with fail
 go_loopw [6] (fun t wr=>t = .int .i64 1∧wr = w) (fun _ _=>0)
 case atStart=>exact ⟨rfl,rfl⟩
 case round =>
  obtain ⟨rfl,rfl⟩:=hrel
  go_wp2_with fail
  exact bodyPost_end (v:=.tuple #[]) (results_none rfl _ _ _) rfl ⟨rfl,rfl⟩
set_option maxHeartbeats 1000000 in
theorem xc0w (k:Int) (w:World):Calls Tryz.prog 129 #[.slice none 0 0,.int .i64 0,.int .i64 0,.int .i64 k] w fun e w'=>e = .returned (.tuple #[])∧w' = w:=by
 go_enter Tryz.func129,Tryz.ntmps129
 go_wp2_with fail
 go_loopw [1,2] (fun t1 t2 wr=>t1 = .int .i64 0∧t2 = .int .i64 0∧wr = w) (fun _ _ _=>0)
 case atStart=>exact ⟨rfl,rfl,rfl⟩
 case round =>
  obtain ⟨rfl,rfl,rfl⟩:=hrel
  go_wp2_with fail
  refine Calls.mono (xa9u _) ?_
  rintro e w1 ⟨rfl,rfl⟩
  go_wp2_with fail
  exact bodyPost_ret (v:=.tuple #[]) (results_none rfl _ _ _) rfl ⟨rfl,rfl⟩
set_option maxHeartbeats 1000000 in
theorem xb9v (w:World):Calls Tryz.prog 82 #[.slice none 0 0] w fun e w'=>e = .returned (.tuple #[])∧w' = w:=by
 go_enter Tryz.func82,Tryz.ntmps82
 go_wp2_with fail
 refine Calls.mono (Tryz.bits_Len 0 w (by omega) (by omega)) ?_
 rintro e w1 ⟨rfl,rfl⟩
 go_wp2_with fail
 refine Calls.mono (xc0w _ _) ?_
 rintro e w1 ⟨rfl,rfl⟩
 go_wp2_with fail
 exact bodyPost_end (v:=.tuple #[]) (results_none rfl _ _ _) rfl ⟨rfl,rfl⟩
end
section
open Go.RowKit Go.BigFrame Go.Maps Go.Sort
def srtN (A:List DF):List (List UInt8):=(A.map fun f=>f.nm.data.toList).mergeSort fun x y=>decide (x≤y)
theorem xa9o {A:List DF} (h:Dist A):(A.map fun f=>f.nm.data.toList).Nodup:=by
 unfold List.Nodup
 rw [List.pairwise_map]
 exact List.Pairwise.imp (fun hab e=>hab (ba_ext e)) h
theorem xb6u (fs:List DFile) (x:List UInt8):(look fs x).isSome = true↔x∈(fs.map absF).map fun f=>f.nm.data.toList:=by
 rw [xa2m]
 unfold findA
 rw [List.find?_isSome,List.mem_map]
 constructor
 ·rintro ⟨a,ha,h⟩
  exact ⟨a,ha,by simpa using h⟩
 ·rintro ⟨a,ha,h⟩
  exact ⟨a,ha,by simpa using h⟩
theorem xb6s {fs:List DFile} {D:DataW Unit} {left:Lit→Bool} {ss:List (List UInt8)} (hD:MapIs D (look fs)) (hd:Dist (fs.map absF)) (hC:Collected D left ss) (hl:∀ kl,left kl = false):ss.mergeSort (fun x y=>decide (x≤y)) = srtN (fs.map absF):=by
 have hp:ss.Perm ((fs.map absF).map fun f=>f.nm.data.toList):=by
  rw [List.perm_ext_iff_of_nodup hC.1 (xa9o hd)]
  intro x
  rw [hC.2 x,hl,(hD x).1,xb6u]
  simp
 exact mergeSort_of_perm hp
set_option maxHeartbeats 2000000 in
theorem xb0p (d sec m N:Nat) (w:World) (u fv:Value) (cr op:Int) (off:Bool) (ft:Int→Option Int) (fs:List DFile) (h:DkAt w d sec m N u fv cr op off ft fs) (hd:Dist (fs.map absF)) (hN:N≤1000000000) :
  Calls Tryz.prog 44 #[.pointer (some ⟨d,0,none⟩)] w fun e w'=>∃ v,e = .returned v∧w'.ownsRow w.heap.size 9 1 v (srtN (fs.map absF)).length ((srtN (fs.map absF)).map encStr)∧Kept [] w w':=by
 obtain ⟨n,D,hown,hn,hD⟩:=h.map
 have HO:=hide hown
 have HD:=hide hD
 have HDI:=hide hd
 have hrow:=h.row
 unfold DRow at hrow
 have c1:=cell_of_row _ _ 1 _ _ _ hrow
 simp at c1
 have HSZ:=hide (Nat.le_trans hown.size_le hn)
 clear hown hD hrow hd h
 obtain ⟨i0,hi,hz0,hz1,hz2⟩:=info_parts (show (Tryz.prog.info? 9).map (fun i=>(i.zero,i.size,i.bytes)) = some (some (.string ⟨#[]⟩),1,16) by kernel_rfl)
 have HI:=hide hi
 have HZ0:=hide hz0
 have HZ1:=hide hz1
 have HZ2:=hide hz2
 clear hi hz0 hz1 hz2
 go_enter Tryz.func44,Tryz.ntmps44
 go_wp2_with (at_range; refine wpList_range_own _ rfl _ 106 rfl 9 114 keyS Tryz.underlying106 ptrElem m n D rfl (uh HO) ?_; intro w0 hrg0 hg0 hs0)
 go_frame
 go_loopw [3] (fun v wr=>∃ (left:Lit→Bool) (cnt:Nat) (ss:List (List UInt8)),Hid (wr.ranges Tryz.prog 9 ptrElem m w.heap.size n D left cnt)∧ss.length + cnt≤Maps.size D∧Hid (wr.ownsRow w.heap.size 9 1 v ss.length (ss.map encStr))∧Hid (Collected D left ss)∧Hid (Kept [] w wr)) (fun _ wr=>wr.rangeLeft m w.heap.size)
 case atStart=>exact ⟨_,_,[],hide hrg0,by simp,hide (World.ownsRow_nil _ _ _ _),hide (Collected.start D),hide ((Kept.refl [] w).grown hg0 (by intro k hk; cases hk))⟩
 case round =>
  clear hrg0 hg0 hs0
  obtain ⟨left,cnt,ss,HRG,hcs,HOW,HC,HK⟩:=hrel
  go_wp2_with (at_next; refine wpList_next_ranges _ rfl _ rfl 9 keyS ptrElem encStr ptrO (fun key kl hk=>by obtain ⟨x,rfl,_⟩:=xa5j hk; exact ⟨x.data.toList,rfl⟩) (fun v y hv=>by rcases xa2o hv with ⟨rfl,_⟩ | ⟨g,rfl,_⟩; exact ⟨none,rfl⟩; exact ⟨some g,rfl⟩) m w.heap.size n D left cnt rfl (uh HRG) ?_ ?_)
  ·intro hc0 hl0
   have HSE:=hide (xb6s (uh HD) (uh HDI) (uh HC) hl0)
   rcases (uh HOW).2 with ⟨rfl,hln⟩ | ⟨g,cap,cur,rfl,hbase,hb,h1,h2,h3,h4⟩
   ·have hss:ss = []:=List.eq_nil_of_length_eq_zero hln
    subst hss
    clear hl0 hc0 c1
    go_wp2_with fail
    refine Calls.mono (xb9v _) ?_
    rintro e w1 ⟨rfl,rfl⟩
    go_wp2_with fail
    go_ret
    rw [← uh HSE,show ([]:List (List UInt8)).mergeSort (fun x y=>decide (x≤y)) = [] by simp]
    exact ⟨_,rfl,World.ownsRow_nil _ _ _ _,uh HK⟩
   ·have hH:Holds encStr wr g 0 ss.toArray:=holds_of_block hb (by simpa using h4)
    have hgl:g < wr.heap.size:=(Array.getElem?_eq_some_iff.1 hb).1
    have hsort:=Tryz.slices_Sort_string g 0 cap ss wr hH hgl (by have:=uh HSZ; omega)
    have HB:=hide hb
    have HS:=hide hsort
    clear hl0 hc0 c1 hb hH hsort h4
    go_wp2_with fail
    refine Calls.mono (uh HS) ?_
    rintro e w' ⟨rfl,nn,os,rfl⟩
    go_wp2_with fail
    go_ret
    rw [← uh HSE]
    refine ⟨_,rfl,?_,(uh HK).grown (grownBy_sorted _) (by intro k hk; injection hk with hk; subst hk; exact .inr hbase)⟩
    rw [List.length_mergeSort]
    exact ownsRow_sorted (by simp) hbase (uh HB) h1 h2 h3
  ·intro x c kl yd yp w2 cnt2 hkey hlk hv hat hrg2 hlt hg2 hs2 hen
   obtain ⟨x',ex,rfl⟩:=xa5j hkey
   obtain rfl:x = x'.data.toList:=by
    have:encStr x = Value.string ⟨⟨x⟩⟩:=rfl
    rw [this] at ex
    injection ex with ex
    rw [← ex]
   have hrow2:=(uh HOW).kept hg2 (Or.inr (row_ne_iter (uh HOW) (uh HRG)).symm)
   have HRG2:=hide hrg2
   have HR2:=hide hrow2
   have HK2:=hide ((uh HK).grown hg2 (by intro k hk; injection hk with hk; subst hk; exact .inr (Nat.le_refl _)))
   have HCS:=hide ((uh HC).step hlk hat)
   have HLT:=hide hlt
   clear hrow2 hrg2 hg2 hs2 hlk hat hkey hv hlt ex
   go_wp2_with (at_builtin; refine wpList_append_own_at _ rfl _ _ 47 rfl w.heap.size 9 i0 (.string ⟨#[]⟩) 1 16 Tryz.underlying47 (uh HI) (uh HZ0) (uh HZ1) (uh HZ2) rfl (by decide) _ _ _ rfl ((uh HR2).alloc _) ⟨w2.heap.size,0,none⟩ 1 1 [encStr x'.data.toList] rfl rfl (cell_one_new _ _ _) (by simp [Value.oneCell',encStr]) (by have:=uh HSZ; unfold maxLen; omega) (by have:=uh HSZ; omega) (by have:=(uh HK2).size; simp; omega) ?_; intro v' w3 hown' hg3 hnil3 hat3; have HOW3:=hide hown'; have HG3:=hide hg3; clear hown' hg3 hnil3 hat3)
   have hrg3:=xa9k ((uh HRG2).alloc _) ((uh HG3).block m (by have:=(uh HRG2).owns.lt; simp; omega) (row_ne_low (uh HR2) (uh HO).lt)) ((uh HG3).block w.heap.size (by have:=(uh HRG2).lt; simp; omega) (row_ne_iter (uh HR2) (uh HRG2)))
   have hk3:=((uh HK2).alloc (.cells #[encStr x'.data.toList] 9 (0,0))).grown (uh HG3) (by intro k hk; exact .inr ((uh HR2).lt k hk).1)
   refine ⟨⟨_,cnt2,ss++[x'.data.toList],hide hrg3,by have:=uh HLT; simp; omega,hide (by simpa using uh HOW3),HCS,hide hk3⟩,?_⟩
   rw [hrg3.left_eq,(uh HRG).left_eq]
   exact uh HLT
def nmsOf (σ:DSt):List (List UInt8):=if σ.off then [] else srtN σ.A
set_option maxHeartbeats 1000000 in
theorem xb6e (d nb bb:Nat) (B:List Nat) (σ:DSt) (w:World) (h:DK w d B nb bb σ) (hn:nb≤1000000000) :
  Calls Tryz.prog 13 #[.pointer (some ⟨d,0,none⟩)] w fun e w'=>∃ v,e = .returned v∧w'.ownsRow w.heap.size 9 1 v (nmsOf σ).length ((nmsOf σ).map encStr)∧Kept [] w w':=by
 obtain ⟨sec,cr,op,off,ft,A⟩:=σ
 obtain ⟨⟨m,u,fv,fs,h1,rfl,hA⟩,h2,h3,h4,h5,h6,h7⟩:=h
 dsimp only at *
 subst hA
 have HD:=hide h1
 have HDI:=hide h2
 clear h1 h2 h4 h5 h7
 cases off
 ·show Calls Tryz.prog 13 #[.pointer (some ⟨d,0,none⟩)] w fun e w'=>∃ v,e = .returned v∧w'.ownsRow w.heap.size 9 1 v (srtN (fs.map absF)).length ((srtN (fs.map absF)).map encStr)∧Kept [] w w'
  have HSO:=hide (xb0p d sec m nb w u fv cr op false ft fs (uh HD) (uh HDI) hn)
  generalize srtN (fs.map absF) = SS at HSO ⊢
  go_enter Tryz.func13,Tryz.ntmps13
  go_wp2_with fail
  refine Calls.mono (xa0g d w sec m u fv cr op false (uh HD).row) ?_
  rintro e w1 ⟨rfl,rfl⟩
  simp only [Bool.false_eq_true,if_false]
  go_wp2_with fail
  refine Calls.mono (uh HSO) ?_
  rintro e w2 ⟨v,rfl,ho,hk⟩
  have H1:=hide ho
  have H2:=hide hk
  clear ho hk
  go_wp2_with fail
  go_ret
  exact ⟨v,rfl,uh H1,uh H2⟩
 ·show Calls Tryz.prog 13 #[.pointer (some ⟨d,0,none⟩)] w fun e w'=>∃ v,e = .returned v∧w'.ownsRow w.heap.size 9 1 v 0 []∧Kept [] w w'
  go_enter Tryz.func13,Tryz.ntmps13
  go_wp2_with fail
  refine Calls.mono (xa0g d w sec m u fv cr op true (uh HD).row) ?_
  rintro e w1 ⟨rfl,rfl⟩
  simp only [if_true]
  go_wp2_with fail
  go_ret
  exact ⟨_,rfl,World.ownsRow_nil _ _ _ _,Kept.refl _ _⟩
theorem new_D (sec:Nat) (w:World) (h1:1≤sec) (h2:sec≤4096) :
  Calls Tryz.prog 35 #[.int .i64 sec,.slice none 0 0] w fun e w'=>∃ d B,e = .returned (.tuple #[.pointer (some ⟨d,0,none⟩),.int .i64 0])∧DK w' d B 0 0 ⟨sec,0,0,false,fun _=>none,[]⟩∧Kept [] w w'∧∀ x∈B,w.heap.size≤x:=by
 refine Calls.mono (xc1b sec w h1 h2) ?_
 rintro e w' ⟨d,m,rfl,hd,hm,hD,hK⟩
 refine ⟨d,_,rfl,⟨⟨m,_,_,[],hD,rfl,rfl⟩,List.Pairwise.nil,⟨by simp,by simp⟩,by simp,by simp,⟨h1,h2⟩,by simp⟩,hK,?_⟩
 intro x hx
 simp [dkB,blk,mblk] at hx
 rcases hx with rfl | rfl
 ·exact hd
 ·exact hm
set_option maxHeartbeats 1000000 in
theorem newM_D (sec:Nat) (w:World) (h1:1≤sec) (h2:sec≤4096) :
  Calls Tryz.prog 8 #[.int .i64 sec] w fun e w'=>∃ d B,e = .returned (.tuple #[.pointer (some ⟨d,0,none⟩),.int .i64 0])∧DK w' d B 0 0 ⟨sec,0,0,false,fun _=>none,[]⟩∧Kept [] w w'∧∀ x∈B,w.heap.size≤x:=by
 have HN:=hide (new_D sec w h1 h2)
 go_enter Tryz.func8,Tryz.ntmps8
 go_wp2_with fail
 refine Calls.mono (uh HN) ?_
 rintro e w' ⟨d,B,rfl,hd,hk,hb⟩
 have H1:=hide hd
 have H2:=hide hk
 have H3:=hide hb
 clear hd hk hb
 go_wp2_with fail
 go_ret2
 exact ⟨d,B,rfl,uh H1,uh H2,uh H3⟩
end
section
open Go.RowKit Go.BigFrame
structure DKf (w:World) (d:Nat) (B:List Nat) (nb ob bb:Nat) (σ:DSt):Prop where
 ex:∃ m u fv fs,DkAt w d σ.sec m nb u fv σ.cr σ.op σ.off σ.ft fs∧B = dkB d m u fv fs∧σ.A = fs.map absF
 dist:Dist σ.A
 opb:0≤σ.op∧σ.op≤ob
 len:σ.A.length≤nb
 byt:∀ f∈σ.A,f.bs.length≤bb
 secb:1≤σ.sec∧σ.sec≤4096
 nms:∀ f∈σ.A,isNm f.nm = true
theorem DKf.toDK {w:World} {d nb ob bb:Nat} {B:List Nat} {σ:DSt} (h:DKf w d B nb ob bb σ):DK w d B (max nb ob) bb σ:=by
 obtain ⟨m,u,fv,fs,h1,h2,h3⟩:=h.ex
 exact ⟨⟨m,u,fv,fs,h1.more (by omega),h2,h3⟩,h.dist,⟨h.opb.1,by have:=h.opb.2; omega⟩,Nat.le_trans h.len (by omega),h.byt,h.secb,h.nms⟩
theorem DK.toF {w:World} {d nb bb:Nat} {B:List Nat} {σ:DSt} (h:DK w d B nb bb σ) {ob:Nat} (ho:σ.op≤ob):DKf w d B nb ob bb σ:=by
 obtain ⟨m,u,fv,fs,h1,h2,h3⟩:=h.ex
 exact ⟨⟨m,u,fv,fs,h1,h2,h3⟩,h.dist,⟨h.opb.1,ho⟩,h.len,h.byt,h.secb,h.nms⟩
theorem DKf.lt {w:World} {d nb ob bb:Nat} {B:List Nat} {σ:DSt} (h:DKf w d B nb ob bb σ):∀ x∈B,x < w.heap.size:=h.toDK.lt
theorem DKf.kept {L:List Nat} {w w':World} {d nb ob bb:Nat} {B:List Nat} {σ:DSt} (h:DKf w d B nb ob bb σ) (k:Kept L w w') (hn:∀ x∈B,x∉L):DKf w' d B nb ob bb σ:=by
 obtain ⟨m,u,fv,fs,h1,rfl,h3⟩:=h.ex
 exact ⟨⟨m,u,fv,fs,h1.kept k hn,rfl,h3⟩,h.dist,h.opb,h.len,h.byt,h.secb,h.nms⟩
theorem DKf.old {w w':World} {d nb ob bb:Nat} {B:List Nat} {σ:DSt} (h:DKf w d B nb ob bb σ) (k:Kept [] w w'):DKf w' d B nb ob bb σ:=h.kept k (by simp)
theorem DKf.more {w:World} {d nb ob bb:Nat} {B:List Nat} {σ:DSt} (h:DKf w d B nb ob bb σ) {nb' ob' bb':Nat} (h1:nb≤nb') (h0:ob≤ob') (h2:bb≤bb'):DKf w d B nb' ob' bb' σ:=by
 obtain ⟨m,u,fv,fs,h3,rfl,h4⟩:=h.ex
 exact ⟨⟨m,u,fv,fs,h3.more h1,rfl,h4⟩,h.dist,⟨h.opb.1,by have:=h.opb.2; omega⟩,Nat.le_trans h.len h1,fun f hf=>Nat.le_trans (h.byt f hf) h2,h.secb,h.nms⟩
theorem xb8w (d nb ob bb:Nat) (B:List Nat) (σ:DSt) (s:ByteArray) (w:World) (h:DKf w d B nb ob bb σ) (hs:s.size≤140737488355328) (hn:nb≤1000000000) (hob:ob≤1000000000) :
  Calls Tryz.prog 93 #[.pointer (some ⟨d,0,none⟩),.string s] w fun e w'=>∃ B',e = .returned (.int .i64 ((stCreate σ s).1:Nat))∧DKf w' d B' (nb + 1) (ob + 1) bb (stCreate σ s).2∧Ev w w' B B':=by
 have h0:=h
 obtain ⟨sec,cr,op,off,ft,A⟩:=σ
 obtain ⟨⟨m,u,fv,fs,h1,rfl,hA⟩,h2,h3,h4,h5,h6,h7⟩:=h
 dsimp only at *
 subst hA
 cases off
 ·have e1:stCreate ⟨sec,cr,op,false,ft,fs.map absF⟩ s = (opE ft cr op (own1 fs s),tick ⟨sec,cr,op,false,ft,fs.map absF⟩ (if own1 fs s = 0∧opE ft cr op (own1 fs s)≠7 then fs.map absF++[⟨s,[],0,false⟩] else fs.map absF)):=by
   rw [xb1a]; rfl
  rw [e1]
  refine Calls.mono (xb2o d sec m nb s w u fv cr op ft fs h1 hs ⟨h3.1,by omega⟩ hn (by rw [List.length_map] at h4; omega)) ?_
  rintro e w' ⟨E,G,u',rfl,hE,hD,hK,hN⟩
  subst hE
  refine ⟨_,rfl,⟨⟨m,u',fv,_,hD,rfl,?_⟩,?_,⟨by simp only [tick]; omega,by simp only [tick]; omega⟩,?_,?_,h6,?_⟩,hK,hN⟩
  ·simp only [tick,crF]
   split <;> simp [absF]
  all_goals simp only [tick]
  all_goals split
  ·rename_i hc
   rw [xb1a] at hc
   obtain ⟨hc1,hc2⟩:=xa8b hc.1
   unfold Dist
   rw [List.pairwise_append]
   refine ⟨h2,List.pairwise_singleton _ _,?_⟩
   intro a ha b hb
   simp only [List.mem_singleton] at hb
   subst hb
   intro e
   exact xb3v hc2 a ha (by rw [e])
  ·exact h2
  ·rw [List.length_append,List.length_singleton]; omega
  ·omega
  ·intro f hf
   rw [List.mem_append,List.mem_singleton] at hf
   rcases hf with hf | rfl
   ·exact h5 f hf
   ·simp
  ·exact h5
  ·rename_i hc
   rw [xb1a] at hc
   obtain ⟨hc1,hc2⟩:=xa8b hc.1
   intro f hf
   rw [List.mem_append,List.mem_singleton] at hf
   rcases hf with hf | rfl
   ·exact h7 f hf
   ·exact hc1
  ·exact h7
 ·refine Calls.mono (xb3z d sec m nb s w u fv cr op ft fs h1) ?_
  rintro e w' ⟨rfl,rfl⟩
  exact ⟨_,rfl,h0.more (Nat.le_succ nb) (Nat.le_succ ob) (Nat.le_refl _),Ev.refl _ _⟩
theorem xa7f (d nb ob bb:Nat) (B:List Nat) (σ:DSt) (s:ByteArray) (pv:Value) (ps:List Nat) (w:World) (h:DKf w d B nb ob bb σ) (hs:s.size≤140737488355328) (hn:nb≤1000000000) (hob:ob≤1000000000) (hp:Rd w pv ps) (hpd:∀ x∈zblk pv ps,x∉B) (hb:bb + ps.length≤140737488350000) :
  Calls Tryz.prog 25 #[.pointer (some ⟨d,0,none⟩),.string s,pv] w fun e w'=>∃ B',e = .returned (.int .i64 ((stAppend σ s ps).1:Nat))∧DKf w' d B' nb (ob + 1) (bb + ps.length) (stAppend σ s ps).2∧Ev w w' B B':=by
 have h0:=h
 obtain ⟨sec,cr,op,off,ft,A⟩:=σ
 obtain ⟨⟨m,u,fv,fs,h1,rfl,hA⟩,h2,h3,h4,h5,h6,h7⟩:=h
 dsimp only at *
 subst hA
 have hd:d∉zblk pv ps:=fun hx=>hpd d hx (by simp [dkB])
 cases off
 ·cases hf:findA (fs.map absF) s.data.toList with
  | none =>
   have e1:stAppend ⟨sec,cr,op,false,ft,fs.map absF⟩ s ps = (opE ft cr op 5,tick ⟨sec,cr,op,false,ft,fs.map absF⟩ (fs.map absF)):=by
    simp only [stAppend,hf]; rfl
   rw [e1]
   refine Calls.mono (xa9q d sec m nb s pv w u fv cr op ft fs h1 hs ⟨h3.1,by omega⟩ (xb3e hf)) ?_
   rintro e w' ⟨rfl,hD,hK⟩
   exact ⟨_,rfl,⟨⟨m,u,fv,fs,hD,rfl,rfl⟩,h2,⟨by simp only [tick]; omega,by simp only [tick]; omega⟩,h4,fun f hf=>Nat.le_trans (h5 f hf) (Nat.le_add_right _ _),h6,h7⟩,hK.mono (by intro x hx; simp at hx; simp [dkB,hx]),fun x hx=>.inl hx⟩
  | some x =>
   obtain ⟨f,hfm,hl,rfl,hnm⟩:=xa4q hf
   have hnm2:=ba_ext hnm
   subst hnm2
   have hfl:=h5 (absF f) (List.mem_map.2 ⟨f,hfm,rfl⟩)
   have hfin:∀ (v':Value) (w':World) (qs:List Nat),qs.length≤ps.length→qs = ps.take (appK ⟨sec,cr,op,false,ft,fs.map absF⟩ ps)→DkAt w' d sec m nb u fv cr (op + 1) (decide (op + 1 = cr)) ft (upF fs f.g v' (f.bs++qs) f.sy)→Kept (d :: f.g :: blk f.v) w w'→(∀ x∈blk v',x∈blk f.v∨w.heap.size≤x) →
     ∃ B',DKf w' d B' nb (ob + 1) (bb + ps.length) (tick ⟨sec,cr,op,false,ft,fs.map absF⟩ (upA (fs.map absF) f.nm fun f=>{ f with bs:=f.bs++ps.take (appK ⟨sec,cr,op,false,ft,fs.map absF⟩ ps) }))∧Ev w w' (dkB d m u fv fs) B':=by
    intro v' w' qs hq hqe hD hK hV
    refine ⟨_,⟨⟨m,u,fv,_,hD,rfl,?_⟩,xb6z (by intro x; rfl) h2,⟨by simp only [tick]; omega,by simp only [tick]; omega⟩,?_,?_,h6,?_⟩,hK.mono ?_,?_⟩
    ·simp only [tick]
     rw [up_abs h1.apart h2 hfm]
     exact (xb4l h2 (x:=absF f) (List.mem_map.2 ⟨f,hfm,rfl⟩) (by simp [absF,hqe])).symm
    ·simp only [tick,upA,List.length_map]
     rw [List.length_map] at h4
     omega
    ·intro y hy
     obtain ⟨x,hx,h9 | ⟨_,h9⟩⟩:=xa7u hy
     ·subst h9
      exact Nat.le_trans (h5 y hx) (Nat.le_add_right _ _)
     ·subst h9
      have:=h5 x hx
      simp only [List.length_append,List.length_take]
      omega
    ·intro y hy
     obtain ⟨x,hx,h9 | ⟨_,h9⟩⟩:=xa7u hy
     ·subst h9
      exact h7 y hx
     ·subst h9
      exact h7 x hx
    ·intro x hx
     simp only [List.mem_cons] at hx
     rcases hx with rfl | rfl | hx
     ·simp [dkB]
     ·exact dkB_g hfm
     ·exact dkB_v hfm hx
    ·intro x hx
     rcases xb7e hx with h9 | h9
     ·exact .inl h9
     ·exact (hV x h9).imp (dkB_v hfm) id
   have e1:stAppend ⟨sec,cr,op,false,ft,fs.map absF⟩ f.nm ps = (opE ft cr op 0,tick ⟨sec,cr,op,false,ft,fs.map absF⟩ (upA (fs.map absF) f.nm fun f=>{ f with bs:=f.bs++ps.take (appK ⟨sec,cr,op,false,ft,fs.map absF⟩ ps) })):=by
    simp only [stAppend,hf]; rfl
   rw [e1]
   have hfl2:f.bs.length≤bb:=hfl
   by_cases h7e:opE ft cr op 0 = 7
   ·obtain ⟨h8,c,h9⟩:op + 1≠cr∧∃ c,ft (op + 1) = some c:=by
     have h10:=h7e
     unfold opE at h10
     split at h10
     ·omega
     ·rename_i h11
      refine ⟨h11,?_⟩
      rw [if_neg (by simp)] at h10
      split at h10
      ·rename_i h12
       exact Option.isSome_iff_exists.1 h12
      ·omega
    refine Calls.mono (xb6l d sec m nb f.nm pv ps w u fv cr op ft fs h1 hs ⟨h3.1,by omega⟩ f hfm hl hp hd (by omega) h8 c h9) ?_
    rintro e w' ⟨v',rfl,hD,hK,hV⟩
    obtain ⟨B',hB1,hB2⟩:=hfin v' w' (ps.take (wtn c ps.length).toNat) (by rw [List.length_take]; omega) (by unfold appK; rw [if_pos h7e]; show _ = List.take (wtn ((ft (op + 1)).getD 0) _).toNat ps; rw [h9]; rfl) (by rw [decide_eq_false h8]; exact hD) hK hV
    exact ⟨B',by rw [h7e]; rfl,hB1,hB2⟩
   ·refine Calls.mono (xb0e d sec m nb f.nm pv ps w u fv cr op ft fs h1 hs ⟨h3.1,by omega⟩ f hfm hl hp hd (by omega) h7e) ?_
    rintro e w' ⟨v',rfl,hD,hK,hV⟩
    obtain ⟨B',hB1,hB2⟩:=hfin v' w' ps (Nat.le_refl _) (by unfold appK; rw [if_neg h7e,List.take_length]) hD hK hV
    exact ⟨B',rfl,hB1,hB2⟩
 ·refine Calls.mono (xb3b d sec m nb s pv w u fv cr op ft fs h1) ?_
  rintro e w' ⟨rfl,rfl⟩
  exact ⟨_,rfl,h0.more (Nat.le_refl nb) (Nat.le_succ ob) (Nat.le_add_right _ _),Ev.refl _ _⟩
theorem sync_F (d nb ob bb:Nat) (B:List Nat) (σ:DSt) (s:ByteArray) (w:World) (h:DKf w d B nb ob bb σ) (hs:s.size≤140737488355328) (hn:nb≤1000000000) (hob:ob≤1000000000) :
  Calls Tryz.prog 91 #[.pointer (some ⟨d,0,none⟩),.string s] w fun e w'=>∃ B',e = .returned (.int .i64 ((stSync σ s).1:Nat))∧DKf w' d B' nb (ob + 1) bb (stSync σ s).2∧Ev w w' B B':=by
 have h0:=h
 obtain ⟨sec,cr,op,off,ft,A⟩:=σ
 obtain ⟨⟨m,u,fv,fs,h1,rfl,hA⟩,h2,h3,h4,h5,h6,h7⟩:=h
 dsimp only at *
 subst hA
 cases off
 ·cases hf:findA (fs.map absF) s.data.toList with
  | none =>
   have e1:stSync ⟨sec,cr,op,false,ft,fs.map absF⟩ s = (opE ft cr op 5,tick ⟨sec,cr,op,false,ft,fs.map absF⟩ (fs.map absF)):=by
    simp only [stSync,hf]; rfl
   rw [e1]
   refine Calls.mono (xb5i d sec m nb s w u fv cr op ft fs h1 hs ⟨h3.1,by omega⟩ (xb3e hf)) ?_
   rintro e w' ⟨rfl,hD,hK⟩
   exact ⟨_,rfl,⟨⟨m,u,fv,fs,hD,rfl,rfl⟩,h2,⟨by simp only [tick]; omega,by simp only [tick]; omega⟩,h4,h5,h6,h7⟩,hK.mono (by intro x hx; simp at hx; simp [dkB,hx]),fun x hx=>.inl hx⟩
  | some x =>
   obtain ⟨f,hfm,hl,rfl,hnm⟩:=xa4q hf
   have hnm2:=ba_ext hnm
   subst hnm2
   have e1:stSync ⟨sec,cr,op,false,ft,fs.map absF⟩ f.nm = (opE ft cr op 0,tick ⟨sec,cr,op,false,ft,fs.map absF⟩ (if opE ft cr op 0 = 0 then upA (fs.map absF) f.nm fun f=>{ f with sy:=f.bs.length } else fs.map absF)):=by
    simp only [stSync,hf]; rfl
   rw [e1]
   refine Calls.mono (xb6c d sec m nb f.nm w u fv cr op ft fs h1 hs ⟨h3.1,by omega⟩ f hfm hl) ?_
   rintro e w' ⟨E,rfl,rfl,hD,hK⟩
   have kk:Kept (dkB d m u fv fs) w w':=hK.mono (by
    intro x hx
    simp only [List.mem_cons,List.not_mem_nil,or_false] at hx
    rcases hx with rfl | rfl
    ·simp [dkB]
    ·exact dkB_g hfm)
   by_cases hE:opE ft cr op 0 = 0
   ·rw [if_pos hE] at hD
    rw [if_pos hE]
    refine ⟨_,rfl,⟨⟨m,u,fv,_,hD,rfl,?_⟩,xb6z (by intro x; rfl) h2,⟨by simp only [tick]; omega,by simp only [tick]; omega⟩,?_,?_,h6,?_⟩,kk,?_⟩
    ·simp only [tick]
     rw [up_abs h1.apart h2 hfm]
     exact (xb4l h2 (x:=absF f) (List.mem_map.2 ⟨f,hfm,rfl⟩) (by simp [absF])).symm
    ·simp only [tick,upA,List.length_map]
     rw [List.length_map] at h4
     omega
    ·intro y hy
     obtain ⟨x,hx,h9 | ⟨_,h9⟩⟩:=xa7u hy
     ·subst h9
      exact h5 y hx
     ·subst h9
      exact h5 x hx
    ·intro y hy
     obtain ⟨x,hx,h9 | ⟨_,h9⟩⟩:=xa7u hy
     ·subst h9
      exact h7 y hx
     ·subst h9
      exact h7 x hx
    ·intro x hx
     rcases xb7e hx with h9 | h9
     ·exact .inl h9
     ·exact .inl (dkB_v hfm h9)
   ·rw [if_neg hE] at hD
    rw [if_neg hE]
    exact ⟨_,rfl,⟨⟨m,u,fv,fs,hD,rfl,rfl⟩,h2,⟨by simp only [tick]; omega,by simp only [tick]; omega⟩,h4,h5,h6,h7⟩,kk,fun x hx=>.inl hx⟩
 ·refine Calls.mono (xb9k d sec m nb s w u fv cr op ft fs h1) ?_
  rintro e w' ⟨rfl,rfl⟩
  exact ⟨_,rfl,h0.more (Nat.le_refl nb) (Nat.le_succ ob) (Nat.le_refl _),Ev.refl _ _⟩
theorem xc0l (d nb ob bb:Nat) (B:List Nat) (σ:DSt) (w:World) (h:DKf w d B nb ob bb σ) (hn:nb≤1000000000) (hob:ob≤1000000000) :
  Calls Tryz.prog 95 #[.pointer (some ⟨d,0,none⟩)] w fun e w'=>∃ B',e = .returned (.int .i64 ((stNames σ).1:Nat))∧DKf w' d B' nb (ob + 1) bb (stNames σ).2∧Ev w w' B B':=by
 have h0:=h
 obtain ⟨sec,cr,op,off,ft,A⟩:=σ
 obtain ⟨⟨m,u,fv,fs,h1,rfl,hA⟩,h2,h3,h4,h5,h6,h7⟩:=h
 dsimp only at *
 subst hA
 cases off
 ·refine Calls.mono (xa5s d sec m nb w u fv cr op ft fs h1 ⟨h3.1,by omega⟩ (by rw [List.length_map] at h4; omega)) ?_
  rintro e w' ⟨E,rfl,rfl,hD,hK⟩
  have kk:Kept (dkB d m u fv fs) w w':=hK.mono (by
   intro x hx
   simp only [List.mem_cons] at hx
   rcases hx with rfl | hx
   ·simp [dkB]
   ·obtain ⟨a,ha,rfl⟩:=List.mem_map.1 hx
    exact dkB_g ha)
  have e1:stNames ⟨sec,cr,op,false,ft,fs.map absF⟩ = (opE ft cr op 0,tick ⟨sec,cr,op,false,ft,fs.map absF⟩ (if opE ft cr op 0 = 0 then ndA (fs.map absF) else fs.map absF)):=rfl
  rw [e1]
  by_cases hE:opE ft cr op 0 = 0
  ·unfold snU snF at hD
   rw [if_pos hE,if_pos hE] at hD
   rw [if_pos hE]
   refine ⟨_,rfl,⟨⟨m,_,fv,_,hD,rfl,by rw [nd_abs]; rfl⟩,xc1w h2,⟨by simp only [tick]; omega,by simp only [tick]; omega⟩,?_,?_,h6,?_⟩,kk,?_⟩
   ·simp only [tick,ndA,List.length_map]
    rw [List.length_map] at h4
    omega
   ·intro y hy
    obtain ⟨x,hx,rfl⟩:=List.mem_map.1 hy
    exact h5 x hx
   ·intro y hy
    obtain ⟨x,hx,rfl⟩:=List.mem_map.1 hy
    exact h7 x hx
   ·intro x hx
    left
    have:=dkB_nd d m (.slice none 0 0) fv fs x hx
    simp only [dkB,blk,List.mem_cons,List.mem_append,List.mem_flatMap,List.not_mem_nil,false_or] at this ⊢
    rcases this with h | h | h | h
    ·exact .inl h
    ·exact .inr (.inl h)
    ·exact .inr (.inr (.inl (.inr h)))
    ·exact .inr (.inr (.inr h))
  ·unfold snU snF at hD
   rw [if_neg hE,if_neg hE] at hD
   rw [if_neg hE]
   exact ⟨_,rfl,⟨⟨m,u,fv,fs,hD,rfl,rfl⟩,h2,⟨by simp only [tick]; omega,by simp only [tick]; omega⟩,h4,h5,h6,h7⟩,kk,fun x hx=>.inl hx⟩
 ·refine Calls.mono (xa5v d sec m nb w u fv cr op ft fs h1) ?_
  rintro e w' ⟨rfl,rfl⟩
  exact ⟨_,rfl,h0.more (Nat.le_refl nb) (Nat.le_succ ob) (Nat.le_refl _),Ev.refl _ _⟩
def zer64:ByteArray:=⟨#[48,48,48,48,48,48,48,48,48,48,48,48,48,48,48,48,48,48,48,48,48,48,48,48,48,48,48,48,48,48,48,48,48,48,48,48,48,48,48,48,48,48,48,48,48,48,48,48,48,48,48,48,48,48,48,48,48,48,48,48,48,48,48,48]⟩
set_option maxHeartbeats 1000000 in
theorem xb0z (w:World):Calls Tryz.prog 143 #[.int .i64 7] w fun e w'=>e = .returned (.string ⟨#[55]⟩)∧w' = w:=by
 go_enter Tryz.func143,Tryz.ntmps143
 go_wp2
 go_ret
 exact ⟨by rfl,rfl⟩
set_option maxHeartbeats 1000000 in
theorem xc1x (w:World):Calls Tryz.prog 96 #[.int .u64 7,.int .i64 10] w fun e w'=>e = .returned (.string ⟨#[55]⟩)∧w' = w:=by
 go_enter Tryz.func96,Tryz.ntmps96
 go_wp2_with fail
 refine Calls.mono (xb0z _) ?_
 rintro e w1 ⟨rfl,rfl⟩
 go_wp2
 go_ret
 exact ⟨rfl,rfl⟩
set_option maxHeartbeats 1000000 in
theorem xb4f (s t:ByteArray) (w:World) (hs:s.size≤1000000) (ht:t.size≤s.size) :
  Calls Tryz.prog 149 #[.string s,.string t] w fun e w'=>e = .returned (.bool ((s.extract 0 t.size).toList == t.toList))∧w' = w:=by
 have h1:(t.size:Int)≤s.size:=by omega
 go_enter Tryz.func149,Tryz.ntmps149
 go_wp2
 go_ret
 exact ⟨rfl,rfl⟩
set_option maxHeartbeats 1000000 in
theorem xb9r (s t:ByteArray) (w:World) (hs:s.size≤1000000) (ht:t.size≤s.size) :
  Calls Tryz.prog 98 #[.string s,.string t] w fun e w'=>e = .returned (.bool ((s.extract 0 t.size).toList == t.toList))∧w' = w:=by
 go_enter Tryz.func98,Tryz.ntmps98
 go_wp2_with fail
 refine Calls.mono (xb4f s t _ hs ht) ?_
 rintro e w1 ⟨rfl,rfl⟩
 go_wp2
 go_ret
 exact ⟨rfl,rfl⟩
theorem and_32:∀ k:Fin 21,bits BinOp.and IntKind.u64 ((k.val:Nat):Int) 4294967295 = ((k.val:Nat):Int):=by decide +kernel
set_option maxHeartbeats 1000000 in
theorem xc0d (k:Nat) (w:World) (hk:k≤20):Calls Tryz.prog 148 #[.int .u64 1,.int .u64 k] w fun e w'=>e = .returned (.tuple #[.int .u64 0,.int .u64 k])∧w' = w:=by
 have h1:bits BinOp.and IntKind.u64 1 4294967295 = 1:=and_32 ⟨1,by omega⟩
 have h0:bits BinOp.and IntKind.u64 0 4294967295 = 0:=and_32 ⟨0,by omega⟩
 have h2:bits BinOp.and IntKind.u64 (k:Int) 4294967295 = k:=and_32 ⟨k,by omega⟩
 have h3:(k:Int) / 4294967296 = 0:=by omega
 have h4:(k:Int)≤20:=by omega
 go_enter Tryz.func148,Tryz.ntmps148
 go_wp2
 go_ret2
 exact ⟨rfl,rfl⟩
set_option maxHeartbeats 1000000 in
theorem mul_1 (k:Nat) (w:World) (hk:k≤20):Calls Tryz.prog 97 #[.int .u64 1,.int .u64 k] w fun e w'=>e = .returned (.tuple #[.int .u64 0,.int .u64 k])∧w' = w:=by
 go_enter Tryz.func97,Tryz.ntmps97
 go_wp2_with fail
 refine Calls.mono (xc0d k _ hk) ?_
 rintro e w1 ⟨rfl,rfl⟩
 go_wp2
 go_ret2
 exact ⟨rfl,rfl⟩
theorem xb8l (s:ByteArray):∀ n i r,s.size - i = n→ByteArray.toList.loop s i r = r.reverse++s.data.toList.drop i:=by
 intro n
 induction n with
 | zero =>
  intro i r h
  rw [ByteArray.toList.loop]
  have h1:s.size = s.data.toList.length:=(Array.length_toList).symm
  rw [if_neg (by omega),List.drop_eq_nil_of_le (by omega),List.append_nil]
 | succ n ih =>
  intro i r h
  rw [ByteArray.toList.loop]
  have h1:s.size = s.data.toList.length:=(Array.length_toList).symm
  have h2:i < s.data.toList.length:=by omega
  rw [if_pos (by omega),ih (i + 1) _ (by omega),List.drop_eq_getElem_cons h2]
  have h3:s.get! i = s.data.toList[i]:=by
   have h4:i < s.data.size:=by simpa using h2
   rw [Array.getElem_toList]
   exact getElem!_pos s.data i h4
  simp [h3]
theorem xa1b (s:ByteArray):s.toList = s.data.toList:=by
 unfold ByteArray.toList
 rw [xb8l s _ 0 [] rfl]
 simp
theorem xb1j (s:ByteArray) (n:Nat):(s.extract 0 n).data.toList = s.data.toList.take n:=by
 simp [ByteArray.data_extract]
theorem xb4i (s t:ByteArray) (w:World) (b:Bool) (hs:s.size≤1000000) (ht:t.size≤s.size) (h:(s.data.toList.take t.size == t.data.toList) = b) :
  Calls Tryz.prog 98 #[.string s,.string t] w fun e w'=>e = .returned (.bool b)∧w' = w :=
 (xb9r s t w hs ht).mono fun e w' h9=>⟨by rw [h9.1,xa1b,xa1b,xb1j,h],h9.2⟩
set_option maxHeartbeats 2000000 in
theorem xb4n (k:Nat) (w:World) (hk:1 < k) (hk2:k≤20):Calls Tryz.prog 53 #[.string ⟨#[48]⟩,.int .i64 k] w fun e w'=>e = .returned (.string (zer64.extract 0 k))∧w' = w:=by
 have h0:((k:Int) == 0) = false:=by simp; omega
 have h1:((k:Int) == 1) = false:=by simp; omega
 have h2:¬ (k:Int) < 0:=by omega
 have h4:(k:Int)≤20:=by omega
 have h5:decide (9223372036854775807 < (k:Int)) = false:=by simp; omega
 go_enter Tryz.func53,Tryz.ntmps53
 go_wp2_with fail
 refine Calls.mono (mul_1 k _ hk2) ?_
 rintro e w1 ⟨rfl,rfl⟩
 go_wp2_with fail
 refine Calls.mono (xb4i _ _ _ false (by decide) (by decide) (by decide)) ?_
 rintro e w2 ⟨rfl,rfl⟩
 go_wp2_with fail
 refine Calls.mono (xb4i _ _ _ false (by decide) (by decide) (by decide)) ?_
 rintro e w2 ⟨rfl,rfl⟩
 go_wp2_with fail
 refine Calls.mono (xb4i _ _ _ true (by decide) (by decide) (by decide)) ?_
 rintro e w2 ⟨rfl,rfl⟩
 go_wp2
 go_ret
 exact ⟨rfl,rfl⟩
def strB (p:List Nat):ByteArray:=⟨(p.map UInt8.ofNat).toArray⟩
theorem xb2i (w:World) (e:TypeId) (s:ByteArray):Kept [] w (Lib.bytesWorld w e s):=⟨rfl,rfl,rfl,by rw [Lib.bytesWorld_size]; omega,fun k hk _=>Lib.bytesWorld_at_old w e s k hk⟩
theorem xa0n (bs:List Nat):(strB bs).size = bs.length:=by simp [strB,ByteArray.size]
theorem sbw_rd (w:World) (bs:List Nat) (hb:∀ x∈bs,x < 256) (hl:bs.length≤1000000):Rd (Lib.bytesWorld w 5 (strB bs)) (.slice (some ⟨w.heap.size,0,none⟩) (strB bs).size (grownCap w (strB bs).size 0 5)) bs:=by
 have h1:=grownCap_ge w (strB bs).size 0 5
 have h2:=grownCap_le_maxLen w (strB bs).size 0 5 (by rw [xa0n]; unfold maxLen; omega)
 rw [xa0n] at h1 h2 ⊢
 unfold maxLen at h2
 refine ⟨_,_,_,rfl,rfl,h1,⟨by omega,by omega⟩,fun h=>by simp at h,hb,fun hp=>⟨w.heap.size,0,rfl,fun i hi=>?_⟩⟩
 rw [Nat.zero_add,Lib.bytesWorld_cell w 5 (strB bs) i (by rw [xa0n]; exact hi)]
 have hx:=hb (bs[i]) (List.getElem_mem hi)
 simp [strB,List.getD_eq_getElem?_getD,hi,u8]
 omega
theorem xb5f (w:World) (bs:List Nat) (n:Nat) (hn:bs.length = n) (hb:∀ x∈bs,x < 256) (hl:n≤1000000):∃ W c,(convert 9 49 (.string (strB bs))).run Tryz.prog w = .ok (.slice (some ⟨w.heap.size,0,none⟩) n c) W∧Rd W (.slice (some ⟨w.heap.size,0,none⟩) n c) bs∧Kept [] w W∧W.heap.size = w.heap.size + 1:=by
 have hu5:Tryz.prog.underlying 5 = some (.int .u8):=by kernel_rfl
 have hu9:Tryz.prog.underlying 9 = some .string:=by kernel_rfl
 subst hn
 exact ⟨_,_,by rw [Lib.run_convert_string_bytes w 9 49 5 (strB bs) hu9 Tryz.underlying49 hu5,xa0n],by have:=sbw_rd w bs hb hl; rwa [xa0n] at this,xb2i w 5 _,Lib.bytesWorld_size w 5 _⟩
def dval (l:List Nat):Nat:=l.foldl (fun a d=>a * 10 + (d - 48)) 0
theorem xa8m (l:List Nat) (d:Nat):dval (l++[d]) = dval l * 10 + (d - 48):=by simp [dval]
theorem xb8h (l m:List Nat):dval l≤dval (l++m):=by
 unfold dval
 rw [List.foldl_append]
 generalize List.foldl (fun a d=>a * 10 + (d - 48)) 0 l = a
 induction m generalizing a with
 | nil=>exact Nat.le_refl _
 | cons x r ih=>simp only [List.foldl_cons]; exact Nat.le_trans (by omega) (ih _)
theorem xb6d (l:List Nat) (k:Nat):dval (l.take k)≤dval l:=by
 have:=xb8h (l.take k) (l.drop k)
 rwa [List.take_append_drop] at this
set_option maxHeartbeats 4000000 in
theorem xb2r (bs:List Nat) (w:World) (h0:0 < bs.length) (hl:bs.length≤1000) (hd:∀ x∈bs,48≤x∧x≤57) (hv:dval bs < 18446744073709551616) :
  Calls Tryz.prog 198 #[.string (strB bs),.int .i64 10,.int .i64 64] w fun e w'=>e = .returned (.tuple #[.int .u64 (dval bs),.nilIface])∧Kept [] w w':=by
 obtain ⟨W,c,hrun,hrd,kW,hW⟩:=xb5f w bs bs.length rfl (fun x hx=>by have:=hd x hx; omega) (by omega)
 obtain ⟨ao,n9,c9,he,_,hcap,⟨hc1,hc2⟩,_,_,hcl⟩:=id hrd
 cases he
 obtain ⟨b9,o9,e9,hcell⟩:=hcl h0
 cases e9
 have HC:=hide hcell
 have HD:=hide hd
 have HV:=hide (fun k=>xb6d bs k)
 have HK:=hide kW
 have hmax:IntKind.u64.wrap (IntKind.u64.wrap 18446744073709551616 - 1) = 18446744073709551615:=by decide
 have hne:(strB bs).toList.isEmpty = false:=by
  rw [xa1b]
  cases bs with
  | nil=>simp at h0
  | cons x r=>simp [strB]
 have hdl:dval bs≤18446744073709551615:=by omega
 clear hrd hcl hcell hd kW hW
 go_enter Tryz.func198,Tryz.ntmps198
 go_wp2_with fail
 go_loopw [12,13,101] (fun t12 t13 t101 wr=>∃ k:Nat,k≤bs.length∧t12 = .bool false∧t101 = .int .i64 k∧t13 = .int .u64 (dval (bs.take k))∧wr = W) (fun _ _ t _=>bs.length - (intOf t).toNat)
 case atStart=>exact ⟨0,by omega,rfl,rfl,rfl,rfl⟩
 case round =>
  obtain ⟨k,hk,rfl,rfl,rfl,rfl⟩:=hrel
  by_cases hkl:k < bs.length
  ·have hkl':(k:Int) < bs.length:=by omega
   have ck:=uh HC k hkl
   have hdk:=uh HD bs[k] (List.getElem_mem hkl)
   rw [List.getD_eq_getElem?_getD,List.getElem?_eq_getElem hkl,Option.getD_some] at ck
   have hsn:dval (bs.take (k + 1)) = dval (bs.take k) * 10 + (bs[k] - 48):=by rw [List.take_succ_eq_append_getElem hkl,xa8m]
   have hle:=uh HV (k + 1)
   have HSN:=hide hsn
   generalize bs[k] = d at ck hdk hsn HSN
   obtain ⟨m,hm⟩:∃ m,dval (bs.take (k + 1)) = m:=⟨_,rfl⟩
   rw [hm] at hsn hle HSN
   have HMM:=hide hm
   clear hm
   generalize dval (bs.take k) = n at hsn HSN
   obtain ⟨e,rfl⟩:∃ e,d = e + 48:=⟨d - 48,by omega⟩
   have he:e + 48 - 48 = e:=by omega
   rw [he] at hsn HSN
   clear he
   have ck2:wr.cell? ⟨w.heap.size,k,none⟩ = some (.int .u8 ((e:Int) + 48)):=by rw [Nat.zero_add] at ck; rw [ck]; simp [Go.Proofs.YtkolfhgbojenjaaGreatDoor.u8]
   have b0:(0:Int)≤e:=by omega
   have b2:(e:Int)≤9:=by omega
   have b3:(0:Int)≤n:=by omega
   have b4:¬ (1844674407370955162:Int)≤n:=by omega
   have b5:(n:Int) * 10 + e≤18446744073709551615:=by omega
   have b8:(n:Int) * 10≤18446744073709551615:=by omega
   have HM:=hide (by rw [uh HSN]; simp:(m:Int) = (n:Int) * 10 + e)
   clear hsn hdk ck hle HSN
   generalize (n:Int) = z at *
   generalize (e:Int) = y at *
   go_wp2
   go_roundw
   case rel=>exact ⟨k + 1,by omega,rfl,by go_num,by rw [uh HMM,uh HM],trivial⟩
   case measure=>simp [intOf]; omega
  ·have hkl':¬ (k:Int) < bs.length:=by omega
   obtain rfl:k = bs.length:=by omega
   go_wp2
   go_ret2
   exact ⟨by simp,uh HK⟩
set_option maxHeartbeats 1000000 in
theorem xb6v (bs:List Nat) (w:World) (h0:0 < bs.length) (hl:bs.length≤1000) (hd:∀ x∈bs,48≤x∧x≤57) (hv:dval bs < 18446744073709551616) :
  Calls Tryz.prog 139 #[.string (strB bs),.int .i64 10,.int .i64 64] w fun e w'=>e = .returned (.tuple #[.int .u64 (dval bs),.nilIface])∧Kept [] w w':=by
 go_enter Tryz.func139,Tryz.ntmps139
 go_wp2_with fail
 refine Calls.mono (xb2r bs _ h0 hl hd hv) ?_
 rintro e w1 ⟨rfl,k1⟩
 have HK1:=hide k1
 clear k1
 go_wp2
 go_ret2
 exact ⟨rfl,uh HK1⟩
def dgs (k u:Nat):List Nat:=(List.range k).map fun t=>48 + u / 10 ^ (k - 1 - t) % 10
theorem xa5q (k u:Nat):(dgs k u).length = k:=by simp [dgs]
theorem xa7x (k u:Nat):∀ x∈dgs k u,48≤x∧x≤57:=by
 intro x hx
 simp only [dgs,List.mem_map] at hx
 obtain ⟨t,_,rfl⟩:=hx
 omega
theorem xb0x (k u:Nat):∀ x∈dgs k u,x < 256:=fun x hx=>by have:=xa7x k u x hx; omega
theorem xa7l (k u:Nat):dgs (k + 1) u = (48 + u / 10 ^ k % 10) :: dgs k u:=by
 unfold dgs
 rw [List.range_succ_eq_map,List.map_cons,List.map_map]
 rw [List.cons.injEq]
 refine ⟨by simp,List.map_congr_left fun t ht=>?_⟩
 have:k + 1 - 1 - (t + 1) = k - 1 - t:=by omega
 simp only [Function.comp,Nat.succ_eq_add_one,this]
theorem xa7n (k u:Nat):dgs (k + 1) u = dgs k (u / 10)++[48 + u % 10]:=by
 unfold dgs
 rw [List.range_succ,List.map_append]
 have h1:(List.range k).map (fun t=>48 + u / 10 ^ (k + 1 - 1 - t) % 10) = (List.range k).map (fun t=>48 + u / 10 / 10 ^ (k - 1 - t) % 10):=List.map_congr_left fun t ht=>by
  have ht':t < k:=by simpa using ht
  rw [show k + 1 - 1 - t = (k - 1 - t) + 1 by omega,Nat.pow_succ',Nat.div_div_eq_div_mul]
 rw [h1]
 simp
theorem xa2h:∀ (k u:Nat),dval (dgs k u) = u % 10 ^ k
 | 0,u=>by simp [dgs,dval,Nat.mod_one]
 | k + 1,u=>by
  rw [xa7n,xa8m,xa2h k (u / 10),Nat.pow_succ',Nat.mod_mul]
  omega
theorem xb7u (k u:Nat) (h:u < 10 ^ k):∀ j,dgs (j + k) u = List.replicate j 48++dgs k u
 | 0=>by simp
 | j + 1=>by
  rw [show j + 1 + k = (j + k) + 1 by omega,xa7l,xb7u k u h j]
  have h1:u / 10 ^ (j + k) = 0:=Nat.div_eq_of_lt (Nat.lt_of_lt_of_le h (Nat.pow_le_pow_right (by omega) (by omega)))
  rw [h1,List.replicate_succ]
  rfl
theorem xb0i:∀ (k u:Nat),dgs k (u % 10 ^ k) = dgs k u
 | 0,u=>by simp [dgs]
 | k + 1,u=>by
  rw [xa7n,xa7n k u,Nat.pow_succ',Nat.mod_mul_right_div_self,xb0i k (u / 10),Nat.mod_mul_right_mod]
theorem dgs_lt:∀ (k a b:Nat),a < b→b < 10 ^ k→dgs k a < dgs k b
 | 0,a,b,h1,h2=>by simp at h2; omega
 | k + 1,a,b,h1,h2=>by
  rw [xa7l,xa7l]
  have hp:0 < 10 ^ k:=Nat.pow_pos (by omega)
  have ha:a / 10 ^ k < 10:=by rw [Nat.div_lt_iff_lt_mul hp]; rw [Nat.pow_succ'] at h2; omega
  have hb:b / 10 ^ k < 10:=by rw [Nat.div_lt_iff_lt_mul hp]; rw [Nat.pow_succ'] at h2; omega
  have hle:a / 10 ^ k≤b / 10 ^ k:=Nat.div_le_div_right (by omega)
  rw [Nat.mod_eq_of_lt ha,Nat.mod_eq_of_lt hb]
  by_cases he:a / 10 ^ k = b / 10 ^ k
  ·rw [he]
   have h3:a % 10 ^ k < b % 10 ^ k:=by
    have e1:=Nat.div_add_mod a (10 ^ k)
    have e2:=Nat.div_add_mod b (10 ^ k)
    rw [he] at e1
    omega
   have h4:=dgs_lt k (a % 10 ^ k) (b % 10 ^ k) h3 (Nat.mod_lt _ hp)
   rw [xb0i,xb0i] at h4
   exact List.cons_lt_cons_iff.2 (Or.inr ⟨rfl,h4⟩)
  ·exact List.cons_lt_cons_iff.2 (Or.inl (by omega))
def nmL (u:Nat):List Nat:=[115,101,103,45]++dgs 20 u
theorem xb2m (u:Nat):(nmL u).length = 24:=by simp [nmL,xa5q]
theorem xa4t (u:Nat):∀ x∈nmL u,x < 256:=by
 intro x hx
 rcases List.mem_append.1 hx with h | h
 ·simp at h; omega
 ·exact xb0x 20 u x h
theorem xc0c {a b:Nat} (ha:a < 18446744073709551616) (hb:b < 18446744073709551616) (h:nmL a = nmL b):a = b:=by
 have h1:=congrArg dval (List.append_cancel_left h)
 rw [xa2h,xa2h,Nat.mod_eq_of_lt (by omega),Nat.mod_eq_of_lt (by omega)] at h1
 exact h1
theorem nmL_lt {a b:Nat} (h:a < b) (hb:b < 18446744073709551616):nmL a < nmL b:=by
 have h1:=dgs_lt 20 a b h (by omega)
 unfold nmL
 simpa [List.cons_lt_cons_iff] using h1
theorem xb1x (p q:List Nat):strB (p++q) = strB p++strB q:=by
 apply ByteArray.ext
 rw [ByteArray.data_append]
 simp [strB]
theorem xb8q (u:Nat):(⟨(Lib.decDigits u).toArray⟩:ByteArray) = strB (dgs (Lib.nDigits u) u):=by
 rw [Lib.decDigits_eq]
 unfold strB dgs
 rw [List.map_map]
 rfl
theorem xc1n:∀ k:Fin 21,zer64.extract 0 k.val = strB (List.replicate k.val 48):=by decide +kernel
theorem xb1i {p q:List Nat} (hp:∀ x∈p,x < 256) (hq:∀ x∈q,x < 256) (h:strB p = strB q):p = q:=by
 have h1:p.map UInt8.ofNat = q.map UInt8.ofNat:=by
  have:=congrArg (fun s=>s.data.toList) h
  simpa [strB] using this
 have h2:=congrArg (List.map UInt8.toNat) h1
 rw [List.map_map,List.map_map] at h2
 have e:∀ l:List Nat,(∀ x∈l,x < 256)→l.map (UInt8.toNat ∘ UInt8.ofNat) = l:=by
  intro l hl
  conv=>rhs; rw [← List.map_id l]
  refine List.map_congr_left fun x hx=>?_
  simp [Nat.mod_eq_of_lt (hl x hx)]
 rwa [e p hp,e q hq] at h2
end

section
open Go.RowKit
def strOf (p:List Nat):ByteArray:=⟨(p.map UInt8.ofNat).toArray⟩
theorem xc1s (s:ByteArray):∀ n i r,s.size - i = n→ByteArray.toList.loop s i r = r.reverse++s.data.toList.drop i:=by
 intro n
 induction n with
 | zero =>
  intro i r h
  rw [ByteArray.toList.loop]
  have h1:s.size = s.data.toList.length:=(Array.length_toList).symm
  rw [if_neg (by omega),List.drop_eq_nil_of_le (by omega),List.append_nil]
 | succ n ih =>
  intro i r h
  rw [ByteArray.toList.loop]
  have h1:s.size = s.data.toList.length:=(Array.length_toList).symm
  have h2:i < s.data.toList.length:=by omega
  rw [if_pos (by omega),ih (i + 1) _ (by omega),List.drop_eq_getElem_cons h2]
  have h3:s.get! i = s.data.toList[i]:=by
   have h4:i < s.data.size:=by simpa using h2
   rw [Array.getElem_toList]
   exact getElem!_pos s.data i h4
  simp [h3]
theorem xa8k (s:ByteArray):s.toList = s.data.toList:=by
 unfold ByteArray.toList
 rw [xc1s s _ 0 [] rfl]
 simp
theorem xb5y {p q:List Nat} (hp:∀ x∈p,x < 256) (hq:∀ x∈q,x < 256) (h:strOf p = strOf q):p = q:=by
 have h1:p.map UInt8.ofNat = q.map UInt8.ofNat:=by
  have:=congrArg (fun b=>b.data.toList) h
  simpa [strOf] using this
 have h2:=congrArg (List.map UInt8.toNat) h1
 simp only [List.map_map] at h2
 have e:∀ l:List Nat,(∀ x∈l,x < 256)→l.map (UInt8.toNat ∘ UInt8.ofNat) = l:=by
  intro l hl
  conv=>rhs; rw [← List.map_id l]
  apply List.map_congr_left
  intro x hx
  have:=hl x hx
  simp [UInt8.toNat_ofNat]; omega
 rw [e p hp,e q hq] at h2
 exact h2
theorem xa7e (v:Value) (p:List Nat) (w:World) (h:Rd w v p) (hu5:Tryz.prog.underlying 5 = some (.int .u8)) (hu9:Tryz.prog.underlying 9 = some .string) :
  (convert 49 9 v).run Tryz.prog w = .ok (.string (strOf p)) w:=by
 obtain ⟨ao,len,cap,rfl,rfl,h2,h3,h4,h5,h6⟩:=h
 have hl:p.length = (p.map UInt8.ofNat).length:=by simp
 cases ao with
 | none =>
  have hz:=h4 rfl
  have hp0:p = []:=List.eq_nil_of_length_eq_zero (by omega)
  subst hp0
  rw [run_convert_bytes_string w 49 9 5 none _ cap Tryz.underlying49 hu5 hu9]
  simp [Conv.bytesToString,strOf]
  rfl
 | some a =>
  rw [hl]
  refine run_convert_bytes_back w 49 9 5 a cap (p.map UInt8.ofNat) Tryz.underlying49 hu5 hu9 (fun j hj=>?_)
  simp at hj
  obtain ⟨b,off,he,hc⟩:=h6 (by omega)
  cases he
  have:=hc j hj
  rw [Addr.add_mid,this]
  have hb:=h5 (p[j]) (List.getElem_mem hj)
  simp [u8,List.getD_eq_getElem?_getD,List.getElem?_eq_getElem hj,UInt8.toNat_ofNat]
  omega
end
section
open Go.RowKit Go.BigFrame
def VarsS (w : World) : Prop := Lib.TabIs Tryz.prog w "internal/strconv.uint64pow10" .u64 Lib.pow10Tab ∧ (∃ tp p, w.var? Tryz.prog "strconv.ErrSyntax" = some #[.iface tp p]) ∧ ∃ tp p, w.var? Tryz.prog "strconv.ErrRange" = some #[.iface tp p]
theorem xa7c {P:Program} {w w':World} {n:String} {cs:Array Value} (h:w.var? P n = some cs) (k:Kept [] w w'):w'.var? P n = some cs:=by
 unfold World.var? at h ⊢
 cases hg:P.globalNamed n with
 | none=>rw [hg] at h; simp at h
 | some g =>
  rw [hg] at h
  simp only [Option.bind_some] at h ⊢
  cases hb:w.heap[g]? with
  | none=>rw [hb] at h; simp at h
  | some o=>rw [k.heap hb (by simp)]; rw [hb] at h; exact h
theorem VarsS.old {w w':World} (h:VarsS w) (k:Kept [] w w'):VarsS w':=by
 obtain ⟨h1,⟨t1,p1,h2⟩,t2,p2,h3⟩:=h
 exact ⟨xa7c h1 k,⟨t1,p1,xa7c h2 k⟩,t2,p2,xa7c h3 k⟩
theorem xa9v {α:Type} [Inhabited α] (enc:α→Value) (w:World) (blk off:Nat) (d:Array α):Kept [blk] w (Go.Sort.putRow enc w blk off d):=by
 refine ⟨rfl,rfl,rfl,by simp [Go.Sort.putRow,Go.Sort.mapBlock],fun k hk hn=>?_⟩
 simp only [List.mem_singleton] at hn
 simp only [Go.Sort.putRow,Go.Sort.mapBlock,Array.getElem?_modify]
 rw [if_neg (fun h=>hn h.symm)]
set_option maxHeartbeats 2000000 in
theorem xb5g (u:Nat) (w:World) (hu:u < 18446744073709551616) (hv:VarsS w) :
  Calls Tryz.prog 96 #[.int .u64 u,.int .i64 10] w fun e w'=>e = .returned (.string (strB (dgs (Lib.nDigits u) u)))∧Kept [] w w':=by
 have HV:=hide hv
 have HD:=hide (xb8q u)
 clear hv
 by_cases hs:u < 100
 ·have hw:IntKind.i64.wrap (u:Int) = (u:Int):=by simp [IntKind.wrap,IntKind.signed,IntKind.bits]; omega
  have hlt:(u:Int) < 100:=by omega
  go_enter Tryz.func96,Tryz.ntmps96
  go_wp2_with fail
  refine Calls.mono (Tryz.internal_strconv_small u hs _) ?_
  rintro e w1 ⟨rfl,rfl⟩
  go_wp2
  go_ret
  exact ⟨by rw [← uh HD]; rfl,Kept.refl _ _⟩
 ·have hlt:¬ (u:Int) < 100:=by omega
  have HN:=hide (by have:=Lib.numDigits_eq u (by omega) hu; split at this <;> omega:Lib.nDigits u≤20)
  have HP:=hide (Lib.lt_pow_nDigits u)
  obtain ⟨nd,hnd⟩:∃ nd,Lib.nDigits u = nd:=⟨_,rfl⟩
  have HNum:=hide (fun W (hW:VarsS W)=>Tryz.internal_strconv_numDigits u (by omega) hu W hW.1)
  simp only [hnd] at HNum
  rw [hnd] at HN HP ⊢
  clear hnd HD
  have HK0:=hide ((Kept.refl [] w).alloc (.cells Lib.zeros24 237))
  have hn24:(nd:Int)≤24:=by have:=uh HN; omega
  go_enter Tryz.func96,Tryz.ntmps96
  go_wp2_with fail
  refine Calls.mono (uh HNum _ ((uh HV).old (uh HK0))) ?_
  rintro e w1 ⟨rfl,rfl⟩
  have hH0:=Lib.holds_zero0 w 237 nd (by have:=uh HN; omega)
  have hfmt:=Tryz.internal_strconv_formatBase10 w.heap.size 0 24 u (Array.replicate nd 0) (w.alloc (.cells Lib.zeros24 237)) hH0 (by rw [Array.size_replicate]; exact uh HP) hu (by rw [Array.size_replicate]; have:=uh HN; omega)
  rw [Array.size_replicate] at hfmt
  have HH0:=hide hH0
  have HF:=hide hfmt
  clear hH0 hfmt HNum
  go_wp2_with fail
  refine Calls.mono (uh HF) ?_
  rintro e w2 ⟨rfl,n2,v2,dk,rfl,hinv⟩
  have HI:=hide hinv
  clear hinv HF
  have hR:Rd ((Go.Sort.putRow (fun (b:UInt8)=>Value.int .u8 (b.toNat:Int)) (w.alloc (.cells Lib.zeros24 237)) w.heap.size 0 dk).drewN n2) (.slice (some ⟨w.heap.size,0,none⟩) nd 24) (dgs nd u):=by
   have hh:=Go.Sort.holds_putRow (fun (b:UInt8)=>Value.int .u8 (b.toNat:Int)) (w.alloc (.cells Lib.zeros24 237)) w.heap.size 0 (Array.replicate nd 0) dk (uh HH0) (by rw [(uh HI).size,Array.size_replicate])
   refine ⟨_,_,_,rfl,xa5q nd u,by have:=uh HN; omega,⟨by omega,by have:=uh HN; omega⟩,by simp,xb0x nd u,fun _=>⟨w.heap.size,0,rfl,fun i hi=>?_⟩⟩
   have h1:=(hh i (by rw [(uh HI).size]; exact hi)).1
   have h2:=(uh HI).done i (Nat.zero_le _) hi
   rw [h2] at h1
   refine (show _ = _ from h1).trans ?_
   have h3:(dgs nd u).getD i 0 = 48 + u / 10 ^ (nd - 1 - i) % 10:=by simp [dgs,List.getD_eq_getElem?_getD,hi]
   rw [h3]
   have h4:48 + u / 10 ^ (nd - 1 - i) % 10 < 256:=by omega
   simp [Lib.dg,u8,Nat.mod_eq_of_lt h4]
  have hk:Kept [] w ((Go.Sort.putRow (fun (b:UInt8)=>Value.int .u8 (b.toNat:Int)) (w.alloc (.cells Lib.zeros24 237)) w.heap.size 0 dk).drewN n2):=by
   refine ((uh HK0).trans (M:=[w.heap.size]) (c:=Go.Sort.putRow (fun (b:UInt8)=>Value.int .u8 (b.toNat:Int)) (w.alloc (.cells Lib.zeros24 237)) w.heap.size 0 dk) ?_ (by simp)).drewN n2
   exact xa9v _ _ _ _ _
  have HK2:=hide hk
  have hu5:Tryz.prog.underlying 5 = some (.int .u8):=by kernel_rfl
  have hu9:Tryz.prog.underlying 9 = some .string:=by kernel_rfl
  have hc:=xa7e _ _ _ hR hu5 hu9
  obtain ⟨W2,hW2⟩:∃ W2,(Go.Sort.putRow (fun (b:UInt8)=>Value.int .u8 (b.toNat:Int)) (w.alloc (.cells Lib.zeros24 237)) w.heap.size 0 dk).drewN n2 = W2:=⟨_,rfl⟩
  rw [hW2] at hc HK2 ⊢
  clear hW2 hR hk HH0 HI
  go_wp2
  go_ret
  exact ⟨rfl,uh HK2⟩
end
section
open Go.RowKit
theorem xa2u {w:World} {b b' e s n:Nat} {v:Value} {xs:List Value} (h:w.ownsRow b e s v n xs) (hb:b'≤b):w.ownsRow b' e s v n xs:=by
 refine ⟨h.1,?_⟩
 rcases h.2 with h9 | ⟨g,cap,cur,h1,h2,h3⟩
 ·exact .inl h9
 ·exact .inr ⟨g,cap,cur,h1,Nat.le_trans hb h2,h3⟩
attribute [local go_sem ↓] Go.wp_at_zero Go.wp_at_succ
attribute [local go_sem ↓] Go.wp_at_zero Go.wp_at_succ
theorem Rd.take {w:World} {ao:Option Addr} {cap n:Nat} {p:List Nat} (h:Rd w (.slice ao p.length cap) p) (hn:n≤p.length):Rd w (.slice ao n cap) (p.take n):=by
 obtain ⟨ao',len',cap',he,_,h2,⟨h3,h3'⟩,h4,h5,h6⟩:=h
 cases he
 refine ⟨_,_,_,rfl,by simp; omega,by omega,⟨h3,by omega⟩,h4,fun x hx=>h5 x (List.mem_of_mem_take hx),fun hp=>?_⟩
 obtain ⟨b,off,rfl,hc⟩:=h6 (by omega)
 refine ⟨b,off,rfl,fun i hi=>?_⟩
 rw [hc i (by omega)]
 simp [List.getD_eq_getElem?_getD,List.getElem?_take,hi]
end
end Go.Proofs.YtkolfhgbojenjaaGreatDoor
