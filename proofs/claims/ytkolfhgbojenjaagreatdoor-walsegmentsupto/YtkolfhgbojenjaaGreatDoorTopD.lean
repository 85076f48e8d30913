import Derived.Test.YtkolfhgbojenjaaGreatDoorTopC
namespace Go.Proofs.YtkolfhgbojenjaaGreatDoor
set_option linter.unusedVariables false
set_option linter.unusedSimpArgs false
set_option maxRecDepth 100000
section
open Go.ChangeShapes Go.WideShapes Go.ChangeAt Go.RowKit Go.Deep
theorem own:ownKnob Tryz.prog.godebug = none:=by kernel_rfl
theorem laidOut:laidOutB Tryz.prog = true:=by kernel_rfl
theorem xa4j {x:Int} (h:(Lit.int .u8 x).wf = true):0≤x∧x < 256:=by
 simp [Lit.wf,IntKind.min,IntKind.max,IntKind.signed,IntKind.bits] at h
 exact ⟨by omega,by omega⟩
theorem xa1h {x:Int} (h:(Lit.int .i64 x).wf = true):-9223372036854775808≤x∧x≤9223372036854775807:=by
 simp [Lit.wf,IntKind.min,IntKind.max,IntKind.signed,IntKind.bits] at h
 exact ⟨by omega,by omega⟩
theorem xa0w {H:Type} (d:DataW H):1≤Rows.uptoBulk d:=by
 cases d with
 | lit l=>cases l <;> simp [Rows.uptoBulk]
 | nil=>simp [Rows.uptoBulk]
 | ptr d=>simp [Rows.uptoBulk]
 | slice elems spare=>simp [Rows.uptoBulk]
 | agg parts=>simp [Rows.uptoBulk]
 | iface t d=>simp [Rows.uptoBulk]
 | map entries=>simp [Rows.uptoBulk]
 | held h=>simp [Rows.uptoBulk]
theorem xc2k {H:Type} (l:List (DataW H)):l.length≤Rows.uptoBulkAll l:=by
 induction l with
 | nil=>simp [Rows.uptoBulkAll]
 | cons x r ih=>have:=xa0w x; simp only [Rows.uptoBulkAll,List.length_cons]; omega
section
variable {H:Type} {enc:TypeId × Value→H} {W:World}
theorem xa6t {fuel:Nat} {cs:List Value} {x:DataW H × List MemPlace} (h:DataW.trod enc Tryz.prog W 0 (fun _=>true) true fuel 49 cs = some x) :
  ∃ v bs,cs = [v]∧(bs.length≤140737488355328→Rd W v bs)∧((bs = []∧x.1 = .nil)∨∃ elems spare,x.1 = .slice elems spare∧elems.length = bs.length):=by
 rcases open_ints Tryz.underlying49 Tryz.underlying5 (by kernel_rfl) h with ⟨rfl,rfl⟩ | ⟨a,len,cap,zs,rfl,_,hl,hm,hz,rfl,hcell,hwz⟩
 ·exact ⟨_,[],rfl,fun _=>Rd.nil W,.inl ⟨rfl,rfl⟩⟩
 ·have h2:(lits (H:=H) .u8 (zs.take len)).length = len:=by simp only [lits,List.length_map,List.length_take]; simp at hz; omega
  have hbl:((zs.take len).map Int.toNat).length = len:=by simp at hz; simp; omega
  refine ⟨_,(zs.take len).map Int.toNat,rfl,fun hB=>⟨_,_,_,rfl,hbl,hl,⟨by unfold maxLen at hm; omega,by omega⟩,by simp,?_,?_⟩,.inr ⟨_,_,rfl,by rw [h2,hbl]⟩⟩
  ·intro y hy
   obtain ⟨z,hz1,rfl⟩:=List.mem_map.1 hy
   have:=xa4j (hwz z (List.mem_of_mem_take hz1)); omega
  ·intro hp
   simp at hz
   have hc0:=hcell 0 (by omega)
   obtain ⟨b,off,spot⟩:=a
   have hspot:spot = none:=by simpa [Addr.add] using World.cell?_spot hc0
   subst hspot
   refine ⟨b,off,rfl,fun i hi=>?_⟩
   have hc:=hcell i (by omega)
   have hzi:i < zs.length:=by omega
   rw [Addr.add_mid] at hc
   rw [hc]
   have hw:=xa4j (hwz (zs[i]) (List.getElem_mem hzi))
   simp only [List.getD_eq_getElem?_getD,List.getElem?_eq_getElem hzi,Option.getD_some,List.getElem?_map,List.getElem?_take,hi,if_true,Option.map_some]
   simp [u8]; omega
theorem xa7u {d:DataW H} {bs:List Nat} (hx:(bs = []∧d = .nil)∨∃ elems spare,d = .slice elems spare∧elems.length = bs.length):bs.length + 1≤Rows.uptoBulk d:=by
 rcases hx with ⟨rfl,rfl⟩ | ⟨elems,spare,rfl,he⟩
 ·simp [Rows.uptoBulk]
 ·have:=xc2k elems
  simp only [Rows.uptoBulk]; omega
end
structure IFile where
 nm:ByteArray
 v:Value
 bs:List Nat
 sy:Int
 nd:Bool
def ifC (f:IFile):List Value:=[.string f.nm,f.v,.int .i64 f.sy,.bool f.nd]
def faC (x:Int × Int):List Value:=[.int .i64 x.1,.int .i64 x.2]
def Rng (x:Int):Prop:=-9223372036854775808≤x∧x≤9223372036854775807
def OkKe (k:KeepD):Prop:=k.nm.size≤1048576∧Rng k.kb
def OkFa (x:Int × Int):Prop:=Rng x.1∧Rng x.2
def OkIf (W:World) (f:IFile):Prop:=Rd W f.v f.bs∧f.nm.size≤1048576∧Rng f.sy
structure OpD where
 k:Int
 s:ByteArray
 pv:Value
 ps:List Nat
 fv:Value
 fl:List (Int × Int)
 cr:Int
 n:Int
 kv:Value
 ks:List KeepD
section
variable {H:Type} {enc:TypeId × Value→H} {W:World}
theorem k_part {d:DataW H} {l:List (DataW H)} (h:d∈l):Rows.uptoBulk d≤Rows.uptoBulkAll l:=by
 induction l with
 | nil=>simp at h
 | cons a l ih =>
  simp only [Rows.uptoBulkAll]
  rcases List.mem_cons.1 h with rfl | h
  ·omega
  ·have:=ih h; omega
theorem k_sum {α:Type} (D:Nat→DataW H) (f:Nat→α) (μ:α→Nat) (l:List Nat) (h:∀ i∈l,μ (f i)≤Rows.uptoBulk (D i)):((l.map f).map μ).sum≤Rows.uptoBulkAll (l.map D):=by
 induction l with
 | nil=>simp
 | cons a l ih =>
  have h1:=h a (by simp)
  have h2:=ih (fun i hi=>h i (by simp [hi]))
  simp only [List.map_cons,Rows.uptoBulkAll,List.sum_cons]
  omega
theorem xa0u (cs:List Value) (a n:Nat):cs.drop a = (cs.drop a).take n++cs.drop (a + n):=by
 rw [← List.drop_drop,List.take_append_drop]
theorem xa3p {T E:TypeId} {s:Nat} (hu:Tryz.prog.underlying T = some (.slice E)) (hC:Tryz.prog.cellsOf E = s) {α:Type} [Inhabited α] (mk:α→List Value) (hne:∀ a,(mk a).length = s) (hs0:0 < s) (Q:α→Prop) (μ:α→Nat)
  (hel:∀ (n:Nat) (cs:List Value) (y:DataW H × List MemPlace),DataW.trod enc Tryz.prog W 0 (fun _=>true) true n E cs = some y→Rows.uptoBulk y.1≤1048576→∃ a,cs = mk a∧Q a∧μ a≤Rows.uptoBulk y.1)
  {fuel:Nat} {cs:List Value} {x:DataW H × List MemPlace} (h:DataW.trod enc Tryz.prog W 0 (fun _=>true) true fuel T cs = some x) (hB:Rows.uptoBulk x.1≤1048576) :
  ∃ (v:Value) (l:List α),cs = [v]∧RdC s W v (l.map mk)∧(∀ a∈l,Q a)∧(l.map μ).sum + 1≤Rows.uptoBulk x.1:=by
 rcases open_slice hu h with ⟨rfl,rfl⟩ | ⟨a,len,cap,m,n,D,Pl,rfl,_,hl,hm,hmm,rfl,hx⟩
 ·exact ⟨_,[],rfl,RdC.nil s W,by simp,by simp [Rows.uptoBulk]⟩
 ·rw [hC] at hx
  simp only [if_true] at hmm
  simp only [Rows.uptoBulk] at hB ⊢
  obtain ⟨f,hf⟩:=choose_lt (α:=α) (n:=len) (p:=fun i o=>((∀ j v,(mk o)[j]? = some v→W.cell? ((a.add (i * s)).add j) = some v)∧Q o)∧μ o≤Rows.uptoBulk (D i)) (by
   intro i hi
   obtain ⟨cs',h1,h2⟩:=hx i (by omega)
   have hDi:Rows.uptoBulk (D i)≤Rows.uptoBulkAll ((List.range len).map D):=k_part (List.mem_map.2 ⟨i,List.mem_range.2 hi,rfl⟩)
   obtain ⟨o,rfl,ho,hbb⟩:=hel _ _ _ h2 (by simp only; omega)
   obtain ⟨_,hlen,hc⟩:=World.cells?_some h1
   refine ⟨o,⟨fun j v hv=>?_,ho⟩,hbb⟩
   have hj:=(List.getElem?_eq_some_iff.1 hv).1
   have:=hc j (by rw [hne] at hj; exact hj)
   rw [this,← hv,List.getElem?_eq_getElem hj])
  refine ⟨_,(List.range len).map f,rfl,⟨some a,len,cap,rfl,by simp,hl,by unfold maxLen at hm; omega,?_⟩,?_,?_⟩
  ·intro hp
   obtain ⟨b,off,spot⟩:=a
   have h0:=(hf 0 hp).1.1
   have hc0:=h0 0 _ (List.getElem?_eq_getElem (by rw [hne]; exact hs0))
   have hspot:spot = none:=by simpa [Addr.add] using World.cell?_spot hc0
   subst hspot
   refine ⟨b,off,rfl,fun i hi j v hv=>?_⟩
   have hi':i < len:=by simpa using hi
   have e9:(((List.range len).map f).map mk)[i] = mk (f i):=by simp
   rw [e9] at hv
   have:=(hf i hi').1.1 j v hv
   rw [Addr.add_mid,Addr.add_mid] at this
   exact this
  ·intro o ho
   obtain ⟨i,hi,rfl⟩:=List.mem_map.1 ho
   exact (hf i (List.mem_range.1 hi)).1.2
  ·have:=k_sum D f μ (List.range len) (fun i hi=>(hf i (List.mem_range.1 hi)).2)
   omega
instance:Inhabited KeepD:=⟨⟨⟨#[]⟩,0,false⟩⟩
instance:Inhabited IFile:=⟨⟨⟨#[]⟩,undef,[],0,false⟩⟩
instance:Inhabited OpD:=⟨⟨0,⟨#[]⟩,undef,[],undef,[],0,0,undef,[]⟩⟩
theorem xc0p {α:Type} (l:List α) (μ:α→Nat) (h:∀ a,1≤μ a):l.length≤(l.map μ).sum:=by
 induction l with
 | nil=>simp
 | cons a l ih=>have:=h a; simp only [List.length_cons,List.map_cons,List.sum_cons]; omega
theorem xb8s {fuel:Nat} {cs:List Value} {x:DataW H × List MemPlace} (h:DataW.trod enc Tryz.prog W 0 (fun _=>true) true fuel 142 cs = some x) (hB:Rows.uptoBulk x.1≤1048576) :
  ∃ k:KeepD,cs = keC k∧OkKe k∧1≤Rows.uptoBulk x.1:=by
 obtain ⟨xs,n,_,rfl,hl,hlen,hf⟩:=DataW.trod_struct Tryz.underlying142 h
 rw [show Tryz.prog.cellsOf 142 = 3 from by kernel_rfl] at hl
 match xs,hlen with
 | [y0,y1,y2],_ =>
  have f0:DataW.trod enc Tryz.prog W 0 (fun _=>true) true n 9 ((cs.drop 0).take 1) = some y0:=by have this:DataW.trod enc Tryz.prog W 0 (fun _=>true) true n 9 ((cs.drop 0).take (Tryz.prog.cellsOf 9)) = some y0:=hf 0 _ rfl; rw [show Tryz.prog.cellsOf 9 = 1 from by kernel_rfl] at this; exact this
  have f1:DataW.trod enc Tryz.prog W 0 (fun _=>true) true n 3 ((cs.drop 1).take 1) = some y1:=by have this:DataW.trod enc Tryz.prog W 0 (fun _=>true) true n 3 ((cs.drop 1).take (Tryz.prog.cellsOf 3)) = some y1:=hf 1 _ rfl; rw [show Tryz.prog.cellsOf 3 = 1 from by kernel_rfl] at this; exact this
  have f2:DataW.trod enc Tryz.prog W 0 (fun _=>true) true n 4 ((cs.drop 2).take 1) = some y2:=by have this:DataW.trod enc Tryz.prog W 0 (fun _=>true) true n 4 ((cs.drop 2).take (Tryz.prog.cellsOf 4)) = some y2:=hf 2 _ rfl; rw [show Tryz.prog.cellsOf 4 = 1 from by kernel_rfl] at this; exact this
  simp only [List.map_cons,List.map_nil,Rows.uptoBulk,Rows.uptoBulkAll] at hB ⊢
  obtain ⟨z0,e0,q0,w0⟩:=DataW.trod_string Tryz.underlying9 f0
  have b0:z0.size + 1≤Rows.uptoBulk y0.1:=by rw [q0]; show _≤z0.data.toList.length + 1; rw [Array.length_toList]; exact Nat.le_refl _
  obtain ⟨z1,e1,q1,w1⟩:=DataW.trod_int Tryz.underlying3 f1
  have g1:=xa1h w1
  have b1:=xa0w y1.1
  obtain ⟨z2,e2,q2⟩:=DataW.trod_bool Tryz.underlying4 f2
  have b2:=xa0w y2.1
  have hd:cs.drop 3 = []:=List.drop_eq_nil_of_le (by omega)
  have this:=xa0u cs 0 1
  rw [e0,xa0u cs 1 1,e1,xa0u cs 2 1,e2,hd,List.drop_zero] at this
  exact ⟨⟨z0,z1,z2⟩,by rw [this]; rfl,⟨by show z0.size≤_; omega,g1⟩,by omega⟩
theorem xb3u {fuel:Nat} {cs:List Value} {x:DataW H × List MemPlace} (h:DataW.trod enc Tryz.prog W 0 (fun _=>true) true fuel 35 cs = some x) (hB:Rows.uptoBulk x.1≤1048576) :
  ∃ (v:Value) (l:List KeepD),cs = [v]∧RdC 3 W v (l.map keC)∧(∀ a∈l,OkKe a)∧l.length + 1≤Rows.uptoBulk x.1:=by
 obtain ⟨v,l,h1,h2,h3,h4⟩:=xa3p Tryz.underlying35 (by kernel_rfl:Tryz.prog.cellsOf 142 = 3) keC (by intro a; rfl) (by decide) OkKe (fun _=>1) (fun n cs y h hB=>xb8s h hB) h hB
 exact ⟨v,l,h1,h2,h3,by have:=xc0p l (fun _=>1) (by simp); omega⟩
theorem xb6t {fuel:Nat} {cs:List Value} {x:DataW H × List MemPlace} (h:DataW.trod enc Tryz.prog W 0 (fun _=>true) true fuel 112 cs = some x) (hB:Rows.uptoBulk x.1≤1048576) :
  ∃ k:Int × Int,cs = faC k∧OkFa k∧1≤Rows.uptoBulk x.1:=by
 obtain ⟨xs,n,_,rfl,hl,hlen,hf⟩:=DataW.trod_struct Tryz.underlying112 h
 rw [show Tryz.prog.cellsOf 112 = 2 from by kernel_rfl] at hl
 match xs,hlen with
 | [y0,y1],_ =>
  have f0:DataW.trod enc Tryz.prog W 0 (fun _=>true) true n 3 ((cs.drop 0).take 1) = some y0:=by have this:DataW.trod enc Tryz.prog W 0 (fun _=>true) true n 3 ((cs.drop 0).take (Tryz.prog.cellsOf 3)) = some y0:=hf 0 _ rfl; rw [show Tryz.prog.cellsOf 3 = 1 from by kernel_rfl] at this; exact this
  have f1:DataW.trod enc Tryz.prog W 0 (fun _=>true) true n 3 ((cs.drop 1).take 1) = some y1:=by have this:DataW.trod enc Tryz.prog W 0 (fun _=>true) true n 3 ((cs.drop 1).take (Tryz.prog.cellsOf 3)) = some y1:=hf 1 _ rfl; rw [show Tryz.prog.cellsOf 3 = 1 from by kernel_rfl] at this; exact this
  simp only [List.map_cons,List.map_nil,Rows.uptoBulk,Rows.uptoBulkAll] at hB ⊢
  obtain ⟨z0,e0,q0,w0⟩:=DataW.trod_int Tryz.underlying3 f0
  have g0:=xa1h w0
  have b0:=xa0w y0.1
  obtain ⟨z1,e1,q1,w1⟩:=DataW.trod_int Tryz.underlying3 f1
  have g1:=xa1h w1
  have b1:=xa0w y1.1
  have hd:cs.drop 2 = []:=List.drop_eq_nil_of_le (by omega)
  have this:=xa0u cs 0 1
  rw [e0,xa0u cs 1 1,e1,hd,List.drop_zero] at this
  exact ⟨(z0,z1),by rw [this]; rfl,⟨g0,g1⟩,by omega⟩
theorem xb1d {fuel:Nat} {cs:List Value} {x:DataW H × List MemPlace} (h:DataW.trod enc Tryz.prog W 0 (fun _=>true) true fuel 33 cs = some x) (hB:Rows.uptoBulk x.1≤1048576) :
  ∃ (v:Value) (l:List (Int × Int)),cs = [v]∧RdC 2 W v (l.map faC)∧(∀ a∈l,OkFa a)∧l.length + 1≤Rows.uptoBulk x.1:=by
 obtain ⟨v,l,h1,h2,h3,h4⟩:=xa3p Tryz.underlying33 (by kernel_rfl:Tryz.prog.cellsOf 112 = 2) faC (by intro a; rfl) (by decide) OkFa (fun _=>1) (fun n cs y h hB=>xb6t h hB) h hB
 exact ⟨v,l,h1,h2,h3,by have:=xc0p l (fun _=>1) (by simp); omega⟩
theorem xb8k {fuel:Nat} {cs:List Value} {x:DataW H × List MemPlace} (h:DataW.trod enc Tryz.prog W 0 (fun _=>true) true fuel 37 cs = some x) (hB:Rows.uptoBulk x.1≤1048576) :
  ∃ (n:Int) (v:Value) (l:List KeepD),cs = [.int .i64 n,v]∧Rng n∧RdC 3 W v (l.map keC)∧(∀ a∈l,OkKe a)∧l.length + 1≤Rows.uptoBulk x.1:=by
 obtain ⟨xs,n,_,rfl,hl,hlen,hf⟩:=DataW.trod_struct Tryz.underlying37 h
 rw [show Tryz.prog.cellsOf 37 = 2 from by kernel_rfl] at hl
 match xs,hlen with
 | [y0,y1],_ =>
  have f0:DataW.trod enc Tryz.prog W 0 (fun _=>true) true n 3 ((cs.drop 0).take 1) = some y0:=by have this:DataW.trod enc Tryz.prog W 0 (fun _=>true) true n 3 ((cs.drop 0).take (Tryz.prog.cellsOf 3)) = some y0:=hf 0 _ rfl; rw [show Tryz.prog.cellsOf 3 = 1 from by kernel_rfl] at this; exact this
  have f1:DataW.trod enc Tryz.prog W 0 (fun _=>true) true n 35 ((cs.drop 1).take 1) = some y1:=by have this:DataW.trod enc Tryz.prog W 0 (fun _=>true) true n 35 ((cs.drop 1).take (Tryz.prog.cellsOf 35)) = some y1:=hf 1 _ rfl; rw [show Tryz.prog.cellsOf 35 = 1 from by kernel_rfl] at this; exact this
  simp only [List.map_cons,List.map_nil,Rows.uptoBulk,Rows.uptoBulkAll] at hB ⊢
  obtain ⟨z0,e0,q0,w0⟩:=DataW.trod_int Tryz.underlying3 f0
  have g0:=xa1h w0
  have b0:=xa0w y0.1
  obtain ⟨v1,z1,e1,r1,a1,b1⟩:=xb3u f1 (by omega)
  have hd:cs.drop 2 = []:=List.drop_eq_nil_of_le (by omega)
  have this:=xa0u cs 0 1
  rw [e0,xa0u cs 1 1,e1,hd,List.drop_zero] at this
  exact ⟨z0,v1,z1,by rw [this]; rfl,g0,r1,a1,by omega⟩
end
end
section
open Go.RowKit Go.BigFrame Go.Maps Go.Sort
theorem xc3h (s:ByteArray):∀ n i r,s.size - i = n→ByteArray.toList.loop s i r = r.reverse++s.data.toList.drop i:=by
 intro n
 induction n with
 | zero =>
  intro i r h
  rw [ByteArray.toList.loop]
  have h1:s.size = s.data.toList.length:=(Array.length_toList).symm
  rw [if_neg (by omega),List.drop_eq_nil_of_le (by omega),List.append_nil]
 | succ n ih =>
  intro i r h
  rw [ByteArray.toList.loop]
  have h1:s.size = s.data.toList.length:=(Array.length_toList).symm
  have h2:i < s.data.toList.length:=by omega
  rw [if_pos (by omega),ih (i + 1) _ (by omega),List.drop_eq_getElem_cons h2]
  have h3:s.get! i = s.data.toList[i]:=by
   have h4:i < s.data.size:=by simpa using h2
   rw [Array.getElem_toList]
   exact getElem!_pos s.data i h4
  simp [h3]
theorem xa6s (s:ByteArray):s.toList = s.data.toList:=by
 unfold ByteArray.toList
 rw [xc3h s _ 0 [] rfl]
 simp
theorem xc1o (a b:ByteArray):Op.bytesLess a.toList b.toList = decide (a.data.toList < b.data.toList):=by
 rw [bytesLess_eq,xa6s,xa6s]
def okF (l:List IFile) (i:Nat) (h:i < l.length):Prop:=isNm l[i].nm = true∧0≤l[i].sy∧l[i].sy≤l[i].bs.length∧∀ hp:0 < i,l[i - 1].nm.data.toList < l[i].nm.data.toList
def FormedL (l:List IFile):Prop:=∀ i (h:i < l.length),okF l i h
def okB (l:List IFile) (i:Nat):Bool:=isNm (l.getD i default).nm && decide (0≤(l.getD i default).sy) && decide ((l.getD i default).sy≤(l.getD i default).bs.length) && (i == 0 || decide ((l.getD (i - 1) default).nm.data.toList < (l.getD i default).nm.data.toList))
def formedB (l:List IFile):Bool:=(List.range l.length).all (okB l)
theorem xc0r {l:List IFile} {i:Nat} (h:i < l.length):okB l i = true↔okF l i h:=by
 unfold okB okF
 rw [List.getD_eq_getElem?_getD,List.getElem?_eq_getElem h,Option.getD_some]
 by_cases hp:0 < i
 ·rw [List.getD_eq_getElem?_getD,List.getElem?_eq_getElem (show i - 1 < l.length by omega),Option.getD_some]
  have h0:(i == 0) = false:=by simp; omega
  simp only [h0,Bool.false_or,Bool.and_eq_true,decide_eq_true_eq]
  constructor
  ·rintro ⟨⟨⟨a,b⟩,c⟩,d⟩; exact ⟨a,b,c,fun _=>d⟩
  ·rintro ⟨a,b,c,d⟩; exact ⟨⟨⟨a,b⟩,c⟩,d hp⟩
 ·have h0:(i == 0) = true:=by simp; omega
  simp only [h0,Bool.true_or,Bool.and_eq_true,decide_eq_true_eq,and_true]
  constructor
  ·rintro ⟨⟨a,b⟩,c⟩; exact ⟨a,b,c,fun h9=>absurd h9 hp⟩
  ·rintro ⟨a,b,c,d⟩; exact ⟨⟨a,b⟩,c⟩
theorem xa1b (l:List IFile):formedB l = true↔FormedL l:=by
 unfold formedB
 rw [List.all_eq_true]
 constructor
 ·intro h i hi
  exact (xc0r hi).1 (h i (List.mem_range.2 hi))
 ·intro h i hi
  exact (xc0r (List.mem_range.1 hi)).2 (h i (List.mem_range.1 hi))
theorem xa2i {l:List IFile} (h:¬ FormedL l):formedB l = false:=by
 cases h1:formedB l
 ·rfl
 ·exact absurd ((xa1b l).1 h1) h
set_option maxHeartbeats 2000000 in
theorem xa6v (v:Value) (l:List IFile) (w:World) (h:RdC 4 w v (l.map ifC)) (ho:∀ f∈l,OkIf w f) (hl:l.length≤1048576) :
  Calls Tryz.prog 67 #[v] w fun e w'=>e = .returned (.bool (formedB l))∧Kept [] w w':=by
 obtain ⟨ao,len,cap,rfl,h1,h2,h3,h4⟩:=h
 rw [List.length_map] at h1
 subst h1
 have H4:=hide h4
 have HO:=hide ho
 clear h4 ho
 go_enter Tryz.func67,Tryz.ntmps67
 go_wp2_with fail
 go_loopw [7] (fun t7 wr=>∃ i:Nat,i≤l.length∧t7 = .int .i64 i∧Hid (∀ j (hj:j < l.length),j < i→okF l j hj)∧Hid (Kept [] w wr)) (fun t _=>l.length - (intOf t).toNat)
 case atStart=>exact ⟨0,Nat.zero_le _,rfl,hide (fun j hj h=>by omega),hide (Kept.refl _ _)⟩
 case round =>
  obtain ⟨i,hi,rfl,HA,HK⟩:=hrel
  by_cases hlt:i < l.length
  ·have hlt':(i:Int) < l.length:=by omega
   obtain ⟨b,off,rfl,hcc⟩:=uh H4 (by omega)
   have hr:=hcc i (by rw [List.length_map]; exact hlt)
   rw [List.getElem_map] at hr
   have p0:=(uh HK).cell (hr 0 _ rfl) (by simp)
   have p1:=(uh HK).cell (hr 1 _ rfl) (by simp)
   have p2:=(uh HK).cell (hr 2 _ rfl) (by simp)
   have p3:=(uh HK).cell (hr 3 _ rfl) (by simp)
   rw [Nat.add_zero] at p0
   have hof:=uh HO l[i] (List.getElem_mem hlt)
   have HPR:=hide (fun (hp:0 < i)=>by
    have h9:=hcc (i - 1) (by rw [List.length_map]; omega)
    rw [List.getElem_map] at h9
    exact h9 0 _ rfl:∀ hp:0 < i,w.cell? ⟨b,off + (i - 1) * 4 + 0,none⟩ = some (.string l[i - 1].nm))
   have HOK:Hid (isNm l[i].nm = true→0≤l[i].sy→l[i].sy≤l[i].bs.length→(∀ hp:0 < i,l[i - 1].nm.data.toList < l[i].nm.data.toList)→okF l i hlt):=hide (fun a1 a2 a3 a4=>⟨a1,a2,a3,a4⟩)
   have HNO:=hide (fun (hf:FormedL l)=>hf i hlt)
   unfold okF at HNO
   clear hr hcc
   obtain ⟨va,vl,vc,hv⟩:=(show ∃ va vl vc,l[i].v = .slice va vl vc by obtain ⟨a,b,c,h9,_⟩:=hof.1; exact ⟨a,b,c,h9⟩)
   have hvl:vl = l[i].bs.length:=by
    obtain ⟨a,b,c,h9,h10,_⟩:=hof.1
    rw [hv] at h9
    injection h9 with _ h9 _
    rw [h9,h10]
   have hnl:=hof.2.1
   rw [hv] at p1
   generalize hX:l[i] = X at *
   subst hvl
   clear hof hX
   go_upto_region 4 with fail
   have HK1:=hide ((uh HK).alloc (.cells #[.string X.nm,.slice va X.bs.length vc,.int .i64 X.sy,.bool X.nd] 150 (0,0)))
   have HG1:=hide (heap_alloc_new wr (.cells #[.string X.nm,.slice va X.bs.length vc,.int .i64 X.sy,.bool X.nd] 150 (0,0)))
   obtain ⟨W1,hW1⟩:∃ W,wr.alloc (.cells #[.string X.nm,.slice va X.bs.length vc,.int .i64 X.sy,.bool X.nd] 150 (0,0)) = W:=⟨_,rfl⟩
   rw [hW1] at HK1 HG1 ⊢
   clear hW1 p0 p1 p2 p3
   have c0:=cell_of_row _ _ 0 _ _ _ (uh HG1)
   have c1:=cell_of_row _ _ 1 _ _ _ (uh HG1)
   have c2:=cell_of_row _ _ 2 _ _ _ (uh HG1)
   simp at c0 c1 c2
   have HH2:=hide h2
   clear h2
   go_wp2_with fail
   refine Calls.mono (xa6p X.nm _ (by omega)) ?_
   rintro e w2 ⟨rfl,rfl⟩
   cases hn:isNm X.nm
   ·have HN:=hide hn
    clear hn
    go_wp2_with fail
    go_ret
    exact ⟨by rw [xa2i (fun hf=>by have h9:=(uh HNO hf).1; rw [uh HN] at h9; cases h9)]; rfl,uh HK1⟩
   ·have HN:=hide hn
    clear hn
    by_cases s0:X.sy < 0
    ·have HS:=hide s0
     go_wp2_with fail
     go_ret
     exact ⟨by rw [xa2i (fun hf=>by have h9:=(uh HNO hf).2.1; have:=uh HS; omega)]; rfl,uh HK1⟩
    ·have HS:=hide s0
     by_cases s1:(X.bs.length:Int) < X.sy
     ·have HS1:=hide s1
      go_wp2_with fail
      go_ret
      exact ⟨by rw [xa2i (fun hf=>by have h9:=(uh HNO hf).2.2.1; have:=uh HS1; omega)]; rfl,uh HK1⟩
     ·have HS1:=hide s1
      go_upto_region 6 with fail
      by_cases hp:0 < i
      ·have hip:(0:Int) < (i:Int):=by omega
       have q0:=(uh HK1).cell (uh HPR hp) (by simp)
       rw [Nat.add_zero] at q0
       have hsub:(i:Int) - 1 = ((i - 1:Nat):Int):=by omega
       have HLTP:=hide (fun hf=>(uh HNO hf).2.2.2 hp)
       have HOK2:=hide (fun (a4:l[i - 1].nm.data.toList < X.nm.data.toList)=>uh HOK (uh HN) (by have:=uh HS; omega) (by have:=uh HS1; omega) (fun _=>a4))
       generalize l[i - 1] = Y at q0 HLTP HOK2
       obtain ⟨i1,hi1⟩:∃ i1,i - 1 = i1:=⟨_,rfl⟩
       rw [hi1] at q0 hsub
       have hi1c:(i1:Int) < l.length:=by omega
       refine wp_region_quiet_lit (by kernel_rfl) (by kernel_rfl) ?_
       repeat (go_big_quiet_step (fail))
       refine wpQuiet_nil ?_
       rintro _ ⟨n5,rfl⟩
       rw [xc1o]
       by_cases hls:Y.nm.data.toList < X.nm.data.toList
       ·rw [decide_eq_true hls]
        have HLS:=hide hls
        clear hls q0 hsub hip
        go_wp2_with fail
        refine ⟨⟨i + 1,by omega,by simp,hide (fun j hj h9=>?_),hide ((uh HK1).drewN n5)⟩,?_⟩
        ·by_cases hji:j < i
         ·exact uh HA j hj hji
         ·have:j = i:=by omega
          subst this
          exact uh HOK2 (uh HLS)
        ·simp [intOf]; omega
       ·rw [decide_eq_false hls]
        have HLS:=hide hls
        clear hls q0 hsub hip
        go_wp2_with fail
        go_ret
        exact ⟨by rw [xa2i (fun hf=>uh HLS (uh HLTP hf))]; rfl,(uh HK1).drewN n5⟩
      ·have hip:¬ (0:Int) < (i:Int):=by omega
       refine wp_region_quiet_lit (by kernel_rfl) (by kernel_rfl) ?_
       repeat (go_big_quiet_step (fail))
       refine wpQuiet_nil ?_
       rintro _ ⟨n5,rfl⟩
       have HP:=hide hp
       go_wp2_with fail
       refine ⟨⟨i + 1,by omega,by simp,hide (fun j hj h9=>?_),hide ((uh HK1).drewN n5)⟩,?_⟩
       ·by_cases hji:j < i
        ·exact uh HA j hj hji
        ·have:j = i:=by omega
         subst this
         exact uh HOK (uh HN) (by have:=uh HS; omega) (by have:=uh HS1; omega) (fun h=>absurd h (uh HP))
       ·simp [intOf]; omega
  ·have hlt':¬ (i:Int) < l.length:=by omega
   have hie:i = l.length:=by omega
   subst hie
   go_wp2_with fail
   go_ret
   exact ⟨by rw [(xa1b l).2 (fun j hj=>uh HA j hj hj)]; rfl,uh HK⟩
def toDF (f:IFile):DF:=⟨f.nm,f.bs,f.sy.toNat,f.nd⟩
theorem xb0t {l:List IFile} (h:FormedL l):∀ (j i:Nat) (hj:j < l.length) (hi:i < j),l[i].nm.data.toList < l[j].nm.data.toList:=by
 intro j
 induction j with
 | zero=>intro i hj hi; omega
 | succ j ih =>
  intro i hj hi
  have h1:=(h (j + 1) hj).2.2.2 (by omega)
  by_cases hij:i = j
  ·subst hij
   exact h1
  ·exact List.lt_trans (ih i (by omega) (by omega)) h1
theorem xb1o {l:List IFile} (h:FormedL l):Dist (l.map toDF):=by
 unfold Dist
 rw [List.pairwise_map,List.pairwise_iff_getElem]
 intro i j hi hj hij e
 have h1:=xb0t h j i hj hij
 have e2:l[i].nm = l[j].nm:=e
 rw [e2] at h1
 exact List.lt_irrefl _ h1
set_option maxHeartbeats 1000000 in
theorem xc1d (sec:Int) (v:Value) (w:World) (h:sec < 1∨4096 < sec) :
  Calls Tryz.prog 35 #[.int .i64 sec,v] w fun e w'=>e = .returned (.tuple #[.pointer none,.int .i64 1])∧w' = w:=by
 by_cases h1:sec < 1
 ·clear h
  go_enter Tryz.func35,Tryz.ntmps35
  go_wp2_with fail
  go_ret2
  exact ⟨rfl,rfl⟩
 ·have h2:4096 < sec:=by omega
  clear h
  go_enter Tryz.func35,Tryz.ntmps35
  go_wp2_with fail
  go_ret2
  exact ⟨rfl,rfl⟩
set_option maxHeartbeats 1000000 in
theorem xb7e (sec:Int) (v:Value) (l:List IFile) (w:World) (h1:1≤sec) (h2:sec≤4096) (h:RdC 4 w v (l.map ifC)) (ho:∀ f∈l,OkIf w f) (hl:l.length≤1048576) (hf:formedB l = false) :
  Calls Tryz.prog 35 #[.int .i64 sec,v] w fun e w'=>e = .returned (.tuple #[.pointer none,.int .i64 3])∧Kept [] w w':=by
 have HC:=hide (xa6v v l w h ho hl)
 rw [hf] at HC
 have e1:¬ sec < 1:=by omega
 have e2:¬ 4096 < sec:=by omega
 clear h ho hf h1 h2
 go_enter Tryz.func35,Tryz.ntmps35
 go_wp2_with fail
 refine Calls.mono (uh HC) ?_
 rintro e w1 ⟨rfl,k1⟩
 have HK:=hide k1
 clear k1
 go_wp2_with fail
 go_ret2
 exact ⟨rfl,uh HK⟩
set_option maxHeartbeats 2000000 in
theorem xc4e (sec:Nat) (v:Value) (l:List IFile) (w:World) (h1:1≤sec) (h2:sec≤4096) (h:RdC 4 w v (l.map ifC)) (ho:∀ f∈l,OkIf w f) (hl:l.length≤1048576) (hf:formedB l = true) :
  Calls Tryz.prog 35 #[.int .i64 sec,v] w fun e w'=>∃ d m u gs,e = .returned (.tuple #[.pointer (some ⟨d,0,none⟩),.int .i64 0])∧DkAt w' d sec m l.length u (.map none) 0 0 false (fun _=>none) gs∧gs.map absF = l.map toDF∧Kept [] w w'∧∀ x∈dkB d m u (.map none) gs,w.heap.size≤x:=by
 have HC:=hide (xa6v v l w h ho hl)
 rw [hf] at HC
 have HF:=hide ((xa1b l).1 hf)
 have e1:¬ (sec:Int) < 1:=by omega
 have e2:¬ 4096 < (sec:Int):=by omega
 obtain ⟨ao,len,cap,rfl,g1,g2,g3,g4⟩:=h
 rw [List.length_map] at g1
 subst g1
 have H4:=hide g4
 have HO:=hide ho
 have HS:=hide (And.intro h1 h2)
 clear g4 ho hf h1 h2
 go_enter Tryz.func35,Tryz.ntmps35
 go_wp2_with fail
 refine Calls.mono (uh HC) ?_
 rintro e w1 ⟨rfl,k1⟩
 have HK1:=hide k1
 have hmm:=run_makeMap (P:=Tryz.prog) 106 w1
 clear k1
 go_wp2_with fail
 have k2:=(((Kept.refl [] w1).alloc (.map #[] 0)).alloc (.cells #[.int .i64 sec,.map (some w1.heap.size),.slice none 0 0,.map none,.int .i64 0,.int .i64 0,.bool false] 110 (0,0)))
 have hrow:=heap_alloc_new (w1.alloc (.map #[] 0)) (.cells #[.int .i64 sec,.map (some w1.heap.size),.slice none 0 0,.map none,.int .i64 0,.int .i64 0,.bool false] 110 (0,0))
 rw [show (w1.alloc (.map #[] 0)).heap.size = w1.heap.size + 1 by simp] at hrow
 have HD0:=hide (⟨hrow,⟨0,.map [],(World.ownsMap_made w1 Tryz.prog 9 ptrElem).alloc _,Nat.le_refl _,MapIs.empty⟩,Qr.nil _ _,.inl ⟨rfl,fun _=>rfl⟩,by simp,List.Pairwise.nil,by simp [mblk]⟩:DkAt ((w1.alloc (.map #[] 0)).alloc (.cells #[.int .i64 sec,.map (some w1.heap.size),.slice none 0 0,.map none,.int .i64 0,.int .i64 0,.bool false] 110 (0,0))) (w1.heap.size + 1) sec w1.heap.size 0 (.slice none 0 0) (.map none) 0 0 false (fun _=>none) [])
 have HK2:=hide ((uh HK1).trans k2 (by simp))
 have HS1:=hide (uh HK1).size
 clear hrow k2 hmm
 go_loopw [24] (fun t24 wr=>∃ (i:Nat) (u:Value) (gs:List DFile),i≤l.length∧t24 = .int .i64 i∧Hid (DkAt wr (w1.heap.size + 1) sec w1.heap.size i u (.map none) 0 0 false (fun _=>none) gs)∧Hid (gs.map absF = (l.take i).map toDF)∧Hid (Kept [] w wr)∧Hid (∀ x∈dkB (w1.heap.size + 1) w1.heap.size u (.map none) gs,w.heap.size≤x)) (fun t _=>l.length - (intOf t).toNat)
 case atStart=>exact ⟨0,_,[],Nat.zero_le _,rfl,HD0,hide rfl,HK2,hide (by intro x hx; have:=uh HS1; simp [dkB,blk,mblk] at hx; omega)⟩
 case round =>
  obtain ⟨i,u,gs,hi,rfl,HD,HGS,HK,HB⟩:=hrel
  by_cases hlt:i < l.length
  ·have hlt':(i:Int) < l.length:=by omega
   obtain ⟨b,off,rfl,hcc⟩:=uh H4 (by omega)
   have hr:=hcc i (by rw [List.length_map]; exact hlt)
   rw [List.getElem_map] at hr
   have p0:=(uh HK).cell (hr 0 _ rfl) (by simp)
   have p1:=(uh HK).cell (hr 1 _ rfl) (by simp)
   have p2:=(uh HK).cell (hr 2 _ rfl) (by simp)
   have p3:=(uh HK).cell (hr 3 _ rfl) (by simp)
   rw [Nat.add_zero] at p0
   have hof:=uh HO l[i] (List.getElem_mem hlt)
   have hok:=uh HF i hlt
   have HT:=hide (List.take_succ_eq_append_getElem hlt)
   have HLK:=hide (by
    refine xb0e ?_
    rw [uh HGS]
    unfold findA
    rw [List.find?_eq_none]
    intro x hx
    obtain ⟨a,ha,rfl⟩:=List.mem_map.1 hx
    obtain ⟨j,hj,rfl⟩:=List.getElem_of_mem ha
    have hj2:j < i:=by rw [List.length_take] at hj; omega
    rw [List.getElem_take]
    have h9:=xb0t (uh HF) i j hlt hj2
    intro e
    have e2:l[j].nm.data.toList = l[i].nm.data.toList:=by simpa [toDF] using e
    rw [e2] at h9
    exact List.lt_irrefl _ h9:look gs l[i].nm.data.toList = none)
   have HGL:=hide (by have:=congrArg List.length (uh HGS); rw [List.length_map,List.length_map,List.length_take] at this; omega:gs.length = i)
   clear hr hcc
   obtain ⟨va,vl,vc,hv⟩:=(show ∃ va vl vc,l[i].v = .slice va vl vc by obtain ⟨a,b,c,h9,_⟩:=hof.1; exact ⟨a,b,c,h9⟩)
   rw [hv] at p1
   have HRD:=hide (by rw [← hv]; exact hof.1.kept (uh HK) (by simp):Rd wr (.slice va vl vc) l[i].bs)
   have HNS:=hide hof.2.1
   have HNM:=hide hok.1
   have hsy:l[i].sy = ((l[i].sy.toNat:Nat):Int):=by have:=hok.2.1; omega
   have HSL:=hide (by have:=hok.2.2.1; omega:l[i].sy.toNat≤l[i].bs.length)
   have HLN:=hide (show l[i].bs.length≤140737488355328 by obtain ⟨a,b,c,h9,h10,h11,h12,_⟩:=hof.1; omega)
   clear hof hok hv
   have HTD:Hid (toDF l[i] = ⟨l[i].nm,l[i].bs,l[i].sy.toNat,l[i].nd⟩):=hide rfl
   rw [hsy] at p2
   generalize l[i].sy.toNat = SY at p2 HSL HTD
   generalize l[i] = X at p0 p1 p2 p3 HT HLK HRD HNS HNM HSL HLN HTD
   clear hsy
   go_upto_region 9 with fail
   have HG1:=hide (heap_alloc_new wr (.cells #[.string X.nm,.slice va vl vc,.int .i64 (SY:Int),.bool X.nd] 150 (0,0)))
   have HD1:=hide ((uh HD).kept ((Kept.refl [] wr).alloc (.cells #[.string X.nm,.slice va vl vc,.int .i64 (SY:Int),.bool X.nd] 150 (0,0))) (by simp))
   have HK1':=hide ((uh HK).alloc (.cells #[.string X.nm,.slice va vl vc,.int .i64 (SY:Int),.bool X.nd] 150 (0,0)))
   have HR1:=hide ((uh HRD).kept ((Kept.refl [] wr).alloc (.cells #[.string X.nm,.slice va vl vc,.int .i64 (SY:Int),.bool X.nd] 150 (0,0))) (by simp))
   obtain ⟨W1,hW1⟩:∃ W,wr.alloc (.cells #[.string X.nm,.slice va vl vc,.int .i64 (SY:Int),.bool X.nd] 150 (0,0)) = W:=⟨_,rfl⟩
   rw [hW1] at HG1 HD1 HK1' HR1 ⊢
   clear hW1 p0 p1 p2 p3 HD HRD
   have HGX:=hide (by
    intro hx
    simp only [List.mem_cons] at hx
    rcases hx with hx | hx | hx
    ·exact xa0d (uh HG1) (uh HD1).row (by decide) hx
    ·obtain ⟨n9,D9,ho9,_⟩:=(uh HD1).map
     exact map_ne ho9 (uh HG1) hx
    ·obtain ⟨cs,hc⟩:=xa1x (uh HD1).un hx
     exact xa0d (uh HG1) hc (by decide) rfl:wr.heap.size∉(w1.heap.size + 1) :: w1.heap.size :: blk u)
   refine xc3r (by kernel_rfl) (by kernel_rfl) (by kernel_rfl) (by kernel_rfl) (by kernel_rfl) (by kernel_rfl) (by kernel_rfl) (by kernel_rfl) (by kernel_rfl) (by kernel_rfl) (by kernel_rfl) (by kernel_rfl) (by kernel_rfl) (by kernel_rfl) (by kernel_rfl) (by kernel_rfl) (by kernel_rfl) (by kernel_rfl) (by kernel_rfl) (by kernel_rfl) (by kernel_rfl) (by kernel_rfl) (by kernel_rfl) (by kernel_rfl) (by kernel_rfl) (by kernel_rfl) rfl rfl rfl
    (.pointer (some ⟨w1.heap.size + 1,0,none⟩)) (.pointer (some ⟨wr.heap.size,0,none⟩)) (.string X.nm) (.pointer (some ⟨wr.heap.size,1,none⟩)) (.slice va vl vc) (.pointer (some ⟨wr.heap.size,2,none⟩)) (.int .i64 (SY:Int)) (.pointer (some ⟨wr.heap.size,3,none⟩)) (.bool X.nd) _ _ _ _ _ _ _ _ _
    (fun w'=>w'.heap[wr.heap.size]? = some (.cells #[.string X.nm,.slice va vl vc,.int .i64 (SY:Int),.bool X.nd] 150 (0,0)))
    (fun w'=>Kept [] W1 w')
    (fun u5 w'=>(∃ g,u5 = .slice (some ⟨g,0,none⟩) X.bs.length X.bs.length∧W1.heap.size≤g∧w'.heap[g]? = some (.cells (X.bs.map Go.Proofs.YtkolfhgbojenjaaGreatDoor.u8).toArray 5 (0,0)))∧Kept [] W1 w')
    (fun u5 u11 w'=>(∃ g,u5 = .slice (some ⟨g,0,none⟩) X.bs.length X.bs.length∧W1.heap.size≤g∧w'.heap[g]? = some (.cells (X.bs.map Go.Proofs.YtkolfhgbojenjaaGreatDoor.u8).toArray 5 (0,0)))∧(∃ G,u11 = .pointer (some ⟨G,0,none⟩)∧W1.heap.size≤G∧w'.heap[G]? = some (.cells #[.string X.nm,u5,.int .i64 (SY:Int),.bool X.nd] 119 (0,0)))∧Kept [] W1 w')
    (fun u5 u11 u12 w'=>∃ (u':Value) (F:DFile),u12 = .tuple #[]∧absF F = toDF X∧DkAt w' (w1.heap.size + 1) sec w1.heap.size (i + 1) u' (.map none) 0 0 false (fun _=>none) (gs++[F])∧Kept ((w1.heap.size + 1) :: w1.heap.size :: blk u) W1 w'∧(∀ x∈blk u',x∈blk u∨W1.heap.size≤x)∧(∀ x∈F.g :: blk F.v,W1.heap.size≤x))
    (fun u5=>.agg #[.string X.nm,u5,.int .i64 (SY:Int),.bool X.nd])
    (by simp only [Act.put,sa1,sa2,sa3]; rfl) (by exact Or.inl ⟨by rfl,fun W' hW'=>by go_simp⟩)
    (by simp only [Act.put,sa1,sa2,sa3]; rfl) (by exact Or.inl ⟨by rfl,fun W' hW'=>by go_simp⟩)
    (by simp only [Act.put,sa1,sa2,sa3]; rfl) (by exact Or.inl ⟨by rfl,fun W' hW'=>by have h9:=cell_of_row _ _ 0 _ _ _ hW'; simp at h9; go_simp⟩)
    (by simp only [Act.put,sa1,sa2,sa3]; rfl) (by exact Or.inl ⟨by rfl,fun W' hW'=>by go_simp⟩)
    (by simp only [Act.put,sa1,sa2,sa3]; rfl) (by exact Or.inl ⟨by rfl,fun W' hW'=>by have h9:=cell_of_row _ _ 1 _ _ _ hW'; simp at h9; go_simp⟩)
    (by simp only [Act.put,sa1,sa2,sa3]; rfl) (by exact Or.inl ⟨by rfl,fun W' hW'=>by go_simp⟩)
    (by simp only [Act.put,sa1,sa2,sa3]; rfl) (by exact Or.inl ⟨by rfl,fun W' hW'=>by have h9:=cell_of_row _ _ 2 _ _ _ hW'; simp at h9; go_simp⟩)
    (by simp only [Act.put,sa1,sa2,sa3]; rfl) (by exact Or.inl ⟨by rfl,fun W' hW'=>by go_simp⟩)
    (by simp only [Act.put,sa1,sa2,sa3]; rfl) (by exact Or.inl ⟨by rfl,fun W' hW'=>by have h9:=cell_of_row _ _ 3 _ _ _ hW'; simp at h9; go_simp⟩)
    (Kept.refl [] W1).drew
    ⟨fun w' h=>h.heap (uh HG1) (by simp),fun u5 w' h=>h.2.heap (uh HG1) (by simp),fun u5 u11 w' h=>h.2.2.heap (uh HG1) (by simp),fun u5 u11 u12 w' h=>by obtain ⟨u',F,_,_,_,k9,_⟩:=h; exact k9.heap (uh HG1) (uh HGX)⟩
    (by
     intro w' k K hK
     refine xa0f rfl Tryz.call46 [.slice va vl vc] rfl (xa4z _ X.bs w' ((uh HR1).kept k (by simp))) ?_
     rintro e w2 ⟨rfl,k2,h2⟩
     exact ⟨_,rfl,hK _ _ ⟨⟨_,rfl,k.size,h2⟩,k.trans k2 (by simp)⟩⟩)
    (by
     rintro u5 w' ⟨⟨g,rfl,hg,hh⟩,k⟩ K hK
     simp only [Act.put,sa1,sa2,sa3] at hK ⊢
     unfold Oper.wp execOp
     go_simp
     exact hK _ _ ⟨⟨_,rfl,hg,((Kept.refl [] w').alloc _).heap hh (by simp)⟩,⟨_,rfl,k.size,heap_alloc_new _ _⟩,k.alloc _⟩)
    (by
     rintro u5 u11 w' ⟨⟨g,rfl,hg,hh⟩,⟨G,rfl,hG,hGG⟩,k⟩ K hK
     refine xa0f rfl Tryz.call68 [.pointer (some ⟨w1.heap.size + 1,0,none⟩),.pointer (some ⟨G,0,none⟩)] rfl (xc0s (w1.heap.size + 1) sec w1.heap.size i ⟨G,X.nm,.slice (some ⟨g,0,none⟩) X.bs.length X.bs.length,X.bs,SY,X.nd⟩ w' u (.map none) 0 0 false (fun _=>none) gs ((uh HD1).kept k (by simp)) ⟨hGG,xa6m hh (uh HLN) (Nat.zero_le _),(uh HR1).byte,uh HSL⟩ (by omega) (by have:=uh HGL; omega) (by have:=uh HNS; show X.nm.size≤_; omega) (uh HLK) ?_) ?_
     ·intro a ha
      have h8:=(uh HD1).lt a.g (dkB_g ha)
      refine ⟨by show a.g≠G; omega,?_⟩
      intro x hx hy
      simp only [blk,List.mem_singleton] at hy
      have h7:=(uh HD1).lt x (dkB_v ha hx)
      omega
     ·rintro e w2 ⟨u',rfl,hd2,hk2,hu2⟩
      refine ⟨_,rfl,hK _ _ ⟨u',_,rfl,by rw [uh HTD]; rfl,hd2,(k.mono (by simp)).trans hk2 (fun x hx=>.inl hx),?_,?_⟩⟩
      ·intro x hx
       rcases hu2 x hx with h9 | h9
       ·exact .inl h9
       ·exact .inr (Nat.le_trans k.size h9)
      ·intro x hx
       simp only [blk,List.mem_cons,List.not_mem_nil,or_false] at hx
       rcases hx with rfl | rfl
       ·exact hG
       ·exact hg)
    (by rintro u5 w' ⟨⟨g,rfl,hg,hh⟩,k⟩; exact Or.inl ⟨by rfl,fun W' hW'=>by go_simp⟩)
    ?_
   rintro u5 u11 u12 w5 ⟨u',F,rfl,hF,hd5,hk5,hu5,hF5⟩
   simp only [Act.put,sa1,sa2,sa3]
   have hsz:=(uh HK1').size
   have HD5:=hide hd5
   have HGS5:=hide (by rw [List.map_append,uh HGS,uh HT,List.map_append]; simp [hF]:(gs++[F]).map absF = (l.take (i + 1)).map toDF)
   have HK5:=hide ((uh HK1').trans hk5 (by intro x hx; right; exact uh HB x (by simp only [List.mem_cons] at hx; rcases hx with h | h | h <;> simp [dkB,h])))
   have HB5:=hide (by
    intro x hx
    simp only [dkB,mblk,List.mem_cons,List.mem_append,List.mem_flatMap,List.not_mem_nil,or_false,List.mem_singleton] at hx
    rcases hx with hx | hx | hx | ⟨a,ha,hx⟩
    ·exact uh HB x (by simp [dkB,hx])
    ·exact uh HB x (by simp [dkB,hx])
    ·rcases hu5 x hx with h9 | h9
     ·exact uh HB x (by simp [dkB,h9])
     ·omega
    ·rcases ha with ha | rfl
     ·rcases hx with rfl | hx
      ·exact uh HB _ (dkB_g ha)
      ·exact uh HB x (dkB_v ha hx)
     ·have:=hF5 x (by simpa using hx)
      omega:∀ x∈dkB (w1.heap.size + 1) w1.heap.size u' (.map none) (gs++[F]),w.heap.size≤x)
   clear hF hd5 hk5 hu5 hF5 hsz
   go_wp2_with fail
   refine ⟨⟨i + 1,u',gs++[F],by omega,by simp,HD5,HGS5,HK5,HB5⟩,?_⟩
   simp [intOf]; omega
  ·have hlt':¬ (i:Int) < l.length:=by omega
   have hie:i = l.length:=by omega
   subst hie
   rw [List.take_length] at HGS
   go_wp2_with fail
   go_ret2
   exact ⟨_,rfl,_,u,gs,uh HD,uh HGS,uh HK,uh HB⟩
end
section
open Go.RowKit Go.BigFrame Go.Maps
def MapF (D:DataW Unit) (ft:Int→Option Int):Prop:=∀ a,Maps.has D (.int .i64 a) = (ft a).isSome∧∀ z,D.atKey (.int .i64 a) z = match ft a with | none=>z | some c=>.lit (.int .i64 c)
theorem MapF.empty:MapF (.map []) (fun _=>none):=fun s=>⟨rfl,fun z=>Maps.atKey_of_not_has rfl z⟩
theorem MapF.put {D:DataW Unit} {f:Int→Option Int} (h:MapF D f) (hm:Maps.IsMap D) (a:Int) (hk:WideAt.IsKeyLit (.int .i64 a)) (c:Int) :
  MapF (D.put (.int .i64 a) (.lit (.int .i64 c))) (fun t=>if t = a then some c else f t):=by
 intro t
 by_cases ht:t = a
 ·subst ht
  simp only [if_true]
  exact ⟨Maps.has_put_same hm hk _,fun z=>Maps.atKey_put_same hm hk _ z⟩
 ·have hne:Lit.int .i64 t≠Lit.int .i64 a:=by simpa using ht
  simp only [if_neg ht]
  exact ⟨by rw [Maps.has_put_other hne]; exact (h t).1,fun z=>by rw [Maps.atKey_put_other hne]; exact (h t).2 z⟩
theorem xb0b (ks:List (Int × Int)) (k:Int × Int) (s:Int):fstF (ks++[k]) s = if (fstF ks s).isSome then fstF ks s else if s = k.1 then some k.2 else none:=by
 unfold fstF
 rw [List.find?_append]
 cases List.find? (fun x=>x.1 == s) ks with
 | some x=>rfl
 | none =>
  simp only [Option.none_or,Option.map_none,Option.isSome_none,Bool.false_eq_true,if_false]
  by_cases h:s = k.1
  ·subst h; simp
  ·rw [if_neg h]
   have:(k.1 == s) = false:=by simpa using fun e=>h e.symm
   simp [this]
theorem xc1z {ks:List (Int × Int)} {k:Int × Int} (h:fstF ks k.1 = none):(fun t=>if t = k.1 then some k.2 else fstF ks t) = fstF (ks++[k]):=by
 funext t
 rw [xb0b]
 by_cases ht:t = k.1
 ·subst ht; rw [if_pos rfl,h]; simp
 ·rw [if_neg ht,if_neg ht]
  cases fstF ks t <;> rfl
theorem xb8f {ks:List (Int × Int)} {k:Int × Int} (h:(fstF ks k.1).isSome = true):fstF (ks++[k]) = fstF ks:=by
 funext t
 rw [xb0b]
 by_cases ht:t = k.1
 ·subst ht; rw [if_pos h]
 ·rw [if_neg ht]
  cases fstF ks t <;> rfl
theorem wf_rng {x:Int} (h:Rng x):(Lit.int .i64 x).wf = true:=by
 unfold Rng at h
 simp [Lit.wf,IntKind.min,IntKind.max,IntKind.signed,IntKind.bits]
 omega
set_option maxHeartbeats 2000000 in
theorem xc1q (d sec m N:Nat) (lv:Value) (fl:List (Int × Int)) (crash:Int) (w:World) (u fv:Value) (cr op:Int) (off:Bool) (ft:Int→Option Int) (fs:List DFile)
  (h:DkAt w d sec m N u fv cr op off ft fs) (hfl:RdC 2 w lv (fl.map faC)) (hfd:d∉zblk lv (fl.map faC)) (hfo:∀ x∈fl,OkFa x) (hll:fl.length≤1048576) :
  Calls Tryz.prog 12 #[.pointer (some ⟨d,0,none⟩),lv,.int .i64 crash] w fun e w'=>∃ M,e = .returned (.tuple #[])∧w.heap.size≤M∧DkAt w' d sec m (N + fl.length) u (.map (some M)) crash 0 off (fstF fl) fs∧Kept [d] w w':=by
 have HD:=hide h
 obtain ⟨ao,len,cap,rfl,g1,g2,g3,g4⟩:=hfl
 rw [List.length_map] at g1
 subst g1
 have H4:=hide g4
 have HFO:=hide hfo
 have HFD:=hide hfd
 have hrow:=h.row
 unfold DRow at hrow
 have HR:=hide hrow
 have c3:=cell_of_row _ _ 3 _ _ _ hrow
 have c4:=cell_of_row _ _ 4 _ _ _ hrow
 have c5:=cell_of_row _ _ 5 _ _ _ hrow
 simp at c3 c4 c5
 have z3:=frozen_of_row _ _ 3 _ _ hrow
 have z4:=frozen_of_row _ _ 4 _ _ hrow
 have z5:=frozen_of_row _ _ 5 _ _ hrow
 clear h g4 hfo hfd hrow
 go_enter Tryz.func12,Tryz.ntmps12
 go_wp2_with fail
 refine Calls.mono (xa1y d w sec m u fv cr op off (uh HD).row) ?_
 rintro e w1 ⟨rfl,rfl⟩
 go_upto_region 2 with fail
 have HR1:=hide (heap_setCell_same _ _ 4 _ _ (.int .i64 crash) (heap_setCell_same w1 _ 5 _ _ (.int .i64 0) (uh HR)))
 have HK1:=hide (((Kept.refl [d] w1).setCell (p:=⟨d,5,none⟩) (.inl (by simp)) (.int .i64 0)).setCell (p:=⟨d,4,none⟩) (.inl (by simp)) (.int .i64 crash))
 obtain ⟨W1,hW1⟩:∃ W,(w1.setCell ⟨d,5,none⟩ (.int .i64 0)).setCell ⟨d,4,none⟩ (.int .i64 crash) = W:=⟨_,rfl⟩
 rw [hW1] at HR1 HK1 ⊢
 clear hW1 c3 c4 c5 z3 z4 z5
 have hmm:=run_makeMap (P:=Tryz.prog) 108 W1
 have HK2:=hide ((uh HK1).alloc (.map #[] 0))
 have HR2:=hide (((Kept.refl [] W1).alloc (.map #[] 0)).heap (uh HR1) (by simp))
 have c3:(W1.alloc (.map #[] 0)).cell? ⟨d,3,none⟩ = some fv:=by have h9:=cell_of_row _ _ 3 _ _ _ (uh HR2); simp at h9; exact h9
 have z3:=frozen_of_row _ _ 3 _ _ (uh HR2)
 go_wp2_with fail
 have HR3:=hide (heap_setCell_same _ _ 3 _ _ (.map (some W1.heap.size)) (uh HR2))
 have HK3:=hide ((uh HK2).setCell (p:=⟨d,3,none⟩) (.inl (by simp)) (.map (some W1.heap.size)))
 have HDM:=hide (by have:=lt_of_block (uh HR1); omega:W1.heap.size≠d)
 have HO3:=hide ((World.ownsMap_made W1 Tryz.prog 3 (plainElem (H:=Unit) Tryz.prog 3)).setCell (a:=⟨d,3,none⟩) (uh HDM) (.map (some W1.heap.size)))
 obtain ⟨W3,hW3⟩:∃ W,(W1.alloc (.map #[] 0)).setCell ⟨d,3,none⟩ (.map (some W1.heap.size)) = W:=⟨_,rfl⟩
 rw [hW3] at HR3 HK3 HO3 ⊢
 clear hW3 c3 z3 hmm
 have HMS:=hide (by have:=(uh HK1).size; omega:w1.heap.size≤W1.heap.size)
 generalize hMM:W1.heap.size = M at *
 have HRR:=hide (uh HR3)
 go_loopw [25] (fun t25 wr=>∃ (i:Nat) (D:DataW Unit),i≤fl.length∧t25 = .int .i64 i∧Hid (wr.ownsMap Tryz.prog 3 (plainElem Tryz.prog 3) M i D)∧Hid (MapF D (fstF (fl.take i)))∧Hid (Kept [d] w1 wr)∧Hid (wr.heap[d]? = W3.heap[d]?)) (fun t _=>fl.length - (intOf t).toNat)
 case atStart=>exact ⟨0,.map [],Nat.zero_le _,rfl,HO3,hide MapF.empty,HK3,hide rfl⟩
 case round =>
  obtain ⟨i,D,hi,rfl,HO,HMF,HK,HE⟩:=hrel
  have HRW:=hide ((uh HE).trans (uh HR3))
  by_cases hlt:i < fl.length
  ·have hlt':(i:Int) < fl.length:=by omega
   obtain ⟨b,off',rfl,hcc⟩:=uh H4 (by omega)
   have hr:=hcc i (by rw [List.length_map]; exact hlt)
   rw [List.getElem_map] at hr
   have hbd:b∉[d]:=by
    intro hx
    simp only [List.mem_singleton] at hx
    exact uh HFD (xb3c (by simp [blk,hx]) (by intro e; simp at e; subst e; simp at hlt))
   have p0:=(uh HK).cell (hr 0 _ rfl) hbd
   have p1:=(uh HK).cell (hr 1 _ rfl) hbd
   rw [Nat.add_zero] at p0
   have HT:=hide (List.take_succ_eq_append_getElem hlt)
   have hX:=uh HFO fl[i] (List.getElem_mem hlt)
   clear hcc hr hbd
   generalize fl[i] = X at p0 p1 HT hX
   have HX:=hide hX
   clear hX
   go_upto_region 6 with fail
   have HG1:=hide (heap_alloc_new wr (.cells #[.int .i64 X.1,.int .i64 X.2] 112 (0,0)))
   have HOa:=hide ((uh HO).alloc (.cells #[.int .i64 X.1,.int .i64 X.2] 112 (0,0)))
   have HKa:=hide ((uh HK).alloc (.cells #[.int .i64 X.1,.int .i64 X.2] 112 (0,0)))
   have HRa:=hide (((Kept.refl [] wr).alloc (.cells #[.int .i64 X.1,.int .i64 X.2] 112 (0,0))).heap (uh HRW) (by simp))
   obtain ⟨V,hV⟩:∃ W,wr.alloc (.cells #[.int .i64 X.1,.int .i64 X.2] 112 (0,0)) = W:=⟨_,rfl⟩
   rw [hV] at HG1 HOa HKa HRa ⊢
   clear hV p0 p1
   have q0:=cell_of_row _ _ 0 _ _ _ (uh HG1)
   have q1:=cell_of_row _ _ 1 _ _ _ (uh HG1)
   have c3:=cell_of_row _ _ 3 _ _ _ (uh HRa)
   simp at q0 q1 c3
   have hkey:=Maps.keyOf_int_mk (P:=Tryz.prog) (k:=3) Tryz.underlying3 (a:=X.1) (wf_rng (uh HX).1)
   have hlk:=fun j:Nat=>xa5a (ft:=fstF (fl.take i)) (xa0c (w':=V.drewN j) (uh HOa) rfl) (uh HMF) X.1 hkey
   have HKEY:=hide hkey
   clear hkey
   cases hfs:fstF (fl.take i) X.1 with
   | some Y =>
    rw [hfs] at hlk
    simp only [Option.getD_some,Option.isSome_some] at hlk
    have HFS:=hide hfs
    clear hfs
    refine wp_region_quiet_lit (by kernel_rfl) (by kernel_rfl) ?_
    repeat (go_big_quiet_step (fail))
    refine wpQuiet_nil ?_
    rintro _ ⟨n5,rfl⟩
    clear hlk q0 q1 c3
    go_wp2_with fail
    refine ⟨⟨i + 1,D,by omega,by simp,hide ((uh HOa).mono (Nat.le_succ _)),hide ?_,hide ((uh HKa).drewN n5),hide ?_⟩,?_⟩
    ·rw [uh HT,xb8f (by rw [uh HFS]; rfl)]
     exact uh HMF
    ·exact (uh HRa).trans (uh HR3).symm
    ·simp [intOf]; omega
   | none =>
    rw [hfs] at hlk
    simp only [Option.getD_none,Option.isSome_none] at hlk
    have HFS:=hide hfs
    clear hfs
    refine wp_region_quiet_lit (by kernel_rfl) (by kernel_rfl) ?_
    repeat (go_big_quiet_step (fail))
    refine wpQuiet_nil ?_
    rintro _ ⟨n5,rfl⟩
    clear hlk
    go_upto_region 8 with fail
    refine xa0g 8 (by kernel_rfl) (by kernel_rfl) ?_
    simp only [List.take_succ_cons,List.take_zero,List.drop_succ_cons,List.drop_zero]
    repeat (go_big_quiet_step (fail))
    refine wpQuiet_nil ?_
    rintro _ ⟨n6,rfl⟩
    clear q0 q1 c3
    at_mapUpdate
    refine wpList_mapUpdate_in _ rfl _ _ _ 108 rfl 3 3 keyI Tryz.underlying108 (plainElem Tryz.prog 3) M i D rfl (xa0c (uh HOa) rfl) (by unfold maxLen; omega) _ _ _ rfl rfl (uh HKEY) _ _ (plainElem_int Tryz.underlying3 (wf_rng (uh HX).2)) ?_
    intro w7 hown7 hturn7
    have HO7:=hide hown7
    have HK7:=hide ((((uh HKa).drewN (n5 + n6))).grown (by simpa [xa5n] using hturn7.grown) (by intro k hk; injection hk with hk; subst hk; exact .inr (uh HMS)))
    have HE7:=hide ((hturn7.grown.block d (lt_of_block (uh HRa)) (by simpa using fun e=>uh HDM e.symm)).trans ((uh HRa).trans (uh HR3).symm))
    clear hown7 hturn7
    go_wp2_with fail
    refine ⟨⟨i + 1,_,by omega,by simp,HO7,hide ?_,HK7,HE7⟩,?_⟩
    ·rw [uh HT,← xc1z (uh HFS)]
     exact (uh HMF).put (uh HO).isMap _ trivial X.2
    ·simp [intOf]; omega
  ·have hlt':¬ (i:Int) < fl.length:=by omega
   have hie:i = fl.length:=by omega
   subst hie
   rw [List.take_length] at HMF
   go_wp2_with fail
   refine bodyPost_end (v:=.tuple #[]) (results_none rfl _ _ _) rfl ⟨rfl,M,uh HMS,((uh HD).more (Nat.le_add_right N fl.length)).turnedF (uh HK) (uh HRW) (.inr ⟨M,_,D,rfl,uh HO,Nat.le_add_left _ _,uh HMF⟩) ?_,uh HK⟩
   simp only [mblk,List.mem_singleton]
   intro e
   obtain ⟨n9,D9,ho9,_⟩:=(uh HD).map
   have:=ho9.lt
   have:=uh HMS
   omega
end
section
open Go.RowKit Go.BigFrame Go.Maps Go.Sort

theorem plan_D (d nb bb:Nat) (B:List Nat) (σ:DSt) (lv:Value) (fl:List (Int × Int)) (cr:Int) (w:World) (h:DK w d B nb bb σ) (hfl:RdC 2 w lv (fl.map faC)) (hfd:∀ x∈zblk lv (fl.map faC),x∉B) (hfo:∀ x∈fl,OkFa x) (hll:fl.length≤1048576) :
  Calls Tryz.prog 12 #[.pointer (some ⟨d,0,none⟩),lv,.int .i64 cr] w fun e w'=>∃ B',e = .returned (.tuple #[])∧DK w' d B' (nb + fl.length) bb (stPlan σ fl cr)∧Ev w w' B B':=by
 obtain ⟨sec,cr0,op,off,ft,A⟩:=σ
 obtain ⟨⟨m,u,fv,fs,h1,rfl,hA⟩,h2,h3,h4,h5,h6,h7⟩:=h
 dsimp only at *
 subst hA
 refine Calls.mono (xc1q d sec m nb lv fl cr w u fv cr0 op off ft fs h1 hfl (fun hx=>hfd d hx (by simp [dkB])) hfo hll) ?_
 rintro e w' ⟨M,rfl,hM,hD,hK⟩
 refine ⟨_,rfl,⟨⟨m,u,_,fs,hD,rfl,rfl⟩,h2,⟨by simp [stPlan],by simp only [stPlan]; omega⟩,by simp only [stPlan]; omega,h5,h6,h7⟩,hK.mono (by intro x hx; simp at hx; simp [dkB,hx]),?_⟩
 intro x hx
 simp only [dkB,mblk,List.mem_cons,List.mem_append,List.not_mem_nil,or_false] at hx ⊢
 rcases hx with h | h | (h | h) | h
 ·exact .inl (.inl h)
 ·exact .inl (.inr (.inl h))
 ·exact .inl (.inr (.inr (.inl (.inl h))))
 ·exact .inr (by omega)
 ·exact .inl (.inr (.inr (.inr h)))
theorem from_D (sec:Nat) (v:Value) (l:List IFile) (bb:Nat) (w:World) (h1:1≤sec) (h2:sec≤4096) (h:RdC 4 w v (l.map ifC)) (ho:∀ f∈l,OkIf w f) (hl:l.length≤1048576) (hb:∀ f∈l,f.bs.length≤bb) (hf:formedB l = true) :
  Calls Tryz.prog 35 #[.int .i64 sec,v] w fun e w'=>∃ d B,e = .returned (.tuple #[.pointer (some ⟨d,0,none⟩),.int .i64 0])∧DK w' d B l.length bb ⟨sec,0,0,false,fun _=>none,l.map toDF⟩∧Kept [] w w'∧∀ x∈B,w.heap.size≤x:=by
 refine Calls.mono (xc4e sec v l w h1 h2 h ho hl hf) ?_
 rintro e w' ⟨d,m,u,gs,rfl,hD,hG,hK,hB⟩
 have hF:=(xa1b l).1 hf
 refine ⟨d,_,rfl,⟨⟨m,u,_,gs,hD,rfl,hG.symm⟩,xb1o hF,⟨by simp,by simp⟩,by simp,?_,⟨h1,h2⟩,?_⟩,hK,hB⟩
 ·intro f hf2
  obtain ⟨a,ha,rfl⟩:=List.mem_map.1 hf2
  exact hb a ha
 ·intro f hf2
  obtain ⟨a,ha,rfl⟩:=List.mem_map.1 hf2
  obtain ⟨i,hi,rfl⟩:=List.getElem_of_mem ha
  exact (hF i hi).1
end
section
open Go Go.RowKit Go.BigFrame
section
variable {P:Program} {Q:Exit→Act→World→Prop}
end
end
section
open Go.RowKit Go.BigFrame Go.Maps Go.Sort
theorem xb9o:∀ (ts:List IFile) (i:Nat) (h:i < ts.length) (j:Nat) (v:Value),(ifC ts[i])[j]? = some v→(ts.flatMap ifC)[i * 4 + j]? = some v
 | t :: r,0,_,j,v,hv=>by
  have hj:=(List.getElem?_eq_some_iff.1 hv).1
  rw [List.flatMap_cons,List.getElem?_append_left (by simpa using hj)]
  simpa using hv
 | t :: r,i + 1,h,j,v,hv=>by
  have h':i < r.length:=by simpa using h
  have h1:=xb9o r i h' j v (by simpa using hv)
  rw [List.flatMap_cons,List.getElem?_append_right (by simp [ifC]; omega)]
  rw [show (i + 1) * 4 + j - (ifC t).length = i * 4 + j by simp [ifC]; omega]
  exact h1
structure OwnI (B:Nat) (w:World) (v:Value) (ts:List IFile):Prop where
 own:w.ownsRow B 150 4 v ts.length (ts.flatMap ifC)
 el:∀ t∈ts,w.ownsRow B 5 1 t.v t.bs.length (t.bs.map u8)∧(∀ x∈t.bs,x < 256)∧t.bs.length≤140737488355328
 ap:ts.Pairwise fun a b=>∀ x∈blk a.v,x∉blk b.v
theorem OwnI.nil (B:Nat) (w:World):OwnI B w (.slice none 0 0) []:=⟨World.ownsRow_nil _ _ _ _,by simp,List.Pairwise.nil⟩
theorem OwnI.rd {B:Nat} {w:World} {v:Value} {ts:List IFile} (h:OwnI B w v ts):RdC 4 w v (ts.map ifC)∧∀ t∈ts,Rd w t.v t.bs:=by
 refine ⟨?_,fun t ht=>xa7t (h.el t ht).1 (h.el t ht).2.1 (h.el t ht).2.2⟩
 rcases h.own.2 with ⟨rfl,h0⟩ | ⟨g,cap,cur,rfl,_,hg,hc,hm',hs,ht⟩
 ·have:ts = []:=List.eq_nil_of_length_eq_zero h0
  subst this
  exact RdC.nil 4 w
 ·refine ⟨some ⟨g,0,none⟩,ts.length,cap,rfl,by simp,hc,by unfold maxLen at hm'; omega,fun _=>⟨g,0,rfl,fun i hi j u hu=>?_⟩⟩
  have hi':i < ts.length:=by simpa using hi
  rw [List.getElem_map] at hu
  have h9:=h.own.cells (g:=g) rfl (i * 4 + j) u (xb9o ts i hi' j u hu)
  rw [Addr.add_lit,Nat.zero_add] at h9
  rw [Nat.zero_add]
  exact h9
def iK (f:IFile):ByteArray × List Nat × Int × Bool:=(f.nm,f.bs,f.sy,f.nd)

theorem xb6q {l l':List IFile} (h:l'.map iK = l.map iK):formedB l' = formedB l∧l'.map toDF = l.map toDF∧l'.length = l.length:=by
 have hl:l'.length = l.length:=by have:=congrArg List.length h; simpa using this
 have hi:∀ i (h1:i < l.length) (h2:i < l'.length),iK l'[i] = iK l[i]:=by
  intro i h1 h2
  have:=congrArg (fun x=>x[i]?) h
  simpa [List.getElem?_eq_getElem h1,List.getElem?_eq_getElem h2] using this
 refine ⟨?_,?_,hl⟩
 ·rw [Bool.eq_iff_iff,xa1b,xa1b]
  have key:∀ (a b:List IFile),a.length = b.length→(∀ i (h1:i < b.length) (h2:i < a.length),iK a[i] = iK b[i])→FormedL b→FormedL a:=by
   intro a b hab hk hf i hia
   have hib:i < b.length:=by omega
   have e:=hk i hib hia
   simp only [iK,Prod.mk.injEq] at e
   obtain ⟨f1,f2,f3,f4⟩:=hf i hib
   refine ⟨by rw [e.1]; exact f1,by rw [e.2.2.1]; exact f2,by rw [e.2.2.1,e.2.1]; exact f3,fun hp=>?_⟩
   have e2:=hk (i - 1) (by omega) (by omega)
   simp only [iK,Prod.mk.injEq] at e2
   rw [e.1,e2.1]
   exact f4 hp
  exact ⟨key l l' hl.symm (fun i h1 h2=>(hi i h2 h1).symm),key l' l hl hi⟩
 ·have e:∀ f:IFile,toDF f = (fun (x:ByteArray × List Nat × Int × Bool)=>(⟨x.1,x.2.1,x.2.2.1.toNat,x.2.2.2⟩:DF)) (iK f):=fun f=>rfl
  have:∀ a:List IFile,a.map toDF = (a.map iK).map (fun (x:ByteArray × List Nat × Int × Bool)=>(⟨x.1,x.2.1,x.2.2.1.toNat,x.2.2.2⟩:DF)):=by
   intro a
   rw [List.map_map]
   rfl
  rw [this,this,h]
theorem OwnI.ok {B:Nat} {w:World} {v:Value} {ts l:List IFile} (h:OwnI B w v ts) (hk:ts.map iK = l.map iK) (ho:∀ f∈l,f.nm.size≤1048576∧Rng f.sy):∀ f∈ts,OkIf w f:=by
 intro f hf
 have h1:iK f∈l.map iK:=by rw [← hk]; exact List.mem_map.2 ⟨f,hf,rfl⟩
 obtain ⟨a,ha,hae⟩:=List.mem_map.1 h1
 simp only [iK,Prod.mk.injEq] at hae
 exact ⟨h.rd.2 f hf,by rw [← hae.1]; exact (ho a ha).1,by rw [← hae.2.2.1]; exact (ho a ha).2⟩
def FrR (sec:Int) (l:List IFile):Nat:=if 1≤sec∧sec≤4096 then (if formedB l then 0 else 3) else 1
theorem xb8i (sec:Int) (v:Value) (l ts:List IFile) (B bb:Nat) (w:World) (h:OwnI B w v ts) (hk:ts.map iK = l.map iK) (ho:∀ f∈l,f.nm.size≤1048576∧Rng f.sy) (hl:l.length≤1048576) (hb:∀ f∈l,f.bs.length≤bb) :
  Calls Tryz.prog 35 #[.int .i64 sec,v] w fun e w'=>∃ p,e = .returned (.tuple #[p,.int .i64 (FrR sec l:Nat)])∧Kept [] w w'∧(FrR sec l≠0→p = .pointer none)∧(FrR sec l = 0→∃ d D,p = .pointer (some ⟨d,0,none⟩)∧DK w' d D l.length bb ⟨sec.toNat,0,0,false,fun _=>none,l.map toDF⟩∧∀ x∈D,w.heap.size≤x):=by
 obtain ⟨k1,k2,k3⟩:=xb6q hk
 have hok:=h.ok hk ho
 unfold FrR
 by_cases hs:1≤sec∧sec≤4096
 ·rw [if_pos hs]
  cases hf:formedB l
  ·refine Calls.mono (xb7e sec v ts w hs.1 hs.2 h.rd.1 hok (by omega) (by rw [k1]; exact hf)) ?_
   rintro e w' ⟨rfl,kk⟩
   exact ⟨_,rfl,kk,fun _=>rfl,fun h9=>by simp at h9⟩
  ·have hs2:((sec.toNat:Nat):Int) = sec:=by omega
   have hc:=from_D sec.toNat v ts bb w (by omega) (by omega) h.rd.1 hok (by omega) (by
    intro f hf2
    have h1:iK f∈l.map iK:=by rw [← hk]; exact List.mem_map.2 ⟨f,hf2,rfl⟩
    obtain ⟨a,ha,hae⟩:=List.mem_map.1 h1
    simp only [iK,Prod.mk.injEq] at hae
    rw [← hae.2.1]
    exact hb a ha) (by rw [k1]; exact hf)
   rw [hs2] at hc
   refine Calls.mono hc ?_
   rintro e w' ⟨d,D,rfl,hd,kk,hn⟩
   rw [k2,k3] at hd
   exact ⟨_,rfl,kk,fun h9=>absurd rfl h9,fun _=>⟨d,D,rfl,hd,hn⟩⟩
 ·rw [if_neg hs]
  refine Calls.mono (xc1d sec v w (by omega)) ?_
  rintro e w' ⟨rfl,rfl⟩
  exact ⟨_,rfl,Kept.refl _ _,fun _=>rfl,fun h9=>by simp at h9⟩




end
section
open Go.RowKit

end


section
open Go.RowKit Go.BigFrame Go.Maps Go.Sort

end
section
open Go.RowKit

end
section
open Go.RowKit Go.BigFrame Go.Maps Go.Sort





end
section
open Go Go.RowKit Go.BigFrame
section
variable {P:Program} {Q:Exit→Act→World→Prop}
end
end
section
open Go.RowKit Go.BigFrame Go.Maps Go.Sort







end
section
open Go Go.RowKit Go.BigFrame
section
variable {P:Program} {Q:Exit→Act→World→Prop}
end
end
section
open Go.RowKit Go.BigFrame Go.Maps Go.Sort

end
section
open Go Go.RowKit Go.BigFrame
section
variable {P:Program} {Q:Exit→Act→World→Prop}
end
end
section
open Go.RowKit Go.BigFrame Go.Maps Go.Sort


end
section
open Go.RowKit Go.BigFrame

end
section
open Go.RowKit Go.BigFrame Go.Maps Go.Sort



end
section
open Go Go.RowKit Go.BigFrame
section
variable {P:Program} {Q:Exit→Act→World→Prop}
end
end
section
open Go.RowKit Go.BigFrame Go.Maps Go.Sort

end
section
open Go Go.RowKit Go.BigFrame
section
variable {P:Program} {Q:Exit→Act→World→Prop}
end
end
section
open Go.RowKit Go.BigFrame Go.Maps Go.Sort
theorem RdB.slice {w:World} {v:Value} {bs:List (Nat × List En)} (h:RdB w v bs):∃ ao cap,v = .slice ao bs.length cap∧bs.length≤cap∧cap≤9223372036854775807:=by
 obtain ⟨ao,cap,ts,rfl,rfl,h1,h2,_⟩:=h
 exact ⟨ao,cap,by rw [List.length_map],by rw [List.length_map]; exact h1,h2⟩
theorem xb1r {α:Type} {p q:List α} {k:Nat} (h:p.take k = q.take k) (hp:k < p.length) (hq:k < q.length) (e:p[k] = q[k]):p.take (k + 1) = q.take (k + 1):=by
 rw [List.take_succ_eq_append_getElem hp,List.take_succ_eq_append_getElem hq,h,e]
set_option maxHeartbeats 2000000 in
theorem xa9b (u v:Value) (p q:List (Nat × List En)) (w:World) (hu:RdB w u p) (hv:RdB w v q) :
  Calls Tryz.prog 21 #[u,v] w fun e w'=>e = .returned (.bool (decide (p = q)))∧Kept [] w w':=by
 obtain ⟨ao,cap,rfl,h1,h2⟩:=hu.slice
 obtain ⟨bo,cap2,rfl,g1,g2⟩:=hv.slice
 have HU:=hide hu
 have HV:=hide hv
 clear hu hv
 by_cases hl:p.length = q.length
 ·have hl1:((p.length:Int) != (q.length:Int)) = false:=by simp; omega
  have HL:=hide hl
  clear hl
  go_enter Tryz.func21,Tryz.ntmps21
  go_wp2_with fail
  clear hl1
  go_loopw [13] (fun t13 wr=>∃ k:Nat,k≤p.length∧t13 = .int .i64 (k:Int)∧Hid (p.take k = q.take k)∧Hid (Kept [] w wr)) (fun t _=>p.length - (intOf t).toNat)
  case atStart=>exact ⟨0,Nat.zero_le _,rfl,hide rfl,hide (Kept.refl _ _)⟩
  case round =>
   obtain ⟨k,hk,rfl,HT,HK⟩:=hrel
   by_cases hlt:k < p.length
   ·have hltq:k < q.length:=by have:=uh HL; omega
    have e3:(k:Int) < (p.length:Int):=by omega
    have e4:(k:Int) < (q.length:Int):=by omega
    obtain ⟨b,off,y,rfl,x0,x1,hy⟩:=((uh HU).old (uh HK)).at k hlt
    obtain ⟨b',off',y',rfl,x0',x1',hy'⟩:=((uh HV).old (uh HK)).at k hltq
    have hkc:(k:Int) < cap:=by omega
    have hkc':(k:Int) < cap2:=by omega
    have ha1:IntKind.i64.wrap ((k:Int) + 1) = (k:Int) + 1:=by rw [IntKind.wrap_i64]; omega
    have HP:=hide (fun e=>xb1r (uh HT) hlt hltq e)
    have HNE:=hide (fun (hn:p[k]≠q[k]) (e:p = q)=>hn (by subst e; rfl))
    generalize p[k] = P at x0 x1 hy HP HNE
    generalize q[k] = Q at x0' x1' hy' HP HNE
    obtain ⟨f1,es1⟩:=P
    obtain ⟨f2,es2⟩:=Q
    dsimp only at x0 x1 hy x0' x1' hy'
    obtain ⟨ya,yn,yc,_,_,rfl,_⟩:=id hy
    obtain ⟨za,zn,zc,_,_,rfl,_⟩:=id hy'
    have HY:=hide hy
    have HY':=hide hy'
    clear hy hy'
    go_upto_region 6 with fail
    refine xa0g 8 (by kernel_rfl) (by kernel_rfl) ?_
    simp only [List.take_succ_cons,List.take_zero,List.drop_succ_cons,List.drop_zero]
    repeat (go_big_quiet_step (fail))
    refine wpQuiet_nil ?_
    rintro _ ⟨m5,rfl⟩
    have HSB:=hide (xa7f f1 f2 _ _ es1 es2 (wr.drewN m5) ((uh HY).old ((Kept.refl [] wr).drewN m5)) ((uh HY').old ((Kept.refl [] wr).drewN m5)))
    have HKD:=hide ((uh HK).drewN m5)
    clear x0 x1 x0' x1'
    by_cases he:f1 = f2∧es1 = es2
    ·obtain ⟨rfl,rfl⟩:=he
     rw [decide_eq_true rfl,decide_eq_true rfl,Bool.and_self] at HSB
     have HP2:=hide (uh HP rfl)
     go_wp2_with fail
     refine Calls.mono (uh HSB) ?_
     rintro e w3 ⟨rfl,k3⟩
     have HK3:=hide ((uh HKD).trans k3 (by simp))
     clear k3
     go_wp2_with fail
     go_roundw
     case rel=>exact ⟨k + 1,by omega,by simp,HP2,HK3⟩
     case measure=>simp [intOf]; omega
    ·have hf:(decide (f1 = f2) && decide (es1 = es2)) = false:=by
      rw [Bool.and_eq_false_iff,decide_eq_false_iff_not,decide_eq_false_iff_not]
      by_cases h9:f1 = f2
      ·exact Or.inr (fun h8=>he ⟨h9,h8⟩)
      ·exact Or.inl h9
     rw [hf] at HSB
     have HN2:=hide (uh HNE (fun h=>he ⟨congrArg Prod.fst h,congrArg Prod.snd h⟩))
     clear hf he
     go_wp2_with fail
     refine Calls.mono (uh HSB) ?_
     rintro e w3 ⟨rfl,k3⟩
     have HK3:=hide ((uh HKD).trans k3 (by simp))
     clear k3
     go_wp2_with fail
     go_ret
     exact ⟨by rw [decide_eq_false (uh HN2)]; rfl,uh HK3⟩
   ·have e3:¬ (k:Int) < (p.length:Int):=by omega
    have hie:k = p.length:=by omega
    subst hie
    have HEQ:=hide (by have h9:=uh HT; rw [List.take_length,uh HL,List.take_length] at h9; exact h9:p = q)
    go_wp2_with fail
    go_ret
    exact ⟨by rw [decide_eq_true (uh HEQ)]; rfl,uh HK⟩
 ·have hl1:((p.length:Int) != (q.length:Int)) = true:=by rw [bne_iff_ne]; omega
  have HNE:=hide (fun e:p = q=>hl (by rw [e]))
  clear hl
  go_enter Tryz.func21,Tryz.ntmps21
  go_wp2_with fail
  go_ret
  exact ⟨by rw [decide_eq_false (uh HNE)]; rfl,Kept.refl _ _⟩
def E3 (e:Nat):Prop:=e = 0∨e = 7∨e = 12
theorem opE_3 (ft:Int→Option Int) (cr op:Int):E3 (opE ft cr op 0):=by
 unfold opE E3
 (repeat' split) <;> simp_all
def nmS (σ:DSt):List ByteArray:=σ.A.map DF.nm
theorem xa5h (A:List DF) (s:ByteArray):(findA A s.data.toList).isSome = true↔s∈A.map DF.nm:=by
 unfold findA
 rw [List.find?_isSome,List.mem_map]
 constructor
 ·rintro ⟨f,hf,h⟩
  exact ⟨f,hf,ba_ext (by simpa using h)⟩
 ·rintro ⟨f,hf,rfl⟩
  exact ⟨f,hf,by simp⟩
theorem sync_3 {σ:DSt} {s:ByteArray} (h:s∈nmS σ):E3 (stSync σ s).1:=by
 unfold stSync
 split
 ·exact Or.inr (Or.inr rfl)
 ·rw [if_pos ((xa5h _ _).2 h)]
  exact opE_3 _ _ _
theorem xc2d {σ:DSt} {s:ByteArray} (p:List Nat) (h:s∈nmS σ):E3 (stAppend σ s p).1:=by
 unfold stAppend
 split
 ·exact Or.inr (Or.inr rfl)
 ·rw [if_pos ((xa5h _ _).2 h)]
  exact opE_3 _ _ _
theorem xc4i (σ:DSt):E3 (stNames σ).1:=by
 unfold stNames
 split
 ·exact Or.inr (Or.inr rfl)
 ·exact opE_3 _ _ _
theorem xc2s {σ:DSt} {s:ByteArray} (hs:isNm s = true) (h:s∉nmS σ):E3 (stCreate σ s).1:=by
 unfold stCreate
 split
 ·exact Or.inr (Or.inr rfl)
 ·have:ownA σ.A s = 0:=by
   unfold ownA
   rw [if_pos hs]
   cases hq:(findA σ.A s.data.toList).isSome
   ·rfl
   ·exact absurd ((xa5h _ _).1 hq) h
  rw [this]
  exact opE_3 _ _ _
theorem xc0f (σ:DSt) (s:ByteArray):nmS (stSync σ s).2 = nmS σ:=by
 unfold stSync nmS
 (repeat' split) <;> first | rfl | (exact upA_nm (fun x=>rfl))
theorem xa9d (σ:DSt) (s:ByteArray) (p:List Nat):nmS (stAppend σ s p).2 = nmS σ:=by
 unfold stAppend nmS
 (repeat' split) <;> first | rfl | (exact upA_nm (fun x=>rfl))
theorem xc1c (σ:DSt):nmS (stNames σ).2 = nmS σ:=by
 unfold stNames nmS
 (repeat' split) <;> first | rfl | (show (ndA σ.A).map DF.nm = _; unfold ndA; rw [List.map_map]; rfl)
theorem xa9e {σ:DSt} {s:ByteArray} (h:(stCreate σ s).1 = 0):nmS (stCreate σ s).2 = nmS σ++[s]:=by
 unfold stCreate at h ⊢
 split
 ·rename_i h1
  rw [if_pos h1] at h
  cases h
 ·rename_i h1
  rw [if_neg h1] at h
  have h2:opE σ.ft σ.cr σ.op (ownA σ.A s) = 0:=h
  have h3:ownA σ.A s = 0:=by
   unfold opE at h2
   by_cases h4:ownA σ.A s = 0
   ·exact h4
   ·split at h2
    ·cases h2
    ·first | exact h2 | (rw [if_pos h4] at h2; exact h2)
  show (if ownA σ.A s = 0∧opE σ.ft σ.cr σ.op (ownA σ.A s)≠7 then σ.A++[⟨s,[],0,false⟩] else σ.A).map DF.nm = _
  rw [if_pos ⟨h3,by rw [h2]; omega⟩,List.map_append]
  rfl
theorem thn_3 {r:Nat × DSt} {f:DSt→Nat × DSt} (h:E3 r.1) (hf:r.1 = 0→E3 (f r.2).1):E3 (thn r f).1:=by
 unfold thn
 split
 ·rename_i h0; exact hf h0
 ·exact h
theorem thn_ok {r:Nat × DSt} {f:DSt→Nat × DSt} (h:(thn r f).1 = 0):r.1 = 0∧(f r.2).1 = 0∧(thn r f).2 = (f r.2).2:=by
 unfold thn at h ⊢
 split
 ·rename_i h0; rw [if_pos h0] at h; exact ⟨h0,h,rfl⟩
 ·rename_i h0; rw [if_neg h0] at h; exact absurd h h0
theorem xc3z {σ:DSt} {n ep fs:Nat} {wd:Int} (h:nmB n∉nmS σ):E3 (stBegin σ n ep fs wd).1:=by
 unfold stBegin
 refine thn_3 (thn_3 (thn_3 (xc2s (nmB_ok n) h) (fun h1=>?_)) (fun h1=>?_)) (fun _=>xc4i _)
 ·exact xc2d _ (by rw [xa9e h1]; simp)
 ·obtain ⟨h2,h3,h4⟩:=thn_ok h1
  exact sync_3 (by rw [h4,xa9d,xa9e h2]; simp)
theorem xa7y {s:LSt} (h:lgFail s = 0):s.st = 0:=by
 unfold lgFail at h
 split at h
 ·exact h
 ·cases h
theorem xb6d {σ:DSt} {s:LSt} (h:s.st≠0):lgSync σ s = (lgFail s,σ,s):=by
 unfold lgSync
 rw [if_pos (fun h0=>h (xa7y h0))]
theorem xa7w {σ:DSt} {s:LSt} (es:List En) (h:s.st≠0):lgAppend σ s es = (if chkB s.nx es≠0 then chkB s.nx es else lgFail s,σ,s):=by
 unfold lgAppend
 split
 ·rfl
 ·rw [if_pos (fun h0=>h (xa7y h0))]
def phF (f:DF):Nat:=f.bs.length + if f.sy = f.bs.length then 0 else 4096
def phi (A:List DF):Nat:=(A.map phF).sum
theorem xb4n (A:List DF):totA A≤phi A:=by
 unfold totA phi
 induction A with
 | nil=>simp
 | cons f r ih =>
  simp only [List.map_cons,List.sum_cons]
  have:f.bs.length≤phF f:=by unfold phF; omega
  omega
theorem xc5j (A C:List DF):phi (A++C) = phi A + phi C:=by unfold phi; rw [List.map_append,List.sum_append]
theorem xc3l (f:DF):phF f≤f.bs.length + 4096:=by unfold phF; split <;> omega
theorem phF_ge (f:DF):f.bs.length≤phF f:=by unfold phF; omega
theorem phi_up {A:List DF} (hd:Dist A) (s:ByteArray) (F:DF→DF) (n:Nat) (hF:∀ f,phF (F f)≤phF f + n):phi (upA A s F)≤phi A + n:=by
 have hd2:A.Pairwise fun a b=>a.nm≠b.nm:=hd
 unfold phi upA
 rw [List.map_map]
 induction hd2 with
 | nil=>simp
 | @cons x l hx hl ih =>
  simp only [List.map_cons,List.sum_cons,Function.comp]
  by_cases h:x.nm = s
  ·rw [if_pos h]
   have h2:(l.map (phF ∘ fun x=>if x.nm = s then F x else x)) = l.map phF:=by
    apply List.map_congr_left
    intro y hy
    simp only [Function.comp]
    rw [if_neg (fun e=>hx y hy (h.trans e.symm))]
   rw [h2]
   have:=hF x
   omega
  ·rw [if_neg h]
   have:=ih hl
   omega
theorem xc4x {A C:List DF} (h:A.Sublist C):phi A≤phi C:=by
 unfold phi
 induction h with
 | slnil=>simp
 | cons a _ ih=>simp only [List.map_cons,List.sum_cons]; omega
 | cons_cons a _ ih=>simp only [List.map_cons,List.sum_cons]; omega
theorem xb5w (σ:DSt) (s:ByteArray):phi (stCreate σ s).2.A≤phi σ.A:=by
 unfold stCreate
 split
 ·exact Nat.le_refl _
 ·show phi (if _ then _ else _)≤_
  split
  ·rw [xc5j]; show phi σ.A + phi [⟨s,[],0,false⟩]≤_; simp [phi,phF]
  ·exact Nat.le_refl _
theorem xa6q {σ:DSt} (hd:Dist σ.A) (s:ByteArray) (p:List Nat):phi (stAppend σ s p).2.A≤phi σ.A + p.length + 4096:=by
 unfold stAppend
 split
 ·show phi σ.A≤_; omega
 ·split
  ·have hF:∀ f:DF,phF { f with bs:=f.bs++p.take (appK σ p) }≤phF f + (p.length + 4096):=by
    intro f
    have h1:phF { f with bs:=f.bs++p.take (appK σ p) }≤(f.bs++p.take (appK σ p)).length + 4096:=xc3l _
    have h2:(f.bs++p.take (appK σ p)).length≤f.bs.length + p.length:=by rw [List.length_append,List.length_take]; omega
    have h3:=phF_ge f
    generalize (f.bs++p.take (appK σ p)).length = q at h1 h2
    omega
   have hu:=phi_up hd s (fun f=>{ f with bs:=f.bs++p.take (appK σ p) }) _ hF
   rw [← Nat.add_assoc] at hu
   exact hu
  ·show phi σ.A≤_; omega
theorem xa5t {σ:DSt} (hd:Dist σ.A) (s:ByteArray):phi (stSync σ s).2.A≤phi σ.A:=by
 unfold stSync
 split
 ·exact Nat.le_refl _
 ·split
  ·show phi (if _ then _ else _)≤_
   split
   ·refine phi_up hd s _ 0 (fun f=>?_)
    have h3:=phF_ge f
    unfold phF at h3 ⊢
    dsimp only
    rw [if_pos rfl]
    omega
   ·exact Nat.le_refl _
  ·exact Nat.le_refl _
theorem phi_nd (A:List DF):phi (ndA A) = phi A:=by
 unfold phi ndA
 rw [List.map_map]
 rfl
theorem xb8a (σ:DSt):phi (stNames σ).2.A≤phi σ.A:=by
 unfold stNames
 split
 ·exact Nat.le_refl _
 ·show phi (if _ then _ else _)≤_
  split
  ·rw [phi_nd]; exact Nat.le_refl _
  ·exact Nat.le_refl _
theorem xa2n (n m:Int) (h:0≤m):0≤wtn n m∧wtn n m≤m:=by unfold wtn; omega
theorem xc2x (k:KeepD) (sec:Nat) (f:DF) (hs:1≤sec) (hs2:sec≤4096) (hy:f.sy≤f.bs.length):phF (setF k sec f)≤phF f:=by
 have hN:setN k f≤f.bs.length:=by
  unfold setN
  have h9:=xa2n k.kb ((f.bs.length:Int) - f.sy) (by omega)
  omega
 unfold setF
 split
 ·rename_i h
  have ht:tse (setN k f) sec < sec:=Nat.mod_lt _ (by omega)
  have h1:phF ⟨f.nm,f.bs.take (setN k f)++List.replicate (tse (setN k f) sec) 0,setN k f + tse (setN k f) sec,true⟩ = setN k f + tse (setN k f) sec:=by
   unfold phF
   dsimp only
   rw [List.length_append,List.length_take,List.length_replicate,Nat.min_eq_left hN,if_pos rfl]
   omega
  rw [h1]
  unfold phF
  split
  ·rename_i h2
   exfalso
   have:setN k f = f.bs.length:=by
    unfold setN
    rw [h2]
    have h9:=xa2n k.kb ((f.bs.length:Int) - f.bs.length) (by omega)
    omega
   omega
  ·omega
 ·have h1:phF ⟨f.nm,f.bs.take (setN k f),setN k f,true⟩ = setN k f:=by
   unfold phF
   dsimp only
   rw [List.length_take,Nat.min_eq_left hN,if_pos rfl]
   omega
  rw [h1]
  have:=phF_ge f
  omega
theorem dist_S (σ:DSt):Dist σ.A↔(nmS σ).Nodup:=xa0x σ.A
theorem xa3v {σ:DSt} (h:Dist σ.A) (s:ByteArray):Dist (stSync σ s).2.A:=by rw [dist_S,xc0f]; exact (dist_S σ).1 h
theorem xa5m {σ:DSt} (h:Dist σ.A) (s:ByteArray) (p:List Nat):Dist (stAppend σ s p).2.A:=by rw [dist_S,xa9d]; exact (dist_S σ).1 h
theorem xb4v {σ:DSt} (h:Dist σ.A):Dist (stNames σ).2.A:=by rw [dist_S,xc1c]; exact (dist_S σ).1 h
theorem xb1v {σ:DSt} (h:Dist σ.A) (s:ByteArray):Dist (stCreate σ s).2.A:=by
 unfold stCreate
 split
 ·exact h
 ·show Dist (if ownA σ.A s = 0∧_ then _ else _)
  split
  ·rename_i h1
   rw [xa0x,List.map_append]
   have hn:s∉σ.A.map DF.nm:=fun hm=>by
    have h2:=(xa5h σ.A s).2 hm
    have h3:=h1.1
    unfold ownA at h3
    rw [h2] at h3
    split at h3 <;> simp at h3
   rw [List.nodup_append]
   refine ⟨(xa0x _).1 h,by simp,fun a ha b hb e=>?_⟩
   have hb2:b = s:=by simpa using hb
   rw [e,hb2] at ha
   exact hn ha
  ·exact h
theorem xb2h {r:Nat × DSt} {f:DSt→Nat × DSt} {n m:Nat} (h:phi r.2.A≤n) (hf:phi (f r.2).2.A≤n + m):phi (thn r f).2.A≤n + m:=by
 unfold thn
 split
 ·exact hf
 ·omega
theorem xa8m {r:Nat × DSt} {f:DSt→Nat × DSt} (h:Dist r.2.A) (hf:Dist (f r.2).2.A):Dist (thn r f).2.A:=by
 unfold thn
 split
 ·exact hf
 ·exact h
theorem xb0f {σ:DSt} (hd:Dist σ.A) (n ep fs:Nat) (wd:Int):phi (stBegin σ n ep fs wd).2.A≤phi σ.A + 4144∧Dist (stBegin σ n ep fs wd).2.A:=by
 unfold stBegin
 have hl:(ehB n ep fs wd).length≤48:=by
  by_cases h:wideB wd = true
  ·rw [xb4b h]; omega
  ·unfold ehB; rw [if_neg h]; simp
 have d1:=xb1v hd (nmB n)
 have p1:=xb5w σ (nmB n)
 have d2:=xa5m d1 (nmB n) (ehB n ep fs wd)
 have p2:=xa6q d1 (nmB n) (ehB n ep fs wd)
 have D2:=xa8m (f:=fun τ=>stAppend τ (nmB n) (ehB n ep fs wd)) d1 d2
 have P2:=xb2h (f:=fun τ=>stAppend τ (nmB n) (ehB n ep fs wd)) (m:=4144) p1 (by show phi (stAppend _ _ _).2.A≤_; omega)
 have D3:=xa8m (f:=fun τ=>stSync τ (nmB n)) D2 (xa3v D2 _)
 have P3:=xb2h (f:=fun τ=>stSync τ (nmB n)) (m:=0) P2 (Nat.le_trans (xa5t D2 _) P2)
 have D4:=xa8m (f:=stNames) D3 (xb4v D3)
 have P4:=xb2h (f:=stNames) (m:=0) P3 (Nat.le_trans (xb8a _) P3)
 exact ⟨P4,D4⟩
theorem xc4v {σ:DSt} (hd:Dist σ.A) (s:LSt):phi (lgRot σ s).2.1.A≤phi σ.A + 4144∧Dist (lgRot σ s).2.1.A:=by
 have d1:=xa3v hd (nmB s.num)
 have p1:=xa5t hd (nmB s.num)
 have h2:=xb0f d1 (s.num + 1) s.ep s.nx s.wd
 unfold lgRot
 split
 ·exact ⟨by show phi (stSync σ (nmB s.num)).2.A≤_; omega,d1⟩
 ·split
  ·exact ⟨by show phi (stSync σ (nmB s.num)).2.A≤_; omega,d1⟩
  ·split
   ·exact ⟨by have:=h2.1; dsimp only; omega,h2.2⟩
   ·exact ⟨by have:=h2.1; dsimp only; omega,h2.2⟩
theorem xc0k {σ:DSt} (hd:Dist σ.A) (s:LSt) (p:List Nat):phi (lgLay σ s p).2.1.A≤phi σ.A + p.length + 4096∧Dist (lgLay σ s p).2.1.A:=⟨xa6q hd _ _,xa5m hd _ _⟩
theorem xb8h {σ:DSt} (hd:Dist σ.A) (s:LSt) (p:List Nat):phi (lgWrite σ s p).2.1.A≤phi σ.A + p.length + 8240∧Dist (lgWrite σ s p).2.1.A:=by
 have h1:=xc4v hd s
 have h2:=xc0k h1.2 (lgRot σ s).2.2 p
 have h3:=xc0k hd s p
 unfold lgWrite
 split
 ·split
  ·exact ⟨by have:=h1.1; omega,h1.2⟩
  ·exact ⟨by have:=h1.1; have:=h2.1; omega,h2.2⟩
 ·exact ⟨by have:=h3.1; omega,h3.2⟩
theorem xa7v {σ:DSt} (hd:Dist σ.A) (s:LSt) (es:List En) (hn:s.nx < 18446744073709551616):phi (lgAppend σ s es).2.1.A≤phi σ.A + 48240∧Dist (lgAppend σ s es).2.1.A:=by
 unfold lgAppend
 split
 ·exact ⟨by show phi σ.A≤_; omega,hd⟩
 ·rename_i h0
  split
  ·exact ⟨by show phi σ.A≤_; omega,hd⟩
  ·have h1:=xb8h hd s (sbB s.nx es)
   have h2:=xc0w (by simpa using h0) hn
   exact ⟨by have:=h1.1; dsimp only; omega,h1.2⟩
theorem xb2p {σ:DSt} (hd:Dist σ.A) (s:LSt):phi (lgSync σ s).2.1.A≤phi σ.A∧Dist (lgSync σ s).2.1.A:=by
 unfold lgSync
 split
 ·exact ⟨Nat.le_refl _,hd⟩
 ·exact ⟨xa5t hd _,xa3v hd _⟩
theorem xa9j:∀ (l:List (List UInt8)) {σ:DSt},Dist σ.A→phi (stSyncs σ l).2.A≤phi σ.A∧Dist (stSyncs σ l).2.A
 | [],σ,hd=>⟨Nat.le_refl _,hd⟩
 | s :: r,σ,hd=>by
  unfold stSyncs
  have d1:=xa3v hd (strU s)
  have p1:=xa5t hd (strU s)
  split
  ·exact ⟨p1,d1⟩
  ·have ih:=xa9j r d1
   exact ⟨Nat.le_trans ih.1 p1,ih.2⟩
theorem xc1s {σ:DSt} (hd:Dist σ.A) (wd lim:Int):phi (opD σ wd lim).σ.A≤phi σ.A + 4144∧Dist (opD σ wd lim).σ.A:=by
 unfold opD
 split
 ·exact ⟨by show phi σ.A≤_; omega,hd⟩
 ·split
  ·exact ⟨by show phi σ.A≤_; omega,hd⟩
  ·split
   ·exact ⟨by show phi σ.A≤_; omega,hd⟩
   ·rename_i f _
    have h1:=xa9j f.sg hd
    have h2:=xb0f h1.2 (f.last + 1) (f.ep + 1) f.sz wd
    unfold opOf
    split
    ·exact ⟨by have:=h1.1; dsimp only; omega,h1.2⟩
    ·split
     ·exact ⟨by have:=h1.1; have:=h2.1; dsimp only; omega,h2.2⟩
     ·exact ⟨by have:=h1.1; have:=h2.1; dsimp only; omega,h2.2⟩
theorem xb1g {σ:DSt} (n:Int) (ks:List KeepD) (hs:1≤σ.sec) (hs2:σ.sec≤4096) (hy:∀ f∈σ.A,f.sy≤f.bs.length):phi (stRestart σ n ks).A≤phi σ.A:=by
 have h1:=xa4b σ.A (wtn n (unA σ.A)).toNat
 refine Nat.le_trans ?_ (xc4x h1)
 show phi (setA ks σ.sec (cutN (wtn n (unA σ.A)).toNat σ.A))≤_
 have hy2:∀ f∈cutN (wtn n (unA σ.A)).toNat σ.A,f.sy≤f.bs.length:=fun f hf=>hy f (h1.subset hf)
 generalize cutN (wtn n (unA σ.A)).toNat σ.A = C at hy2
 unfold phi setA
 rw [List.map_map]
 induction C with
 | nil=>simp
 | cons x r ih =>
  simp only [List.map_cons,List.sum_cons,Function.comp]
  have h3:=xc2x ((fstK ks x.nm.data.toList).getD zK) σ.sec x hs hs2 (hy2 x (by simp))
  have h4:=ih (fun f hf=>hy2 f (by simp [hf]))
  omega
theorem xb2v {σ:DSt} {wd:Int} {f g:FSt} {s:List UInt8} (h:stepF σ wd f s = some g):(nbE (natL s)≠0∧g.last = f.last)∨(nbE (natL s) = 0∧g.last = nbU (natL s)):=by
 unfold stepF at h
 split at h
 ·rename_i h1; cases h; exact Or.inl ⟨h1,rfl⟩
 ·rename_i h1
  have h1':nbE (natL s) = 0:=by simpa using h1
  split at h
  ·cases h
  ·split at h
   ·cases h; exact Or.inr ⟨h1',rfl⟩
   ·split at h
    ·cases h; exact Or.inr ⟨h1',rfl⟩
    ·cases h
theorem xa2l {σ:DSt} {wd:Int}:∀ {l:List (List UInt8)} {f g:FSt},findF σ wd f l = some g→l.Pairwise (fun a b=>a≤b)→(∀ s∈l,nbE (natL s) = 0→f.last≤nbU (natL s))→f.last≤g.last∧∀ s∈l,nbE (natL s) = 0→nbU (natL s)≤g.last
 | [],f,g,h,_,_=>by unfold findF at h; cases h; exact ⟨Nat.le_refl _,by simp⟩
 | s :: r,f,g,h,hp,hm=>by
  obtain ⟨hp1,hp2⟩:=List.pairwise_cons.1 hp
  cases hs:stepF σ wd f s with
  | none=>unfold findF at h; rw [hs] at h; cases h
  | some q =>
   have h2:findF σ wd q r = some g:=by unfold findF at h; rw [hs] at h; exact h
   rcases xb2v hs with ⟨h3,h4⟩ | ⟨h3,h4⟩
   ·have ih:=xa2l h2 hp2 (fun t ht he=>by rw [h4]; exact hm t (by simp [ht]) he)
    refine ⟨by rw [h4] at ih; exact ih.1,fun t ht he=>?_⟩
    rcases List.mem_cons.1 ht with rfl | ht
    ·exact absurd he h3
    ·exact ih.2 t ht he
   ·have ih:=xa2l h2 hp2 (fun t ht he=>by rw [h4]; exact num_le (hp1 t ht) h3 he)
    have h5:=hm s (by simp) h3
    refine ⟨by have:=ih.1; omega,fun t ht he=>?_⟩
    rcases List.mem_cons.1 ht with rfl | ht
    ·have:=ih.1; omega
    ·exact ih.2 t ht he
theorem xb7a (u:Nat):natL (nmB u).data.toList = nmL u:=by
 unfold natL nmB strB
 simp only [List.map_map]
 conv=>rhs; rw [← List.map_id (nmL u)]
 apply List.map_congr_left
 intro x hx
 have:=xa5q u x hx
 simp only [Function.comp,id]
 simp
 omega
theorem xa9s {u:Nat} (hu:u < 18446744073709551616):nbE (natL (nmB u).data.toList) = 0∧nbU (natL (nmB u).data.toList) = u:=by
 rw [xb7a]
 have h1:=xc0h hu
 unfold nbE nbU
 rw [h1,if_pos rfl,if_pos rfl]
 exact ⟨rfl,rfl⟩
end
section
open Go.RowKit Go.BigFrame
def endS:Nat→List (List En)→Nat
 | i,[]=>i
 | i,es :: r=>endS ((i + es.length) % 18446744073709551616) r
theorem xb2k:∀ (i:Nat) (L:List (List En)),(numS i L).length = L.length
 | _,[]=>rfl
 | i,es :: r=>by rw [numS,List.length_cons,xb2k _ r,List.length_cons]
theorem xa4y:∀ (i:Nat) (L:List (List En)),okS i L = true→L.length≤(runS (numS i L)).length
 | _,[],_=>by simp
 | i,es :: r,h=>by
  rw [okS,Bool.and_eq_true,decide_eq_true_eq] at h
  have:=xa4y _ r h.2
  rw [numS,xa3r,List.length_append,xa9v h.1,List.length_cons]
  omega
theorem xb9z:∀ (L:List (List En)) (i g:Nat) (A r:List Nat),i < 18446744073709551616→okS i L = true→(∀ es∈L,byN es) →
  rdL (L.length + g) (A++(runS (numS i L)++r)) A.length i = (numS i L++(rdL g (A++(runS (numS i L)++r)) (A.length + (runS (numS i L)).length) (endS i L)).1,(rdL g (A++(runS (numS i L)++r)) (A.length + (runS (numS i L)).length) (endS i L)).2)
 | [],i,g,A,r,_,_,_=>by simp [numS,runS,endS]
 | es :: L,i,g,A,r,hi,h,hb=>by
  rw [okS,Bool.and_eq_true,decide_eq_true_eq] at h
  obtain ⟨r1,r2,r3⟩:=xc4l A (runS (numS ((i + es.length) % 18446744073709551616) L)++r) h.1 hi (hb es (by simp))
  have hp:A++(runS (numS i (es :: L))++r) = A++(sbB i es++(runS (numS ((i + es.length) % 18446744073709551616) L)++r)):=by rw [numS,xa3r,List.append_assoc]
  have hp2:A++(sbB i es++(runS (numS ((i + es.length) % 18446744073709551616) L)++r)) = (A++sbB i es)++(runS (numS ((i + es.length) % 18446744073709551616) L)++r):=by rw [List.append_assoc]
  have ih:=xb9z L ((i + es.length) % 18446744073709551616) g (A++sbB i es) r (by omega) h.2 (fun x hx=>hb x (by simp [hx]))
  rw [← hp2,List.length_append] at ih
  rw [hp,List.length_cons,show L.length + 1 + g = (L.length + g) + 1 by omega,xc0u r1,r2,r3,Int.toNat_natCast,ih]
  rw [numS,xa3r,List.length_append,endS]
  simp [Nat.add_assoc]
theorem xb5r {a b c:Nat} {z:Int} {L:List (List En)} (r:List Nat) (ha:a < 18446744073709551616) (hb:b < 18446744073709551616) (hc:c < 18446744073709551616) (hz:wideB z = true) (hk:okS c L = true) (hy:∀ es∈L,byN es) :
  hdC (ehB a b c z++(runS (numS c L)++r)) = ⟨a,b,c,z.toNat⟩∧sgE (ehB a b c z++(runS (numS c L)++r)) = 0∧∃ R g,sgB (ehB a b c z++(runS (numS c L)++r)) = numS c L++R ∧
   (R,sgU (ehB a b c z++(runS (numS c L)++r))) = rdL g (ehB a b c z++(runS (numS c L)++r)) (48 + (runS (numS c L)).length) (endS c L):=by
 have h1:=xa8t ha hb hc hz (runS (numS c L)++r)
 have hX:hdC (ehB a b c z++(runS (numS c L)++r)) = ⟨a,b,c,z.toNat⟩:=by unfold hdC; rw [h1]; rfl
 have hl:(ehB a b c z++(runS (numS c L)++r)).length = L.length + ((ehB a b c z++(runS (numS c L)++r)).length - L.length):=by
  have:=xa4y c L hk
  rw [List.length_append,List.length_append]
  omega
 have hr:=xb9z L c ((ehB a b c z++(runS (numS c L)++r)).length - L.length) (ehB a b c z) r hc hk hy
 rw [← hl,xa1u hz] at hr
 refine ⟨hX,by unfold sgE; rw [h1]; rfl,(rdL ((ehB a b c z++(runS (numS c L)++r)).length - L.length) (ehB a b c z++(runS (numS c L)++r)) (48 + (runS (numS c L)).length) (endS c L)).1,(ehB a b c z++(runS (numS c L)++r)).length - L.length,?_,?_⟩
 ·unfold sgB; rw [h1,hX]; simp only [Option.isSome_some,if_true]; rw [hr]
 ·unfold sgU; rw [h1,hX]; simp only [Option.isSome_some,if_true]; rw [hr]
theorem xb8r {a b c:Nat} {z:Int} {L:List (List En)} (ha:a < 18446744073709551616) (hb:b < 18446744073709551616) (hc:c < 18446744073709551616) (hz:wideB z = true) (hk:okS c L = true) (hy:∀ es∈L,byN es) :
  hdC (ehB a b c z++runS (numS c L)) = ⟨a,b,c,z.toNat⟩∧sgE (ehB a b c z++runS (numS c L)) = 0∧sgB (ehB a b c z++runS (numS c L)) = numS c L∧sgU (ehB a b c z++runS (numS c L)) = 48 + (runS (numS c L)).length:=by
 obtain ⟨h1,h2,R,g,h3,h4⟩:=xb5r [] ha hb hc hz hk hy
 rw [List.append_nil] at h1 h2 h3 h4
 have hl:48 + (runS (numS c L)).length = (ehB a b c z++runS (numS c L)).length:=by rw [List.length_append,xa1u hz]
 have h5:rdL g (ehB a b c z++runS (numS c L)) (ehB a b c z++runS (numS c L)).length (endS c L) = ([],(ehB a b c z++runS (numS c L)).length):=rdL_no (rb_end _ _)
 rw [hl,h5] at h4
 obtain ⟨rfl,h6⟩:=Prod.mk.inj h4
 exact ⟨h1,h2,by rw [h3,List.append_nil],by rw [h6,hl]⟩
theorem xa9m:∀ (k i:Nat) (L:List (List En)),numS i (L.take k) = (numS i L).take k
 | 0,_,_=>by simp [numS]
 | k + 1,_,[]=>by simp [numS]
 | k + 1,i,es :: L=>by rw [List.take_succ_cons,numS,xa9m k _ L,numS,List.take_succ_cons]
theorem xb6e:∀ (k i:Nat) (L:List (List En)),okS i L = true→okS i (L.take k) = true
 | 0,_,_,_=>by simp [okS]
 | k + 1,_,[],_=>by simp [okS]
 | k + 1,i,es :: L,h=>by
  rw [okS,Bool.and_eq_true] at h
  rw [List.take_succ_cons,okS,h.1,xb6e k _ L h.2]
  rfl
theorem xb0v:∀ (k i:Nat) (L:List (List En)) (h:k < L.length),(numS i L)[k]? = some (endS i (L.take k),L[k])
 | 0,i,es :: L,_=>by simp [numS,endS]
 | k + 1,i,es :: L,h=>by
  have h':k < L.length:=by simpa using h
  rw [numS,List.getElem?_cons_succ,xb0v k _ L h',List.take_succ_cons,endS]
  simp
theorem xc0g:∀ (i:Nat) (L:List (List En)),okS i L = true→∀ t∈numS i L,chkB t.1 t.2 = 0
 | _,[],_,t,ht=>by simp [numS] at ht
 | i,es :: L,h,t,ht=>by
  rw [okS,Bool.and_eq_true,decide_eq_true_eq] at h
  rw [numS,List.mem_cons] at ht
  rcases ht with rfl | ht
  ·exact h.1
  ·exact xc0g _ L h.2 t ht
theorem xa8r (m:Nat):firstF (List.replicate m 0) = none:=by
 have:=xa3a 0 [] 0 m (by decide) (by decide) (by simp) (by simp)
 simpa using this
theorem xa8b {a b c cut m:Nat} {z:Int} {R:List Nat} (ha:a < 18446744073709551616) (hz:wideB z = true) (hc:cut < 48) :
  hdC ((ehB a b c z++R).take cut++List.replicate m 0) = ⟨0,0,0,0⟩∧sgE ((ehB a b c z++R).take cut++List.replicate m 0) = 3∧sgB ((ehB a b c z++R).take cut++List.replicate m 0) = []∧sgU ((ehB a b c z++R).take cut++List.replicate m 0) = 0:=by
 have he:ehB a b c z = frB a (headB a b c z):=by simp [ehB,hz]
 have ht:(ehB a b c z++R).take cut = (frB a (headB a b c z)).take cut:=by
  rw [List.take_append_of_le_length (by rw [xa1u hz]; omega),he]
 have hf:=xa3a a (headB a b c z) cut m ha (by rw [xa1q]; decide) (xa6u a b c z) (by rw [xa1q]; omega)
 rw [← ht] at hf
 have hn:hdF ((ehB a b c z++R).take cut++List.replicate m 0) = none:=by unfold hdF; rw [hf]
 refine ⟨by simp [hdC,hn],by simp [sgE,hn],by simp [sgB,hn],by simp [sgU,hn]⟩
theorem xc0v {p:List Nat} {n i:Nat} (hn:n≤p.length) (h:firstF (p.drop n) = none):rbOk p (n:Nat) i = false:=by
 unfold rbOk
 have:(nextF p (n:Nat)).kind≠1:=by
  unfold nextF
  by_cases h1:(n:Int) = p.length
  ·rw [if_pos h1]; simp
  ·rw [if_neg h1,if_neg (by omega),Int.toNat_natCast,h]; simp
 simp [this]
theorem xc2f {a b c cut m k:Nat} {z:Int} {L:List (List En)} (ha:a < 18446744073709551616) (hb:b < 18446744073709551616) (hc:c < 18446744073709551616) (hz:wideB z = true) (hk:okS c L = true) (hy:∀ es∈L,byN es) (hkl:k≤(numS c L).length)
  (h1:48 + (runS ((numS c L).take k)).length≤cut) (h2:k = (numS c L).length∨cut < 48 + (runS ((numS c L).take (k + 1))).length) :
  hdC ((ehB a b c z++runS (numS c L)).take cut++List.replicate m 0) = ⟨a,b,c,z.toNat⟩∧sgE ((ehB a b c z++runS (numS c L)).take cut++List.replicate m 0) = 0∧sgB ((ehB a b c z++runS (numS c L)).take cut++List.replicate m 0) = (numS c L).take k ∧
   sgU ((ehB a b c z++runS (numS c L)).take cut++List.replicate m 0) = 48 + (runS ((numS c L).take k)).length:=by
 obtain ⟨D,hD⟩:∃ D,numS c L = D:=⟨_,rfl⟩
 have hmem:=xc0g c L hk
 have hsplit:ehB a b c z++runS D = (ehB a b c z++runS (D.take k))++runS (D.drop k):=by rw [List.append_assoc,← xa5x,List.take_append_drop]
 have hlen:(ehB a b c z++runS (D.take k)).length = 48 + (runS (D.take k)).length:=by rw [List.length_append,xa1u hz]
 rw [hD] at h1 h2 hkl hmem
 obtain ⟨q1,q2,R,g,q3,q4⟩:=xb5r (L:=L.take k) ((runS (D.drop k)).take (cut - (48 + (runS (D.take k)).length))++List.replicate m 0) ha hb hc hz (xb6e k c L hk) (fun x hx=>hy x (List.mem_of_mem_take hx))
 rw [xa9m,hD] at q1 q2 q3 q4
 have hT:(ehB a b c z++runS D).take cut++List.replicate m 0 = ehB a b c z++(runS (D.take k)++((runS (D.drop k)).take (cut - (48 + (runS (D.take k)).length))++List.replicate m 0)):=by
  rw [hsplit,List.take_append,hlen,List.take_of_length_le (by rw [hlen]; exact h1)]
  simp only [List.append_assoc]
 have hnone:firstF ((runS (D.drop k)).take (cut - (48 + (runS (D.take k)).length))++List.replicate m 0) = none:=by
  by_cases hkD:k < D.length
  ·have hck:=hmem D[k] (List.getElem_mem _)
   have hcut:cut < 48 + (runS (D.take (k + 1))).length:=by omega
   rw [List.take_add_one,List.getElem?_eq_getElem hkD] at hcut
   simp only [Option.toList_some] at hcut
   rw [xa5x,List.length_append,xb4g,xa9v hck] at hcut
   have hfl:D[k].1 < 18446744073709551616:=by have:=xa9g hck; omega
   have hbl:=xa3k hck hfl
   have hby:byN D[k].2:=by
    have hkL:k < L.length:=by rw [← xb2k c L,hD]; exact hkD
    have h9:=xb0v k c L hkL
    rw [hD,List.getElem?_eq_getElem hkD] at h9
    have h10:=congrArg Prod.snd (Option.some.inj h9)
    simp only at h10
    rw [h10]
    exact hy _ (List.getElem_mem _)
   have hsb:sbB D[k].1 D[k].2 = frB D[k].1 (batB D[k].1 D[k].2):=by unfold sbB; rw [if_pos hck]
   rw [List.drop_eq_getElem_cons hkD,xa3r,List.take_append_of_le_length (by rw [xa9v hck]; omega),hsb]
   exact xa3a _ _ _ m hfl (by omega) (xb0g hby) (by omega)
  ·rw [List.drop_eq_nil_of_le (by omega)]
   simp only [runS,List.flatMap_nil,List.take_nil,List.nil_append]
   exact xa8r m
 have hrb:rbOk (ehB a b c z++(runS (D.take k)++((runS (D.drop k)).take (cut - (48 + (runS (D.take k)).length))++List.replicate m 0))) ((48 + (runS (D.take k)).length:Nat):Int) (endS c (L.take k)) = false:=by
  refine xc0v (by rw [← List.append_assoc,List.length_append,hlen]; omega) ?_
  rw [← List.append_assoc,← hlen,List.drop_left,hlen]
  exact hnone
 rw [rdL_no hrb] at q4
 obtain ⟨rfl,q6⟩:=Prod.mk.inj q4
 rw [hD,hT]
 exact ⟨q1,q2,by rw [q3,List.append_nil],q6⟩
end
section
open Go.RowKit Go.BigFrame Go.Maps Go.Sort
def laidB (n ep fs:Nat) (wd:Int) (L:List (List En)):List Nat:=ehB n ep fs wd++runS (numS fs L)
theorem run_le {D:List (Nat × List En)} {i j:Nat} (h:i≤j):(runS (D.take i)).length≤(runS (D.take j)).length:=by
 have e:D.take j = D.take i++(D.take j).drop i:=by
  conv=>lhs; rw [← List.take_append_drop i (D.take j)]
  rw [List.take_take,Nat.min_eq_left h]
 rw [e,xa5x,List.length_append]
 omega
theorem xc4q (D:List (Nat × List En)) (c:Nat) (h:48≤c):∃ k,k≤D.length∧48 + (runS (D.take k)).length≤c∧(k = D.length∨c < 48 + (runS (D.take (k + 1))).length):=by
 have key:∀ n,∃ k,k≤D.length∧48 + (runS (D.take k)).length≤c∧(k = D.length∨c < 48 + (runS (D.take (k + 1))).length∨n≤k):=by
  intro n
  induction n with
  | zero=>exact ⟨0,Nat.zero_le _,by simp [runS]; omega,Or.inr (Or.inr (Nat.le_refl _))⟩
  | succ n ih =>
   obtain ⟨k,h1,h2,h3⟩:=ih
   rcases h3 with h3 | h3 | h3
   ·exact ⟨k,h1,h2,Or.inl h3⟩
   ·exact ⟨k,h1,h2,Or.inr (Or.inl h3)⟩
   ·by_cases hk:k = D.length
    ·exact ⟨k,h1,h2,Or.inl hk⟩
    ·by_cases hc:c < 48 + (runS (D.take (k + 1))).length
     ·exact ⟨k,h1,h2,Or.inr (Or.inl hc)⟩
     ·exact ⟨k + 1,by omega,by omega,Or.inr (Or.inr (by omega))⟩
 obtain ⟨k,h1,h2,h3⟩:=key (D.length)
 exact ⟨k,h1,h2,by rcases h3 with h3 | h3 | h3; exact Or.inl h3; exact Or.inr h3; exact Or.inl (by omega)⟩
structure Gd (wd:Int) (n ep fs:Nat) (L:List (List En)):Prop where
 z:wideB wd = true
 n:n < 18446744073709551616
 e:ep < 18446744073709551616
 f:fs < 18446744073709551616
 ok:okS fs L = true
 y:∀ es∈L,byN es
theorem xc4s {wd:Int} {n ep fs:Nat} {L:List (List En)} (g:Gd wd n ep fs L) (c m:Nat) (h:c < 48):sgE ((laidB n ep fs wd L).take c++List.replicate m 0) = 3∧sgB ((laidB n ep fs wd L).take c++List.replicate m 0) = []:=by
 have h1:=xa8b (b:=ep) (c:=fs) (m:=m) (R:=runS (numS fs L)) g.n g.z h
 exact ⟨h1.2.1,h1.2.2.1⟩
theorem xc1i {wd:Int} {n ep fs:Nat} {L:List (List En)} (g:Gd wd n ep fs L) (c m:Nat) (h:48≤c):hdC ((laidB n ep fs wd L).take c++List.replicate m 0) = ⟨n,ep,fs,wd.toNat⟩∧sgE ((laidB n ep fs wd L).take c++List.replicate m 0) = 0∧∃ k,k≤(numS fs L).length∧sgB ((laidB n ep fs wd L).take c++List.replicate m 0) = (numS fs L).take k∧48 + (runS ((numS fs L).take k)).length≤c∧(k = (numS fs L).length∨c < 48 + (runS ((numS fs L).take (k + 1))).length):=by
 obtain ⟨k,h1,h2,h3⟩:=xc4q (numS fs L) c h
 have h4:=xc2f (cut:=c) (m:=m) (k:=k) g.n g.e g.f g.z g.ok g.y h1 h2 h3
 exact ⟨h4.1,h4.2.1,k,h1,h4.2.2.1,h2,h3⟩
theorem xa6k {wd:Int} {n ep fs:Nat} {L:List (List En)} (hz:wideB wd = true):(laidB n ep fs wd L).length = 48 + (runS (numS fs L)).length:=by
 unfold laidB; rw [List.length_append,xa1u hz]
def Tl (X:List Nat) (c:Nat) (z:List Nat):Prop:=(∃ m,z = List.replicate m 0)∨(X.length≤c∧z.head?≠some 245)
theorem Tl.nil (X:List Nat) (c:Nat):Tl X c []:=Or.inl ⟨0,rfl⟩
theorem xb1z {z:List Nat} (h:z.head?≠some 245):firstF z = none:=by
 unfold firstF
 rw [if_neg]
 rintro ⟨h1,_⟩
 cases z with
 | nil=>simp at h1
 | cons x r=>simp at h1 h; exact h h1
theorem xc1p {wd:Int} {n ep fs:Nat} {L:List (List En)} (g:Gd wd n ep fs L) {z:List Nat} (h:z.head?≠some 245):hdC (laidB n ep fs wd L++z) = ⟨n,ep,fs,wd.toNat⟩∧sgE (laidB n ep fs wd L++z) = 0∧sgB (laidB n ep fs wd L++z) = numS fs L:=by
 obtain ⟨h1,h2,R,k,h3,h4⟩:=xb5r z g.n g.e g.f g.z g.ok g.y
 have e:laidB n ep fs wd L++z = ehB n ep fs wd++(runS (numS fs L)++z):=by unfold laidB; rw [List.append_assoc]
 rw [e]
 refine ⟨h1,h2,?_⟩
 have hl:48 + (runS (numS fs L)).length = (laidB n ep fs wd L).length:=(xa6k g.z).symm
 have h5:rdL k (ehB n ep fs wd++(runS (numS fs L)++z)) (48 + (runS (numS fs L)).length) (endS fs L) = ([],48 + (runS (numS fs L)).length):=by
  refine rdL_no (xc0v (by rw [hl,← e,List.length_append]; omega) ?_)
  rw [hl,← e,List.drop_left]
  exact xb1z h
 rw [h5] at h4
 obtain ⟨rfl,_⟩:=Prod.mk.inj h4
 rw [h3,List.append_nil]
theorem xa6c {wd:Int} {n ep fs:Nat} {L:List (List En)} (g:Gd wd n ep fs L) (c:Nat) (z:List Nat) (ht:Tl (laidB n ep fs wd L) c z) (h:c < 48):sgE ((laidB n ep fs wd L).take c++z) = 3∧sgB ((laidB n ep fs wd L).take c++z) = []:=by
 rcases ht with ⟨m,rfl⟩ | ⟨h1,_⟩
 ·exact xc4s g c m h
 ·rw [xa6k g.z] at h1; omega
theorem xa2m {wd:Int} {n ep fs:Nat} {L:List (List En)} (g:Gd wd n ep fs L) (c:Nat) (z:List Nat) (ht:Tl (laidB n ep fs wd L) c z) (h:48≤c):hdC ((laidB n ep fs wd L).take c++z) = ⟨n,ep,fs,wd.toNat⟩∧sgE ((laidB n ep fs wd L).take c++z) = 0∧∃ k,k≤(numS fs L).length∧sgB ((laidB n ep fs wd L).take c++z) = (numS fs L).take k∧48 + (runS ((numS fs L).take k)).length≤c∧(k = (numS fs L).length∨c < 48 + (runS ((numS fs L).take (k + 1))).length):=by
 rcases ht with ⟨m,rfl⟩ | ⟨h1,h2⟩
 ·exact xc1i g c m h
 ·have h3:=xc1p g h2
  rw [List.take_of_length_le h1]
  refine ⟨h3.1,h3.2.1,(numS fs L).length,Nat.le_refl _,by rw [List.take_length]; exact h3.2.2,by rw [List.take_length,← xa6k (n:=n) (ep:=ep) g.z]; exact h1,Or.inl rfl⟩
theorem xa8x {wd:Int} {n ep fs:Nat} {L:List (List En)} (g:Gd wd n ep fs L) {c c':Nat} (m m':List Nat) (hm:Tl (laidB n ep fs wd L) c m) (hm':Tl (laidB n ep fs wd L) c' m') (h:c≤c'):sgB ((laidB n ep fs wd L).take c++m) <+: sgB ((laidB n ep fs wd L).take c'++m')∧(sgE ((laidB n ep fs wd L).take c++m) = 0→sgE ((laidB n ep fs wd L).take c'++m') = 0):=by
 by_cases h1:c < 48
 ·have h2:=xa6c g c m hm h1
  rw [h2.1,h2.2]
  exact ⟨List.nil_prefix,fun h=>by cases h⟩
 ·obtain ⟨_,h2,k,h3,h4,h5,h6⟩:=xa2m g c m hm (by omega)
  obtain ⟨_,h2',k',h3',h4',h5',h6'⟩:=xa2m g c' m' hm' (by omega)
  refine ⟨?_,fun _=>h2'⟩
  rw [h4,h4']
  have hk:k≤k':=by
   by_cases hc:k≤k'
   ·exact hc
   ·exfalso
    have:=run_le (D:=numS fs L) (i:=k' + 1) (j:=k) (by omega)
    omega
  have e:(numS fs L).take k = ((numS fs L).take k').take k:=by rw [List.take_take,Nat.min_eq_left hk]
  rw [e]
  exact List.take_prefix _ _
theorem xb0l {wd:Int} {n ep fs:Nat} {L:List (List En)} (g:Gd wd n ep fs L):hdC (laidB n ep fs wd L) = ⟨n,ep,fs,wd.toNat⟩∧sgE (laidB n ep fs wd L) = 0∧sgB (laidB n ep fs wd L) = numS fs L:=by
 have h:=xb8r g.n g.e g.f g.z g.ok g.y
 exact ⟨h.1,h.2.1,h.2.2.1⟩
structure Fl (wd:Int) (N:Nat) (f:DF) (n ep fs:Nat) (L:List (List En)) (c:Nat) (m:List Nat):Prop where
 g:Gd wd n ep fs L
 nm:f.nm = nmB n
 hn:n≤N
 he:ep≤N
 hc:c≤(laidB n ep fs wd L).length
 bs:f.bs = (laidB n ep fs wd L).take c++m
 sy:f.sy≤f.bs.length
 tl:Tl (laidB n ep fs wd L) c m
theorem Tl.cut {X m:List Nat} {c:Nat} (hc:c≤X.length) (h:Tl X c m) (x y:Nat):∃ m',(X.take c++m).take x++List.replicate y 0 = X.take (min x c)++m'∧Tl X (min x c) m':=by
 refine ⟨m.take (x - c)++List.replicate y 0,?_,?_⟩
 ·rw [List.take_append,List.take_take,List.length_take,Nat.min_eq_left hc,List.append_assoc]
 ·rcases h with ⟨k,rfl⟩ | ⟨h1,h2⟩
  ·exact Or.inl ⟨min (x - c) k + y,by rw [List.take_replicate,List.replicate_append_replicate]⟩
  ·by_cases hx:x≤c
   ·exact Or.inl ⟨y,by rw [show x - c = 0 by omega]; simp⟩
   ·rw [Nat.min_eq_right (by omega)]
    cases m with
    | nil=>exact Or.inl ⟨y,by simp⟩
    | cons a r =>
     refine Or.inr ⟨h1,?_⟩
     obtain ⟨q,hq⟩:∃ q,x - c = q + 1:=⟨x - c - 1,by omega⟩
     rw [hq,List.take_succ_cons]
     simpa using h2
theorem Fl.cut {wd:Int} {N:Nat} {f:DF} {n ep fs:Nat} {L:List (List En)} {c:Nat} {m:List Nat} (h:Fl wd N f n ep fs L c m) (x y:Nat):∃ c' m',c'≤c∧c' = min x c∧f.bs.take x++List.replicate y 0 = (laidB n ep fs wd L).take c'++m'∧Tl (laidB n ep fs wd L) c' m':=by
 obtain ⟨m',h1,h2⟩:=h.tl.cut h.hc x y
 exact ⟨_,m',Nat.min_le_right _ _,rfl,by rw [h.bs]; exact h1,h2⟩
theorem Fl.less {wd:Int} {N:Nat} {f:DF} {n ep fs:Nat} {L:List (List En)} {c:Nat} {m:List Nat} (h:Fl wd N f n ep fs L c m) (x y:Nat):sgB (f.bs.take x++List.replicate y 0) <+: sgB f.bs∧(sgE (f.bs.take x++List.replicate y 0) = 0→sgE f.bs = 0)∧∀ x0,x0≤x→sgB (f.bs.take x0) <+: sgB (f.bs.take x++List.replicate y 0):=by
 obtain ⟨c',m',h1,h2,h3,ht⟩:=h.cut x y
 have h4:=xa8x h.g m' m ht h.tl h1
 rw [h3]
 refine ⟨by rw [h.bs]; exact h4.1,by rw [h.bs]; exact h4.2,fun x0 hx=>?_⟩
 obtain ⟨c0,m0,h5,h6,h7,ht0⟩:=h.cut x0 0
 simp only [List.replicate_zero,List.append_nil] at h7
 rw [h7]
 exact (xa8x h.g m0 m' ht0 ht (by omega)).1
theorem Fl.rd {wd:Int} {N:Nat} {f:DF} {n ep fs:Nat} {L:List (List En)} {c:Nat} {m:List Nat} (h:Fl wd N f n ep fs L c m):(sgE f.bs≠0∧sgB f.bs = [])∨(sgE f.bs = 0∧hdC f.bs = ⟨n,ep,fs,wd.toNat⟩):=by
 by_cases h1:c < 48
 ·have h2:=xa6c h.g c m h.tl h1
  rw [← h.bs] at h2
  exact Or.inl ⟨by rw [h2.1]; decide,h2.2⟩
 ·have h2:=xa2m h.g c m h.tl (by omega)
  rw [← h.bs] at h2
  exact Or.inr ⟨h2.2.1,h2.1⟩
def Ch (wd:Int) (N:Nat):Nat→Nat→Nat→List DF→Prop
 | _,_,_,[]=>True
 | la,ep,sz,f :: r=>∃ n e fs L c m,Fl wd N f n e fs L c m∧la < n∧(sgB f.bs≠[]→f.nd = true)∧(r≠[]→sgB f.bs = []∨f.sy = f.bs.length)∧((sgE f.bs≠0∧Ch wd N n ep sz r)∨(sgE f.bs = 0∧fs = sz∧ep≤e∧Ch wd N n e (sz + cntB (sgB f.bs)) r))
def Rb (A:List DF):List (Nat × List En):=A.flatMap fun f=>sgB f.bs
def dlF (f:DF):Nat:=if f.nd then (sgB (f.bs.take f.sy)).length else 0
def dl (A:List DF):Nat:=(A.map dlF).sum
theorem xa1d (f:DF) (r:List DF):Rb (f :: r) = sgB f.bs++Rb r:=by simp [Rb]
theorem Rb_app (a b:List DF):Rb (a++b) = Rb a++Rb b:=by simp [Rb]
theorem xa6x (f:DF) (r:List DF):dl (f :: r) = dlF f + dl r:=by simp [dl]
theorem dl_app (a b:List DF):dl (a++b) = dl a + dl b:=by simp [dl]
theorem xa1i (a b:List (Nat × List En)):cntB (a++b) = cntB a + cntB b:=by simp [cntB]
theorem Fl.dl_le {wd:Int} {N:Nat} {f:DF} {n ep fs:Nat} {L:List (List En)} {c:Nat} {m:List Nat} (h:Fl wd N f n ep fs L c m):dlF f≤(sgB f.bs).length:=by
 unfold dlF
 split
 ·have h1:=(h.less f.sy 0).1
  simp only [List.replicate_zero,List.append_nil] at h1
  exact h1.length_le
 ·exact Nat.zero_le _
theorem Ch.weak {wd:Int} {N:Nat}:∀ {A:List DF} {la ep sz la' ep':Nat},Ch wd N la ep sz A→la'≤la→ep'≤ep→Ch wd N la' ep' sz A
 | [],_,_,_,_,_,_,_,_=>trivial
 | f :: r,la,ep,sz,la',ep',h,h1,h2=>by
  obtain ⟨n,e,fs,L,c,m,hf,hl,hd,hr,hc⟩:=h
  refine ⟨n,e,fs,L,c,m,hf,by omega,hd,hr,?_⟩
  rcases hc with ⟨h3,h4⟩ | ⟨h3,h4,h5,h6⟩
  ·exact Or.inl ⟨h3,h4.weak (Nat.le_refl _) h2⟩
  ·exact Or.inr ⟨h3,h4,by omega,h6⟩
theorem Fl.up {wd:Int} {N N':Nat} {f:DF} {n ep fs:Nat} {L:List (List En)} {c:Nat} {m:List Nat} (h:Fl wd N f n ep fs L c m) (hN:N≤N'):Fl wd N' f n ep fs L c m:={ h with hn:=Nat.le_trans h.hn hN,he:=Nat.le_trans h.he hN }
theorem Ch.up {wd:Int} {N N':Nat} (hN:N≤N'):∀ {A:List DF} {la ep sz:Nat},Ch wd N la ep sz A→Ch wd N' la ep sz A
 | [],_,_,_,_=>trivial
 | f :: r,la,ep,sz,h=>by
  obtain ⟨n,e,fs,L,c,m,hf,hl,hd,hr,hc⟩:=h
  refine ⟨n,e,fs,L,c,m,hf.up hN,hl,hd,hr,?_⟩
  rcases hc with ⟨h3,h4⟩ | ⟨h3,h4,h5,h6⟩
  ·exact Or.inl ⟨h3,h4.up hN⟩
  ·exact Or.inr ⟨h3,h4,h5,h6.up hN⟩
theorem Ch.dl_le {wd:Int} {N:Nat}:∀ {A:List DF} {la ep sz:Nat},Ch wd N la ep sz A→dl A≤(Rb A).length
 | [],_,_,_,_=>by simp [dl,Rb]
 | f :: r,la,ep,sz,h=>by
  obtain ⟨n,e,fs,L,c,m,hf,hl,hd,hr,hc⟩:=h
  have h1:=hf.dl_le
  have h2:dl r≤(Rb r).length:=by
   rcases hc with ⟨_,h4⟩ | ⟨_,_,_,h6⟩
   ·exact h4.dl_le
   ·exact h6.dl_le
  rw [xa6x,xa1d,List.length_append]
  omega
theorem xc5a (k:KeepD) (f:DF) (h:f.sy≤f.bs.length):f.sy≤setN k f∧setN k f≤f.bs.length:=by
 unfold setN
 have:=xa2n k.kb ((f.bs.length:Int) - f.sy) (by omega)
 omega
theorem xa9n (k:KeepD) (sec:Nat) (f:DF) (h:f.sy≤f.bs.length):∃ x y,f.sy≤x∧x≤f.bs.length∧(x = f.bs.length→y = 0)∧setF k sec f = ⟨f.nm,f.bs.take x++List.replicate y 0,(f.bs.take x++List.replicate y 0).length,true⟩:=by
 have h1:=xc5a k f h
 unfold setF
 split
 ·rename_i h2
  refine ⟨setN k f,tse (setN k f) sec,h1.1,h1.2,fun h3=>by omega,?_⟩
  rw [List.length_append,List.length_take,Nat.min_eq_left h1.2,List.length_replicate]
 ·refine ⟨setN k f,0,h1.1,h1.2,fun _=>rfl,?_⟩
  simp only [List.replicate_zero,List.append_nil,List.length_take,Nat.min_eq_left h1.2]
theorem xc5o {wd:Int} {N:Nat} {f:DF} {n ep fs:Nat} {L:List (List En)} {c:Nat} {m:List Nat} (h:Fl wd N f n ep fs L c m) (k:KeepD) (sec:Nat) :
  (∃ c' m',Fl wd N (setF k sec f) n ep fs L c' m')∧(setF k sec f).nd = true∧(setF k sec f).sy = (setF k sec f).bs.length∧sgB (setF k sec f).bs <+: sgB f.bs∧(sgE (setF k sec f).bs = 0→sgE f.bs = 0)∧dlF f≤(sgB (setF k sec f).bs).length∧(f.sy = f.bs.length→(setF k sec f).bs = f.bs):=by
 obtain ⟨x,y,h1,h2,h3,h4⟩:=xa9n k sec f h.sy
 rw [h4]
 obtain ⟨c',m',h5,h6,h7,ht⟩:=h.cut x y
 have h8:=h.less x y
 refine ⟨⟨c',m',⟨h.g,h.nm,h.hn,h.he,Nat.le_trans h5 h.hc,h7,Nat.le_refl _,ht⟩⟩,rfl,rfl,h8.1,h8.2.1,?_,fun h9=>?_⟩
 ·unfold dlF
  split
  ·exact (h8.2.2 f.sy h1).length_le
  ·exact Nat.zero_le _
 ·have h10:x = f.bs.length:=by omega
  show f.bs.take x++List.replicate y 0 = f.bs
  rw [h3 h10,h10]
  simp
theorem xb5d {α:Type} {a:List α} (h:a <+: []):a = []:=by simpa using h
theorem Ch.restart {wd:Int} {N:Nat} (ks:List KeepD) (sec:Nat):∀ {A:List DF} {la ep sz:Nat} (j:Nat),Ch wd N la ep sz A→Ch wd N la ep sz (setA ks sec (cutN j A))∧Rb (setA ks sec (cutN j A)) <+: Rb A∧dl A≤(Rb (setA ks sec (cutN j A))).length∧(∀ f∈setA ks sec (cutN j A),f.nd = true∧f.sy = f.bs.length)
 | [],la,ep,sz,j,_=>by simp [cutN,setA,Rb,dl,Ch]
 | f :: r,la,ep,sz,j,h=>by
  obtain ⟨n,e,fs,L,c,m,hf,hl,hd,hr,hc⟩:=h
  obtain ⟨hE,hC,hS⟩:∃ e',(ep≤e')∧Ch wd N n e' (sz + cntB (sgB f.bs)) r:=by
   rcases hc with ⟨h3,h4⟩ | ⟨h3,h4,h5,h6⟩
   ·rcases hf.rd with ⟨_,h7⟩ | ⟨h7,_⟩
    ·exact ⟨ep,Nat.le_refl _,by rw [h7]; simpa [cntB] using h4⟩
    ·exact absurd h7 h3
   ·exact ⟨e,h5,h6⟩
  have stays:∀ j',Ch wd N la ep sz (setF ((fstK ks f.nm.data.toList).getD zK) sec f :: setA ks sec (cutN j' r))∧sgB (setF ((fstK ks f.nm.data.toList).getD zK) sec f).bs++Rb (setA ks sec (cutN j' r)) <+: sgB f.bs++Rb r∧dlF f + dl r≤(sgB (setF ((fstK ks f.nm.data.toList).getD zK) sec f).bs++Rb (setA ks sec (cutN j' r))).length∧(∀ x∈setF ((fstK ks f.nm.data.toList).getD zK) sec f :: setA ks sec (cutN j' r),x.nd = true∧x.sy = x.bs.length):=by
   intro j'
   obtain ⟨⟨c',m',q1⟩,q2,q3,q4,q5,q6,q7⟩:=xc5o hf ((fstK ks f.nm.data.toList).getD zK) sec
   generalize setF ((fstK ks f.nm.data.toList).getD zK) sec f = f' at q1 q2 q3 q4 q5 q6 q7 ⊢
   obtain ⟨i1,i2,i3,i4⟩:=Ch.restart ks sec (A:=r) j' hS
   generalize hr':setA ks sec (cutN j' r) = r' at i1 i2 i3 i4 ⊢
   have hsame:r≠[]→sgB f'.bs = sgB f.bs:=by
    intro h9
    rcases hr h9 with h10 | h10
    ·rw [h10] at q4 ⊢; exact xb5d q4
    ·rw [q7 h10]
   have hnil:r = []→r' = []:=by rintro rfl; rw [← hr']; simp [cutN,setA]
   refine ⟨⟨n,e,fs,L,c',m',q1,hl,fun _=>q2,fun _=>Or.inr q3,?_⟩,?_,?_,?_⟩
   ·by_cases hrn:r = []
    ·rw [hnil hrn]
     rcases q1.rd with ⟨h7,_⟩ | ⟨h7,_⟩
     ·exact Or.inl ⟨h7,trivial⟩
     ·rcases hc with ⟨h3,h4⟩ | ⟨h3,h4,h5,h6⟩
      ·exact absurd (q5 h7) h3
      ·exact Or.inr ⟨h7,h4,h5,trivial⟩
    ·rcases q1.rd with ⟨h7,h8⟩ | ⟨h7,_⟩
     ·refine Or.inl ⟨h7,?_⟩
      rw [← hsame hrn,h8] at i1
      exact (by simpa [cntB] using i1:Ch wd N n hE sz r').weak (Nat.le_refl _) hC
     ·rcases hc with ⟨h3,h4⟩ | ⟨h3,h4,h5,h6⟩
      ·exact absurd (q5 h7) h3
      ·refine Or.inr ⟨h7,h4,h5,?_⟩
       rw [hsame hrn]
       have i1':=(Ch.restart ks sec (A:=r) j' h6).1
       rw [hr'] at i1'
       exact i1'
   ·by_cases hrn:r = []
    ·rw [hnil hrn,hrn]; simpa [Rb] using q4
    ·rw [hsame hrn]; exact (List.prefix_append_right_inj _).2 i2
   ·rw [List.length_append]; omega
   ·intro x hx
    rcases List.mem_cons.1 hx with rfl | hx
    ·exact ⟨q2,q3⟩
    ·exact i4 x hx
  rw [xa1d,xa6x]
  by_cases hnd:f.nd = true
  ·have e1:cutN j (f :: r) = f :: cutN j r:=by simp [cutN,hnd]
   rw [e1]
   show Ch wd N la ep sz (_ :: setA ks sec (cutN j r))∧Rb (_ :: setA ks sec (cutN j r)) <+: _∧_≤(Rb (_ :: setA ks sec (cutN j r))).length∧(∀ x∈(_ :: setA ks sec (cutN j r)),_)
   rw [xa1d]
   exact stays j
  ·have hnil:sgB f.bs = []:=by
    cases hq:sgB f.bs with
    | nil=>rfl
    | cons a b=>exact absurd (hd (by rw [hq]; simp)) hnd
   match j with
   | 0 =>
    have e1:cutN 0 (f :: r) = cutN 0 r:=by simp [cutN,hnd]
    rw [e1]
    obtain ⟨i1,i2,i3,i4⟩:=Ch.restart ks sec (A:=r) 0 hS
    rw [hnil] at i1 ⊢
    have hdl:dlF f = 0:=by unfold dlF; rw [if_neg hnd]
    exact ⟨(by simpa [cntB] using i1:Ch wd N n hE sz _).weak (by omega) hC,by simpa using i2,by omega,i4⟩
   | j + 1 =>
    have e1:cutN (j + 1) (f :: r) = f :: cutN j r:=by simp [cutN,hnd]
    rw [e1]
    show Ch wd N la ep sz (_ :: setA ks sec (cutN j r))∧Rb (_ :: setA ks sec (cutN j r)) <+: _∧_≤(Rb (_ :: setA ks sec (cutN j r))).length∧(∀ x∈(_ :: setA ks sec (cutN j r)),_)
    rw [xa1d]
    exact stays j
structure UpF (f f':DF):Prop where
 nm:f'.nm = f.nm
 bs:f'.bs = f.bs
 nd:f.nd = true→f'.nd = true
 sy:f'.sy = f.sy∨f'.sy = f.bs.length
theorem UpF.refl (f:DF):UpF f f:=⟨rfl,rfl,id,Or.inl rfl⟩
theorem UpF.trans {a b c:DF} (h:UpF a b) (k:UpF b c):UpF a c:=⟨k.nm.trans h.nm,k.bs.trans h.bs,fun x=>k.nd (h.nd x),by
 rcases k.sy with h1 | h1
 ·rcases h.sy with h2 | h2
  ·exact Or.inl (by rw [h1,h2])
  ·exact Or.inr (by rw [h1,h2])
 ·exact Or.inr (by rw [h1,h.bs])⟩
theorem UpF.fl {wd:Int} {N:Nat} {f f':DF} {n ep fs:Nat} {L:List (List En)} {c:Nat} {m:List Nat} (u:UpF f f') (h:Fl wd N f n ep fs L c m):Fl wd N f' n ep fs L c m :=
 ⟨h.g,by rw [u.nm,h.nm],h.hn,h.he,h.hc,by rw [u.bs,h.bs],by rw [u.bs]; rcases u.sy with h1 | h1 <;> rw [h1]; exact h.sy; exact Nat.le_refl _,h.tl⟩
theorem UpF.dl {wd:Int} {N:Nat} {f f':DF} {n ep fs:Nat} {L:List (List En)} {c:Nat} {m:List Nat} (u:UpF f f') (h:Fl wd N f n ep fs L c m):dlF f≤dlF f':=by
 by_cases hn:f.nd = true
 ·have h1:dlF f' = (sgB (f'.bs.take f'.sy)).length:=by unfold dlF; rw [if_pos (u.nd hn)]
  rw [h1,u.bs]
  rcases u.sy with h2 | h2
  ·rw [h2]; unfold dlF; rw [if_pos hn]; exact Nat.le_refl _
  ·rw [h2,List.take_length]; exact h.dl_le
 ·have:dlF f = 0:=by unfold dlF; rw [if_neg hn]
  omega
theorem Ch.upd {wd:Int} {N:Nat} {F:DF→DF}:∀ {A:List DF} {la ep sz:Nat},Ch wd N la ep sz A→(∀ x∈A,UpF x (F x))→Ch wd N la ep sz (A.map F)∧Rb (A.map F) = Rb A∧dl A≤dl (A.map F)
 | [],_,_,_,_,_=>⟨trivial,rfl,Nat.le_refl _⟩
 | f :: r,la,ep,sz,h,hF=>by
  obtain ⟨n,e,fs,L,c,m,hf,hl,hd,hr,hc⟩:=h
  have u:=hF f (by simp)
  have hb:=u.bs
  have ih:∀ {la ep sz:Nat},Ch wd N la ep sz r→Ch wd N la ep sz (r.map F)∧Rb (r.map F) = Rb r∧Go.Proofs.YtkolfhgbojenjaaGreatDoor.dl r≤Go.Proofs.YtkolfhgbojenjaaGreatDoor.dl (r.map F):=fun h=>Ch.upd h (fun x hx=>hF x (by simp [hx]))
  have ih2:Rb (r.map F) = Rb r∧Go.Proofs.YtkolfhgbojenjaaGreatDoor.dl r≤Go.Proofs.YtkolfhgbojenjaaGreatDoor.dl (r.map F):=by
   rcases hc with ⟨h3,h4⟩ | ⟨h3,h4,h5,h6⟩
   ·exact (ih h4).2
   ·exact (ih h6).2
  rw [List.map_cons]
  refine ⟨⟨n,e,fs,L,c,m,u.fl hf,hl,fun h9=>u.nd (hd (by rw [← hb]; exact h9)),fun h9=>?_,?_⟩,?_,?_⟩
  ·rw [hb]
   rcases hr (by intro h8; subst h8; simp at h9) with h8 | h8
   ·exact Or.inl h8
   ·refine Or.inr ?_
    rcases u.sy with h7 | h7 <;> rw [h7]
    exact h8
  ·rw [hb]
   rcases hc with ⟨h3,h4⟩ | ⟨h3,h4,h5,h6⟩
   ·exact Or.inl ⟨h3,(ih h4).1⟩
   ·exact Or.inr ⟨h3,h4,h5,(ih h6).1⟩
  ·rw [xa1d,xa1d,hb,ih2.1]
  ·rw [xa6x,xa6x]
   have:=u.dl hf
   omega
def Stl (A:List DF):Prop:=∀ f∈A,sgB f.bs = []∨f.sy = f.bs.length
theorem Ch.snoc {wd:Int} {N:Nat} {f:DF} {n e fs:Nat} {L:List (List En)} {c:Nat} {m:List Nat} (hf:Fl wd N f n e fs L c m) (hnd:sgB f.bs≠[]→f.nd = true):∀ {A:List DF} {la ep sz:Nat},Ch wd N la ep sz A→Stl A→la < n→(∀ x∈A,∀ u,u < 18446744073709551616→x.nm = nmB u→u < n)→(sgE f.bs = 0→fs = sz + cntB (Rb A)∧ep≤e∧∀ x∈A,sgE x.bs = 0→(hdC x.bs).b≤e)→Ch wd N la ep sz (A++[f])
 | [],la,ep,sz,_,_,hl,_,hs=>by
  refine ⟨n,e,fs,L,c,m,hf,hl,hnd,fun h=>absurd rfl h,?_⟩
  rcases hf.rd with ⟨h1,_⟩ | ⟨h1,_⟩
  ·exact Or.inl ⟨h1,trivial⟩
  ·obtain ⟨h2,h3,_⟩:=hs h1
   exact Or.inr ⟨h1,by simpa [Rb,cntB] using h2,h3,trivial⟩
 | x :: r,la,ep,sz,h,hst,hl,hnn,hs=>by
  obtain ⟨n2,e2,fs2,L2,c2,m2,hx,hl2,hd2,hr2,hc2⟩:=h
  refine ⟨n2,e2,fs2,L2,c2,m2,hx,hl2,hd2,fun _=>hst x (by simp),?_⟩
  have hn2:n2 < n:=hnn x (by simp) n2 hx.g.n hx.nm
  rcases hc2 with ⟨h3,h4⟩ | ⟨h3,h4,h5,h6⟩
  ·refine Or.inl ⟨h3,Ch.snoc hf hnd h4 (fun y hy=>hst y (by simp [hy])) hn2 (fun y hy=>hnn y (by simp [hy])) (fun h9=>?_)⟩
   obtain ⟨q1,q2,q3⟩:=hs h9
   have hnil:sgB x.bs = []:=by
    rcases hx.rd with ⟨_,h⟩ | ⟨h,_⟩
    ·exact h
    ·exact absurd h h3
   rw [xa1d,hnil,List.nil_append] at q1
   exact ⟨q1,q2,fun y hy=>q3 y (by simp [hy])⟩
  ·refine Or.inr ⟨h3,h4,h5,Ch.snoc hf hnd h6 (fun y hy=>hst y (by simp [hy])) hn2 (fun y hy=>hnn y (by simp [hy])) (fun h9=>?_)⟩
   obtain ⟨q1,q2,q3⟩:=hs h9
   rw [xa1d,xa1i] at q1
   refine ⟨by omega,?_,fun y hy=>q3 y (by simp [hy])⟩
   have h7:=q3 x (by simp) h3
   rcases hx.rd with ⟨h8,_⟩ | ⟨_,h8⟩
   ·exact absurd h3 h8
   ·rw [h8] at h7; exact h7
theorem Ch.asc {wd:Int} {N:Nat}:∀ {A:List DF} {la ep sz:Nat},Ch wd N la ep sz A→∀ x∈A,∃ u,x.nm = nmB u∧la < u∧u≤N∧u < 18446744073709551616
 | f :: r,la,ep,sz,h,x,hx=>by
  obtain ⟨n,e,fs,L,c,m,hf,hl,hd,hr,hc⟩:=h
  rcases List.mem_cons.1 hx with rfl | hx
  ·exact ⟨n,hf.nm,hl,hf.hn,hf.g.n⟩
  ·have:∃ u,x.nm = nmB u∧n < u∧u≤N∧u < 18446744073709551616:=by
    rcases hc with ⟨_,h4⟩ | ⟨_,_,_,h6⟩
    ·exact h4.asc x hx
    ·exact h6.asc x hx
   obtain ⟨u,h1,h2,h3,h4⟩:=this
   exact ⟨u,h1,by omega,h3,h4⟩
theorem xc5l {a b:Nat} (h:a < b) (hb:b < 18446744073709551616):(nmB a).data.toList≤(nmB b).data.toList:=by
 have h1:=nmL_lt h hb
 rw [← xb7a a,← xb7a b] at h1
 exact List.le_of_lt (xb4c _ _ h1)
theorem Ch.pair {wd:Int} {N:Nat}:∀ {A:List DF} {la ep sz:Nat},Ch wd N la ep sz A→(A.map fun f=>f.nm.data.toList).Pairwise (fun a b=>a≤b)∧Dist A
 | [],_,_,_,_=>⟨List.Pairwise.nil,List.Pairwise.nil⟩
 | f :: r,la,ep,sz,h=>by
  obtain ⟨n,e,fs,L,c,m,hf,hl,hd,hr,hc⟩:=h
  have h1:∃ e' s',Ch wd N n e' s' r:=by
   rcases hc with ⟨_,h4⟩ | ⟨_,_,_,h6⟩
   ·exact ⟨_,_,h4⟩
   ·exact ⟨_,_,h6⟩
  obtain ⟨e',s',h2⟩:=h1
  obtain ⟨i1,i2⟩:=h2.pair
  refine ⟨?_,?_⟩
  ·rw [List.map_cons]
   refine List.pairwise_cons.2 ⟨fun y hy=>?_,i1⟩
   obtain ⟨x,hx,rfl⟩:=List.mem_map.1 hy
   obtain ⟨u,q1,q2,q3,q4⟩:=h2.asc x hx
   rw [q1,hf.nm]
   exact xc5l q2 q4
  ·refine List.pairwise_cons.2 ⟨fun x hx=>?_,i2⟩
   obtain ⟨u,q1,q2,q3,q4⟩:=h2.asc x hx
   rw [q1,hf.nm]
   exact nmB_ne hf.g.n q4 (by omega)
theorem Ch.names {wd:Int} {N la ep sz:Nat} {σ:DSt} (h:Ch wd N la ep sz σ.A) (ho:σ.off = false):nmsOf σ = σ.A.map fun f=>f.nm.data.toList:=by
 unfold nmsOf srtN
 rw [ho]
 simp only [Bool.false_eq_true,if_false]
 exact List.mergeSort_of_pairwise (h.pair.1.imp (fun h=>by simpa using h))
theorem xb5v {σ:DSt} {f:DF} (ho:σ.off = false) (hd:Dist σ.A) (hf:f∈σ.A):(stRead σ (strU f.nm.data.toList)).1 = f.bs:=by
 have h1:strU f.nm.data.toList = f.nm:=ba_ext (by simp [strU])
 unfold stRead
 rw [ho,h1,xb0x hd hf]
 simp
theorem xb0y {σ:DSt} {wd:Int} {N:Nat} (ho:σ.off = false) (hd:Dist σ.A) (hN:N < 18446744073709551615):∀ {A:List DF} {la ep sz:Nat} (F:FSt),Ch wd N la ep sz A→(∀ x∈A,x∈σ.A)→F.ep = ep→F.sz = sz→F.ep≤N→F.last≤N→sz + cntB (Rb A) < 18446744073709551616 →
  ∃ G,findF σ wd F (A.map fun f=>f.nm.data.toList) = some G∧G.bs = F.bs++Rb A∧G.sz = sz + cntB (Rb A)∧G.sg = F.sg++(A.filter fun f=>decide (sgE f.bs = 0)).map (fun f=>f.nm.data.toList)∧F.ep≤G.ep∧G.ep≤N∧G.last≤N∧∀ x∈A,sgE x.bs = 0→(hdC x.bs).b≤G.ep
 | [],la,ep,sz,F,_,_,h1,h2,h3,h4,_=>⟨F,rfl,by simp [Rb],by simp [Rb,cntB,h2],by simp,Nat.le_refl _,h3,h4,by simp⟩
 | f :: r,la,ep,sz,F,h,hA,h1,h2,h3,h4,h5=>by
  obtain ⟨n,e,fs,L,c,m,hf,hl,hdd,hr,hc⟩:=h
  have hnum:=xa9s hf.g.n
  rw [← hf.nm] at hnum
  have hrd:=xb5v ho hd (hA f (by simp))
  have hnN:=hf.hn
  have heN:=hf.he
  rw [xa1d,xa1i] at h5
  rcases hc with ⟨q3,q4⟩ | ⟨q3,q4,q5,q6⟩
  ·have hnil:sgB f.bs = []:=by
    rcases hf.rd with ⟨_,h⟩ | ⟨h,_⟩
    ·exact h
    ·exact absurd h q3
   have hs:stepF σ wd F f.nm.data.toList = some { F with last:=n }:=by
    unfold stepF
    rw [hnum.1,hnum.2,hrd,if_neg (by simp),if_neg (by omega),if_pos q3]
   rw [hnil] at h5
   obtain ⟨G,g1,g2,g3,g4,g5,g6,g7,g8⟩:=xb0y ho hd hN { F with last:=n } q4 (fun x hx=>hA x (by simp [hx])) h1 h2 h3 hnN (by simpa [cntB] using h5)
   refine ⟨G,?_,?_,?_,?_,g5,g6,g7,?_⟩
   ·rw [List.map_cons]; unfold findF; rw [hs]; exact g1
   ·rw [xa1d,hnil]; exact g2
   ·rw [xa1d,hnil]; exact g3
   ·rw [List.filter_cons_of_neg (by simpa using q3)]; exact g4
   ·intro x hx hx0
    rcases List.mem_cons.1 hx with rfl | hx
    ·exact absurd hx0 q3
    ·exact g8 x hx hx0
  ·have hh:hdC f.bs = ⟨n,e,fs,wd.toNat⟩:=by
    rcases hf.rd with ⟨h,_⟩ | ⟨_,h⟩
    ·exact absurd q3 h
    ·exact h
   have hz:1≤wd∧wd≤32:=by have:=hf.g.z; unfold wideB at this; simpa using this
   have hs:stepF σ wd F f.nm.data.toList = some ⟨n,e,F.sz + cntB (sgB f.bs),F.sg++[f.nm.data.toList],F.bs++sgB f.bs⟩:=by
    unfold stepF
    rw [hnum.1,hnum.2,hrd,if_neg (by simp),if_neg (by omega),if_neg (by simpa using q3),hh]
    have hg:goOnF F f.bs = true:=by unfold goOnF; rw [hh]; simp; omega
    rw [if_pos ⟨rfl,(by show ((wd.toNat:Nat):Int) = wd; omega),hg⟩,Nat.mod_eq_of_lt (by omega)]
   obtain ⟨G,g1,g2,g3,g4,g5,g6,g7,g8⟩:=xb0y ho hd hN ⟨n,e,F.sz + cntB (sgB f.bs),F.sg++[f.nm.data.toList],F.bs++sgB f.bs⟩ q6 (fun x hx=>hA x (by simp [hx])) rfl (by rw [h2]) heN hnN (by omega)
   dsimp only at g2 g4 g5
   refine ⟨G,?_,?_,?_,?_,by omega,g6,g7,?_⟩
   ·rw [List.map_cons]; unfold findF; rw [hs]; exact g1
   ·rw [xa1d,g2,List.append_assoc]
   ·rw [xa1d,xa1i,g3]; omega
   ·rw [List.filter_cons_of_pos (by simpa using q3),g4]; simp
   ·intro x hx hx0
    rcases List.mem_cons.1 hx with rfl | hx
    ·rw [hh]; exact g5
    ·exact g8 x hx hx0
theorem opE_5 (ft:Int→Option Int) (cr op:Int):opE ft cr op 5≠0:=by unfold opE; (repeat' split) <;> simp_all
theorem xa6d (σ:DSt) (s:ByteArray):∃ F:DF→DF,(stSync σ s).2.A = σ.A.map F∧(∀ x,UpF x (F x))∧((stSync σ s).1 = 0→∀ x,x.nm = s→(F x).sy = x.bs.length)∧(∀ x,x.nm≠s→F x = x):=by
 unfold stSync
 split
 ·exact ⟨id,by simp,fun x=>UpF.refl x,fun h=>(by cases h),fun _ _=>rfl⟩
 ·split
  ·by_cases h:opE σ.ft σ.cr σ.op 0 = 0
   ·refine ⟨fun x=>if x.nm = s then { x with sy:=x.bs.length } else x,?_,fun x=>?_,fun _ x hx=>by simp [hx],fun x hx=>by simp [hx]⟩
    ·simp only [if_pos h,tick]; rfl
    ·dsimp only
     split
     ·exact ⟨rfl,rfl,id,Or.inr rfl⟩
     ·exact UpF.refl x
   ·exact ⟨id,by simp only [if_neg h,tick]; simp,fun x=>UpF.refl x,fun h9=>absurd h9 h,fun _ _=>rfl⟩
  ·exact ⟨id,by simp [tick],fun x=>UpF.refl x,fun h9=>absurd h9 (opE_5 _ _ _),fun _ _=>rfl⟩
theorem xb0a:∀ (l:List (List UInt8)) (σ:DSt),∃ F:DF→DF,(stSyncs σ l).2.A = σ.A.map F∧(∀ x,UpF x (F x))∧((stSyncs σ l).1 = 0→∀ s∈l,∀ x,x.nm = strU s→(F x).sy = x.bs.length)
 | [],σ=>⟨id,by simp [stSyncs],fun x=>UpF.refl x,fun _ s hs=>by simp at hs⟩
 | s :: r,σ=>by
  obtain ⟨F,h1,h2,h3,_⟩:=xa6d σ (strU s)
  unfold stSyncs
  split
  ·rename_i h0
   exact ⟨F,h1,h2,fun h=>absurd h h0⟩
  ·rename_i h0
   obtain ⟨G,k1,k2,k3⟩:=xb0a r (stSync σ (strU s)).2
   refine ⟨fun x=>G (F x),by rw [k1,h1,List.map_map]; rfl,fun x=>(h2 x).trans (k2 _),fun h t ht x hx=>?_⟩
   rcases List.mem_cons.1 ht with rfl | ht
   ·have h4:=h3 (by simpa using h0) x hx
    rcases (k2 (F x)).sy with h5 | h5
    ·rw [h5,h4]
    ·rw [h5,(h2 x).bs]
   ·rw [k3 h t ht (F x) (by rw [(h2 x).nm]; exact hx),(h2 x).bs]
theorem xb9s:∀ (l:List (List UInt8)) (σ:DSt),(∀ s∈l,strU s∈nmS σ)→E3 (stSyncs σ l).1
 | [],σ,_=>Or.inl rfl
 | s :: r,σ,h=>by
  unfold stSyncs
  split
  ·exact sync_3 (h s (by simp))
  ·exact xb9s r _ (fun t ht=>by rw [xc0f]; exact h t (by simp [ht]))
end
section
open Go Go.RowKit Go.BigFrame
section
variable {P:Program} {Q:Exit→Act→World→Prop}
theorem wp_sc8 {id:Nat} {o0 o1 o2 o3 o4 o5 o6 o7:Oper} {a:Act} {w:World} (hm:P.follows .mixedOrders = true) (hs:Region.noSelect #[o0,o1,o2,o3,o4,o5,o6,o7] = true)
  (f0:Region.free .any #[o0,o1,o2,o3,o4,o5,o6,o7] #[false,false,false,false,false,false,false,false] 0 = true) (r0:(Region.ready .any #[o0,o1,o2,o3,o4,o5,o6,o7] #[false,false,false,false,false,false,false,false]).contains 0 = true)
  (f2:Region.free .any #[o0,o1,o2,o3,o4,o5,o6,o7] #[true,false,false,false,false,false,false,false] 2 = true) (r2:(Region.ready .any #[o0,o1,o2,o3,o4,o5,o6,o7] #[true,false,false,false,false,false,false,false]).contains 2 = true)
  (f3:Region.free .any #[o0,o1,o2,o3,o4,o5,o6,o7] #[true,false,true,false,false,false,false,false] 3 = true) (r3:(Region.ready .any #[o0,o1,o2,o3,o4,o5,o6,o7] #[true,false,true,false,false,false,false,false]).contains 3 = true)
  (q_:Region.ready .any #[o0,o1,o2,o3,o4,o5,o6,o7] #[true,false,true,true,false,false,false,false] = [1,6])
  (q1_:Region.ready .any #[o0,o1,o2,o3,o4,o5,o6,o7] #[true,true,true,true,false,false,false,false] = [4,6])
  (f1_4_5:Region.free .any #[o0,o1,o2,o3,o4,o5,o6,o7] #[true,true,true,true,true,false,false,false] 5 = true) (r1_4_5:(Region.ready .any #[o0,o1,o2,o3,o4,o5,o6,o7] #[true,true,true,true,true,false,false,false]).contains 5 = true)
  (q6_:Region.ready .any #[o0,o1,o2,o3,o4,o5,o6,o7] #[true,false,true,true,false,false,true,false] = [1])
  (q1_4_:Region.ready .any #[o0,o1,o2,o3,o4,o5,o6,o7] #[true,true,true,true,true,true,false,false] = [6])
  (q1_6_:Region.ready .any #[o0,o1,o2,o3,o4,o5,o6,o7] #[true,true,true,true,false,false,true,false] = [4])
  (f1_6_4_5:Region.free .any #[o0,o1,o2,o3,o4,o5,o6,o7] #[true,true,true,true,true,false,true,false] 5 = true) (r1_6_4_5:(Region.ready .any #[o0,o1,o2,o3,o4,o5,o6,o7] #[true,true,true,true,true,false,true,false]).contains 5 = true)
  (q1_4_6_:Region.ready .any #[o0,o1,o2,o3,o4,o5,o6,o7] #[true,true,true,true,true,true,true,false] = [7])
  (q1_4_6_7_:Region.ready .any #[o0,o1,o2,o3,o4,o5,o6,o7] #[true,true,true,true,true,true,true,true] = [])
  (g1:o1.guard = none)    (g4:o4.guard = none)    (g6:o6.guard = none)    (g7:o7.guard = none)
  (ne6_1:∀ d,o6.dst = some d→o1.dst≠some d)
  (ne6_4:∀ d,o6.dst = some d→o4.dst≠some d)
  (ne6_5:∀ d,o6.dst = some d→o5.dst≠some d)
  (v0 v2 v3:Value) (A0 A1 A2:Act)
  (S:World→Prop)
  (I_:World→Prop)
  (I1_:Value→World→Prop)
  (I6_:Value→World→Prop)
  (I1_4_:Value→Value→World→Prop)
  (I1_6_:Value→Value→World→Prop)
  (I1_4_6_:Value→Value→Value→World→Prop)
  (I1_4_6_7_:Value→Value→Value→Value→World→Prop)
  (v5:Value→Value→Value)
  (p0:a.put o0.dst v0 = A0) (hy0:YieldsIf P #[o0,o1,o2,o3,o4,o5,o6,o7] S o0 v0 a)
  (p2:A0.put o2.dst v2 = A1) (hy2:YieldsIf P #[o0,o1,o2,o3,o4,o5,o6,o7] S o2 v2 A0)
  (p3:A1.put o3.dst v3 = A2) (hy3:YieldsIf P #[o0,o1,o2,o3,o4,o5,o6,o7] S o3 v3 A1)
  (i0:I_ w.drew)
  (hIS:(∀ w',I_  w'→S w')∧(∀ (u1:Value) w',I1_ u1 w'→S w')∧(∀ (u6:Value) w',I6_ u6 w'→S w')∧(∀ (u1 u4:Value) w',I1_4_ u1 u4 w'→S w')∧(∀ (u1 u6:Value) w',I1_6_ u1 u6 w'→S w')∧(∀ (u1 u4 u6:Value) w',I1_4_6_ u1 u4 u6 w'→S w')∧(∀ (u1 u4 u6 u7:Value) w',I1_4_6_7_ u1 u4 u6 u7 w'→S w'))
  (s_1:∀ w',I_  w'→∀ K:Act→World→Prop,(∀ (u1:Value) w2,I1_ u1 w2→K (A2.put o1.dst u1) w2)→o1.wp P A2 w' K (NoPanic Q))
  (s_6:∀ w',I_  w'→∀ K:Act→World→Prop,(∀ (u6:Value) w2,I6_ u6 w2→K (A2.put o6.dst u6) w2)→o6.wp P A2 w' K (NoPanic Q))
  (s1_4:∀ (u1:Value) w',I1_ u1 w'→∀ K:Act→World→Prop,(∀ (u4:Value) w2,I1_4_ u1 u4 w2→K ((A2.put o1.dst u1).put o4.dst u4) w2)→o4.wp P (A2.put o1.dst u1) w' K (NoPanic Q))
  (s1_6:∀ (u1:Value) w',I1_ u1 w'→∀ K:Act→World→Prop,(∀ (u6:Value) w2,I1_6_ u1 u6 w2→K ((A2.put o1.dst u1).put o6.dst u6) w2)→o6.wp P (A2.put o1.dst u1) w' K (NoPanic Q))
  (s6_1:∀ (u6:Value) w',I6_ u6 w'→∀ K:Act→World→Prop,(∀ (u1:Value) w2,I1_6_ u1 u6 w2→K ((A2.put o6.dst u6).put o1.dst u1) w2)→o1.wp P (A2.put o6.dst u6) w' K (NoPanic Q))
  (s1_4_6:∀ (u1 u4:Value) w',I1_4_ u1 u4 w'→∀ K:Act→World→Prop,(∀ (u6:Value) w2,I1_4_6_ u1 u4 u6 w2→K ((((A2.put o1.dst u1).put o4.dst u4).put o5.dst (v5 u1 u4)).put o6.dst u6) w2)→o6.wp P (((A2.put o1.dst u1).put o4.dst u4).put o5.dst (v5 u1 u4)) w' K (NoPanic Q))
  (s1_6_4:∀ (u1 u6:Value) w',I1_6_ u1 u6 w'→∀ K:Act→World→Prop,(∀ (u4:Value) w2,I1_4_6_ u1 u4 u6 w2→K (((A2.put o1.dst u1).put o6.dst u6).put o4.dst u4) w2)→o4.wp P ((A2.put o1.dst u1).put o6.dst u6) w' K (NoPanic Q))
  (s1_4_6_7:∀ (u1 u4 u6:Value) w',I1_4_6_ u1 u4 u6 w'→∀ K:Act→World→Prop,(∀ (u7:Value) w2,I1_4_6_7_ u1 u4 u6 u7 w2→K (((((A2.put o1.dst u1).put o4.dst u4).put o5.dst (v5 u1 u4)).put o6.dst u6).put o7.dst u7) w2)→o7.wp P ((((A2.put o1.dst u1).put o4.dst u4).put o5.dst (v5 u1 u4)).put o6.dst u6) w' K (NoPanic Q))
  (y1_4_5:∀ (u1 u4:Value) w',I1_4_ u1 u4 w'→YieldsIf P #[o0,o1,o2,o3,o4,o5,o6,o7] S o5 (v5 u1 u4) ((A2.put o1.dst u1).put o4.dst u4))
  (y1_6_4_5:∀ (u1 u4 u6:Value) w',I1_4_6_ u1 u4 u6 w'→YieldsIf P #[o0,o1,o2,o3,o4,o5,o6,o7] S o5 (v5 u1 u4) (((A2.put o1.dst u1).put o4.dst u4).put o6.dst u6))
  (h:∀ (u1 u4 u6 u7:Value) w',I1_4_6_7_ u1 u4 u6 u7 w'→Q .normal (((((A2.put o1.dst u1).put o4.dst u4).put o5.dst (v5 u1 u4)).put o6.dst u6).put o7.dst u7) w') :
  (Code.region id #[o0,o1,o2,o3,o4,o5,o6,o7] true).wp P Q a w:=by
 subst p0 p2 p3
 obtain ⟨z_,z1_,z6_,z1_4_,z1_6_,z1_4_6_,z1_4_6_7_⟩:=hIS
 refine wp_region_noPanic ?_
 refine wp_region_held_drew (S:=S) hm (z_ _ i0) (fun hH=>?_)
 show wpAnyH P .any #[o0,o1,o2,o3,o4,o5,o6,o7] (NoPanic Q) S 8 #[false,false,false,false,false,false,false,false] a w.drew
 refine wpAnyH_take (i:=0) (oi:=o0) rfl hs f0 r0 (fun _ _ _ h=>h) hy0 hH ?_
 refine wpAnyH_take (i:=2) (oi:=o2) rfl hs f2 r2 (fun _ _ _ h=>h) hy2 hH ?_
 refine wpAnyH_take (i:=3) (oi:=o3) rfl hs f3 r3 (fun _ _ _ h=>h) hy3 hH ?_
 generalize (((a.put o0.dst v0).put o2.dst v2).put o3.dst v3) = B at *
 have wa1:∀ y,Region.wanted o1 y = true:=fun y=>by unfold Region.wanted; rw [g1]
 have wa4:∀ y,Region.wanted o4 y = true:=fun y=>by unfold Region.wanted; rw [g4]
 have wa6:∀ y,Region.wanted o6 y = true:=fun y=>by unfold Region.wanted; rw [g6]
 have wa7:∀ y,Region.wanted o7 y = true:=fun y=>by unfold Region.wanted; rw [g7]
 have t1_4_6_7_:∀ (u1 u4 u6 u7:Value) w',I1_4_6_7_ u1 u4 u6 u7 w'→wpAnyH P .any #[o0,o1,o2,o3,o4,o5,o6,o7] (NoPanic Q) S 0 #[true,true,true,true,true,true,true,true] (((((B.put o1.dst u1).put o4.dst u4).put o5.dst (v5 u1 u4)).put o6.dst u6).put o7.dst u7) w':=by
  intro u1 u4 u6 u7 w0 i0
  exact ⟨q1_4_6_7_,NoPanic.normal (h u1 u4 u6 u7 w0 i0)⟩
 have t1_4_6_:∀ (u1 u4 u6:Value) w',I1_4_6_ u1 u4 u6 w'→wpAnyH P .any #[o0,o1,o2,o3,o4,o5,o6,o7] (NoPanic Q) S 1 #[true,true,true,true,true,true,true,false] ((((B.put o1.dst u1).put o4.dst u4).put o5.dst (v5 u1 u4)).put o6.dst u6) w':=by
  intro u1 u4 u6 w0 i0
  refine wpAnyH_ready (rs:=[7]) q1_4_6_ (by simp) (AllReadyH.cons (o:=o7) rfl (fun K hK=>?_) AllReadyH.nil)
  ·rw [if_pos (wa7 _)]
   refine s1_4_6_7 u1 u4 u6 w0 i0 K (fun u7 w1 i1=>hK.out _ _ (z1_4_6_7_ u1 u4 u6 u7 w1 i1) (fun _=>?_))
   clear hK
   exact t1_4_6_7_ u1 u4 u6 u7 w1 i1
 have t1_6_:∀ (u1 u6:Value) w',I1_6_ u1 u6 w'→wpAnyH P .any #[o0,o1,o2,o3,o4,o5,o6,o7] (NoPanic Q) S 3 #[true,true,true,true,false,false,true,false] ((B.put o1.dst u1).put o6.dst u6) w':=by
  intro u1 u6 w0 i0
  refine wpAnyH_ready (rs:=[4]) q1_6_ (by simp) (AllReadyH.cons (o:=o4) rfl (fun K hK=>?_) AllReadyH.nil)
  ·rw [if_pos (wa4 _)]
   refine s1_6_4 u1 u6 w0 i0 K (fun u4 w1 i1=>hK.out _ _ (z1_4_6_ u1 u4 u6 w1 i1) (fun _=>?_))
   clear hK
   rw [Act.put_comm _ _ _ ne6_4]
   refine wpAnyH_take (i:=5) (oi:=o5) rfl hs f1_6_4_5 r1_6_4_5 (fun _ _ _ h=>h) (y1_6_4_5 u1 u4 u6 w1 i1) (z1_4_6_ u1 u4 u6 w1 i1) ?_
   rw [Act.put_comm _ _ _ ne6_5]
   exact t1_4_6_ u1 u4 u6 w1 i1
 have t1_4_:∀ (u1 u4:Value) w',I1_4_ u1 u4 w'→wpAnyH P .any #[o0,o1,o2,o3,o4,o5,o6,o7] (NoPanic Q) S 2 #[true,true,true,true,true,true,false,false] (((B.put o1.dst u1).put o4.dst u4).put o5.dst (v5 u1 u4)) w':=by
  intro u1 u4 w0 i0
  refine wpAnyH_ready (rs:=[6]) q1_4_ (by simp) (AllReadyH.cons (o:=o6) rfl (fun K hK=>?_) AllReadyH.nil)
  ·rw [if_pos (wa6 _)]
   refine s1_4_6 u1 u4 w0 i0 K (fun u6 w1 i1=>hK.out _ _ (z1_4_6_ u1 u4 u6 w1 i1) (fun _=>?_))
   clear hK
   exact t1_4_6_ u1 u4 u6 w1 i1
 have t6_:∀ (u6:Value) w',I6_ u6 w'→wpAnyH P .any #[o0,o1,o2,o3,o4,o5,o6,o7] (NoPanic Q) S 4 #[true,false,true,true,false,false,true,false] (B.put o6.dst u6) w':=by
  intro u6 w0 i0
  refine wpAnyH_ready (rs:=[1]) q6_ (by simp) (AllReadyH.cons (o:=o1) rfl (fun K hK=>?_) AllReadyH.nil)
  ·rw [if_pos (wa1 _)]
   refine s6_1 u6 w0 i0 K (fun u1 w1 i1=>hK.out _ _ (z1_6_ u1 u6 w1 i1) (fun _=>?_))
   clear hK
   rw [Act.put_comm _ _ _ ne6_1]
   exact t1_6_ u1 u6 w1 i1
 have t1_:∀ (u1:Value) w',I1_ u1 w'→wpAnyH P .any #[o0,o1,o2,o3,o4,o5,o6,o7] (NoPanic Q) S 4 #[true,true,true,true,false,false,false,false] (B.put o1.dst u1) w':=by
  intro u1 w0 i0
  refine wpAnyH_ready (rs:=[4,6]) q1_ (by simp) (AllReadyH.cons (o:=o4) rfl (fun K hK=>?_) (AllReadyH.cons (o:=o6) rfl (fun K hK=>?_) AllReadyH.nil))
  ·rw [if_pos (wa4 _)]
   refine s1_4 u1 w0 i0 K (fun u4 w1 i1=>hK.out _ _ (z1_4_ u1 u4 w1 i1) (fun _=>?_))
   clear hK
   refine wpAnyH_take (i:=5) (oi:=o5) rfl hs f1_4_5 r1_4_5 (fun _ _ _ h=>h) (y1_4_5 u1 u4 w1 i1) (z1_4_ u1 u4 w1 i1) ?_
   exact t1_4_ u1 u4 w1 i1
  ·rw [if_pos (wa6 _)]
   refine s1_6 u1 w0 i0 K (fun u6 w1 i1=>hK.out _ _ (z1_6_ u1 u6 w1 i1) (fun _=>?_))
   clear hK
   exact t1_6_ u1 u6 w1 i1
 have t_:∀ w',I_  w'→wpAnyH P .any #[o0,o1,o2,o3,o4,o5,o6,o7] (NoPanic Q) S 5 #[true,false,true,true,false,false,false,false] B w':=by
  intro w0 i0
  refine wpAnyH_ready (rs:=[1,6]) q_ (by simp) (AllReadyH.cons (o:=o1) rfl (fun K hK=>?_) (AllReadyH.cons (o:=o6) rfl (fun K hK=>?_) AllReadyH.nil))
  ·rw [if_pos (wa1 _)]
   refine s_1  w0 i0 K (fun u1 w1 i1=>hK.out _ _ (z1_ u1 w1 i1) (fun _=>?_))
   clear hK
   exact t1_ u1 w1 i1
  ·rw [if_pos (wa6 _)]
   refine s_6  w0 i0 K (fun u6 w1 i1=>hK.out _ _ (z6_ u6 w1 i1) (fun _=>?_))
   clear hK
   exact t6_ u6 w1 i1
 exact t_ w.drew i0
end
end
section
open Go.RowKit Go.BigFrame Go.Maps Go.Sort
def o9C (t:Bool × Value × List En):List Value:=[.bool t.1,t.2.1]
def RdO9 (w:World) (v:Value) (os:List (Bool × List En)):Prop:=∃ ts:List (Bool × Value × List En),os = ts.map (fun t=>(t.1,t.2.2))∧RdC 2 w v (ts.map o9C)∧∀ t∈ts,RdN w t.2.1 t.2.2∧t.2.2.length≤1048576
def OldO (g:Nat) (w:World) (v:Value) (os:List (Bool × List En)):Prop:=∀ M w',Kept M w w'→(∀ x∈M,g≤x)→RdO9 w' v os
theorem OldO.on {g:Nat} {L:List Nat} {w w':World} {v:Value} {os:List (Bool × List En)} (h:OldO g w v os) (k:Kept L w w') (hL:∀ x∈L,g≤x):OldO g w' v os:=by
 intro M w2 k2 hM
 exact h (L++M) w2 ((k.mono (M:=L++M) (fun x hx=>by simp [hx])).trans (k2.mono (M:=L++M) (fun x hx=>by simp [hx])) (fun x hx=>Or.inl hx)) (fun x hx=>by
  rcases List.mem_append.1 hx with hx | hx
  ·exact hL x hx
  ·exact hM x hx)
structure KS (w0 w:World) (kb:Nat) (X:List Nat) (mv:Value) (ts:List (Nat × Value × List En)) (must:Nat):Prop where
 row:w.heap[kb]? = some (.cells #[mv,.int .i64 (must:Int)] 44 (0,0))
 ow:OwnX X w0 w mv ts
 kx:kb∉X
 kl:kb < w0.heap.size
theorem OwnX.mv {X Y:List Nat} {w0 wo w:World} {v:Value} {ts:List (Nat × Value × List En)} (h:OwnX X w0 wo v ts) (k:Kept X wo w) (hY:∀ b∈Y,b∈X∨wo.heap.size≤b):OwnX Y w0 w v ts :=
 (h.pass k (fun x hx=>Or.inr hx)).turn (n:=wo.heap.size) hY rfl h k
structure ScS where
 σ:DSt
 s:LSt
 may:List (Nat × List En)
 must:Nat
def scStep (c:ScS) (o:Bool × List En):ScS :=
 if o.1 then ⟨(lgSync c.σ c.s).2.1,(lgSync c.σ c.s).2.2,c.may,if (lgSync c.σ c.s).1 = 0 then c.may.length else c.must⟩
 else ⟨(lgAppend c.σ c.s o.2).2.1,(lgAppend c.σ c.s o.2).2.2,if (lgAppend c.σ c.s o.2).1 = 0∨(c.s.st = 0∧(lgAppend c.σ c.s o.2).2.2.st≠0) then c.may++[(c.s.nx,o.2)] else c.may,c.must⟩
def scR (c:ScS) (os:List (Bool × List En)):ScS:=os.foldl scStep c
theorem xc1e (c:ScS) (os:List (Bool × List En)) (i:Nat) (h:i < os.length):scR c (os.take (i + 1)) = scStep (scR c (os.take i)) os[i]:=by
 unfold scR
 rw [List.take_succ_eq_append_getElem h,List.foldl_append]
 rfl
theorem xa1o {r:Nat × DSt} {f:DSt→Nat × DSt} (h:r.1≠0):thn r f = r:=by unfold thn; rw [if_neg h]
theorem thn_go {r:Nat × DSt} {f:DSt→Nat × DSt} (h:r.1 = 0):thn r f = f r.2:=by unfold thn; rw [if_pos h]
theorem xb2c {σ:DSt} {s:ByteArray} (hs:isNm s = true) (h:s∉nmS σ):((stCreate σ s).2.A = σ.A∧(stCreate σ s).1≠0)∨(stCreate σ s).2.A = σ.A++[⟨s,[],0,false⟩]:=by
 have ho:ownA σ.A s = 0:=by
  unfold ownA
  rw [if_pos hs]
  cases hq:(findA σ.A s.data.toList).isSome
  ·rfl
  ·exact absurd ((xa5h _ _).1 hq) h
 unfold stCreate
 split
 ·exact Or.inl ⟨rfl,by show (12:Nat)≠0; decide⟩
 ·rw [ho]
  by_cases h1:opE σ.ft σ.cr σ.op 0 = 7
  ·exact Or.inl ⟨by simp [h1,tick],by simp [h1]⟩
  ·exact Or.inr (by simp [h1,tick])
theorem xa4x {σ:DSt} {s:ByteArray} {A:List DF} {f:DF} (p:List Nat) (hA:σ.A = A++[f]) (hs:f.nm = s) (hno:∀ x∈A,x.nm≠s):∃ k,k≤p.length∧(stAppend σ s p).2.A = A++[{ f with bs:=f.bs++p.take k }]∧((stAppend σ s p).1 = 0→k = p.length):=by
 have hf:(findA σ.A s.data.toList).isSome = true:=by rw [hA]; exact xa2o hs
 unfold stAppend
 split
 ·exact ⟨0,Nat.zero_le _,by simp [hA],fun h=>(by cases h)⟩
 ·refine ⟨appK σ p,?_,?_,fun h=>?_⟩
  ·unfold appK
   split
   ·have:=xa2n ((σ.ft (σ.op + 1)).getD 0) (p.length:Int) (by omega)
    omega
   ·exact Nat.le_refl _
  ·simp only [hf,if_true,tick,hA]
   rw [xa7j A s (fun f=>{ f with bs:=f.bs++p.take (appK σ p) }) f hs hno]
  ·have h':opE σ.ft σ.cr σ.op 0 = 0:=h
   unfold appK
   rw [h',if_neg (by decide)]
theorem xa9x (σ:DSt):∃ F:DF→DF,(stNames σ).2.A = σ.A.map F∧(∀ x,UpF x (F x))∧((stNames σ).1 = 0→∀ x,F x = { x with nd:=true }):=by
 unfold stNames
 split
 ·exact ⟨id,by simp,fun x=>UpF.refl x,fun h=>(by cases h)⟩
 ·by_cases h:opE σ.ft σ.cr σ.op 0 = 0
  ·exact ⟨fun x=>{ x with nd:=true },by simp [h,tick,ndA],fun x=>⟨rfl,rfl,fun _=>rfl,Or.inl rfl⟩,fun _ _=>rfl⟩
  ·exact ⟨id,by simp [h,tick],fun x=>UpF.refl x,fun h9=>absurd h9 h⟩
theorem xb5i {σ:DSt} {n ep fs:Nat} {wd:Int} (hz:wideB wd = true) (hno:nmB n∉nmS σ):∃ (F:DF→DF) (C:List DF),(stBegin σ n ep fs wd).2.A = σ.A.map F++C∧(∀ x,UpF x (F x))∧(C = []∨∃ f c,C = [f]∧f.nm = nmB n∧c≤48∧f.bs = (ehB n ep fs wd).take c∧f.sy≤f.bs.length)∧((stBegin σ n ep fs wd).1 = 0→C = [⟨nmB n,ehB n ep fs wd,48,true⟩]):=by
 have hp:=xa1u (a:=n) (b:=ep) (c:=fs) hz
 have hnm:=nmB_ok n
 unfold stBegin
 generalize nmB n = s at hno hnm ⊢
 generalize ehB n ep fs wd = p at hp ⊢
 have hno2:∀ x∈σ.A,x.nm≠s:=fun x hx e=>hno (List.mem_map.2 ⟨x,hx,e⟩)
 rcases xb2c hnm hno with ⟨h1,h2⟩ | h1
 ·rw [xa1o (r:=stCreate σ s) h2,xa1o (r:=stCreate σ s) h2,xa1o (r:=stCreate σ s) h2]
  exact ⟨id,[],by simp [h1],fun x=>UpF.refl x,Or.inl rfl,fun h=>absurd h h2⟩
 ·by_cases h2:(stCreate σ s).1 = 0
  ·rw [thn_go h2]
   obtain ⟨k,k1,k2,k3⟩:=xa4x p h1 rfl hno2
   generalize stAppend (stCreate σ s).2 s p = r2 at k2 k3 ⊢
   dsimp only at k2
   rw [List.nil_append] at k2
   by_cases h3:r2.1 = 0
   ·rw [thn_go h3]
    have k4:=k3 h3
    rw [k4,List.take_length] at k2
    obtain ⟨F,f1,f2,f3,f4⟩:=xa6d r2.2 s
    rw [k2,List.map_append,List.map_cons,List.map_nil] at f1
    generalize stSync r2.2 s = r3 at f1 f3 ⊢
    have u1:=f2 ⟨s,p,0,false⟩
    by_cases h4:r3.1 = 0
    ·rw [thn_go h4]
     obtain ⟨G,g1,g2,g3⟩:=xa9x r3.2
     rw [f1,List.map_append,List.map_map,List.map_cons,List.map_nil] at g1
     have u2:=g2 (F ⟨s,p,0,false⟩)
     have u3:=u1.trans u2
     have hsy:=f3 h4 ⟨s,p,0,false⟩ rfl
     refine ⟨G ∘ F,[G (F ⟨s,p,0,false⟩)],g1,fun x=>(f2 x).trans (g2 _),Or.inr ⟨_,48,rfl,u3.nm,Nat.le_refl _,?_,?_⟩,fun h5=>?_⟩
     ·rw [u3.bs,← hp,List.take_length]
     ·rw [u3.bs]; rcases u3.sy with h | h <;> rw [h] <;> simp
     ·rw [g3 h5]
      have q1:=u1.nm
      have q2:=u1.bs
      generalize F ⟨s,p,0,false⟩ = X at q1 q2 hsy ⊢
      obtain ⟨x1,x2,x3,x4⟩:=X
      dsimp only at q1 q2 hsy ⊢
      rw [q1,q2,hsy,hp]
    ·rw [xa1o h4]
     refine ⟨F,[F ⟨s,p,0,false⟩],f1,f2,Or.inr ⟨_,48,rfl,u1.nm,Nat.le_refl _,?_,?_⟩,fun h5=>absurd h5 h4⟩
     ·rw [u1.bs,← hp,List.take_length]
     ·rw [u1.bs]; rcases u1.sy with h | h <;> rw [h] <;> simp
   ·rw [xa1o h3,xa1o h3]
    exact ⟨id,_,by rw [k2,List.map_id],fun x=>UpF.refl x,Or.inr ⟨_,k,rfl,rfl,by omega,rfl,by simp⟩,fun h5=>absurd h5 h3⟩
  ·rw [xa1o h2,xa1o h2,xa1o h2]
   exact ⟨id,_,by rw [h1,List.map_id],fun x=>UpF.refl x,Or.inr ⟨_,0,rfl,rfl,by omega,by simp,by simp⟩,fun h5=>absurd h5 h2⟩
def Inv (wd:Int) (N:Nat) (A:List DF) (may:List (Nat × List En)) (must:Nat):Prop:=Ch wd N 0 0 0 A∧Rb A <+: may∧must≤dl A∧cntB may < 18446744073709551616
theorem Inv.upd {wd:Int} {N:Nat} {A:List DF} {may:List (Nat × List En)} {must:Nat} (h:Inv wd N A may must) {F:DF→DF} (hF:∀ x,UpF x (F x)):Inv wd N (A.map F) may must:=by
 obtain ⟨h1,h2,h3,h4⟩:=h
 obtain ⟨q1,q2,q3⟩:=h1.upd (F:=F) (fun x _=>hF x)
 exact ⟨q1,by rw [q2]; exact h2,by omega,h4⟩
theorem Inv.more {wd:Int} {N N':Nat} {A:List DF} {may may':List (Nat × List En)} {must:Nat} (h:Inv wd N A may must) (hN:N≤N') (hm:may <+: may') (hc:cntB may' < 18446744073709551616):Inv wd N' A may' must:=⟨h.1.up hN,h.2.1.trans hm,h.2.2.1,hc⟩
theorem xb5f (fs:Nat):numS fs [] = []:=rfl
theorem xb6m {wd:Int} {n ep fs:Nat} (hz:wideB wd = true) (hn:n < 18446744073709551616) (he:ep < 18446744073709551616) (hf:fs < 18446744073709551616):Gd wd n ep fs []:=⟨hz,hn,he,hf,rfl,by simp⟩
theorem xc5e {wd:Int} {N n ep fs c:Nat} {f:DF} (hz:wideB wd = true) (hn:n < 18446744073709551616) (he:ep < 18446744073709551616) (hf:fs < 18446744073709551616) (h1:f.nm = nmB n) (h2:c≤48) (h3:f.bs = (ehB n ep fs wd).take c) (h4:f.sy≤f.bs.length) (h5:n≤N) (h6:ep≤N):Fl wd N f n ep fs [] c []∧sgB f.bs = []:=by
 have e:laidB n ep fs wd [] = ehB n ep fs wd:=by unfold laidB; simp [numS,runS]
 have g:=xb6m (wd:=wd) hz hn he hf
 have hb:f.bs = (laidB n ep fs wd []).take c++[]:=by rw [e,h3]; simp
 refine ⟨⟨g,h1,h5,h6,by rw [e,xa1u hz]; exact h2,hb,h4,Tl.nil _ _⟩,?_⟩
 rw [hb]
 by_cases hc:c < 48
 ·exact (xa6c g c [] (Tl.nil _ _) hc).2
 ·obtain ⟨_,_,k,_,q,_⟩:=xa2m g c [] (Tl.nil _ _) (by omega)
  rw [q,xb5f]; simp
theorem xb0z {σ:DSt} {wd:Int} {N N' n ep fs:Nat} {may:List (Nat × List En)} {must:Nat} (hz:wideB wd = true) (h:Inv wd N σ.A may must) (hst:Stl σ.A) (hnum:∀ x∈σ.A,∀ u,u < 18446744073709551616→x.nm = nmB u→u < n) (hep:∀ x∈σ.A,sgE x.bs = 0→(hdC x.bs).b≤ep) (hfs:fs = cntB (Rb σ.A)) (h0:0 < n) (hNN:N≤N') (hnN:n≤N') (heN:ep≤N') (hN:N' < 18446744073709551615) :
  Inv wd N' (stBegin σ n ep fs wd).2.A may must∧E3 (stBegin σ n ep fs wd).1∧((stBegin σ n ep fs wd).1 = 0→∃ F:DF→DF,(stBegin σ n ep fs wd).2.A = σ.A.map F++[⟨nmB n,ehB n ep fs wd,48,true⟩]∧∀ x,UpF x (F x)):=by
 have hno:nmB n∉nmS σ:=by
  intro hm
  obtain ⟨x,hx,e⟩:=List.mem_map.1 hm
  have:=hnum x hx n (by omega) e
  omega
 obtain ⟨F,C,b1,b2,b3,b4⟩:=xb5i (ep:=ep) (fs:=fs) hz hno
 have hfl:fs < 18446744073709551616:=by
  have h1:cntB (Rb σ.A)≤cntB may:=by
   obtain ⟨t,ht⟩:=h.2.1
   rw [← ht,xa1i]; omega
  have:=h.2.2.2
  omega
 refine ⟨?_,xc3z hno,fun h9=>⟨F,by rw [b1,b4 h9],b2⟩⟩
 have hU:=h.upd b2
 have hRb:Rb (σ.A.map F) = Rb σ.A:=(h.1.upd (F:=F) (fun x _=>b2 x)).2.1
 have hC:Ch wd N' 0 0 0 (σ.A.map F):=hU.1.up hNN
 rw [b1]
 rcases b3 with rfl | ⟨f,c,rfl,c1,c2,c3,c4⟩
 ·rw [List.append_nil]
  exact hU.more hNN (List.prefix_refl _) h.2.2.2
 ·obtain ⟨e1,e2⟩:=xc5e (N:=N') hz (by omega) (by omega) hfl c1 c2 c3 c4 hnN heN
  refine ⟨Ch.snoc e1 (fun h9=>absurd e2 h9) hC (fun y hy=>?_) h0 (fun y hy u hu hyu=>?_) (fun h9=>⟨?_,Nat.zero_le _,fun y hy hy0=>?_⟩),?_,?_,h.2.2.2⟩
  ·obtain ⟨x,hx,rfl⟩:=List.mem_map.1 hy
   have u:=b2 x
   rw [u.bs]
   rcases hst x hx with h9 | h9
   ·exact Or.inl h9
   ·refine Or.inr ?_
    rcases u.sy with h7 | h7 <;> rw [h7]
    exact h9
  ·obtain ⟨x,hx,rfl⟩:=List.mem_map.1 hy
   rw [(b2 x).nm] at hyu
   exact hnum x hx u hu hyu
  ·rw [hRb,hfs]; omega
  ·obtain ⟨x,hx,rfl⟩:=List.mem_map.1 hy
   rw [(b2 x).bs] at hy0 ⊢
   exact hep x hx hy0
  ·rw [Rb_app,hRb]
   have:Rb [f] = []:=by simp [Rb,e2]
   rw [this,List.append_nil]
   exact h.2.1
  ·rw [dl_app]
   have:=hU.2.2.1
   omega
structure SJ (wd:Int) (N:Nat) (A:List DF) (s:LSt) (may:List (Nat × List En)) (must:Nat) (A0:List DF) (f:DF) (L:List (List En)):Prop where
 eq:A = A0++[f]
 ch:Ch wd N 0 0 0 A0
 st:Stl A0
 hi:∀ x∈A0,∀ u,u < 18446744073709551616→x.nm = nmB u→u < s.num
 ep:∀ x∈A0,sgE x.bs = 0→(hdC x.bs).b≤s.ep
 gd:Gd wd s.num s.ep s.fst L
 hn:s.num≤N
 he:s.ep≤N
 h1:0 < s.num
 nm:f.nm = nmB s.num
 bs:f.bs = laidB s.num s.ep s.fst wd L
 nd:f.nd = true
 sy:f.sy≤f.bs.length
 fs:s.fst = cntB (Rb A0)
 my:may = Rb A0++numS s.fst L
 nx:s.nx = cntB may
 mu:must≤dl A
 wd:s.wd = wd
 cn:cntB may < 18446744073709551616
theorem SJ.fl {wd:Int} {N:Nat} {A:List DF} {s:LSt} {may:List (Nat × List En)} {must:Nat} {A0:List DF} {f:DF} {L:List (List En)} (h:SJ wd N A s may must A0 f L):Fl wd N f s.num s.ep s.fst L (laidB s.num s.ep s.fst wd L).length [] :=
 ⟨h.gd,h.nm,h.hn,h.he,Nat.le_refl _,by rw [h.bs]; simp,h.sy,Tl.nil _ _⟩
theorem SJ.rb {wd:Int} {N:Nat} {A:List DF} {s:LSt} {may:List (Nat × List En)} {must:Nat} {A0:List DF} {f:DF} {L:List (List En)} (h:SJ wd N A s may must A0 f L):Rb A = may:=by
 rw [h.eq,Rb_app,h.my]
 congr 1
 simp only [Rb,List.flatMap_cons,List.flatMap_nil,List.append_nil]
 rw [h.bs]
 exact (xb0l h.gd).2.2
theorem SJ.inv {wd:Int} {N:Nat} {A:List DF} {s:LSt} {may:List (Nat × List En)} {must:Nat} {A0:List DF} {f:DF} {L:List (List En)} (h:SJ wd N A s may must A0 f L):Inv wd N A may must:=by
 refine ⟨?_,by rw [h.rb]; exact List.prefix_refl _,h.mu,h.cn⟩
 rw [h.eq]
 exact Ch.snoc h.fl (fun _=>h.nd) h.ch h.st h.h1 h.hi (fun _=>⟨by rw [h.fs]; omega,Nat.zero_le _,h.ep⟩)
theorem Ch.dl_stl {wd:Int} {N:Nat}:∀ {A:List DF} {la ep sz:Nat},Ch wd N la ep sz A→Stl A→dl A = (Rb A).length
 | [],_,_,_,_,_=>by simp [dl,Rb]
 | f :: r,la,ep,sz,h,hs=>by
  have h0:=hs f (by simp)
  obtain ⟨n,e,fs,L,c,m,hf,hl,hd,hr,hc⟩:=h
  have h1:=hf.dl_le
  have h2:dl r = (Rb r).length:=by
   rcases hc with ⟨_,h4⟩ | ⟨_,_,_,h6⟩
   ·exact h4.dl_stl (fun x hx=>hs x (by simp [hx]))
   ·exact h6.dl_stl (fun x hx=>hs x (by simp [hx]))
  have h3:dlF f = (sgB f.bs).length:=by
   rcases h0 with h0 | h0
   ·rw [h0] at h1 ⊢; simpa using h1
   ·by_cases hn:f.nd = true
    ·unfold dlF; rw [if_pos hn,h0,List.take_length]
    ·have:sgB f.bs = []:=by
      cases hq:sgB f.bs with
      | nil=>rfl
      | cons a b=>exact absurd (hd (by rw [hq]; simp)) hn
     rw [this] at h1 ⊢; simpa using h1
  rw [xa6x,xa1d,List.length_append]
  omega
theorem SJ.low {wd:Int} {N:Nat} {A:List DF} {s:LSt} {may:List (Nat × List En)} {must:Nat} {A0:List DF} {f:DF} {L:List (List En)} (h:SJ wd N A s may must A0 f L):∀ x∈A0,x.nm≠nmB s.num:=fun x hx e=>by
 have:=h.hi x hx s.num h.gd.n e
 omega
theorem SJ.sync {wd:Int} {N:Nat} {σ:DSt} {s:LSt} {may:List (Nat × List En)} {must:Nat} {A0:List DF} {f:DF} {L:List (List En)} (h:SJ wd N σ.A s may must A0 f L) :
  Inv wd N (stSync σ (nmB s.num)).2.A may must∧((stSync σ (nmB s.num)).1 = 0→∃ f',SJ wd N (stSync σ (nmB s.num)).2.A s may may.length A0 f' L∧f'.sy = f'.bs.length):=by
 obtain ⟨F,f1,f2,f3,f4⟩:=xa6d σ (nmB s.num)
 refine ⟨by rw [f1]; exact h.inv.upd f2,fun h0=>⟨F f,?_,by rw [(f2 f).bs]; exact f3 h0 f h.nm⟩⟩
 have hA:A0.map F = A0:=by
  conv=>rhs; rw [← List.map_id A0]
  exact List.map_congr_left (fun x hx=>f4 x (h.low x hx))
 have u:=f2 f
 have hsy:=f3 h0 f h.nm
 have e1:(stSync σ (nmB s.num)).2.A = A0++[F f]:=by rw [f1,h.eq,List.map_append,hA]; rfl
 refine { h with eq:=e1,nm:=by rw [u.nm,h.nm],bs:=by rw [u.bs,h.bs],nd:=u.nd h.nd,sy:=by rw [u.bs,hsy]; exact Nat.le_refl _,mu:=?_ }
 rw [e1,dl_app,h.ch.dl_stl h.st,h.my,List.length_append]
 have:dl [F f] = (numS s.fst L).length:=by
  simp only [dl,List.map_cons,List.map_nil,List.sum_cons,List.sum_nil,Nat.add_zero]
  unfold dlF
  rw [if_pos (u.nd h.nd),hsy,u.bs,List.take_length,h.bs,(xb0l h.gd).2.2]
 omega
theorem xb7d:∀ (L:List (List En)) (i:Nat),i < 18446744073709551616→okS i L = true→endS i L = i + cntB (numS i L)∧i + cntB (numS i L) < 18446744073709551616
 | [],i,h,_=>by simp [endS,numS,cntB]; exact h
 | es :: L,i,h,hk=>by
  rw [okS,Bool.and_eq_true,decide_eq_true_eq] at hk
  have h1:=xa9g hk.1
  have h2:(i + es.length) % 18446744073709551616 = i + es.length:=Nat.mod_eq_of_lt (by omega)
  have hk2:=hk.2
  rw [h2] at hk2
  obtain ⟨i1,i2⟩:=xb7d L (i + es.length) (by omega) hk2
  rw [endS,numS,h2,i1]
  have e:cntB ((i,es) :: numS (i + es.length) L) = es.length + cntB (numS (i + es.length) L):=by simp [cntB]
  rw [e]
  omega
theorem xa9l:∀ (L:List (List En)) (i:Nat) (es:List En),numS i (L++[es]) = numS i L++[(endS i L,es)]
 | [],i,es=>rfl
 | e :: L,i,es=>by rw [List.cons_append,numS,xa9l L,numS,endS,List.cons_append]
theorem xb2r:∀ (L:List (List En)) (i:Nat) (es:List En),okS i L = true→chkB (endS i L) es = 0→okS i (L++[es]) = true
 | [],i,es,_,h=>by
  have h':chkB i es = 0:=h
  simp [okS,h']
 | e :: L,i,es,hk,h=>by
  rw [okS,Bool.and_eq_true] at hk
  rw [List.cons_append,okS,hk.1,xb2r L _ es hk.2 h]
  rfl
theorem SJ.fresh {wd:Int} {N N' n ep fs:Nat} {A A':List DF} {s:LSt} {may:List (Nat × List En)} {must:Nat} {F:DF→DF} (hz:wideB wd = true) (h:Inv wd N A may must) (hm:Rb A = may) (hst:Stl A) (hnum:∀ x∈A,∀ u,u < 18446744073709551616→x.nm = nmB u→u < n) (hep:∀ x∈A,sgE x.bs = 0→(hdC x.bs).b≤ep) (hfs:fs = cntB may) (h0:0 < n) (hNN:N≤N') (hnN:n≤N') (heN:ep≤N') (hN:N' < 18446744073709551615)
  (hA:A' = A.map F++[⟨nmB n,ehB n ep fs wd,48,true⟩]) (hF:∀ x,UpF x (F x)) (s1:s.num = n) (s2:s.ep = ep) (s3:s.fst = fs) (s4:s.nx = fs) (s5:s.wd = wd):SJ wd N' A' s may must (A.map F) ⟨nmB n,ehB n ep fs wd,48,true⟩ []:=by
 obtain ⟨q1,q2,q3⟩:=h.1.upd (F:=F) (fun x _=>hF x)
 have hcn:=h.2.2.2
 subst s1 s2 s3
 have e:laidB s.num s.ep s.fst wd [] = ehB s.num s.ep s.fst wd:=by unfold laidB; simp [numS,runS]
 refine ⟨hA,q1.up hNN,fun y hy=>?_,fun y hy u hu hyu=>?_,fun y hy hy0=>?_,xb6m hz (by omega) (by omega) (by omega),hnN,heN,h0,rfl,e.symm,rfl,by show 48≤(ehB s.num s.ep s.fst wd).length; rw [xa1u hz]; exact Nat.le_refl _,by rw [q2,hm,hfs],by rw [q2,hm,xb5f,List.append_nil],by rw [s4,hfs],?_,s5,hcn⟩
 ·obtain ⟨x,hx,rfl⟩:=List.mem_map.1 hy
  have u:=hF x
  rw [u.bs]
  rcases hst x hx with h9 | h9
  ·exact Or.inl h9
  ·refine Or.inr ?_
   rcases u.sy with h7 | h7 <;> rw [h7]
   exact h9
 ·obtain ⟨x,hx,rfl⟩:=List.mem_map.1 hy
  rw [(hF x).nm] at hyu
  exact hnum x hx u hu hyu
 ·obtain ⟨x,hx,rfl⟩:=List.mem_map.1 hy
  rw [(hF x).bs] at hy0 ⊢
  exact hep x hx hy0
 ·rw [hA,dl_app]
  have:=h.2.2.1
  omega
theorem SJ.rot {wd:Int} {N:Nat} {σ:DSt} {s:LSt} {may:List (Nat × List En)} {must:Nat} {A0:List DF} {f:DF} {L:List (List En)} (h:SJ wd N σ.A s may must A0 f L) (hN:N + 1 < 18446744073709551615) :
  ((lgRot σ s).1≠0→Inv wd (N + 1) (lgRot σ s).2.1.A may must)∧((lgRot σ s).1 = 0→(lgRot σ s).2.2.nx = s.nx∧(lgRot σ s).2.2.wd = s.wd∧∃ A1 f1,SJ wd (N + 1) (lgRot σ s).2.1.A (lgRot σ s).2.2 may must A1 f1 []):=by
 obtain ⟨h1,h2⟩:=h.sync
 have hz:=h.gd.z
 have hwd:=h.wd
 have hm1:must≤may.length:=by
  have h3:=h.mu
  have h4:=h.inv.1.dl_le
  rw [h.rb] at h4
  omega
 unfold lgRot
 split
 ·rename_i h3
  exact ⟨fun _=>h1.more (Nat.le_succ _) (List.prefix_refl _) h.cn,fun h9=>absurd h9 h3⟩
 ·rename_i h3
  have h3':(stSync σ (nmB s.num)).1 = 0:=by simpa using h3
  split
  ·exact ⟨fun _=>h1.more (Nat.le_succ _) (List.prefix_refl _) h.cn,fun h9=>(by cases h9)⟩
  ·obtain ⟨f',hs,hsy⟩:=h2 h3'
   generalize (stSync σ (nmB s.num)).2 = τ at hs h1 ⊢
   have hst:Stl τ.A:=by
    rw [hs.eq]
    intro x hx
    rcases List.mem_append.1 hx with hx | hx
    ·exact hs.st x hx
    ·rw [List.mem_singleton.1 hx]; exact Or.inr hsy
   have hnum:∀ x∈τ.A,∀ u,u < 18446744073709551616→x.nm = nmB u→u < s.num + 1:=by
    rw [hs.eq]
    intro x hx u hu e
    rcases List.mem_append.1 hx with hx | hx
    ·have:=hs.hi x hx u hu e; omega
    ·rw [List.mem_singleton.1 hx,hs.nm] at e
     by_cases hq:u = s.num
     ·omega
     ·exact absurd e.symm (nmB_ne hu hs.gd.n hq)
   have hep:∀ x∈τ.A,sgE x.bs = 0→(hdC x.bs).b≤s.ep:=by
    rw [hs.eq]
    intro x hx h0
    rcases List.mem_append.1 hx with hx | hx
    ·exact hs.ep x hx h0
    ·rw [List.mem_singleton.1 hx,hs.bs,(xb0l hs.gd).1]; exact Nat.le_refl _
   have hI:Inv wd N τ.A may must:=h1
   have hfs:s.nx = cntB (Rb τ.A):=by rw [hs.rb]; exact hs.nx
   have hb:=xb0z (n:=s.num + 1) (ep:=s.ep) (fs:=s.nx) (N':=N + 1) hz hI hst hnum hep hfs (by omega) (by omega) (by have:=hs.hn; omega) (by have:=hs.he; omega) hN
   rw [hwd]
   split
   ·rename_i h4
    exact ⟨fun _=>hb.1,fun h9=>absurd h9 h4⟩
   ·rename_i h4
    refine ⟨fun h9=>absurd rfl h9,fun _=>⟨rfl,rfl,?_⟩⟩
    obtain ⟨F,b1,b2⟩:=hb.2.2 (by simpa using h4)
    exact ⟨_,_,SJ.fresh hz hI hs.rb hst hnum hep hs.nx (by omega) (by omega) (by have:=hs.hn; omega) (by have:=hs.he; omega) hN b1 b2 rfl rfl rfl rfl rfl⟩
theorem SJ.lay {wd:Int} {N:Nat} {σ:DSt} {s:LSt} {may:List (Nat × List En)} {must:Nat} {A0:List DF} {f:DF} {L:List (List En)} (h:SJ wd N σ.A s may must A0 f L) {es:List En} (hc:chkB s.nx es = 0) (hy:byN es) :
  ((lgLay σ s (sbB s.nx es)).1≠0→Inv wd N (lgLay σ s (sbB s.nx es)).2.1.A (may++[(s.nx,es)]) must)∧((lgLay σ s (sbB s.nx es)).1 = 0→∀ s',s'.num = s.num→s'.ep = s.ep→s'.fst = s.fst→s'.wd = s.wd→s'.nx = s.nx + es.length→∃ f1,SJ wd N (lgLay σ s (sbB s.nx es)).2.1.A s' (may++[(s.nx,es)]) must A0 f1 (L++[es])):=by
 obtain ⟨k,k1,k2,k3⟩:=xa4x (sbB s.nx es) h.eq h.nm h.low
 have hend:=xb7d L s.fst h.gd.f h.gd.ok
 have hnx:endS s.fst L = s.nx:=by rw [hend.1,h.nx,h.my,xa1i,h.fs]
 have hnum:numS s.fst (L++[es]) = numS s.fst L++[(s.nx,es)]:=by rw [xa9l,hnx]
 have hgd:Gd wd s.num s.ep s.fst (L++[es]):=⟨h.gd.z,h.gd.n,h.gd.e,h.gd.f,xb2r L s.fst es h.gd.ok (by rw [hnx]; exact hc),fun x hx=>by
  rcases List.mem_append.1 hx with hx | hx
  ·exact h.gd.y x hx
  ·rw [List.mem_singleton.1 hx]; exact hy⟩
 have hlaid:laidB s.num s.ep s.fst wd (L++[es]) = laidB s.num s.ep s.fst wd L++sbB s.nx es:=by unfold laidB; rw [hnum,xa5x,xb4g,List.append_assoc]
 have hcl:=xa9g hc
 have hcn:cntB (may++[(s.nx,es)]) < 18446744073709551616:=by
  rw [xa1i,← h.nx]
  have:cntB [(s.nx,es)] = es.length:=by simp [cntB]
  omega
 have hdl:dl A0 + dlF { f with bs:=f.bs++(sbB s.nx es).take k } = dl σ.A:=by
  rw [h.eq,dl_app]
  congr 1
  simp only [dl,List.map_cons,List.map_nil,List.sum_cons,List.sum_nil,Nat.add_zero]
  unfold dlF
  dsimp only
  rw [List.take_append_of_le_length h.sy]
 unfold lgLay
 dsimp only
 rw [k2]
 refine ⟨fun _=>?_,fun h0 s' e1 e2 e3 e4 e5=>⟨{ f with bs:=f.bs++(sbB s.nx es).take k },?_⟩⟩
 ·have hfl:Fl wd N { f with bs:=f.bs++(sbB s.nx es).take k } s.num s.ep s.fst (L++[es]) ((laidB s.num s.ep s.fst wd L).length + k) []:=by
   refine ⟨hgd,h.nm,h.hn,h.he,by rw [hlaid,List.length_append]; omega,?_,?_,Tl.nil _ _⟩
   ·show f.bs++(sbB s.nx es).take k = _
    rw [hlaid,List.take_length_add_append,h.bs]
    simp
   ·show f.sy≤(f.bs++(sbB s.nx es).take k).length
    rw [List.length_append]
    have:=h.sy
    omega
  refine ⟨Ch.snoc hfl (fun _=>h.nd) h.ch h.st h.h1 h.hi (fun _=>⟨by rw [h.fs]; omega,Nat.zero_le _,h.ep⟩),?_,?_,hcn⟩
  ·rw [Rb_app,h.my,List.append_assoc]
   refine (List.prefix_append_right_inj _).2 ?_
   simp only [Rb,List.flatMap_cons,List.flatMap_nil,List.append_nil]
   rw [← hnum,← (xb0l hgd).2.2]
   have hm:=(xa8x hgd [] [] (Tl.nil _ _) (Tl.nil _ _) hfl.hc).1
   rw [← hfl.bs] at hm
   simpa using hm
  ·rw [dl_app]
   have e9:dl [{ f with bs:=f.bs++(sbB s.nx es).take k }] = dlF { f with bs:=f.bs++(sbB s.nx es).take k }:=by simp [dl]
   rw [e9,hdl]
   exact h.mu
 ·have hk:=k3 h0
  rw [hk,List.take_length] at hdl ⊢
  refine ⟨rfl,h.ch,h.st,by rw [e1]; exact h.hi,by rw [e2]; exact h.ep,by rw [e1,e2,e3]; exact hgd,by rw [e1]; exact h.hn,by rw [e2]; exact h.he,by rw [e1]; exact h.h1,by rw [e1]; exact h.nm,?_,h.nd,?_,by rw [e3]; exact h.fs,?_,?_,?_,by rw [e4]; exact h.wd,hcn⟩
  ·show f.bs++sbB s.nx es = _
   rw [e1,e2,e3,hlaid,h.bs]
  ·show f.sy≤(f.bs++sbB s.nx es).length
   rw [List.length_append]
   have:=h.sy
   omega
  ·rw [e3,hnum,h.my,List.append_assoc]
  ·rw [e5,xa1i,h.nx]
   simp [cntB]
  ·rw [dl_app]
   have e9:dl [{ f with bs:=f.bs++sbB s.nx es }] = dlF { f with bs:=f.bs++sbB s.nx es }:=by simp [dl]
   rw [e9,hdl]
   exact h.mu
def ScI (wd:Int) (N:Nat) (c:ScS):Prop:=(c.s.st = 0∧∃ A0 f L,SJ wd N c.σ.A c.s c.may c.must A0 f L)∨(c.s.st≠0∧Inv wd N c.σ.A c.may c.must)
theorem ScI.inv {wd:Int} {N:Nat} {c:ScS} (h:ScI wd N c):Inv wd N c.σ.A c.may c.must:=by
 rcases h with ⟨_,A0,f,L,h⟩ | ⟨_,h⟩
 ·exact h.inv
 ·exact h
theorem SJ.upN {wd:Int} {N N':Nat} {A:List DF} {s:LSt} {may:List (Nat × List En)} {must:Nat} {A0:List DF} {f:DF} {L:List (List En)} (h:SJ wd N A s may must A0 f L) (hN:N≤N'):SJ wd N' A s may must A0 f L:={ h with ch:=h.ch.up hN,hn:=Nat.le_trans h.hn hN,he:=Nat.le_trans h.he hN }
theorem SJ.re {wd:Int} {N:Nat} {A:List DF} {s s':LSt} {may:List (Nat × List En)} {must:Nat} {A0:List DF} {f:DF} {L:List (List En)} (h:SJ wd N A s may must A0 f L) (e1:s'.num = s.num) (e2:s'.ep = s.ep) (e3:s'.fst = s.fst) (e4:s'.wd = s.wd) (e5:s'.nx = s.nx):SJ wd N A s' may must A0 f L :=
 { h with hi:=by rw [e1]; exact h.hi,ep:=by rw [e2]; exact h.ep,gd:=by rw [e1,e2,e3]; exact h.gd,hn:=by rw [e1]; exact h.hn,he:=by rw [e2]; exact h.he,h1:=by rw [e1]; exact h.h1,nm:=by rw [e1]; exact h.nm,bs:=by rw [e1,e2,e3]; exact h.bs,fs:=by rw [e3]; exact h.fs,my:=by rw [e3]; exact h.my,nx:=by rw [e5]; exact h.nx,wd:=by rw [e4]; exact h.wd }
theorem ScI.step {wd:Int} {N:Nat} {c:ScS} (h:ScI wd N c) (o:Bool × List En) (hy:byN o.2) (hN:N + 1 < 18446744073709551615):ScI wd (N + 1) (scStep c o):=by
 obtain ⟨σ,s,may,must⟩:=c
 obtain ⟨b,es⟩:=o
 rcases h with ⟨h0,A0,f,L,h⟩ | ⟨h0,h⟩
 ·dsimp only at h0 h hy
  have hf:lgFail s = 0:=by unfold lgFail; rw [if_pos (Or.inl h0)]; exact h0
  unfold scStep
  cases b with
  | true =>
   simp only [if_true]
   unfold lgSync
   rw [if_neg (by simp [hf])]
   dsimp only
   obtain ⟨q1,q2⟩:=h.sync
   by_cases h1:(stSync σ (nmB s.num)).1 = 0
   ·obtain ⟨f',q3,_⟩:=q2 h1
    rw [if_pos h1]
    exact Or.inl ⟨h1,A0,f',L,(q3.upN (Nat.le_succ _)).re rfl rfl rfl rfl rfl⟩
   ·rw [if_neg h1]
    exact Or.inr ⟨h1,q1.more (Nat.le_succ _) (List.prefix_refl _) h.cn⟩
  | false =>
   simp only [Bool.false_eq_true,if_false]
   by_cases hc:chkB s.nx es = 0
   ·have hap:lgAppend σ s es = ((lgWrite σ s (sbB s.nx es)).1,(lgWrite σ s (sbB s.nx es)).2.1,{ (lgWrite σ s (sbB s.nx es)).2.2 with st:=(lgWrite σ s (sbB s.nx es)).1,nx:=if (lgWrite σ s (sbB s.nx es)).1 = 0 then (s.nx + es.length) % 18446744073709551616 else s.nx }):=by
     unfold lgAppend
     rw [if_neg (by simp [hc]),if_neg (by simp [hf])]
    have hcl:=xa9g hc
    have hmod:(s.nx + es.length) % 18446744073709551616 = s.nx + es.length:=Nat.mod_eq_of_lt (by omega)
    have hcn:cntB (may++[(s.nx,es)]) < 18446744073709551616:=by
     rw [xa1i,← h.nx]
     have:cntB [(s.nx,es)] = es.length:=by simp [cntB]
     omega
    have hpre:may <+: may++[(s.nx,es)]:=List.prefix_append _ _
    have hwr:((lgWrite σ s (sbB s.nx es)).1≠0→Inv wd (N + 1) (lgWrite σ s (sbB s.nx es)).2.1.A (may++[(s.nx,es)]) must)∧((lgWrite σ s (sbB s.nx es)).1 = 0→∃ A1 f1 L1,SJ wd (N + 1) (lgWrite σ s (sbB s.nx es)).2.1.A { (lgWrite σ s (sbB s.nx es)).2.2 with st:=(lgWrite σ s (sbB s.nx es)).1,nx:=s.nx + es.length } (may++[(s.nx,es)]) must A1 f1 L1):=by
     unfold lgWrite
     split
     ·obtain ⟨r1,r2⟩:=h.rot hN
      split
      ·rename_i h3
       exact ⟨fun _=>(r1 h3).more (Nat.le_refl _) hpre hcn,fun h9=>absurd h9 h3⟩
      ·rename_i h3
       obtain ⟨r3,r4,A1,f1,r5⟩:=r2 (by simpa using h3)
       generalize lgRot σ s = R at r3 r4 r5 ⊢
       have hc':chkB R.2.2.nx es = 0:=by rw [r3]; exact hc
       obtain ⟨l1,l2⟩:=r5.lay hc' hy
       rw [r3] at l1 l2
       refine ⟨l1,fun h9=>?_⟩
       obtain ⟨f2,l3⟩:=l2 h9 { (lgLay R.2.1 R.2.2 (sbB s.nx es)).2.2 with st:=(lgLay R.2.1 R.2.2 (sbB s.nx es)).1,nx:=s.nx + es.length } (by unfold lgLay; dsimp only; split <;> rfl) (by unfold lgLay; dsimp only; split <;> rfl) (by unfold lgLay; dsimp only; split <;> rfl) (by unfold lgLay; dsimp only; split <;> rfl) rfl
       exact ⟨_,f2,_,l3⟩
     ·obtain ⟨l1,l2⟩:=h.lay hc hy
      refine ⟨fun h9=>(l1 h9).more (Nat.le_succ _) (List.prefix_refl _) hcn,fun h9=>?_⟩
      obtain ⟨f2,l3⟩:=l2 h9 { (lgLay σ s (sbB s.nx es)).2.2 with st:=(lgLay σ s (sbB s.nx es)).1,nx:=s.nx + es.length } (by unfold lgLay; dsimp only; split <;> rfl) (by unfold lgLay; dsimp only; split <;> rfl) (by unfold lgLay; dsimp only; split <;> rfl) (by unfold lgLay; dsimp only; split <;> rfl) rfl
      exact ⟨_,f2,_,l3.upN (Nat.le_succ _)⟩
    rw [hap]
    dsimp only
    rw [hmod]
    generalize lgWrite σ s (sbB s.nx es) = R at hwr ⊢
    by_cases h1:R.1 = 0
    ·obtain ⟨A1,f1,L1,h2⟩:=hwr.2 h1
     rw [if_pos (Or.inl h1),if_pos h1]
     exact Or.inl ⟨h1,A1,f1,L1,h2⟩
    ·rw [if_pos (Or.inr ⟨h0,h1⟩),if_neg h1]
     exact Or.inr ⟨h1,hwr.1 h1⟩
   ·have hap:lgAppend σ s es = (chkB s.nx es,σ,s):=by unfold lgAppend; rw [if_pos hc]
    rw [hap]
    dsimp only
    rw [if_neg (by rintro (h9 | ⟨_,h9⟩); exact hc h9; exact h9 h0)]
    exact Or.inl ⟨h0,A0,f,L,h.upN (Nat.le_succ _)⟩
 ·dsimp only at h0 h
  unfold scStep
  have hf:lgFail s≠0:=fun h1=>h0 (xa7y h1)
  cases b with
  | true =>
   simp only [if_true]
   rw [xb6d h0]
   dsimp only
   rw [if_neg hf]
   exact Or.inr ⟨h0,h.more (Nat.le_succ _) (List.prefix_refl _) h.2.2.2⟩
  | false =>
   simp only [Bool.false_eq_true,if_false]
   rw [xa7w es h0]
   dsimp only
   rw [if_neg (by
    rintro (h9 | ⟨h9,_⟩)
    ·split at h9
     ·rename_i h8; exact h8 h9
     ·exact hf h9
    ·exact h0 h9)]
   exact Or.inr ⟨h0,h.more (Nat.le_succ _) (List.prefix_refl _) h.2.2.2⟩
theorem ScI.run {wd:Int}:∀ (os:List (Bool × List En)) {N:Nat} {c:ScS},ScI wd N c→(∀ o∈os,byN o.2)→N + os.length < 18446744073709551615→ScI wd (N + os.length) (scR c os)
 | [],N,c,h,_,_=>h
 | o :: r,N,c,h,hy,hN=>by
  rw [List.length_cons] at hN ⊢
  have h1:=ScI.run r (h.step o (hy o (by simp)) (by omega)) (fun x hx=>hy x (by simp [hx])) (by omega)
  rw [show N + (r.length + 1) = N + 1 + r.length by omega]
  exact h1
def GoOn:Nat→List (Nat × List En)→Prop
 | _,[]=>True
 | i,b :: r=>b.1 = i∧b.2≠[]∧GoOn (i + b.2.length) r
theorem GoOn.app:∀ {a b:List (Nat × List En)} {i:Nat},GoOn i a→GoOn (i + cntB a) b→GoOn i (a++b)
 | [],b,i,_,h=>by simpa [cntB] using h
 | x :: a,b,i,h1,h2=>by
  refine ⟨h1.1,h1.2.1,h1.2.2.app ?_⟩
  have e:cntB (x :: a) = x.2.length + cntB a:=by simp [cntB]
  rw [e] at h2
  rw [Nat.add_assoc]
  exact h2
theorem GoOn.tk:∀ {a:List (Nat × List En)} {i:Nat} (k:Nat),GoOn i a→GoOn i (a.take k)
 | [],i,k,_=>by simp [GoOn]
 | x :: a,i,0,_=>trivial
 | x :: a,i,k + 1,h=>⟨h.1,h.2.1,h.2.2.tk k⟩
theorem xb4f:∀ (L:List (List En)) (i:Nat),okS i L = true→GoOn i (numS i L)
 | [],_,_=>trivial
 | es :: L,i,h=>by
  rw [okS,Bool.and_eq_true,decide_eq_true_eq] at h
  have h1:=xa3o h.1
  have h2:(i + es.length) % 18446744073709551616 = i + es.length:=Nat.mod_eq_of_lt (by omega)
  have h3:=xb4f L _ h.2
  rw [numS]
  rw [h2] at h3 ⊢
  exact ⟨rfl,fun e=>by subst e; simp at h1,h3⟩
theorem Ch.goOn {wd:Int} {N:Nat}:∀ {A:List DF} {la ep sz:Nat},Ch wd N la ep sz A→GoOn sz (Rb A)
 | [],_,_,_,_=>trivial
 | f :: r,la,ep,sz,h=>by
  obtain ⟨n,e,fs,L,c,m,hf,hl,hd,hr,hc⟩:=h
  rw [xa1d]
  rcases hc with ⟨h3,h4⟩ | ⟨h3,h4,h5,h6⟩
  ·have hnil:sgB f.bs = []:=by
    rcases hf.rd with ⟨_,h⟩ | ⟨h,_⟩
    ·exact h
    ·exact absurd h h3
   rw [hnil]
   exact h4.goOn
  ·refine GoOn.app ?_ h6.goOn
   subst h4
   by_cases hcl:c < 48
   ·rw [hf.bs,(xa6c hf.g c m hf.tl hcl).2]; trivial
   ·obtain ⟨_,_,k,_,q,_⟩:=xa2m hf.g c m hf.tl (by omega)
    rw [hf.bs,q]
    exact (xb4f L fs hf.g.ok).tk k
theorem xc1h {σ:DSt} {wd lim:Int} {N:Nat} {may:List (Nat × List En)} {must:Nat} (h:Inv wd N σ.A may must) (hag:argOk wd lim = true) (hN:N + 1 < 18446744073709551615) :
  E3 (opD σ wd lim).e∧((opD σ wd lim).e≠0→Inv wd (N + 1) (opD σ wd lim).σ.A may must)∧((opD σ wd lim).e = 0→(opD σ wd lim).bs <+: may∧must≤(opD σ wd lim).bs.length∧GoOn 0 (opD σ wd lim).bs∧∃ s,(opD σ wd lim).l = some s∧s.nx = cntB (opD σ wd lim).bs∧cntB (opD σ wd lim).bs < 18446744073709551616∧s.st = 0∧ScI wd (N + 1) ⟨(opD σ wd lim).σ,s,(opD σ wd lim).bs,(opD σ wd lim).bs.length⟩):=by
 have hz:wideB wd = true:=by unfold argOk at hag; unfold wideB; simp at hag ⊢; omega
 by_cases hoff:σ.off = true
 ·have e:opD σ wd lim = ⟨12,σ,none,[]⟩:=by unfold opD; rw [hag,if_neg (by simp),if_pos hoff]
  rw [e]
  exact ⟨Or.inr (Or.inr rfl),fun _=>h.more (Nat.le_succ _) (List.prefix_refl _) h.2.2.2,fun h9=>(by cases h9)⟩
 ·have ho:σ.off = false:=by simpa using hoff
  have hcR:cntB (Rb σ.A)≤cntB may:=by
   obtain ⟨t,ht⟩:=h.2.1
   rw [← ht,xa1i]; omega
  have hcm:=h.2.2.2
  obtain ⟨G,g1,g2,g3,g4,g5,g6,g7,g8⟩:=xb0y (N:=N) ho h.1.pair.2 (by omega) fst0 h.1 (fun x hx=>hx) rfl rfl (Nat.zero_le _) (Nat.zero_le _) (by omega)
  rw [opD_eq hag ho,h.1.names ho,g1]
  have hlast:=xa2l g1 (h.1.pair.1) (fun s _ _=>Nat.zero_le _)
  have g2':G.bs = Rb σ.A:=by rw [g2]; rfl
  have g4':G.sg = (σ.A.filter fun f=>decide (sgE f.bs = 0)).map (fun f=>f.nm.data.toList):=by rw [g4]; rfl
  have hsg:∀ s∈G.sg,strU s∈nmS σ:=by
   intro s hs
   rw [g4'] at hs
   obtain ⟨x,hx,rfl⟩:=List.mem_map.1 hs
   have h1:strU x.nm.data.toList = x.nm:=ba_ext (by simp [strU])
   rw [h1]
   exact List.mem_map.2 ⟨x,(List.mem_filter.1 hx).1,rfl⟩
  obtain ⟨F,f1,f2,f3⟩:=xb0a G.sg σ
  have hS3:=xb9s G.sg σ hsg
  show E3 (opOf σ wd lim G).e∧_
  simp only [opF2]
  unfold opOf
  split
  ·rename_i h1
   exact ⟨hS3,fun _=>by dsimp only; rw [f1]; exact (h.upd f2).more (Nat.le_succ _) (List.prefix_refl _) hcm,fun h9=>absurd h9 h1⟩
  ·rename_i h1
   have h1':(stSyncs σ G.sg).1 = 0:=by simpa using h1
   have hI:Inv wd N (stSyncs σ G.sg).2.A may must:=by rw [f1]; exact h.upd f2
   have hRb:Rb (stSyncs σ G.sg).2.A = Rb σ.A:=by rw [f1]; exact (h.1.upd (F:=F) (fun x _=>f2 x)).2.1
   have hst:Stl (stSyncs σ G.sg).2.A:=by
    rw [f1]
    intro y hy
    obtain ⟨x,hx,rfl⟩:=List.mem_map.1 hy
    rw [(f2 x).bs]
    by_cases hq:sgE x.bs = 0
    ·exact Or.inr (f3 h1' x.nm.data.toList (by rw [g4']; exact List.mem_map.2 ⟨x,List.mem_filter.2 ⟨hx,by simpa using hq⟩,rfl⟩) x (ba_ext (by simp [strU])))
    ·refine Or.inl ?_
     unfold sgE at hq
     unfold sgB
     split at hq
     ·exact absurd rfl hq
     ·rename_i h9; rw [if_neg h9]
   have hnum:∀ x∈(stSyncs σ G.sg).2.A,∀ u,u < 18446744073709551616→x.nm = nmB u→u < G.last + 1:=by
    rw [f1]
    intro y hy u hu e
    obtain ⟨x,hx,rfl⟩:=List.mem_map.1 hy
    rw [(f2 x).nm] at e
    have h8:=xa9s hu
    have h7:=hlast.2 (nmB u).data.toList (List.mem_map.2 ⟨x,hx,by rw [e]⟩) h8.1
    rw [h8.2] at h7
    omega
   have hep:∀ x∈(stSyncs σ G.sg).2.A,sgE x.bs = 0→(hdC x.bs).b≤G.ep + 1:=by
    rw [f1]
    intro y hy h0
    obtain ⟨x,hx,rfl⟩:=List.mem_map.1 hy
    rw [(f2 x).bs] at h0 ⊢
    have:=g8 x hx h0
    omega
   have hfs:G.sz = cntB (Rb (stSyncs σ G.sg).2.A):=by rw [hRb,g3]; omega
   have hb:=xb0z (n:=G.last + 1) (ep:=G.ep + 1) (fs:=G.sz) (N':=N + 1) hz hI hst hnum hep hfs (by omega) (by omega) (by omega) (by omega) hN
   split
   ·rename_i h2
    exact ⟨hb.2.1,fun _=>hb.1,fun h9=>absurd h9 h2⟩
   ·rename_i h2
    refine ⟨Or.inl rfl,fun h9=>absurd rfl h9,fun _=>?_⟩
    dsimp only
    rw [g2']
    have hd1:=h.1.dl_le
    have hd2:=h.2.2.1
    refine ⟨h.2.1,by omega,h.1.goOn,_,rfl,(by show G.sz = cntB (Rb σ.A); rw [g3]; omega),by omega,rfl,Or.inl ⟨rfl,?_⟩⟩
    obtain ⟨F2,b1,b2⟩:=hb.2.2 (by simpa using h2)
    have hI2:Inv wd N (stSyncs σ G.sg).2.A (Rb σ.A) (Rb σ.A).length:=⟨hI.1,by rw [hRb]; exact List.prefix_refl _,by rw [hI.1.dl_stl hst,hRb]; exact Nat.le_refl _,by omega⟩
    exact ⟨_,_,_,SJ.fresh hz hI2 hRb hst hnum hep (by rw [hfs,hRb]) (by omega) (by omega) (by omega) (by omega) hN b1 b2 rfl rfl rfl rfl rfl⟩
theorem xb2d {σ:DSt} {wd:Int} {N:Nat} {may:List (Nat × List En)} {must:Nat} (n:Int) (ks:List KeepD) (h:Inv wd N σ.A may must):Inv wd N (stRestart σ n ks).A may must:=by
 obtain ⟨q1,q2,q3,q4⟩:=h.1.restart ks σ.sec (wtn n (unA σ.A)).toNat
 refine ⟨q1,q2.trans h.2.1,?_,h.2.2.2⟩
 have h1:=q1.dl_stl (fun x hx=>Or.inr (q4 x hx).2)
 have h2:=h.2.2.1
 show must≤dl (setA ks σ.sec (cutN (wtn n (unA σ.A)).toNat σ.A))
 omega
theorem xb9d (wd:Int):Inv wd 0 [] [] 0:=⟨trivial,List.prefix_refl _,Nat.zero_le _,by simp [cntB]⟩

end
section
open Go Go.RowKit Go.BigFrame
section
variable {P:Program} {Q:Exit→Act→World→Prop}
theorem wp_k11 {id:Nat} {o0 o1 o2 o3 o4 o5 o6 o7 o8 o9 o10:Oper} {a:Act} {w:World} (hm:P.follows .mixedOrders = true) (hs:Region.noSelect #[o0,o1,o2,o3,o4,o5,o6,o7,o8,o9,o10] = true)
  (f0:Region.free .any #[o0,o1,o2,o3,o4,o5,o6,o7,o8,o9,o10] #[false,false,false,false,false,false,false,false,false,false,false] 0 = true) (r0:(Region.ready .any #[o0,o1,o2,o3,o4,o5,o6,o7,o8,o9,o10] #[false,false,false,false,false,false,false,false,false,false,false]).contains 0 = true) (e0:o10.after.any (fun e=>Region.binds .any e && e.on == 0) = true)
  (f1:Region.free .any #[o0,o1,o2,o3,o4,o5,o6,o7,o8,o9,o10] #[true,false,false,false,false,false,false,false,false,false,false] 1 = true) (r1:(Region.ready .any #[o0,o1,o2,o3,o4,o5,o6,o7,o8,o9,o10] #[true,false,false,false,false,false,false,false,false,false,false]).contains 1 = true) (e1:o10.after.any (fun e=>Region.binds .any e && e.on == 1) = true)
  (f2:Region.free .any #[o0,o1,o2,o3,o4,o5,o6,o7,o8,o9,o10] #[true,true,false,false,false,false,false,false,false,false,false] 2 = true) (r2:(Region.ready .any #[o0,o1,o2,o3,o4,o5,o6,o7,o8,o9,o10] #[true,true,false,false,false,false,false,false,false,false,false]).contains 2 = true) (e2:o10.after.any (fun e=>Region.binds .any e && e.on == 2) = true)
  (f3:Region.free .any #[o0,o1,o2,o3,o4,o5,o6,o7,o8,o9,o10] #[true,true,true,false,false,false,false,false,false,false,false] 3 = true) (r3:(Region.ready .any #[o0,o1,o2,o3,o4,o5,o6,o7,o8,o9,o10] #[true,true,true,false,false,false,false,false,false,false,false]).contains 3 = true) (e3:o10.after.any (fun e=>Region.binds .any e && e.on == 3) = true)
  (f4:Region.free .any #[o0,o1,o2,o3,o4,o5,o6,o7,o8,o9,o10] #[true,true,true,true,false,false,false,false,false,false,false] 4 = true) (r4:(Region.ready .any #[o0,o1,o2,o3,o4,o5,o6,o7,o8,o9,o10] #[true,true,true,true,false,false,false,false,false,false,false]).contains 4 = true) (e4:o10.after.any (fun e=>Region.binds .any e && e.on == 4) = true)
  (f5:Region.free .any #[o0,o1,o2,o3,o4,o5,o6,o7,o8,o9,o10] #[true,true,true,true,true,false,false,false,false,false,false] 5 = true) (r5:(Region.ready .any #[o0,o1,o2,o3,o4,o5,o6,o7,o8,o9,o10] #[true,true,true,true,true,false,false,false,false,false,false]).contains 5 = true) (e5:o10.after.any (fun e=>Region.binds .any e && e.on == 5) = true)
  (q6:Region.ready .any #[o0,o1,o2,o3,o4,o5,o6,o7,o8,o9,o10] #[true,true,true,true,true,true,false,false,false,false,false] = [6]) (g6:o6.guard = none)
  (q7:Region.ready .any #[o0,o1,o2,o3,o4,o5,o6,o7,o8,o9,o10] #[true,true,true,true,true,true,true,false,false,false,false] = [7]) (g7:o7.guard = none)
  (q8:Region.ready .any #[o0,o1,o2,o3,o4,o5,o6,o7,o8,o9,o10] #[true,true,true,true,true,true,true,true,false,false,false] = [8]) (g8:o8.guard = none)
  (q9:Region.ready .any #[o0,o1,o2,o3,o4,o5,o6,o7,o8,o9,o10] #[true,true,true,true,true,true,true,true,true,false,false] = [9]) (g9:o9.guard = none)
  (q10:Region.ready .any #[o0,o1,o2,o3,o4,o5,o6,o7,o8,o9,o10] #[true,true,true,true,true,true,true,true,true,true,false] = [10]) (g10:o10.guard = none)
  (rr:Region.ready .any #[o0,o1,o2,o3,o4,o5,o6,o7,o8,o9,o10] #[true,true,true,true,true,true,true,true,true,true,true] = [])
  (v0 v1 v2 v3 v4 v5:Value) (A0 A1 A2 A3 A4 A5:Act) (T:World→Prop)
  (I0:World→Prop)
  (I1:Value→World→Prop)
  (I2:Value→Value→World→Prop)
  (I3:Value→Value→Value→World→Prop)
  (I4:Value→Value→Value→Value→World→Prop)
  (IE:Value→Value→Value→Value→World→Prop)
  (p0:a.put o0.dst v0 = A0) (hy0:YieldsIf P #[o0,o1,o2,o3,o4,o5,o6,o7,o8,o9,o10] T o0 v0 a)
  (p1:A0.put o1.dst v1 = A1) (hy1:YieldsIf P #[o0,o1,o2,o3,o4,o5,o6,o7,o8,o9,o10] T o1 v1 A0)
  (p2:A1.put o2.dst v2 = A2) (hy2:YieldsIf P #[o0,o1,o2,o3,o4,o5,o6,o7,o8,o9,o10] T o2 v2 A1)
  (p3:A2.put o3.dst v3 = A3) (hy3:YieldsIf P #[o0,o1,o2,o3,o4,o5,o6,o7,o8,o9,o10] T o3 v3 A2)
  (p4:A3.put o4.dst v4 = A4) (hy4:YieldsIf P #[o0,o1,o2,o3,o4,o5,o6,o7,o8,o9,o10] T o4 v4 A3)
  (p5:A4.put o5.dst v5 = A5) (hy5:YieldsIf P #[o0,o1,o2,o3,o4,o5,o6,o7,o8,o9,o10] T o5 v5 A4)
  (i0:I0 w.drew)
  (hIT:(∀ w',I0  w'→T w')∧(∀ (u0:Value) w',I1 u0 w'→T w')∧(∀ (u0 u1:Value) w',I2 u0 u1 w'→T w')∧(∀ (u0 u1 u2:Value) w',I3 u0 u1 u2 w'→T w')∧(∀ (u0 u1 u2 u3:Value) w',I4 u0 u1 u2 u3 w'→T w'))
  (s0:∀ w',I0  w'→∀ K:Act→World→Prop,(∀ (u0:Value) w2,I1 u0 w2→K (A5.put o6.dst u0) w2)→o6.wp P A5 w' K (NoPanic Q))
  (s1:∀ (u0:Value) w',I1 u0 w'→∀ K:Act→World→Prop,(∀ (u1:Value) w2,I2 u0 u1 w2→K ((A5.put o6.dst u0).put o7.dst u1) w2)→o7.wp P (A5.put o6.dst u0) w' K (NoPanic Q))
  (s2:∀ (u0 u1:Value) w',I2 u0 u1 w'→∀ K:Act→World→Prop,(∀ (u2:Value) w2,I3 u0 u1 u2 w2→K (((A5.put o6.dst u0).put o7.dst u1).put o8.dst u2) w2)→o8.wp P ((A5.put o6.dst u0).put o7.dst u1) w' K (NoPanic Q))
  (s3:∀ (u0 u1 u2:Value) w',I3 u0 u1 u2 w'→∀ K:Act→World→Prop,(∀ (u3:Value) w2,I4 u0 u1 u2 u3 w2→K ((((A5.put o6.dst u0).put o7.dst u1).put o8.dst u2).put o9.dst u3) w2)→o9.wp P (((A5.put o6.dst u0).put o7.dst u1).put o8.dst u2) w' K (NoPanic Q))
  (se:∀ (u0 u1 u2 u3:Value) w',I4 u0 u1 u2 u3 w'→∀ K:Act→World→Prop,(∀ w2,IE u0 u1 u2 u3 w2→K ((((A5.put o6.dst u0).put o7.dst u1).put o8.dst u2).put o9.dst u3) w2)→o10.wp P ((((A5.put o6.dst u0).put o7.dst u1).put o8.dst u2).put o9.dst u3) w' K (NoPanic Q))
  (h:∀ (u0 u1 u2 u3:Value) w',IE u0 u1 u2 u3 w'→Q .normal ((((A5.put o6.dst u0).put o7.dst u1).put o8.dst u2).put o9.dst u3) w') :
  (Code.region id #[o0,o1,o2,o3,o4,o5,o6,o7,o8,o9,o10] true).wp P Q a w:=by
 subst p0 p1 p2 p3 p4 p5
 obtain ⟨z0,z1,z2,z3,z4⟩:=hIT
 refine wp_region_noPanic ?_
 refine wp_region_any hm ?_
 refine AnyL.any (S:=fun d w'=>d.getD 10 true = false→T w') _ _ _ _ ?_
 show AnyL P .any #[o0,o1,o2,o3,o4,o5,o6,o7,o8,o9,o10] (NoPanic Q) _ 11 #[false,false,false,false,false,false,false,false,false,false,false] a w.drew
 have hSi:∀ i,i≠10→∀ (d:Array Bool) (w':World),((d.setIfInBounds i true).getD 10 true = false→T w')↔(d.getD 10 true = false→T w'):=by
  intro i h4 d w'
  rw [getD_set_ne true h4]
 refine AnyL.take (i:=0) (t:=10) (oi:=o0) (ot:=o10) (T:=T) rfl rfl (by decide) hs f0 r0 e0 (fun _ _ _ h=>h) (fun d w' h9 hd=>h9 hd) (hSi 0 (by decide)) hy0 rfl (fun _=>z0 _ i0) ?_
 refine AnyL.take (i:=1) (t:=10) (oi:=o1) (ot:=o10) (T:=T) rfl rfl (by decide) hs f1 r1 e1 (fun _ _ _ h=>h) (fun d w' h9 hd=>h9 hd) (hSi 1 (by decide)) hy1 rfl (fun _=>z0 _ i0) ?_
 refine AnyL.take (i:=2) (t:=10) (oi:=o2) (ot:=o10) (T:=T) rfl rfl (by decide) hs f2 r2 e2 (fun _ _ _ h=>h) (fun d w' h9 hd=>h9 hd) (hSi 2 (by decide)) hy2 rfl (fun _=>z0 _ i0) ?_
 refine AnyL.take (i:=3) (t:=10) (oi:=o3) (ot:=o10) (T:=T) rfl rfl (by decide) hs f3 r3 e3 (fun _ _ _ h=>h) (fun d w' h9 hd=>h9 hd) (hSi 3 (by decide)) hy3 rfl (fun _=>z0 _ i0) ?_
 refine AnyL.take (i:=4) (t:=10) (oi:=o4) (ot:=o10) (T:=T) rfl rfl (by decide) hs f4 r4 e4 (fun _ _ _ h=>h) (fun d w' h9 hd=>h9 hd) (hSi 4 (by decide)) hy4 rfl (fun _=>z0 _ i0) ?_
 refine AnyL.take (i:=5) (t:=10) (oi:=o5) (ot:=o10) (T:=T) rfl rfl (by decide) hs f5 r5 e5 (fun _ _ _ h=>h) (fun d w' h9 hd=>h9 hd) (hSi 5 (by decide)) hy5 rfl (fun _=>z0 _ i0) ?_
 refine AnyL.forced q6 rfl g6 (fun K hK=>s0  w.drew i0 K (fun u0 w1 i1=>hK _ _ (fun _=>z1 u0 w1 i1) ?_))
 refine AnyL.forced q7 rfl g7 (fun K hK=>s1 u0 w1 i1 K (fun u1 w2 i2=>hK _ _ (fun _=>z2 u0 u1 w2 i2) ?_))
 refine AnyL.forced q8 rfl g8 (fun K hK=>s2 u0 u1 w2 i2 K (fun u2 w3 i3=>hK _ _ (fun _=>z3 u0 u1 u2 w3 i3) ?_))
 refine AnyL.forced q9 rfl g9 (fun K hK=>s3 u0 u1 u2 w3 i3 K (fun u3 w4 i4=>hK _ _ (fun _=>z4 u0 u1 u2 u3 w4 i4) ?_))
 refine AnyL.forced q10 rfl g10 (fun K hK=>se u0 u1 u2 u3 w4 i4 K (fun we ie=>hK _ _ (fun h9=>(by cases h9)) ?_))
 exact ⟨rr,NoPanic.normal (h u0 u1 u2 u3 we ie)⟩
end
end
section
open Go.RowKit Go.BigFrame Go.Maps Go.Sort
def TW (W w:World) (u:Value) (es:List En) (X:List Nat):Prop:=∃ B C,C≤w.heap.size∧W.heap.size≤B∧(∀ b∈X,b < B∨C≤b)∧∀ M w2,Kept M w w2→(∀ x∈M,x < B∨C≤x)→RdN w2 u es
theorem TW.of {W w w2:World} {u:Value} {es:List En} (h:NewN w.heap.size w2 u es) (k:Kept [] W w) (k2:Kept [] w w2) {X:List Nat} (hX:∀ b∈X,b < w.heap.size):TW W w2 u es X :=
 ⟨w.heap.size,w2.heap.size,Nat.le_refl _,k.size,fun b hb=>Or.inl (hX b hb),fun M w3 k3 hM=>h.stay k3 hM⟩
theorem TW.pass {W w w':World} {u:Value} {es:List En} {X M:List Nat} (h:TW W w u es X) (k:Kept M w w') (hM:∀ x∈M,x∈X∨x < W.heap.size) {Y:List Nat} (hY:∀ x∈Y,x∈X∨x < W.heap.size∨w.heap.size≤x):TW W w' u es Y:=by
 obtain ⟨B,C,h1,h2,h3,h4⟩:=h
 refine ⟨B,C,Nat.le_trans h1 k.size,h2,fun b hb=>?_,fun N w2 k2 hN=>h4 (M++N) w2 ((k.mono (M:=M++N) (fun x hx=>by simp [hx])).trans k2 (fun x hx=>Or.inl (by simp [hx]))) (fun x hx=>?_)⟩
 ·rcases hY b hb with h5 | h5 | h5
  ·exact h3 b h5
  ·exact Or.inl (by omega)
  ·exact Or.inr (by omega)
 ·rcases List.mem_append.1 hx with hx | hx
  ·rcases hM x hx with h5 | h5
   ·exact h3 x h5
   ·exact Or.inl (by omega)
  ·exact hN x hx
theorem OwnX.push {X:List Nat} {w0 w W:World} {v v':Value} {ts:List (Nat × Value × List En)} {t:Nat × Value × List En} (h:OwnX X w0 w v ts) (tw:∃ B C,C≤w.heap.size∧w0.heap.size≤B∧(∀ b,v.ownBlock = some b→b < B∨C≤b)∧(∀ b∈X,b < B∨C≤b)∧∀ M w2,Kept M w w2→(∀ x∈M,x < B∨C≤x)→RdN w2 t.2.1 t.2.2) (hXl:∀ b∈X,b < w.heap.size)
  (o:W.ownsRow w0.heap.size 75 2 v' (ts.length + 1) (cellsB ts++cellsB [t])) (gr:w.grownBy W v.ownBlock) (hg:v'.ownBlock = v.ownBlock∨v'.ownBlock = some w.heap.size):OwnX X w0 W v' (ts++[t]):=by
 have kW:Kept v.ownBlock.toList w W:=((Kept.refl _ w)).grown gr (by intro k hk; left; simp [hk])
 refine ⟨by rw [xa7a,List.length_append]; exact o,fun x hx=>?_,Nat.le_trans h.sz kW.size,fun b hb hm=>?_⟩
 ·have key:∃ B C,C≤w.heap.size∧w0.heap.size≤B∧(∀ b,v.ownBlock = some b→b < B∨C≤b)∧(∀ b∈X,b < B∨C≤b)∧∀ M w2,Kept M w w2→(∀ x∈M,x < B∨C≤x)→RdN w2 x.2.1 x.2.2:=by
   rcases List.mem_append.1 hx with hx | hx
   ·exact h.rd x hx
   ·rw [List.mem_singleton.1 hx]; exact tw
  obtain ⟨B1,C,h1,h2,h3,h4,h5⟩:=key
  refine ⟨B1,C,Nat.le_trans h1 kW.size,h2,fun b hb=>?_,h4,fun N w2 kN hN=>h5 (v.ownBlock.toList++N) w2 ((kW.mono (M:=v.ownBlock.toList++N) (fun x hx=>List.mem_append_left _ hx)).trans kN (fun x hx=>Or.inl (by simp [hx]))) (fun x hx=>?_)⟩
  ·rcases hg with hg | hg
   ·rw [hg] at hb; exact h3 _ hb
   ·rw [hg] at hb; simp only [Option.some.injEq] at hb; omega
  ·rcases List.mem_append.1 hx with hx | hx
   ·exact h3 x (by simpa using hx)
   ·exact hN x hx
 ·rcases hg with hg | hg
  ·rw [hg] at hb; exact h.ap b hb hm
  ·rw [hg] at hb; simp only [Option.some.injEq] at hb; have:=hXl b hm; omega
def Alb (W:World) (u:Value) (cs:Array Value) (w:World):Prop:=∃ g,u = .pointer (some ⟨g,0,none⟩)∧W.heap.size≤g∧g < w.heap.size∧w.heap[g]? = some (.cells cs 75 (0,0))
theorem xb9t {W w:World} (k:Kept [] W w):Alb W (.pointer (some ⟨w.heap.size,0,none⟩)) #[.int .u64 0,.slice none 0 0] (w.alloc (.cells #[.int .u64 0,.slice none 0 0] 75)):=⟨_,rfl,k.size,by simp,heap_alloc_new _ _⟩
theorem xa5v {o:Oper} {a:Act} {w:World} {K:Act→World→Prop} {Q:Exit→Act→World→Prop} (ho:o.op = .alloc 75) (h:K (a.put o.dst (.pointer (some ⟨w.heap.size,0,none⟩))) (w.alloc (.cells #[.int .u64 0,.slice none 0 0] 75))):o.wp Tryz.prog a w K Q:=by
 unfold Oper.wp execOp
 simp only [ho]
 go_simp
 exact h
theorem bput2 {w:World} {g:Nat} {a b:Value} {t:TypeId} (h:w.heap[g]? = some (.cells #[a,b] t (0,0))) (x y:Value):((w.setCell ⟨g,0,none⟩ x).setCell ⟨g,1,none⟩ y).heap[g]? = some (.cells #[x,y] t (0,0)):=by
 rw [heap_setCell_same _ g 1 _ t _ (heap_setCell_same w g 0 _ t _ h)]; rfl
theorem xc0m {w:World} {H:Nat} {x y:Value} {t:TypeId} (h:w.heap[H]? = some (.cells #[x,y] t (0,0))):RdC 2 w (.slice (some ⟨H,0,none⟩) 1 1) [[x,y]]:=by
 refine ⟨_,_,_,rfl,rfl,Nat.le_refl _,by omega,fun _=>⟨H,0,rfl,fun i hi j u hu=>?_⟩⟩
 have hi0:i = 0:=by simp at hi; omega
 subst hi0
 simp only [List.getElem_cons_zero] at hu
 match j with
 | 0=>simp only [List.getElem?_cons_zero,Option.some.injEq] at hu; subst hu; have h9:=cell_of_row _ _ 0 _ _ _ h; simpa using h9
 | 1=>simp only [List.getElem?_cons_succ,List.getElem?_cons_zero,Option.some.injEq] at hu; subst hu; have h9:=cell_of_row _ _ 1 _ _ _ h; simpa using h9
 | j + 2=>simp at hu
theorem bcells2 {w:World} {b:Nat} {x0 x1:Value} {t:TypeId} (h:w.heap[b]? = some (.cells #[x0,x1] t (0,0))):w.cell? ⟨b,0,none⟩ = some x0∧w.cell? ⟨b,1,none⟩ = some x1:=by
 refine ⟨?_,?_⟩ <;> rw [cell_of_row _ _ _ _ _ _ h] <;> rfl
theorem froz2 {w:World} {b:Nat} {cs:Array Value} {t:TypeId} (h:w.heap[b]? = some (.cells cs t (0,0))):w.frozen? ⟨b,0,none⟩ = false∧w.frozen? ⟨b,1,none⟩ = false:=⟨frozen_of_row _ _ _ _ _ h,frozen_of_row _ _ _ _ _ h⟩
def ScP (w0 w w':World) (l d kb nb ob bb:Nat) (mv:Value) (B:List Nat) (c:ScS) (e:Ending):Prop:=∃ B' mv' ts',e = .returned (.tuple #[])∧LK w' l d B' nb ob bb c.σ c.s∧Kept (kb :: l :: (mv.ownBlock.toList++B)) w w'∧(∀ x∈B',x∈B∨w.heap.size≤x)∧KS w0 w' kb (l :: B') mv' ts' c.must∧ts'.map (fun t=>(t.1,t.2.2)) = c.may
set_option maxHeartbeats 8000000 in
theorem xb3i (l d nb ob bb g0 kb must:Nat) (B:List Nat) (σ:DSt) (s:LSt) (v mv:Value) (os:List (Bool × List En)) (ts:List (Nat × Value × List En)) (w0 w:World) (h:LK w l d B nb ob bb σ s) (hv:VarsG g0 w) (hB:∀ x∈B,g0≤x) (hl0:g0≤l) (hg0:g0≤w.heap.size) (hO:OldO g0 w v os) (hk:KS w0 w kb (l :: B) mv ts must) (hkb:g0≤kb) (hw0:w0.heap.size≤w.heap.size) (hgw:g0≤w0.heap.size)
  (h1:nb + os.length≤700000000) (h2:ob + 6 * os.length≤700000000) (h3:bb + 40048 * os.length≤140737488000000) (h4:ts.length + os.length≤1000000000) :
  Calls Tryz.prog 23 #[.pointer (some ⟨l,0,none⟩),v,.pointer (some ⟨kb,0,none⟩)] w fun e w'=>ScP w0 w w' l d kb (nb + os.length) (ob + 6 * os.length) (bb + 40048 * os.length) mv B (scR ⟨σ,s,ts.map (fun t=>(t.1,t.2.2)),must⟩ os) e:=by
 obtain ⟨t0,hos0,hrc0,_⟩:=hO [] w (Kept.refl _ _) (by simp)
 obtain ⟨va,vl,vc,rfl,hvl,hvc,hvm,_⟩:=hrc0
 have hvl2:vl = os.length:=by rw [← hvl,hos0,List.length_map,List.length_map]
 subst hvl2
 have H:=hide h
 have HVG:=hide hv
 have HB:=hide hB
 have HO:=hide hO
 have HKS:=hide hk
 obtain ⟨c0,hc0⟩:∃ c,(⟨σ,s,ts.map (fun t=>(t.1,t.2.2)),must⟩:ScS) = c:=⟨_,rfl⟩
 rw [hc0]
 have HC1:=hide (by rw [← hc0]:c0.σ = σ)
 have HC2:=hide (by rw [← hc0]:c0.s = s)
 have HC3:=hide (by rw [← hc0]:c0.must = must)
 have HC4:=hide (by rw [← hc0]:c0.may = ts.map (fun t=>(t.1,t.2.2)))
 have HKL:=hide (fun x (hx:x∈kb :: l :: (mv.ownBlock.toList++B))=>(by rcases List.mem_cons.1 hx with rfl | hx; exact hkb; rcases List.mem_cons.1 hx with rfl | hx; exact hl0; rcases List.mem_append.1 hx with hx | hx; exact Nat.le_trans hgw (hk.ow.own.lt x (by simpa using hx)).1; exact hB x hx:g0≤x))
 clear h hv hB hO hk hos0 hvl hc0
 go_enter Tryz.func23,Tryz.ntmps23
 go_wp2_with fail
 go_loopw [13] (fun t13 wr=>∃ (i:Nat) (Bi:List Nat) (mvi:Value) (tsi:List (Nat × Value × List En)),i≤os.length∧t13 = .int .i64 (i:Int)∧Hid (LK wr l d Bi (nb + i) (ob + 6 * i) (bb + 40048 * i) (scR c0 (os.take i)).σ (scR c0 (os.take i)).s)∧Hid (Kept (kb :: l :: (mv.ownBlock.toList++B)) w wr)∧Hid (∀ x∈Bi,x∈B∨w.heap.size≤x)∧Hid (KS w0 wr kb (l :: Bi) mvi tsi (scR c0 (os.take i)).must)∧Hid (tsi.map (fun t=>(t.1,t.2.2)) = (scR c0 (os.take i)).may)∧Hid (tsi.length≤ts.length + i)∧Hid (∀ b,mvi.ownBlock = some b→mv.ownBlock = some b∨w.heap.size≤b)) (fun t _=>os.length - (intOf t).toNat)
 case atStart=>exact ⟨0,B,mv,ts,Nat.zero_le _,rfl,hide (by rw [List.take_zero]; show LK w l d B (nb + 0) (ob + 6 * 0) (bb + 40048 * 0) c0.σ c0.s; rw [uh HC1,uh HC2]; exact uh H),hide (Kept.refl _ _),hide (fun x hx=>Or.inl hx),hide (by rw [List.take_zero]; show KS w0 w kb (l :: B) mv ts c0.must; rw [uh HC3]; exact uh HKS),hide (by rw [List.take_zero]; show _ = c0.may; rw [uh HC4]),hide (by omega),hide (fun b hb=>Or.inl hb)⟩
 case round =>
  obtain ⟨i,Bi,mvi,tsi,hi,rfl,HLK,HK,HBN,HKS,HMY,HTL,HMV⟩:=hrel
  by_cases hlt:i < os.length
  ·have hlt':(i:Int) < os.length:=by omega
   have HSC:=hide (xc1e c0 os i hlt)
   obtain ⟨t9,hos,hrc,hrn⟩:=uh HO _ wr (uh HK) (uh HKL)
   have HVR:=hide ((uh HVG).on (uh HK) (uh HKL))
   obtain ⟨qa,ql,qc,hq1,hq2,hq3,hq4,hq5⟩:=hrc
   injection hq1 with r1 r2 r3
   subst r1 r2 r3
   have hl9:i < t9.length:=by rw [hos,List.length_map] at hlt; exact hlt
   obtain ⟨b2,o2,rfl,hcc⟩:=hq5 (by omega)
   have hri:=hcc i (by rw [List.length_map]; exact hl9)
   rw [List.getElem_map] at hri
   have hr9:=hrn t9[i] (List.getElem_mem hl9)
   have hoi:os[i] = (t9[i].1,t9[i].2.2):=by subst hos; rw [List.getElem_map]
   rw [hoi] at HSC
   clear hoi hrn hcc hq2 hq3 hq4 hq5
   generalize t9[i] = T9 at hri hr9 HSC
   obtain ⟨o1,ov,es⟩:=T9
   obtain ⟨hr9a,hr9b⟩:=hr9
   dsimp only at hr9a hr9b HSC
   obtain ⟨ea,en,ec,kv,vv,rfl,hen,hecn,hecm,_⟩:=id hr9a
   subst hen
   have x0:=hri 0 _ rfl
   have x1:=hri 1 _ rfl
   simp only [Nat.add_zero] at x0
   have hic:(i:Int) < vc:=by omega
   have ha1:IntKind.i64.wrap ((i:Int) + 1) = (i:Int) + 1:=by rw [IntKind.wrap_i64]; omega
   have HRN:=hide hr9a
   have HEL:=hide hr9b
   clear hri hr9a hr9b hecn hecm hos
   obtain ⟨⟨σi,si,mayi,musti⟩,hci⟩:∃ c,scR c0 (os.take i) = c:=⟨_,rfl⟩
   rw [hci] at HLK HKS HMY HSC
   dsimp only at HLK HKS HMY
   clear hci
   go_upto_region 3 with fail
   have kA:=(Kept.refl [] wr).alloc (.cells #[.bool o1,.slice ea es.length ec] 100)
   have hA:=heap_alloc_new wr (.cells #[.bool o1,.slice ea es.length ec] 100)
   have HLK1:=hide ((uh HLK).old kA)
   have HK1:=hide ((uh HK).trans kA (by simp))
   have HKS1:=hide (⟨kA.heap (uh HKS).row (by simp),(uh HKS).ow.pass kA (by simp),(uh HKS).kx,(uh HKS).kl⟩:KS w0 _ kb (l :: Bi) mvi tsi musti)
   have HOB:=hide hA
   have HRN1:=hide ((uh HRN).old kA)
   have HVR1:=hide ((uh HVR).old kA)
   have HSZ:=hide (kA.size)
   obtain ⟨W1,hW1⟩:∃ W,wr.alloc (.cells #[.bool o1,.slice ea es.length ec] 100) = W:=⟨_,rfl⟩
   have HS1:=hide (by rw [← hW1]; simp:W1.heap.size = wr.heap.size + 1)
   rw [hW1] at HLK1 HK1 HKS1 HOB HRN1 HVR1 ⊢
   clear hW1 kA hA x0 x1 HLK HK HKS HRN HVR
   have HKB:=hide (by have h9:=(uh HKS1).kl; exact h9:kb < w0.heap.size)
   go_wp2_with fail
   refine Calls.mono (xa4h l d si W1 (uh HLK1).row) ?_
   rintro e w2 ⟨rfl,rfl⟩
   obtain ⟨p0,p1⟩:=bcells2 (uh HOB)
   cases o1
   ·go_upto_region 7 with fail
    have HBG:=hide (fun x hx=>by
     rcases uh HBN x hx with h9 | h9
     ·exact uh HB x h9
     ·omega:∀ x∈Bi,g0≤x)
    have HLB:=hide (fun x (hx:x∈l :: Bi)=>(by
     rcases List.mem_cons.1 hx with h9 | h9
     ·rw [h9]; exact (uh HLK1).lt
     ·exact (uh HLK1).dk.lt x h9:x < w2.heap.size))
    refine wp_sc8 (by kernel_rfl) (by kernel_rfl) (by kernel_rfl) (by kernel_rfl) (by kernel_rfl) (by kernel_rfl) (by kernel_rfl) (by kernel_rfl) (by kernel_rfl) (by kernel_rfl) (by kernel_rfl) (by kernel_rfl) (by kernel_rfl) (by kernel_rfl) (by kernel_rfl) (by kernel_rfl) (by kernel_rfl) (by kernel_rfl) (by kernel_rfl) rfl rfl rfl rfl (by simp) (by simp) (by simp)
     (.pointer (some ⟨l,0,none⟩)) (.pointer (some ⟨wr.heap.size,1,none⟩)) (.slice ea es.length ec) _ _ _
     (fun w'=>Kept [] w2 w')
     (fun w'=>Kept [] w2 w')
     (fun u1 w'=>u1 = .int .u64 (si.nx:Int)∧Kept [] w2 w')
     (fun u6 w'=>Alb w2 u6 #[.int .u64 0,.slice none 0 0] w'∧Kept [] w2 w')
     (fun u1 u4 w'=>u1 = .int .u64 (si.nx:Int)∧(∃ a c,u4 = .slice a es.length c)∧TW w2 w' u4 es []∧Kept [] w2 w')
     (fun u1 u6 w'=>u1 = .int .u64 (si.nx:Int)∧Alb w2 u6 #[.int .u64 0,.slice none 0 0] w'∧Kept [] w2 w')
     (fun u1 u4 u6 w'=>u1 = .int .u64 (si.nx:Int)∧(∃ a c,u4 = .slice a es.length c)∧(∃ g,u6 = .pointer (some ⟨g,0,none⟩)∧w2.heap.size≤g∧w'.heap[g]? = some (.cells #[.int .u64 0,.slice none 0 0] 75 (0,0))∧TW w2 w' u4 es [g])∧Kept [] w2 w')
     (fun u1 u4 u6 u7 w'=>u1 = .int .u64 (si.nx:Int)∧(∃ a c g,u4 = .slice a es.length c∧u6 = .pointer (some ⟨g,0,none⟩)∧w2.heap.size≤g∧w'.heap[g]? = some (.cells #[.int .u64 (si.nx:Int),u4] 75 (0,0))∧TW w2 w' u4 es [g])∧Kept [] w2 w')
     (fun u1 u4=>.agg #[u1,u4])
     (by simp only [Act.put,sa1,sa2,sa3]; rfl) (by exact Or.inl ⟨by rfl,fun W' hW'=>by go_simp⟩)
     (by simp only [Act.put,sa1,sa2,sa3]; rfl) (by exact Or.inl ⟨by rfl,fun W' hW'=>by go_simp⟩)
     (by simp only [Act.put,sa1,sa2,sa3]; rfl) (by exact Or.inl ⟨by rfl,fun W' hW'=>by have h9:=hW'.cell p1 (by simp); go_simp⟩)
     (Kept.refl [] w2).drew
     ⟨fun w' h=>h,fun u1 w' h=>h.2,fun u6 w' h=>h.2,fun u1 u4 w' h=>h.2.2.2,fun u1 u6 w' h=>h.2.2,fun u1 u4 u6 w' h=>h.2.2.2,fun u1 u4 u6 u7 w' h=>h.2.2⟩
     (by
      intro w' k K hK
      simp only [Act.put,sa1,sa2,sa3] at hK ⊢
      refine xa0f rfl Tryz.call20 [.pointer (some ⟨l,0,none⟩)] rfl (xa2r l d si w' (k.heap (uh HLK1).row (by simp))) ?_
      rintro e w3 ⟨rfl,rfl⟩
      exact ⟨_,rfl,hK _ _ ⟨rfl,k⟩⟩)
     (by
      intro w' k K hK
      exact xa5v rfl (hK _ _ ⟨xb9t k,k.alloc _⟩))
     (by
      rintro u1 w' ⟨rfl,k⟩ K hK
      simp only [Act.put,sa1,sa2,sa3] at hK ⊢
      refine xa0f rfl Tryz.call55 [.slice ea es.length ec] rfl (xa2g _ es w' ((uh HRN1).old k) (uh HEL)) ?_
      rintro e w3 ⟨v',rfl,hn,k3⟩
      obtain ⟨a,n,c,_,_,hv',hl',_⟩:=id hn.rdN
      subst hv'
      subst hl'
      exact ⟨_,rfl,hK _ _ ⟨by trivial,⟨_,_,rfl⟩,TW.of hn k k3 (by simp),k.trans k3 (by simp)⟩⟩)
     (by
      rintro u1 w' ⟨rfl,k⟩ K hK
      exact xa5v rfl (hK _ _ ⟨rfl,xb9t k,k.alloc _⟩))
     (by
      rintro u6 w' ⟨ha,k⟩ K hK
      simp only [Act.put,sa1,sa2,sa3] at hK ⊢
      refine xa0f rfl Tryz.call20 [.pointer (some ⟨l,0,none⟩)] rfl (xa2r l d si w' (k.heap (uh HLK1).row (by simp))) ?_
      rintro e w3 ⟨rfl,rfl⟩
      exact ⟨_,rfl,hK _ _ ⟨rfl,ha,k⟩⟩)
     (by
      rintro u1 u4 w' ⟨rfl,⟨a,c,rfl⟩,tw,k⟩ K hK
      exact xa5v rfl (hK _ _ ⟨rfl,⟨a,c,rfl⟩,⟨w'.heap.size,rfl,k.size,heap_alloc_new _ _,tw.pass ((Kept.refl [] w').alloc _) (by simp) (fun x hx=>Or.inr (Or.inr (by rw [List.mem_singleton.1 hx]; exact Nat.le_refl _)))⟩,k.alloc _⟩))
     (by
      rintro u1 u6 w' ⟨rfl,⟨g,rfl,hg1,hg2,hg3⟩,k⟩ K hK
      simp only [Act.put,sa1,sa2,sa3] at hK ⊢
      refine xa0f rfl Tryz.call55 [.slice ea es.length ec] rfl (xa2g _ es w' ((uh HRN1).old k) (uh HEL)) ?_
      rintro e w3 ⟨v',rfl,hn,k3⟩
      obtain ⟨a,n,c,_,_,hv',hl',_⟩:=id hn.rdN
      subst hv'
      subst hl'
      exact ⟨_,rfl,hK _ _ ⟨by trivial,⟨_,_,rfl⟩,⟨g,by trivial,hg1,k3.heap hg3 (by simp),TW.of hn k k3 (fun b hb=>by rw [List.mem_singleton.1 hb]; exact hg2)⟩,k.trans k3 (by simp)⟩⟩)
     (by
      rintro u1 u4 u6 w' ⟨rfl,⟨a,c,rfl⟩,⟨g,rfl,hg1,hg3,tw⟩,k⟩ K hK
      obtain ⟨b0,b1⟩:=bcells2 hg3
      obtain ⟨z0,z1⟩:=froz2 hg3
      have kS:Kept [g] w' ((w'.setCell ⟨g,0,none⟩ (.int .u64 (si.nx:Int))).setCell ⟨g,1,none⟩ (.slice a es.length c)):=((Kept.refl [g] w').setCell (p:=⟨g,0,none⟩) (.inl (by simp)) _).setCell (p:=⟨g,1,none⟩) (.inl (by simp)) _
      have hK2:=hK (.bool true) _ ⟨rfl,⟨a,c,g,rfl,rfl,hg1,bput2 hg3 _ _,tw.pass kS (fun x hx=>Or.inl hx) (fun x hx=>Or.inl hx)⟩,(k.setCell (p:=⟨g,0,none⟩) (.inr hg1) _).setCell (p:=⟨g,1,none⟩) (.inr hg1) _⟩
      clear hK
      simp only [Act.put,sa1,sa2,sa3] at hK2 ⊢
      unfold Oper.wp execOp
      go_simp
      exact hK2)
     (by rintro u1 u4 w' ⟨rfl,⟨a,c,rfl⟩,_⟩; exact Or.inl ⟨by rfl,fun W' hW'=>by go_simp⟩)
     (by rintro u1 u4 u6 w' ⟨rfl,⟨a,c,rfl⟩,_⟩; exact Or.inl ⟨by rfl,fun W' hW'=>by go_simp⟩)
     ?_
    rintro u1 u4 u6 u7 w3 ⟨rfl,⟨ua,uc,g,rfl,rfl,hg1,hg3,tw⟩,k3⟩
    simp only [Act.put,sa1,sa2,sa3]
    have HG3:=hide hg3
    have HG1:=hide hg1
    have HTW3:=hide tw
    have HKK3:=hide k3
    have p1':=k3.cell p1 (by simp)
    have HAP:=hide (xa3b l d _ _ _ g0 Bi σi si _ es w3 ((uh HLK1).old k3) ((uh HVR1).old k3) (uh HBG) hl0 (by have:=k3.size; have:=(uh HK1).size; omega) ((uh HRN1).old k3) (by omega) (by omega) (by omega))
    obtain ⟨⟨E,τ,s'⟩,hE⟩:∃ r,lgAppend σi si es = r:=⟨_,rfl⟩
    have HEC:=hide (by unfold scStep; rw [if_neg (by simp)]; dsimp only; rw [hE]:scStep ⟨σi,si,mayi,musti⟩ (false,es) = ⟨τ,s',if E = 0∨(si.st = 0∧s'.st≠0) then mayi++[(si.nx,es)] else mayi,musti⟩)
    rw [hE] at HAP
    dsimp only at HAP
    clear hE k3 hg3 hg1 tw p0 p1
    go_wp2_with fail
    refine Calls.mono (uh HAP) ?_
    rintro e w4 ⟨B4,rfl,hl4,ev4⟩
    clear p1'
    have HLK4:=hide (hl4.more (nb':=nb + (i + 1)) (ob':=ob + 6 * (i + 1)) (bb':=bb + 40048 * (i + 1)) (by omega) (by omega) (by omega))
    have HB4:=hide (fun x hx=>by
     rcases ev4.2 x hx with h9 | h9
     ·exact uh HBN x h9
     ·exact Or.inr (by have:=(uh HK1).size; have:=(uh HKK3).size; omega):∀ x∈B4,x∈B∨w.heap.size≤x)
    have HKX:=hide (((uh HK1).trans (uh HKK3) (by simp)).trans ev4.1 (fun x hx=>by
     rcases List.mem_cons.1 hx with rfl | hx
     ·exact Or.inl (by simp)
     ·rcases uh HBN x hx with h9 | h9
      ·exact Or.inl (by simp [h9])
      ·exact Or.inr h9))
    have hks4:KS w0 w4 kb (l :: B4) mvi tsi musti:=⟨ev4.1.heap ((uh HKK3).heap (uh HKS1).row (by simp)) (uh HKS1).kx,((uh HKS1).ow.pass (uh HKK3) (by simp)).mv ev4.1 (fun x hx=>by
     rcases List.mem_cons.1 hx with rfl | hx
     ·exact Or.inl (by simp)
     ·rcases ev4.2 x hx with h9 | h9
      ·exact Or.inl (by simp [h9])
      ·exact Or.inr h9),fun hm=>by
     rcases List.mem_cons.1 hm with h9 | h9
     ·exact (uh HKS1).kx (by simp [h9])
     ·rcases ev4.2 kb h9 with h8 | h8
      ·exact (uh HKS1).kx (by simp [h8])
      ·have:=uh HKB; have:=(uh HK1).size; have:=(uh HKK3).size; omega,(uh HKS1).kl⟩
    have HKS4:=hide hks4
    have HG4:=hide (ev4.1.heap (uh HG3) (fun hm=>by have:=uh HLB g hm; have:=uh HG1; omega))
    have HTW4:=hide ((uh HTW3).pass ev4.1 (fun x hx=>Or.inr (uh HLB x hx)) (Y:=l :: B4) (fun x hx=>by
     rcases List.mem_cons.1 hx with h9 | h9
     ·exact Or.inr (Or.inl (uh HLB x (by simp [h9])))
     ·rcases ev4.2 x h9 with h8 | h8
      ·exact Or.inr (Or.inl (uh HLB x (by simp [h8])))
      ·exact Or.inr (Or.inr h8)))
    have HLB4:=hide (fun x (hx:x∈l :: B4)=>(by
     rcases List.mem_cons.1 hx with h9 | h9
     ·rw [h9]; exact (uh HLK4).lt
     ·exact (uh HLK4).dk.lt x h9:x < w4.heap.size))
    have HMB:=hide (fun b hb=>((uh HKS1).ow.own.lt b hb).2:∀ b,mvi.ownBlock = some b→b < w2.heap.size)
    have HW02:=hide (by have:=(uh HK1).size; omega:w0.heap.size≤w2.heap.size)
    have HROW:=hide (uh HLK4).row
    have HGG:=uh HG1
    obtain ⟨ma,mc,rfl⟩:=(uh HKS4).ow.shape
    clear hl4 ev4 hks4 HAP HTW3 HG3
    by_cases hE0:E = 0
    ·subst hE0
     rw [if_pos (Or.inl rfl)] at HEC
     have HKBX:=hide (fun hm=>by have h9:=((uh HKS4).ow.own.lt kb (by simpa using hm)).1; have:=(uh HKS4).kl; omega:kb∉(Value.slice ma tsi.length mc).ownBlock.toList)
     have HGX:=hide (fun hm=>by have h9:=uh HMB g (by simpa using hm); omega:g∉(Value.slice ma tsi.length mc).ownBlock.toList)
     obtain ⟨d0,d1⟩:=bcells2 (uh HKS4).row
     obtain ⟨q0,q1⟩:=bcells2 (uh HG4)
     go_upto_region 10 with fail
     refine wp_k11 (by kernel_rfl) (by kernel_rfl) (by kernel_rfl) (by kernel_rfl) (by kernel_rfl) (by kernel_rfl) (by kernel_rfl) (by kernel_rfl) (by kernel_rfl) (by kernel_rfl) (by kernel_rfl) (by kernel_rfl) (by kernel_rfl) (by kernel_rfl) (by kernel_rfl) (by kernel_rfl) (by kernel_rfl) (by kernel_rfl) (by kernel_rfl) (by kernel_rfl) (by kernel_rfl) rfl (by kernel_rfl) rfl (by kernel_rfl) rfl (by kernel_rfl) rfl (by kernel_rfl) rfl (by kernel_rfl)
      (.pointer (some ⟨kb,0,none⟩)) (.pointer (some ⟨kb,0,none⟩)) (.pointer (some ⟨kb,0,none⟩)) (.pointer (some ⟨kb,0,none⟩)) (.slice ma tsi.length mc) (.agg #[.int .u64 (si.nx:Int),.slice ua es.length uc]) _ _ _ _ _ _
      (fun w'=>Kept (Value.slice ma tsi.length mc).ownBlock.toList w4 w')
      (fun w'=>Kept [] w4 w')
      (fun u0 w'=>∃ h,u0 = .slice (some ⟨h,0,none⟩) 1 1∧w'.heap[h]? = some (.cells #[.int .u64 (si.nx:Int),.slice ua es.length uc] 75 (0,0))∧Kept [] w4 w')
      (fun u0 u1 w'=>∃ a8 cap8 wq,u1 = .slice a8 (tsi.length + 1) cap8∧Kept [] w4 wq∧w'.ownsRow w0.heap.size 75 2 u1 (tsi.length + 1) (cellsB tsi++cellsB [(si.nx,.slice ua es.length uc,es)])∧wq.grownBy w' (Value.slice ma tsi.length mc).ownBlock∧(u1.ownBlock = (Value.slice ma tsi.length mc).ownBlock∨u1.ownBlock = some wq.heap.size))
      (fun u0 u1 u2 w'=>u2 = .pointer (some ⟨kb,0,none⟩)∧∃ a8 cap8 wq,u1 = .slice a8 (tsi.length + 1) cap8∧Kept [] w4 wq∧w'.ownsRow w0.heap.size 75 2 u1 (tsi.length + 1) (cellsB tsi++cellsB [(si.nx,.slice ua es.length uc,es)])∧wq.grownBy w' (Value.slice ma tsi.length mc).ownBlock∧(u1.ownBlock = (Value.slice ma tsi.length mc).ownBlock∨u1.ownBlock = some wq.heap.size))
      (fun u0 u1 u2 u3 w'=>u3 = .pointer (some ⟨kb,0,none⟩)∧∃ a8 cap8 wq,u1 = .slice a8 (tsi.length + 1) cap8∧Kept [] w4 wq∧w'.ownsRow w0.heap.size 75 2 u1 (tsi.length + 1) (cellsB tsi++cellsB [(si.nx,.slice ua es.length uc,es)])∧wq.grownBy w' (Value.slice ma tsi.length mc).ownBlock∧(u1.ownBlock = (Value.slice ma tsi.length mc).ownBlock∨u1.ownBlock = some wq.heap.size))
      (fun u0 u1 u2 u3 w'=>∃ a8 cap8 wq w8,u1 = .slice a8 (tsi.length + 1) cap8∧Kept [] w4 wq∧w8.ownsRow w0.heap.size 75 2 u1 (tsi.length + 1) (cellsB tsi++cellsB [(si.nx,.slice ua es.length uc,es)])∧wq.grownBy w8 (Value.slice ma tsi.length mc).ownBlock∧(u1.ownBlock = (Value.slice ma tsi.length mc).ownBlock∨u1.ownBlock = some wq.heap.size)∧w' = w8.setCell ⟨kb,0,none⟩ u1)
      (by simp only [Act.put,sa1,sa2,sa3]; rfl) (by exact Or.inl ⟨by rfl,fun W' hW'=>by go_simp⟩)
      (by simp only [Act.put,sa1,sa2,sa3]; rfl) (by exact Or.inl ⟨by rfl,fun W' hW'=>by go_simp⟩)
      (by simp only [Act.put,sa1,sa2,sa3]; rfl) (by exact Or.inl ⟨by rfl,fun W' hW'=>by go_simp⟩)
      (by simp only [Act.put,sa1,sa2,sa3]; rfl) (by exact Or.inl ⟨by rfl,fun W' hW'=>by go_simp⟩)
      (by simp only [Act.put,sa1,sa2,sa3]; rfl) (by exact Or.inl ⟨by rfl,fun W' hW'=>by have h90:=hW'.cell d0 (uh HKBX); go_simp⟩)
      (by simp only [Act.put,sa1,sa2,sa3]; rfl) (by exact Or.inl ⟨by rfl,fun W' hW'=>by have h90:=hW'.cell q0 (uh HGX); have h91:=hW'.cell q1 (uh HGX); go_simp⟩)
      (Kept.refl [] w4).drew
      ⟨fun w' h=>h.mono (by simp),fun u0 w' h=>by obtain ⟨_,_,_,h1⟩:=h; exact h1.mono (by simp),fun u0 u1 w' h=>by obtain ⟨a8,cap8,wq,_,h1,_,h2,_⟩:=h; exact (h1.mono (by simp)).grown h2 (by intro k hk; left; simp [hk]),fun u0 u1 u2 w' h=>by obtain ⟨_,a8,cap8,wq,_,h1,_,h2,_⟩:=h; exact (h1.mono (by simp)).grown h2 (by intro k hk; left; simp [hk]),fun u0 u1 u2 u3 w' h=>by obtain ⟨_,a8,cap8,wq,_,h1,_,h2,_⟩:=h; exact (h1.mono (by simp)).grown h2 (by intro k hk; left; simp [hk])⟩
      (by
       intro w' k K hK
       have hK2:=hK _ _ ⟨w'.heap.size,rfl,heap_alloc_new w' (.cells #[.int .u64 (si.nx:Int),.slice ua es.length uc] 75),k.alloc _⟩
       clear hK
       simp only [Act.put,sa1,sa2,sa3] at hK2 ⊢
       unfold Oper.wp execOp
       go_simp
       exact hK2)
      (by
       rintro u0 w' ⟨hh,rfl,hr0,k⟩ K hK
       have hS7:=(uh HKS4).ow.pass k (by simp)
       have hrc:RdC 2 w' (.slice (some ⟨hh,0,none⟩) 1 1) [[.int .u64 (si.nx:Int),.slice ua es.length uc]]:=xc0m hr0
       obtain ⟨a8,cap8,w8,hrun,h8,hg8,ha8⟩:=appendC w' w0.heap.size 42 75 (.agg #[.int .u64 0,.slice none 0 0]) 2 32 Tryz.underlying42 Tryz.infoBt rfl (by decide) (.slice ma tsi.length mc) tsi.length (cellsB tsi) hS7.own (some ⟨hh,0,none⟩) 1 1 [[.int .u64 (si.nx:Int),.slice ua es.length uc]] hrc (by simp) (by simp [Value.oneCell']) (by have:=uh HTL; omega) (by have:=uh HTL; omega) hS7.sz
       have hK2:=hK _ _ ⟨a8,cap8,w',rfl,k,h8,hg8,ha8⟩
       clear hK
       simp only [Act.put,sa1,sa2,sa3] at hK2 ⊢
       exact xb4l 42 (.tmp 57) (.tmp 59) rfl rfl (.slice ma tsi.length mc) (.slice (some ⟨hh,0,none⟩) 1 1) rfl rfl _ _ hrun hK2)
      (by rintro u0 u1 w' ⟨a8,cap8,wq,rfl,h1,h2,h3,h4⟩ K hK; unfold Oper.wp execOp; go_simp; exact hK _ _ ⟨rfl,a8,cap8,wq,rfl,h1,h2,h3,h4⟩)
      (by rintro u0 u1 u2 w' ⟨rfl,a8,cap8,wq,rfl,h1,h2,h3,h4⟩ K hK; unfold Oper.wp execOp; go_simp; exact hK _ _ ⟨rfl,a8,cap8,wq,rfl,h1,h2,h3,h4⟩)
      (by
       rintro u0 u1 u2 u3 w' ⟨rfl,a8,cap8,wq,rfl,h1,h2,h3,h4⟩ K hK
       have kk:Kept (Value.slice ma tsi.length mc).ownBlock.toList w4 w':=(h1.mono (by simp)).grown h3 (by intro k hk; left; simp [hk])
       have hr9:=kk.heap (uh HKS4).row (uh HKBX)
       obtain ⟨hw9,_⟩:=bcells2 hr9
       obtain ⟨hz9,_⟩:=froz2 hr9
       unfold Oper.wp execOp
       go_simp
       exact hK _ ⟨a8,cap8,wq,w',rfl,h1,h2,h3,h4,rfl⟩)
      ?_
     rintro u0 u1 u2 u3 w9 ⟨a8,cap8,wq,w8,rfl,kq,ho8,gr8,ha8,rfl⟩
     simp only [Act.put,sa1,sa2,sa3]
     have kk:Kept (Value.slice ma tsi.length mc).ownBlock.toList w4 w8:=(kq.mono (by simp)).grown gr8 (by intro k hk; left; simp [hk])
     have hr8:=kk.heap (uh HKS4).row (uh HKBX)
     have kS:=(Kept.refl [kb] w8).setCell (p:=⟨kb,0,none⟩) (.inl (by simp)) (.slice a8 (tsi.length + 1) cap8)
     have htw:=(uh HTW4).pass kq (by simp) (Y:=l :: B4) (fun x hx=>Or.inl hx)
     have hpush:=((uh HKS4).ow.pass kq (by simp)).push (t:=(si.nx,.slice ua es.length uc,es)) (by
      obtain ⟨B9,C9,j1,j2,j3,j4⟩:=htw
      exact ⟨B9,C9,j1,by have:=uh HW02; omega,fun b hb=>Or.inl (by have:=uh HMB b hb; omega),j3,j4⟩) (fun b hb=>Nat.lt_of_lt_of_le (uh HLB4 b hb) kq.size) ho8 gr8 ha8
     have k49:Kept (kb :: (Value.slice ma tsi.length mc).ownBlock.toList) w4 (w8.setCell ⟨kb,0,none⟩ (.slice a8 (tsi.length + 1) cap8)):=(kk.mono (fun x hx=>by simp [hx])).trans kS (fun x hx=>Or.inl (by simp at hx; simp [hx]))
     have HKS5:=hide (⟨by rw [heap_setCell_same _ kb 0 _ _ _ hr8]; rfl,hpush.pass kS (fun x hx=>Or.inl (by rw [List.mem_singleton.1 hx]; exact (uh HKS4).kl)),(uh HKS4).kx,(uh HKS4).kl⟩:KS w0 (w8.setCell ⟨kb,0,none⟩ (.slice a8 (tsi.length + 1) cap8)) kb (l :: B4) (.slice a8 (tsi.length + 1) cap8) (tsi++[(si.nx,.slice ua es.length uc,es)]) musti)
     have HMV5:=hide (fun b hb=>by
      rcases ha8 with h9 | h9
      ·rw [h9] at hb; exact uh HMV b hb
      ·rw [h9] at hb; simp only [Option.some.injEq] at hb; exact Or.inr (by have:=(uh HKX).size; have:=kq.size; omega):∀ b,(Value.slice a8 (tsi.length + 1) cap8).ownBlock = some b→mv.ownBlock = some b∨w.heap.size≤b)
     have HLK5:=hide ((uh HLK4).kept k49 (fun hm=>by
      rcases List.mem_cons.1 hm with h9 | h9
      ·exact (uh HKS4).kx (by simp [h9])
      ·exact (uh HKS4).ow.ap l (by simpa using h9) (by simp)) (fun x hx hm=>by
      rcases List.mem_cons.1 hm with h9 | h9
      ·exact (uh HKS4).kx (by rw [← h9]; simp [hx])
      ·exact (uh HKS4).ow.ap x (by simpa using h9) (by simp [hx])))
     have HKX5:=hide ((uh HKX).trans k49 (fun x hx=>by
      rcases List.mem_cons.1 hx with rfl | hx
      ·exact Or.inl (by simp)
      ·rcases uh HMV x (by simpa using hx) with h9 | h9
       ·exact Or.inl (by simp [h9])
       ·exact Or.inr h9))
     clear kk hr8 kS htw hpush k49 kq ho8 gr8 ha8 d0 d1 q0 q1
     go_wp2_with fail
     go_roundw
     case rel=>exact ⟨i + 1,B4,_,_,by omega,by simp,hide (by rw [uh HSC,uh HEC]; exact uh HLK5),HKX5,HB4,hide (by rw [uh HSC,uh HEC]; exact uh HKS5),hide (by rw [uh HSC,uh HEC,List.map_append,uh HMY]; rfl),hide (by rw [List.length_append]; have:=uh HTL; simp only [List.length_cons,List.length_nil]; omega),HMV5⟩
     case measure=>simp [intOf]; omega
    ·have hE0':((E:Int) == 0) = false:=by simp; omega
     by_cases hs0:si.st = 0
     ·have hs0':((si.st:Int) == 0) = true:=by rw [hs0]; rfl
      have HST:=hide (xa4h l d s' w4 (uh HROW))
      by_cases hs1:s'.st = 0
      ·have hs1':((s'.st:Int) != 0) = false:=by rw [hs1]; rfl
       rw [if_neg (by rintro (h9 | h9); exact hE0 h9; exact h9.2 hs1)] at HEC
       clear hE0 hs0 hs1
       go_wp2_with fail
       refine Calls.mono (uh HST) ?_
       rintro e w5 ⟨rfl,hw5⟩
       rw [hw5]
       clear hw5
       clear HTW4 HG4
       go_wp2_with fail
       go_roundw
       case rel=>exact ⟨i + 1,B4,_,tsi,by omega,by simp,hide (by rw [uh HSC,uh HEC]; exact uh HLK4),HKX,HB4,hide (by rw [uh HSC,uh HEC]; exact uh HKS4),hide (by rw [uh HSC,uh HEC]; exact uh HMY),hide (by have:=uh HTL; omega),HMV⟩
       case measure=>simp [intOf]; omega
      ·have hs1':((s'.st:Int) != 0) = true:=by rw [bne_iff_ne]; omega
       rw [if_pos (Or.inr ⟨hs0,hs1⟩)] at HEC
       clear hE0 hs0 hs1
       go_wp2_with fail
       refine Calls.mono (uh HST) ?_
       rintro e w5 ⟨rfl,hw5⟩
       rw [hw5]
       clear hw5
       have HKBX:=hide (fun hm=>by have h9:=((uh HKS4).ow.own.lt kb (by simpa using hm)).1; have:=(uh HKS4).kl; omega:kb∉(Value.slice ma tsi.length mc).ownBlock.toList)
       have HGX:=hide (fun hm=>by have h9:=uh HMB g (by simpa using hm); omega:g∉(Value.slice ma tsi.length mc).ownBlock.toList)
       obtain ⟨d0,d1⟩:=bcells2 (uh HKS4).row
       obtain ⟨q0,q1⟩:=bcells2 (uh HG4)
       go_upto_region 10 with fail
       refine wp_k11 (by kernel_rfl) (by kernel_rfl) (by kernel_rfl) (by kernel_rfl) (by kernel_rfl) (by kernel_rfl) (by kernel_rfl) (by kernel_rfl) (by kernel_rfl) (by kernel_rfl) (by kernel_rfl) (by kernel_rfl) (by kernel_rfl) (by kernel_rfl) (by kernel_rfl) (by kernel_rfl) (by kernel_rfl) (by kernel_rfl) (by kernel_rfl) (by kernel_rfl) (by kernel_rfl) rfl (by kernel_rfl) rfl (by kernel_rfl) rfl (by kernel_rfl) rfl (by kernel_rfl) rfl (by kernel_rfl)
        (.pointer (some ⟨kb,0,none⟩)) (.pointer (some ⟨kb,0,none⟩)) (.pointer (some ⟨kb,0,none⟩)) (.pointer (some ⟨kb,0,none⟩)) (.slice ma tsi.length mc) (.agg #[.int .u64 (si.nx:Int),.slice ua es.length uc]) _ _ _ _ _ _
        (fun w'=>Kept (Value.slice ma tsi.length mc).ownBlock.toList w4 w')
        (fun w'=>Kept [] w4 w')
        (fun u0 w'=>∃ h,u0 = .slice (some ⟨h,0,none⟩) 1 1∧w'.heap[h]? = some (.cells #[.int .u64 (si.nx:Int),.slice ua es.length uc] 75 (0,0))∧Kept [] w4 w')
        (fun u0 u1 w'=>∃ a8 cap8 wq,u1 = .slice a8 (tsi.length + 1) cap8∧Kept [] w4 wq∧w'.ownsRow w0.heap.size 75 2 u1 (tsi.length + 1) (cellsB tsi++cellsB [(si.nx,.slice ua es.length uc,es)])∧wq.grownBy w' (Value.slice ma tsi.length mc).ownBlock∧(u1.ownBlock = (Value.slice ma tsi.length mc).ownBlock∨u1.ownBlock = some wq.heap.size))
        (fun u0 u1 u2 w'=>u2 = .pointer (some ⟨kb,0,none⟩)∧∃ a8 cap8 wq,u1 = .slice a8 (tsi.length + 1) cap8∧Kept [] w4 wq∧w'.ownsRow w0.heap.size 75 2 u1 (tsi.length + 1) (cellsB tsi++cellsB [(si.nx,.slice ua es.length uc,es)])∧wq.grownBy w' (Value.slice ma tsi.length mc).ownBlock∧(u1.ownBlock = (Value.slice ma tsi.length mc).ownBlock∨u1.ownBlock = some wq.heap.size))
        (fun u0 u1 u2 u3 w'=>u3 = .pointer (some ⟨kb,0,none⟩)∧∃ a8 cap8 wq,u1 = .slice a8 (tsi.length + 1) cap8∧Kept [] w4 wq∧w'.ownsRow w0.heap.size 75 2 u1 (tsi.length + 1) (cellsB tsi++cellsB [(si.nx,.slice ua es.length uc,es)])∧wq.grownBy w' (Value.slice ma tsi.length mc).ownBlock∧(u1.ownBlock = (Value.slice ma tsi.length mc).ownBlock∨u1.ownBlock = some wq.heap.size))
        (fun u0 u1 u2 u3 w'=>∃ a8 cap8 wq w8,u1 = .slice a8 (tsi.length + 1) cap8∧Kept [] w4 wq∧w8.ownsRow w0.heap.size 75 2 u1 (tsi.length + 1) (cellsB tsi++cellsB [(si.nx,.slice ua es.length uc,es)])∧wq.grownBy w8 (Value.slice ma tsi.length mc).ownBlock∧(u1.ownBlock = (Value.slice ma tsi.length mc).ownBlock∨u1.ownBlock = some wq.heap.size)∧w' = w8.setCell ⟨kb,0,none⟩ u1)
        (by simp only [Act.put,sa1,sa2,sa3]; rfl) (by exact Or.inl ⟨by rfl,fun W' hW'=>by go_simp⟩)
        (by simp only [Act.put,sa1,sa2,sa3]; rfl) (by exact Or.inl ⟨by rfl,fun W' hW'=>by go_simp⟩)
        (by simp only [Act.put,sa1,sa2,sa3]; rfl) (by exact Or.inl ⟨by rfl,fun W' hW'=>by go_simp⟩)
        (by simp only [Act.put,sa1,sa2,sa3]; rfl) (by exact Or.inl ⟨by rfl,fun W' hW'=>by go_simp⟩)
        (by simp only [Act.put,sa1,sa2,sa3]; rfl) (by exact Or.inl ⟨by rfl,fun W' hW'=>by have h90:=hW'.cell d0 (uh HKBX); go_simp⟩)
        (by simp only [Act.put,sa1,sa2,sa3]; rfl) (by exact Or.inl ⟨by rfl,fun W' hW'=>by have h90:=hW'.cell q0 (uh HGX); have h91:=hW'.cell q1 (uh HGX); go_simp⟩)
        (Kept.refl [] w4).drew
        ⟨fun w' h=>h.mono (by simp),fun u0 w' h=>by obtain ⟨_,_,_,h1⟩:=h; exact h1.mono (by simp),fun u0 u1 w' h=>by obtain ⟨a8,cap8,wq,_,h1,_,h2,_⟩:=h; exact (h1.mono (by simp)).grown h2 (by intro k hk; left; simp [hk]),fun u0 u1 u2 w' h=>by obtain ⟨_,a8,cap8,wq,_,h1,_,h2,_⟩:=h; exact (h1.mono (by simp)).grown h2 (by intro k hk; left; simp [hk]),fun u0 u1 u2 u3 w' h=>by obtain ⟨_,a8,cap8,wq,_,h1,_,h2,_⟩:=h; exact (h1.mono (by simp)).grown h2 (by intro k hk; left; simp [hk])⟩
        (by
         intro w' k K hK
         have hK2:=hK _ _ ⟨w'.heap.size,rfl,heap_alloc_new w' (.cells #[.int .u64 (si.nx:Int),.slice ua es.length uc] 75),k.alloc _⟩
         clear hK
         simp only [Act.put,sa1,sa2,sa3] at hK2 ⊢
         unfold Oper.wp execOp
         go_simp
         exact hK2)
        (by
         rintro u0 w' ⟨hh,rfl,hr0,k⟩ K hK
         have hS7:=(uh HKS4).ow.pass k (by simp)
         have hrc:RdC 2 w' (.slice (some ⟨hh,0,none⟩) 1 1) [[.int .u64 (si.nx:Int),.slice ua es.length uc]]:=xc0m hr0
         obtain ⟨a8,cap8,w8,hrun,h8,hg8,ha8⟩:=appendC w' w0.heap.size 42 75 (.agg #[.int .u64 0,.slice none 0 0]) 2 32 Tryz.underlying42 Tryz.infoBt rfl (by decide) (.slice ma tsi.length mc) tsi.length (cellsB tsi) hS7.own (some ⟨hh,0,none⟩) 1 1 [[.int .u64 (si.nx:Int),.slice ua es.length uc]] hrc (by simp) (by simp [Value.oneCell']) (by have:=uh HTL; omega) (by have:=uh HTL; omega) hS7.sz
         have hK2:=hK _ _ ⟨a8,cap8,w',rfl,k,h8,hg8,ha8⟩
         clear hK
         simp only [Act.put,sa1,sa2,sa3] at hK2 ⊢
         exact xb4l 42 (.tmp 57) (.tmp 59) rfl rfl (.slice ma tsi.length mc) (.slice (some ⟨hh,0,none⟩) 1 1) rfl rfl _ _ hrun hK2)
        (by rintro u0 u1 w' ⟨a8,cap8,wq,rfl,h1,h2,h3,h4⟩ K hK; unfold Oper.wp execOp; go_simp; exact hK _ _ ⟨rfl,a8,cap8,wq,rfl,h1,h2,h3,h4⟩)
        (by rintro u0 u1 u2 w' ⟨rfl,a8,cap8,wq,rfl,h1,h2,h3,h4⟩ K hK; unfold Oper.wp execOp; go_simp; exact hK _ _ ⟨rfl,a8,cap8,wq,rfl,h1,h2,h3,h4⟩)
        (by
         rintro u0 u1 u2 u3 w' ⟨rfl,a8,cap8,wq,rfl,h1,h2,h3,h4⟩ K hK
         have kk:Kept (Value.slice ma tsi.length mc).ownBlock.toList w4 w':=(h1.mono (by simp)).grown h3 (by intro k hk; left; simp [hk])
         have hr9:=kk.heap (uh HKS4).row (uh HKBX)
         obtain ⟨hw9,_⟩:=bcells2 hr9
         obtain ⟨hz9,_⟩:=froz2 hr9
         unfold Oper.wp execOp
         go_simp
         exact hK _ ⟨a8,cap8,wq,w',rfl,h1,h2,h3,h4,rfl⟩)
        ?_
       rintro u0 u1 u2 u3 w9 ⟨a8,cap8,wq,w8,rfl,kq,ho8,gr8,ha8,rfl⟩
       simp only [Act.put,sa1,sa2,sa3]
       have kk:Kept (Value.slice ma tsi.length mc).ownBlock.toList w4 w8:=(kq.mono (by simp)).grown gr8 (by intro k hk; left; simp [hk])
       have hr8:=kk.heap (uh HKS4).row (uh HKBX)
       have kS:=(Kept.refl [kb] w8).setCell (p:=⟨kb,0,none⟩) (.inl (by simp)) (.slice a8 (tsi.length + 1) cap8)
       have htw:=(uh HTW4).pass kq (by simp) (Y:=l :: B4) (fun x hx=>Or.inl hx)
       have hpush:=((uh HKS4).ow.pass kq (by simp)).push (t:=(si.nx,.slice ua es.length uc,es)) (by
        obtain ⟨B9,C9,j1,j2,j3,j4⟩:=htw
        exact ⟨B9,C9,j1,by have:=uh HW02; omega,fun b hb=>Or.inl (by have:=uh HMB b hb; omega),j3,j4⟩) (fun b hb=>Nat.lt_of_lt_of_le (uh HLB4 b hb) kq.size) ho8 gr8 ha8
       have k49:Kept (kb :: (Value.slice ma tsi.length mc).ownBlock.toList) w4 (w8.setCell ⟨kb,0,none⟩ (.slice a8 (tsi.length + 1) cap8)):=(kk.mono (fun x hx=>by simp [hx])).trans kS (fun x hx=>Or.inl (by simp at hx; simp [hx]))
       have HKS5:=hide (⟨by rw [heap_setCell_same _ kb 0 _ _ _ hr8]; rfl,hpush.pass kS (fun x hx=>Or.inl (by rw [List.mem_singleton.1 hx]; exact (uh HKS4).kl)),(uh HKS4).kx,(uh HKS4).kl⟩:KS w0 (w8.setCell ⟨kb,0,none⟩ (.slice a8 (tsi.length + 1) cap8)) kb (l :: B4) (.slice a8 (tsi.length + 1) cap8) (tsi++[(si.nx,.slice ua es.length uc,es)]) musti)
       have HMV5:=hide (fun b hb=>by
        rcases ha8 with h9 | h9
        ·rw [h9] at hb; exact uh HMV b hb
        ·rw [h9] at hb; simp only [Option.some.injEq] at hb; exact Or.inr (by have:=(uh HKX).size; have:=kq.size; omega):∀ b,(Value.slice a8 (tsi.length + 1) cap8).ownBlock = some b→mv.ownBlock = some b∨w.heap.size≤b)
       have HLK5:=hide ((uh HLK4).kept k49 (fun hm=>by
        rcases List.mem_cons.1 hm with h9 | h9
        ·exact (uh HKS4).kx (by simp [h9])
        ·exact (uh HKS4).ow.ap l (by simpa using h9) (by simp)) (fun x hx hm=>by
        rcases List.mem_cons.1 hm with h9 | h9
        ·exact (uh HKS4).kx (by rw [← h9]; simp [hx])
        ·exact (uh HKS4).ow.ap x (by simpa using h9) (by simp [hx])))
       have HKX5:=hide ((uh HKX).trans k49 (fun x hx=>by
        rcases List.mem_cons.1 hx with rfl | hx
        ·exact Or.inl (by simp)
        ·rcases uh HMV x (by simpa using hx) with h9 | h9
         ·exact Or.inl (by simp [h9])
         ·exact Or.inr h9))
       clear kk hr8 kS htw hpush k49 kq ho8 gr8 ha8 d0 d1 q0 q1
       go_wp2_with fail
       go_roundw
       case rel=>exact ⟨i + 1,B4,_,_,by omega,by simp,hide (by rw [uh HSC,uh HEC]; exact uh HLK5),HKX5,HB4,hide (by rw [uh HSC,uh HEC]; exact uh HKS5),hide (by rw [uh HSC,uh HEC,List.map_append,uh HMY]; rfl),hide (by rw [List.length_append]; have:=uh HTL; simp only [List.length_cons,List.length_nil]; omega),HMV5⟩
       case measure=>simp [intOf]; omega
     ·have hs0':((si.st:Int) == 0) = false:=by simp; omega
      rw [if_neg (by rintro (h9 | h9); exact hE0 h9; exact hs0 h9.1)] at HEC
      clear hE0 hs0
      clear HTW4 HG4
      go_wp2_with fail
      go_roundw
      case rel=>exact ⟨i + 1,B4,_,tsi,by omega,by simp,hide (by rw [uh HSC,uh HEC]; exact uh HLK4),HKX,HB4,hide (by rw [uh HSC,uh HEC]; exact uh HKS4),hide (by rw [uh HSC,uh HEC]; exact uh HMY),hide (by have:=uh HTL; omega),HMV⟩
      case measure=>simp [intOf]; omega
   ·have HSY:=hide (xb0s l d _ _ _ g0 Bi σi si w2 (uh HLK1) (uh HVR1) (by omega) (by omega))
    obtain ⟨⟨E,τ,s'⟩,hE⟩:∃ r,lgSync σi si = r:=⟨_,rfl⟩
    have HEC:=hide (by unfold scStep; rw [if_pos rfl]; dsimp only; rw [hE]:scStep ⟨σi,si,mayi,musti⟩ (true,es) = ⟨τ,s',mayi,if E = 0 then mayi.length else musti⟩)
    rw [hE] at HSY
    dsimp only at HSY
    clear hE
    go_wp2_with fail
    refine Calls.mono (uh HSY) ?_
    rintro e w3 ⟨B3,rfl,hl3,ev3⟩
    have HLK3:=hide (hl3.more (nb':=nb + (i + 1)) (ob':=ob + 6 * (i + 1)) (bb':=bb + 40048 * (i + 1)) (by omega) (by omega) (by omega))
    have HB3:=hide (fun x hx=>by
     rcases ev3.2 x hx with h9 | h9
     ·exact uh HBN x h9
     ·exact Or.inr (by have:=(uh HK1).size; omega):∀ x∈B3,x∈B∨w.heap.size≤x)
    have HKX:=hide ((uh HK1).trans ev3.1 (fun x hx=>by
     rcases List.mem_cons.1 hx with rfl | hx
     ·exact Or.inl (by simp)
     ·rcases uh HBN x hx with h9 | h9
      ·exact Or.inl (by simp [h9])
      ·exact Or.inr h9))
    have hks3:KS w0 w3 kb (l :: B3) mvi tsi musti:=⟨ev3.1.heap (uh HKS1).row (uh HKS1).kx,(uh HKS1).ow.mv ev3.1 (fun x hx=>by
     rcases List.mem_cons.1 hx with rfl | hx
     ·exact Or.inl (by simp)
     ·rcases ev3.2 x hx with h9 | h9
      ·exact Or.inl (by simp [h9])
      ·exact Or.inr h9),fun hm=>by
     rcases List.mem_cons.1 hm with h9 | h9
     ·exact (uh HKS1).kx (by simp [h9])
     ·rcases ev3.2 kb h9 with h8 | h8
      ·exact (uh HKS1).kx (by simp [h8])
      ·have:=uh HKB; have:=(uh HK1).size; omega,(uh HKS1).kl⟩
    have HKS3:=hide hks3
    clear hl3 ev3 hks3 HSY p0 p1
    obtain ⟨ma,mc,rfl⟩:=(uh HKS3).ow.shape
    by_cases hE0:E = 0
    ·subst hE0
     rw [if_pos rfl] at HEC
     obtain ⟨k0,k1⟩:=bcells2 (uh HKS3).row
     obtain ⟨z0,z1⟩:=froz2 (uh HKS3).row
     have HML:=hide (by rw [← uh HMY,List.length_map]:mayi.length = tsi.length)
     have kS:=(Kept.refl [kb] w3).setCell (p:=⟨kb,1,none⟩) (.inl (by simp)) (.int .i64 (tsi.length:Int))
     have HKS4:=hide (⟨by rw [heap_setCell_same _ kb 1 _ _ _ (uh HKS3).row]; rfl,(uh HKS3).ow.pass kS (fun x hx=>Or.inl (by rw [List.mem_singleton.1 hx]; exact (uh HKS3).kl)),(uh HKS3).kx,(uh HKS3).kl⟩:KS w0 (w3.setCell ⟨kb,1,none⟩ (.int .i64 (tsi.length:Int))) kb (l :: B3) (.slice ma tsi.length mc) tsi tsi.length)
     have HLK4:=hide ((uh HLK3).kept kS (fun hm=>(uh HKS3).kx (by rw [← List.mem_singleton.1 hm]; simp)) (fun x hx hm=>(uh HKS3).kx (by rw [← List.mem_singleton.1 hm]; simp [hx])))
     have HKX4:=hide ((uh HKX).trans kS (fun x hx=>Or.inl (by rw [List.mem_singleton.1 hx]; simp)))
     clear kS
     go_wp2_with fail
     go_roundw
     case rel=>exact ⟨i + 1,B3,_,tsi,by omega,by simp,hide (by rw [uh HSC,uh HEC]; exact uh HLK4),HKX4,HB3,hide (by rw [uh HSC,uh HEC,uh HML]; exact uh HKS4),hide (by rw [uh HSC,uh HEC]; exact uh HMY),hide (by have:=uh HTL; omega),HMV⟩
     case measure=>simp [intOf]; omega
    ·have hE0':((E:Int) == 0) = false:=by simp; omega
     rw [if_neg hE0] at HEC
     clear hE0
     go_wp2_with fail
     go_roundw
     case rel=>exact ⟨i + 1,B3,_,tsi,by omega,by simp,hide (by rw [uh HSC,uh HEC]; exact uh HLK3),HKX,HB3,hide (by rw [uh HSC,uh HEC]; exact uh HKS3),hide (by rw [uh HSC,uh HEC]; exact uh HMY),hide (by have:=uh HTL; omega),HMV⟩
     case measure=>simp [intOf]; omega
  ·have hlt':¬ (i:Int) < os.length:=by omega
   have hie:i = os.length:=by omega
   subst hie
   rw [List.take_length] at HLK HKS HMY
   go_wp2_with fail
   refine bodyPost_end (v:=.tuple #[]) (results_none rfl _ _ _) rfl ⟨Bi,mvi,tsi,rfl,uh HLK,uh HK,uh HBN,uh HKS,uh HMY⟩
end
section
open Go Go.RowKit Go.BigFrame
section
variable {P:Program} {Q:Exit→Act→World→Prop}
end
end
section
open Go.RowKit Go.BigFrame Go.Maps Go.Sort



end
section
open Go Go.RowKit Go.BigFrame
section
variable {P:Program} {Q:Exit→Act→World→Prop}
end
end
section
open Go.RowKit Go.BigFrame Go.Maps Go.Sort





structure LifeO (g:Nat) (w:World) (fv sv kv:Value) (fl:List (Int × Int)) (os:List (Bool × List En)) (ks:List KeepD):Prop where
 rd:∀ M w',Kept M w w'→(∀ x∈M,g≤x)→RdC 2 w' fv (fl.map faC)∧RdC 3 w' kv (ks.map keC)
 so:∃ ts:List (Bool × Value × List En),os = ts.map (fun t=>(t.1,t.2.2))∧(∀ t∈ts,t.2.2.length≤1048576)∧∀ M w',Kept M w w'→(∀ x∈M,g≤x)→RdC 2 w' sv (ts.map o9C)∧∀ t∈ts,RdN w' t.2.1 t.2.2
 fz:∀ x∈zblk fv (fl.map faC),x < g
 kz:∀ x∈zblk kv (ks.map keC),x < g
 fo:∀ x∈fl,OkFa x
 fn:fl.length≤1048576
 ko:∀ k∈ks,OkKe k
 kn:ks.length≤1048576
 on:os.length≤1048576
theorem cells6 {w:World} {b:Nat} {x0 x1 x2 x3 x4 x5:Value} {t:TypeId} (h:w.heap[b]? = some (.cells #[x0,x1,x2,x3,x4,x5] t (0,0))):w.cell? ⟨b,0,none⟩ = some x0∧w.cell? ⟨b,1,none⟩ = some x1∧w.cell? ⟨b,2,none⟩ = some x2∧w.cell? ⟨b,3,none⟩ = some x3∧w.cell? ⟨b,4,none⟩ = some x4∧w.cell? ⟨b,5,none⟩ = some x5:=scells h
theorem cells4 {w:World} {b:Nat} {x0 x1 x2 x3:Value} {t:TypeId} (h:w.heap[b]? = some (.cells #[x0,x1,x2,x3] t (0,0))):w.cell? ⟨b,0,none⟩ = some x0∧w.cell? ⟨b,1,none⟩ = some x1∧w.cell? ⟨b,2,none⟩ = some x2∧w.cell? ⟨b,3,none⟩ = some x3:=hcells h
theorem OwnX.sub {X Y:List Nat} {w0 w:World} {v:Value} {ts:List (Nat × Value × List En)} (h:OwnX X w0 w v ts) (hs:∀ x∈Y,x∈X):OwnX Y w0 w v ts :=
 ⟨h.own,fun t ht=>by obtain ⟨B,C,h1,h2,h3,h4,h5⟩:=h.rd t ht; exact ⟨B,C,h1,h2,h3,fun b hb=>h4 b (hs b hb),h5⟩,h.sz,fun b hb hm=>h.ap b hb (hs b hm)⟩
theorem Ch.syl {wd:Int} {N:Nat}:∀ {A:List DF} {la ep sz:Nat},Ch wd N la ep sz A→∀ f∈A,f.sy≤f.bs.length
 | f :: r,la,ep,sz,h,x,hx=>by
  obtain ⟨n,e,fs,L,c,m,hf,hl,hd,hr,hc⟩:=h
  rcases List.mem_cons.1 hx with rfl | hx
  ·exact hf.sy
  ·rcases hc with ⟨_,h4⟩ | ⟨_,_,_,h6⟩
   ·exact h4.syl x hx
   ·exact h6.syl x hx
theorem xb5k {c:ScS} (hd:Dist c.σ.A) (hn:c.s.nx < 18446744073709551616) (o:Bool × List En):phi (scStep c o).σ.A≤phi c.σ.A + 48240∧Dist (scStep c o).σ.A∧(scStep c o).s.nx < 18446744073709551616∧(scStep c o).may.length≤c.may.length + 1:=by
 unfold scStep
 split
 ·have h:=xb2p hd c.s
  refine ⟨by have:=h.1; dsimp only; omega,h.2,?_,by dsimp only; omega⟩
  dsimp only
  unfold lgSync
  split <;> exact hn
 ·have h:=xa7v hd c.s o.2 hn
  refine ⟨h.1,h.2,?_,by dsimp only; split <;> simp⟩
  dsimp only
  unfold lgAppend
  split
  ·exact hn
  ·split
   ·exact hn
   ·dsimp only
    split
    ·omega
    ·exact hn
theorem xc0e:∀ (os:List (Bool × List En)) {c:ScS},Dist c.σ.A→c.s.nx < 18446744073709551616→phi (scR c os).σ.A≤phi c.σ.A + 48240 * os.length∧(scR c os).may.length≤c.may.length + os.length
 | [],c,_,_=>⟨Nat.le_refl _,Nat.le_refl _⟩
 | o :: r,c,hd,hn=>by
  obtain ⟨h1,h2,h3,h4⟩:=xb5k hd hn o
  obtain ⟨i1,i2⟩:=xc0e r h2 h3
  have e:scR c (o :: r) = scR (scStep c o) r:=rfl
  rw [e,List.length_cons]
  omega
theorem off_D9 (d nb bb:Nat) (B:List Nat) (σ:DSt) (w:World) (h:DK w d B nb bb σ) :
  Calls Tryz.prog 11 #[.pointer (some ⟨d,0,none⟩)] w fun e w'=>e = .returned (.bool σ.off)∧w' = w:=by
 obtain ⟨m,u,fv,fs,h1,rfl,hA⟩:=h.ex
 exact xb9r d σ.sec m nb w u fv σ.cr σ.op σ.off σ.ft fs h1
def Pd (wd:Int) (n e:Nat) (A:List DF):Prop:=∃ f∈A,f.nd = true∧48≤f.sy∧f.sy≤f.bs.length∧∃ u e' fs q,f.nm = nmB u∧u < 18446744073709551616∧n≤u∧e≤e'∧e' < 18446744073709551616∧fs < 18446744073709551616∧f.bs = ehB u e' fs wd++q
structure EF (f f':DF):Prop where
 nm:f'.nm = f.nm
 nd:f.nd = true→f'.nd = true
 bs:∃ x,f'.bs = f.bs++x
 lo:f.sy≤f.bs.length→f.sy≤f'.sy
 hi:f.sy≤f.bs.length→f'.sy≤f'.bs.length
theorem EF.refl (f:DF):EF f f:=⟨rfl,id,⟨[],by simp⟩,fun _=>Nat.le_refl _,id⟩
theorem EF.trans {a b c:DF} (h:EF a b) (k:EF b c):EF a c:=by
 refine ⟨k.nm.trans h.nm,fun x=>k.nd (h.nd x),?_,fun x=>Nat.le_trans (h.lo x) (k.lo (h.hi x)),fun x=>k.hi (h.hi x)⟩
 obtain ⟨x,hx⟩:=h.bs
 obtain ⟨y,hy⟩:=k.bs
 exact ⟨x++y,by rw [hy,hx,List.append_assoc]⟩
theorem UpF.ef {a b:DF} (h:UpF a b):EF a b:=⟨h.nm,h.nd,⟨[],by rw [h.bs]; simp⟩,fun x=>by rcases h.sy with h1 | h1 <;> omega,fun x=>by rw [h.bs]; rcases h.sy with h1 | h1 <;> omega⟩
def Gr (A A':List DF):Prop:=∀ f∈A,∃ f'∈A',EF f f'
theorem Gr.refl (A:List DF):Gr A A:=fun f hf=>⟨f,hf,EF.refl f⟩
theorem Gr.trans {A B C:List DF} (h:Gr A B) (k:Gr B C):Gr A C:=fun f hf=>by
 obtain ⟨g,hg,e1⟩:=h f hf
 obtain ⟨i,hi,e2⟩:=k g hg
 exact ⟨i,hi,e1.trans e2⟩
theorem Gr.map {A:List DF} {F:DF→DF} (h:∀ x,EF x (F x)):Gr A (A.map F):=fun f hf=>⟨F f,List.mem_map.2 ⟨f,hf,rfl⟩,h f⟩
theorem Gr.pd {A A':List DF} (h:Gr A A') {wd:Int} {n e:Nat} (p:Pd wd n e A):Pd wd n e A':=by
 obtain ⟨f,hf,h1,h2,h3,u,e',fs,q,h4,h5,h6,h7,h8,h9,h10⟩:=p
 obtain ⟨g,hg,k⟩:=h f hf
 obtain ⟨x,hx⟩:=k.bs
 have:=k.lo h3
 exact ⟨g,hg,k.nd h1,by omega,k.hi h3,u,e',fs,q++x,by rw [k.nm,h4],h5,h6,h7,h8,h9,by rw [hx,h10,List.append_assoc]⟩
theorem xb9h (σ:DSt) (s:ByteArray):Gr σ.A (stCreate σ s).2.A:=by
 unfold stCreate
 split
 ·exact Gr.refl _
 ·show Gr σ.A (if _ then σ.A++_ else σ.A)
  split
  ·exact fun f hf=>⟨f,List.mem_append_left _ hf,EF.refl f⟩
  ·exact Gr.refl _
theorem xa9o (σ:DSt) (s:ByteArray) (p:List Nat):Gr σ.A (stAppend σ s p).2.A:=by
 unfold stAppend
 split
 ·exact Gr.refl _
 ·split
  ·refine Gr.map (A:=σ.A) (F:=fun x=>if x.nm = s then { x with bs:=x.bs++p.take (appK σ p) } else x) (fun x=>?_)
   split
   ·exact ⟨rfl,id,⟨_,rfl⟩,fun _=>Nat.le_refl _,fun h=>by simp only [List.length_append]; omega⟩
   ·exact EF.refl x
  ·exact Gr.refl _
theorem xa5b (σ:DSt) (s:ByteArray):Gr σ.A (stSync σ s).2.A:=by
 obtain ⟨F,h1,h2,_⟩:=xa6d σ s
 rw [h1]
 exact Gr.map (fun x=>(h2 x).ef)
theorem xc1w (σ:DSt):Gr σ.A (stNames σ).2.A:=by
 obtain ⟨F,h1,h2,_⟩:=xa9x σ
 rw [h1]
 exact Gr.map (fun x=>(h2 x).ef)
theorem gr_thn {A:List DF} {r:Nat × DSt} {f:DSt→Nat × DSt} (h:Gr A r.2.A) (hf:Gr r.2.A (f r.2).2.A):Gr A (thn r f).2.A:=by
 unfold thn
 split
 ·exact h.trans hf
 ·exact h
theorem xb2x (σ:DSt) (n ep fs:Nat) (wd:Int):Gr σ.A (stBegin σ n ep fs wd).2.A:=by
 unfold stBegin
 exact gr_thn (gr_thn (gr_thn (xb9h _ _) (xa9o _ _ _)) (xa5b _ _)) (xc1w _)
theorem gr_rot (σ:DSt) (s:LSt):Gr σ.A (lgRot σ s).2.1.A:=by
 unfold lgRot
 split
 ·exact xa5b _ _
 ·split
  ·exact xa5b _ _
  ·split
   ·exact (xa5b _ _).trans (xb2x _ _ _ _ _)
   ·exact (xa5b _ _).trans (xb2x _ _ _ _ _)
theorem gr_lay (σ:DSt) (s:LSt) (p:List Nat):Gr σ.A (lgLay σ s p).2.1.A:=xa9o _ _ _
theorem xc2g (σ:DSt) (s:LSt) (p:List Nat):Gr σ.A (lgWrite σ s p).2.1.A:=by
 unfold lgWrite
 split
 ·split
  ·exact gr_rot _ _
  ·exact (gr_rot _ _).trans (gr_lay _ _ _)
 ·exact gr_lay _ _ _
theorem xc4b (c:ScS) (o:Bool × List En):Gr c.σ.A (scStep c o).σ.A:=by
 unfold scStep
 split
 ·show Gr c.σ.A (lgSync c.σ c.s).2.1.A
  unfold lgSync
  split
  ·exact Gr.refl _
  ·exact xa5b _ _
 ·show Gr c.σ.A (lgAppend c.σ c.s o.2).2.1.A
  unfold lgAppend
  split
  ·exact Gr.refl _
  ·split
   ·exact Gr.refl _
   ·exact xc2g _ _ _
theorem gr_run:∀ (os:List (Bool × List En)) (c:ScS),Gr c.σ.A (scR c os).σ.A
 | [],c=>Gr.refl _
 | o :: r,c=>(xc4b c o).trans (gr_run r (scStep c o))
theorem xb3x:∀ (os:List (Bool × List En)) {c d:ScS},c.σ = d.σ→c.s = d.s→(scR c os).σ = (scR d os).σ∧(scR c os).s = (scR d os).s
 | [],c,d,h1,h2=>⟨h1,h2⟩
 | o :: r,c,d,h1,h2=>by
  have h3:(scStep c o).σ = (scStep d o).σ∧(scStep c o).s = (scStep d o).s:=by
   unfold scStep
   rw [h1,h2]
   split <;> exact ⟨rfl,rfl⟩
  exact xb3x r h3.1 h3.2
theorem xa5u:∀ {A:List DF} {f:DF} (j:Nat),f∈A→f.nd = true→f∈cutN j A
 | x :: r,f,j,h,hn=>by
  by_cases hx:x.nd = true
  ·have e:cutN j (x :: r) = x :: cutN j r:=by simp [cutN,hx]
   rw [e]
   rcases List.mem_cons.1 h with rfl | h
   ·simp
   ·exact List.mem_cons_of_mem _ (xa5u j h hn)
  ·have hr:f∈r:=by
    rcases List.mem_cons.1 h with rfl | h
    ·exact absurd hn hx
    ·exact h
   match j with
   | 0 =>
    have e:cutN 0 (x :: r) = cutN 0 r:=by simp [cutN,hx]
    rw [e]
    exact xa5u 0 hr hn
   | j + 1 =>
    have e:cutN (j + 1) (x :: r) = x :: cutN j r:=by simp [cutN,hx]
    rw [e]
    exact List.mem_cons_of_mem _ (xa5u j hr hn)
theorem xb4y {σ:DSt} {wd:Int} {n e:Nat} (hz:wideB wd = true) (m:Int) (ks:List KeepD) (p:Pd wd n e σ.A):Pd wd n e (stRestart σ m ks).A:=by
 obtain ⟨f,hf,h1,h2,h3,u,e',fs,q,h4,h5,h6,h7,h8,h9,h10⟩:=p
 have hm:=xa5u (wtn m (unA σ.A)).toNat hf h1
 obtain ⟨x,y,q1,q2,q3,q4⟩:=xa9n ((fstK ks f.nm.data.toList).getD zK) σ.sec f h3
 have hl:=xa1u (a:=u) (b:=e') (c:=fs) hz
 refine ⟨setF ((fstK ks f.nm.data.toList).getD zK) σ.sec f,List.mem_map.2 ⟨f,hm,rfl⟩,?_⟩
 rw [q4]
 have e1:f.bs.take x++List.replicate y 0 = ehB u e' fs wd++(q.take (x - 48)++List.replicate y 0):=by
  rw [h10,List.take_append,hl,List.take_of_length_le (by omega),List.append_assoc]
 refine ⟨rfl,?_,Nat.le_refl _,u,e',fs,q.take (x - 48)++List.replicate y 0,h4,h5,h6,h7,h8,h9,e1⟩
 show 48≤(f.bs.take x++List.replicate y 0).length
 rw [e1,List.length_append,hl]
 omega
def cnR (A:List DF):Nat:=(A.filter fun f=>decide (sgE f.bs = 0)).length
theorem xb9y {sec:Nat}:∀ (l:List (List UInt8)) (op:Int) (A:List DF),0≤op→(∀ s∈l,strU s∈A.map DF.nm)→∃ A',stSyncs (dH sec op A) l = (0,dH sec (op + l.length) A')∧A'.map DF.nm = A.map DF.nm
 | [],op,A,h,_=>⟨A,by simp [stSyncs],rfl⟩
 | s :: r,op,A,h,hs=>by
  have h1:=sync_h (sec:=sec) (A:=A) h ((xa5h A (strU s)).2 (hs s (by simp)))
  have hn:(upA A (strU s) fun f=>{ f with sy:=f.bs.length }).map DF.nm = A.map DF.nm:=upA_nm (fun x=>rfl)
  obtain ⟨A',q1,q2⟩:=xb9y (sec:=sec) r (op + 1) (upA A (strU s) fun f=>{ f with sy:=f.bs.length }) (by omega) (fun t ht=>by rw [hn]; exact hs t (by simp [ht]))
  refine ⟨A',?_,by rw [q2,hn]⟩
  unfold stSyncs
  rw [h1]
  simp only [ne_eq,not_true_eq_false,if_false]
  rw [q1,List.length_cons]
  congr 2
  omega
theorem xb8x {A:List DF} {x:DF} {s:ByteArray} (hx:x.nm = s) (h:∀ f∈A,f.nm≠s):findA (A++[x]) s.data.toList = some x:=by
 have h1:=xb2f h
 unfold findA at h1 ⊢
 rw [List.find?_append,h1]
 simp [hx]
theorem xb8g {sec:Nat} {op:Int} {wd lim:Int} {N:Nat} {A:List DF} {may:List (Nat × List En)} {must:Nat} (h:Inv wd N A may must) (hag:argOk wd lim = true) (hN:N + 1 < 18446744073709551615) (hop0:0≤op) :
  ∃ s B',opD (dH sec op A) wd lim = ⟨0,dH sec (op + (cnR A:Nat) + 4) B',some s,Rb A⟩∧s.nx = cntB (Rb A)∧s.fst = s.nx∧s.wd = wd∧(∀ n e,Pd wd n e A→n < s.num∧e < s.ep)∧0 < s.num∧0 < s.ep∧Pd wd s.num s.ep B'∧stRead (dH sec (op + (cnR A:Nat) + 4) B') (nmB s.num) = (ehB s.num s.ep s.nx wd,0)∧s.num < 18446744073709551616∧s.ep < 18446744073709551616∧s.nx < 18446744073709551616∧s.st = 0:=by
 have hz:wideB wd = true:=by unfold argOk at hag; unfold wideB; simp at hag ⊢; omega
 have ho:(dH sec op A).off = false:=rfl
 have hcR:cntB (Rb A)≤cntB may:=by
  obtain ⟨t,ht⟩:=h.2.1
  rw [← ht,xa1i]; omega
 have hcm:=h.2.2.2
 have hC:Ch wd N 0 0 0 (dH sec op A).A:=h.1
 obtain ⟨G,g1,g2,g3,g4,g5,g6,g7,g8⟩:=xb0y (σ:=dH sec op A) (N:=N) ho hC.pair.2 (by omega) fst0 hC (fun x hx=>hx) rfl rfl (Nat.zero_le _) (Nat.zero_le _) (by show 0 + cntB (Rb A) < _; omega)
 rw [opD_eq hag ho,hC.names ho,g1]
 have hlast:=xa2l g1 (hC.pair.1) (fun s _ _=>Nat.zero_le _)
 have g2':G.bs = Rb A:=by rw [g2]; rfl
 have g3':G.sz = cntB (Rb A):=by rw [g3]; show 0 + cntB (Rb A) = _; omega
 have g4':G.sg = (A.filter fun f=>decide (sgE f.bs = 0)).map (fun f=>f.nm.data.toList):=by rw [g4]; rfl
 have hgl:G.sg.length = cnR A:=by rw [g4',List.length_map]; rfl
 have hsg:∀ s∈G.sg,strU s∈A.map DF.nm:=by
  intro s hs
  rw [g4'] at hs
  obtain ⟨x,hx,rfl⟩:=List.mem_map.1 hs
  have h1:strU x.nm.data.toList = x.nm:=ba_ext (by simp [strU])
  rw [h1]
  exact List.mem_map.2 ⟨x,(List.mem_filter.1 hx).1,rfl⟩
 obtain ⟨A',s1,s2⟩:=xb9y (sec:=sec) G.sg op A hop0 hsg
 have hfr:∀ f∈A',f.nm≠nmB (G.last + 1):=by
  intro f hf e
  have hm:nmB (G.last + 1)∈A.map DF.nm:=by rw [← s2,← e]; exact List.mem_map.2 ⟨f,hf,rfl⟩
  obtain ⟨x,hx,ex⟩:=List.mem_map.1 hm
  have h8:=xa9s (u:=G.last + 1) (by omega)
  have h7:=hlast.2 (nmB (G.last + 1)).data.toList (List.mem_map.2 ⟨x,hx,by rw [ex]⟩) h8.1
  rw [h8.2] at h7
  omega
 have hb:=xb3r (sec:=sec) (op:=op + (G.sg.length:Nat)) (A:=A') (G.last + 1) (G.ep + 1) G.sz (by omega) hz hfr
 have hop:opOf (dH sec op A) wd lim G = ⟨0,dH sec (op + (G.sg.length:Nat) + 4) (ndA (A'++[⟨nmB (G.last + 1),ehB (G.last + 1) (G.ep + 1) G.sz wd,48,false⟩])),some ⟨G.last + 1,G.ep + 1,G.sz,wd,48,0,lim,G.sz,0⟩,G.bs⟩:=by
  unfold opOf
  rw [s1]
  simp only [ne_eq,not_true_eq_false,if_false]
  rw [hb]
  simp only [not_true_eq_false,if_false]
 have hnd:ndA (A'++[⟨nmB (G.last + 1),ehB (G.last + 1) (G.ep + 1) G.sz wd,48,false⟩]) = ndA A'++[⟨nmB (G.last + 1),ehB (G.last + 1) (G.ep + 1) G.sz wd,48,true⟩]:=by simp [ndA]
 rw [hnd,hgl] at hop
 refine ⟨⟨G.last + 1,G.ep + 1,G.sz,wd,48,0,lim,G.sz,0⟩,ndA A'++[⟨nmB (G.last + 1),ehB (G.last + 1) (G.ep + 1) G.sz wd,48,true⟩],?_,g3',rfl,rfl,fun n e hp=>?_,Nat.succ_pos _,Nat.succ_pos _,?_,?_,?_,?_,?_,rfl⟩
 ·show opOf (dH sec op A) wd lim G = _
  rw [hop,g2']
 ·obtain ⟨f,hf,p1,p2,p3,u,e',fs,q,p4,p5,p6,p7,p8,p9,p10⟩:=hp
  have h8:=xa9s p5
  have h7:=hlast.2 (nmB u).data.toList (List.mem_map.2 ⟨f,hf,by rw [p4]⟩) h8.1
  rw [h8.2] at h7
  have hh:=xa8t p5 p8 p9 hz q
  rw [← p10] at hh
  have hE:sgE f.bs = 0:=by unfold sgE; rw [hh]; rfl
  have hD:(hdC f.bs).b = e':=by unfold hdC; rw [hh]; rfl
  have h6:=g8 f hf hE
  rw [hD] at h6
  exact ⟨by show n < G.last + 1; omega,by show e < G.ep + 1; omega⟩
 ·exact ⟨⟨nmB (G.last + 1),ehB (G.last + 1) (G.ep + 1) G.sz wd,48,true⟩,List.mem_append_right _ (by simp),rfl,Nat.le_refl _,by show 48≤(ehB (G.last + 1) (G.ep + 1) G.sz wd).length; rw [xa1u hz]; exact Nat.le_refl _,G.last + 1,G.ep + 1,G.sz,[],rfl,by omega,Nat.le_refl _,Nat.le_refl _,by omega,by omega,by simp⟩
 ·unfold stRead
  have hfl:=xb8x (A:=ndA A') (x:=⟨nmB (G.last + 1),ehB (G.last + 1) (G.ep + 1) G.sz wd,48,true⟩) (s:=nmB (G.last + 1)) rfl (fun f hf=>by
   obtain ⟨x,hx,rfl⟩:=List.mem_map.1 hf
   exact hfr x hx)
  show (if false = true then _ else match findA (ndA A'++_) _ with | none=>_ | some f=>_) = _
  rw [if_neg (by simp),hfl]
 ·show G.last + 1 < _; omega
 ·show G.ep + 1 < _; omega
 ·show G.sz < _; omega
theorem xc2b {sec:Nat} {wd lim:Int} {N:Nat} {A:List DF} {may:List (Nat × List En)} {must:Nat} (h:Inv wd N A may must) (hag:argOk wd lim = true) (hN:N + 1 < 18446744073709551615) :
  ∃ s B',opD (dH sec 0 A) wd lim = ⟨0,dH sec ((cnR A:Nat) + 4) B',some s,Rb A⟩∧s.nx = cntB (Rb A)∧s.fst = s.nx∧s.wd = wd∧(∀ n e,Pd wd n e A→n < s.num∧e < s.ep)∧0 < s.num∧0 < s.ep∧Pd wd s.num s.ep B'∧stRead (dH sec ((cnR A:Nat) + 4) B') (nmB s.num) = (ehB s.num s.ep s.nx wd,0)∧s.num < 18446744073709551616∧s.ep < 18446744073709551616∧s.nx < 18446744073709551616:=by
 obtain ⟨s,B',h1,h2,h3,h4,h5,h6,h7,h8,h9,h10,h11,h12,_⟩:=xb8g (sec:=sec) (op:=0) h hag hN (Int.le_refl _)
 rw [show (0:Int) + (cnR A:Nat) + 4 = ((cnR A:Nat):Int) + 4 by omega] at h1 h9
 exact ⟨s,B',h1,h2,h3,h4,h5,h6,h7,h8,h9,h10,h11,h12⟩
set_option maxHeartbeats 1000000 in
theorem xc3d (sec:Int) (w:World) :
  Calls Tryz.prog 8 #[.int .i64 sec] w fun e w'=>∃ p,e = .returned (.tuple #[p,.int .i64 (FrR sec []:Nat)])∧Kept [] w w'∧(FrR sec []≠0→p = .pointer none)∧(FrR sec [] = 0→∃ d D,p = .pointer (some ⟨d,0,none⟩)∧DK w' d D 0 0 ⟨sec.toNat,0,0,false,fun _=>none,[]⟩∧∀ x∈D,w.heap.size≤x):=by
 have HN:=hide (xb8i sec (.slice none 0 0) [] [] w.heap.size 0 w (OwnI.nil _ _) rfl (by simp) (by simp) (by simp))
 generalize FrR sec [] = FR at HN ⊢
 go_enter Tryz.func8,Tryz.ntmps8
 go_wp2_with fail
 refine Calls.mono (uh HN) ?_
 rintro e w1 ⟨p,rfl,k1,h1,h2⟩
 have HK:=hide k1
 have H1:=hide h1
 have H2:=hide h2
 clear k1 h1 h2
 go_wp2_with fail
 go_ret2
 exact ⟨_,rfl,uh HK,uh H1,uh H2⟩
structure Lf where
 fv:Value
 cr:Int
 sv:Value
 cut:Bool
 n:Int
 kv:Value
 fl:List (Int × Int)
 os:List (Bool × List En)
 ks:List KeepD
def lfC (x:Lf):List Value:=[x.fv,.int .i64 x.cr,x.sv,.bool x.cut,.int .i64 x.n,x.kv]
def lfW (x:Lf):Nat:=x.fl.length + x.os.length + 1
theorem xc1n (ls:List Lf) (i:Nat) (h:i < ls.length):((ls.take (i + 1)).map lfW).sum = ((ls.take i).map lfW).sum + lfW ls[i]:=by
 rw [List.take_succ_eq_append_getElem h,List.map_append,List.sum_append]; simp
theorem lfW_le (ls:List Lf) (i:Nat):((ls.take i).map lfW).sum≤(ls.map lfW).sum:=by
 have h:=List.take_append_drop i ls
 conv=>rhs; rw [← h]
 rw [List.map_append,List.sum_append]; omega
theorem xc0q (ls:List Lf):ls.length≤(ls.map lfW).sum:=by
 induction ls with
 | nil=>simp
 | cons a r ih=>simp only [List.map_cons,List.sum_cons,List.length_cons]; have:1≤lfW a:=(by unfold lfW; omega); omega
theorem VarsG.up {g g':Nat} {w:World} (h:VarsG g w) (hg:g≤g'):VarsG g' w:=fun L w' k hL=>h L w' k (fun x hx=>Nat.le_trans hg (hL x hx))
theorem LifeO.byn {g:Nat} {w:World} {fv sv kv:Value} {fl:List (Int × Int)} {os:List (Bool × List En)} {ks:List KeepD} (h:LifeO g w fv sv kv fl os ks):∀ o∈os,byN o.2:=by
 obtain ⟨ts,h1,_,h3⟩:=h.so
 intro o ho
 rw [h1] at ho
 obtain ⟨t,ht,rfl⟩:=List.mem_map.1 ho
 exact ((h3 [] w (Kept.refl _ _) (by simp)).2 t ht).byN
theorem LifeO.zero (g:Nat) (w:World):LifeO g w (.slice none 0 0) (.slice none 0 0) (.slice none 0 0) [] [] [] :=
 ⟨fun M w' k hM=>⟨RdC.nil 2 w',RdC.nil 3 w'⟩,⟨[],rfl,by simp,fun M w' k hM=>⟨RdC.nil 2 w',by simp⟩⟩,by simp [zblk],by simp [zblk],by simp,by simp,by simp,by simp,by simp⟩
end
section
open Go Go.RowKit Go.BigFrame
section
variable {P:Program} {Q:Exit→Act→World→Prop}
theorem xc4g {id:Nat} {o0 o1 o2 o3 o4 o5 o6 o7 o8 o9 o10:Oper} {a:Act} {w:World} (hm:P.follows .mixedOrders = true) (hs:Region.noSelect #[o0,o1,o2,o3,o4,o5,o6,o7,o8,o9,o10] = true)
  (f0:Region.free .any #[o0,o1,o2,o3,o4,o5,o6,o7,o8,o9,o10] #[false,false,false,false,false,false,false,false,false,false,false] 0 = true) (r0:(Region.ready .any #[o0,o1,o2,o3,o4,o5,o6,o7,o8,o9,o10] #[false,false,false,false,false,false,false,false,false,false,false]).contains 0 = true)
  (f2:Region.free .any #[o0,o1,o2,o3,o4,o5,o6,o7,o8,o9,o10] #[true,false,false,false,false,false,false,false,false,false,false] 2 = true) (r2:(Region.ready .any #[o0,o1,o2,o3,o4,o5,o6,o7,o8,o9,o10] #[true,false,false,false,false,false,false,false,false,false,false]).contains 2 = true)
  (f4:Region.free .any #[o0,o1,o2,o3,o4,o5,o6,o7,o8,o9,o10] #[true,false,true,false,false,false,false,false,false,false,false] 4 = true) (r4:(Region.ready .any #[o0,o1,o2,o3,o4,o5,o6,o7,o8,o9,o10] #[true,false,true,false,false,false,false,false,false,false,false]).contains 4 = true)
  (f6:Region.free .any #[o0,o1,o2,o3,o4,o5,o6,o7,o8,o9,o10] #[true,false,true,false,true,false,false,false,false,false,false] 6 = true) (r6:(Region.ready .any #[o0,o1,o2,o3,o4,o5,o6,o7,o8,o9,o10] #[true,false,true,false,true,false,false,false,false,false,false]).contains 6 = true)
  (f7:Region.free .any #[o0,o1,o2,o3,o4,o5,o6,o7,o8,o9,o10] #[true,false,true,false,true,false,true,false,false,false,false] 7 = true) (r7:(Region.ready .any #[o0,o1,o2,o3,o4,o5,o6,o7,o8,o9,o10] #[true,false,true,false,true,false,true,false,false,false,false]).contains 7 = true)
  (q_:Region.ready .any #[o0,o1,o2,o3,o4,o5,o6,o7,o8,o9,o10] #[true,false,true,false,true,false,true,true,false,false,false] = [1,9])
  (q1_:Region.ready .any #[o0,o1,o2,o3,o4,o5,o6,o7,o8,o9,o10] #[true,true,true,false,true,false,true,true,false,false,false] = [3,9])
  (q9_:Region.ready .any #[o0,o1,o2,o3,o4,o5,o6,o7,o8,o9,o10] #[true,false,true,false,true,false,true,true,false,true,false] = [1])
  (q1_3_:Region.ready .any #[o0,o1,o2,o3,o4,o5,o6,o7,o8,o9,o10] #[true,true,true,true,true,false,true,true,false,false,false] = [5,9])
  (f1_3_5_8:Region.free .any #[o0,o1,o2,o3,o4,o5,o6,o7,o8,o9,o10] #[true,true,true,true,true,true,true,true,false,false,false] 8 = true) (r1_3_5_8:(Region.ready .any #[o0,o1,o2,o3,o4,o5,o6,o7,o8,o9,o10] #[true,true,true,true,true,true,true,true,false,false,false]).contains 8 = true)
  (q1_9_:Region.ready .any #[o0,o1,o2,o3,o4,o5,o6,o7,o8,o9,o10] #[true,true,true,false,true,false,true,true,false,true,false] = [3])
  (q1_3_5_:Region.ready .any #[o0,o1,o2,o3,o4,o5,o6,o7,o8,o9,o10] #[true,true,true,true,true,true,true,true,true,false,false] = [9])
  (q1_3_9_:Region.ready .any #[o0,o1,o2,o3,o4,o5,o6,o7,o8,o9,o10] #[true,true,true,true,true,false,true,true,false,true,false] = [5])
  (f1_3_9_5_8:Region.free .any #[o0,o1,o2,o3,o4,o5,o6,o7,o8,o9,o10] #[true,true,true,true,true,true,true,true,false,true,false] 8 = true) (r1_3_9_5_8:(Region.ready .any #[o0,o1,o2,o3,o4,o5,o6,o7,o8,o9,o10] #[true,true,true,true,true,true,true,true,false,true,false]).contains 8 = true)
  (q1_3_5_9_:Region.ready .any #[o0,o1,o2,o3,o4,o5,o6,o7,o8,o9,o10] #[true,true,true,true,true,true,true,true,true,true,false] = [10])
  (q1_3_5_9_10_:Region.ready .any #[o0,o1,o2,o3,o4,o5,o6,o7,o8,o9,o10] #[true,true,true,true,true,true,true,true,true,true,true] = [])
  (g1:o1.guard = none)    (g3:o3.guard = none)    (g5:o5.guard = none)    (g9:o9.guard = none)    (g10:o10.guard = none)
  (ne9_1:∀ d,o9.dst = some d→o1.dst≠some d)
  (ne9_3:∀ d,o9.dst = some d→o3.dst≠some d)
  (ne9_5:∀ d,o9.dst = some d→o5.dst≠some d)
  (ne9_8:∀ d,o9.dst = some d→o8.dst≠some d)
  (v0 v2 v4 v6 v7:Value) (A0 A1 A2 A3 A4:Act)
  (S:World→Prop)
  (I_:World→Prop)
  (I1_:Value→World→Prop)
  (I9_:Value→World→Prop)
  (I1_3_:Value→Value→World→Prop)
  (I1_9_:Value→Value→World→Prop)
  (I1_3_5_:Value→Value→Value→World→Prop)
  (I1_3_9_:Value→Value→Value→World→Prop)
  (I1_3_5_9_:Value→Value→Value→Value→World→Prop)
  (I1_3_5_9_10_:Value→Value→Value→Value→Value→World→Prop)
  (v8:Value→Value→Value→Value)
  (p0:a.put o0.dst v0 = A0) (hy0:YieldsIf P #[o0,o1,o2,o3,o4,o5,o6,o7,o8,o9,o10] S o0 v0 a)
  (p2:A0.put o2.dst v2 = A1) (hy2:YieldsIf P #[o0,o1,o2,o3,o4,o5,o6,o7,o8,o9,o10] S o2 v2 A0)
  (p4:A1.put o4.dst v4 = A2) (hy4:YieldsIf P #[o0,o1,o2,o3,o4,o5,o6,o7,o8,o9,o10] S o4 v4 A1)
  (p6:A2.put o6.dst v6 = A3) (hy6:YieldsIf P #[o0,o1,o2,o3,o4,o5,o6,o7,o8,o9,o10] S o6 v6 A2)
  (p7:A3.put o7.dst v7 = A4) (hy7:YieldsIf P #[o0,o1,o2,o3,o4,o5,o6,o7,o8,o9,o10] S o7 v7 A3)
  (i0:I_ w.drew)
  (hIS:(∀ w',I_  w'→S w')∧(∀ (u1:Value) w',I1_ u1 w'→S w')∧(∀ (u9:Value) w',I9_ u9 w'→S w')∧(∀ (u1 u3:Value) w',I1_3_ u1 u3 w'→S w')∧(∀ (u1 u9:Value) w',I1_9_ u1 u9 w'→S w')∧(∀ (u1 u3 u5:Value) w',I1_3_5_ u1 u3 u5 w'→S w')∧(∀ (u1 u3 u9:Value) w',I1_3_9_ u1 u3 u9 w'→S w')∧(∀ (u1 u3 u5 u9:Value) w',I1_3_5_9_ u1 u3 u5 u9 w'→S w')∧(∀ (u1 u3 u5 u9 u10:Value) w',I1_3_5_9_10_ u1 u3 u5 u9 u10 w'→S w'))
  (s_1:∀ w',I_  w'→∀ K:Act→World→Prop,(∀ (u1:Value) w2,I1_ u1 w2→K (A4.put o1.dst u1) w2)→o1.wp P A4 w' K (NoPanic Q))
  (s_9:∀ w',I_  w'→∀ K:Act→World→Prop,(∀ (u9:Value) w2,I9_ u9 w2→K (A4.put o9.dst u9) w2)→o9.wp P A4 w' K (NoPanic Q))
  (s1_3:∀ (u1:Value) w',I1_ u1 w'→∀ K:Act→World→Prop,(∀ (u3:Value) w2,I1_3_ u1 u3 w2→K ((A4.put o1.dst u1).put o3.dst u3) w2)→o3.wp P (A4.put o1.dst u1) w' K (NoPanic Q))
  (s1_9:∀ (u1:Value) w',I1_ u1 w'→∀ K:Act→World→Prop,(∀ (u9:Value) w2,I1_9_ u1 u9 w2→K ((A4.put o1.dst u1).put o9.dst u9) w2)→o9.wp P (A4.put o1.dst u1) w' K (NoPanic Q))
  (s9_1:∀ (u9:Value) w',I9_ u9 w'→∀ K:Act→World→Prop,(∀ (u1:Value) w2,I1_9_ u1 u9 w2→K ((A4.put o9.dst u9).put o1.dst u1) w2)→o1.wp P (A4.put o9.dst u9) w' K (NoPanic Q))
  (s1_3_5:∀ (u1 u3:Value) w',I1_3_ u1 u3 w'→∀ K:Act→World→Prop,(∀ (u5:Value) w2,I1_3_5_ u1 u3 u5 w2→K (((A4.put o1.dst u1).put o3.dst u3).put o5.dst u5) w2)→o5.wp P ((A4.put o1.dst u1).put o3.dst u3) w' K (NoPanic Q))
  (s1_3_9:∀ (u1 u3:Value) w',I1_3_ u1 u3 w'→∀ K:Act→World→Prop,(∀ (u9:Value) w2,I1_3_9_ u1 u3 u9 w2→K (((A4.put o1.dst u1).put o3.dst u3).put o9.dst u9) w2)→o9.wp P ((A4.put o1.dst u1).put o3.dst u3) w' K (NoPanic Q))
  (s1_9_3:∀ (u1 u9:Value) w',I1_9_ u1 u9 w'→∀ K:Act→World→Prop,(∀ (u3:Value) w2,I1_3_9_ u1 u3 u9 w2→K (((A4.put o1.dst u1).put o9.dst u9).put o3.dst u3) w2)→o3.wp P ((A4.put o1.dst u1).put o9.dst u9) w' K (NoPanic Q))
  (s1_3_5_9:∀ (u1 u3 u5:Value) w',I1_3_5_ u1 u3 u5 w'→∀ K:Act→World→Prop,(∀ (u9:Value) w2,I1_3_5_9_ u1 u3 u5 u9 w2→K (((((A4.put o1.dst u1).put o3.dst u3).put o5.dst u5).put o8.dst (v8 u1 u3 u5)).put o9.dst u9) w2)→o9.wp P ((((A4.put o1.dst u1).put o3.dst u3).put o5.dst u5).put o8.dst (v8 u1 u3 u5)) w' K (NoPanic Q))
  (s1_3_9_5:∀ (u1 u3 u9:Value) w',I1_3_9_ u1 u3 u9 w'→∀ K:Act→World→Prop,(∀ (u5:Value) w2,I1_3_5_9_ u1 u3 u5 u9 w2→K ((((A4.put o1.dst u1).put o3.dst u3).put o9.dst u9).put o5.dst u5) w2)→o5.wp P (((A4.put o1.dst u1).put o3.dst u3).put o9.dst u9) w' K (NoPanic Q))
  (s1_3_5_9_10:∀ (u1 u3 u5 u9:Value) w',I1_3_5_9_ u1 u3 u5 u9 w'→∀ K:Act→World→Prop,(∀ (u10:Value) w2,I1_3_5_9_10_ u1 u3 u5 u9 u10 w2→K ((((((A4.put o1.dst u1).put o3.dst u3).put o5.dst u5).put o8.dst (v8 u1 u3 u5)).put o9.dst u9).put o10.dst u10) w2)→o10.wp P (((((A4.put o1.dst u1).put o3.dst u3).put o5.dst u5).put o8.dst (v8 u1 u3 u5)).put o9.dst u9) w' K (NoPanic Q))
  (y1_3_5_8:∀ (u1 u3 u5:Value) w',I1_3_5_ u1 u3 u5 w'→YieldsIf P #[o0,o1,o2,o3,o4,o5,o6,o7,o8,o9,o10] S o8 (v8 u1 u3 u5) (((A4.put o1.dst u1).put o3.dst u3).put o5.dst u5))
  (y1_3_9_5_8:∀ (u1 u3 u5 u9:Value) w',I1_3_5_9_ u1 u3 u5 u9 w'→YieldsIf P #[o0,o1,o2,o3,o4,o5,o6,o7,o8,o9,o10] S o8 (v8 u1 u3 u5) ((((A4.put o1.dst u1).put o3.dst u3).put o5.dst u5).put o9.dst u9))
  (h:∀ (u1 u3 u5 u9 u10:Value) w',I1_3_5_9_10_ u1 u3 u5 u9 u10 w'→Q .normal ((((((A4.put o1.dst u1).put o3.dst u3).put o5.dst u5).put o8.dst (v8 u1 u3 u5)).put o9.dst u9).put o10.dst u10) w') :
  (Code.region id #[o0,o1,o2,o3,o4,o5,o6,o7,o8,o9,o10] true).wp P Q a w:=by
 subst p0 p2 p4 p6 p7
 obtain ⟨z_,z1_,z9_,z1_3_,z1_9_,z1_3_5_,z1_3_9_,z1_3_5_9_,z1_3_5_9_10_⟩:=hIS
 refine wp_region_noPanic ?_
 refine wp_region_held_drew (S:=S) hm (z_ _ i0) (fun hH=>?_)
 show wpAnyH P .any #[o0,o1,o2,o3,o4,o5,o6,o7,o8,o9,o10] (NoPanic Q) S 11 #[false,false,false,false,false,false,false,false,false,false,false] a w.drew
 refine wpAnyH_take (i:=0) (oi:=o0) rfl hs f0 r0 (fun _ _ _ h=>h) hy0 hH ?_
 refine wpAnyH_take (i:=2) (oi:=o2) rfl hs f2 r2 (fun _ _ _ h=>h) hy2 hH ?_
 refine wpAnyH_take (i:=4) (oi:=o4) rfl hs f4 r4 (fun _ _ _ h=>h) hy4 hH ?_
 refine wpAnyH_take (i:=6) (oi:=o6) rfl hs f6 r6 (fun _ _ _ h=>h) hy6 hH ?_
 refine wpAnyH_take (i:=7) (oi:=o7) rfl hs f7 r7 (fun _ _ _ h=>h) hy7 hH ?_
 generalize (((((a.put o0.dst v0).put o2.dst v2).put o4.dst v4).put o6.dst v6).put o7.dst v7) = B at *
 have wa1:∀ y,Region.wanted o1 y = true:=fun y=>by unfold Region.wanted; rw [g1]
 have wa3:∀ y,Region.wanted o3 y = true:=fun y=>by unfold Region.wanted; rw [g3]
 have wa5:∀ y,Region.wanted o5 y = true:=fun y=>by unfold Region.wanted; rw [g5]
 have wa9:∀ y,Region.wanted o9 y = true:=fun y=>by unfold Region.wanted; rw [g9]
 have wa10:∀ y,Region.wanted o10 y = true:=fun y=>by unfold Region.wanted; rw [g10]
 have t1_3_5_9_10_:∀ (u1 u3 u5 u9 u10:Value) w',I1_3_5_9_10_ u1 u3 u5 u9 u10 w'→wpAnyH P .any #[o0,o1,o2,o3,o4,o5,o6,o7,o8,o9,o10] (NoPanic Q) S 0 #[true,true,true,true,true,true,true,true,true,true,true] ((((((B.put o1.dst u1).put o3.dst u3).put o5.dst u5).put o8.dst (v8 u1 u3 u5)).put o9.dst u9).put o10.dst u10) w':=by
  intro u1 u3 u5 u9 u10 w0 i0
  exact ⟨q1_3_5_9_10_,NoPanic.normal (h u1 u3 u5 u9 u10 w0 i0)⟩
 have t1_3_5_9_:∀ (u1 u3 u5 u9:Value) w',I1_3_5_9_ u1 u3 u5 u9 w'→wpAnyH P .any #[o0,o1,o2,o3,o4,o5,o6,o7,o8,o9,o10] (NoPanic Q) S 1 #[true,true,true,true,true,true,true,true,true,true,false] (((((B.put o1.dst u1).put o3.dst u3).put o5.dst u5).put o8.dst (v8 u1 u3 u5)).put o9.dst u9) w':=by
  intro u1 u3 u5 u9 w0 i0
  refine wpAnyH_ready (rs:=[10]) q1_3_5_9_ (by simp) (AllReadyH.cons (o:=o10) rfl (fun K hK=>?_) AllReadyH.nil)
  ·rw [if_pos (wa10 _)]
   refine s1_3_5_9_10 u1 u3 u5 u9 w0 i0 K (fun u10 w1 i1=>hK.out _ _ (z1_3_5_9_10_ u1 u3 u5 u9 u10 w1 i1) (fun _=>?_))
   clear hK
   exact t1_3_5_9_10_ u1 u3 u5 u9 u10 w1 i1
 have t1_3_9_:∀ (u1 u3 u9:Value) w',I1_3_9_ u1 u3 u9 w'→wpAnyH P .any #[o0,o1,o2,o3,o4,o5,o6,o7,o8,o9,o10] (NoPanic Q) S 3 #[true,true,true,true,true,false,true,true,false,true,false] (((B.put o1.dst u1).put o3.dst u3).put o9.dst u9) w':=by
  intro u1 u3 u9 w0 i0
  refine wpAnyH_ready (rs:=[5]) q1_3_9_ (by simp) (AllReadyH.cons (o:=o5) rfl (fun K hK=>?_) AllReadyH.nil)
  ·rw [if_pos (wa5 _)]
   refine s1_3_9_5 u1 u3 u9 w0 i0 K (fun u5 w1 i1=>hK.out _ _ (z1_3_5_9_ u1 u3 u5 u9 w1 i1) (fun _=>?_))
   clear hK
   rw [Act.put_comm _ _ _ ne9_5]
   refine wpAnyH_take (i:=8) (oi:=o8) rfl hs f1_3_9_5_8 r1_3_9_5_8 (fun _ _ _ h=>h) (y1_3_9_5_8 u1 u3 u5 u9 w1 i1) (z1_3_5_9_ u1 u3 u5 u9 w1 i1) ?_
   rw [Act.put_comm _ _ _ ne9_8]
   exact t1_3_5_9_ u1 u3 u5 u9 w1 i1
 have t1_3_5_:∀ (u1 u3 u5:Value) w',I1_3_5_ u1 u3 u5 w'→wpAnyH P .any #[o0,o1,o2,o3,o4,o5,o6,o7,o8,o9,o10] (NoPanic Q) S 2 #[true,true,true,true,true,true,true,true,true,false,false] ((((B.put o1.dst u1).put o3.dst u3).put o5.dst u5).put o8.dst (v8 u1 u3 u5)) w':=by
  intro u1 u3 u5 w0 i0
  refine wpAnyH_ready (rs:=[9]) q1_3_5_ (by simp) (AllReadyH.cons (o:=o9) rfl (fun K hK=>?_) AllReadyH.nil)
  ·rw [if_pos (wa9 _)]
   refine s1_3_5_9 u1 u3 u5 w0 i0 K (fun u9 w1 i1=>hK.out _ _ (z1_3_5_9_ u1 u3 u5 u9 w1 i1) (fun _=>?_))
   clear hK
   exact t1_3_5_9_ u1 u3 u5 u9 w1 i1
 have t1_9_:∀ (u1 u9:Value) w',I1_9_ u1 u9 w'→wpAnyH P .any #[o0,o1,o2,o3,o4,o5,o6,o7,o8,o9,o10] (NoPanic Q) S 4 #[true,true,true,false,true,false,true,true,false,true,false] ((B.put o1.dst u1).put o9.dst u9) w':=by
  intro u1 u9 w0 i0
  refine wpAnyH_ready (rs:=[3]) q1_9_ (by simp) (AllReadyH.cons (o:=o3) rfl (fun K hK=>?_) AllReadyH.nil)
  ·rw [if_pos (wa3 _)]
   refine s1_9_3 u1 u9 w0 i0 K (fun u3 w1 i1=>hK.out _ _ (z1_3_9_ u1 u3 u9 w1 i1) (fun _=>?_))
   clear hK
   rw [Act.put_comm _ _ _ ne9_3]
   exact t1_3_9_ u1 u3 u9 w1 i1
 have t1_3_:∀ (u1 u3:Value) w',I1_3_ u1 u3 w'→wpAnyH P .any #[o0,o1,o2,o3,o4,o5,o6,o7,o8,o9,o10] (NoPanic Q) S 4 #[true,true,true,true,true,false,true,true,false,false,false] ((B.put o1.dst u1).put o3.dst u3) w':=by
  intro u1 u3 w0 i0
  refine wpAnyH_ready (rs:=[5,9]) q1_3_ (by simp) (AllReadyH.cons (o:=o5) rfl (fun K hK=>?_) (AllReadyH.cons (o:=o9) rfl (fun K hK=>?_) AllReadyH.nil))
  ·rw [if_pos (wa5 _)]
   refine s1_3_5 u1 u3 w0 i0 K (fun u5 w1 i1=>hK.out _ _ (z1_3_5_ u1 u3 u5 w1 i1) (fun _=>?_))
   clear hK
   refine wpAnyH_take (i:=8) (oi:=o8) rfl hs f1_3_5_8 r1_3_5_8 (fun _ _ _ h=>h) (y1_3_5_8 u1 u3 u5 w1 i1) (z1_3_5_ u1 u3 u5 w1 i1) ?_
   exact t1_3_5_ u1 u3 u5 w1 i1
  ·rw [if_pos (wa9 _)]
   refine s1_3_9 u1 u3 w0 i0 K (fun u9 w1 i1=>hK.out _ _ (z1_3_9_ u1 u3 u9 w1 i1) (fun _=>?_))
   clear hK
   exact t1_3_9_ u1 u3 u9 w1 i1
 have t9_:∀ (u9:Value) w',I9_ u9 w'→wpAnyH P .any #[o0,o1,o2,o3,o4,o5,o6,o7,o8,o9,o10] (NoPanic Q) S 5 #[true,false,true,false,true,false,true,true,false,true,false] (B.put o9.dst u9) w':=by
  intro u9 w0 i0
  refine wpAnyH_ready (rs:=[1]) q9_ (by simp) (AllReadyH.cons (o:=o1) rfl (fun K hK=>?_) AllReadyH.nil)
  ·rw [if_pos (wa1 _)]
   refine s9_1 u9 w0 i0 K (fun u1 w1 i1=>hK.out _ _ (z1_9_ u1 u9 w1 i1) (fun _=>?_))
   clear hK
   rw [Act.put_comm _ _ _ ne9_1]
   exact t1_9_ u1 u9 w1 i1
 have t1_:∀ (u1:Value) w',I1_ u1 w'→wpAnyH P .any #[o0,o1,o2,o3,o4,o5,o6,o7,o8,o9,o10] (NoPanic Q) S 5 #[true,true,true,false,true,false,true,true,false,false,false] (B.put o1.dst u1) w':=by
  intro u1 w0 i0
  refine wpAnyH_ready (rs:=[3,9]) q1_ (by simp) (AllReadyH.cons (o:=o3) rfl (fun K hK=>?_) (AllReadyH.cons (o:=o9) rfl (fun K hK=>?_) AllReadyH.nil))
  ·rw [if_pos (wa3 _)]
   refine s1_3 u1 w0 i0 K (fun u3 w1 i1=>hK.out _ _ (z1_3_ u1 u3 w1 i1) (fun _=>?_))
   clear hK
   exact t1_3_ u1 u3 w1 i1
  ·rw [if_pos (wa9 _)]
   refine s1_9 u1 w0 i0 K (fun u9 w1 i1=>hK.out _ _ (z1_9_ u1 u9 w1 i1) (fun _=>?_))
   clear hK
   exact t1_9_ u1 u9 w1 i1
 have t_:∀ w',I_  w'→wpAnyH P .any #[o0,o1,o2,o3,o4,o5,o6,o7,o8,o9,o10] (NoPanic Q) S 6 #[true,false,true,false,true,false,true,true,false,false,false] B w':=by
  intro w0 i0
  refine wpAnyH_ready (rs:=[1,9]) q_ (by simp) (AllReadyH.cons (o:=o1) rfl (fun K hK=>?_) (AllReadyH.cons (o:=o9) rfl (fun K hK=>?_) AllReadyH.nil))
  ·rw [if_pos (wa1 _)]
   refine s_1  w0 i0 K (fun u1 w1 i1=>hK.out _ _ (z1_ u1 w1 i1) (fun _=>?_))
   clear hK
   exact t1_ u1 w1 i1
  ·rw [if_pos (wa9 _)]
   refine s_9  w0 i0 K (fun u9 w1 i1=>hK.out _ _ (z9_ u9 w1 i1) (fun _=>?_))
   clear hK
   exact t9_ u9 w1 i1
 exact t_ w.drew i0
end
end
end Go.Proofs.YtkolfhgbojenjaaGreatDoor
