import Derived.Test.YtepmjkkjhjkdgaaDoorTopC
namespace Go.Proofs.YtepmjkkjhjkdgaaDoor
set_option linter.unusedVariables false
set_option linter.unusedSimpArgs false
set_option maxRecDepth 100000
section
open Go.ChangeShapes Go.WideShapes Go.ChangeAt Go.RowKit Go.Deep
section
variable {H:Type} {enc:TypeId × Value→H} {W:World}
theorem xa9c {d:DataW H} {l:List (DataW H)} (h:d∈l):Rows.uptoBulk d≤Rows.uptoBulkAll l:=by
  induction l with
  | nil=>simp at h
  | cons a l ih =>
    simp only [Rows.uptoBulkAll]
    rcases List.mem_cons.1 h with rfl | h
    · omega
    · have:=ih h; omega
theorem xa9h (D:Nat→DataW H) (l:List Nat) (h:∀ i∈l,1≤Rows.uptoBulk (D i)):l.length≤Rows.uptoBulkAll (l.map D):=by
  induction l with
  | nil=>simp
  | cons a l ih =>
    have h1:=h a (by simp)
    have h2:=ih (fun i hi=>h i (by simp [hi]))
    simp only [List.map_cons,Rows.uptoBulkAll,List.length_cons]
    omega
theorem xb0h (cs:List Value) (a n:Nat):cs.drop a = (cs.drop a).take n++cs.drop (a + n):=by
  rw [← List.drop_drop,List.take_append_drop]
theorem xb0a {fuel:Nat} {cs:List Value} {x:DataW H × List MemPlace} (h:DataW.trod enc Tryd.prog W 0 (fun _=>true) true fuel 30 cs = some x) (hB:Rows.uptoBulk x.1≤1048576) :
    ∃ (e:En) (kv vv:Value),cs = (enC e kv vv).toList∧OkE W e kv vv∧e.key.length + e.val.length + 2≤Rows.uptoBulk x.1:=by
  obtain ⟨xs,n,_,rfl,hl,hlen,hf⟩:=DataW.trod_struct Tryd.underlying30 h
  rw [show Tryd.prog.cellsOf 30 = 3 from by kernel_rfl] at hl
  match xs,hlen with
  | [y0,y1,y2],_ =>
    have ci:Tryd.prog.cellsOf 5 = 1:=by kernel_rfl
    have cb:Tryd.prog.cellsOf 23 = 1:=by kernel_rfl
    have f0:DataW.trod enc Tryd.prog W 0 (fun _=>true) true n 5 ((cs.drop 0).take 1) = some y0:=by rw [← ci]; exact hf 0 _ rfl
    have f1:DataW.trod enc Tryd.prog W 0 (fun _=>true) true n 23 ((cs.drop 1).take 1) = some y1:=by have this:DataW.trod enc Tryd.prog W 0 (fun _=>true) true n 23 ((cs.drop 1).take (Tryd.prog.cellsOf 23)) = some y1:=hf 1 _ rfl; rw [cb] at this; exact this
    have f2:DataW.trod enc Tryd.prog W 0 (fun _=>true) true n 23 ((cs.drop 2).take 1) = some y2:=by have this:DataW.trod enc Tryd.prog W 0 (fun _=>true) true n 23 ((cs.drop 2).take (Tryd.prog.cellsOf 23)) = some y2:=hf 2 _ rfl; rw [cb] at this; exact this
    simp only [List.map_cons,List.map_nil,Rows.uptoBulk,Rows.uptoBulkAll] at hB ⊢
    obtain ⟨k,e0,_,w0⟩:=DataW.trod_int Tryd.underlying5 f0
    obtain ⟨kv,key,e1,hr1,hb1⟩:=xa3c f1
    obtain ⟨vv,val,e2,hr2,hb2⟩:=xa3c f2
    have g1:=xa3f hb1
    have g2:=xa3f hb2
    have hk:=xa3k w0
    refine ⟨⟨k.toNat,key,val⟩,kv,vv,?_,⟨by show k.toNat < 256; omega,hr1 (by omega),hr2 (by omega)⟩,by show key.length + val.length + 2≤_; omega⟩
    have hd:cs.drop 3 = []:=List.drop_eq_nil_of_le (by omega)
    have this:=xb0h cs 0 1
    rw [e0,xb0h cs 1 1,e1,xb0h cs 2 1,e2,hd,List.drop_zero] at this
    rw [this]
    simp [enC,Int.toNat_of_nonneg hk.1]
instance:Inhabited En:=⟨⟨0,[],[]⟩⟩
theorem xa6t {fuel:Nat} {cs:List Value} {x:DataW H × List MemPlace} (h:DataW.trod enc Tryd.prog W 0 (fun _=>true) true fuel 22 cs = some x) (hB:Rows.uptoBulk x.1≤1048576) :
    ∃ v es,cs = [v]∧RdN W v es∧es.length≤1048576:=by
  rcases open_slice Tryd.underlying22 h with ⟨rfl,rfl⟩ | ⟨a,len,cap,m,n,D,Pl,rfl,_,hl,hm,hmm,rfl,hx⟩
  · exact ⟨_,[],rfl,RdN.nil W,by simp⟩
  · have hC:Tryd.prog.cellsOf 30 = 3:=by kernel_rfl
    rw [hC] at hx
    simp only [if_true] at hmm
    simp only [Rows.uptoBulk] at hB
    obtain ⟨f,hf⟩:=choose_lt (α:=En × Value × Value) (n:=len) (p:=fun i o=>((∀ j v,(enC o.1 o.2.1 o.2.2).toList[j]? = some v→W.cell? ((a.add (i * 3)).add j) = some v)∧OkE W o.1 o.2.1 o.2.2)∧1≤Rows.uptoBulk (D i)) (by
      intro i hi
      obtain ⟨cs',h1,h2⟩:=hx i (by omega)
      have hDi:Rows.uptoBulk (D i)≤Rows.uptoBulkAll ((List.range len).map D):=xa9c (List.mem_map.2 ⟨i,List.mem_range.2 hi,rfl⟩)
      obtain ⟨o,kv,vv,rfl,ho,hbb⟩:=xb0a h2 (by simp only; omega)
      obtain ⟨_,hlen,hc⟩:=World.cells?_some h1
      refine ⟨(o,kv,vv),⟨fun j v hv=>?_,ho⟩,by simp only at hbb; omega⟩
      have hj:=(List.getElem?_eq_some_iff.1 hv).1
      have:=hc j hj
      rw [this,← hv,List.getElem?_eq_getElem hj])
    refine ⟨_,(List.range len).map fun i=>(f i).1,rfl,⟨some a,len,cap,fun i=>(f i).2.1,fun i=>(f i).2.2,rfl,by simp,hl,by unfold maxLen at hm; omega,?_,?_⟩,?_⟩
    · intro i hi
      have hi':i < len:=by simpa using hi
      have:=(hf i hi').1.2
      simpa using this
    · intro hp
      obtain ⟨b,off,spot⟩:=a
      have h0:=(hf 0 hp).1
      have hc0:=h0.1 0 _ rfl
      have hspot:spot = none:=by simpa [Addr.add] using World.cell?_spot hc0
      subst hspot
      refine ⟨b,off,rfl,fun i hi j v hv=>?_⟩
      have hi':i < len:=by simpa using hi
      have e9:((List.range len).map fun i=>(f i).1)[i] = (f i).1:=by simp
      rw [e9] at hv
      have:=(hf i hi').1.1 j v hv
      rw [Addr.add_mid,Addr.add_mid] at this
      exact this
    · have:=xa9h D (List.range len) (fun i hi=>(hf i (List.mem_range.1 hi)).2)
      simp only [List.length_map,List.length_range] at this ⊢
      omega
end
end
end Go.Proofs.YtepmjkkjhjkdgaaDoor
