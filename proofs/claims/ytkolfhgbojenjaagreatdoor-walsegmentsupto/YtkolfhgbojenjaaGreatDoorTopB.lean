import Derived.Test.YtkolfhgbojenjaaGreatDoorTopA
namespace Go.Proofs.YtkolfhgbojenjaaGreatDoor
set_option linter.unusedVariables false
set_option linter.unusedSimpArgs false
set_option maxRecDepth 100000
section
open Go.RowKit Go.BigFrame
def keepD:Nat→List DFile→List DFile
 | _,[]=>[]
 | k,f :: r=>if f.nd then f :: keepD k r else match k with
  | 0=>keepD 0 r
  | k + 1=>f :: keepD k r
theorem xa7x {k:Nat} {f:DFile} {r:List DFile} (h:f.nd = true):keepD k (f :: r) = f :: keepD k r:=by cases k <;> simp [keepD,h]
theorem xa4g {f:DFile} {r:List DFile} (h:f.nd = false):keepD 0 (f :: r) = keepD 0 r:=by simp [keepD,h]
theorem xa4k {k:Nat} {f:DFile} {r:List DFile} (h:f.nd = false):keepD (k + 1) (f :: r) = f :: keepD k r:=by simp [keepD,h]
theorem xb7r (fs:List DFile):∀ k,(keepD k fs).map absF = cutN k (fs.map absF):=by
 induction fs with
 | nil=>intro k; simp [keepD,cutN]
 | cons f r ih =>
  intro k
  cases hn:f.nd
  ·cases k with
   | zero=>rw [xa4g hn,ih]; simp [cutN,absF,hn]
   | succ k=>rw [xa4k hn,List.map_cons,ih]; simp [cutN,absF,hn]
  ·rw [xa7x hn,List.map_cons,ih]; cases k <;> simp [cutN,absF,hn]
theorem xa2e (fs:List DFile):∀ k,(keepD k fs).Sublist fs:=by
 induction fs with
 | nil=>intro k; simp [keepD]
 | cons f r ih =>
  intro k
  cases hn:f.nd
  ·cases k with
   | zero=>rw [xa4g hn]; exact (ih 0).cons _
   | succ k=>rw [xa4k hn]; exact (ih k).cons_cons _
  ·rw [xa7x hn]; exact (ih k).cons_cons _
def delF (fs:List DFile) (k j:Nat) (s:List UInt8):Option Nat:=if (((unL fs).drop k).take j).any (fun x=>x.nm.data.toList == s) then none else look fs s
theorem xb7k (fs:List DFile) (k:Nat):delF fs k 0 = look fs:=by funext s; simp [delF]
theorem xb7z {fs:List DFile} {k j:Nat} (h:j < ((unL fs).drop k).length):(fun t=>if t = (((unL fs).drop k)[j]'h).nm.data.toList then none else delF fs k j t) = delF fs k (j + 1):=by
 funext t
 unfold delF
 rw [List.take_succ_eq_append_getElem h,List.any_append,List.any_cons,List.any_nil,Bool.or_false]
 generalize ((unL fs).drop k)[j]'h = X
 by_cases ht:t = X.nm.data.toList
 ·subst ht
  rw [if_pos rfl,if_pos (by simp)]
 ·have h1:(X.nm.data.toList == t) = false:=by rw [beq_eq_false_iff_ne]; exact fun e=>ht e.symm
  rw [if_neg ht,h1,Bool.or_false]
theorem xa2h (f:DFile) (r:List DFile) (s:List UInt8):look (f :: r) s = if f.nm.data.toList = s then some f.g else look r s:=by
 unfold look
 rw [List.find?_cons]
 by_cases h:f.nm.data.toList = s
 ·simp [h]
 ·have:(f.nm.data.toList == s) = false:=by simpa using h
  simp [this,h]
theorem unL_nd {f:DFile} {r:List DFile} (h:f.nd = true):unL (f :: r) = unL r:=by simp [unL,h]
theorem xc4y {f:DFile} {r:List DFile} (h:f.nd = false):unL (f :: r) = f :: unL r:=by simp [unL,h]
theorem xa8n {fs:List DFile} {s:List UInt8} (h:∀ f∈fs,f.nm.data.toList≠s):look fs s = none:=by
 unfold look
 rw [Option.map_eq_none_iff,List.find?_eq_none]
 intro f hf
 simpa using h f hf
theorem xa5e {l:List DFile} {s:List UInt8} (h:∀ f∈l,f.nm.data.toList≠s):l.any (fun x=>x.nm.data.toList == s) = false:=by
 rw [List.any_eq_false]
 intro f hf
 simpa using h f hf
theorem xb4a (fs:List DFile):∀ k,Dist (fs.map absF)→∀ s,look (keepD k fs) s = if ((unL fs).drop k).any (fun x=>x.nm.data.toList == s) then none else look fs s:=by
 induction fs with
 | nil=>intro k hd s; simp [keepD,unL,look]
 | cons f r ih =>
  intro k hd s
  rw [List.map_cons] at hd
  obtain ⟨hd1,hd2⟩:=List.pairwise_cons.1 hd
  have hne:∀ x∈r,f.nm.data.toList = s→x.nm.data.toList≠s:=by
   intro x hx e1 e2
   exact hd1 (absF x) (List.mem_map.2 ⟨x,hx,rfl⟩) (ba_ext (e1.trans e2.symm))
  have hun:∀ x∈unL r,x∈r:=fun x hx=>(List.mem_filter.1 hx).1
  cases hn:f.nd
  ·rw [xc4y hn]
   cases k with
   | zero =>
    rw [xa4g hn,ih 0 hd2,List.drop_zero,List.drop_zero,List.any_cons,xa2h]
    by_cases h:f.nm.data.toList = s
    ·rw [if_pos (by simp [h]:(f.nm.data.toList == s || (unL r).any fun x=>x.nm.data.toList == s) = true)]
     split
     ·rfl
     ·exact xa8n (fun x hx=>hne x hx h)
    ·have:(f.nm.data.toList == s) = false:=by simpa using h
     rw [this,Bool.false_or,if_neg h]
   | succ k =>
    rw [xa4k hn,xa2h,xa2h,List.drop_succ_cons,ih k hd2]
    by_cases h:f.nm.data.toList = s
    ·rw [if_pos h,if_pos h,xa5e (fun x hx=>hne x (hun x (List.mem_of_mem_drop hx)) h)]
     rfl
    ·rw [if_neg h,if_neg h]
  ·rw [unL_nd hn,xa7x hn,xa2h,xa2h,ih k hd2]
   by_cases h:f.nm.data.toList = s
   ·rw [if_pos h,if_pos h,xa5e (fun x hx=>hne x (hun x (List.mem_of_mem_drop hx)) h)]
    rfl
   ·rw [if_neg h,if_neg h]
theorem xc1j (fs:List DFile) (k:Nat) (hd:Dist (fs.map absF)):delF fs k ((unL fs).drop k).length = look (keepD k fs):=by
 funext s
 rw [xb4a fs k hd]
 unfold delF
 rw [List.take_length]
theorem xc3m (fs:List DFile):unA (fs.map absF) = (unL fs).length:=by
 unfold unA unL
 rw [List.filter_map,List.length_map]
 rfl
theorem xa5c {H:Type} {P:Program} {k:TypeId} {R:Value→Option (DataW H × List MemPlace)} {w w':World} {b r n:Nat} {D:DataW H} {left:Lit→Bool} {cnt:Nat} (h:w.ranges P k R b r n D left cnt) (e1:w'.heap[b]? = w.heap[b]?) (e2:w'.heap[r]? = w.heap[r]?):w'.ranges P k R b r n D left cnt:=by
 obtain ⟨es,clock,since,seen,c0,hb,F,hs,hD,hr,rest⟩:=h
 exact ⟨es,clock,since,seen,c0,e1.trans hb,F,hs,hD,e2.trans hr,rest⟩
theorem xa4w {H:Type} {P:Program} {k:TypeId} {R:Value→Option (DataW H × List MemPlace)} {w:World} {b r n:Nat} {D:DataW H} {left:Lit→Bool} {cnt:Nat} (h:w.ranges P k R b r n D left cnt):∃ m s e c,w.heap[r]? = some (.mapIter m s e c):=by
 obtain ⟨es,clock,since,seen,c0,hb,F,hs,hD,hr,rest⟩:=h
 exact ⟨_,_,_,_,hr⟩
theorem DkAt.obj {w:World} {d sec m N:Nat} {u fv:Value} {cr op:Int} {off:Bool} {ft:Int→Option Int} {fs:List DFile} (h:DkAt w d sec m N u fv cr op off ft fs):∀ x∈dkB d m u fv fs,(∃ cs T z,w.heap[x]? = some (.cells cs T z))∨∃ es c,w.heap[x]? = some (.map es c):=by
 intro x hx
 simp only [dkB,List.mem_cons,List.mem_append,List.mem_flatMap] at hx
 rcases hx with rfl | rfl | (hx | hx) | ⟨f,hf,hx⟩
 ·exact .inl ⟨_,_,_,h.row⟩
 ·obtain ⟨n,D,⟨es,c,hb,_⟩,_⟩:=h.map
  exact .inr ⟨es,c,hb⟩
 ·obtain ⟨cs,hc⟩:=xa1x h.un hx
  exact .inl ⟨_,_,_,hc⟩
 ·obtain ⟨n,D,es,c,hb,_⟩:=xa1f h.ft hx
  exact .inr ⟨es,c,hb⟩
 ·rcases hx with rfl | hx
  ·exact .inl ⟨_,_,_,(h.files f hf).1⟩
  ·obtain ⟨cs,hc⟩:=xa0b (h.files f hf).2.1 hx
   exact .inl ⟨_,_,_,hc⟩
theorem DkAt.noIter {w:World} {d sec m N:Nat} {u fv:Value} {cr op:Int} {off:Bool} {ft:Int→Option Int} {fs:List DFile} (h:DkAt w d sec m N u fv cr op off ft fs) {r:Nat} (hr:∃ m s e c,w.heap[r]? = some (.mapIter m s e c)):r∉dkB d m u fv fs:=by
 intro hx
 obtain ⟨a,b,c,e,hr⟩:=hr
 rcases h.obj r hx with ⟨_,_,_,h1⟩ | ⟨_,_,h1⟩ <;> rw [h1] at hr <;> cases hr
def setL (ks:List KeepD) (sec:Nat) (left:Lit→Bool) (f:DF):DF:=if left (.string f.nm.data.toList) then f else setF ((fstK ks f.nm.data.toList).getD zK) sec f
theorem xb3d (k:KeepD) (sec:Nat) (f:DF):(setF k sec f).nm = f.nm:=by unfold setF; split <;> rfl
theorem xa9h (ks:List KeepD) (sec:Nat) (left:Lit→Bool) (f:DF):(setL ks sec left f).nm = f.nm:=by unfold setL; split; rfl; exact xb3d _ _ _
theorem xb1u {fs gs:List DFile} (h:fs.map (fun f=>(f.nm,f.g)) = gs.map (fun f=>(f.nm,f.g))):look fs = look gs:=by
 funext s
 have e:∀ l:List DFile,look l s = ((l.map fun f=>(f.nm,f.g)).find? fun p=>p.1.data.toList == s).map (·.2):=by
  intro l
  unfold look
  rw [List.find?_map,Option.map_map]
  rfl
 rw [e,e,h]
theorem xc5n (fs:List DFile) (g:Nat) (v:Value) (bs:List Nat) (sy:Nat):(upF fs g v bs sy).map (fun f=>(f.nm,f.g)) = fs.map (fun f=>(f.nm,f.g)):=by
 unfold upF
 rw [List.map_map]
 apply List.map_congr_left
 intro a _
 simp [xb2m,xa5j]
theorem xb5m (f:DFile) (w:World) (K:KeepD) (sec:Nat) (hf:FileAt w f) (hlen:f.bs.length≤140737488350000) (hs1:1≤sec) (hs2:sec≤4096) :
  Calls Tryz.prog 59 #[.pointer (some ⟨f.g,0,none⟩),keV K,.int .i64 sec] w fun e w'=>∃ v',e = .returned (.tuple #[])∧FileAt w' { f with v:=v',bs:=(setF K sec (absF f)).bs,sy:=(setF K sec (absF f)).sy }∧Kept (f.g :: blk f.v) w w'∧∀ x∈blk v',x∈blk f.v∨w.heap.size≤x:=by
 obtain ⟨kn,kb,tn⟩:=K
 by_cases hc:tn = true∧setN ⟨kn,kb,tn⟩ (absF f) < f.bs.length
 ·obtain ⟨rfl,hlt⟩:=hc
  have e1:setF ⟨kn,kb,true⟩ sec (absF f) = ⟨f.nm,f.bs.take (setN ⟨kn,kb,true⟩ (absF f))++List.replicate (tse (setN ⟨kn,kb,true⟩ (absF f)) sec) 0,setN ⟨kn,kb,true⟩ (absF f) + tse (setN ⟨kn,kb,true⟩ (absF f)) sec,true⟩:=by
   unfold setF
   exact if_pos ⟨rfl,hlt⟩
  rw [e1]
  exact xb1x f w kn kb sec hf hlen _ rfl hlt hs1 hs2
 ·have e1:setF ⟨kn,kb,tn⟩ sec (absF f) = ⟨f.nm,f.bs.take (setN ⟨kn,kb,tn⟩ (absF f)),setN ⟨kn,kb,tn⟩ (absF f),true⟩:=by
   unfold setF
   exact if_neg hc
  rw [e1]
  refine Calls.mono (settle_plain f w kn kb tn sec hf hlen _ rfl (fun h hlt=>hc ⟨h,hlt⟩)) ?_
  rintro e w' ⟨v',rfl,h1,h2,h3⟩
  exact ⟨v',rfl,h1,h2.mono (by simp),fun x hx=>.inl (h3 ▸ hx)⟩
theorem xa2t {key:Value} {kl:Lit} (h:keyOf Tryz.prog 9 key = some kl):∃ s:ByteArray,key = .string s∧kl = .string s.data.toList:=by
 cases key <;> simp [keyOf,Tryz.underlying9,mapKey] at h
 obtain ⟨_,rfl⟩:=h
 exact ⟨_,rfl,rfl⟩
theorem DkAt.turnedF {w w':World} {d sec m N:Nat} {u fv:Value} {cr op:Int} {off:Bool} {ft:Int→Option Int} {fs:List DFile} (h:DkAt w d sec m N u fv cr op off ft fs) (k:Kept [d] w w') {fv':Value} {ft':Int→Option Int} {cr' op':Int} {off':Bool} (hr:DRow w' d sec (.map (some m)) u fv' cr' op' off') (hf:FMap w' fv' N ft') (h2:m∉mblk fv'):DkAt w' d sec m N u fv' cr' op' off' ft' fs where
 row:=hr
 map:=by
  obtain ⟨n,D,ho,_⟩:=h.map
  exact xa3t h.map k (by simpa using (map_ne ho h.row).symm)
 un:=h.un.kept k (by
  intro x hx
  obtain ⟨cs,hc⟩:=xa1x h.un hx
  simpa using xa0d hc h.row (by decide))
 ft:=hf
 files:=fun f hf=>(h.files f hf).kept k (by simpa using xa0d (h.files f hf).1 h.row (by decide)) (by
  intro x hx
  obtain ⟨cs,hc⟩:=xa0b (h.files f hf).2.1 hx
  simpa using xa0d hc h.row (by decide))
 apart:=h.apart
 two:=h2
theorem DkAt.struck {w w2 w3:World} {d sec m N k:Nat} {u fv:Value} {cr op:Int} {off:Bool} {ft:Int→Option Int} {fs:List DFile} (h:DkAt w d sec m N u fv cr op off ft fs) (k2:Kept [m] w w2) (k3:Kept (d :: fs.map DFile.g) w2 w3) {n:Nat} {D:DataW Unit} (ho:w2.ownsMap Tryz.prog 9 ptrElem m n D) (hn:n≤N) (hD:MapIs D (look (keepD k fs))) (hr:DRow w3 d sec (.map (some m)) (.slice none 0 0) fv cr op off) (hf:∀ f∈fs,FileAt w3 { f with nd:=true }) :
  DkAt w3 d sec m N (.slice none 0 0) fv cr op off ft ((keepD k fs).map fun f=>{ f with nd:=true }):=by
 obtain ⟨n0,D0,ho0,_⟩:=h.map
 have hg:∀ f∈fs,f.g≠m:=fun f hf=>map_ne ho0 (h.files f hf).1
 have hdm:d≠m:=map_ne ho0 h.row
 have hml:m∉d :: fs.map DFile.g:=by
  intro hx
  simp only [List.mem_cons,List.mem_map] at hx
  rcases hx with rfl | ⟨f,hf,rfl⟩
  ·exact hdm rfl
  ·exact hg f hf rfl
 refine ⟨hr,⟨n,D,xa0c ho (k3.block m ho.lt hml),hn,by rw [xb4p]; exact hD⟩,by rw [unN_nd]; exact Qr.nil _ _,?_,?_,?_,h.two⟩
 ·have h1:=h.ft.kept k2 (by intro x hx hm; simp only [List.mem_singleton] at hm; subst hm; exact h.two hx)
  refine h1.kept k3 ?_
  intro x hx hy
  obtain ⟨n5,D5,ho5⟩:=xa1f h.ft hx
  simp only [List.mem_cons,List.mem_map] at hy
  rcases hy with rfl | ⟨f,hf,rfl⟩
  ·exact map_ne ho5 h.row rfl
  ·exact map_ne ho5 (h.files f hf).1 rfl
 ·intro a ha
  obtain ⟨f,hf2,rfl⟩:=List.mem_map.1 ha
  exact hf f ((xa2e fs k).subset hf2)
 ·rw [List.pairwise_map]
  exact h.apart.sublist (xa2e fs k)
theorem xb5z {d m k:Nat} {u fv:Value} {fs:List DFile}:∀ x∈dkB d m (.slice none 0 0) fv ((keepD k fs).map fun f=>{ f with nd:=true }),x∈dkB d m u fv fs:=by
 intro x hx
 simp only [dkB,blk,List.mem_cons,List.mem_append,List.mem_flatMap,List.not_mem_nil,false_or] at hx ⊢
 rcases hx with h | h | h | ⟨f,hf,h⟩
 ·exact .inl h
 ·exact .inr (.inl h)
 ·exact .inr (.inr (.inl (.inr h)))
 ·obtain ⟨a,ha,rfl⟩:=List.mem_map.1 hf
  exact .inr (.inr (.inr ⟨a,(xa2e fs k).subset ha,h⟩))
theorem xc2n (ks:List KeepD) (sec:Nat) (left:Lit→Bool) (hl:∀ kl,left kl = false) (k:Nat) (fs:List DFile):(((keepD k fs).map fun f=>{ f with nd:=true }).map absF).map (setL ks sec left) = setA ks sec (cutN k (fs.map absF)):=by
 rw [nd_abs2,← xb7r]
 unfold setA ndA
 rw [List.map_map,List.map_map,List.map_map]
 apply List.map_congr_left
 intro a _
 simp only [Function.comp,setL,hl]
 rfl
where nd_abs2:((keepD k fs).map fun f=>{ f with nd:=true }).map absF = ndA ((keepD k fs).map absF):=by unfold ndA; rw [List.map_map,List.map_map]; rfl
theorem xb4r {ks:List KeepD} {sec:Nat} {fs:List DFile} {D:DataW Unit} (hD:MapIs D (look fs)):(fs.map absF).map (setL ks sec (Maps.has D)) = fs.map absF:=by
 conv=>rhs; rw [← List.map_id (fs.map absF)]
 apply List.map_congr_left
 intro a ha
 obtain ⟨f,hf,rfl⟩:=List.mem_map.1 ha
 have h1:=(hD f.nm.data.toList).1
 have h2:(look fs f.nm.data.toList).isSome = true:=by
  rw [xa2d]
  unfold findA
  rw [List.find?_isSome]
  exact ⟨absF f,ha,by simp [absF]⟩
 unfold setL
 rw [show (absF f).nm = f.nm from rfl,h1,h2]
 rfl
theorem xb9m {ks:List KeepD} {sec:Nat} {left:Lit→Bool} {fs gs:List DFile} (hnd:∀ f∈fs,f.nd = true) (hd:Dist (fs.map absF)) (hap:gs.Pairwise Apt) (hg:gs.map absF = (fs.map absF).map (setL ks sec left)) {f:DFile} (hf:f∈gs) (hl:left (.string f.nm.data.toList) = true) (v:Value) :
  (upF gs f.g v (setF ((fstK ks f.nm.data.toList).getD zK) sec (absF f)).bs (setF ((fstK ks f.nm.data.toList).getD zK) sec (absF f)).sy).map absF = (fs.map absF).map (setL ks sec fun z=>left z && !z.sameKey (.string f.nm.data.toList)):=by
 have hnm:(gs.map absF).map DF.nm = (fs.map absF).map DF.nm:=by
  rw [hg,List.map_map]
  apply List.map_congr_left
  intro a _
  exact xa9h _ _ _ _
 have hdg:Dist (gs.map absF):=by rw [xa0x,hnm]; exact (xa0x _).1 hd
 rw [up_abs hap hdg hf,hg]
 unfold upA
 rw [List.map_map]
 apply List.map_congr_left
 intro a ha
 simp only [Function.comp,xa9h]
 by_cases hn:a.nm = f.nm
 ·rw [if_pos hn]
  have h1:setL ks sec left a = a:=by unfold setL; rw [hn,hl]; rfl
  have h2:absF f = a:=by
   have h3:absF f∈(fs.map absF).map (setL ks sec left):=by rw [← hg]; exact List.mem_map.2 ⟨f,hf,rfl⟩
   obtain ⟨b,hb,hbe⟩:=List.mem_map.1 h3
   have h4:b.nm = a.nm:=by rw [hn,← xa9h ks sec left b,hbe]; rfl
   obtain ⟨b0,hb0,rfl⟩:=List.mem_map.1 hb
   obtain ⟨a0,ha0,rfl⟩:=List.mem_map.1 ha
   have h5:b0 = a0:=xc0i hd hb0 ha0 h4
   subst h5
   rw [← hbe,h1]
  have h6:a.nd = true:=by
   obtain ⟨a0,ha0,rfl⟩:=List.mem_map.1 ha
   exact hnd a0 ha0
  rw [h1,h2]
  have hsk:Lit.sameKey (.string f.nm.data.toList) (.string f.nm.data.toList) = true:=WideAt.sameKey_self trivial
  have h7:setL ks sec (fun z=>left z && !z.sameKey (.string f.nm.data.toList)) a = setF ((fstK ks f.nm.data.toList).getD zK) sec a:=by
   unfold setL
   rw [hn]
   simp only [hsk,Bool.not_true,Bool.and_false,Bool.false_eq_true,if_false]
  rw [h7]
  unfold setF
  split <;> (rw [h6])
 ·rw [if_neg hn]
  have h8:Lit.sameKey (.string a.nm.data.toList) (.string f.nm.data.toList) = false:=Maps.sameKey_ne (by intro e; injection e with e; exact hn (ba_ext e))
  unfold setL
  simp only [h8,Bool.not_false,Bool.and_true]
theorem xb4o {A:List DF} {s:List UInt8} (h:findA A s = none):∀ f∈A,f.nm.data.toList≠s:=by
 intro f hf e
 unfold findA at h
 rw [List.find?_eq_none] at h
 exact h f hf (by simp [e])
theorem xa9u {A:List DF} {s:ByteArray} (h:ownA A s = 0):isNm s = true∧findA A s.data.toList = none:=by
 unfold ownA at h
 split at h
 ·rename_i h1
  split at h
  ·cases h
  ·rename_i h2
   exact ⟨h1,by simpa using h2⟩
 ·cases h
theorem opE_le (ft:Int→Option Int) (cr op:Int) (own:Nat) (h:own < 100):opE ft cr op own < 100:=by
 unfold opE
 (repeat' split) <;> omega
theorem xa9z {A:List DF} {s:ByteArray} {F:DF→DF} {y:DF} (h:y∈upA A s F):∃ x∈A,y = x∨(x.nm = s∧y = F x):=by
 unfold upA at h
 obtain ⟨x,hx,rfl⟩:=List.mem_map.1 h
 refine ⟨x,hx,?_⟩
 split
 ·rename_i h1; exact .inr ⟨h1,rfl⟩
 ·exact .inl rfl
theorem xb2n {fs:List DFile} {g:Nat} {v:Value} {bs:List Nat} {sy:Nat} {d m:Nat} {u fv:Value} {x:Nat} (h:x∈dkB d m u fv (upF fs g v bs sy)):x∈dkB d m u fv fs∨x∈blk v:=by
 simp only [dkB,List.mem_cons,List.mem_append,List.mem_flatMap] at h ⊢
 rcases h with h | h | h | ⟨f,hf,h⟩
 ·exact .inl (.inl h)
 ·exact .inl (.inr (.inl h))
 ·exact .inl (.inr (.inr (.inl h)))
 ·obtain ⟨a,ha,rfl⟩:=List.mem_map.1 hf
  rw [xa5j] at h
  unfold upOne at h
  split at h
  ·rcases h with h | h
   ·exact .inl (.inr (.inr (.inr ⟨a,ha,.inl h⟩)))
   ·exact .inr h
  ·exact .inl (.inr (.inr (.inr ⟨a,ha,h⟩)))
theorem dkB_v {d m:Nat} {u fv:Value} {fs:List DFile} {a:DFile} (h:a∈fs) {x:Nat} (hx:x∈blk a.v):x∈dkB d m u fv fs:=by
 simp only [dkB,List.mem_cons,List.mem_append,List.mem_flatMap]
 exact .inr (.inr (.inr ⟨a,h,.inr hx⟩))
theorem nd_nm (A:List DF):(ndA A).map DF.nm = A.map DF.nm:=by unfold ndA; rw [List.map_map]; rfl
theorem xc4t {A:List DF} (h:Dist A):Dist (ndA A):=by rw [xa0x,nd_nm]; exact (xa0x A).1 h
theorem nd_abs (fs:List DFile):(fs.map fun f=>{ f with nd:=true }).map absF = ndA (fs.map absF):=by unfold ndA; rw [List.map_map,List.map_map]; rfl
theorem dkB_nd (d m:Nat) (u fv:Value) (fs:List DFile):∀ x∈dkB d m u fv (fs.map fun f=>{ f with nd:=true }),x∈dkB d m u fv fs:=by
 intro x hx
 simp only [dkB,List.mem_cons,List.mem_append,List.mem_flatMap] at hx ⊢
 rcases hx with h | h | h | ⟨f,hf,h⟩
 ·exact .inl h
 ·exact .inr (.inl h)
 ·exact .inr (.inr (.inl h))
 ·obtain ⟨a,ha,rfl⟩:=List.mem_map.1 hf
  exact .inr (.inr (.inr ⟨a,ha,h⟩))
theorem xa6m {w:World} {base g:Nat} {bs:List Nat} (h:w.heap[g]? = some (.cells (bs.map u8).toArray 5 (0,0))) (hl:bs.length≤140737488355328) (hb:base≤g):w.ownsRow base 5 1 (.slice (some ⟨g,0,none⟩) bs.length bs.length) bs.length (bs.map u8):=by
 refine ⟨by simp,.inr ⟨g,bs.length,_,rfl,hb,h,Nat.le_refl _,by unfold maxLen; omega,by simp,?_⟩⟩
 rw [Nat.mul_one,List.toList_toArray,List.take_of_length_le (by simp)]
structure NwB (w w':World) (v:Value) (bs:List Nat):Prop where
 own:w'.ownsRow w.heap.size 5 1 v bs.length (bs.map u8)
 byte:∀ x∈bs,x < 256
 len:bs.length≤140737488355328
theorem NwB.rd {w w':World} {v:Value} {bs:List Nat} (h:NwB w w' v bs):Rd w' v bs:=xa7t h.own h.byte h.len
theorem read_D (d nb bb:Nat) (B:List Nat) (σ:DSt) (s:ByteArray) (w:World) (h:DK w d B nb bb σ) (hs:s.size≤140737488355328) (hb:bb≤140737488350000) :
  Calls Tryz.prog 14 #[.pointer (some ⟨d,0,none⟩),.string s] w fun e w'=>∃ v,e = .returned (.tuple #[v,.int .i64 ((stRead σ s).2:Nat)])∧NwB w w' v (stRead σ s).1∧Kept [] w w':=by
 obtain ⟨sec,cr,op,off,ft,A⟩:=σ
 obtain ⟨⟨m,u,fv,fs,h1,rfl,hA⟩,h2,h3,h4,h5,h6,h7⟩:=h
 dsimp only at *
 subst hA
 cases off
 ·cases hf:findA (fs.map absF) s.data.toList with
  | none =>
   refine Calls.mono (xb7h d sec m nb s w u fv cr op ft fs h1 hs (xb0e hf)) ?_
   rintro e w' ⟨rfl,rfl⟩
   exact ⟨_,by simp only [stRead,hf]; rfl,by simp only [stRead,hf]; exact ⟨World.ownsRow_nil _ _ _ _,by simp,by simp⟩,Kept.refl _ _⟩
  | some x =>
   obtain ⟨f,hfm,hl,rfl,hnm⟩:=xa6e hf
   have hfl:f.bs.length≤bb:=h5 (absF f) (List.mem_map.2 ⟨f,hfm,rfl⟩)
   refine Calls.mono (xb7l d sec m nb s w u fv cr op ft fs h1 hs f hfm hl (by omega)) ?_
   rintro e w' ⟨rfl,hk,hh⟩
   exact ⟨_,by simp only [stRead,hf]; rfl,by simp only [stRead,hf]; exact ⟨xa6m hh (by omega) (Nat.le_refl _),(h1.files f hfm).2.2.1,by show f.bs.length≤_; omega⟩,hk⟩
 ·refine Calls.mono (xc2m d sec m nb s w u fv cr op ft fs h1) ?_
  rintro e w' ⟨rfl,rfl⟩
  exact ⟨_,rfl,⟨World.ownsRow_nil _ _ _ _,by simp [stRead],by simp [stRead]⟩,Kept.refl _ _⟩
set_option maxHeartbeats 2000000 in
theorem xb1p (d sec m N:Nat) (n:Int) (kv:Value) (ks:List KeepD) (w:World) (u fv:Value) (cr op:Int) (off:Bool) (ft:Int→Option Int) (fs:List DFile)
  (h:DkAt w d sec m N u fv cr op off ft fs) (hd:Dist (fs.map absF)) (hks:RdC 3 w kv (ks.map keC)) (hkd:∀ x∈zblk kv (ks.map keC),x∉dkB d m u fv fs) (hkn:∀ k∈ks,k.nm.size≤140737488355328) (hkl:ks.length≤1000000000) (hfs:fs.length≤1000000000) (hfb:∀ f∈fs,f.bs.length≤140737488350000) (hfn:∀ f∈fs,f.nm.size≤40) (hs1:1≤sec) (hs2:sec≤4096) :
  Calls Tryz.prog 24 #[.pointer (some ⟨d,0,none⟩),.agg #[.int .i64 n,kv]] w fun e w'=>∃ gs,e = .returned (.tuple #[])∧DkAt w' d sec m N (.slice none 0 0) (.map none) 0 0 false (fun _=>none) gs∧gs.map absF = setA ks sec (cutN (wtn n (unA (fs.map absF))).toNat (fs.map absF))∧Kept (dkB d m u fv fs) w w'∧∀ x∈dkB d m (.slice none 0 0) (.map none) gs,x∈dkB d m u fv fs∨w.heap.size≤x:=by
 have k0:=(Kept.refl [] w).alloc (.cells #[.int .i64 n,kv] 37 (0,0))
 have HB0:=hide (heap_alloc_new w (.cells #[.int .i64 n,kv] 37 (0,0)))
 have HDW:=hide h
 have HD:=hide (h.kept k0 (by simp))
 have HKS:=hide (hks.old k0)
 have HK0:=hide k0
 have HLT:=hide h.lt
 have HDI:=hide hd
 have HKD:=hide hkd
 have HKN:=hide hkn
 have HFB:=hide hfb
 have HFN:=hide hfn
 clear h hks k0 hd hkd hkn hfb hfn
 obtain ⟨ka,kl,kc,hkv⟩:∃ ka kl kc,kv = .slice ka kl kc:=by obtain ⟨a,b,c,h1,_⟩:=uh HKS; exact ⟨a,b,c,h1⟩
 subst hkv
 rw [xc3m]
 have HLL:=hide (by unfold unN unL; rw [List.length_map]:(unN fs).length = (unL fs).length)
 have HLE:=hide (Nat.le_trans (List.length_filter_le (fun f:DFile=>!f.nd) fs) hfs:(unL fs).length≤1000000000)
 obtain ⟨L,hL⟩:∃ L,(unL fs).length = L:=⟨_,rfl⟩
 rw [hL] at HLL HLE ⊢
 obtain ⟨k,hk⟩:∃ k:Nat,wtn n (L:Int) = k:=⟨(wtn n (L:Int)).toNat,by unfold wtn; omega⟩
 have hkL:k≤L:=by unfold wtn at hk; omega
 have hwt:=fun x:World=>xa2q n (L:Int) x
 simp only [hk] at hwt
 rw [hk]
 have HWT:=hide hwt
 have HL:=hide hL
 clear hwt hk hL
 obtain ⟨AA,hAA⟩:∃ AA,setA ks sec (cutN (k:Int).toNat (fs.map absF)) = AA:=⟨_,rfl⟩
 rw [hAA]
 have HAA:=hide hAA
 clear hAA
 have hrow:=(uh HD).row
 unfold DRow at hrow
 have HR:=hide hrow
 have d2:=cell_of_row _ _ 2 _ _ _ hrow
 simp at d2
 clear hrow
 obtain ⟨W0,hW0⟩:∃ W,w.alloc (.cells #[.int .i64 n,.slice ka kl kc] 37 (0,0)) = W:=⟨_,rfl⟩
 have HW0:=hide hW0
 rw [hW0] at HB0 HD HKS HK0 HR d2
 clear hW0
 have b0:=cell_of_row _ _ 0 _ _ _ (uh HB0)
 simp at b0
 have hkL2:(k:Int)≤(L:Int):=by omega
 rcases (uh HD).un with ⟨hu1,hu2⟩ | ⟨gu,offu,capu,cur,hu1,hgu,hc1,hc2,hc3,hcell⟩
 case' inl =>
  rw [hu2,List.length_nil] at HLL
  obtain ⟨capu,hcu⟩:∃ C:Nat,C = 0:=⟨0,rfl⟩
  have hu1':u = .slice none L capu:=by rw [hcu,← uh HLL]; exact hu1
  have hc1:L≤capu:=by rw [hcu,← uh HLL]; exact Nat.le_refl _
  have HCU:=hide hcu
  clear hu1 hcu
  subst hu1'
  go_enter Tryz.func24,Tryz.ntmps24
  go_wp2_with (first | (rw [uh HW0]) | fail)
  refine Calls.mono (xa1y d _ sec m _ fv cr op off (uh HD).row) ?_
  rintro e w1 ⟨rfl,rfl⟩
  go_upto_region 2 with fail
  refine wp_region_quiet_lit (by kernel_rfl) (by kernel_rfl) ?_
  repeat (go_big_quiet_step (exact Calls.mono (uh HWT _) (fun e x h=>⟨h.1,_,h.2⟩)))
  refine wpQuiet_nil ?_
  rintro _ ⟨n1,rfl⟩
  obtain ⟨AO,hAO⟩:∃ AO:Option Addr,none = AO:=⟨_,rfl⟩
  rw [show Value.slice none (L - k) (capu - k) = Value.slice AO (L - k) (capu - k) by rw [hAO]]
  have HAO:=hide (fun j v hv=>by
   rw [hu2] at hv
   simp at hv:∀ j v,(unN fs)[k + j]? = some v→∃ b o,AO = some ⟨b,o,none⟩∧w1.cell? ⟨b,o + j,none⟩ = some v∧b≠m)
  clear hAO hu2 HLL HCU
  generalize hU:Value.slice none L capu = U at *
  have HUU:=hide hU
  clear hU hc1
 case' inr =>
  rw [uh HLL] at hu1 hc1
  have HCE:=hide (fun j v hv=>by
   have h9:=cell_of_row _ _ (offu + j) _ _ _ hgu
   rw [hcell j v hv] at h9
   exact h9:∀ j v,(unN fs)[j]? = some v→W0.cell? ⟨gu,offu + j,none⟩ = some v)
  have HGM:=hide (by obtain ⟨n9,D9,ho9,_⟩:=(uh HD).map; exact map_ne ho9 hgu:gu≠m)
  clear hcell hgu hc2 hc3
  subst hu1
  go_enter Tryz.func24,Tryz.ntmps24
  go_wp2_with (first | (rw [uh HW0]) | fail)
  refine Calls.mono (xa1y d _ sec m _ fv cr op off (uh HD).row) ?_
  rintro e w1 ⟨rfl,rfl⟩
  go_upto_region 2 with fail
  refine wp_region_quiet_lit (by kernel_rfl) (by kernel_rfl) ?_
  repeat (go_big_quiet_step (exact Calls.mono (uh HWT _) (fun e x h=>⟨h.1,_,h.2⟩)))
  refine wpQuiet_nil ?_
  rintro _ ⟨n1,rfl⟩
  obtain ⟨AO,hAO⟩:∃ AO,(if capu = k then some ⟨gu,offu,none⟩ else some ⟨gu,offu + k,none⟩:Option Addr) = AO:=⟨_,rfl⟩
  rw [hAO]
  have HAO:=hide (fun j v hv=>by
   have hj:k + j < L:=by rw [← uh HLL]; exact (List.getElem?_eq_some_iff.1 hv).1
   rw [if_neg (by omega)] at hAO
   exact ⟨gu,offu + k,hAO.symm,by rw [Nat.add_assoc]; exact uh HCE (k + j) v hv,uh HGM⟩:∀ j v,(unN fs)[k + j]? = some v→∃ b o,AO = some ⟨b,o,none⟩∧w1.cell? ⟨b,o + j,none⟩ = some v∧b≠m)
  clear hAO HCE HLL HGM
  generalize hU:Value.slice (some ⟨gu,offu,none⟩) L capu = U at *
  have HUU:=hide hU
  clear hU hc1
 all_goals
  obtain ⟨M,hM⟩:∃ M,L - k = M:=⟨_,rfl⟩
  rw [hM]
  have HM:=hide (by rw [List.length_drop,uh HL]; exact hM.symm:M = ((unL fs).drop k).length)
  have hMb:M≤1000000000:=by have:=uh HLE; omega
  generalize capu - k = CP
  clear hM hkL2 d2 b0
  have HDM:=hide (by obtain ⟨n9,D9,ho9,_⟩:=(uh HD).map; exact map_ne ho9 (uh HD).row:d≠m)
  have HFM:=hide (by obtain ⟨n9,D9,ho9,_⟩:=(uh HD).map; exact fun f hf=>map_ne ho9 ((uh HD).files f hf).1:∀ f∈fs,f.g≠m)
  go_wp2_with fail
  go_loopw [25] (fun t25 wr=>∃ (j n2:Nat) (D:DataW Unit),j≤M∧t25 = .int .i64 j∧Hid (wr.ownsMap Tryz.prog 9 ptrElem m n2 D∧n2≤N)∧Hid (MapIs D (delF fs k j))∧Hid (Kept [m] w1 wr)) (fun t _=>M - (intOf t).toNat)
  case atStart =>
   obtain ⟨n2,D,ho,hn,hm⟩:=(uh HD).map
   exact ⟨0,n2,D,Nat.zero_le _,rfl,hide ⟨xa0c ho rfl,hn⟩,hide (by rw [xb7k]; exact hm),hide ((Kept.refl _ _).drewN _)⟩
  case round =>
   obtain ⟨j,n2,D,hj,rfl,HO,HMI,HK⟩:=hrel
   by_cases hlt:j < M
   ·have hlt':(j:Int) < (M:Int):=by omega
    have hlt2:j < ((unL fs).drop k).length:=by rw [← uh HM]; exact hlt
    have hX:(unN fs)[k + j]? = some (.pointer (some ⟨(((unL fs).drop k)[j]'hlt2).g,0,none⟩)):=by
     have h9:unN fs = (unL fs).map fun f=>.pointer (some ⟨f.g,0,none⟩):=rfl
     rw [h9,List.getElem?_map,← List.getElem?_drop,List.getElem?_eq_getElem hlt2]
     rfl
    obtain ⟨b,o,rfl,hc,hbm⟩:=uh HAO j _ hX
    have c0:=(uh HK).cell hc (by simpa using hbm)
    have HXM:=hide (by
     have:=List.mem_of_mem_drop (List.getElem_mem hlt2)
     exact (List.mem_filter.1 this).1:((unL fs).drop k)[j]'hlt2∈fs)
    have HDS:=hide (xb7z hlt2)
    clear hc hX hbm
    generalize ((unL fs).drop k)[j]'hlt2 = X at c0 HXM HDS
    clear hlt2
    have hrw:=(uh HK).heap (uh HR) (by simpa using uh HDM)
    have c1:=cell_of_row _ _ 1 _ _ _ hrw
    simp at c1
    have hfw:=(uh HK).heap ((uh HD).files X (uh HXM)).1 (by simpa using uh HFM X (uh HXM))
    have f0:=cell_of_row _ _ 0 _ _ _ hfw
    simp at f0
    have HKEY:=hide (WideMaps.keyOf_string_mk Tryz.underlying9 (s:=X.nm) (by have:=uh HFN X (uh HXM); unfold maxLen; omega))
    clear hrw hfw
    go_upto_region 5 with fail
    refine xa0g 8 (by kernel_rfl) (by kernel_rfl) ?_
    simp only [List.take_succ_cons,List.take_zero,List.drop_succ_cons,List.drop_zero]
    repeat (go_big_quiet_step (fail))
    refine wpQuiet_nil ?_
    rintro _ ⟨n5,rfl⟩
    at_delete
    refine wpList_delete_own _ rfl _ _ 106 9 rfl 114 keyS Tryz.underlying106 ptrElem m n2 D rfl (xa0c (uh HO).1 rfl) (.string X.nm) _ rfl (uh HKEY) ?_
    intro w2 hown2 hturn2
    have HO2:=hide (And.intro hown2 (uh HO).2)
    have HK2:=hide (((uh HK).drewN n5).grown hturn2.grown (by intro k9 hk9; injection hk9 with hk9; subst hk9; simp))
    clear hown2 hturn2 c0 c1 f0
    go_wp2_with fail
    refine ⟨⟨j + 1,n2,_,by omega,by simp,HO2,hide ?_,HK2⟩,?_⟩
    ·rw [← uh HDS]
     exact (uh HMI).del _
    ·simp [intOf]; omega
   ·have hlt':¬ (j:Int) < (M:Int):=by omega
    have hje:j = M:=by omega
    subst hje
    rw [uh HM,xc1j fs k (uh HDI)] at HMI
    have hrw:=(uh HK).heap (uh HR) (by simpa using uh HDM)
    have HU2:=hide ((uh HD).un.kept (uh HK) (by intro x hx hm; simp only [List.mem_singleton] at hm; subst hm; exact Qr.notMap (uh HD).un (uh HD).map.choose_spec.choose_spec.1 hx))
    have HF2:=hide (fun f hf=>((uh HD).files f hf).kept (uh HK) (by simpa using uh HFM f hf) (by
     intro x hx hm
     simp only [List.mem_singleton] at hm
     subst hm
     obtain ⟨cs,hc⟩:=xa0b ((uh HD).files f hf).2.1 hx
     exact map_ne (uh HD).map.choose_spec.choose_spec.1 hc rfl):∀ f∈fs,FileAt wr f)
    have HR2:=hide hrw
    clear hrw
    go_wp2_with fail
    refine Calls.mono (xb9a d sec (.map (some m)) _ U fv cr op off fs (uh HR2) (uh HU2) (uh HF2) (uh HD).apart hfs) ?_
    rintro e w3 ⟨rfl,hr3,hf3,hk3⟩
    have HD3:=hide ((uh HD).struck (uh HK) hk3 (uh HO).1 (uh HO).2 (uh HMI) hr3 hf3)
    have HKA:=hide (((uh HK0).mono (M:=dkB d m U fv fs) (by simp)).trans (uh HK) (by intro x hx; simp only [List.mem_singleton] at hx; subst hx; left; simp [dkB]))
    have HKB:=hide ((uh HKA).trans hk3 (by
     intro x hx
     left
     simp only [List.mem_cons,List.mem_map] at hx
     rcases hx with rfl | ⟨f,hf,rfl⟩
     ·simp [dkB]
     ·exact dkB_g hf))
    have HBX:=hide ((uh HK).heap (uh HB0) (by
     simp only [List.mem_singleton]
     intro e9
     have:=uh HLT m (by simp [dkB])
     omega))
    have hb3:=hk3.heap (uh HBX) (by
     intro hx
     have:w.heap.size∈dkB d m U fv fs:=by
      simp only [List.mem_cons,List.mem_map] at hx
      rcases hx with hx | ⟨f,hf,hx⟩
      ·rw [hx]; simp [dkB]
      ·rw [← hx]; exact dkB_g hf
     have:=uh HLT _ this
     omega)
    have HKS3:=hide (((uh HKS).keptZ (uh HK) (by intro x hx hm; simp only [List.mem_singleton] at hm; subst hm; exact uh HKD _ hx (by simp [dkB]))).keptZ hk3 (by
     intro x hx hm
     refine uh HKD x hx ?_
     simp only [List.mem_cons,List.mem_map] at hm
     rcases hm with rfl | ⟨f,hf,rfl⟩
     ·simp [dkB]
     ·exact dkB_g hf))
    have b1:=cell_of_row _ _ 1 _ _ _ hb3
    simp at b1
    have HR3:=hide hr3
    have HO3:=hide (xa0c (uh HO).1 (hk3.block m (uh HO).1.lt (by
     intro hx
     simp only [List.mem_cons,List.mem_map] at hx
     rcases hx with hx | ⟨f,hf,hx⟩
     ·exact uh HDM hx.symm
     ·exact uh HFM f hf hx)))
    clear hr3 hf3 hk3 hb3 HR2 HU2 HF2 HBX
    go_wp2_with fail
    refine Calls.mono (xa5w _ ks _ (uh HKS3) (uh HKN) hkl) ?_
    rintro e w4 ⟨kb,kn,KD,rfl,hkb,hko,hkm,hk4⟩
    have HKO:=hide hko
    have HKM:=hide hkm
    have HD4:=hide ((uh HD3).kept hk4 (by simp))
    have HO4:=hide (xa0c (uh HO3) (hk4.block m (uh HO3).lt (by simp)))
    have HKC:=hide ((uh HKB).trans hk4 (by simp))
    have d1:=cell_of_row _ _ 1 _ _ _ (uh HD4).row
    simp at d1
    clear hko hkm hk4 b1 hkb
    go_wp2_with (at_range; refine wpList_range_own _ rfl _ 106 rfl 9 114 keyS Tryz.underlying106 ptrElem m n2 D rfl (uh HO4) ?_; intro w5 hrg5 hg5 hs5)
    go_frame
    obtain ⟨F2,hF2⟩:∃ F2,(keepD k fs).map (fun f=>{ f with nd:=true }) = F2:=⟨_,rfl⟩
    have HND:=hide (by rw [← hF2]; intro f hf; obtain ⟨a,_,rfl⟩:=List.mem_map.1 hf; rfl:∀ f∈F2,f.nd = true)
    have HBL:=hide (by rw [← hF2]; intro f hf; obtain ⟨a,ha,rfl⟩:=List.mem_map.1 hf; exact uh HFB a ((xa2e fs k).subset ha):∀ f∈F2,f.bs.length≤140737488350000)
    have HNL:=hide (by rw [← hF2]; intro f hf; obtain ⟨a,ha,rfl⟩:=List.mem_map.1 hf; exact uh HFN a ((xa2e fs k).subset ha):∀ f∈F2,f.nm.size≤40)
    have HDF:=hide (by
     rw [← hF2,xa0x,List.map_map,List.map_map]
     have h9:=((xa0x _).1 (uh HDI))
     rw [List.map_map] at h9
     exact h9.sublist ((xa2e fs k).map _):Dist (F2.map absF))
    have HAF:=hide (fun left hl=>by rw [← hF2]; exact (xc2n ks sec left hl k fs).trans (uh HAA):∀ left:Lit→Bool,(∀ kl,left kl = false)→(F2.map absF).map (setL ks sec left) = AA)
    have HBF:=hide (by rw [← hF2]; exact fun x hx=>xb5z x hx:∀ x∈dkB d m (.slice none 0 0) fv F2,x∈dkB d m U fv fs)
    have HLK:=hide (by rw [← hF2,xb4p]; exact uh HMI:MapIs D (look F2))
    rw [hF2] at HD3 HD4
    clear hF2 HAA d1
    have HS4:=hide (uh HKC).size
    go_loopw [48] (fun _ wr=>∃ (left:Lit→Bool) (cnt:Nat) (gs:List DFile),Hid (wr.ranges Tryz.prog 9 ptrElem m w4.heap.size n2 D left cnt)∧Hid (DkAt wr d sec m N (.slice none 0 0) fv cr op off ft gs)∧Hid (gs.map absF = (F2.map absF).map (setL ks sec left))∧Hid (gs.map (fun f=>(f.nm,f.g)) = F2.map (fun f=>(f.nm,f.g)))∧Hid (wr.ownsMap Tryz.prog 9 keepElem kb kn KD)∧Hid (Kept (dkB d m U fv fs) w4 wr)∧Hid (∀ x∈dkB d m (.slice none 0 0) fv gs,x∈dkB d m U fv fs∨w4.heap.size≤x)) (fun _ wr=>wr.rangeLeft m w4.heap.size)
    case atStart =>
     have k5:Kept [] w4 w5:=(Kept.refl [] w4).grown hg5 (by intro k9 hk9; cases hk9)
     exact ⟨_,_,F2,hide hrg5,hide ((uh HD4).kept k5 (by simp)),hide (xb4r (uh HLK)).symm,hide rfl,hide (xa0c (uh HKO) (k5.block kb (uh HKO).lt (by simp))),hide (k5.mono (by simp)),hide (fun x hx=>.inl (uh HBF x hx))⟩
    case round =>
     clear hrg5 hg5 hs5
     obtain ⟨left,cnt,gs,HRG,HG,HGA,HGK,HKO5,HKW,HBN⟩:=hrel
     go_wp2_with (at_next; refine wpList_next_ranges _ rfl _ rfl 9 keyS ptrElem Value.string ptrO (fun key kl hk=>by obtain ⟨x,hx,_⟩:=xa2t hk; exact ⟨x,hx⟩) (fun v y hv=>by rcases xa1m hv with ⟨rfl,_⟩ | ⟨g,rfl,_⟩; exact ⟨none,rfl⟩; exact ⟨some g,rfl⟩) m w4.heap.size n2 D left cnt rfl (uh HRG) ?_ ?_)
     ·intro hc0 hl0
      have hrow:=(uh HG).row
      unfold DRow at hrow
      have e3:=cell_of_row _ _ 3 _ _ _ hrow
      have e4:=cell_of_row _ _ 4 _ _ _ hrow
      have e5:=cell_of_row _ _ 5 _ _ _ hrow
      have e6:=cell_of_row _ _ 6 _ _ _ hrow
      simp at e3 e4 e5 e6
      have z3:=frozen_of_row _ _ 3 _ _ hrow
      have z4:=frozen_of_row _ _ 4 _ _ hrow
      have z5:=frozen_of_row _ _ 5 _ _ hrow
      have z6:=frozen_of_row _ _ 6 _ _ hrow
      have HRW:=hide hrow
      have HL0:=hide hl0
      clear hrow hl0 hc0
      go_wp2_with fail
      have kS:Kept [d] wr ((((wr.setCell ⟨d,3,none⟩ (.map none)).setCell ⟨d,4,none⟩ (.int .i64 0)).setCell ⟨d,5,none⟩ (.int .i64 0)).setCell ⟨d,6,none⟩ (.bool false)):=((((Kept.refl [d] wr).setCell (p:=⟨d,3,none⟩) (.inl (by simp)) _).setCell (p:=⟨d,4,none⟩) (.inl (by simp)) _).setCell (p:=⟨d,5,none⟩) (.inl (by simp)) _).setCell (p:=⟨d,6,none⟩) (.inl (by simp)) _
      have hr9:=heap_setCell_same _ _ 6 _ _ (.bool false) (heap_setCell_same _ _ 5 _ _ (.int .i64 0) (heap_setCell_same _ _ 4 _ _ (.int .i64 0) (heap_setCell_same wr _ 3 _ _ (.map none) (uh HRW))))
      have hU9:=uh HUU
      clear HUU
      subst hU9
      refine bodyPost_end (v:=.tuple #[]) (results_none rfl _ _ _) rfl ⟨gs,rfl,(uh HG).turnedF kS hr9 (.inl ⟨rfl,fun _=>rfl⟩) (by simp [mblk]),(uh HGA).trans (uh HAF left (uh HL0)),((uh HKC).trans (uh HKW) (fun x hx=>.inl hx)).trans kS (by intro x hx; simp only [List.mem_singleton] at hx; subst hx; left; simp [dkB]),?_⟩
      intro x hx
      have h8:x∈dkB d m (.slice none 0 0) fv gs:=by
       simp only [dkB,mblk,List.mem_cons,List.mem_append,List.mem_flatMap,List.not_mem_nil,or_false] at hx ⊢
       rcases hx with h | h | h | h
       ·exact .inl h
       ·exact .inr (.inl h)
       ·exact .inr (.inr (.inl (.inl h)))
       ·exact .inr (.inr (.inr h))
      rcases uh HBN x h8 with h9 | h9
      ·exact .inl h9
      ·exact .inr (by have:=uh HS4; omega)
     ·intro x c kl yd yp w2 cnt2 hkey hlk hv hat hrg2 hlt2 hg2 hs2 hen
      obtain ⟨x',ex,rfl⟩:=xa2t hkey
      injection ex with ex
      subst ex
      obtain ⟨g,hlg,rfl⟩:∃ g,look F2 x.data.toList = some g∧c = some g:=by
       have h1:=(uh HLK x.data.toList).2
       cases hl:look F2 x.data.toList with
       | none =>
        rw [hl] at h1
        have h2:=(h1 .nil).symm.trans (hat .nil)
        have h3:=(h1 (.lit (.bool true))).symm.trans (hat (.lit (.bool true)))
        rw [← h2] at h3
        cases h3
       | some g =>
        rw [hl] at h1
        have h2:=(h1 .nil).symm.trans (hat .nil)
        refine ⟨g,rfl,?_⟩
        rcases xa1m hv with ⟨h4,h5⟩ | ⟨g',h4,h5⟩
        ·rw [(Prod.mk.inj h5).1] at h2; cases h2
        ·rw [(Prod.mk.inj h5).1] at h2
         simp at h2
         have h6:g' = g:=by omega
         subst h6
         cases c with
         | none=>simp [ptrO] at h4
         | some c=>simp [ptrO] at h4; rw [h4]
      obtain ⟨f,hfm,hfg,hfn⟩:=xc0z (by rw [xb1u (uh HGK)]; exact hlg:look gs x.data.toList = some g)
      have hfx:=ba_ext hfn
      subst hfx hfg
      have hit:=xa4w (uh HRG)
      have k2:Kept [w4.heap.size] wr w2:=(Kept.refl _ wr).grown hg2 (by intro k9 hk9; injection hk9 with hk9; subst hk9; simp)
      have HG2:=hide ((uh HG).kept k2 (by intro x9 hx9 hm9; simp only [List.mem_singleton] at hm9; subst hm9; exact (uh HG).noIter hit hx9))
      have HKO2:=hide (xa0c (uh HKO5) (k2.block kb (uh HKO5).lt (by
       simp only [List.mem_singleton]
       intro e9
       obtain ⟨a1,a2,a3,a4,hit⟩:=hit
       obtain ⟨es,ck,he,_⟩:=uh HKO5
       rw [e9,hit] at he
       cases he)))
      have HKW2:=hide ((uh HKW).trans k2 (by intro x9 hx9; simp only [List.mem_singleton] at hx9; subst hx9; exact .inr (Nat.le_refl _)))
      have HRG2:=hide hrg2
      have HLK2:=hide hlk
      have HLT2:=hide hlt2
      have HFM2:=hide hfm
      have hkey2:=WideMaps.keyOf_string_mk Tryz.underlying9 (s:=f.nm) (by
       have h9:f.nm∈F2.map (fun f=>f.nm):=by
        have h10:=congrArg (List.map Prod.fst) (uh HGK)
        rw [List.map_map,List.map_map] at h10
        show f.nm∈List.map (Prod.fst ∘ fun f=>(f.nm,f.g)) F2
        rw [← h10]
        exact List.mem_map.2 ⟨f,hfm,rfl⟩
       obtain ⟨a,ha,hae⟩:=List.mem_map.1 h9
       have:=uh HNL a ha
       rw [← hae]
       unfold maxLen
       omega)
      have hlook:=fun j:Nat=>xb8v (xa0c (w':=w2.drewN j) (uh HKO2) rfl) (uh HKM) f.nm hkey2
      obtain ⟨K,hK⟩:∃ K,(fstK ks f.nm.data.toList).getD zK = K:=⟨_,rfl⟩
      rw [hK] at hlook
      have HKK:=hide hK
      have hBF:f.bs.length≤140737488350000:=by
       have h3:absF f∈(F2.map absF).map (setL ks sec left):=by rw [← uh HGA]; exact List.mem_map.2 ⟨f,hfm,rfl⟩
       obtain ⟨b,hb,hbe⟩:=List.mem_map.1 h3
       obtain ⟨b0,hb0,rfl⟩:=List.mem_map.1 hb
       have h4:(absF b0).nm = f.nm:=by rw [← xa9h ks sec left (absF b0),hbe]; rfl
       have h5:setL ks sec left (absF b0) = absF b0:=by unfold setL; rw [h4,hlk]; rfl
       rw [h5] at hbe
       have h6:=uh HBL b0 hb0
       have h7:b0.bs = f.bs:=congrArg DF.bs hbe
       rw [← h7]
       exact h6
      have s0:=cell_of_row _ _ 0 _ _ _ (uh HG2).row
      simp at s0
      clear hkey2 hK hfn hlg hat hv hkey hrg2 hg2 hs2 hlt2 hlk k2 hit hfm
      simp only [ptrO,Option.map_some] at hen ⊢
      go_upto_region 12 with fail
      refine xa0g 8 (by kernel_rfl) (by kernel_rfl) ?_
      simp only [List.take_succ_cons,List.take_zero,List.drop_succ_cons,List.drop_zero]
      repeat (go_big_quiet_step (fail))
      refine wpQuiet_nil ?_
      rintro _ ⟨n9,rfl⟩
      go_wp2_with fail
      refine Calls.mono (xb5m f _ K sec ((uh HG2).files f (uh HFM2)) hBF hs1 hs2) ?_
      rintro e w6 ⟨v',rfl,hf6,hk6,hv6⟩
      have HF6:=hide hf6
      have HK6:=hide hk6
      have HV6:=hide hv6
      clear hf6 hk6 hv6 hlook s0 hen
      go_wp2_with fail
      have hfile:=(uh HG2).files f (uh HFM2)
      have hmo:m∉f.g :: blk f.v:=by
       obtain ⟨n7,D7,ho7,_⟩:=(uh HG2).map
       intro hx
       rcases List.mem_cons.1 hx with hx | hx
       ·exact map_ne ho7 hfile.1 hx.symm
       ·obtain ⟨cs,hc⟩:=xa0b hfile.2.1 hx
        exact map_ne ho7 hc rfl
      have hin:∀ x∈f.g :: blk f.v,x∈dkB d m (.slice none 0 0) fv gs:=by
       intro x hx
       rcases List.mem_cons.1 hx with rfl | hx
       ·exact dkB_g (uh HFM2)
       ·exact dkB_v (uh HFM2) hx
      have hro:w4.heap.size∉f.g :: blk f.v:=fun hx=>(uh HG2).noIter (xa4w (uh HRG2)) (hin _ hx)
      have k6:Kept (f.g :: blk f.v) w2 w6:=((Kept.refl _ w2).drewN n9).trans (uh HK6) (fun x hx=>.inl hx)
      have hrgN:=xa5c (uh HRG2) (k6.block m (uh HRG2).owns.lt hmo) (k6.block w4.heap.size (uh HRG2).lt hro)
      have hkoN:w6.ownsMap Tryz.prog 9 keepElem kb kn KD:=xa0c (uh HKO2) (k6.block kb (uh HKO2).lt (by
       intro hx
       rcases List.mem_cons.1 hx with hx | hx
       ·exact map_ne (uh HKO2) hfile.1 hx.symm
       ·obtain ⟨cs,hc⟩:=xa0b hfile.2.1 hx
        exact map_ne (uh HKO2) hc rfl))
      have hd2:=((uh HG2).kept ((Kept.refl [] w2).drewN n9) (by simp)).upd (uh HFM2) (uh HK6) (uh HF6) (uh HV6)
      refine ⟨⟨_,cnt2,_,hide hrgN,hide hd2,hide ?_,hide ((xc5n _ _ _ _ _).trans (uh HGK)),hide hkoN,hide ((uh HKW2).trans k6 ?_),hide ?_⟩,?_⟩
      ·have h9:=xb9m (ks:=ks) (sec:=sec) (left:=left) (uh HND) (uh HDF) (uh HG).apart (uh HGA) (uh HFM2) (uh HLK2) v'
       rw [uh HKK] at h9
       exact h9
      ·intro x hx
       exact uh HBN x (hin x hx)
      ·intro x hx
       rcases xb2n hx with h9 | h9
       ·exact uh HBN x h9
       ·rcases uh HV6 x h9 with h10 | h10
        ·exact uh HBN x (dkB_v (uh HFM2) h10)
        ·exact .inr (Nat.le_trans (uh HKW2).size h10)
      ·rw [hrgN.left_eq,(uh HRG).left_eq]
       exact uh HLT2
set_option maxHeartbeats 1000000 in
theorem xb1y (w:World):Calls Tryz.prog 176 #[.slice none 0 0,.int .i64 0,.int .i64 0] w fun e w'=>e = .returned (.tuple #[])∧w' = w:=by
 go_enter Tryz.func176,Tryz.ntmps176
 go_wp2_with fail
 go_loopw [6] (fun t wr=>t = .int .i64 1∧wr = w) (fun _ _=>0)
 case atStart=>exact ⟨rfl,rfl⟩
 case round =>
  obtain ⟨rfl,rfl⟩:=hrel
  go_wp2_with fail
  exact bodyPost_end (v:=.tuple #[]) (results_none rfl _ _ _) rfl ⟨rfl,rfl⟩
set_option maxHeartbeats 1000000 in
theorem xc3w (k:Int) (w:World):Calls Tryz.prog 129 #[.slice none 0 0,.int .i64 0,.int .i64 0,.int .i64 k] w fun e w'=>e = .returned (.tuple #[])∧w' = w:=by
 go_enter Tryz.func129,Tryz.ntmps129
 go_wp2_with fail
 go_loopw [1,2] (fun t1 t2 wr=>t1 = .int .i64 0∧t2 = .int .i64 0∧wr = w) (fun _ _ _=>0)
 case atStart=>exact ⟨rfl,rfl,rfl⟩
 case round =>
  obtain ⟨rfl,rfl,rfl⟩:=hrel
  go_wp2_with fail
  refine Calls.mono (xb1y _) ?_
  rintro e w1 ⟨rfl,rfl⟩
  go_wp2_with fail
  exact bodyPost_ret (v:=.tuple #[]) (results_none rfl _ _ _) rfl ⟨rfl,rfl⟩
set_option maxHeartbeats 1000000 in
theorem xc1r (w:World):Calls Tryz.prog 82 #[.slice none 0 0] w fun e w'=>e = .returned (.tuple #[])∧w' = w:=by
 go_enter Tryz.func82,Tryz.ntmps82
 go_wp2_with fail
 refine Calls.mono (Tryz.bits_Len 0 w (by omega) (by omega)) ?_
 rintro e w1 ⟨rfl,rfl⟩
 go_wp2_with fail
 refine Calls.mono (xc3w _ _) ?_
 rintro e w1 ⟨rfl,rfl⟩
 go_wp2_with fail
 exact bodyPost_end (v:=.tuple #[]) (results_none rfl _ _ _) rfl ⟨rfl,rfl⟩
end
section
open Go.RowKit Go.BigFrame Go.Maps Go.Sort
def srtN (A:List DF):List (List UInt8):=(A.map fun f=>f.nm.data.toList).mergeSort fun x y=>decide (x≤y)
theorem xb1s {A:List DF} (h:Dist A):(A.map fun f=>f.nm.data.toList).Nodup:=by
 unfold List.Nodup
 rw [List.pairwise_map]
 exact List.Pairwise.imp (fun hab e=>hab (ba_ext e)) h
theorem xb9k (fs:List DFile) (x:List UInt8):(look fs x).isSome = true↔x∈(fs.map absF).map fun f=>f.nm.data.toList:=by
 rw [xa2d]
 unfold findA
 rw [List.find?_isSome,List.mem_map]
 constructor
 ·rintro ⟨a,ha,h⟩
  exact ⟨a,ha,by simpa using h⟩
 ·rintro ⟨a,ha,h⟩
  exact ⟨a,ha,by simpa using h⟩
theorem xb8c {fs:List DFile} {D:DataW Unit} {left:Lit→Bool} {ss:List (List UInt8)} (hD:MapIs D (look fs)) (hd:Dist (fs.map absF)) (hC:Collected D left ss) (hl:∀ kl,left kl = false):ss.mergeSort (fun x y=>decide (x≤y)) = srtN (fs.map absF):=by
 have hp:ss.Perm ((fs.map absF).map fun f=>f.nm.data.toList):=by
  rw [List.perm_ext_iff_of_nodup hC.1 (xb1s hd)]
  intro x
  rw [hC.2 x,hl,(hD x).1,xb9k]
  simp
 exact mergeSort_of_perm hp
set_option maxHeartbeats 2000000 in
theorem xb5t (d sec m N:Nat) (w:World) (u fv:Value) (cr op:Int) (off:Bool) (ft:Int→Option Int) (fs:List DFile) (h:DkAt w d sec m N u fv cr op off ft fs) (hd:Dist (fs.map absF)) (hN:N≤1000000000) :
  Calls Tryz.prog 44 #[.pointer (some ⟨d,0,none⟩)] w fun e w'=>∃ v,e = .returned v∧w'.ownsRow w.heap.size 9 1 v (srtN (fs.map absF)).length ((srtN (fs.map absF)).map encStr)∧Kept [] w w':=by
 obtain ⟨n,D,hown,hn,hD⟩:=h.map
 have HO:=hide hown
 have HD:=hide hD
 have HDI:=hide hd
 have hrow:=h.row
 unfold DRow at hrow
 have c1:=cell_of_row _ _ 1 _ _ _ hrow
 simp at c1
 have HSZ:=hide (Nat.le_trans hown.size_le hn)
 clear hown hD hrow hd h
 obtain ⟨i0,hi,hz0,hz1,hz2⟩:=info_parts (show (Tryz.prog.info? 9).map (fun i=>(i.zero,i.size,i.bytes)) = some (some (.string ⟨#[]⟩),1,16) by kernel_rfl)
 have HI:=hide hi
 have HZ0:=hide hz0
 have HZ1:=hide hz1
 have HZ2:=hide hz2
 clear hi hz0 hz1 hz2
 go_enter Tryz.func44,Tryz.ntmps44
 go_wp2_with (at_range; refine wpList_range_own _ rfl _ 106 rfl 9 114 keyS Tryz.underlying106 ptrElem m n D rfl (uh HO) ?_; intro w0 hrg0 hg0 hs0)
 go_frame
 go_loopw [3] (fun v wr=>∃ (left:Lit→Bool) (cnt:Nat) (ss:List (List UInt8)),Hid (wr.ranges Tryz.prog 9 ptrElem m w.heap.size n D left cnt)∧ss.length + cnt≤Maps.size D∧Hid (wr.ownsRow w.heap.size 9 1 v ss.length (ss.map encStr))∧Hid (Collected D left ss)∧Hid (Kept [] w wr)) (fun _ wr=>wr.rangeLeft m w.heap.size)
 case atStart=>exact ⟨_,_,[],hide hrg0,by simp,hide (World.ownsRow_nil _ _ _ _),hide (Collected.start D),hide ((Kept.refl [] w).grown hg0 (by intro k hk; cases hk))⟩
 case round =>
  clear hrg0 hg0 hs0
  obtain ⟨left,cnt,ss,HRG,hcs,HOW,HC,HK⟩:=hrel
  go_wp2_with (at_next; refine wpList_next_ranges _ rfl _ rfl 9 keyS ptrElem encStr ptrO (fun key kl hk=>by obtain ⟨x,rfl,_⟩:=xa2t hk; exact ⟨x.data.toList,rfl⟩) (fun v y hv=>by rcases xa1m hv with ⟨rfl,_⟩ | ⟨g,rfl,_⟩; exact ⟨none,rfl⟩; exact ⟨some g,rfl⟩) m w.heap.size n D left cnt rfl (uh HRG) ?_ ?_)
  ·intro hc0 hl0
   have HSE:=hide (xb8c (uh HD) (uh HDI) (uh HC) hl0)
   rcases (uh HOW).2 with ⟨rfl,hln⟩ | ⟨g,cap,cur,rfl,hbase,hb,h1,h2,h3,h4⟩
   ·have hss:ss = []:=List.eq_nil_of_length_eq_zero hln
    subst hss
    clear hl0 hc0 c1
    go_wp2_with fail
    refine Calls.mono (xc1r _) ?_
    rintro e w1 ⟨rfl,rfl⟩
    go_wp2_with fail
    go_ret
    rw [← uh HSE,show ([]:List (List UInt8)).mergeSort (fun x y=>decide (x≤y)) = [] by simp]
    exact ⟨_,rfl,World.ownsRow_nil _ _ _ _,uh HK⟩
   ·have hH:Holds encStr wr g 0 ss.toArray:=holds_of_block hb (by simpa using h4)
    have hgl:g < wr.heap.size:=(Array.getElem?_eq_some_iff.1 hb).1
    have hsort:=Tryz.slices_Sort_string g 0 cap ss wr hH hgl (by have:=uh HSZ; omega)
    have HB:=hide hb
    have HS:=hide hsort
    clear hl0 hc0 c1 hb hH hsort h4
    go_wp2_with fail
    refine Calls.mono (uh HS) ?_
    rintro e w' ⟨rfl,nn,os,rfl⟩
    go_wp2_with fail
    go_ret
    rw [← uh HSE]
    refine ⟨_,rfl,?_,(uh HK).grown (grownBy_sorted _) (by intro k hk; injection hk with hk; subst hk; exact .inr hbase)⟩
    rw [List.length_mergeSort]
    exact ownsRow_sorted (by simp) hbase (uh HB) h1 h2 h3
  ·intro x c kl yd yp w2 cnt2 hkey hlk hv hat hrg2 hlt hg2 hs2 hen
   obtain ⟨x',ex,rfl⟩:=xa2t hkey
   obtain rfl:x = x'.data.toList:=by
    have:encStr x = Value.string ⟨⟨x⟩⟩:=rfl
    rw [this] at ex
    injection ex with ex
    rw [← ex]
   have hrow2:=(uh HOW).kept hg2 (Or.inr (row_ne_iter (uh HOW) (uh HRG)).symm)
   have HRG2:=hide hrg2
   have HR2:=hide hrow2
   have HK2:=hide ((uh HK).grown hg2 (by intro k hk; injection hk with hk; subst hk; exact .inr (Nat.le_refl _)))
   have HCS:=hide ((uh HC).step hlk hat)
   have HLT:=hide hlt
   clear hrow2 hrg2 hg2 hs2 hlk hat hkey hv hlt ex
   go_wp2_with (at_builtin; refine wpList_append_own_at _ rfl _ _ 47 rfl w.heap.size 9 i0 (.string ⟨#[]⟩) 1 16 Tryz.underlying47 (uh HI) (uh HZ0) (uh HZ1) (uh HZ2) rfl (by decide) _ _ _ rfl ((uh HR2).alloc _) ⟨w2.heap.size,0,none⟩ 1 1 [encStr x'.data.toList] rfl rfl (cell_one_new _ _ _) (by simp [Value.oneCell',encStr]) (by have:=uh HSZ; unfold maxLen; omega) (by have:=uh HSZ; omega) (by have:=(uh HK2).size; simp; omega) ?_; intro v' w3 hown' hg3 hnil3 hat3; have HOW3:=hide hown'; have HG3:=hide hg3; clear hown' hg3 hnil3 hat3)
   have hrg3:=xa5c ((uh HRG2).alloc _) ((uh HG3).block m (by have:=(uh HRG2).owns.lt; simp; omega) (row_ne_low (uh HR2) (uh HO).lt)) ((uh HG3).block w.heap.size (by have:=(uh HRG2).lt; simp; omega) (row_ne_iter (uh HR2) (uh HRG2)))
   have hk3:=((uh HK2).alloc (.cells #[encStr x'.data.toList] 9 (0,0))).grown (uh HG3) (by intro k hk; exact .inr ((uh HR2).lt k hk).1)
   refine ⟨⟨_,cnt2,ss++[x'.data.toList],hide hrg3,by have:=uh HLT; simp; omega,hide (by simpa using uh HOW3),HCS,hide hk3⟩,?_⟩
   rw [hrg3.left_eq,(uh HRG).left_eq]
   exact uh HLT
theorem xa4b (A:List DF):∀ k,(cutN k A).Sublist A:=by
 induction A with
 | nil=>intro k; simp [cutN]
 | cons f r ih =>
  intro k
  cases hn:f.nd
  ·cases k with
   | zero=>rw [show cutN 0 (f :: r) = cutN 0 r by simp [cutN,hn]]; exact (ih 0).cons _
   | succ k=>rw [show cutN (k + 1) (f :: r) = f :: cutN k r by simp [cutN,hn]]; exact (ih k).cons_cons _
  ·rw [show cutN k (f :: r) = f :: cutN k r by cases k <;> simp [cutN,hn]]; exact (ih k).cons_cons _
theorem xc2h (k:KeepD) (sec:Nat) (f:DF) (hs:1≤sec) (hs2:sec≤4096):(setF k sec f).bs.length≤f.bs.length + 4096:=by
 unfold setF
 split
 ·simp only [List.length_append,List.length_take,List.length_replicate]
  have:tse (setN k f) sec < sec:=Nat.mod_lt _ (by omega)
  omega
 ·simp only [List.length_take]
  omega
theorem xc2o {A C:List DF} (h:C.Sublist A) (hd:Dist A):Dist C:=hd.sublist h
theorem xc5k (ks:List KeepD) (sec:Nat) (A:List DF):(setA ks sec A).map DF.nm = A.map DF.nm:=by
 unfold setA
 rw [List.map_map]
 apply List.map_congr_left
 intro a _
 exact xb3d _ _ _
theorem xb8l (d nb bb:Nat) (B:List Nat) (σ:DSt) (n:Int) (kv:Value) (ks:List KeepD) (w:World) (h:DK w d B nb bb σ) (hn:nb≤1000000000) (hb:bb≤140737488350000) (hks:RdC 3 w kv (ks.map keC)) (hkd:∀ x∈zblk kv (ks.map keC),x∉B) (hkn:∀ k∈ks,k.nm.size≤140737488355328) (hkl:ks.length≤1000000000) :
  Calls Tryz.prog 24 #[.pointer (some ⟨d,0,none⟩),.agg #[.int .i64 n,kv]] w fun e w'=>∃ B',e = .returned (.tuple #[])∧DK w' d B' nb (bb + 4096) (stRestart σ n ks)∧Ev w w' B B':=by
 obtain ⟨sec,cr,op,off,ft,A⟩:=σ
 obtain ⟨⟨m,u,fv,fs,h1,rfl,hA⟩,h2,h3,h4,h5,h6,h7⟩:=h
 dsimp only at *
 subst hA
 refine Calls.mono (xb1p d sec m nb n kv ks w u fv cr op off ft fs h1 h2 hks hkd hkn hkl (by rw [List.length_map] at h4; omega) (fun f hf=>Nat.le_trans (h5 (absF f) (List.mem_map.2 ⟨f,hf,rfl⟩)) hb) (fun f hf=>(xa3q (h7 (absF f) (List.mem_map.2 ⟨f,hf,rfl⟩))).2) h6.1 h6.2) ?_
 rintro e w' ⟨gs,rfl,hD,hG,hK,hN⟩
 refine ⟨_,rfl,⟨⟨m,_,_,gs,hD,rfl,hG.symm⟩,?_,⟨by simp [stRestart],by simp [stRestart]⟩,?_,?_,h6,?_⟩,hK,hN⟩
 ·simp only [stRestart]
  rw [xa0x,xc5k]
  exact (xa0x _).1 (xc2o (xa4b _ _) h2)
 ·simp only [stRestart,setA,List.length_map]
  exact Nat.le_trans (xa4b _ _).length_le h4
 ·intro f hf
  simp only [stRestart,setA] at hf
  obtain ⟨a,ha,rfl⟩:=List.mem_map.1 hf
  have:=h5 a ((xa4b _ _).subset ha)
  have:=xc2h ((fstK ks a.nm.data.toList).getD zK) sec a h6.1 h6.2
  omega
 ·intro f hf
  simp only [stRestart,setA] at hf
  obtain ⟨a,ha,rfl⟩:=List.mem_map.1 hf
  rw [xb3d]
  exact h7 a ((xa4b _ _).subset ha)
def nmsOf (σ:DSt):List (List UInt8):=if σ.off then [] else srtN σ.A
set_option maxHeartbeats 1000000 in
theorem xb0j (d nb bb:Nat) (B:List Nat) (σ:DSt) (w:World) (h:DK w d B nb bb σ) (hn:nb≤1000000000) :
  Calls Tryz.prog 13 #[.pointer (some ⟨d,0,none⟩)] w fun e w'=>∃ v,e = .returned v∧w'.ownsRow w.heap.size 9 1 v (nmsOf σ).length ((nmsOf σ).map encStr)∧Kept [] w w':=by
 obtain ⟨sec,cr,op,off,ft,A⟩:=σ
 obtain ⟨⟨m,u,fv,fs,h1,rfl,hA⟩,h2,h3,h4,h5,h6,h7⟩:=h
 dsimp only at *
 subst hA
 have HD:=hide h1
 have HDI:=hide h2
 clear h1 h2 h4 h5 h7
 cases off
 ·show Calls Tryz.prog 13 #[.pointer (some ⟨d,0,none⟩)] w fun e w'=>∃ v,e = .returned v∧w'.ownsRow w.heap.size 9 1 v (srtN (fs.map absF)).length ((srtN (fs.map absF)).map encStr)∧Kept [] w w'
  have HSO:=hide (xb5t d sec m nb w u fv cr op false ft fs (uh HD) (uh HDI) hn)
  generalize srtN (fs.map absF) = SS at HSO ⊢
  go_enter Tryz.func13,Tryz.ntmps13
  go_wp2_with fail
  refine Calls.mono (xa0j d w sec m u fv cr op false (uh HD).row) ?_
  rintro e w1 ⟨rfl,rfl⟩
  simp only [Bool.false_eq_true,if_false]
  go_wp2_with fail
  refine Calls.mono (uh HSO) ?_
  rintro e w2 ⟨v,rfl,ho,hk⟩
  have H1:=hide ho
  have H2:=hide hk
  clear ho hk
  go_wp2_with fail
  go_ret
  exact ⟨v,rfl,uh H1,uh H2⟩
 ·show Calls Tryz.prog 13 #[.pointer (some ⟨d,0,none⟩)] w fun e w'=>∃ v,e = .returned v∧w'.ownsRow w.heap.size 9 1 v 0 []∧Kept [] w w'
  go_enter Tryz.func13,Tryz.ntmps13
  go_wp2_with fail
  refine Calls.mono (xa0j d w sec m u fv cr op true (uh HD).row) ?_
  rintro e w1 ⟨rfl,rfl⟩
  simp only [if_true]
  go_wp2_with fail
  go_ret
  exact ⟨_,rfl,World.ownsRow_nil _ _ _ _,Kept.refl _ _⟩
theorem new_D (sec:Nat) (w:World) (h1:1≤sec) (h2:sec≤4096) :
  Calls Tryz.prog 35 #[.int .i64 sec,.slice none 0 0] w fun e w'=>∃ d B,e = .returned (.tuple #[.pointer (some ⟨d,0,none⟩),.int .i64 0])∧DK w' d B 0 0 ⟨sec,0,0,false,fun _=>none,[]⟩∧Kept [] w w'∧∀ x∈B,w.heap.size≤x:=by
 refine Calls.mono (xc3v sec w h1 h2) ?_
 rintro e w' ⟨d,m,rfl,hd,hm,hD,hK⟩
 refine ⟨d,_,rfl,⟨⟨m,_,_,[],hD,rfl,rfl⟩,List.Pairwise.nil,⟨by simp,by simp⟩,by simp,by simp,⟨h1,h2⟩,by simp⟩,hK,?_⟩
 intro x hx
 simp [dkB,blk,mblk] at hx
 rcases hx with rfl | rfl
 ·exact hd
 ·exact hm
set_option maxHeartbeats 1000000 in
theorem newM_D (sec:Nat) (w:World) (h1:1≤sec) (h2:sec≤4096) :
  Calls Tryz.prog 8 #[.int .i64 sec] w fun e w'=>∃ d B,e = .returned (.tuple #[.pointer (some ⟨d,0,none⟩),.int .i64 0])∧DK w' d B 0 0 ⟨sec,0,0,false,fun _=>none,[]⟩∧Kept [] w w'∧∀ x∈B,w.heap.size≤x:=by
 have HN:=hide (new_D sec w h1 h2)
 go_enter Tryz.func8,Tryz.ntmps8
 go_wp2_with fail
 refine Calls.mono (uh HN) ?_
 rintro e w' ⟨d,B,rfl,hd,hk,hb⟩
 have H1:=hide hd
 have H2:=hide hk
 have H3:=hide hb
 clear hd hk hb
 go_wp2_with fail
 go_ret2
 exact ⟨d,B,rfl,uh H1,uh H2,uh H3⟩
end
section
open Go.RowKit Go.BigFrame
structure DKf (w:World) (d:Nat) (B:List Nat) (nb ob bb:Nat) (σ:DSt):Prop where
 ex:∃ m u fv fs,DkAt w d σ.sec m nb u fv σ.cr σ.op σ.off σ.ft fs∧B = dkB d m u fv fs∧σ.A = fs.map absF
 dist:Dist σ.A
 opb:0≤σ.op∧σ.op≤ob
 len:σ.A.length≤nb
 byt:∀ f∈σ.A,f.bs.length≤bb
 secb:1≤σ.sec∧σ.sec≤4096
 nms:∀ f∈σ.A,isNm f.nm = true
theorem DKf.toDK {w:World} {d nb ob bb:Nat} {B:List Nat} {σ:DSt} (h:DKf w d B nb ob bb σ):DK w d B (max nb ob) bb σ:=by
 obtain ⟨m,u,fv,fs,h1,h2,h3⟩:=h.ex
 exact ⟨⟨m,u,fv,fs,h1.more (by omega),h2,h3⟩,h.dist,⟨h.opb.1,by have:=h.opb.2; omega⟩,Nat.le_trans h.len (by omega),h.byt,h.secb,h.nms⟩
theorem DK.toF {w:World} {d nb bb:Nat} {B:List Nat} {σ:DSt} (h:DK w d B nb bb σ) {ob:Nat} (ho:σ.op≤ob):DKf w d B nb ob bb σ:=by
 obtain ⟨m,u,fv,fs,h1,h2,h3⟩:=h.ex
 exact ⟨⟨m,u,fv,fs,h1,h2,h3⟩,h.dist,⟨h.opb.1,ho⟩,h.len,h.byt,h.secb,h.nms⟩
theorem DKf.lt {w:World} {d nb ob bb:Nat} {B:List Nat} {σ:DSt} (h:DKf w d B nb ob bb σ):∀ x∈B,x < w.heap.size:=h.toDK.lt
theorem DKf.kept {L:List Nat} {w w':World} {d nb ob bb:Nat} {B:List Nat} {σ:DSt} (h:DKf w d B nb ob bb σ) (k:Kept L w w') (hn:∀ x∈B,x∉L):DKf w' d B nb ob bb σ:=by
 obtain ⟨m,u,fv,fs,h1,rfl,h3⟩:=h.ex
 exact ⟨⟨m,u,fv,fs,h1.kept k hn,rfl,h3⟩,h.dist,h.opb,h.len,h.byt,h.secb,h.nms⟩
theorem DKf.old {w w':World} {d nb ob bb:Nat} {B:List Nat} {σ:DSt} (h:DKf w d B nb ob bb σ) (k:Kept [] w w'):DKf w' d B nb ob bb σ:=h.kept k (by simp)
theorem DKf.more {w:World} {d nb ob bb:Nat} {B:List Nat} {σ:DSt} (h:DKf w d B nb ob bb σ) {nb' ob' bb':Nat} (h1:nb≤nb') (h0:ob≤ob') (h2:bb≤bb'):DKf w d B nb' ob' bb' σ:=by
 obtain ⟨m,u,fv,fs,h3,rfl,h4⟩:=h.ex
 exact ⟨⟨m,u,fv,fs,h3.more h1,rfl,h4⟩,h.dist,⟨h.opb.1,by have:=h.opb.2; omega⟩,Nat.le_trans h.len h1,fun f hf=>Nat.le_trans (h.byt f hf) h2,h.secb,h.nms⟩
theorem xc2u (d nb ob bb:Nat) (B:List Nat) (σ:DSt) (s:ByteArray) (w:World) (h:DKf w d B nb ob bb σ) (hs:s.size≤140737488355328) (hn:nb≤1000000000) (hob:ob≤1000000000) :
  Calls Tryz.prog 93 #[.pointer (some ⟨d,0,none⟩),.string s] w fun e w'=>∃ B',e = .returned (.int .i64 ((stCreate σ s).1:Nat))∧DKf w' d B' (nb + 1) (ob + 1) bb (stCreate σ s).2∧Ev w w' B B':=by
 have h0:=h
 obtain ⟨sec,cr,op,off,ft,A⟩:=σ
 obtain ⟨⟨m,u,fv,fs,h1,rfl,hA⟩,h2,h3,h4,h5,h6,h7⟩:=h
 dsimp only at *
 subst hA
 cases off
 ·have e1:stCreate ⟨sec,cr,op,false,ft,fs.map absF⟩ s = (opE ft cr op (own1 fs s),tick ⟨sec,cr,op,false,ft,fs.map absF⟩ (if own1 fs s = 0∧opE ft cr op (own1 fs s)≠7 then fs.map absF++[⟨s,[],0,false⟩] else fs.map absF)):=by
   rw [xb5g]; rfl
  rw [e1]
  refine Calls.mono (xb6y d sec m nb s w u fv cr op ft fs h1 hs ⟨h3.1,by omega⟩ hn (by rw [List.length_map] at h4; omega)) ?_
  rintro e w' ⟨E,G,u',rfl,hE,hD,hK,hN⟩
  subst hE
  refine ⟨_,rfl,⟨⟨m,u',fv,_,hD,rfl,?_⟩,?_,⟨by simp only [tick]; omega,by simp only [tick]; omega⟩,?_,?_,h6,?_⟩,hK,hN⟩
  ·simp only [tick,crF]
   split <;> simp [absF]
  all_goals simp only [tick]
  all_goals split
  ·rename_i hc
   rw [xb5g] at hc
   obtain ⟨hc1,hc2⟩:=xa9u hc.1
   unfold Dist
   rw [List.pairwise_append]
   refine ⟨h2,List.pairwise_singleton _ _,?_⟩
   intro a ha b hb
   simp only [List.mem_singleton] at hb
   subst hb
   intro e
   exact xb4o hc2 a ha (by rw [e])
  ·exact h2
  ·rw [List.length_append,List.length_singleton]; omega
  ·omega
  ·intro f hf
   rw [List.mem_append,List.mem_singleton] at hf
   rcases hf with hf | rfl
   ·exact h5 f hf
   ·simp
  ·exact h5
  ·rename_i hc
   rw [xb5g] at hc
   obtain ⟨hc1,hc2⟩:=xa9u hc.1
   intro f hf
   rw [List.mem_append,List.mem_singleton] at hf
   rcases hf with hf | rfl
   ·exact h7 f hf
   ·exact hc1
  ·exact h7
 ·refine Calls.mono (xb6j d sec m nb s w u fv cr op ft fs h1) ?_
  rintro e w' ⟨rfl,rfl⟩
  exact ⟨_,rfl,h0.more (Nat.le_succ nb) (Nat.le_succ ob) (Nat.le_refl _),Ev.refl _ _⟩
theorem xb5u (d nb ob bb:Nat) (B:List Nat) (σ:DSt) (s:ByteArray) (pv:Value) (ps:List Nat) (w:World) (h:DKf w d B nb ob bb σ) (hs:s.size≤140737488355328) (hn:nb≤1000000000) (hob:ob≤1000000000) (hp:Rd w pv ps) (hpd:∀ x∈zblk pv ps,x∉B) (hb:bb + ps.length≤140737488350000) :
  Calls Tryz.prog 25 #[.pointer (some ⟨d,0,none⟩),.string s,pv] w fun e w'=>∃ B',e = .returned (.int .i64 ((stAppend σ s ps).1:Nat))∧DKf w' d B' nb (ob + 1) (bb + ps.length) (stAppend σ s ps).2∧Ev w w' B B':=by
 have h0:=h
 obtain ⟨sec,cr,op,off,ft,A⟩:=σ
 obtain ⟨⟨m,u,fv,fs,h1,rfl,hA⟩,h2,h3,h4,h5,h6,h7⟩:=h
 dsimp only at *
 subst hA
 have hd:d∉zblk pv ps:=fun hx=>hpd d hx (by simp [dkB])
 cases off
 ·cases hf:findA (fs.map absF) s.data.toList with
  | none =>
   have e1:stAppend ⟨sec,cr,op,false,ft,fs.map absF⟩ s ps = (opE ft cr op 5,tick ⟨sec,cr,op,false,ft,fs.map absF⟩ (fs.map absF)):=by
    simp only [stAppend,hf]; rfl
   rw [e1]
   refine Calls.mono (xb1m d sec m nb s pv w u fv cr op ft fs h1 hs ⟨h3.1,by omega⟩ (xb0e hf)) ?_
   rintro e w' ⟨rfl,hD,hK⟩
   exact ⟨_,rfl,⟨⟨m,u,fv,fs,hD,rfl,rfl⟩,h2,⟨by simp only [tick]; omega,by simp only [tick]; omega⟩,h4,fun f hf=>Nat.le_trans (h5 f hf) (Nat.le_add_right _ _),h6,h7⟩,hK.mono (by intro x hx; simp at hx; simp [dkB,hx]),fun x hx=>.inl hx⟩
  | some x =>
   obtain ⟨f,hfm,hl,rfl,hnm⟩:=xa6e hf
   have hnm2:=ba_ext hnm
   subst hnm2
   have hfl:=h5 (absF f) (List.mem_map.2 ⟨f,hfm,rfl⟩)
   have hfin:∀ (v':Value) (w':World) (qs:List Nat),qs.length≤ps.length→qs = ps.take (appK ⟨sec,cr,op,false,ft,fs.map absF⟩ ps)→DkAt w' d sec m nb u fv cr (op + 1) (decide (op + 1 = cr)) ft (upF fs f.g v' (f.bs++qs) f.sy)→Kept (d :: f.g :: blk f.v) w w'→(∀ x∈blk v',x∈blk f.v∨w.heap.size≤x) →
     ∃ B',DKf w' d B' nb (ob + 1) (bb + ps.length) (tick ⟨sec,cr,op,false,ft,fs.map absF⟩ (upA (fs.map absF) f.nm fun f=>{ f with bs:=f.bs++ps.take (appK ⟨sec,cr,op,false,ft,fs.map absF⟩ ps) }))∧Ev w w' (dkB d m u fv fs) B':=by
    intro v' w' qs hq hqe hD hK hV
    refine ⟨_,⟨⟨m,u,fv,_,hD,rfl,?_⟩,xb9n (by intro x; rfl) h2,⟨by simp only [tick]; omega,by simp only [tick]; omega⟩,?_,?_,h6,?_⟩,hK.mono ?_,?_⟩
    ·simp only [tick]
     rw [up_abs h1.apart h2 hfm]
     exact (xb3w h2 (x:=absF f) (List.mem_map.2 ⟨f,hfm,rfl⟩) (by simp [absF,hqe])).symm
    ·simp only [tick,upA,List.length_map]
     rw [List.length_map] at h4
     omega
    ·intro y hy
     obtain ⟨x,hx,h9 | ⟨_,h9⟩⟩:=xa9z hy
     ·subst h9
      exact Nat.le_trans (h5 y hx) (Nat.le_add_right _ _)
     ·subst h9
      have:=h5 x hx
      simp only [List.length_append,List.length_take]
      omega
    ·intro y hy
     obtain ⟨x,hx,h9 | ⟨_,h9⟩⟩:=xa9z hy
     ·subst h9
      exact h7 y hx
     ·subst h9
      exact h7 x hx
    ·intro x hx
     simp only [List.mem_cons] at hx
     rcases hx with rfl | rfl | hx
     ·simp [dkB]
     ·exact dkB_g hfm
     ·exact dkB_v hfm hx
    ·intro x hx
     rcases xb2n hx with h9 | h9
     ·exact .inl h9
     ·exact (hV x h9).imp (dkB_v hfm) id
   have e1:stAppend ⟨sec,cr,op,false,ft,fs.map absF⟩ f.nm ps = (opE ft cr op 0,tick ⟨sec,cr,op,false,ft,fs.map absF⟩ (upA (fs.map absF) f.nm fun f=>{ f with bs:=f.bs++ps.take (appK ⟨sec,cr,op,false,ft,fs.map absF⟩ ps) })):=by
    simp only [stAppend,hf]; rfl
   rw [e1]
   have hfl2:f.bs.length≤bb:=hfl
   by_cases h7e:opE ft cr op 0 = 7
   ·obtain ⟨h8,c,h9⟩:op + 1≠cr∧∃ c,ft (op + 1) = some c:=by
     have h10:=h7e
     unfold opE at h10
     split at h10
     ·omega
     ·rename_i h11
      refine ⟨h11,?_⟩
      rw [if_neg (by simp)] at h10
      split at h10
      ·rename_i h12
       exact Option.isSome_iff_exists.1 h12
      ·omega
    refine Calls.mono (xb9g d sec m nb f.nm pv ps w u fv cr op ft fs h1 hs ⟨h3.1,by omega⟩ f hfm hl hp hd (by omega) h8 c h9) ?_
    rintro e w' ⟨v',rfl,hD,hK,hV⟩
    obtain ⟨B',hB1,hB2⟩:=hfin v' w' (ps.take (wtn c ps.length).toNat) (by rw [List.length_take]; omega) (by unfold appK; rw [if_pos h7e]; show _ = List.take (wtn ((ft (op + 1)).getD 0) _).toNat ps; rw [h9]; rfl) (by rw [decide_eq_false h8]; exact hD) hK hV
    exact ⟨B',by rw [h7e]; rfl,hB1,hB2⟩
   ·refine Calls.mono (xb1l d sec m nb f.nm pv ps w u fv cr op ft fs h1 hs ⟨h3.1,by omega⟩ f hfm hl hp hd (by omega) h7e) ?_
    rintro e w' ⟨v',rfl,hD,hK,hV⟩
    obtain ⟨B',hB1,hB2⟩:=hfin v' w' ps (Nat.le_refl _) (by unfold appK; rw [if_neg h7e,List.take_length]) hD hK hV
    exact ⟨B',rfl,hB1,hB2⟩
 ·refine Calls.mono (xb6w d sec m nb s pv w u fv cr op ft fs h1) ?_
  rintro e w' ⟨rfl,rfl⟩
  exact ⟨_,rfl,h0.more (Nat.le_refl nb) (Nat.le_succ ob) (Nat.le_add_right _ _),Ev.refl _ _⟩
theorem sync_F (d nb ob bb:Nat) (B:List Nat) (σ:DSt) (s:ByteArray) (w:World) (h:DKf w d B nb ob bb σ) (hs:s.size≤140737488355328) (hn:nb≤1000000000) (hob:ob≤1000000000) :
  Calls Tryz.prog 91 #[.pointer (some ⟨d,0,none⟩),.string s] w fun e w'=>∃ B',e = .returned (.int .i64 ((stSync σ s).1:Nat))∧DKf w' d B' nb (ob + 1) bb (stSync σ s).2∧Ev w w' B B':=by
 have h0:=h
 obtain ⟨sec,cr,op,off,ft,A⟩:=σ
 obtain ⟨⟨m,u,fv,fs,h1,rfl,hA⟩,h2,h3,h4,h5,h6,h7⟩:=h
 dsimp only at *
 subst hA
 cases off
 ·cases hf:findA (fs.map absF) s.data.toList with
  | none =>
   have e1:stSync ⟨sec,cr,op,false,ft,fs.map absF⟩ s = (opE ft cr op 5,tick ⟨sec,cr,op,false,ft,fs.map absF⟩ (fs.map absF)):=by
    simp only [stSync,hf]; rfl
   rw [e1]
   refine Calls.mono (xb7f d sec m nb s w u fv cr op ft fs h1 hs ⟨h3.1,by omega⟩ (xb0e hf)) ?_
   rintro e w' ⟨rfl,hD,hK⟩
   exact ⟨_,rfl,⟨⟨m,u,fv,fs,hD,rfl,rfl⟩,h2,⟨by simp only [tick]; omega,by simp only [tick]; omega⟩,h4,h5,h6,h7⟩,hK.mono (by intro x hx; simp at hx; simp [dkB,hx]),fun x hx=>.inl hx⟩
  | some x =>
   obtain ⟨f,hfm,hl,rfl,hnm⟩:=xa6e hf
   have hnm2:=ba_ext hnm
   subst hnm2
   have e1:stSync ⟨sec,cr,op,false,ft,fs.map absF⟩ f.nm = (opE ft cr op 0,tick ⟨sec,cr,op,false,ft,fs.map absF⟩ (if opE ft cr op 0 = 0 then upA (fs.map absF) f.nm fun f=>{ f with sy:=f.bs.length } else fs.map absF)):=by
    simp only [stSync,hf]; rfl
   rw [e1]
   refine Calls.mono (xb8p d sec m nb f.nm w u fv cr op ft fs h1 hs ⟨h3.1,by omega⟩ f hfm hl) ?_
   rintro e w' ⟨E,rfl,rfl,hD,hK⟩
   have kk:Kept (dkB d m u fv fs) w w':=hK.mono (by
    intro x hx
    simp only [List.mem_cons,List.not_mem_nil,or_false] at hx
    rcases hx with rfl | rfl
    ·simp [dkB]
    ·exact dkB_g hfm)
   by_cases hE:opE ft cr op 0 = 0
   ·rw [if_pos hE] at hD
    rw [if_pos hE]
    refine ⟨_,rfl,⟨⟨m,u,fv,_,hD,rfl,?_⟩,xb9n (by intro x; rfl) h2,⟨by simp only [tick]; omega,by simp only [tick]; omega⟩,?_,?_,h6,?_⟩,kk,?_⟩
    ·simp only [tick]
     rw [up_abs h1.apart h2 hfm]
     exact (xb3w h2 (x:=absF f) (List.mem_map.2 ⟨f,hfm,rfl⟩) (by simp [absF])).symm
    ·simp only [tick,upA,List.length_map]
     rw [List.length_map] at h4
     omega
    ·intro y hy
     obtain ⟨x,hx,h9 | ⟨_,h9⟩⟩:=xa9z hy
     ·subst h9
      exact h5 y hx
     ·subst h9
      exact h5 x hx
    ·intro y hy
     obtain ⟨x,hx,h9 | ⟨_,h9⟩⟩:=xa9z hy
     ·subst h9
      exact h7 y hx
     ·subst h9
      exact h7 x hx
    ·intro x hx
     rcases xb2n hx with h9 | h9
     ·exact .inl h9
     ·exact .inl (dkB_v hfm h9)
   ·rw [if_neg hE] at hD
    rw [if_neg hE]
    exact ⟨_,rfl,⟨⟨m,u,fv,fs,hD,rfl,rfl⟩,h2,⟨by simp only [tick]; omega,by simp only [tick]; omega⟩,h4,h5,h6,h7⟩,kk,fun x hx=>.inl hx⟩
 ·refine Calls.mono (xc1b d sec m nb s w u fv cr op ft fs h1) ?_
  rintro e w' ⟨rfl,rfl⟩
  exact ⟨_,rfl,h0.more (Nat.le_refl nb) (Nat.le_succ ob) (Nat.le_refl _),Ev.refl _ _⟩
theorem xc3q (d nb ob bb:Nat) (B:List Nat) (σ:DSt) (w:World) (h:DKf w d B nb ob bb σ) (hn:nb≤1000000000) (hob:ob≤1000000000) :
  Calls Tryz.prog 95 #[.pointer (some ⟨d,0,none⟩)] w fun e w'=>∃ B',e = .returned (.int .i64 ((stNames σ).1:Nat))∧DKf w' d B' nb (ob + 1) bb (stNames σ).2∧Ev w w' B B':=by
 have h0:=h
 obtain ⟨sec,cr,op,off,ft,A⟩:=σ
 obtain ⟨⟨m,u,fv,fs,h1,rfl,hA⟩,h2,h3,h4,h5,h6,h7⟩:=h
 dsimp only at *
 subst hA
 cases off
 ·refine Calls.mono (xa7m d sec m nb w u fv cr op ft fs h1 ⟨h3.1,by omega⟩ (by rw [List.length_map] at h4; omega)) ?_
  rintro e w' ⟨E,rfl,rfl,hD,hK⟩
  have kk:Kept (dkB d m u fv fs) w w':=hK.mono (by
   intro x hx
   simp only [List.mem_cons] at hx
   rcases hx with rfl | hx
   ·simp [dkB]
   ·obtain ⟨a,ha,rfl⟩:=List.mem_map.1 hx
    exact dkB_g ha)
  have e1:stNames ⟨sec,cr,op,false,ft,fs.map absF⟩ = (opE ft cr op 0,tick ⟨sec,cr,op,false,ft,fs.map absF⟩ (if opE ft cr op 0 = 0 then ndA (fs.map absF) else fs.map absF)):=rfl
  rw [e1]
  by_cases hE:opE ft cr op 0 = 0
  ·unfold snU snF at hD
   rw [if_pos hE,if_pos hE] at hD
   rw [if_pos hE]
   refine ⟨_,rfl,⟨⟨m,_,fv,_,hD,rfl,by rw [nd_abs]; rfl⟩,xc4t h2,⟨by simp only [tick]; omega,by simp only [tick]; omega⟩,?_,?_,h6,?_⟩,kk,?_⟩
   ·simp only [tick,ndA,List.length_map]
    rw [List.length_map] at h4
    omega
   ·intro y hy
    obtain ⟨x,hx,rfl⟩:=List.mem_map.1 hy
    exact h5 x hx
   ·intro y hy
    obtain ⟨x,hx,rfl⟩:=List.mem_map.1 hy
    exact h7 x hx
   ·intro x hx
    left
    have:=dkB_nd d m (.slice none 0 0) fv fs x hx
    simp only [dkB,blk,List.mem_cons,List.mem_append,List.mem_flatMap,List.not_mem_nil,false_or] at this ⊢
    rcases this with h | h | h | h
    ·exact .inl h
    ·exact .inr (.inl h)
    ·exact .inr (.inr (.inl (.inr h)))
    ·exact .inr (.inr (.inr h))
  ·unfold snU snF at hD
   rw [if_neg hE,if_neg hE] at hD
   rw [if_neg hE]
   exact ⟨_,rfl,⟨⟨m,u,fv,fs,hD,rfl,rfl⟩,h2,⟨by simp only [tick]; omega,by simp only [tick]; omega⟩,h4,h5,h6,h7⟩,kk,fun x hx=>.inl hx⟩
 ·refine Calls.mono (xa7i d sec m nb w u fv cr op ft fs h1) ?_
  rintro e w' ⟨rfl,rfl⟩
  exact ⟨_,rfl,h0.more (Nat.le_refl nb) (Nat.le_succ ob) (Nat.le_refl _),Ev.refl _ _⟩
def zer64:ByteArray:=⟨#[48,48,48,48,48,48,48,48,48,48,48,48,48,48,48,48,48,48,48,48,48,48,48,48,48,48,48,48,48,48,48,48,48,48,48,48,48,48,48,48,48,48,48,48,48,48,48,48,48,48,48,48,48,48,48,48,48,48,48,48,48,48,48,48]⟩
set_option maxHeartbeats 1000000 in
theorem xb2t (w:World):Calls Tryz.prog 143 #[.int .i64 7] w fun e w'=>e = .returned (.string ⟨#[55]⟩)∧w' = w:=by
 go_enter Tryz.func143,Tryz.ntmps143
 go_wp2
 go_ret
 exact ⟨by rfl,rfl⟩
set_option maxHeartbeats 1000000 in
theorem xc5q (w:World):Calls Tryz.prog 96 #[.int .u64 7,.int .i64 10] w fun e w'=>e = .returned (.string ⟨#[55]⟩)∧w' = w:=by
 go_enter Tryz.func96,Tryz.ntmps96
 go_wp2_with fail
 refine Calls.mono (xb2t _) ?_
 rintro e w1 ⟨rfl,rfl⟩
 go_wp2
 go_ret
 exact ⟨rfl,rfl⟩
set_option maxHeartbeats 1000000 in
theorem xb6s (s t:ByteArray) (w:World) (hs:s.size≤1000000) (ht:t.size≤s.size) :
  Calls Tryz.prog 149 #[.string s,.string t] w fun e w'=>e = .returned (.bool ((s.extract 0 t.size).toList == t.toList))∧w' = w:=by
 have h1:(t.size:Int)≤s.size:=by omega
 go_enter Tryz.func149,Tryz.ntmps149
 go_wp2
 go_ret
 exact ⟨rfl,rfl⟩
set_option maxHeartbeats 1000000 in
theorem xc2v (s t:ByteArray) (w:World) (hs:s.size≤1000000) (ht:t.size≤s.size) :
  Calls Tryz.prog 98 #[.string s,.string t] w fun e w'=>e = .returned (.bool ((s.extract 0 t.size).toList == t.toList))∧w' = w:=by
 go_enter Tryz.func98,Tryz.ntmps98
 go_wp2_with fail
 refine Calls.mono (xb6s s t _ hs ht) ?_
 rintro e w1 ⟨rfl,rfl⟩
 go_wp2
 go_ret
 exact ⟨rfl,rfl⟩
theorem and_32:∀ k:Fin 21,bits BinOp.and IntKind.u64 ((k.val:Nat):Int) 4294967295 = ((k.val:Nat):Int):=by decide +kernel
set_option maxHeartbeats 1000000 in
theorem xc5c (k:Nat) (w:World) (hk:k≤20):Calls Tryz.prog 148 #[.int .u64 1,.int .u64 k] w fun e w'=>e = .returned (.tuple #[.int .u64 0,.int .u64 k])∧w' = w:=by
 have h1:bits BinOp.and IntKind.u64 1 4294967295 = 1:=and_32 ⟨1,by omega⟩
 have h0:bits BinOp.and IntKind.u64 0 4294967295 = 0:=and_32 ⟨0,by omega⟩
 have h2:bits BinOp.and IntKind.u64 (k:Int) 4294967295 = k:=and_32 ⟨k,by omega⟩
 have h3:(k:Int) / 4294967296 = 0:=by omega
 have h4:(k:Int)≤20:=by omega
 go_enter Tryz.func148,Tryz.ntmps148
 go_wp2
 go_ret2
 exact ⟨rfl,rfl⟩
set_option maxHeartbeats 1000000 in
theorem mul_1 (k:Nat) (w:World) (hk:k≤20):Calls Tryz.prog 97 #[.int .u64 1,.int .u64 k] w fun e w'=>e = .returned (.tuple #[.int .u64 0,.int .u64 k])∧w' = w:=by
 go_enter Tryz.func97,Tryz.ntmps97
 go_wp2_with fail
 refine Calls.mono (xc5c k _ hk) ?_
 rintro e w1 ⟨rfl,rfl⟩
 go_wp2
 go_ret2
 exact ⟨rfl,rfl⟩
theorem xc3e (s:ByteArray):∀ n i r,s.size - i = n→ByteArray.toList.loop s i r = r.reverse++s.data.toList.drop i:=by
 intro n
 induction n with
 | zero =>
  intro i r h
  rw [ByteArray.toList.loop]
  have h1:s.size = s.data.toList.length:=(Array.length_toList).symm
  rw [if_neg (by omega),List.drop_eq_nil_of_le (by omega),List.append_nil]
 | succ n ih =>
  intro i r h
  rw [ByteArray.toList.loop]
  have h1:s.size = s.data.toList.length:=(Array.length_toList).symm
  have h2:i < s.data.toList.length:=by omega
  rw [if_pos (by omega),ih (i + 1) _ (by omega),List.drop_eq_getElem_cons h2]
  have h3:s.get! i = s.data.toList[i]:=by
   have h4:i < s.data.size:=by simpa using h2
   rw [Array.getElem_toList]
   exact getElem!_pos s.data i h4
  simp [h3]
theorem xa1l (s:ByteArray):s.toList = s.data.toList:=by
 unfold ByteArray.toList
 rw [xc3e s _ 0 [] rfl]
 simp
theorem xb6l (s:ByteArray) (n:Nat):(s.extract 0 n).data.toList = s.data.toList.take n:=by
 simp [ByteArray.data_extract]
theorem xb5q (s t:ByteArray) (w:World) (b:Bool) (hs:s.size≤1000000) (ht:t.size≤s.size) (h:(s.data.toList.take t.size == t.data.toList) = b) :
  Calls Tryz.prog 98 #[.string s,.string t] w fun e w'=>e = .returned (.bool b)∧w' = w :=
 (xc2v s t w hs ht).mono fun e w' h9=>⟨by rw [h9.1,xa1l,xa1l,xb6l,h],h9.2⟩
set_option maxHeartbeats 2000000 in
theorem xb6o (k:Nat) (w:World) (hk:1 < k) (hk2:k≤20):Calls Tryz.prog 53 #[.string ⟨#[48]⟩,.int .i64 k] w fun e w'=>e = .returned (.string (zer64.extract 0 k))∧w' = w:=by
 have h0:((k:Int) == 0) = false:=by simp; omega
 have h1:((k:Int) == 1) = false:=by simp; omega
 have h2:¬ (k:Int) < 0:=by omega
 have h4:(k:Int)≤20:=by omega
 have h5:decide (9223372036854775807 < (k:Int)) = false:=by simp; omega
 go_enter Tryz.func53,Tryz.ntmps53
 go_wp2_with fail
 refine Calls.mono (mul_1 k _ hk2) ?_
 rintro e w1 ⟨rfl,rfl⟩
 go_wp2_with fail
 refine Calls.mono (xb5q _ _ _ false (by decide) (by decide) (by decide)) ?_
 rintro e w2 ⟨rfl,rfl⟩
 go_wp2_with fail
 refine Calls.mono (xb5q _ _ _ false (by decide) (by decide) (by decide)) ?_
 rintro e w2 ⟨rfl,rfl⟩
 go_wp2_with fail
 refine Calls.mono (xb5q _ _ _ true (by decide) (by decide) (by decide)) ?_
 rintro e w2 ⟨rfl,rfl⟩
 go_wp2
 go_ret
 exact ⟨rfl,rfl⟩
def strB (p:List Nat):ByteArray:=⟨(p.map UInt8.ofNat).toArray⟩
theorem xb2w (w:World) (e:TypeId) (s:ByteArray):Kept [] w (Lib.bytesWorld w e s):=⟨rfl,rfl,rfl,by rw [Lib.bytesWorld_size]; omega,fun k hk _=>Lib.bytesWorld_at_old w e s k hk⟩
theorem xa0p (bs:List Nat):(strB bs).size = bs.length:=by simp [strB,ByteArray.size]
theorem sbw_rd (w:World) (bs:List Nat) (hb:∀ x∈bs,x < 256) (hl:bs.length≤1000000):Rd (Lib.bytesWorld w 5 (strB bs)) (.slice (some ⟨w.heap.size,0,none⟩) (strB bs).size (grownCap w (strB bs).size 0 5)) bs:=by
 have h1:=grownCap_ge w (strB bs).size 0 5
 have h2:=grownCap_le_maxLen w (strB bs).size 0 5 (by rw [xa0p]; unfold maxLen; omega)
 rw [xa0p] at h1 h2 ⊢
 unfold maxLen at h2
 refine ⟨_,_,_,rfl,rfl,h1,⟨by omega,by omega⟩,fun h=>by simp at h,hb,fun hp=>⟨w.heap.size,0,rfl,fun i hi=>?_⟩⟩
 rw [Nat.zero_add,Lib.bytesWorld_cell w 5 (strB bs) i (by rw [xa0p]; exact hi)]
 have hx:=hb (bs[i]) (List.getElem_mem hi)
 simp [strB,List.getD_eq_getElem?_getD,hi,u8]
 omega
theorem xb8j (w:World) (bs:List Nat) (n:Nat) (hn:bs.length = n) (hb:∀ x∈bs,x < 256) (hl:n≤1000000):∃ W c,(convert 9 49 (.string (strB bs))).run Tryz.prog w = .ok (.slice (some ⟨w.heap.size,0,none⟩) n c) W∧Rd W (.slice (some ⟨w.heap.size,0,none⟩) n c) bs∧Kept [] w W∧W.heap.size = w.heap.size + 1:=by
 have hu5:Tryz.prog.underlying 5 = some (.int .u8):=by kernel_rfl
 have hu9:Tryz.prog.underlying 9 = some .string:=by kernel_rfl
 subst hn
 exact ⟨_,_,by rw [Lib.run_convert_string_bytes w 9 49 5 (strB bs) hu9 Tryz.underlying49 hu5,xa0p],by have:=sbw_rd w bs hb hl; rwa [xa0p] at this,xb2w w 5 _,Lib.bytesWorld_size w 5 _⟩
def dval (l:List Nat):Nat:=l.foldl (fun a d=>a * 10 + (d - 48)) 0
theorem xa9t (l:List Nat) (d:Nat):dval (l++[d]) = dval l * 10 + (d - 48):=by simp [dval]
theorem xc1a (l m:List Nat):dval l≤dval (l++m):=by
 unfold dval
 rw [List.foldl_append]
 generalize List.foldl (fun a d=>a * 10 + (d - 48)) 0 l = a
 induction m generalizing a with
 | nil=>exact Nat.le_refl _
 | cons x r ih=>simp only [List.foldl_cons]; exact Nat.le_trans (by omega) (ih _)
theorem xb9f (l:List Nat) (k:Nat):dval (l.take k)≤dval l:=by
 have:=xc1a (l.take k) (l.drop k)
 rwa [List.take_append_drop] at this
set_option maxHeartbeats 4000000 in
theorem xb6a (bs:List Nat) (w:World) (h0:0 < bs.length) (hl:bs.length≤1000) (hd:∀ x∈bs,48≤x∧x≤57) (hv:dval bs < 18446744073709551616) :
  Calls Tryz.prog 198 #[.string (strB bs),.int .i64 10,.int .i64 64] w fun e w'=>e = .returned (.tuple #[.int .u64 (dval bs),.nilIface])∧Kept [] w w':=by
 obtain ⟨W,c,hrun,hrd,kW,hW⟩:=xb8j w bs bs.length rfl (fun x hx=>by have:=hd x hx; omega) (by omega)
 obtain ⟨ao,n9,c9,he,_,hcap,⟨hc1,hc2⟩,_,_,hcl⟩:=id hrd
 cases he
 obtain ⟨b9,o9,e9,hcell⟩:=hcl h0
 cases e9
 have HC:=hide hcell
 have HD:=hide hd
 have HV:=hide (fun k=>xb9f bs k)
 have HK:=hide kW
 have hmax:IntKind.u64.wrap (IntKind.u64.wrap 18446744073709551616 - 1) = 18446744073709551615:=by decide
 have hne:(strB bs).toList.isEmpty = false:=by
  rw [xa1l]
  cases bs with
  | nil=>simp at h0
  | cons x r=>simp [strB]
 have hdl:dval bs≤18446744073709551615:=by omega
 clear hrd hcl hcell hd kW hW
 go_enter Tryz.func198,Tryz.ntmps198
 go_wp2_with fail
 go_loopw [12,13,101] (fun t12 t13 t101 wr=>∃ k:Nat,k≤bs.length∧t12 = .bool false∧t101 = .int .i64 k∧t13 = .int .u64 (dval (bs.take k))∧wr = W) (fun _ _ t _=>bs.length - (intOf t).toNat)
 case atStart=>exact ⟨0,by omega,rfl,rfl,rfl,rfl⟩
 case round =>
  obtain ⟨k,hk,rfl,rfl,rfl,rfl⟩:=hrel
  by_cases hkl:k < bs.length
  ·have hkl':(k:Int) < bs.length:=by omega
   have ck:=uh HC k hkl
   have hdk:=uh HD bs[k] (List.getElem_mem hkl)
   rw [List.getD_eq_getElem?_getD,List.getElem?_eq_getElem hkl,Option.getD_some] at ck
   have hsn:dval (bs.take (k + 1)) = dval (bs.take k) * 10 + (bs[k] - 48):=by rw [List.take_succ_eq_append_getElem hkl,xa9t]
   have hle:=uh HV (k + 1)
   have HSN:=hide hsn
   generalize bs[k] = d at ck hdk hsn HSN
   obtain ⟨m,hm⟩:∃ m,dval (bs.take (k + 1)) = m:=⟨_,rfl⟩
   rw [hm] at hsn hle HSN
   have HMM:=hide hm
   clear hm
   generalize dval (bs.take k) = n at hsn HSN
   obtain ⟨e,rfl⟩:∃ e,d = e + 48:=⟨d - 48,by omega⟩
   have he:e + 48 - 48 = e:=by omega
   rw [he] at hsn HSN
   clear he
   have ck2:wr.cell? ⟨w.heap.size,k,none⟩ = some (.int .u8 ((e:Int) + 48)):=by rw [Nat.zero_add] at ck; rw [ck]; simp [Go.Proofs.YtkolfhgbojenjaaGreatDoor.u8]
   have b0:(0:Int)≤e:=by omega
   have b2:(e:Int)≤9:=by omega
   have b3:(0:Int)≤n:=by omega
   have b4:¬ (1844674407370955162:Int)≤n:=by omega
   have b5:(n:Int) * 10 + e≤18446744073709551615:=by omega
   have b8:(n:Int) * 10≤18446744073709551615:=by omega
   have HM:=hide (by rw [uh HSN]; simp:(m:Int) = (n:Int) * 10 + e)
   clear hsn hdk ck hle HSN
   generalize (n:Int) = z at *
   generalize (e:Int) = y at *
   go_wp2
   go_roundw
   case rel=>exact ⟨k + 1,by omega,rfl,by go_num,by rw [uh HMM,uh HM],trivial⟩
   case measure=>simp [intOf]; omega
  ·have hkl':¬ (k:Int) < bs.length:=by omega
   obtain rfl:k = bs.length:=by omega
   go_wp2
   go_ret2
   exact ⟨by simp,uh HK⟩
set_option maxHeartbeats 1000000 in
theorem xb7u (bs:List Nat) (w:World) (h0:0 < bs.length) (hl:bs.length≤1000) (hd:∀ x∈bs,48≤x∧x≤57) (hv:dval bs < 18446744073709551616) :
  Calls Tryz.prog 139 #[.string (strB bs),.int .i64 10,.int .i64 64] w fun e w'=>e = .returned (.tuple #[.int .u64 (dval bs),.nilIface])∧Kept [] w w':=by
 go_enter Tryz.func139,Tryz.ntmps139
 go_wp2_with fail
 refine Calls.mono (xb6a bs _ h0 hl hd hv) ?_
 rintro e w1 ⟨rfl,k1⟩
 have HK1:=hide k1
 clear k1
 go_wp2
 go_ret2
 exact ⟨rfl,uh HK1⟩
def dgs (k u:Nat):List Nat:=(List.range k).map fun t=>48 + u / 10 ^ (k - 1 - t) % 10
theorem xa7g (k u:Nat):(dgs k u).length = k:=by simp [dgs]
theorem xb1c (k u:Nat):∀ x∈dgs k u,48≤x∧x≤57:=by
 intro x hx
 simp only [dgs,List.mem_map] at hx
 obtain ⟨t,_,rfl⟩:=hx
 omega
theorem xb6r (k u:Nat):∀ x∈dgs k u,x < 256:=fun x hx=>by have:=xb1c k u x hx; omega
theorem xa8k (k u:Nat):dgs (k + 1) u = (48 + u / 10 ^ k % 10) :: dgs k u:=by
 unfold dgs
 rw [List.range_succ_eq_map,List.map_cons,List.map_map]
 rw [List.cons.injEq]
 refine ⟨by simp,List.map_congr_left fun t ht=>?_⟩
 have:k + 1 - 1 - (t + 1) = k - 1 - t:=by omega
 simp only [Function.comp,Nat.succ_eq_add_one,this]
theorem xa8y (k u:Nat):dgs (k + 1) u = dgs k (u / 10)++[48 + u % 10]:=by
 unfold dgs
 rw [List.range_succ,List.map_append]
 have h1:(List.range k).map (fun t=>48 + u / 10 ^ (k + 1 - 1 - t) % 10) = (List.range k).map (fun t=>48 + u / 10 / 10 ^ (k - 1 - t) % 10):=List.map_congr_left fun t ht=>by
  have ht':t < k:=by simpa using ht
  rw [show k + 1 - 1 - t = (k - 1 - t) + 1 by omega,Nat.pow_succ',Nat.div_div_eq_div_mul]
 rw [h1]
 simp
theorem xa3e:∀ (k u:Nat),dval (dgs k u) = u % 10 ^ k
 | 0,u=>by simp [dgs,dval,Nat.mod_one]
 | k + 1,u=>by
  rw [xa8y,xa9t,xa3e k (u / 10),Nat.pow_succ',Nat.mod_mul]
  omega
theorem xb9w (k u:Nat) (h:u < 10 ^ k):∀ j,dgs (j + k) u = List.replicate j 48++dgs k u
 | 0=>by simp
 | j + 1=>by
  rw [show j + 1 + k = (j + k) + 1 by omega,xa8k,xb9w k u h j]
  have h1:u / 10 ^ (j + k) = 0:=Nat.div_eq_of_lt (Nat.lt_of_lt_of_le h (Nat.pow_le_pow_right (by omega) (by omega)))
  rw [h1,List.replicate_succ]
  rfl
theorem xb5x:∀ (k u:Nat),dgs k (u % 10 ^ k) = dgs k u
 | 0,u=>by simp [dgs]
 | k + 1,u=>by
  rw [xa8y,xa8y k u,Nat.pow_succ',Nat.mod_mul_right_div_self,xb5x k (u / 10),Nat.mod_mul_right_mod]
theorem dgs_lt:∀ (k a b:Nat),a < b→b < 10 ^ k→dgs k a < dgs k b
 | 0,a,b,h1,h2=>by simp at h2; omega
 | k + 1,a,b,h1,h2=>by
  rw [xa8k,xa8k]
  have hp:0 < 10 ^ k:=Nat.pow_pos (by omega)
  have ha:a / 10 ^ k < 10:=by rw [Nat.div_lt_iff_lt_mul hp]; rw [Nat.pow_succ'] at h2; omega
  have hb:b / 10 ^ k < 10:=by rw [Nat.div_lt_iff_lt_mul hp]; rw [Nat.pow_succ'] at h2; omega
  have hle:a / 10 ^ k≤b / 10 ^ k:=Nat.div_le_div_right (by omega)
  rw [Nat.mod_eq_of_lt ha,Nat.mod_eq_of_lt hb]
  by_cases he:a / 10 ^ k = b / 10 ^ k
  ·rw [he]
   have h3:a % 10 ^ k < b % 10 ^ k:=by
    have e1:=Nat.div_add_mod a (10 ^ k)
    have e2:=Nat.div_add_mod b (10 ^ k)
    rw [he] at e1
    omega
   have h4:=dgs_lt k (a % 10 ^ k) (b % 10 ^ k) h3 (Nat.mod_lt _ hp)
   rw [xb5x,xb5x] at h4
   exact List.cons_lt_cons_iff.2 (Or.inr ⟨rfl,h4⟩)
  ·exact List.cons_lt_cons_iff.2 (Or.inl (by omega))
def nmL (u:Nat):List Nat:=[115,101,103,45]++dgs 20 u
theorem xb6f (u:Nat):(nmL u).length = 24:=by simp [nmL,xa7g]
theorem xa5q (u:Nat):∀ x∈nmL u,x < 256:=by
 intro x hx
 rcases List.mem_append.1 hx with h | h
 ·simp at h; omega
 ·exact xb6r 20 u x h
theorem xc4j {a b:Nat} (ha:a < 18446744073709551616) (hb:b < 18446744073709551616) (h:nmL a = nmL b):a = b:=by
 have h1:=congrArg dval (List.append_cancel_left h)
 rw [xa3e,xa3e,Nat.mod_eq_of_lt (by omega),Nat.mod_eq_of_lt (by omega)] at h1
 exact h1
theorem nmL_lt {a b:Nat} (h:a < b) (hb:b < 18446744073709551616):nmL a < nmL b:=by
 have h1:=dgs_lt 20 a b h (by omega)
 unfold nmL
 simpa [List.cons_lt_cons_iff] using h1
theorem xb6k (p q:List Nat):strB (p++q) = strB p++strB q:=by
 apply ByteArray.ext
 rw [ByteArray.data_append]
 simp [strB]
theorem xc1u (u:Nat):(⟨(Lib.decDigits u).toArray⟩:ByteArray) = strB (dgs (Lib.nDigits u) u):=by
 rw [Lib.decDigits_eq]
 unfold strB dgs
 rw [List.map_map]
 rfl
theorem xc3y:∀ k:Fin 21,zer64.extract 0 k.val = strB (List.replicate k.val 48):=by decide +kernel
theorem xb3y {p q:List Nat} (hp:∀ x∈p,x < 256) (hq:∀ x∈q,x < 256) (h:strB p = strB q):p = q:=by
 have h1:p.map UInt8.ofNat = q.map UInt8.ofNat:=by
  have:=congrArg (fun s=>s.data.toList) h
  simpa [strB] using this
 have h2:=congrArg (List.map UInt8.toNat) h1
 rw [List.map_map,List.map_map] at h2
 have e:∀ l:List Nat,(∀ x∈l,x < 256)→l.map (UInt8.toNat ∘ UInt8.ofNat) = l:=by
  intro l hl
  conv=>rhs; rw [← List.map_id l]
  refine List.map_congr_left fun x hx=>?_
  simp [Nat.mod_eq_of_lt (hl x hx)]
 rwa [e p hp,e q hq] at h2
end

section
open Go.RowKit
def strOf (p:List Nat):ByteArray:=⟨(p.map UInt8.ofNat).toArray⟩
theorem xc5f (s:ByteArray):∀ n i r,s.size - i = n→ByteArray.toList.loop s i r = r.reverse++s.data.toList.drop i:=by
 intro n
 induction n with
 | zero =>
  intro i r h
  rw [ByteArray.toList.loop]
  have h1:s.size = s.data.toList.length:=(Array.length_toList).symm
  rw [if_neg (by omega),List.drop_eq_nil_of_le (by omega),List.append_nil]
 | succ n ih =>
  intro i r h
  rw [ByteArray.toList.loop]
  have h1:s.size = s.data.toList.length:=(Array.length_toList).symm
  have h2:i < s.data.toList.length:=by omega
  rw [if_pos (by omega),ih (i + 1) _ (by omega),List.drop_eq_getElem_cons h2]
  have h3:s.get! i = s.data.toList[i]:=by
   have h4:i < s.data.size:=by simpa using h2
   rw [Array.getElem_toList]
   exact getElem!_pos s.data i h4
  simp [h3]
theorem xa9w (s:ByteArray):s.toList = s.data.toList:=by
 unfold ByteArray.toList
 rw [xc5f s _ 0 [] rfl]
 simp
theorem xb7m {p q:List Nat} (hp:∀ x∈p,x < 256) (hq:∀ x∈q,x < 256) (h:strOf p = strOf q):p = q:=by
 have h1:p.map UInt8.ofNat = q.map UInt8.ofNat:=by
  have:=congrArg (fun b=>b.data.toList) h
  simpa [strOf] using this
 have h2:=congrArg (List.map UInt8.toNat) h1
 simp only [List.map_map] at h2
 have e:∀ l:List Nat,(∀ x∈l,x < 256)→l.map (UInt8.toNat ∘ UInt8.ofNat) = l:=by
  intro l hl
  conv=>rhs; rw [← List.map_id l]
  apply List.map_congr_left
  intro x hx
  have:=hl x hx
  simp [UInt8.toNat_ofNat]; omega
 rw [e p hp,e q hq] at h2
 exact h2
theorem xa8d (v:Value) (p:List Nat) (w:World) (h:Rd w v p) (hu5:Tryz.prog.underlying 5 = some (.int .u8)) (hu9:Tryz.prog.underlying 9 = some .string) :
  (convert 49 9 v).run Tryz.prog w = .ok (.string (strOf p)) w:=by
 obtain ⟨ao,len,cap,rfl,rfl,h2,h3,h4,h5,h6⟩:=h
 have hl:p.length = (p.map UInt8.ofNat).length:=by simp
 cases ao with
 | none =>
  have hz:=h4 rfl
  have hp0:p = []:=List.eq_nil_of_length_eq_zero (by omega)
  subst hp0
  rw [run_convert_bytes_string w 49 9 5 none _ cap Tryz.underlying49 hu5 hu9]
  simp [Conv.bytesToString,strOf]
  rfl
 | some a =>
  rw [hl]
  refine run_convert_bytes_back w 49 9 5 a cap (p.map UInt8.ofNat) Tryz.underlying49 hu5 hu9 (fun j hj=>?_)
  simp at hj
  obtain ⟨b,off,he,hc⟩:=h6 (by omega)
  cases he
  have:=hc j hj
  rw [Addr.add_mid,this]
  have hb:=h5 (p[j]) (List.getElem_mem hj)
  simp [u8,List.getD_eq_getElem?_getD,List.getElem?_eq_getElem hj,UInt8.toNat_ofNat]
  omega
end
section
open Go.RowKit Go.BigFrame
def VarsS (w : World) : Prop := Lib.TabIs Tryz.prog w "internal/strconv.uint64pow10" .u64 Lib.pow10Tab ∧ (∃ tp p, w.var? Tryz.prog "strconv.ErrSyntax" = some #[.iface tp p]) ∧ ∃ tp p, w.var? Tryz.prog "strconv.ErrRange" = some #[.iface tp p]
theorem xa8u {P:Program} {w w':World} {n:String} {cs:Array Value} (h:w.var? P n = some cs) (k:Kept [] w w'):w'.var? P n = some cs:=by
 unfold World.var? at h ⊢
 cases hg:P.globalNamed n with
 | none=>rw [hg] at h; simp at h
 | some g =>
  rw [hg] at h
  simp only [Option.bind_some] at h ⊢
  cases hb:w.heap[g]? with
  | none=>rw [hb] at h; simp at h
  | some o=>rw [k.heap hb (by simp)]; rw [hb] at h; exact h
theorem VarsS.old {w w':World} (h:VarsS w) (k:Kept [] w w'):VarsS w':=by
 obtain ⟨h1,⟨t1,p1,h2⟩,t2,p2,h3⟩:=h
 exact ⟨xa8u h1 k,⟨t1,p1,xa8u h2 k⟩,t2,p2,xa8u h3 k⟩
theorem xb1j {α:Type} [Inhabited α] (enc:α→Value) (w:World) (blk off:Nat) (d:Array α):Kept [blk] w (Go.Sort.putRow enc w blk off d):=by
 refine ⟨rfl,rfl,rfl,by simp [Go.Sort.putRow,Go.Sort.mapBlock],fun k hk hn=>?_⟩
 simp only [List.mem_singleton] at hn
 simp only [Go.Sort.putRow,Go.Sort.mapBlock,Array.getElem?_modify]
 rw [if_neg (fun h=>hn h.symm)]
set_option maxHeartbeats 2000000 in
theorem xb9l (u:Nat) (w:World) (hu:u < 18446744073709551616) (hv:VarsS w) :
  Calls Tryz.prog 96 #[.int .u64 u,.int .i64 10] w fun e w'=>e = .returned (.string (strB (dgs (Lib.nDigits u) u)))∧Kept [] w w':=by
 have HV:=hide hv
 have HD:=hide (xc1u u)
 clear hv
 by_cases hs:u < 100
 ·have hw:IntKind.i64.wrap (u:Int) = (u:Int):=by simp [IntKind.wrap,IntKind.signed,IntKind.bits]; omega
  have hlt:(u:Int) < 100:=by omega
  go_enter Tryz.func96,Tryz.ntmps96
  go_wp2_with fail
  refine Calls.mono (Tryz.internal_strconv_small u hs _) ?_
  rintro e w1 ⟨rfl,rfl⟩
  go_wp2
  go_ret
  exact ⟨by rw [← uh HD]; rfl,Kept.refl _ _⟩
 ·have hlt:¬ (u:Int) < 100:=by omega
  have HN:=hide (by have:=Lib.numDigits_eq u (by omega) hu; split at this <;> omega:Lib.nDigits u≤20)
  have HP:=hide (Lib.lt_pow_nDigits u)
  obtain ⟨nd,hnd⟩:∃ nd,Lib.nDigits u = nd:=⟨_,rfl⟩
  have HNum:=hide (fun W (hW:VarsS W)=>Tryz.internal_strconv_numDigits u (by omega) hu W hW.1)
  simp only [hnd] at HNum
  rw [hnd] at HN HP ⊢
  clear hnd HD
  have HK0:=hide ((Kept.refl [] w).alloc (.cells Lib.zeros24 237))
  have hn24:(nd:Int)≤24:=by have:=uh HN; omega
  go_enter Tryz.func96,Tryz.ntmps96
  go_wp2_with fail
  refine Calls.mono (uh HNum _ ((uh HV).old (uh HK0))) ?_
  rintro e w1 ⟨rfl,rfl⟩
  have hH0:=Lib.holds_zero0 w 237 nd (by have:=uh HN; omega)
  have hfmt:=Tryz.internal_strconv_formatBase10 w.heap.size 0 24 u (Array.replicate nd 0) (w.alloc (.cells Lib.zeros24 237)) hH0 (by rw [Array.size_replicate]; exact uh HP) hu (by rw [Array.size_replicate]; have:=uh HN; omega)
  rw [Array.size_replicate] at hfmt
  have HH0:=hide hH0
  have HF:=hide hfmt
  clear hH0 hfmt HNum
  go_wp2_with fail
  refine Calls.mono (uh HF) ?_
  rintro e w2 ⟨rfl,n2,v2,dk,rfl,hinv⟩
  have HI:=hide hinv
  clear hinv HF
  have hR:Rd ((Go.Sort.putRow (fun (b:UInt8)=>Value.int .u8 (b.toNat:Int)) (w.alloc (.cells Lib.zeros24 237)) w.heap.size 0 dk).drewN n2) (.slice (some ⟨w.heap.size,0,none⟩) nd 24) (dgs nd u):=by
   have hh:=Go.Sort.holds_putRow (fun (b:UInt8)=>Value.int .u8 (b.toNat:Int)) (w.alloc (.cells Lib.zeros24 237)) w.heap.size 0 (Array.replicate nd 0) dk (uh HH0) (by rw [(uh HI).size,Array.size_replicate])
   refine ⟨_,_,_,rfl,xa7g nd u,by have:=uh HN; omega,⟨by omega,by have:=uh HN; omega⟩,by simp,xb6r nd u,fun _=>⟨w.heap.size,0,rfl,fun i hi=>?_⟩⟩
   have h1:=(hh i (by rw [(uh HI).size]; exact hi)).1
   have h2:=(uh HI).done i (Nat.zero_le _) hi
   rw [h2] at h1
   refine (show _ = _ from h1).trans ?_
   have h3:(dgs nd u).getD i 0 = 48 + u / 10 ^ (nd - 1 - i) % 10:=by simp [dgs,List.getD_eq_getElem?_getD,hi]
   rw [h3]
   have h4:48 + u / 10 ^ (nd - 1 - i) % 10 < 256:=by omega
   simp [Lib.dg,u8,Nat.mod_eq_of_lt h4]
  have hk:Kept [] w ((Go.Sort.putRow (fun (b:UInt8)=>Value.int .u8 (b.toNat:Int)) (w.alloc (.cells Lib.zeros24 237)) w.heap.size 0 dk).drewN n2):=by
   refine ((uh HK0).trans (M:=[w.heap.size]) (c:=Go.Sort.putRow (fun (b:UInt8)=>Value.int .u8 (b.toNat:Int)) (w.alloc (.cells Lib.zeros24 237)) w.heap.size 0 dk) ?_ (by simp)).drewN n2
   exact xb1j _ _ _ _ _
  have HK2:=hide hk
  have hu5:Tryz.prog.underlying 5 = some (.int .u8):=by kernel_rfl
  have hu9:Tryz.prog.underlying 9 = some .string:=by kernel_rfl
  have hc:=xa8d _ _ _ hR hu5 hu9
  obtain ⟨W2,hW2⟩:∃ W2,(Go.Sort.putRow (fun (b:UInt8)=>Value.int .u8 (b.toNat:Int)) (w.alloc (.cells Lib.zeros24 237)) w.heap.size 0 dk).drewN n2 = W2:=⟨_,rfl⟩
  rw [hW2] at hc HK2 ⊢
  clear hW2 hR hk HH0 HI
  go_wp2
  go_ret
  exact ⟨rfl,uh HK2⟩
end
section
open Go.RowKit
theorem xa3m {w:World} {b b' e s n:Nat} {v:Value} {xs:List Value} (h:w.ownsRow b e s v n xs) (hb:b'≤b):w.ownsRow b' e s v n xs:=by
 refine ⟨h.1,?_⟩
 rcases h.2 with h9 | ⟨g,cap,cur,h1,h2,h3⟩
 ·exact .inl h9
 ·exact .inr ⟨g,cap,cur,h1,Nat.le_trans hb h2,h3⟩
attribute [local go_sem ↓] Go.wp_at_zero Go.wp_at_succ
attribute [local go_sem ↓] Go.wp_at_zero Go.wp_at_succ
theorem Rd.take {w:World} {ao:Option Addr} {cap n:Nat} {p:List Nat} (h:Rd w (.slice ao p.length cap) p) (hn:n≤p.length):Rd w (.slice ao n cap) (p.take n):=by
 obtain ⟨ao',len',cap',he,_,h2,⟨h3,h3'⟩,h4,h5,h6⟩:=h
 cases he
 refine ⟨_,_,_,rfl,by simp; omega,by omega,⟨h3,by omega⟩,h4,fun x hx=>h5 x (List.mem_of_mem_take hx),fun hp=>?_⟩
 obtain ⟨b,off,rfl,hc⟩:=h6 (by omega)
 refine ⟨b,off,rfl,fun i hi=>?_⟩
 rw [hc i (by omega)]
 simp [List.getD_eq_getElem?_getD,List.getElem?_take,hi]
def rBlob (p:List Nat) (i e:Nat) (m:Int):List Nat × Nat × Nat :=
 if e≠0 then ([],i,e) else if m < 0 then ([],i,1) else if (fuv (p.drop i) 0 0).2 = 0 then ([],i,3) else if m < (fuv (p.drop i) 0 0).1 then ([],i,2)
 else if (p.drop i).length - (fuv (p.drop i) 0 0).2 < (fuv (p.drop i) 0 0).1 then ([],i,3)
 else (((p.drop i).drop (fuv (p.drop i) 0 0).2).take (fuv (p.drop i) 0 0).1,i + ((fuv (p.drop i) 0 0).2 + (fuv (p.drop i) 0 0).1),0)
theorem fuv_lt (q:List Nat):∀ k a,a < 128 ^ k→k≤9→(fuv q k a).1 < 18446744073709551616:=by
 induction q with
 | nil=>intro k a _ _; simp [fuv]
 | cons c r ih =>
  intro k a ha hk
  have hn:=xa6o k c a ha
  rw [fuv]
  split
  ·simp
  ·rename_i h9
   split
   ·rename_i hb
    exact ih (k + 1) _ hn (by omega)
   ·split
    ·simp
    ·simp only
     rcases Nat.lt_or_ge k 9 with h | h
     ·have h1:128 ^ (k + 1)≤128 ^ 9:=Nat.pow_le_pow_right (by omega) (by omega)
      have h3:(128:Nat) ^ 9 = 9223372036854775808:=(by decide)
      omega
     ·have hk9:k = 9:=by omega
      subst hk9
      have hc:c = 1:=by omega
      subst hc
      have h3:(128:Nat) ^ 9 = 9223372036854775808:=(by decide)
      omega
theorem Rd.sub0 {w:World} {ao:Option Addr} {cap s x:Nat} {q:List Nat} (h:Rd w (.slice ao q.length cap) q) (hc:cap = s) (hs:s + x≤q.length):Rd w (.slice ao x 0) ((q.drop s).take x):=by
 have h1:=h.drop0 hc (by omega)
 obtain ⟨_,_,_,he,_,h2,_⟩:=h
 cases he
 have hx:x = 0:=by omega
 subst hx
 have h3:(q.drop s).length = q.length - s:=by simp
 rw [← h3] at h1
 exact h1.take (by omega)
theorem Rd.sub {w:World} {ao:Option Addr} {cap s x:Nat} {q:List Nat} (h:Rd w (.slice ao q.length cap) q) (hs:s + x≤q.length):Rd w (.slice (Option.map (fun x=>x.add s) ao) x (cap - s)) ((q.drop s).take x):=by
 have h1:=h.drop (i:=s) (by omega)
 have h3:(q.drop s).length = q.length - s:=by simp
 rw [← h3] at h1
 exact h1.take (by omega)
set_option maxHeartbeats 4000000 in
theorem xb0k (b:Nat) (gv:Value) (p:List Nat) (i e:Nat) (n:Int) (w:World) (h:ReAt w b gv p i e) (hn:-9223372036854775808≤n∧n≤9223372036854775807) :
  Calls Tryz.prog 233 #[.pointer (some ⟨b,0,none⟩),.int .i64 n] w fun r w'=>∃ rv,r = .returned rv∧Rd w' rv (rBlob p i e n).1∧ReAt w' b gv p (rBlob p i e n).2.1 (rBlob p i e n).2.2∧Kept [b] w w'∧∀ x∈blk rv,w.heap.size≤x:=by
 have HR:=hide h
 have c1:=h.c1
 have c2:=h.c2
 have f1:=h.free 1
 have f2:=h.free 2
 have hl:p.length≤140737488355328:=h.rd.len
 have hle:=h.le
 have hne:=hide h.ne
 have hblt:=h.lt
 clear h
 by_cases he:e = 0
 ·subst he
  obtain ⟨q,hq⟩:∃ q,p.drop i = q:=⟨_,rfl⟩
  have hql:q.length = p.length - i:=by rw [← hq]; simp
  have HVdef:=hide (by simp only [rBlob,hq,ne_eq,not_true_eq_false,if_false]:rBlob p i 0 n = if n < 0 then ([],i,1) else if (fuv q 0 0).2 = 0 then ([],i,3) else if n < (fuv q 0 0).1 then ([],i,2) else if q.length - (fuv q 0 0).2 < (fuv q 0 0).1 then ([],i,3) else ((q.drop (fuv q 0 0).2).take (fuv q 0 0).1,i + ((fuv q 0 0).2 + (fuv q 0 0).1),0))
  have hfl:=fuv_le q 0 0
  have hfx:=fuv_lt q 0 0 (by decide) (by decide)
  have Hq:=hide hq
  have hq47:q.length≤140737488355328:=by omega
  have hqp:i + q.length≤p.length:=by omega
  clear hq hql
  obtain ⟨x,s,hx⟩:∃ x s,fuv q 0 0 = (x,s):=⟨_,_,rfl⟩
  rw [hx] at HVdef hfl hfx
  simp only [Nat.zero_add] at HVdef hfl hfx
  have HX:=hide hx
  clear hx
  have hx':(x:Int)≤18446744073709551615:=by omega
  by_cases hn0:n < 0
  ·have HV:=hide (by rw [uh HVdef,if_pos hn0]:rBlob p i 0 n = ([],i,1))
   go_enter Tryz.func233,Tryz.ntmps233
   go_wp2_with (first
    | (go_at_call 194; go_must (refine (xa0m b gv p i 0 _ (uh HR)).mono ?_; rintro r w1 ⟨rfl,hw1⟩; subst w1))
    | (go_at_call 197; go_must (refine (xa0t b gv p i 0 _ (uh HR)).mono ?_; rintro r w1 ⟨lv,rfl,⟨m,hw1⟩,hq,hb⟩; subst w1; rw [uh Hq] at hq; have HQ:=hide hq; have HB:=hide hb; obtain ⟨ao,len,cap,rfl,rfl,h2,⟨h3,h3'⟩,_⟩:=hq; clear hb))
    | (go_at_call 231; go_must (refine (xa4p _ q _ (by exact (uh HQ).drewN _)).mono ?_; rintro r w1 ⟨rfl,hw1⟩; subst w1; rw [uh HX])))
   go_ret
   rw [uh HV]
   exact ⟨_,rfl,Rd.nil _,((uh HR).drewN _).setFault 1,((Kept.refl [b] w).drewN _).setCell (by simp) _,by simp [blk]⟩
  ·obtain ⟨mo,rfl⟩:∃ mo:Nat,n = mo:=⟨n.toNat,by omega⟩
   have HV2:=hide (by rw [uh HVdef,if_neg hn0]:rBlob p i 0 mo = if s = 0 then ([],i,3) else if (mo:Int) < x then ([],i,2) else if q.length - s < x then ([],i,3) else ((q.drop s).take x,i + (s + x),0))
   have hmo:(0:Int)≤mo:=by omega
   have hmo2:(mo:Int)≤9223372036854775807:=hn.2
   clear HVdef
   by_cases hs0:s = 0
   ·have HV:=hide (by rw [uh HV2,if_pos hs0]:rBlob p i 0 mo = ([],i,3))
    subst hs0
    go_enter Tryz.func233,Tryz.ntmps233
    go_wp2_with (first
     | (go_at_call 194; go_must (refine (xa0m b gv p i 0 _ (uh HR)).mono ?_; rintro r w1 ⟨rfl,hw1⟩; subst w1))
     | (go_at_call 197; go_must (refine (xa0t b gv p i 0 _ (uh HR)).mono ?_; rintro r w1 ⟨lv,rfl,⟨m,hw1⟩,hq,hb⟩; subst w1; rw [uh Hq] at hq; have HQ:=hide hq; have HB:=hide hb; obtain ⟨ao,len,cap,rfl,rfl,h2,⟨h3,h3'⟩,_⟩:=hq; clear hb))
     | (go_at_call 231; go_must (refine (xa4p _ q _ (by exact (uh HQ).drewN _)).mono ?_; rintro r w1 ⟨rfl,hw1⟩; subst w1; rw [uh HX])))
    go_ret
    rw [uh HV]
    exact ⟨_,rfl,Rd.nil _,((uh HR).drewN _).setFault 3,((Kept.refl [b] w).drewN _).setCell (by simp) _,by simp [blk]⟩
   ·have ts:((s:Int) == 0) = false:=by simp; omega
    by_cases hm:(mo:Int) < x
    ·have HV:=hide (by rw [uh HV2,if_neg hs0,if_pos hm]:rBlob p i 0 mo = ([],i,2))
     go_enter Tryz.func233,Tryz.ntmps233
     go_wp2_with (first
      | (go_at_call 194; go_must (refine (xa0m b gv p i 0 _ (uh HR)).mono ?_; rintro r w1 ⟨rfl,hw1⟩; subst w1))
      | (go_at_call 197; go_must (refine (xa0t b gv p i 0 _ (uh HR)).mono ?_; rintro r w1 ⟨lv,rfl,⟨m,hw1⟩,hq,hb⟩; subst w1; rw [uh Hq] at hq; have HQ:=hide hq; have HB:=hide hb; obtain ⟨ao,len,cap,rfl,rfl,h2,⟨h3,h3'⟩,_⟩:=hq; clear hb))
      | (go_at_call 231; go_must (refine (xa4p _ q _ (by exact (uh HQ).drewN _)).mono ?_; rintro r w1 ⟨rfl,hw1⟩; subst w1; rw [uh HX])))
     go_ret
     rw [uh HV]
     exact ⟨_,rfl,Rd.nil _,((uh HR).drewN _).setFault 2,((Kept.refl [b] w).drewN _).setCell (by simp) _,by simp [blk]⟩
    ·by_cases hlt:q.length - s < x
     ·have HV:=hide (by rw [uh HV2,if_neg hs0,if_neg hm,if_pos hlt]:rBlob p i 0 mo = ([],i,3))
      have hlt':(q.length:Int) - s < x:=by omega
      go_enter Tryz.func233,Tryz.ntmps233
      go_wp2_with (first
       | (go_at_call 194; go_must (refine (xa0m b gv p i 0 _ (uh HR)).mono ?_; rintro r w1 ⟨rfl,hw1⟩; subst w1))
       | (go_at_call 197; go_must (refine (xa0t b gv p i 0 _ (uh HR)).mono ?_; rintro r w1 ⟨lv,rfl,⟨m,hw1⟩,hq,hb⟩; subst w1; rw [uh Hq] at hq; have HQ:=hide hq; have HB:=hide hb; obtain ⟨ao,len,cap,rfl,rfl,h2,⟨h3,h3'⟩,_⟩:=hq; clear hb))
       | (go_at_call 231; go_must (refine (xa4p _ q _ (by exact (uh HQ).drewN _)).mono ?_; rintro r w1 ⟨rfl,hw1⟩; subst w1; rw [uh HX])))
      go_ret
      rw [uh HV]
      exact ⟨_,rfl,Rd.nil _,((uh HR).drewN _).setFault 3,((Kept.refl [b] w).drewN _).setCell (by simp) _,by simp [blk]⟩
     ·have HV:=hide (by rw [uh HV2,if_neg hs0,if_neg hm,if_neg hlt]:rBlob p i 0 mo = ((q.drop s).take x,i + (s + x),0))
      have hlt':¬ (q.length:Int) - s < x:=by omega
      have hxq:(s:Int) + x≤q.length:=by omega
      have hx47:(x:Int)≤140737488355328:=by omega
      go_enter Tryz.func233,Tryz.ntmps233
      go_wp2_with (first
       | (go_at_call 194; go_must (refine (xa0m b gv p i 0 _ (uh HR)).mono ?_; rintro r w1 ⟨rfl,hw1⟩; subst w1))
       | (go_at_call 197; go_must (refine (xa0t b gv p i 0 _ (uh HR)).mono ?_; rintro r w1 ⟨lv,rfl,⟨m,hw1⟩,hq,hb⟩; subst w1; rw [uh Hq] at hq; have HQ:=hide hq; have HB:=hide hb; obtain ⟨ao,len,cap,rfl,rfl,h2,⟨h3,h3'⟩,_⟩:=hq; clear hb))
       | (go_at_call 231; go_must (refine (xa4p _ q _ (by exact (uh HQ).drewN _)).mono ?_; rintro r w1 ⟨rfl,hw1⟩; subst w1; rw [uh HX])))
      all_goals
       have hrd0:=(uh HQ).kept (((Kept.refl [b] w).drewN m).setCell (p:=⟨b,1,none⟩) (by simp) (.int .i64 ((i:Int) + ((s:Int) + x)))) (by intro y hy; simp; rintro rfl; exact uh hne (uh HB _ hy))
       have HFin:=hide (((uh HR).drewN m).setAt (i + (s + x)) (by omega))
       have HK:=hide (((Kept.refl [b] w).drewN m).setCell (p:=⟨b,1,none⟩) (by simp) (.int .i64 ((i:Int) + ((s:Int) + x))))
       rw [show (((i + (s + x):Nat):Int)) = (i:Int) + ((s:Int) + x) from by omega] at HFin
       have hsz:((w.drewN m).setCell ⟨b,1,none⟩ (.int .i64 ((i:Int) + ((s:Int) + x)))).heap.size = w.heap.size:=by simp [World.setCell,World.drewN]
       obtain ⟨W,hW⟩:∃ W,(w.drewN m).setCell ⟨b,1,none⟩ (.int .i64 ((i:Int) + ((s:Int) + x))) = W:=⟨_,rfl⟩
       rw [hW] at hrd0 HFin HK hsz ⊢
       have hlt2:((q.drop s).take x).length = x:=by simp; omega
       have hby:∀ y∈(q.drop s).take x,y < 256:=fun y hy=>hrd0.byte y (List.mem_of_mem_drop (List.mem_of_mem_take hy))
       refine (xa4q _ ((q.drop s).take x) _ (by first | exact hrd0.sub0 (by assumption) (by omega) | exact hrd0.sub (by omega))).mono ?_
       rintro r w2 ⟨rfl,hk2,hg2⟩
       have HG2:=hide hg2
       have HK2:=hide hk2
       have HB2:=hide hby
       clear hrd0 hg2 hk2 hW hby
       rw [hlt2,hsz]
       rw [hsz] at HG2
       have Hlt:=hide hlt2
       have Hsz:=hide hsz
       clear hlt2 hsz
       go_wp2
       go_ret
       rw [uh HV]
       refine ⟨_,rfl,?_,(uh HFin).kept (uh HK2) (by simp) (by simp),(uh HK).trans (uh HK2) (by simp),by simp [blk]⟩
       have hfin:=xa4c (uh HG2) (uh HB2) (by rw [uh Hlt]; omega)
       rw [uh Hlt] at hfin; exact hfin
 ·have he':((e:Int) != 0) = true:=by rw [bne_iff_ne]; omega
  have HV:=hide (by simp [rBlob,he]:rBlob p i e n = ([],i,e))
  clear he
  go_enter Tryz.func233,Tryz.ntmps233
  go_wp2_with (go_at_call 194; go_must (refine (xa0m b gv p i e _ (uh HR)).mono ?_; rintro r w1 ⟨rfl,hw1⟩; subst w1))
  go_ret
  rw [uh HV]
  exact ⟨_,rfl,Rd.nil _,uh HR,Kept.refl _ _,by simp [blk]⟩
end
section
open Go.RowKit Go.BigFrame
structure En where
 k:Nat
 key:List Nat
 val:List Nat
deriving DecidableEq
def enC (e:En) (kv vv:Value):Array Value:=#[.int .u8 (e.k:Int),kv,vv]
structure OkE (w:World) (e:En) (kv vv:Value):Prop where
 k:e.k < 256
 key:Rd w kv e.key
 val:Rd w vv e.val
theorem OkE.old {w w':World} {e:En} {kv vv:Value} (h:OkE w e kv vv) (k:Kept [] w w'):OkE w' e kv vv:=⟨h.k,h.key.old k (by simp),h.val.old k (by simp)⟩
def chkE (e:En):Nat:=if 64 < e.key.length∨256 < e.val.length then 2 else if (e.k≠1∧e.k≠2)∨(e.k = 2∧0 < e.val.length) then 3 else 0
def enB (e:En):List Nat:=e.k :: (uv e.key.length++e.key++(if e.k = 1 then uv e.val.length++e.val else []))
set_option maxHeartbeats 1000000 in
theorem xa7b (k:Nat) (w:World) :
  Calls Tryz.prog 232 #[.int .u8 k] w fun e w'=>e = .returned (.bool (decide (k = 1∨k = 2)))∧w' = w:=by
 by_cases h1:k = 1
 ·have HD:=hide (decide_eq_true (Or.inl h1:k = 1∨k = 2))
  have e1:((k:Int) == 1) = true:=by rw [h1]; rfl
  clear h1
  go_enter Tryz.func232,Tryz.ntmps232
  go_wp2
  go_ret
  exact ⟨by rw [uh HD]; rfl,rfl⟩
 ·have e1:((k:Int) == 1) = false:=by rw [beq_eq_false_iff_ne]; omega
  by_cases h2:k = 2
  ·have HD:=hide (decide_eq_true (Or.inr h2:k = 1∨k = 2))
   have e2:((k:Int) == 2) = true:=by rw [h2]; rfl
   clear h1 h2
   go_enter Tryz.func232,Tryz.ntmps232
   go_wp2
   go_ret
   exact ⟨by rw [uh HD]; rfl,rfl⟩
  ·have HD:=hide (decide_eq_false (by omega:¬ (k = 1∨k = 2)))
   have e2:((k:Int) == 2) = false:=by rw [beq_eq_false_iff_ne]; omega
   clear h1 h2
   go_enter Tryz.func232,Tryz.ntmps232
   go_wp2
   go_ret
   exact ⟨by rw [uh HD]; rfl,rfl⟩
set_option maxHeartbeats 1000000 in
theorem xb8b (e:En) (kv vv:Value) (w:World) (h:OkE w e kv vv) :
  Calls Tryz.prog 208 #[.agg (enC e kv vv)] w fun r w'=>r = .returned (.int .i64 (chkE e))∧Kept [] w w':=by
 obtain ⟨E,hE⟩:∃ E,chkE e = E:=⟨_,rfl⟩
 rw [hE]
 have HE:=hide hE
 clear hE
 obtain ⟨a1,n1,c1,rfl,hn1,_⟩:=id h.key
 obtain ⟨a2,n2,c2,rfl,hn2,_⟩:=id h.val
 obtain ⟨k,key,val⟩:=e
 simp only at hn1 hn2
 subst hn1
 subst hn2
 unfold enC
 have HK0:=hide ((Kept.refl [] w).alloc (.cells #[.int .u8 (k:Int),.slice a1 key.length c1,.slice a2 val.length c2] 71))
 go_enter Tryz.func208,Tryz.ntmps208
 by_cases h1:64 < key.length
 ·have h1':(64:Int) < key.length:=by omega
  have HE2:=hide (by rw [← uh HE]; simp [chkE,h1]:E = 2)
  go_wp2
  go_ret
  exact ⟨by rw [uh HE2]; rfl,uh HK0⟩
 ·have h1':¬ (64:Int) < key.length:=by omega
  by_cases h2:256 < val.length
  ·have h2':(256:Int) < val.length:=by omega
   have HE2:=hide (by rw [← uh HE]; simp [chkE,h2]:E = 2)
   go_wp2
   go_ret
   exact ⟨by rw [uh HE2]; rfl,uh HK0⟩
  ·have h2':¬ (256:Int) < val.length:=by omega
   go_wp2_with fail
   refine Calls.mono (xa7b k _) ?_
   rintro r w1 ⟨rfl,rfl⟩
   by_cases hk:k = 1∨k = 2
   ·rw [decide_eq_true hk]
    by_cases hk2:k = 2
    ·have e2:((k:Int) == 2) = true:=by rw [hk2]; rfl
     by_cases hv:0 < val.length
     ·have hv':(0:Int) < val.length:=by omega
      have HE2:=hide (by rw [← uh HE]; simp [chkE,h1,h2,hk2,hv]:E = 3)
      clear hk hk2
      go_wp2
      go_ret
      exact ⟨by rw [uh HE2]; rfl,uh HK0⟩
     ·have hv':¬ (0:Int) < val.length:=by omega
      have HE2:=hide (by rw [← uh HE]; simp [chkE,h1,h2,hk2,hv]:E = 0)
      clear hk hk2
      go_wp2
      go_ret
      exact ⟨by rw [uh HE2]; rfl,uh HK0⟩
    ·have e2:((k:Int) == 2) = false:=by rw [beq_eq_false_iff_ne]; omega
     have HE2:=hide (by rw [← uh HE]; have hk1:k = 1:=(by omega); simp [chkE,h1,h2,hk1]:E = 0)
     clear hk hk2
     go_wp2
     go_ret
     exact ⟨by rw [uh HE2]; rfl,uh HK0⟩
   ·rw [decide_eq_false hk]
    have HE2:=hide (by rw [← uh HE]; have hk1:k≠1∧k≠2:=(by omega); simp [chkE,h1,h2,hk1]:E = 3)
    clear hk
    go_wp2
    go_ret
    exact ⟨by rw [uh HE2]; rfl,uh HK0⟩
theorem Wn.notNew {w0 w:World} {b:Nat} {v:Value} {bs:List Nat} (h:Wn w0 w b v bs):w.heap.size∉b :: v.ownBlock.toList:=by
 intro hx
 rcases List.mem_cons.1 hx with hx | hx
 ·have:=h.at_.lt; omega
 ·have:=h.at_.ownlt (g:=w.heap.size) (by simpa [Option.mem_toList] using hx); omega
theorem xa4a (w:World) (a:Obj) (b:Obj):((w.alloc a).alloc b).heap[w.heap.size + 1]? = some b:=by
 have h9:=heap_alloc_new (w.alloc a) b
 have e:(w.alloc a).heap.size = w.heap.size + 1:=Array.size_push _
 rw [e] at h9
 exact h9
set_option maxHeartbeats 1000000 in
theorem xa9a {w0 w:World} {b:Nat} {v:Value} {bs:List Nat} (e:En) (kv vv:Value) (h:Wn w0 w b v bs) (he:OkE w0 e kv vv) (hl:bs.length + e.key.length + e.val.length≤1000000000000) :
  Calls Tryz.prog 155 #[.pointer (some ⟨b,0,none⟩),.agg (enC e kv vv)] w fun r w'=>r = .returned (.tuple #[])∧∃ v',Wn w0 w' b v' (bs++enB e):=by
 have HW:=hide h
 have HE:=hide he
 have hk:=he.k
 obtain ⟨a1,n1,c1,rfl,hn1,_⟩:=id he.key
 obtain ⟨a2,n2,c2,rfl,hn2,_⟩:=id he.val
 obtain ⟨k,key,val⟩:=e
 simp only at hn1 hn2 hk hl
 subst hn1
 subst hn2
 clear h he
 unfold enC
 have HG:=hide (heap_alloc_new w (.cells #[.int .u8 (k:Int),.slice a1 key.length c1,.slice a2 val.length c2] 71))
 have HWW:=hide ((uh HW).pass ((Kept.refl [] w).alloc (.cells #[.int .u8 (k:Int),.slice a1 key.length c1,.slice a2 val.length c2] 71)))
 have HNN:=hide (uh HW).notNew
 go_enter Tryz.func155,Tryz.ntmps155
 go_wp2_with fail
 obtain ⟨W,hW⟩:∃ W,w.alloc (.cells #[.int .u8 (k:Int),.slice a1 key.length c1,.slice a2 val.length c2] 71) = W:=⟨_,rfl⟩
 rw [hW] at HG HWW ⊢
 clear hW
 have HC0:=hide (by rw [cell_of_row _ _ _ _ _ _ (uh HG)]; rfl:W.cell? ⟨w.heap.size,0,none⟩ = some (.int .u8 (k:Int)))
 have HC1:=hide (by rw [cell_of_row _ _ _ _ _ _ (uh HG)]; rfl:W.cell? ⟨w.heap.size,1,none⟩ = some (.slice a1 key.length c1))
 have HC2:=hide (by rw [cell_of_row _ _ _ _ _ _ (uh HG)]; rfl:W.cell? ⟨w.heap.size,2,none⟩ = some (.slice a2 val.length c2))
 refine Calls.mono (xb9x b v bs k W (uh HWW).at_ hk (by omega)) ?_
 rintro r w1 ⟨rfl,v1,h1,g1⟩
 have d0:=g1.kept.cell (uh HC0) (uh HNN)
 have d1:=g1.kept.cell (uh HC1) (uh HNN)
 have HW1:=hide ((uh HWW).grew h1 g1)
 have HG1:=hide g1
 rw [show bs++wide k 1 = bs++[k] by simp [wide,Nat.mod_eq_of_lt hk]] at HW1
 clear h1 g1
 have HU1:=hide (uv_len key.length (by omega))
 have HU2:=hide (uv_len val.length (by omega))
 go_wp2_with fail
 refine Calls.mono (xb0p b v1 _ (bs++[k]) key w1 (uh HW1).at_ (fun w' kk=>(uh HW1).rd (uh HE).key kk) (by simp only [List.length_append,List.length_cons,List.length_nil]; omega)) ?_
 rintro r w2 ⟨rfl,v2,h2,g2⟩
 have g12:=(uh HG1).trans g2
 have q0:=g12.kept.cell (uh HC0) (uh HNN)
 have q2:=g12.kept.cell (uh HC2) (uh HNN)
 have HW2:=hide ((uh HW1).grew h2 g2)
 clear h2 g2 g12 d0 d1
 by_cases hk1:k = 1
 ·have e1:((k:Int) == 1) = true:=by rw [hk1]; rfl
  have HB:=hide (by simp [enB,hk1]:enB ⟨k,key,val⟩ = k :: (uv key.length++key++(uv val.length++val)))
  clear hk1
  go_wp2_with fail
  refine Calls.mono (xc3p (uh HW2) (uh HE).val (by have:=uh HU1; have:=uh HU2; simp only [List.length_append,List.length_cons,List.length_nil]; omega)) ?_
  rintro r w3 ⟨rfl,v3,h3⟩
  have HW3:=hide h3
  clear h3
  go_wp2
  go_end0
  refine ⟨rfl,v3,?_⟩
  rw [uh HB]
  have h9:=uh HW3
  simpa only [List.append_assoc,List.cons_append,List.nil_append] using h9
 ·have e1:((k:Int) == 1) = false:=by rw [beq_eq_false_iff_ne]; omega
  have HB:=hide (by simp [enB,hk1]:enB ⟨k,key,val⟩ = k :: (uv key.length++key))
  clear hk1
  go_wp2
  go_end0
  refine ⟨rfl,v2,?_⟩
  rw [uh HB]
  have h9:=uh HW2
  simpa only [List.append_assoc,List.cons_append,List.nil_append] using h9

theorem en_eq (a b:En):decide (a = b) = (decide (a.k = b.k) && (decide (a.key = b.key) && decide (a.val = b.val))):=by
 cases a; cases b; simp
set_option maxHeartbeats 1000000 in
theorem xa7o (a b:En) (ka va kb vb:Value) (w:World) (ha:OkE w a ka va) (hb:OkE w b kb vb) :
  Calls Tryz.prog 152 #[.agg (enC a ka va),.agg (enC b kb vb)] w fun r w'=>r = .returned (.bool (decide (a = b)))∧Kept [] w w':=by
 rw [en_eq]
 obtain ⟨k,key,val⟩:=a
 obtain ⟨k',key',val'⟩:=b
 have HA:=hide ha
 have HB:=hide hb
 clear ha hb
 simp only
 obtain ⟨X,hX⟩:∃ X,decide (key = key') = X:=⟨_,rfl⟩
 obtain ⟨Y,hY⟩:∃ X,decide (val = val') = X:=⟨_,rfl⟩
 rw [hX,hY]
 have HX:=hide hX
 have HY:=hide hY
 clear hX hY
 unfold enC
 simp only
 have HG:=hide (((Kept.refl [] (w.alloc (.cells #[.int .u8 (k:Int),ka,va] 71))).alloc (.cells #[.int .u8 (k':Int),kb,vb] 71)).heap (heap_alloc_new w (.cells #[.int .u8 (k:Int),ka,va] 71)) (by simp))
 have HH:=hide (xa4a w (.cells #[.int .u8 (k:Int),ka,va] 71) (.cells #[.int .u8 (k':Int),kb,vb] 71))
 have HK0:=hide (((Kept.refl [] w).alloc (.cells #[.int .u8 (k:Int),ka,va] 71)).alloc (.cells #[.int .u8 (k':Int),kb,vb] 71))
 go_enter Tryz.func152,Tryz.ntmps152
 by_cases hk:k = k'
 ·have e1:((k:Int) == (k':Int)) = true:=by rw [hk]; simp
  rw [decide_eq_true hk]
  have HKE:=hide hk
  clear hk
  go_wp2_with fail
  refine Calls.mono (xb6x _ _ key key' _ ((uh HA).key.old (uh HK0) (by simp)) ((uh HB).key.old (uh HK0) (by simp))) ?_
  rintro r w1 ⟨rfl,n1,rfl⟩
  rw [uh HX]
  clear HX
  have HK1:=hide ((uh HK0).drewN n1)
  have HA1:=hide ((uh HA).val.old (uh HK1) (by simp))
  have HB1:=hide ((uh HB).val.old (uh HK1) (by simp))
  cases X with
  | true =>
   go_wp2_with fail
   refine Calls.mono (xb6x _ _ val val' _ (uh HA1) (uh HB1)) ?_
   rintro r w2 ⟨rfl,n2,rfl⟩
   rw [uh HY]
   clear HY
   go_wp2
   go_ret
   exact ⟨by simp,(uh HK0).drewN _⟩
  | false =>
   go_wp2
   go_ret
   exact ⟨by simp,uh HK1⟩
 ·have e1:((k:Int) == (k':Int)) = false:=by rw [beq_eq_false_iff_ne]; omega
  rw [decide_eq_false hk]
  clear hk
  go_wp2
  go_ret
  exact ⟨by simp,uh HK0⟩
theorem xb6c {w:World} {g:Nat} {a b c:Value} {t:TypeId} (h:w.heap[g]? = some (.cells #[a,b,c] t (0,0))) (x y z:Value):(((w.setCell ⟨g,0,none⟩ x).setCell ⟨g,1,none⟩ y).setCell ⟨g,2,none⟩ z).heap[g]? = some (.cells #[x,y,z] t (0,0)):=by
 rw [heap_setCell_same _ g 2 _ t _ (heap_setCell_same _ g 1 _ t _ (heap_setCell_same w g 0 _ t _ h))]; rfl
theorem xa4d {L:List Nat} {w0 w:World} (k:Kept L w0 w) (g:Nat) (hg:g∈L∨w0.heap.size≤g) (x y z:Value):Kept L w0 (((w.setCell ⟨g,0,none⟩ x).setCell ⟨g,1,none⟩ y).setCell ⟨g,2,none⟩ z):=((k.setCell hg x).setCell hg y).setCell hg z
theorem Tryz.size_entry:(Tryz.prog.info? 71).map (·.size) = some 3:=by kernel_rfl
theorem xc0d (v:Value) (bs:List Nat) (w:World) (h:Rd w v bs) :
  Calls Tryz.prog 113 #[v] w fun e w'=>∃ v',e = .returned v'∧Rd w' v' bs∧(∀ x∈blk v',w.heap.size≤x)∧Kept [] w w' :=
 (xc2c v bs w h).mono fun e w' ⟨h1,h2,h3⟩=>⟨_,h1,xa4c h3 h.byte h.len,by simp [blk],h2⟩
set_option maxHeartbeats 1000000 in
theorem xa7n (e:En) (kv vv:Value) (w:World) (h:OkE w e kv vv) :
  Calls Tryz.prog 104 #[.agg (enC e kv vv)] w fun r w'=>∃ kv' vv',r = .returned (.agg (enC e kv' vv'))∧OkE w' e kv' vv'∧Kept [] w w'∧∀ y,y∈blk kv'∨y∈blk vv'→w.heap.size≤y:=by
 have H:=hide h
 obtain ⟨k,key,val⟩:=e
 clear h
 unfold enC
 simp only
 have HG:=hide (((Kept.refl [] (w.alloc (.cells #[.int .u8 (k:Int),kv,vv] 71))).alloc (.cells #[.int .u8 0,.slice none 0 0,.slice none 0 0] 71)).heap (heap_alloc_new w (.cells #[.int .u8 (k:Int),kv,vv] 71)) (by simp))
 have HZ:=hide (xa4a w (.cells #[.int .u8 (k:Int),kv,vv] 71) (.cells #[.int .u8 0,.slice none 0 0,.slice none 0 0] 71))
 have HK0:=hide (((Kept.refl [] w).alloc (.cells #[.int .u8 (k:Int),kv,vv] 71)).alloc (.cells #[.int .u8 0,.slice none 0 0,.slice none 0 0] 71))
 have HSZ:=hide (show ((w.alloc (.cells #[.int .u8 (k:Int),kv,vv] 71)).alloc (.cells #[.int .u8 0,.slice none 0 0,.slice none 0 0] 71)).heap.size = w.heap.size + 2 by simp)
 go_enter Tryz.func104,Tryz.ntmps104
 go_wp2_with fail
 obtain ⟨W,hW⟩:∃ W,(w.alloc (.cells #[.int .u8 (k:Int),kv,vv] 71)).alloc (.cells #[.int .u8 0,.slice none 0 0,.slice none 0 0] 71) = W:=⟨_,rfl⟩
 rw [hW] at HG HZ HK0 HSZ ⊢
 clear hW
 have x0:W.cell? ⟨w.heap.size,0,none⟩ = some (.int .u8 (k:Int)):=by rw [cell_of_row _ _ _ _ _ _ (uh HG)]; rfl
 have x1:W.cell? ⟨w.heap.size,1,none⟩ = some kv:=by rw [cell_of_row _ _ _ _ _ _ (uh HG)]; rfl
 have x2:W.cell? ⟨w.heap.size,2,none⟩ = some vv:=by rw [cell_of_row _ _ _ _ _ _ (uh HG)]; rfl
 have HX0:=hide x0
 have HX1:=hide x1
 have HX2:=hide x2
 have HKW:=hide (((uh H).key.old (uh HK0) (by simp)).old (Kept.refl [] W).drew (by simp))
 have HVW:=hide ((uh H).val.old (uh HK0) (by simp))
 have hne:w.heap.size≠w.heap.size + 1:=by omega
 go_region_held3 (fun w'=>w'.cell? ⟨w.heap.size,0,none⟩ = some (.int .u8 (k:Int))∧w'.cell? ⟨w.heap.size,1,none⟩ = some kv∧w'.cell? ⟨w.heap.size,2,none⟩ = some vv) (go_keep) (first
  | (go_at_call 113; refine (xc0d _ key _ (by exact uh HKW)).mono ?_; rintro e w3 ⟨v3,rfl,r3,n3,k3⟩; obtain ⟨a3,m3,c3,hu3,_⟩:=id r3; subst hu3; have HR3:=hide r3; have HN3:=hide (show ∀ x∈blk (.slice a3 m3 c3),W.heap.size≤x from n3); have K3:=(Kept.refl [] W).drew.trans k3 (by simp); have HK3:=hide K3; have HV3:=hide ((uh HVW).old K3 (by simp)); have y0:=K3.cell (uh HX0) (by simp); have y1:=K3.cell (uh HX1) (by simp); have y2:=K3.cell (uh HX2) (by simp); clear K3 k3 r3 n3)
  | (go_at_call 113; refine (xc0d _ val _ (by exact uh HV3)).mono ?_; rintro e w4 ⟨v4,rfl,r4,n4,k4⟩; obtain ⟨a4,m4,c4,hu4,_⟩:=id r4; subst hu4; have HR4:=hide r4; have HN4:=hide n4; have HS4:=hide (uh HK3).size; have HQ4:=hide ((uh HR3).old k4 (by simp)); have K4:=(uh HK3).trans k4 (by simp); have HK4:=hide K4; have z0:=K4.cell (uh HX0) (by simp); have z1:=K4.cell (uh HX1) (by simp); have z2:=K4.cell (uh HX2) (by simp); have HZ4:=hide (K4.heap (uh HZ) (by simp)); have t0:=cell_of_row _ _ 0 _ _ _ (uh HZ4); have t1:=cell_of_row _ _ 1 _ _ _ (uh HZ4); have t2:=cell_of_row _ _ 2 _ _ _ (uh HZ4); have f0:=frozen_of_row _ _ 0 _ _ (uh HZ4); have f1:=frozen_of_row _ _ 1 _ _ (uh HZ4); have f2:=frozen_of_row _ _ 2 _ _ (uh HZ4); clear K4 k4 r4 n4))
 all_goals go_wp2
 all_goals
  refine bodyPost_ret (v:=.agg #[.int .u8 (k:Int),.slice a3 m3 c3,.slice a4 m4 c4]) ?_ rfl ⟨.slice a3 m3 c3,.slice a4 m4 c4,rfl,⟨(uh H).k,?_,?_⟩,?_,?_⟩
  ·exact results_cell_row rfl _ _ (w.heap.size + 1) _ #[.int .u8 (k:Int),.slice a3 m3 c3,.slice a4 m4 c4] (0,0) _ rfl (by exact xb6c (uh HZ4) _ _ _) Tryz.underlying71 rfl Tryz.size_entry
  ·refine (uh HQ4).kept (xa4d (Kept.refl [w.heap.size + 1] w4) (w.heap.size + 1) (Or.inl (by simp)) _ _ _) ?_
   intro x hx hm
   have h9:=uh HN3 x hx
   have h8:x = w.heap.size + 1:=by simpa using hm
   have h7:=uh HSZ
   omega
  ·refine (uh HR4).kept (xa4d (Kept.refl [w.heap.size + 1] w4) (w.heap.size + 1) (Or.inl (by simp)) _ _ _) ?_
   intro x hx hm
   have h9:=uh HN4 x hx
   have h8:x = w.heap.size + 1:=by simpa using hm
   have h7:=uh HSZ
   have h6:=uh HS4
   omega
  ·exact xa4d ((uh HK0).trans (uh HK4) (by simp)) (w.heap.size + 1) (Or.inr (by omega)) _ _ _
  ·intro y hy
   have h7:=uh HSZ
   have h6:=uh HS4
   rcases hy with hy | hy
   ·have h9:=uh HN3 y hy; omega
   ·have h9:=uh HN4 y hy; omega
theorem Kept.setRowE {L:List Nat} {a w:World} (h:Kept L a w) {g:Nat} (hg:g∈L∨a.heap.size≤g) (cs:Array Value):Kept L a (w.setRow g cs) :=
 h.trans (M:=[g]) ⟨rfl,rfl,rfl,by simp [World.setRow],fun k _ hn=>setRow_other w g k _ (by simpa using hn)⟩ (by simpa using hg)
theorem xb3t {a b c:Value} (ha:a.oneCell' = true) (hb:b.oneCell' = true) (hc:c.oneCell' = true):(#[a,b,c]:Array Value).all (·.oneCell') = true:=by simp [ha,hb,hc]
def gave (f:Nat):List PanicEntry:=[{ v:=.iface 286 (.agg #[.int .i64 (f:Int)]),recovered:=false }]
set_option maxHeartbeats 1000000 in
theorem xa2u (w:World):Calls Tryz.prog 137 #[.int .i64 0] w fun r w'=>r = .returned (.tuple #[])∧w' = w:=by
 go_enter Tryz.func137,Tryz.ntmps137
 go_wp2
 go_end0
 exact ⟨rfl,rfl⟩
set_option maxHeartbeats 1000000 in
theorem xa1j (f:Nat) (w:World) (hf:f≠0):Calls Tryz.prog 137 #[.int .i64 f] w fun r w'=>r = .panicked (gave f)∧w' = w:=by
 have hb:((f:Int) != 0) = true:=by rw [bne_iff_ne]; omega
 go_enter Tryz.func137,Tryz.ntmps137
 go_wp2
 exact ⟨rfl,rfl,rfl⟩
def takeE (p:List Nat) (i:Nat):En × Nat × Nat :=
 if (rNum p i 0 1).1 % 256 = 1∨(rNum p i 0 1).1 % 256 = 2 then
  if (rNum p i 0 1).1 % 256 = 1 then
   (⟨1,(rBlob p (rNum p i 0 1).2.1 (rNum p i 0 1).2.2 64).1,(rBlob p (rBlob p (rNum p i 0 1).2.1 (rNum p i 0 1).2.2 64).2.1 (rBlob p (rNum p i 0 1).2.1 (rNum p i 0 1).2.2 64).2.2 256).1⟩,
    (rBlob p (rBlob p (rNum p i 0 1).2.1 (rNum p i 0 1).2.2 64).2.1 (rBlob p (rNum p i 0 1).2.1 (rNum p i 0 1).2.2 64).2.2 256).2)
  else (⟨2,(rBlob p (rNum p i 0 1).2.1 (rNum p i 0 1).2.2 64).1,[]⟩,(rBlob p (rNum p i 0 1).2.1 (rNum p i 0 1).2.2 64).2)
 else (⟨0,[],[]⟩,(rNum p i 0 1).2.1,3)
def TookE (w w':World) (b:Nat) (gv:Value) (p:List Nat) (x:En × Nat × Nat) (r:Ending):Prop :=
 (x.2.2 = 0→∃ kv vv,r = .returned (.agg (enC x.1 kv vv))∧OkE w' x.1 kv vv∧ReAt w' b gv p x.2.1 0∧∀ y,y∈blk kv∨y∈blk vv→w.heap.size≤y)∧(x.2.2≠0→r = .panicked (gave x.2.2))∧Kept [b] w w'
set_option maxHeartbeats 2000000 in
theorem xa7p (b:Nat) (gv:Value) (p:List Nat) (i:Nat) (w:World) (h:ReAt w b gv p i 0) (hgv:∀ x∈blk gv,x < w.heap.size) :
  Calls Tryz.prog 196 #[.pointer (some ⟨b,0,none⟩)] w fun r w'=>TookE w w' b gv p (takeE p i) r:=by
 have H:=hide h
 have hlt:=h.lt
 obtain ⟨T,hT⟩:∃ T,takeE p i = T:=⟨_,rfl⟩
 rw [hT]
 have HT:=hide hT
 unfold takeE at HT
 clear hT h
 have HZ:=hide (heap_alloc_new w (.cells #[.int .u8 0,.slice none 0 0,.slice none 0 0] 71))
 have HK0:=hide ((Kept.refl [b] w).alloc (.cells #[.int .u8 0,.slice none 0 0,.slice none 0 0] 71))
 have HR0:=hide ((uh H).kept ((Kept.refl [] w).alloc (.cells #[.int .u8 0,.slice none 0 0,.slice none 0 0] 71)) (by simp) (by simp))
 go_enter Tryz.func196,Tryz.ntmps196
 go_wp2_with fail
 refine Calls.mono (xb9v b gv p i 0 _ (uh HR0)) ?_
 rintro r w1 ⟨rfl,r1,k1⟩
 have hne0:w.heap.size≠b:=by omega
 have HZ1:=hide (k1.heap (uh HZ) (by simpa using hne0))
 have HK1:=hide ((uh HK0).trans k1 (by simp))
 obtain ⟨x,hx⟩:∃ x,rNum p i 0 1 = x:=⟨_,rfl⟩
 rw [hx] at HT r1 ⊢
 clear hx
 obtain ⟨x,i1,e1⟩:=x
 simp only at HT r1 ⊢
 have HR1:=hide r1
 clear r1 k1
 obtain ⟨k,hk⟩:∃ k,x % 256 = k:=⟨_,rfl⟩
 have hkl:k < 256:=by rw [← hk]; exact Nat.mod_lt _ (by decide)
 rw [hk] at HT ⊢
 clear hk
 have hs1:=(uh HK1).size
 have hs1':w.heap.size < w1.heap.size:=by have:=(uh HK1).size; have h9:=lt_of_block (uh HZ1); exact h9
 have HG1:=hide (heap_alloc_new w1 (.cells #[.int .u8 (k:Int),.slice none 0 0,.slice none 0 0] 71))
 go_wp2_with fail
 refine Calls.mono (xa7b k _) ?_
 rintro r w2 ⟨rfl,rfl⟩
 have HK1a:=hide ((uh HK1).alloc (.cells #[.int .u8 (k:Int),.slice none 0 0,.slice none 0 0] 71))
 have HRW:=hide ((uh HR1).kept ((Kept.refl [] w1).alloc (.cells #[.int .u8 (k:Int),.slice none 0 0,.slice none 0 0] 71)) (by simp) (by simp))
 by_cases hk12:¬ (k = 1∨k = 2)
 ·rw [decide_eq_false hk12]
  have HT2:=hide (by rw [← uh HT,if_neg hk12]:T = (⟨0,[],[]⟩,i1,3))
  clear hk12
  go_wp2_with fail
  refine Calls.mono (xa1j 3 _ (by decide)) ?_
  rintro r w3 ⟨rfl,rfl⟩
  exact ⟨rfl,fun h=>absurd h (by rw [uh HT2]; simp),fun _=>by rw [uh HT2],uh HK1a⟩
 replace hk12:=Decidable.not_not.1 hk12
 rw [decide_eq_true hk12]
 have HT1:=hide (by have h9:=uh HT; rw [if_pos hk12] at h9; exact h9)
 have HK12:=hide hk12
 clear hk12 HT
 go_wp2_with fail
 refine Calls.mono (xb0k b gv p i1 e1 64 _ (uh HRW) (by decide)) ?_
 rintro r w3 ⟨kv,rfl,rd3,r3,k3,n3⟩
 obtain ⟨y,hy⟩:∃ y,rBlob p i1 e1 64 = y:=⟨_,rfl⟩
 rw [hy] at HT1 rd3 r3
 clear hy
 obtain ⟨key,i2,e2⟩:=y
 simp only at HT1 rd3 r3
 have hneg:w1.heap.size≠b:=by omega
 have HG3:=hide (k3.heap (uh HG1) (by simpa using hneg))
 have HZ3:=hide (k3.heap ((Kept.refl [] w1).alloc (.cells #[.int .u8 (k:Int),.slice none 0 0,.slice none 0 0] 71) |>.heap (uh HZ1) (by simp)) (by simpa using hne0))
 have HK3:=hide ((uh HK1a).trans k3 (by simp))
 have HN3:=hide (show ∀ x∈blk kv,w1.heap.size + 1≤x from fun x hx=>by have h9:=n3 x hx; rw [show (w1.alloc (.cells #[.int .u8 (k:Int),.slice none 0 0,.slice none 0 0] 71)).heap.size = w1.heap.size + 1 from Array.size_push _] at h9; exact h9)
 obtain ⟨a3,m3,c3,hu3,_⟩:=id rd3
 subst hu3
 have HD3:=hide rd3
 have HR3:=hide r3
 clear rd3 r3 k3 n3
 have s0:=cell_of_row _ _ 0 _ _ _ (uh HG3)
 have s1:=cell_of_row _ _ 1 _ _ _ (uh HG3)
 have f1:=frozen_of_row _ _ 1 _ _ (uh HG3)
 have HG4:=hide (by have h9:=heap_setCell_same _ w1.heap.size 1 _ 71 (.slice a3 m3 c3) (uh HG3); exact h9:(w3.setCell ⟨w1.heap.size,1,none⟩ (.slice a3 m3 c3)).heap[w1.heap.size]? = some (.cells #[.int .u8 (k:Int),.slice a3 m3 c3,.slice none 0 0] 71 (0,0)))
 have kst:=(Kept.refl [w1.heap.size] w3).setCell (p:=⟨w1.heap.size,1,none⟩) (Or.inl (by simp)) (.slice a3 m3 c3)
 have HZ4:=hide (kst.heap (uh HZ3) (by simp; omega))
 have HK4:=hide ((uh HK3).setCell (p:=⟨w1.heap.size,1,none⟩) (Or.inr (by show w.heap.size≤w1.heap.size; omega)) (.slice a3 m3 c3))
 have HR4:=hide ((uh HR3).kept kst (by simp; omega) (fun x hx=>by simp; have h9:=hgv x hx; omega))
 have HD4:=hide ((uh HD3).kept kst (fun x hx=>by simp; have h9:=uh HN3 x hx; omega))
 clear kst
 have t0:=cell_of_row _ _ 0 _ _ _ (uh HG4)
 by_cases hk1:k = 1
 ·have hb1:((k:Int) == 1) = true:=by rw [hk1]; rfl
  have HT2:=hide (by have h9:=uh HT1; rw [if_pos hk1] at h9; exact h9.symm)
  have HKK:=hide hk1
  clear hk1 HT1
  go_wp2_with fail
  obtain ⟨W4,hW4⟩:∃ W,w3.setCell ⟨w1.heap.size,1,none⟩ (.slice a3 m3 c3) = W:=⟨_,rfl⟩
  rw [hW4] at HG4 HZ4 HK4 HR4 HD4 t0 ⊢
  clear hW4 s0 s1 f1 HG3 HR3 HD3
  refine Calls.mono (xb0k b gv p i2 e2 256 W4 (uh HR4) (by decide)) ?_
  rintro r w5 ⟨vv,rfl,rd5,r5,k5,n5⟩
  obtain ⟨y,hy⟩:∃ y,rBlob p i2 e2 256 = y:=⟨_,rfl⟩
  rw [hy] at HT2 rd5 r5
  clear hy
  obtain ⟨val,iF,eF⟩:=y
  simp only at HT2 rd5 r5
  have HG5:=hide (k5.heap (uh HG4) (by simpa using hneg))
  have HZ5:=hide (k5.heap (uh HZ4) (by simpa using hne0))
  have HK5:=hide ((uh HK4).trans k5 (by simp))
  have hsz4:w1.heap.size < W4.heap.size:=lt_of_block (uh HG4)
  have HN5:=hide (show ∀ x∈blk vv,w1.heap.size + 1≤x from fun x hx=>by have h9:=n5 x hx; omega)
  have HD5:=hide ((uh HD4).kept k5 (fun x hx=>by simp; have h9:=uh HN3 x hx; omega))
  obtain ⟨a5,m5,c5,hu5,_⟩:=id rd5
  subst hu5
  have HV5:=hide rd5
  have HR5:=hide r5
  clear rd5 r5 k5 n5
  have s2:=cell_of_row _ _ 2 _ _ _ (uh HG5)
  have f2:=frozen_of_row _ _ 2 _ _ (uh HG5)
  have kst:=(Kept.refl [w1.heap.size] w5).setCell (p:=⟨w1.heap.size,2,none⟩) (Or.inl (by simp)) (.slice a5 m5 c5)
  have HGF:=hide (by have h9:=heap_setCell_same _ w1.heap.size 2 _ 71 (.slice a5 m5 c5) (uh HG5); exact h9:(w5.setCell ⟨w1.heap.size,2,none⟩ (.slice a5 m5 c5)).heap[w1.heap.size]? = some (.cells #[.int .u8 (k:Int),.slice a3 m3 c3,.slice a5 m5 c5] 71 (0,0)))
  have HZF:=hide (kst.heap (uh HZ5) (by simp; omega))
  have HKF:=hide ((uh HK5).setCell (p:=⟨w1.heap.size,2,none⟩) (Or.inr (by show w.heap.size≤w1.heap.size; omega)) (.slice a5 m5 c5))
  have HRF:=hide ((uh HR5).kept kst (by simp; omega) (fun x hx=>by simp; have h9:=hgv x hx; omega))
  have HDF:=hide ((uh HD5).kept kst (fun x hx=>by simp; have h9:=uh HN3 x hx; omega))
  have HVF:=hide ((uh HV5).kept kst (fun x hx=>by simp; have h9:=uh HN5 x hx; omega))
  clear kst
  go_wp2_with fail
  obtain ⟨WF,hWF⟩:∃ W,w5.setCell ⟨w1.heap.size,2,none⟩ (.slice a5 m5 c5) = W:=⟨_,rfl⟩
  rw [hWF] at HGF HZF HKF HRF HDF HVF ⊢
  clear hWF s2 f2
  have krow:=(Kept.refl [w.heap.size] WF).setRowE (g:=w.heap.size) (Or.inl (by simp)) #[.int .u8 (k:Int),.slice a3 m3 c3,.slice a5 m5 c5]
  have HRR:=hide ((uh HRF).kept krow (by simp; omega) (fun x hx=>by simp; have h9:=hgv x hx; omega))
  have HOKF:=hide (⟨by show (1:Nat) < 256; omega,(uh HDF).kept krow (fun x hx=>by simp; have h9:=uh HN3 x hx; omega),(uh HVF).kept krow (fun x hx=>by simp; have h9:=uh HN5 x hx; omega)⟩:OkE (WF.setRow w.heap.size #[.int .u8 (k:Int),.slice a3 m3 c3,.slice a5 m5 c5]) ⟨1,key,val⟩ (.slice a3 m3 c3) (.slice a5 m5 c5))
  have HNEW:=hide (show ∀ y,y∈blk (.slice a3 m3 c3)∨y∈blk (.slice a5 m5 c5)→w.heap.size≤y from fun y hy=>by rcases hy with h | h; have h9:=uh HN3 y h; omega; have h9:=uh HN5 y h; omega)
  clear krow
  go_wp2_with fail
  refine Calls.mono (xa0m b gv p iF eF WF (uh HRF)) ?_
  rintro r w5 ⟨rfl,rfl⟩
  by_cases hE:eF = 0
  ·subst hE
   go_wp2_with fail
   refine Calls.mono (xa2u _) ?_
   rintro r w6 ⟨rfl,rfl⟩
   go_wp2_with (first
    | (refine wpList_load_row rfl 71 _ rfl w1.heap.size rfl _ #[.int .u8 (k:Int),.slice a3 m3 c3,.slice a5 m5 c5] (0,0) _ (uh HGF) Tryz.underlying71 rfl Tryz.size_entry ?_)
    | (refine wpList_store_row rfl 71 _ _ rfl w.heap.size #[.int .u8 (k:Int),.slice a3 m3 c3,.slice a5 m5 c5] rfl rfl _ #[.int .u8 0,.slice none 0 0,.slice none 0 0] (uh HZF) Tryz.size_entry rfl (xb3t rfl rfl rfl) ?_))
   refine bodyPost_ret (v:=.agg #[.int .u8 (k:Int),.slice a3 m3 c3,.slice a5 m5 c5]) ?_ rfl ⟨fun _=>⟨.slice a3 m3 c3,.slice a5 m5 c5,by rw [uh HT2,uh HKK]; rfl,?_,?_,?_⟩,fun h=>absurd (by rw [uh HT2]) h,(uh HKF).setRowE (Or.inr (Nat.le_refl _)) _⟩
   ·exact results_cell_row rfl _ _ w.heap.size _ #[.int .u8 (k:Int),.slice a3 m3 c3,.slice a5 m5 c5] (0,0) _ rfl (setRow_heap _ _ _ _ _ _ (uh HZF)) Tryz.underlying71 rfl Tryz.size_entry
   ·rw [uh HT2]; exact uh HOKF
   ·rw [uh HT2]; exact uh HRR
   ·exact uh HNEW
  ·have HT3:=hide (by rw [uh HT2]; exact hE:T.2.2≠0)
   have HE:=hide hE
   go_wp2_with fail
   refine Calls.mono (xa1j eF _ hE) ?_
   rintro r w6 ⟨rfl,rfl⟩
   exact ⟨rfl,fun h=>absurd h (uh HT3),fun _=>by rw [uh HT2],uh HKF⟩
 ·have hb1:((k:Int) == 1) = false:=by rw [beq_eq_false_iff_ne]; omega
  have hk2:k = 2:=by have h9:=uh HK12; omega
  have HT2:=hide (by have h9:=uh HT1; rw [if_neg hk1] at h9; exact h9.symm)
  have HKK:=hide hk2
  clear hk1 hk2 HT1
  go_wp2_with fail
  obtain ⟨WF,hWF⟩:∃ W,w3.setCell ⟨w1.heap.size,1,none⟩ (.slice a3 m3 c3) = W:=⟨_,rfl⟩
  rw [hWF] at HG4 HZ4 HK4 HR4 HD4 t0 ⊢
  clear hWF s0 s1 f1 HG3 HR3 HD3
  have HGF:=HG4
  have HZF:=HZ4
  have HKF:=HK4
  have HRF:=HR4
  have krow:=(Kept.refl [w.heap.size] WF).setRowE (g:=w.heap.size) (Or.inl (by simp)) #[.int .u8 (k:Int),.slice a3 m3 c3,.slice none 0 0]
  have HRR:=hide ((uh HRF).kept krow (by simp; omega) (fun x hx=>by simp; have h9:=hgv x hx; omega))
  have HOKF:=hide (⟨by show (2:Nat) < 256; omega,(uh HD4).kept krow (fun x hx=>by simp; have h9:=uh HN3 x hx; omega),Rd.nil _⟩:OkE (WF.setRow w.heap.size #[.int .u8 (k:Int),.slice a3 m3 c3,.slice none 0 0]) ⟨2,key,[]⟩ (.slice a3 m3 c3) (.slice none 0 0))
  have HNEW:=hide (show ∀ y,y∈blk (.slice a3 m3 c3)∨y∈blk (.slice none 0 0)→w.heap.size≤y from fun y hy=>by rcases hy with h | h; have h9:=uh HN3 y h; omega; simp [blk] at h)
  clear krow
  go_wp2_with fail
  refine Calls.mono (xa0m b gv p i2 e2 WF (uh HRF)) ?_
  rintro r w5 ⟨rfl,rfl⟩
  by_cases hE:e2 = 0
  ·subst hE
   go_wp2_with fail
   refine Calls.mono (xa2u _) ?_
   rintro r w6 ⟨rfl,rfl⟩
   go_wp2_with (first
    | (refine wpList_load_row rfl 71 _ rfl w1.heap.size rfl _ #[.int .u8 (k:Int),.slice a3 m3 c3,.slice none 0 0] (0,0) _ (uh HGF) Tryz.underlying71 rfl Tryz.size_entry ?_)
    | (refine wpList_store_row rfl 71 _ _ rfl w.heap.size #[.int .u8 (k:Int),.slice a3 m3 c3,.slice none 0 0] rfl rfl _ #[.int .u8 0,.slice none 0 0,.slice none 0 0] (uh HZF) Tryz.size_entry rfl (xb3t rfl rfl rfl) ?_))
   refine bodyPost_ret (v:=.agg #[.int .u8 (k:Int),.slice a3 m3 c3,.slice none 0 0]) ?_ rfl ⟨fun _=>⟨.slice a3 m3 c3,.slice none 0 0,by rw [uh HT2,uh HKK]; rfl,?_,?_,?_⟩,fun h=>absurd (by rw [uh HT2]) h,(uh HKF).setRowE (Or.inr (Nat.le_refl _)) _⟩
   ·exact results_cell_row rfl _ _ w.heap.size _ #[.int .u8 (k:Int),.slice a3 m3 c3,.slice none 0 0] (0,0) _ rfl (setRow_heap _ _ _ _ _ _ (uh HZF)) Tryz.underlying71 rfl Tryz.size_entry
   ·rw [uh HT2]; exact uh HOKF
   ·rw [uh HT2]; exact uh HRR
   ·exact uh HNEW
  ·have HT3:=hide (by rw [uh HT2]; exact hE:T.2.2≠0)
   have HE:=hide hE
   go_wp2_with fail
   refine Calls.mono (xa1j e2 _ hE) ?_
   rintro r w6 ⟨rfl,rfl⟩
   exact ⟨rfl,fun h=>absurd h (uh HT3),fun _=>by rw [uh HT2],uh HKF⟩
theorem xb1f (t:TypeId) (v:Value) (w:World):(Instr.typeAssert (.iface 286 v) t 286 true).run Tryz.prog w = .ok (.tuple #[v,.bool true]) w:=by
 unfold Instr.typeAssert
 simp [run_underlying Tryz.underlying286]
set_option maxHeartbeats 1000000 in
theorem xb3s (f:Nat) (w:World):Calls Tryz.prog 134 #[.iface 286 (.agg #[.int .i64 (f:Int)])] w fun r w'=>r = .returned (.int .i64 f)∧Kept [] w w':=by
 have HK:=hide ((Kept.refl [] w).alloc (.cells #[.int .i64 (f:Int)] 286))
 have HK2:=hide (((Kept.refl [] w).alloc (.cells #[.int .i64 0] 286)).setCell (p:=⟨w.heap.size,0,none⟩) (by simp) (.int .i64 (f:Int)))
 have ha:=xb1f
 go_enter Tryz.func134,Tryz.ntmps134
 go_wp2
 go_ret
 first | exact ⟨rfl,uh HK⟩ | exact ⟨rfl,uh HK2⟩
theorem xa0z {P:Program} {fn:Func} {p q:Tmp} {ty ty2:TypeId} (h:fn.results = #[.cell p ty,.cell q ty2]) (tmps:Array Value) (w:World) (g g2:Nat) (t t2:TypeId) (cs:Array Value) (fr fr2:Nat × Nat) (d:TypeDesc) (k:IntKind) (x:Value)
  (hp:tmps.getD p undef = .pointer (some ⟨g,0,none⟩)) (hg:w.heap[g]? = some (.cells cs t fr)) (hq:tmps.getD q undef = .pointer (some ⟨g2,0,none⟩)) (hg2:w.heap[g2]? = some (.cells #[x] t2 fr2))
  (hu:P.underlying ty = some d) (hd:(match d with | .struct _ | .array _ _=>true | _=>false) = true) (hi:(P.info? ty).map (·.size) = some cs.size) (hu2:P.underlying ty2 = some (.int k)) :
  (results fn tmps).run P w = .ok (.tuple #[.agg cs,x]) w:=by
 have hp':tmps[p]?.getD undef = .pointer (some ⟨g,0,none⟩):=by simpa using hp
 have hq':tmps[q]?.getD undef = .pointer (some ⟨g2,0,none⟩):=by simpa using hq
 have hc:w.cell? ⟨g2,0,none⟩ = some x:=by rw [cell_of_row _ _ _ _ _ _ hg2]; rfl
 have h2:(isAgg ty2).run P w = .ok false w:=by
  unfold isAgg
  rw [Sem.run_bind,run_underlying hu2 w]; simp
 have h3:(loadVar ty2 ⟨g2,0,none⟩).run P w = .ok x w:=by
  unfold loadVar
  simp only [Sem.run_bind,h2,Result.andThen_ok]
  simp [go_sem,hc]
 simp [results,h,hp',hq',asAddr,run_loadVar_row w g t ty cs fr d hg hu hd hi,h3]
theorem xb3p (e:En) (kv vv:Value):(enC e kv vv).size = 3:=rfl
def cntE (f n:Nat):Nat:=if 64 < n then 2 else if n = 0∨18446744073709551615 - f < n then 3 else 0
def leastE (a b:Nat):Nat:=if a = 0∨(b≠0∧b < a) then b else a
def chkB (f:Nat) (es:List En):Nat:=es.foldl (fun a e=>leastE a (chkE e)) (cntE f es.length)
def entB (es:List En):List Nat:=(es.map enB).flatten
def batB (f:Nat) (es:List En):List Nat:=uv f++(uv es.length++entB es)
def RdN (w:World) (v:Value) (es:List En):Prop :=
 ∃ (ao:Option Addr) (len cap:Nat) (kv vv:Nat→Value),v = .slice ao len cap∧es.length = len∧len≤cap∧cap≤9223372036854775807∧(∀ i (h:i < es.length),OkE w es[i] (kv i) (vv i)) ∧
  (0 < len→∃ b off,ao = some ⟨b,off,none⟩∧∀ i (h:i < es.length),w.rangeAt b (off + i * 3) (enC es[i] (kv i) (vv i)).toList)
theorem xa0y {L:List Nat} {w w':World} {b o:Nat} {cs:List Value} (h:w.rangeAt b o cs) (k:Kept L w w') (hb:b∉L):w'.rangeAt b o cs:=fun j v hv=>k.cell (h j v hv) hb
theorem RdN.old {w w':World} {v:Value} {es:List En} (h:RdN w v es) (k:Kept [] w w'):RdN w' v es:=by
 obtain ⟨ao,len,cap,kv,vv,h1,h2,h3,h4,h5,h6⟩:=h
 refine ⟨ao,len,cap,kv,vv,h1,h2,h3,h4,fun i hi=>(h5 i hi).old k,fun hp=>?_⟩
 obtain ⟨b,off,e,hc⟩:=h6 hp
 exact ⟨b,off,e,fun i hi=>xa0y (hc i hi) k (by simp)⟩
theorem RdN.nil (w:World):RdN w (.slice none 0 0) []:=⟨none,0,0,fun _=>undef,fun _=>undef,rfl,rfl,Nat.le_refl _,by omega,fun i h=>by simp at h,fun h=>by omega⟩
set_option maxHeartbeats 1000000 in
theorem xa2j (f n:Nat) (w:World) (hf:f < 18446744073709551616) (hn:n < 18446744073709551616) :
  Calls Tryz.prog 195 #[.int .u64 f,.int .u64 n] w fun r w'=>r = .returned (.int .i64 (cntE f n))∧w' = w:=by
 obtain ⟨E,hE⟩:∃ E,cntE f n = E:=⟨_,rfl⟩
 rw [hE]
 have HE:=hide hE
 clear hE
 have hw:IntKind.u64.wrap (18446744073709551615 - (f:Int)) = 18446744073709551615 - (f:Int):=by
  simp [IntKind.wrap,IntKind.signed,IntKind.bits]; omega
 have hw':(18446744073709551615 - (f:Int)) % 18446744073709551616 = 18446744073709551615 - (f:Int):=by omega
 go_enter Tryz.func195,Tryz.ntmps195
 by_cases h1:64 < n
 ·have h1':(64:Int) < n:=by omega
  have HE2:=hide (by rw [← uh HE]; simp [cntE,h1]:E = 2)
  go_wp2
  go_ret
  exact ⟨by rw [uh HE2]; rfl,rfl⟩
 ·have h1':¬ (64:Int) < n:=by omega
  by_cases h2:n = 0
  ·have h2':((n:Int) == 0) = true:=by rw [h2]; rfl
   have HE2:=hide (by rw [← uh HE]; simp [cntE,h2]:E = 3)
   clear h2
   go_wp2
   go_ret
   exact ⟨by rw [uh HE2]; rfl,rfl⟩
  ·have h2':((n:Int) == 0) = false:=by rw [beq_eq_false_iff_ne]; omega
   by_cases h3:18446744073709551615 - f < n
   ·have h3':18446744073709551615 - (f:Int) < n:=by omega
    have HE2:=hide (by rw [← uh HE]; simp [cntE,h1,h2,h3]:E = 3)
    go_wp2
    go_ret
    exact ⟨by rw [uh HE2]; rfl,rfl⟩
   ·have h3':¬ 18446744073709551615 - (f:Int) < n:=by omega
    have HE2:=hide (by rw [← uh HE]; simp [cntE,h1,h2,h3]:E = 0)
    go_wp2
    go_ret
    exact ⟨by rw [uh HE2]; rfl,rfl⟩
set_option maxHeartbeats 1000000 in
theorem xb8q (a b:Nat) (w:World) :
  Calls Tryz.prog 207 #[.int .i64 a,.int .i64 b] w fun r w'=>r = .returned (.int .i64 (leastE a b))∧w' = w:=by
 obtain ⟨E,hE⟩:∃ E,leastE a b = E:=⟨_,rfl⟩
 rw [hE]
 have HE:=hide hE
 clear hE
 go_enter Tryz.func207,Tryz.ntmps207
 by_cases h1:a = 0
 ·have h1':((a:Int) == 0) = true:=by rw [h1]; rfl
  have HE2:=hide (by rw [← uh HE]; simp [leastE,h1]:E = b)
  clear h1
  go_wp2
  go_ret
  exact ⟨by rw [uh HE2]; rfl,rfl⟩
 ·have h1':((a:Int) == 0) = false:=by rw [beq_eq_false_iff_ne]; omega
  by_cases h2:b = 0
  ·have h2':((b:Int) != 0) = false:=by rw [h2]; rfl
   have HE2:=hide (by rw [← uh HE]; simp [leastE,h1,h2]:E = a)
   clear h1 h2
   go_wp2
   go_ret
   exact ⟨by rw [uh HE2]; rfl,rfl⟩
  ·have h2':((b:Int) != 0) = true:=by rw [bne_iff_ne]; omega
   by_cases h3:b < a
   ·have h3':(b:Int) < a:=by omega
    have HE2:=hide (by rw [← uh HE]; simp [leastE,h1,h2,h3]:E = b)
    clear h1 h2
    go_wp2
    go_ret
    exact ⟨by rw [uh HE2]; rfl,rfl⟩
   ·have h3':¬ (b:Int) < a:=by omega
    have HE2:=hide (by rw [← uh HE]; simp [leastE,h1,h2,h3]:E = a)
    clear h1 h2
    go_wp2
    go_ret
    exact ⟨by rw [uh HE2]; rfl,rfl⟩
theorem xb4q {α β:Type} (g:β→α→β) (z:β) (l:List α) (i:Nat) (h:i < l.length):(l.take (i + 1)).foldl g z = g ((l.take i).foldl g z) l[i]:=by
 rw [List.take_succ_eq_append_getElem h,List.foldl_append]; rfl
set_option maxHeartbeats 1000000 in
theorem xa6f (f:Nat) (v:Value) (es:List En) (w:World) (hf:f < 18446744073709551616) (h:RdN w v es) :
  Calls Tryz.prog 153 #[.agg #[.int .u64 f,v]] w fun r w'=>r = .returned (.int .i64 (chkB f es))∧Kept [] w w':=by
 obtain ⟨ao,len,cap,kv,vv,rfl,h1,h2,h3,h4,h5⟩:=h
 have H4:=hide h4
 have H5:=hide h5
 clear h4 h5
 subst h1
 have HK0:=hide ((Kept.refl [] w).alloc (.cells #[.int .u64 (f:Int),.slice ao es.length cap] 75))
 go_enter Tryz.func153,Tryz.ntmps153
 go_wp2_with fail
 refine Calls.mono (xa2j f es.length _ hf (by omega)) ?_
 rintro r w1 ⟨rfl,rfl⟩
 go_wp2_with fail
 go_loopw [16,3] (fun t12 t4 wr=>∃ (i:Nat),i≤es.length∧t12 = .int .i64 i∧t4 = .int .i64 ((es.take i).foldl (fun a e=>leastE a (chkE e)) (cntE f es.length):Nat)∧Hid (Kept [] w wr)) (fun t _ _=>es.length - (intOf t).toNat)
 case atStart=>exact ⟨0,Nat.zero_le _,rfl,rfl,HK0⟩
 case round =>
  obtain ⟨i,hi,rfl,rfl,HK⟩:=hrel
  by_cases hlt:i < es.length
  ·have hlt':(i:Int) < es.length:=by omega
   obtain ⟨b,off,rfl,hcc⟩:=uh H5 (by omega)
   have hr:=hcc i hlt
   have q0:=(uh HK).cell (hr 0 _ rfl) (by simp)
   have q1:=(uh HK).cell (hr 1 _ rfl) (by simp)
   have q2:=(uh HK).cell (hr 2 _ rfl) (by simp)
   rw [Nat.add_zero] at q0
   have HO:=hide ((uh H4 i hlt).old (uh HK))
   have HSN:=hide (xb4q (fun a e=>leastE a (chkE e)) (cntE f es.length) es i hlt)
   clear hcc hr
   generalize kv i = kvi at q1 HO
   generalize vv i = vvi at q2 HO
   generalize es[i] = e at q0 HO HSN
   obtain ⟨a8,m8,c8,rfl,_⟩:=id (uh HO).key
   obtain ⟨a9,m9,c9,rfl,_⟩:=id (uh HO).val
   generalize (es.take i).foldl (fun a e=>leastE a (chkE e)) (cntE f es.length) = acc at HSN
   go_wp2_with fail
   have HK1:=hide ((uh HK).alloc (.cells #[.int .u8 (e.k:Int),.slice a8 m8 c8,.slice a9 m9 c9] 71))
   refine Calls.mono (xb8b e _ _ _ ((uh HO).old ((Kept.refl [] wr).alloc _))) ?_
   rintro r w2 ⟨rfl,k2⟩
   have HK2:=hide ((uh HK1).trans k2 (by simp))
   clear k2
   go_wp2_with fail
   refine Calls.mono (xb8q acc (chkE e) _) ?_
   rintro r w3 ⟨rfl,rfl⟩
   rw [← uh HSN]
   go_wp2
   refine ⟨⟨i + 1,by omega,by go_num,rfl,HK2⟩,?_⟩
   simp [intOf]; omega
  ·have hlt':¬ (i:Int) < es.length:=by omega
   have hie:i = es.length:=by omega
   subst hie
   rw [List.take_length]
   go_wp2
   go_ret
   exact ⟨rfl,uh HK⟩
theorem xb1i {a b:Nat} (h:leastE a b = 0):a = 0∧b = 0:=by
 unfold leastE at h
 split at h
 ·rename_i h1; rcases h1 with h1 | h1
  ·exact ⟨h1,h⟩
  ·omega
 ·rename_i h1; omega
theorem xa7r (es:List En):∀ z,es.foldl (fun a e=>leastE a (chkE e)) z = 0→z = 0∧∀ e∈es,chkE e = 0:=by
 induction es with
 | nil=>intro z h; exact ⟨h,by simp⟩
 | cons x xs ih =>
  intro z h
  obtain ⟨h1,h2⟩:=ih _ h
  obtain ⟨h3,h4⟩:=xb1i h1
  refine ⟨h3,fun e he=>?_⟩
  rcases List.mem_cons.1 he with rfl | he
  ·exact h4
  ·exact h2 e he
theorem xa3o {f:Nat} {es:List En} (h:chkB f es = 0):es.length≤64∧0 < es.length∧f + es.length≤18446744073709551615∧∀ e∈es,chkE e = 0:=by
 obtain ⟨h1,h2⟩:=xa7r es _ h
 unfold cntE at h1
 split at h1
 ·omega
 ·split at h1
  ·omega
  ·rename_i h3 h4; exact ⟨by omega,by omega,by omega,h2⟩
theorem xb0r {e:En} (h:chkE e = 0):e.key.length≤64∧e.val.length≤256∧(e.k = 1∨e.k = 2)∧(e.k = 2→e.val = []):=by
 unfold chkE at h
 split at h
 ·omega
 ·split at h
  ·omega
  ·rename_i h1 h2
   refine ⟨by omega,by omega,by omega,fun h3=>List.eq_nil_of_length_eq_zero (by omega)⟩
theorem xc3o {e:En} (h:chkE e = 0):(enB e).length≤400:=by
 obtain ⟨h1,h2,_⟩:=xb0r h
 have:=uv_len e.key.length (by omega)
 have:=uv_len e.val.length (by omega)
 unfold enB
 split <;> simp only [List.length_append,List.length_cons,List.length_nil] <;> omega
theorem xb8z (es:List En) (i:Nat) (h:i < es.length):entB (es.take (i + 1)) = entB (es.take i)++enB es[i]:=by
 unfold entB
 rw [List.take_succ_eq_append_getElem h,List.map_append,List.flatten_append]; simp
theorem xb2e (es:List En) (h:∀ e∈es,chkE e = 0):(entB es).length≤400 * es.length:=by
 induction es with
 | nil=>simp [entB]
 | cons x xs ih =>
  have h1:=xc3o (h x (by simp))
  have h2:=ih (fun e he=>h e (by simp [he]))
  have e:entB (x :: xs) = enB x++entB xs:=by simp [entB]
  rw [e,List.length_append,List.length_cons]; omega
set_option maxHeartbeats 2000000 in
theorem xa4v (f:Nat) (v:Value) (es:List En) (w:World) (hf:f < 18446744073709551616) (h:RdN w v es) :
  Calls Tryz.prog 106 #[.agg #[.int .u64 f,v]] w fun r w'=>∃ v',r = .returned (.tuple #[v',.int .i64 (chkB f es)])∧NewB w w' v' (if chkB f es = 0 then batB f es else [])∧Kept [] w w':=by
 have H:=hide h
 have HLE:=hide (fun h0:chkB f es = 0=>xa3o h0)
 obtain ⟨E,hE⟩:∃ E,chkB f es = E:=⟨_,rfl⟩
 rw [hE] at HLE ⊢
 have HE:=hide hE
 clear hE
 obtain ⟨B,hB⟩:∃ B,(if E = 0 then batB f es else []) = B:=⟨_,rfl⟩
 rw [hB]
 have HB:=hide hB
 clear hB
 obtain ⟨ao,len,cap,kv,vv,rfl,h1,h2,h3,h4,h5⟩:=h
 have H4:=hide h4
 have H5:=hide h5
 clear h4 h5
 subst h1
 have HK0:=hide ((Kept.refl [] w).alloc (.cells #[.int .u64 (f:Int),.slice ao es.length cap] 75))
 have HG0:=hide (heap_alloc_new w (.cells #[.int .u64 (f:Int),.slice ao es.length cap] 75))
 go_enter Tryz.func106,Tryz.ntmps106
 go_wp2_with fail
 have hc:=xa6f f (.slice ao es.length cap) es _ hf ((uh H).old (uh HK0))
 rw [uh HE] at hc
 refine Calls.mono hc ?_
 clear hc
 rintro r w1 ⟨rfl,k1⟩
 have HG1:=hide (k1.heap (uh HG0) (by simp))
 have HK1:=hide ((uh HK0).trans k1 (by simp))
 clear k1
 by_cases h0:E = 0
 ·have hb0:((E:Int) != 0) = false:=by rw [h0]; rfl
  obtain ⟨hl1,hl2,hl3,hl4⟩:=uh HLE h0
  have HL4:=hide hl4
  have HB2:=hide (by rw [← uh HB,if_pos h0]:B = batB f es)
  have H0:=hide h0
  clear h0 hl4
  have HW0:=hide (Wn.start (Kept.refl [] w1))
  have q0:∀ ob,(w1.alloc ob).cell? ⟨w.heap.size,0,none⟩ = some (.int .u64 (f:Int)):=fun ob=>((Kept.refl [] w1).alloc ob).cell (by rw [cell_of_row _ _ _ _ _ _ (uh HG1)]; rfl) (by simp)
  go_wp2_with fail
  refine Calls.mono (xc0o f (uh HW0) hf (by simp)) ?_
  rintro r w2 ⟨rfl,v2,h2'⟩
  rw [List.nil_append] at h2'
  have q1:=h2'.kept.cell (by rw [cell_of_row _ _ _ _ _ _ (uh HG1)]; rfl:w1.cell? ⟨w.heap.size,1,none⟩ = some (.slice ao es.length cap)) (by simp)
  have HW2:=hide h2'
  clear h2' HW0 q0
  have HU1:=hide (uv_len f hf)
  have HU2:=hide (uv_len es.length (by omega))
  go_wp2_with fail
  refine Calls.mono (xc0o es.length (uh HW2) (by omega) (by have:=uh HU1; omega)) ?_
  rintro r w3 ⟨rfl,v3,h3'⟩
  have q2:=h3'.kept.cell (by rw [cell_of_row _ _ _ _ _ _ (uh HG1)]; rfl:w1.cell? ⟨w.heap.size,1,none⟩ = some (.slice ao es.length cap)) (by simp)
  have HW3:=hide h3'
  clear h3' HW2 q1
  go_wp2_with fail
  go_loopw [24] (fun t12 wr=>∃ (i:Nat) (vw:Value),i≤es.length∧t12 = .int .i64 i∧Hid (Wn w1 wr w1.heap.size vw (uv f++uv es.length++entB (es.take i)))) (fun t _=>es.length - (intOf t).toNat)
  case atStart=>exact ⟨0,v3,Nat.zero_le _,rfl,by simpa [entB] using HW3⟩
  case round =>
   obtain ⟨i,vw,hi,rfl,HW⟩:=hrel
   have HLI:=hide (by have h9:=xb2e (es.take i) (fun e he=>uh HL4 e (List.mem_of_mem_take he)); rw [List.length_take] at h9; omega:(entB (es.take i)).length≤25600)
   by_cases hlt:i < es.length
   ·have hlt':(i:Int) < es.length:=by omega
    obtain ⟨b,off,rfl,hcc⟩:=uh H5 (by omega)
    have hr:=hcc i hlt
    have kw:=(uh HK1).trans (uh HW).kept (by simp)
    have p0:=kw.cell (hr 0 _ rfl) (by simp)
    have p1:=kw.cell (hr 1 _ rfl) (by simp)
    have p2:=kw.cell (hr 2 _ rfl) (by simp)
    rw [Nat.add_zero] at p0
    have HO:=hide ((uh H4 i hlt).old (uh HK1))
    have HSN:=hide (xb8z es i hlt)
    have HCE:=hide (xb0r (uh HL4 es[i] (List.getElem_mem hlt)))
    clear hcc hr kw
    generalize kv i = kvi at p1 HO
    generalize vv i = vvi at p2 HO
    generalize es[i] = e at p0 HO HSN HCE
    obtain ⟨a8,m8,c8,rfl,_⟩:=id (uh HO).key
    obtain ⟨a9,m9,c9,rfl,_⟩:=id (uh HO).val
    go_wp2_with fail
    refine Calls.mono (xa9a e _ _ ((uh HW).pass ((Kept.refl [] wr).alloc _)) (uh HO) (by have:=uh HLI; have:=uh HU1; have:=uh HU2; have:=uh HCE; simp only [List.length_append]; omega)) ?_
    rintro r w4 ⟨rfl,v4,h4'⟩
    rw [List.append_assoc,← uh HSN] at h4'
    have HW4:=hide h4'
    clear h4'
    go_wp2
    refine ⟨⟨i + 1,v4,by omega,by go_num,HW4⟩,?_⟩
    simp [intOf]; omega
   ·have hlt':¬ (i:Int) < es.length:=by omega
    have hie:i = es.length:=by omega
    subst hie
    rw [List.take_length] at HW HLI
    go_wp2_with fail
    refine Calls.mono (xa8z (uh HW) (by have:=uh HLI; have:=uh HU1; have:=uh HU2; simp only [List.length_append]; omega)) ?_
    rintro r w6 ⟨v6,rfl,h6,k6⟩
    have H6:=hide h6
    have HK6:=hide ((uh HK1).trans k6 (by simp))
    clear h6 k6
    go_wp2
    go_ret2
    refine ⟨_,by rw [uh H0]; rfl,?_,uh HK6⟩
    rw [uh HB2]
    have h9:=(uh H6).weak (uh HK1).size
    rw [List.append_assoc] at h9
    exact h9
 ·have hb0:((E:Int) != 0) = true:=by rw [bne_iff_ne]; omega
  have HB2:=hide (by rw [← uh HB,if_neg h0]:B = [])
  clear h0
  go_wp2
  go_ret2
  exact ⟨_,rfl,by rw [uh HB2]; exact NewB.nil _ _,uh HK1⟩
def cellsN (ts:List (En × Value × Value)):List Value:=ts.flatMap fun t=>[.int .u8 (t.1.k:Int),t.2.1,t.2.2]
theorem xb5n (ts:List (En × Value × Value)) (t:En × Value × Value):cellsN (ts++[t]) = cellsN ts++[.int .u8 (t.1.k:Int),t.2.1,t.2.2]:=by simp [cellsN]
theorem xa6z:∀ (ts:List (En × Value × Value)) (i:Nat) (h:i < ts.length),(cellsN ts)[3 * i]? = some (.int .u8 (ts[i].1.k:Int))∧(cellsN ts)[3 * i + 1]? = some ts[i].2.1∧(cellsN ts)[3 * i + 2]? = some ts[i].2.2
 | t :: r,0,_=>by simp [cellsN]
 | t :: r,i + 1,h=>by
  have h':i < r.length:=by simpa using h
  have:=xa6z r i h'
  have e:cellsN (t :: r) = (.int .u8 (t.1.k:Int)) :: t.2.1 :: t.2.2 :: cellsN r:=by simp [cellsN]
  rw [e,show 3 * (i + 1) = 3 * i + 1 + 1 + 1 by omega]
  simpa using this
theorem Tryz.infoN:(Tryz.prog.info? 71).map (fun i=>(i.zero,i.size,i.bytes)) = some (some (.agg #[.int .u8 0,.slice none 0 0,.slice none 0 0]),3,56):=by kernel_rfl
def nblk (v:Value) (bs:List Nat):List Nat:=if bs = [] then [] else blk v
theorem xa4f {v:Value} {bs:List Nat} {x:Nat} (h:x∈nblk v bs):x∈blk v∧bs≠[]:=by
 unfold nblk at h
 split at h
 ·simp at h
 ·rename_i h1; exact ⟨h,h1⟩
theorem Rd.keptN {L:List Nat} {w w':World} {v:Value} {bs:List Nat} (h:Rd w v bs) (k:Kept L w w') (hn:∀ x∈nblk v bs,x∉L):Rd w' v bs:=by
 by_cases he:bs = []
 ·subst he
  obtain ⟨ao,len,cap,rfl,h1,h2,h3,h4,h5,h6⟩:=h
  exact ⟨ao,len,cap,rfl,h1,h2,h3,h4,h5,fun hp=>by simp at h1; omega⟩
 ·exact h.kept k (by unfold nblk at hn; rw [if_neg he] at hn; exact hn)
theorem Rd.ltN {w:World} {v:Value} {bs:List Nat} (h:Rd w v bs):∀ x∈nblk v bs,x < w.heap.size:=by
 intro x hx
 obtain ⟨h1,h2⟩:=xa4f hx
 obtain ⟨ao,len,cap,rfl,h3,_,_,_,_,h6⟩:=h
 obtain ⟨b,off,rfl,hc⟩:=h6 (by rw [← h3]; exact List.length_pos_iff.2 h2)
 have h9:=block_lt_of_cell (hc 0 (by rw [← h3]; exact List.length_pos_iff.2 h2))
 simp only [blk,List.mem_singleton] at h1
 subst h1
 exact h9
structure OwnN (L:List Nat) (w0 w:World) (v:Value) (ts:List (En × Value × Value)):Prop where
 own:w.ownsRow w0.heap.size 71 3 v ts.length (cellsN ts)
 ok:∀ t∈ts,OkE w t.1 t.2.1 t.2.2
 apart:∀ t∈ts,∀ b,b∈nblk t.2.1 t.1.key∨b∈nblk t.2.2 t.1.val→v.ownBlock≠some b∧w0.heap.size≤b
 kept:Kept L w0 w
theorem OwnN.rdN {L:List Nat} {w0 w:World} {v:Value} {ts:List (En × Value × Value)} (h:OwnN L w0 w v ts):RdN w v (ts.map (·.1)):=by
 rcases h.own.2 with ⟨rfl,h0⟩ | ⟨g,cap,cur,rfl,_,hg,hc,hm',hs,ht⟩
 ·have:ts = []:=List.eq_nil_of_length_eq_zero h0
  subst this
  exact RdN.nil w
 ·refine ⟨some ⟨g,0,none⟩,ts.length,cap,fun i=>(ts.getD i (⟨0,[],[]⟩,undef,undef)).2.1,fun i=>(ts.getD i (⟨0,[],[]⟩,undef,undef)).2.2,rfl,by simp,hc,by unfold maxLen at hm'; omega,fun i hi=>?_,fun _=>⟨g,0,rfl,fun i hi=>?_⟩⟩
  ·have hi':i < ts.length:=by simpa using hi
   have h9:=h.ok ts[i] (List.getElem_mem hi')
   rw [List.getElem_map]
   simp only [List.getD_eq_getElem?_getD,List.getElem?_eq_getElem hi',Option.getD_some]
   exact h9
  ·have hi':i < ts.length:=by simpa using hi
   have hx:=xa6z ts i hi'
   have c0:=h.own.cells (g:=g) rfl (3 * i) _ hx.1
   have c1:=h.own.cells (g:=g) rfl (3 * i + 1) _ hx.2.1
   have c2:=h.own.cells (g:=g) rfl (3 * i + 2) _ hx.2.2
   rw [Addr.add_mid] at c0 c1 c2
   rw [List.getElem_map]
   simp only [List.getD_eq_getElem?_getD,List.getElem?_eq_getElem hi',Option.getD_some]
   intro j v hv
   have hj:j < 3:=(List.getElem?_eq_some_iff.1 hv).1
   rcases (by omega:j = 0∨j = 1∨j = 2) with rfl | rfl | rfl
   ·rw [show 0 + i * 3 + 0 = 0 + 3 * i by omega,c0]; exact hv
   ·rw [show 0 + i * 3 + 1 = 0 + (3 * i + 1) by omega,c1]; exact hv
   ·rw [show 0 + i * 3 + 2 = 0 + (3 * i + 2) by omega,c2]; exact hv
theorem pushN (w:World) (base:Nat) (v:Value) (ts:List (En × Value × Value)) (e:En) (x y:Value) (H:Nat) (h:w.ownsRow base 71 3 v ts.length (cellsN ts)) (hnew:w.heap[H]? = some (.cells #[.int .u8 (e.k:Int),x,y] 71 (0,0))) (hx:x.oneCell' = true) (hy:y.oneCell' = true) (hl:ts.length + 1≤1000000000) (hb:base≤w.heap.size) :
  ∃ g cap w1,(Builtin.append_ #[73,73] 73 #[v,.slice (some ⟨H,0,none⟩) 1 1]).run Tryz.prog w = .ok (.slice (some ⟨g,0,none⟩) (ts.length + 1) cap) w1 ∧
   w1.ownsRow base 71 3 (.slice (some ⟨g,0,none⟩) (ts.length + 1) cap) (ts.length + 1) (cellsN ts++[.int .u8 (e.k:Int),x,y])∧w.grownBy w1 v.ownBlock∧(v.ownBlock = some g∨g = w.heap.size):=by
 obtain ⟨i0,hi,hz0,hz1,hz2⟩:=info_parts Tryz.infoN
 obtain ⟨g,cap,w1,hr,hown,hgrow,hat,hlt⟩:=run_append_lies (P:=Tryz.prog) w 73 73 base 71 i0 (.agg #[.int .u8 0,.slice none 0 0,.slice none 0 0]) 3 56 Tryz.underlying73 hi hz0 hz1 hz2 rfl (by decide)
  v ts.length (cellsN ts) h ⟨H,0,none⟩ 1 1 [.int .u8 (e.k:Int),x,y] rfl (World.news_of_block hnew) (by intro u hu; simp at hu; rcases hu with rfl | rfl | rfl; rfl; exact hx; exact hy) (by decide) (by unfold maxLen; omega) (by omega) hb _ rfl
 exact ⟨g,cap,w1,hr,hown,hgrow,hat⟩
theorem xa8v {ops:Array Oper} {rest:List Oper} {o:Oper} {a:Act} {Q:Exit→Act→World→Prop} (hgd:o.guard = none) (s x:Operand)
  (ho:o.op = .call { callee:=.builtin .append,args:=#[s,x],argTypes:=#[73,73] }) (hty:o.type = 73)
  (w:World) (base:Nat) (v:Value) (ts:List (En × Value × Value)) (e:En) (y z:Value) (H:Nat) (h:w.ownsRow base 71 3 v ts.length (cellsN ts)) (hnew:w.heap[H]? = some (.cells #[.int .u8 (e.k:Int),y,z] 71 (0,0))) (hy:y.oneCell' = true) (hz:z.oneCell' = true) (hl:ts.length + 1≤1000000000) (hb:base≤w.heap.size)
  (hs:a.eval s = v) (hx:a.eval x = .slice (some ⟨H,0,none⟩) 1 1)
  (hK:∀ g cap w1,Hid (w1.ownsRow base 71 3 (.slice (some ⟨g,0,none⟩) (ts.length + 1) cap) (ts.length + 1) (cellsN ts++[.int .u8 (e.k:Int),y,z]))→Hid (w.grownBy w1 v.ownBlock)→Hid (v.ownBlock = some g∨g = w.heap.size) →
   wpList Tryz.prog ops Q rest (a.put o.dst (.slice (some ⟨g,0,none⟩) (ts.length + 1) cap)) w1) :
  wpList Tryz.prog ops Q (o :: rest) a w:=by
 obtain ⟨g,cap,w1,hrun,h2,h3,h4⟩:=pushN w base v ts e y z H h hnew hy hz hl hb
 refine wpList_plain hgd fun K hK'=>?_
 unfold Oper.wp execOp
 simp only [ho,hty,resolve,invoke,builtin,Sem.run_bind,Sem.run_pure,Result.andThen_ok,List.map_toArray,List.map_cons,List.map_nil,hs,hx,hrun]
 exact hK' _ _ (hK g cap w1 h2 h3 h4)
theorem OwnN.start {L:List Nat} {w0 w:World} (k:Kept L w0 w):OwnN L w0 w (.slice none 0 0) []:=⟨World.ownsRow_nil _ _ _ _,by simp,by simp,k⟩
theorem OwnN.mono {L M:List Nat} {w0 w:World} {v:Value} {ts:List (En × Value × Value)} (h:OwnN L w0 w v ts) (hM:∀ x∈L,x∈M):OwnN M w0 w v ts:=⟨h.own,h.ok,h.apart,h.kept.mono hM⟩
theorem OwnN.pass {L M:List Nat} {w0 w w':World} {v:Value} {ts:List (En × Value × Value)} (h:OwnN L w0 w v ts) (k:Kept M w w') (hM:∀ x∈M,x∈L∨w0.heap.size≤x) (ho:∀ x∈M,v.ownBlock≠some x) (he:∀ x∈M,∀ t∈ts,x∉nblk t.2.1 t.1.key∧x∉nblk t.2.2 t.1.val):OwnN L w0 w' v ts :=
 ⟨k.owns h.own (fun g hg hm=>ho g hm hg),fun t ht=>⟨(h.ok t ht).k,(h.ok t ht).key.keptN k (fun x hx hm=>(he x hm t ht).1 hx),(h.ok t ht).val.keptN k (fun x hx hm=>(he x hm t ht).2 hx)⟩,h.apart,h.kept.trans k hM⟩
theorem OwnN.old {L M:List Nat} {w0 w w':World} {v:Value} {ts:List (En × Value × Value)} (h:OwnN L w0 w v ts) (k:Kept M w w') (hM:∀ x∈M,x∈L∧x < w0.heap.size):OwnN L w0 w' v ts :=
 h.pass k (fun x hx=>Or.inl (hM x hx).1) (fun x hx e=>by have:=(h.own.lt x e).1; have:=(hM x hx).2; omega)
  (fun x hx t ht=>⟨fun hb=>by have:=(h.apart t ht x (Or.inl hb)).2; have:=(hM x hx).2; omega,fun hb=>by have:=(h.apart t ht x (Or.inr hb)).2; have:=(hM x hx).2; omega⟩)
theorem OwnN.push {L:List Nat} {w0 w W:World} {v:Value} {ts:List (En × Value × Value)} (h:OwnN L w0 w v ts) {e:En} {y z:Value} (hy:OkE w e y z) (hn:∀ b,b∈nblk y e.key∨b∈nblk z e.val→v.ownBlock≠some b∧w0.heap.size≤b) {g cap:Nat}
  (o:W.ownsRow w0.heap.size 71 3 (.slice (some ⟨g,0,none⟩) (ts.length + 1) cap) (ts.length + 1) (cellsN ts++[.int .u8 (e.k:Int),y,z])) (gr:w.grownBy W v.ownBlock) (hg:v.ownBlock = some g∨g = w.heap.size) :
  OwnN L w0 W (.slice (some ⟨g,0,none⟩) (ts.length + 1) cap) (ts++[(e,y,z)]):=by
 have kW:Kept v.ownBlock.toList w W:=((Kept.refl _ w)).grown gr (by intro k hk; left; simp [hk])
 have kW0:Kept L w0 W:=h.kept.grown gr (by intro k hk; right; exact (h.own.lt k hk).1)
 have key:∀ t∈ts++[(e,y,z)],OkE w t.1 t.2.1 t.2.2∧∀ b,b∈nblk t.2.1 t.1.key∨b∈nblk t.2.2 t.1.val→v.ownBlock≠some b∧w0.heap.size≤b:=by
  intro t ht
  rcases List.mem_append.1 ht with ht | ht
  ·exact ⟨h.ok t ht,h.apart t ht⟩
  ·rw [List.mem_singleton] at ht; subst ht; exact ⟨hy,hn⟩
 refine ⟨?_,fun t ht=>?_,fun t ht b hb=>⟨fun e'=>?_,((key t ht).2 b hb).2⟩,kW0⟩
 ·rw [xb5n,List.length_append]; exact o
 ·exact ⟨(key t ht).1.k,(key t ht).1.key.keptN kW (fun b hb hm=>((key t ht).2 b (Or.inl hb)).1 (by simpa using hm)),(key t ht).1.val.keptN kW (fun b hb hm=>((key t ht).2 b (Or.inr hb)).1 (by simpa using hm))⟩
 ·simp only [Value.ownBlock,Option.some.injEq] at e'
  subst e'
  rcases hg with hg | hg
  ·exact ((key t ht).2 _ hb).1 hg
  ·have h9:g < w.heap.size:=by
    rcases hb with hb | hb
    ·exact (key t ht).1.key.ltN g hb
    ·exact (key t ht).1.val.ltN g hb
   omega
def NewN (B:Nat) (w:World) (v:Value) (es:List En):Prop:=∃ (L:List Nat) (w0:World) (ts:List (En × Value × Value)),es = ts.map (·.1)∧OwnN L w0 w v ts∧B≤w0.heap.size
theorem NewN.rdN {B:Nat} {w:World} {v:Value} {es:List En} (h:NewN B w v es):RdN w v es:=by
 obtain ⟨L,w0,ts,rfl,h1,_⟩:=h; exact h1.rdN
theorem NewN.nil (B:Nat) (w:World) (h:B≤w.heap.size):NewN B w (.slice none 0 0) []:=⟨[],w,[],rfl,OwnN.start (Kept.refl [] w),h⟩
theorem NewN.weak {B C:Nat} {w:World} {v:Value} {es:List En} (h:NewN B w v es) (hc:C≤B):NewN C w v es:=by
 obtain ⟨L,w0,ts,h1,h2,h3⟩:=h; exact ⟨L,w0,ts,h1,h2,Nat.le_trans hc h3⟩
theorem NewN.kept {B:Nat} {M:List Nat} {w w':World} {v:Value} {es:List En} (h:NewN B w v es) (k:Kept M w w') (hM:∀ x∈M,x < B):NewN B w' v es:=by
 obtain ⟨L,w0,ts,h1,h2,h3⟩:=h
 refine ⟨L++M,w0,ts,h1,(h2.mono (M:=L++M) (fun x hx=>by simp [hx])).old k (fun x hx=>⟨by simp [hx],by have:=hM x hx; omega⟩),h3⟩
def takeN (p:List Nat):Nat→Nat→List En × Nat × Nat
 | i,0=>([],i,0)
 | i,n + 1=>if (takeE p i).2.2≠0 then ([],0,(takeE p i).2.2) else ((takeE p i).1 :: (takeN p (takeE p i).2.1 n).1,(takeN p (takeE p i).2.1 n).2)
def takeB (p:List Nat) (i:Nat):Nat × List En × Nat × Nat :=
 if (rUvar p (rUvar p i 0).2.1 (rUvar p i 0).2.2).2.2≠0 then (0,[],0,(rUvar p (rUvar p i 0).2.1 (rUvar p i 0).2.2).2.2)
 else if cntE (rUvar p i 0).1 (rUvar p (rUvar p i 0).2.1 (rUvar p i 0).2.2).1≠0 then (0,[],0,cntE (rUvar p i 0).1 (rUvar p (rUvar p i 0).2.1 (rUvar p i 0).2.2).1)
 else ((rUvar p i 0).1,takeN p (rUvar p (rUvar p i 0).2.1 (rUvar p i 0).2.2).2.1 (rUvar p (rUvar p i 0).2.1 (rUvar p i 0).2.2).1)
theorem xb3g (p:List Nat) (i e:Nat):(rUvar p i e).1 < 18446744073709551616:=by
 unfold rUvar
 split
 ·show (0:Nat) < _; omega
 ·split
  ·show (0:Nat) < _; omega
  ·exact fuv_lt _ 0 0 (by decide) (by decide)
theorem xb4t {ops:Array Oper} {o:Oper} {a:Act} {K:Act→World→Prop} {Q:Exit→Act→World→Prop} {F:Prop} (hgd:o.guard = none) (s x:Operand)
  (ho:o.op = .call { callee:=.builtin .append,args:=#[s,x],argTypes:=#[73,73] }) (hty:o.type = 73)
  (w:World) (base:Nat) (v:Value) (ts:List (En × Value × Value)) (e:En) (y z:Value) (H:Nat) (h:w.ownsRow base 71 3 v ts.length (cellsN ts)) (hnew:w.heap[H]? = some (.cells #[.int .u8 (e.k:Int),y,z] 71 (0,0))) (hy:y.oneCell' = true) (hz:z.oneCell' = true) (hl:ts.length + 1≤1000000000) (hb:base≤w.heap.size)
  (hs:a.eval s = v) (hx:a.eval x = .slice (some ⟨H,0,none⟩) 1 1)
  (hK:∀ g cap w1,Hid (w1.ownsRow base 71 3 (.slice (some ⟨g,0,none⟩) (ts.length + 1) cap) (ts.length + 1) (cellsN ts++[.int .u8 (e.k:Int),y,z]))→Hid (w.grownBy w1 v.ownBlock)→Hid (v.ownBlock = some g∨g = w.heap.size) →
   K (a.put o.dst (.slice (some ⟨g,0,none⟩) (ts.length + 1) cap)) w1) :
  if Region.wanted o (yielded ops a.tmps) = true then Oper.wp Tryz.prog o a w K Q else F:=by
 obtain ⟨g,cap,w1,hrun,h2,h3,h4⟩:=pushN w base v ts e y z H h hnew hy hz hl hb
 have hw:Region.wanted o (yielded ops a.tmps) = true:=by simp [Region.wanted,hgd]
 rw [if_pos hw]
 unfold Oper.wp execOp
 simp only [ho,hty,resolve,invoke,builtin,Sem.run_bind,Sem.run_pure,Result.andThen_ok,List.map_toArray,List.map_cons,List.map_nil,hs,hx,hrun]
 exact hK g cap w1 h2 h3 h4
def TookB (w w':World) (b:Nat) (gv:Value) (p:List Nat) (x:Nat × List En × Nat × Nat) (r:Ending):Prop :=
 (x.2.2.2 = 0→∃ v,r = .returned (.agg #[.int .u64 (x.1:Int),v])∧NewN w.heap.size w' v x.2.1∧ReAt w' b gv p x.2.2.1 0)∧(x.2.2.2≠0→r = .panicked (gave x.2.2.2))∧Kept [b] w w'
theorem Tryz.size_batch:(Tryz.prog.info? 75).map (·.size) = some 2:=by kernel_rfl
set_option maxHeartbeats 2000000 in
theorem xa7s (b:Nat) (gv:Value) (p:List Nat) (i:Nat) (w:World) (h:ReAt w b gv p i 0) (hgv:∀ x∈blk gv,x < w.heap.size) :
  Calls Tryz.prog 136 #[.pointer (some ⟨b,0,none⟩)] w fun r w'=>TookB w w' b gv p (takeB p i) r:=by
 have H:=hide h
 have hblt:=h.lt
 obtain ⟨T,hT⟩:∃ T,takeB p i = T:=⟨_,rfl⟩
 rw [hT]
 have HT:=hide hT
 unfold takeB at HT
 clear hT h
 have HZ:=hide (heap_alloc_new w (.cells #[.int .u64 0,.slice none 0 0] 75))
 have HK0:=hide ((Kept.refl [b] w).alloc (.cells #[.int .u64 0,.slice none 0 0] 75))
 have HR0:=hide ((uh H).kept ((Kept.refl [] w).alloc (.cells #[.int .u64 0,.slice none 0 0] 75)) (by simp) (by simp))
 have hfl:=xb3g p i 0
 go_enter Tryz.func136,Tryz.ntmps136
 go_wp2_with fail
 refine Calls.mono (xb0w b gv p i 0 _ (uh HR0)) ?_
 rintro r w1 ⟨rfl,r1,k1⟩
 have hne0:w.heap.size≠b:=by omega
 have HZ1:=hide (k1.heap (uh HZ) (by simpa using hne0))
 have HK1:=hide ((uh HK0).trans k1 (by simp))
 obtain ⟨x,hx⟩:∃ x,rUvar p i 0 = x:=⟨_,rfl⟩
 rw [hx] at HT r1 hfl ⊢
 clear hx
 obtain ⟨f,i1,e1⟩:=x
 simp only at HT r1 hfl ⊢
 have HR1:=hide r1
 clear r1 k1
 have hs1':w.heap.size < w1.heap.size:=lt_of_block (uh HZ1)
 have hcl:=xb3g p i1 e1
 have HKA:=hide ((uh HK1).alloc (.cells #[.int .u64 (f:Int),.slice none 0 0] 75))
 have HRA:=hide ((uh HR1).kept ((Kept.refl [] w1).alloc (.cells #[.int .u64 (f:Int),.slice none 0 0] 75)) (by simp) (by simp))
 have HGA:=hide (heap_alloc_new w1 (.cells #[.int .u64 (f:Int),.slice none 0 0] 75))
 have HZA:=hide (((Kept.refl [] w1).alloc (.cells #[.int .u64 (f:Int),.slice none 0 0] 75)).heap (uh HZ1) (by simp))
 have HSA:=hide (show (w1.alloc (.cells #[.int .u64 (f:Int),.slice none 0 0] 75)).heap.size = w1.heap.size + 1 by simp)
 go_wp2_with fail
 obtain ⟨WA,hWA⟩:∃ W,w1.alloc (.cells #[.int .u64 (f:Int),.slice none 0 0] 75) = W:=⟨_,rfl⟩
 rw [hWA] at HKA HRA HGA HZA HSA ⊢
 clear hWA
 have hneg:w1.heap.size≠b:=by omega
 refine Calls.mono (xb0w b gv p i1 e1 WA (uh HRA)) ?_
 rintro r w2 ⟨rfl,r2,k2⟩
 obtain ⟨x,hx⟩:∃ x,rUvar p i1 e1 = x:=⟨_,rfl⟩
 rw [hx] at HT r2 hcl ⊢
 clear hx
 obtain ⟨n,i2,e2⟩:=x
 simp only at HT r2 hcl ⊢
 have HR2:=hide r2
 have HG2:=hide (k2.heap (uh HGA) (by simpa using hneg))
 have HZ2:=hide (k2.heap (uh HZA) (by simpa using hne0))
 have HK2:=hide ((uh HKA).trans k2 (by simp))
 have HKW2:=hide k2
 clear r2 k2
 go_wp2_with fail
 refine Calls.mono (xa0m b gv p i2 e2 w2 (uh HR2)) ?_
 rintro r w3 ⟨rfl,rfl⟩
 by_cases hE:e2≠0
 ·have HT2:=hide (by rw [← uh HT,if_pos hE]:T = (0,[],0,e2))
  go_wp2_with fail
  refine Calls.mono (xa1j e2 _ hE) ?_
  rintro r w6 ⟨rfl,rfl⟩
  exact ⟨rfl,fun h=>absurd h (by rw [uh HT2]; exact hE),fun _=>by rw [uh HT2],uh HK2⟩
 have HT1:=hide (by have h9:=uh HT; rw [if_neg hE] at h9; exact h9)
 replace hE:e2 = 0:=Decidable.not_not.1 hE
 subst hE
 clear HT
 go_wp2_with fail
 refine Calls.mono (xa2u _) ?_
 rintro r w4 ⟨rfl,rfl⟩
 have q0:=cell_of_row _ _ 0 _ _ _ (uh HG2)
 go_wp2_with fail
 refine Calls.mono (xa2j f n _ hfl hcl) ?_
 rintro r w5 ⟨rfl,rfl⟩
 by_cases hE:cntE f n≠0
 ·have HT2:=hide (by rw [← uh HT1,if_pos hE]:T = (0,[],0,cntE f n))
  go_wp2_with fail
  refine Calls.mono (xa1j (cntE f n) _ hE) ?_
  rintro r w6 ⟨rfl,rfl⟩
  exact ⟨rfl,fun h=>absurd h (by rw [uh HT2]; exact hE),fun _=>by rw [uh HT2],uh HK2⟩
 have HT2:=hide (by have h9:=uh HT1; rw [if_neg hE] at h9; exact h9.symm)
 replace hE:cntE f n = 0:=Decidable.not_not.1 hE
 have hn64:n≤64:=by
  unfold cntE at hE
  split at hE
  ·omega
  ·omega
 rw [hE]
 clear HT1 hE
 go_wp2_with fail
 refine Calls.mono (xa2u _) ?_
 rintro r w6 ⟨rfl,rfl⟩
 go_wp2_with fail
 have HW6:=hide (Kept.refl [b,w1.heap.size] w6)
 have hgb6:w1.heap.size < w6.heap.size:=lt_of_block (uh HG2)
 have hb6:b < w6.heap.size:=by omega
 go_loopw [19] (fun t19 wr=>∃ (j ij:Nat) (vE:Value) (ts:List (En × Value × Value)),j≤n∧t19 = .int .u64 j∧Hid (ts.length = j)∧Hid (takeN p i2 n = (ts.map (·.1)++(takeN p ij (n - j)).1,(takeN p ij (n - j)).2))∧Hid (ReAt wr b gv p ij 0)∧Hid (wr.heap[w1.heap.size]? = some (.cells #[.int .u64 (f:Int),vE] 75 (0,0))) ∧
  Hid (wr.heap[w.heap.size]? = some (.cells #[.int .u64 0,.slice none 0 0] 75 (0,0)))∧Hid (OwnN [b,w1.heap.size] w6 wr vE ts)) (fun t _=>n - (intOf t).toNat)
 case atStart=>exact ⟨0,i2,.slice none 0 0,[],Nat.zero_le _,rfl,hide rfl,hide (by simp),HR2,HG2,HZ2,hide (OwnN.start (uh HW6))⟩
 case round =>
  obtain ⟨j,ij,vE,ts,hj,rfl,HJ,HTN,HR,HG,HZR,HO⟩:=hrel
  by_cases hlt:j < n
  ·have hlt':(j:Int) < n:=by omega
   obtain ⟨m,hm⟩:∃ m,n - j = m + 1:=⟨n - j - 1,by omega⟩
   have hmm:n - (j + 1) = m:=by omega
   rw [hm] at HTN
   have HHS:=hide (by have h9:=lt_of_block (uh HZR); have h8:=(uh HO).kept.size; omega:w6.heap.size≤wr.heap.size)
   have HRD:=hide ((uh HR).kept (Kept.refl [] wr).drew (by simp) (by simp))
   have HGV:=hide (fun x hx=>by have h9:=hgv x hx; have h8:=uh HHS; show x < wr.heap.size; omega:∀ x∈blk gv,x < wr.drew.heap.size)
   have HCT:=hide (xa7p b gv p ij wr.drew (uh HRD) (uh HGV))
   have HTU:=hide (show takeN p ij (m + 1) = if (takeE p ij).2.2≠0 then ([],0,(takeE p ij).2.2) else ((takeE p ij).1 :: (takeN p (takeE p ij).2.1 m).1,(takeN p (takeE p ij).2.1 m).2) from rfl)
   obtain ⟨X,hX⟩:∃ X,takeE p ij = X:=⟨_,rfl⟩
   rw [hX] at HCT HTU
   clear hX
   obtain ⟨en,i3,e3⟩:=X
   simp only at HTU
   have c1:wr.cell? ⟨w1.heap.size,1,none⟩ = some vE:=by rw [cell_of_row _ _ _ _ _ _ (uh HG)]; rfl
   have HC1:=hide c1
   have HTB:=hide (fun he:e3≠0=>by rw [uh HT2]; show (takeN p i2 n).2.2 = e3; rw [uh HTN,uh HTU,if_pos he]:e3≠0→T.2.2.2 = e3)
   have HKR:=hide ((uh HK2).trans (uh HO).kept (by intro x hx; simp at hx; rcases hx with rfl | rfl; left; simp; right; omega))
   go_wp2_with fail
   go_region_law (first
    | (refine xb4t rfl _ _ rfl rfl _ w6.heap.size vE ts en (.slice a8 m8 c8) (.slice a9 m9 c9) w3.heap.size (by exact (uh HO3).own) (by exact heap_alloc_new w3 _) rfl rfl (by have:=uh HJ; omega) (by exact uh HB3) rfl rfl ?_; intro g cap w5 HO5 HG5 HA5; have hrow5:=(uh HK45 w5 HG5).heap (uh HGR4) (uh HNG4); have s5:=cell_of_row _ _ 1 _ _ _ hrow5; have z5:=frozen_of_row _ _ 1 _ _ hrow5; have HGR5:=hide hrow5; clear hrow5)
    | (go_simp; go_at_call 196; refine (uh HCT).mono ?_; rintro r w3 ⟨t1,t2,t3⟩; by_cases he3:e3≠0; exact (by have hr:=t2 he3; subst hr; exact ⟨rfl,fun h=>absurd ((uh HTB he3).symm.trans h) he3,fun _=>by rw [uh HTB he3],(uh HKR).trans ((Kept.refl [b] wr).drew.trans t3 (by simp)) (by simp)⟩); replace he3:e3 = 0:=Decidable.not_not.1 he3; subst he3; obtain ⟨kv,vv,hr,ok3,re3,nw3⟩:=t1 rfl; subst hr; obtain ⟨a8,m8,c8,hu8,_⟩:=id ok3.key; subst hu8; obtain ⟨a9,m9,c9,hu9,_⟩:=id ok3.val; subst hu9; have HT3:=hide t3; have HOK3:=hide ok3; have HRE3:=hide re3; have HNW3:=hide nw3; have HO3:=hide (((uh HO).old ((Kept.refl [b] wr).drew.trans t3 (by simp):Kept [b] wr w3) (by intro x hx; rw [List.mem_singleton] at hx; subst hx; exact ⟨by simp,hb6⟩)).pass (M:=[]) ((Kept.refl [] w3).alloc (.cells #[.int .u8 (en.k:Int),.slice a8 m8 c8,.slice a9 m9 c9] 71)) (by simp) (by simp) (by simp)); have HB3:=hide (uh HO3).kept.size; have HGR4:=hide (((Kept.refl [] w3).alloc (.cells #[.int .u8 (en.k:Int),.slice a8 m8 c8,.slice a9 m9 c9] 71)).heap (t3.heap (show wr.drew.heap[w1.heap.size]? = _ from uh HG) (by simpa using hneg)) (by simp)); have HNG4:=hide (by intro hm9; have h9:=(uh HO3).own.lt w1.heap.size (by simpa using hm9); omega:w1.heap.size∉vE.ownBlock.toList); have HK45:=hide (fun w5 (hg:Hid ((w3.alloc (.cells #[.int .u8 (en.k:Int),.slice a8 m8 c8,.slice a9 m9 c9] 71)).grownBy w5 vE.ownBlock))=>(Kept.refl vE.ownBlock.toList _).grown (uh hg) (by intro k hk; left; simp [hk])); have d1:=t3.cell (uh HC1) (by simpa using hneg); have d2:∀ ob,(w3.alloc ob).cell? ⟨w1.heap.size,1,none⟩ = some vE:=fun ob=>((Kept.refl [] w3).alloc ob).cell d1 (by simp); clear t1 t2 t3 ok3 re3 nw3; simp only [enC]))
   all_goals
    go_wp2
    refine ⟨⟨j + 1,i3,.slice (some ⟨g,0,none⟩) (ts.length + 1) cap,ts++[(en,.slice a8 m8 c8,.slice a9 m9 c9)],by omega,by go_num,hide (by rw [List.length_append,uh HJ]; rfl),hide ?_,hide ?_,hide ?_,hide ?_,hide ?_⟩,?_⟩
    ·rw [hmm,uh HTN,uh HTU,if_neg (by simp)]; simp
    ·have k1:=((Kept.refl [] w3).alloc (.cells #[.int .u8 (en.k:Int),.slice a8 m8 c8,.slice a9 m9 c9] 71))
     have k2:=uh HK45 w5 HG5
     have r1:=(uh HRE3).kept k1 (by simp) (by simp)
     have r2:=r1.kept k2 (fun hm9=>by have h9:=(uh HO3).own.lt b (by simpa using hm9); omega) (fun x hx hm9=>by have h9:=(uh HO3).own.lt x (by simpa using hm9); have h8:=hgv x hx; omega)
     exact r2.kept ((Kept.refl [w1.heap.size] w5).setCell (p:=⟨w1.heap.size,1,none⟩) (Or.inl (by simp)) _) (by simp; omega) (fun x hx=>by simp; have h8:=hgv x hx; omega)
    ·exact heap_setCell_same w5 w1.heap.size 1 _ 75 _ (uh HGR5)
    ·have k1:=((Kept.refl [] w3).alloc (.cells #[.int .u8 (en.k:Int),.slice a8 m8 c8,.slice a9 m9 c9] 71))
     have z1:=(uh HT3).heap (show wr.drew.heap[w.heap.size]? = _ from uh HZR) (by simpa using hne0)
     have z2:=k1.heap z1 (by simp)
     have z3:=(uh HK45 w5 HG5).heap z2 (fun hm9=>by have h9:=(uh HO3).own.lt w.heap.size (by simpa using hm9); omega)
     exact ((Kept.refl [w1.heap.size] w5).setCell (p:=⟨w1.heap.size,1,none⟩) (Or.inl (by simp)) _).heap z3 (by simp; omega)
    ·have o5:=(uh HO3).push ((uh HOK3).old ((Kept.refl [] w3).alloc _)) (fun b' hb'=>by
      have h9:wr.heap.size≤b':=by
       rcases hb' with hb' | hb'
       ·exact uh HNW3 b' (Or.inl (xa4f hb').1)
       ·exact uh HNW3 b' (Or.inr (xa4f hb').1)
      have h8:=uh HHS
      exact ⟨fun e=>by have h7:=((uh HO).own.lt b' e).2; omega,by omega⟩) (uh HO5) (uh HG5) (uh HA5)
     refine o5.pass ((Kept.refl [w1.heap.size] w5).setCell (p:=⟨w1.heap.size,1,none⟩) (Or.inl (by simp)) _) (by simp) (fun x hx e=>?_) (fun x hx t ht=>⟨fun hb'=>?_,fun hb'=>?_⟩)
     ·have h9:=(o5.own.lt x e).1; rw [List.mem_singleton] at hx; omega
     ·have h9:=(o5.apart t ht x (Or.inl hb')).2; rw [List.mem_singleton] at hx; omega
     ·have h9:=(o5.apart t ht x (Or.inr hb')).2; rw [List.mem_singleton] at hx; omega
    ·simp [intOf]; omega
  ·have hlt':¬ (j:Int) < n:=by omega
   have hjn:j = n:=by omega
   subst hjn
   rw [Nat.sub_self] at HTN
   have HT3:=hide (by rw [uh HT2,uh HTN]; simp [takeN]:T = (f,ts.map (·.1),ij,0))
   have HK9:=hide ((uh HK2).trans (uh HO).kept (by intro x hx; simp at hx; rcases hx with rfl | rfl; left; simp; right; omega))
   obtain ⟨aE,mE,cE,hvE⟩:∃ aE mE cE,vE = .slice aE mE cE:=by
    rcases (uh HO).own.2 with ⟨rfl,_⟩ | ⟨g,cap,cur,rfl,_⟩
    ·exact ⟨_,_,_,rfl⟩
    ·exact ⟨_,_,_,rfl⟩
   subst hvE
   have krow:=(Kept.refl [w.heap.size] wr).setRowE (g:=w.heap.size) (Or.inl (by simp)) #[.int .u64 (f:Int),.slice aE mE cE]
   have HOR:=hide (((uh HO).mono (M:=[b,w1.heap.size,w.heap.size]) (by intro x hx; simp at hx; rcases hx with rfl | rfl <;> simp)).pass krow (by simp) (fun x hx e=>by have h9:=((uh HO).own.lt x e).1; rw [List.mem_singleton] at hx; omega) (fun x hx t ht=>⟨fun hb'=>by have h9:=((uh HO).apart t ht x (Or.inl hb')).2; rw [List.mem_singleton] at hx; omega,fun hb'=>by have h9:=((uh HO).apart t ht x (Or.inr hb')).2; rw [List.mem_singleton] at hx; omega⟩))
   have HRR:=hide ((uh HR).kept krow (by simp; omega) (fun x hx=>by simp; have h9:=hgv x hx; omega))
   clear krow
   go_wp2_with (first
    | (refine wpList_load_row rfl 75 _ rfl w1.heap.size rfl _ #[.int .u64 (f:Int),.slice aE mE cE] (0,0) _ (uh HG) Tryz.underlying75 rfl Tryz.size_batch ?_)
    | (refine wpList_store_row rfl 75 _ _ rfl w.heap.size #[.int .u64 (f:Int),.slice aE mE cE] rfl rfl _ #[.int .u64 0,.slice none 0 0] (uh HZR) Tryz.size_batch rfl (by simp [Value.oneCell']) ?_))
   refine bodyPost_ret (v:=.agg #[.int .u64 (f:Int),.slice aE mE cE]) ?_ rfl ⟨fun _=>⟨.slice aE mE cE,by rw [uh HT3],?_,?_⟩,fun h=>absurd (by rw [uh HT3]) h,(uh HK9).setRowE (Or.inr (Nat.le_refl _)) _⟩
   ·exact results_cell_row rfl _ _ w.heap.size _ #[.int .u64 (f:Int),.slice aE mE cE] (0,0) _ rfl (setRow_heap _ _ _ _ _ _ (uh HZR)) Tryz.underlying75 rfl Tryz.size_batch
   ·rw [uh HT3]; exact ⟨_,w6,ts,rfl,uh HOR,by omega⟩
   ·rw [uh HT3]; exact uh HRR
theorem xb2i {w:World} {g:Nat} {a b:Value} {t:TypeId} (h:w.heap[g]? = some (.cells #[a,b] t (0,0))) (x y:Value):((w.setCell ⟨g,0,none⟩ x).setCell ⟨g,1,none⟩ y).heap[g]? = some (.cells #[x,y] t (0,0)):=by
 rw [heap_setCell_same _ g 1 _ t _ (heap_setCell_same w g 0 _ t _ h)]; rfl
theorem xa7c {L:List Nat} {w0 w:World} (k:Kept L w0 w) (g:Nat) (hg:g∈L∨w0.heap.size≤g) (x y:Value):Kept L w0 ((w.setCell ⟨g,0,none⟩ x).setCell ⟨g,1,none⟩ y):=(k.setCell hg x).setCell hg y
theorem xb1h (ge gf:Nat) (w:World) :
  CallsD Tryz.prog 133 #[.pointer (some ⟨ge,0,none⟩),.pointer (some ⟨gf,0,none⟩)] .returning w fun e u' w'=>e = .returned (.tuple #[])∧u' = .returning∧w' = w:=by
 refine callsD_of_wpS Tryz.func133 rfl fun c₀ cs hu=>?_
 apply wpS_seq
 apply wpS_region
 simp [wpOpsS,go_sem,recoverD,hu,Tryz.ntmps133,Exit.thenS]
 refine wpS_of_wp ?_
 go_wp2
 cases c₀
 simp_all [bodyPostS,results,Tryz.results133]
theorem xa5o (f ge gf:Nat) (w:World) (a b x:Value) (he:w.heap[ge]? = some (.cells #[a,b] 75 (0,0))) (hf:w.heap[gf]? = some (.cells #[x] 27 (0,0))) (hne:ge≠gf) :
  CallsD Tryz.prog 133 #[.pointer (some ⟨ge,0,none⟩),.pointer (some ⟨gf,0,none⟩)] (.panicking (gave f)) w fun e u' w'=>e = .returned (.tuple #[])∧u' = .panicking [{ v:=.iface 286 (.agg #[.int .i64 (f:Int)]),recovered:=true }] ∧
   (w'.heap[ge]? = some (.cells #[.int .u64 0,.slice none 0 0] 75 (0,0))∧w'.heap[gf]? = some (.cells #[.int .i64 (f:Int)] 27 (0,0))∧Kept [ge,gf] w w'):=by
 have HE:=hide he
 have HF:=hide hf
 clear he hf
 unfold gave
 refine callsD_of_wpS Tryz.func133 rfl fun c₀ cs hu=>?_
 apply wpS_seq
 apply wpS_region
 simp [wpOpsS,go_sem,recoverD,hu,Tryz.ntmps133,Exit.thenS]
 refine wpS_of_wp ?_
 go_wp2_with fail
 refine Calls.mono (xb3s f w) ?_
 rintro r w1 ⟨rfl,k1⟩
 have HE1:=hide (k1.heap (uh HE) (by simp))
 have HF1:=hide (k1.heap (uh HF) (by simp))
 have HK1:=hide k1
 clear k1
 have s0:=cell_of_row _ _ 0 _ _ _ (uh HE1)
 have s1:=cell_of_row _ _ 1 _ _ _ (uh HE1)
 have t0:=cell_of_row _ _ 0 _ _ _ (uh HF1)
 have f0:=frozen_of_row _ _ 0 _ _ (uh HE1)
 have f1:=frozen_of_row _ _ 1 _ _ (uh HE1)
 have g0:=frozen_of_row _ _ 0 _ _ (uh HF1)
 have hne':gf≠ge:=fun h=>hne h.symm
 have HG1:=hide (xb2i (uh HE1) (.int .u64 0) (.slice none 0 0))
 have kp:=xa7c (Kept.refl [ge] w1) ge (Or.inl (by simp)) (.int .u64 0) (.slice none 0 0)
 have HG2:=hide (heap_setCell_same _ gf 0 _ 27 (.int .i64 (f:Int)) (kp.heap (uh HF1) (by simpa using hne')))
 have HG3:=hide (((Kept.refl [gf] _).setCell (p:=⟨gf,0,none⟩) (Or.inl (by simp)) (.int .i64 (f:Int))).heap (uh HG1) (by simpa using hne))
 have HK2:=hide ((xa7c ((uh HK1).mono (M:=[ge,gf]) (by simp)) ge (Or.inl (by simp)) (.int .u64 0) (.slice none 0 0)).setCell (p:=⟨gf,0,none⟩) (Or.inl (by simp)) (.int .i64 (f:Int)))
 clear kp
 go_wp2
 cases c₀
 simp_all [bodyPostS,results,Tryz.results133]
 exact ⟨uh HG3,uh HG2,uh HK2⟩
def decB (p:List Nat):Nat × List En × Nat :=
 if (takeB p 0).2.2.2≠0 then (0,[],(takeB p 0).2.2.2) else if doneE p (takeB p 0).2.2.1 0≠0 then (0,[],doneE p (takeB p 0).2.2.1 0) else ((takeB p 0).1,(takeB p 0).2.1,0)
set_option maxHeartbeats 2000000 in
theorem xa4u (v:Value) (p:List Nat) (w:World) (h:Rd w v p) :
  Calls Tryz.prog 87 #[v] w fun r w'=>∃ bv,r = .returned (.tuple #[.agg #[.int .u64 ((decB p).1:Int),bv],.int .i64 (decB p).2.2])∧NewN w.heap.size w' bv (decB p).2.1∧Kept [] w w':=by
 have H:=hide h
 clear h
 obtain ⟨D,hD⟩:∃ D,decB p = D:=⟨_,rfl⟩
 rw [hD]
 have HD:=hide hD
 unfold decB at HD
 clear hD
 have hmf:∀ (fn:Fn) (first cap:Array Value) (w:World),(Instr.makeFunc fn first cap).run Tryz.prog w = .ok (.func fn first cap) w:=fun _ _ _ _=>rfl
 have HE:=hide (((Kept.refl [] (w.alloc (.cells #[.int .u64 0,.slice none 0 0] 75))).alloc (.cells #[.int .i64 0] 27)).heap (heap_alloc_new w (.cells #[.int .u64 0,.slice none 0 0] 75)) (by simp))
 have HF:=hide (xa4a w (.cells #[.int .u64 0,.slice none 0 0] 75) (.cells #[.int .i64 0] 27))
 have HK0:=hide (((Kept.refl [] w).alloc (.cells #[.int .u64 0,.slice none 0 0] 75)).alloc (.cells #[.int .i64 0] 27))
 have HS0:=hide (show ((w.alloc (.cells #[.int .u64 0,.slice none 0 0] 75)).alloc (.cells #[.int .i64 0] 27)).heap.size = w.heap.size + 2 by simp)
 go_enter_defers Tryz.func87,Tryz.ntmps87
 go_wp2_with fail
 refine Calls.mono (xa3h v p _ ((uh H).old (uh HK0) (by simp))) ?_
 rintro r w1 ⟨b,gv,rfl,hb,r1,g1,k1⟩
 rw [uh HS0] at hb
 have HG1:=hide (fun x hx=>by have h9:=g1 x hx; rw [uh HS0] at h9; exact h9:∀ x∈blk gv,w.heap.size + 2≤x∧x < w1.heap.size)
 have HE1:=hide (k1.heap (uh HE) (by simp))
 have HF1:=hide (k1.heap (uh HF) (by simp))
 have HK1:=hide ((uh HK0).trans k1 (by simp))
 have HR1:=hide r1
 clear r1 g1 k1
 go_wp2_with fail
 refine Calls.mono (xa7s b gv p 0 w1 (uh HR1) (fun x hx=>(uh HG1 x hx).2)) ?_
 rintro r w2 ht
 obtain ⟨T,hT⟩:∃ T,takeB p 0 = T:=⟨_,rfl⟩
 rw [hT] at HD ht
 clear hT
 obtain ⟨ff,es,i2,f2⟩:=T
 simp only at HD
 obtain ⟨t1,t2,t3⟩:=ht
 simp only at t1 t2
 have HE2:=hide (t3.heap (uh HE1) (by simp; omega))
 have HF2:=hide (t3.heap (uh HF1) (by simp; omega))
 have HK2:=hide ((uh HK1).trans t3 (by simp; omega))
 clear t3
 by_cases hf2:f2≠0
 ·have hr:=t2 hf2
  subst hr
  have HD2:=hide (by rw [← uh HD,if_pos hf2]:D = (0,[],f2))
  clear t1 t2 HD
  go_wp2
  refine leaves_cons (f:=133) (args:=#[.pointer (some ⟨w.heap.size,0,none⟩),.pointer (some ⟨w.heap.size + 1,0,none⟩)]) (by simp) (by simp [go_sem]) ?_
  refine (xa5o f2 w.heap.size (w.heap.size + 1) w2 _ _ _ (uh HE2) (uh HF2) (by omega)).mono ?_
  rintro e u' w3 ⟨rfl,rfl,h1,h2,k3⟩
  have HE3:=hide h1
  have HF3:=hide h2
  clear h1 h2
  show Leaves _ _ _ _ [] .returning w3
  refine ⟨.tuple #[.agg #[.int .u64 0,.slice none 0 0],.int .i64 (f2:Int)],?_,?_⟩
  ·exact xa0z rfl _ _ w.heap.size (w.heap.size + 1) _ _ _ _ _ _ .i64 _ rfl (uh HE3) rfl (uh HF3) Tryz.underlying75 rfl Tryz.size_batch Tryz.underlying27
  ·refine ⟨.slice none 0 0,by rw [uh HD2]; rfl,by rw [uh HD2]; exact NewN.nil _ _ ((uh HK2).trans k3 (by simp)).size,(uh HK2).trans k3 (by simp)⟩
 replace hf2:f2 = 0:=Decidable.not_not.1 hf2
 obtain ⟨bv,hr,ok2,re2⟩:=t1 hf2
 subst hr
 have HD1:=hide (by have h9:=uh HD; rw [if_neg (by simpa using hf2)] at h9; exact h9)
 clear t1 t2 HD hf2
 obtain ⟨a3,m3,c3,kf,vf,hu3,_⟩:=id ok2.rdN
 subst hu3
 have HO2:=hide ok2
 have HR2:=hide re2
 clear ok2 re2
 have hw1:w.heap.size + 2≤w1.heap.size:=by have h9:=lt_of_block (uh HF1); omega
 have kst:=(Kept.refl [w.heap.size] w2).setRowE (g:=w.heap.size) (Or.inl (by simp)) #[.int .u64 (ff:Int),.slice a3 m3 c3]
 have HE3:=hide (setRow_heap w2 w.heap.size _ #[.int .u64 (ff:Int),.slice a3 m3 c3] 75 (0,0) (uh HE2))
 have HF3:=hide (kst.heap (uh HF2) (by simp))
 have HK3:=hide ((uh HK2).setRowE (g:=w.heap.size) (Or.inr (Nat.le_refl _)) #[.int .u64 (ff:Int),.slice a3 m3 c3])
 have HR3:=hide ((uh HR2).kept kst (by simp; omega) (fun x hx=>by simp; have h9:=uh HG1 x hx; omega))
 have HO3:=hide ((uh HO2).kept kst (by simp; omega))
 clear kst
 obtain ⟨A,hA⟩:∃ A:Array Value,#[.int .u64 (ff:Int),.slice a3 m3 c3] = A:=⟨_,rfl⟩
 have HA:=hide hA
 have HSZ:=hide (by rw [← hA]; exact Tryz.size_batch:(Tryz.prog.info? 75).map (·.size) = some A.size)
 have HS3:=hide (by rw [← hA]; rfl:A.size = 2)
 have HON:=hide (by rw [← hA]; simp [Value.oneCell']:A.all (·.oneCell') = true)
 rw [hA] at HE3 HF3 HK3 HR3 HO3 ⊢
 clear hA
 go_wp2_with (refine wpList_store_row rfl 75 _ _ rfl w.heap.size A rfl rfl _ _ (uh HE2) (uh HSZ) (uh HS3).symm (uh HON) ?_)
 obtain ⟨W3,hW3⟩:∃ W,w2.setRow w.heap.size A = W:=⟨_,rfl⟩
 rw [hW3] at HE3 HF3 HK3 HR3 HO3 ⊢
 clear hW3
 refine Calls.mono (xb8u b gv p i2 0 W3 (uh HR3)) ?_
 rintro r w4 ⟨rfl,n4,rfl⟩
 obtain ⟨d,hd⟩:∃ d,doneE p i2 0 = d:=⟨_,rfl⟩
 rw [hd] at HD1 ⊢
 clear hd
 have k4:=(Kept.refl [] W3).drewN n4
 have HE4:=hide (k4.heap (uh HE3) (by simp))
 have HF4:=hide (k4.heap (uh HF3) (by simp))
 have HK4:=hide ((uh HK3).trans k4 (by simp))
 have HO4:=hide ((uh HO3).kept k4 (by simp))
 clear k4
 by_cases hd0:d≠0
 ·have HD2:=hide (by rw [← uh HD1,if_pos hd0]:D = (0,[],d))
  clear HD1
  go_wp2_with fail
  refine Calls.mono (xa1j d _ hd0) ?_
  rintro r w5 ⟨rfl,rfl⟩
  clear hd0
  refine leaves_cons (f:=133) (args:=#[.pointer (some ⟨w.heap.size,0,none⟩),.pointer (some ⟨w.heap.size + 1,0,none⟩)]) (by simp) (by simp [go_sem]) ?_
  refine (xa5o d w.heap.size (w.heap.size + 1) _ _ _ _ (by have h9:=uh HE4; rw [← uh HA] at h9; exact h9) (uh HF4) (by omega)).mono ?_
  rintro e u' w6 ⟨rfl,rfl,h1,h2,k3⟩
  show Leaves _ _ _ _ [] .returning w6
  refine ⟨.tuple #[.agg #[.int .u64 0,.slice none 0 0],.int .i64 (d:Int)],?_,?_⟩
  ·exact xa0z rfl _ _ w.heap.size (w.heap.size + 1) _ _ _ _ _ _ .i64 _ rfl h1 rfl h2 Tryz.underlying75 rfl Tryz.size_batch Tryz.underlying27
  ·refine ⟨.slice none 0 0,by rw [uh HD2]; rfl,by rw [uh HD2]; exact NewN.nil _ _ ((uh HK4).trans k3 (by simp)).size,(uh HK4).trans k3 (by simp)⟩
 replace hd0:d = 0:=Decidable.not_not.1 hd0
 have HD2:=hide (by rw [← uh HD1,if_neg (by simpa using hd0)]:D = (ff,es,0))
 clear HD1
 subst hd0
 go_wp2_with fail
 refine Calls.mono (xa2u _) ?_
 rintro r w5 ⟨rfl,rfl⟩
 obtain ⟨W4,hW4⟩:∃ W,W3.drewN n4 = W:=⟨_,rfl⟩
 rw [hW4] at HE4 HF4 HK4 HO4 ⊢
 clear hW4
 have kst:=(Kept.refl [w.heap.size] W4).setRowE (g:=w.heap.size) (Or.inl (by simp)) A
 have HE5:=hide (setRow_heap W4 w.heap.size _ A 75 (0,0) (uh HE4))
 have HF5:=hide (kst.heap (uh HF4) (by simp))
 have HK5:=hide ((uh HK4).setRowE (g:=w.heap.size) (Or.inr (Nat.le_refl _)) A)
 have HO5:=hide ((uh HO4).kept kst (by simp; omega))
 clear kst
 have z0:=cell_of_row _ _ 0 _ _ _ (uh HF5)
 have zf:=frozen_of_row _ _ 0 _ _ (uh HF5)
 go_wp2_with (first
  | (refine wpList_load_row rfl 75 _ rfl w.heap.size rfl _ A (0,0) _ (uh HE4) Tryz.underlying75 rfl (uh HSZ) ?_)
  | (refine wpList_store_row rfl 75 _ _ rfl w.heap.size A rfl rfl _ _ (uh HE4) (uh HSZ) rfl (uh HON) ?_))
 have kc:=(Kept.refl [w.heap.size + 1] (W4.setRow w.heap.size A)).setCell (p:=⟨w.heap.size + 1,0,none⟩) (Or.inl (by simp)) (.int .i64 0)
 refine leaves_cons (f:=133) (args:=#[.pointer (some ⟨w.heap.size,0,none⟩),.pointer (some ⟨w.heap.size + 1,0,none⟩)]) (by simp) (by simp [go_sem]) ?_
 refine (xb1h w.heap.size (w.heap.size + 1) _).mono ?_
 rintro e u' w6 ⟨rfl,rfl,rfl⟩
 refine ⟨.tuple #[.agg A,.int .i64 0],?_,?_⟩
 ·exact xa0z rfl _ _ w.heap.size (w.heap.size + 1) _ _ _ _ _ _ .i64 _ rfl (kc.heap (uh HE5) (by simp)) rfl (heap_setCell_same _ (w.heap.size + 1) 0 _ 27 (.int .i64 0) (uh HF5)) Tryz.underlying75 rfl (uh HSZ) Tryz.underlying27
 ·refine ⟨.slice a3 m3 c3,by rw [uh HD2,← uh HA]; rfl,?_,(uh HK5).setCell (p:=⟨w.heap.size + 1,0,none⟩) (Or.inr (by show w.heap.size≤w.heap.size + 1; omega)) _⟩
  rw [uh HD2]
  exact ((uh HO5).kept kc (by simp; omega)).weak (by omega)
end
section
open Go Go.RowKit Go.BigFrame

theorem xa2v {P:Program} {id:Nat} {Q:Exit→Act→World→Prop} {a:Act} {W:World} {l:List Oper} (hm:P.follows .mixedOrders = true) (hB:Region.lexB .any l.toArray = true)
  (h:wpQuiet P l.toArray (fun w'=>Kept [] W w') (fun a'=>∀ w',Kept [] W w'→Q .normal a' w') l a):(Code.region id l.toArray true).wp P Q a W :=
 wp_region_quiet (C:=fun w'=>Kept [] W w') hm hB ((Kept.refl [] W).drew) (by simpa using h)
theorem xb9e {P:Program} {o:Oper} {a:Act} (ty:TypeId) (x:Operand) (ho:o.op = .load ty x) (ad:Addr) (hx:a.eval x = .pointer (some ad)) (w:World) (v:Value) (k:IntKind) (hu:P.underlying ty = some (.int k)) (hc:w.cell? ad = some v) :
  (execOp a.eval o).run P w = .ok (.value v) w:=by
 have h2:(isAgg ty).run P w = .ok false w:=by
  unfold isAgg
  rw [Sem.run_bind,run_underlying hu w]; simp
 unfold execOp
 simp only [ho,hx,Instr.loadAt,Instr.sureAddr,Sem.run_bind,Sem.run_pure,Result.andThen_ok,loadVar,h2]
 simp [go_sem,hc]
theorem xa2b {P:Program} {ops:Array Oper} {C:World→Prop} {Q:Act→Prop} {a:Act} {o:Oper} {rest:List Oper} (hw:Region.wanted o (yielded ops a.tmps) = true) (ty:TypeId) (x:Operand) (ho:o.op = .load ty x)
  (b off:Nat) (hx:a.eval x = .pointer (some ⟨b,off,none⟩)) (cs:List Value) (d:TypeDesc) (hg:∀ w,C w→w.rangeAt b off cs)
  (hu:P.underlying ty = some d) (hd:d.isRow = true) (hi:(P.info? ty).map (·.size) = some cs.length)
  (h:wpQuiet P ops C Q rest (a.put o.dst (.agg cs.toArray))):wpQuiet P ops C Q (o :: rest) a:=by
 refine wpQuiet_want hw fun K hK=>⟨.agg cs.toArray,fun w hw=>?_,hK _ h⟩
 unfold Oper.quietAt execOp
 simp only [ho]
 have:=run_loadVar_mid (P:=P) w b off ty cs d (hg w hw) hu hd hi
 simp only [hx,Instr.loadAt,Instr.sureAddr,Sem.run_bind,Sem.run_pure,Result.andThen_ok,this,Oper.quietUpon,and_self]
end
section
open Go.RowKit Go.BigFrame
theorem xb8d {α:Type} (a b:List α) (i:Nat) (ha:i < a.length) (hb:i < b.length) (h:a.take i = b.take i) (x:a[i] = b[i]):a.take (i + 1) = b.take (i + 1):=by
 rw [List.take_succ_eq_append_getElem ha,List.take_succ_eq_append_getElem hb,h,x]
set_option maxHeartbeats 1000000 in
theorem xa4r (u v:Value) (es fs:List En) (w:World) (hu:RdN w u es) (hv:RdN w v fs) :
  Calls Tryz.prog 103 #[u,v] w fun r w'=>r = .returned (.bool (decide (es = fs)))∧Kept [] w w':=by
 obtain ⟨ao,len,cap,kv,vv,rfl,h1,h2,h3,h4,h5⟩:=hu
 obtain ⟨ao',len',cap',kv',vv',rfl,g1,g2,g3,g4,g5⟩:=hv
 have H4:=hide h4
 have H5:=hide h5
 have G4:=hide g4
 have G5:=hide g5
 clear h4 h5 g4 g5
 subst h1
 subst g1
 go_enter Tryz.func103,Tryz.ntmps103
 by_cases hl:es.length = fs.length
 ·have hb:((es.length:Int) != (fs.length:Int)) = false:=by rw [hl]; simp
  have HL:=hide hl
  clear hl
  go_wp2_with fail
  go_loopw [5] (fun t12 wr=>∃ (i:Nat),i≤es.length∧t12 = .int .i64 i∧Hid (es.take i = fs.take i)∧Hid (Kept [] w wr)) (fun t _=>es.length - (intOf t).toNat)
  case atStart=>exact ⟨0,Nat.zero_le _,rfl,hide (by simp),hide (Kept.refl _ _)⟩
  case round =>
   obtain ⟨i,hi,rfl,HA,HK⟩:=hrel
   by_cases hlt:i < es.length
   ·have hlt':(i:Int) < es.length:=by omega
    have hle:i < fs.length:=by rw [← uh HL]; exact hlt
    have hle':(i:Int) < fs.length:=by omega
    obtain ⟨b,o,rfl,hcell⟩:=uh H5 (by omega)
    obtain ⟨b',o',rfl,gcell⟩:=uh G5 (by omega)
    have HRG:=hide (xa0y (hcell i hlt) (uh HK) (by simp))
    have GRG:=hide (xa0y (gcell i hle) (uh HK) (by simp))
    have HO:=hide ((uh H4 i hlt).old (uh HK))
    have GO:=hide ((uh G4 i hle).old (uh HK))
    have HN:=hide (fun (h:es[i] = fs[i])=>xb8d es fs i hlt hle (uh HA) h)
    have HM:=hide (fun (h:¬ es[i] = fs[i])=>decide_eq_false (fun e=>h (by simp [e]):¬ es = fs))
    clear hcell gcell
    generalize kv i = k1 at HRG HO
    generalize vv i = v1 at HRG HO
    generalize kv' i = k2 at GRG GO
    generalize vv' i = v2 at GRG GO
    generalize es[i] = x at HRG HO HN HM
    generalize fs[i] = y at GRG GO HN HM
    have HS1:=hide (by rw [Array.length_toList,xb3p]; exact Tryz.size_entry:(Tryz.prog.info? 71).map (·.size) = some (enC x k1 v1).toList.length)
    have HS2:=hide (by rw [Array.length_toList,xb3p]; exact Tryz.size_entry:(Tryz.prog.info? 71).map (·.size) = some (enC y k2 v2).toList.length)
    have HC1:=hide (fun w' (hw':Kept [] wr w')=>(xa7o x y k1 v1 k2 v2 w' ((uh HO).old hw') ((uh GO).old hw')).mono (fun e w2 (h2:_∧_)=>(⟨h2.1,hw'.trans h2.2 (by simp)⟩:_∧Kept [] wr w2)))
    by_cases hdd:x = y
    ·rw [decide_eq_true hdd] at HC1
     have HDD:=hide hdd
     clear hdd
     have hne:∀ p:Prop,(∀ w',Kept [] wr w'→p) = p:=fun p=>propext ⟨fun h=>h wr (Kept.refl [] wr),fun h _ _=>h⟩
     go_wp2_with fail
     refine xa2v (by kernel_rfl) (by kernel_rfl) ?_
     iterate 3 (go_big_quiet_step (fail))
     refine xa2b rfl 71 _ rfl b (o + i * 3) rfl (enC x k1 v1).toList _ (fun w' hw'=>xa0y (uh HRG) hw' (by simp)) Tryz.underlying71 rfl (uh HS1) ?_
     simp only [Act.put,List.setIfInBounds_toArray,List.set_cons_succ,List.set_cons_zero]
     iterate 3 (go_big_quiet_step (fail))
     refine xa2b rfl 71 _ rfl b' (o' + i * 3) rfl (enC y k2 v2).toList _ (fun w' hw'=>xa0y (uh GRG) hw' (by simp)) Tryz.underlying71 rfl (uh HS2) ?_
     simp only [Act.put,List.setIfInBounds_toArray,List.set_cons_succ,List.set_cons_zero]
     go_big_quiet_want
     go_big_quiet_op
     apply Exists.intro
     refine ⟨fun w' hw'=>?_,?_⟩
     ·exact uh HC1 w' hw'
     go_big_quiet_on
     repeat (go_big_quiet_step (fail))
     refine wpQuiet_nil ?_
     intro w6 hw6
     have HK6:=hide ((uh HK).trans hw6 (by simp))
     clear hw6 hne
     go_wp2
     refine ⟨⟨i + 1,by omega,by go_num,hide (uh HN (uh HDD)),HK6⟩,?_⟩
     simp [intOf]; omega
    ·rw [decide_eq_false hdd] at HC1
     have HDD:=hide hdd
     clear hdd
     have hne:∀ p:Prop,(∀ w',Kept [] wr w'→p) = p:=fun p=>propext ⟨fun h=>h wr (Kept.refl [] wr),fun h _ _=>h⟩
     go_wp2_with fail
     refine xa2v (by kernel_rfl) (by kernel_rfl) ?_
     iterate 3 (go_big_quiet_step (fail))
     refine xa2b rfl 71 _ rfl b (o + i * 3) rfl (enC x k1 v1).toList _ (fun w' hw'=>xa0y (uh HRG) hw' (by simp)) Tryz.underlying71 rfl (uh HS1) ?_
     simp only [Act.put,List.setIfInBounds_toArray,List.set_cons_succ,List.set_cons_zero]
     iterate 3 (go_big_quiet_step (fail))
     refine xa2b rfl 71 _ rfl b' (o' + i * 3) rfl (enC y k2 v2).toList _ (fun w' hw'=>xa0y (uh GRG) hw' (by simp)) Tryz.underlying71 rfl (uh HS2) ?_
     simp only [Act.put,List.setIfInBounds_toArray,List.set_cons_succ,List.set_cons_zero]
     go_big_quiet_want
     go_big_quiet_op
     apply Exists.intro
     refine ⟨fun w' hw'=>?_,?_⟩
     ·exact uh HC1 w' hw'
     go_big_quiet_on
     repeat (go_big_quiet_step (fail))
     refine wpQuiet_nil ?_
     intro w6 hw6
     have HK6:=hide ((uh HK).trans hw6 (by simp))
     clear hw6 hne
     go_wp2
     go_ret
     exact ⟨by rw [uh HM (uh HDD)]; rfl,uh HK6⟩
   ·have hlt':¬ (i:Int) < es.length:=by omega
    have hie:i = es.length:=by omega
    subst hie
    have HE:=hide (decide_eq_true (by have h9:=uh HA; rw [List.take_length,uh HL,List.take_length] at h9; exact h9:es = fs))
    go_wp2
    go_ret
    exact ⟨by rw [uh HE]; rfl,uh HK⟩
 ·have hb:((es.length:Int) != (fs.length:Int)) = true:=by rw [bne_iff_ne]; omega
  have HE:=hide (decide_eq_false (fun e=>hl (by rw [e]):¬ es = fs))
  clear hl
  go_wp2
  go_ret
  exact ⟨by rw [uh HE]; rfl,Kept.refl _ _⟩
set_option maxHeartbeats 1000000 in
theorem xa7f (f g:Nat) (u v:Value) (es fs:List En) (w:World) (hu:RdN w u es) (hv:RdN w v fs) :
  Calls Tryz.prog 54 #[.agg #[.int .u64 f,u],.agg #[.int .u64 g,v]] w fun r w'=>r = .returned (.bool (decide (f = g) && decide (es = fs)))∧Kept [] w w':=by
 have HU:=hide hu
 have HV:=hide hv
 obtain ⟨X,hX⟩:∃ X,decide (es = fs) = X:=⟨_,rfl⟩
 rw [hX]
 have HX:=hide hX
 clear hX
 obtain ⟨a1,m1,c1,_,_,rfl,_⟩:=hu
 obtain ⟨a2,m2,c2,_,_,rfl,_⟩:=hv
 have HK0:=hide (((Kept.refl [] w).alloc (.cells #[.int .u64 (f:Int),.slice a1 m1 c1] 75)).alloc (.cells #[.int .u64 (g:Int),.slice a2 m2 c2] 75))
 go_enter Tryz.func54,Tryz.ntmps54
 by_cases hk:f = g
 ·have e1:((f:Int) == (g:Int)) = true:=by rw [hk]; simp
  rw [decide_eq_true hk]
  have HKE:=hide hk
  clear hk
  go_wp2_with fail
  refine Calls.mono (xa4r _ _ es fs _ ((uh HU).old (uh HK0)) ((uh HV).old (uh HK0))) ?_
  rintro r w1 ⟨rfl,k1⟩
  rw [uh HX]
  have HK1:=hide ((uh HK0).trans k1 (by simp))
  clear k1
  go_wp2
  go_ret
  exact ⟨by simp,uh HK1⟩
 ·have e1:((f:Int) == (g:Int)) = false:=by rw [beq_eq_false_iff_ne]; omega
  rw [decide_eq_false hk]
  clear hk
  go_wp2
  go_ret
  exact ⟨by simp,uh HK0⟩

theorem rd_row {w:World} {g:Nat} (bs:List Nat) {cs:Array Value} {fr:Nat × Nat} (h:w.heap[g]? = some (.cells cs 5 fr)) (hc:cs = (bs.map u8).toArray) (hb:∀ x∈bs,x < 256) (n:Nat) (hn:bs.length = n) (hl:n≤140737488355328):Rd w (.slice (some ⟨g,0,none⟩) n n) bs:=by
 refine ⟨_,n,n,rfl,hn,Nat.le_refl _,⟨by omega,hl⟩,fun h=>by simp at h,hb,fun hp=>⟨g,0,rfl,fun i hi=>?_⟩⟩
 subst hc
 have hi':i < bs.length:=by omega
 rw [cell_of_row _ _ _ _ _ _ h,Nat.zero_add,List.getElem?_toArray,List.getElem?_map,List.getElem?_eq_getElem hi',List.getD_eq_getElem?_getD,List.getElem?_eq_getElem hi']
 rfl
theorem RdN.one {w:World} {g:Nat} {e:En} {kv vv:Value} {t:TypeId} {fr:Nat × Nat} (h:w.heap[g]? = some (.cells (enC e kv vv) t fr)) (ho:OkE w e kv vv):RdN w (.slice (some ⟨g,0,none⟩) 1 1) [e]:=by
 refine ⟨_,1,1,fun _=>kv,fun _=>vv,rfl,rfl,Nat.le_refl _,by omega,fun i hi=>?_,fun _=>⟨g,0,rfl,fun i hi=>?_⟩⟩
 ·have:i = 0:=by simpa using hi
  subst this; exact ho
 ·have:i = 0:=by simpa using hi
  subst this
  intro j v hv
  rw [cell_of_row _ _ _ _ _ _ h,Nat.zero_mul,Nat.add_zero,Nat.zero_add,← Array.getElem?_toList]
  exact hv
theorem xa8i (w:World) (a b c:Obj):(((w.alloc a).alloc b).alloc c).heap[w.heap.size]? = some a∧(((w.alloc a).alloc b).alloc c).heap[w.heap.size + 1]? = some b∧(((w.alloc a).alloc b).alloc c).heap[w.heap.size + 1 + 1]? = some c:=by
 refine ⟨?_,?_,?_⟩
 ·exact (((Kept.refl [] (w.alloc a)).alloc b).alloc c).heap (heap_alloc_new w a) (by simp)
 ·exact ((Kept.refl [] ((w.alloc a).alloc b)).alloc c).heap (xa4a w a b) (by simp)
 ·have h9:=xa4a (w.alloc a) b c
  rw [show (w.alloc a).heap.size = w.heap.size + 1 from Array.size_push _] at h9
  exact h9
def wideB (z:Int):Bool:=decide (1≤z∧z≤32)
theorem xa3f (z:Int) (w:World):Calls Tryz.prog 86 #[.int .i64 z] w fun e w'=>e = .returned (.bool (wideB z))∧w' = w:=by
 by_cases h1:1≤z
 ·by_cases h2:z≤32
  ·have hb:wideB z = true:=by simp [wideB,h1,h2]
   rw [hb]
   clear hb
   go_enter Tryz.func86,Tryz.ntmps86
   go_wp2
   go_ret
   exact ⟨rfl,rfl⟩
  ·have hb:wideB z = false:=by simp [wideB,h1]; omega
   have h2':decide (z≤32) = false:=by simpa using h2
   rw [hb]
   clear hb
   go_enter Tryz.func86,Tryz.ntmps86
   go_wp2
   go_ret
   exact ⟨rfl,rfl⟩
 ·have hb:wideB z = false:=by simp [wideB]; omega
  have h1':decide (1≤z) = false:=by simpa using h1
  rw [hb]
  clear hb
  go_enter Tryz.func86,Tryz.ntmps86
  go_wp2
  go_ret
  exact ⟨rfl,rfl⟩
def AppOk (base:Nat) (w:World) (v:Value) (bs:List Nat):Prop:=w.ownsRow base 5 1 v bs.length (bs.map u8)∨∃ g,v = .slice (some ⟨g,0,none⟩) bs.length bs.length∧Rd w v bs
theorem AppOk.pass {base:Nat} {w w':World} {v:Value} {bs:List Nat} (h:AppOk base w v bs) (k:Kept [] w w'):AppOk base w' v bs:=by
 rcases h with h | ⟨g,h1,h2⟩
 ·exact .inl (k.owns h (by simp))
 ·exact .inr ⟨g,h1,h2.old k (by simp)⟩
theorem pushA (w0 w:World) (v:Value) (bs:List Nat) (z:Nat) (H:Nat) (k:Kept [] w0 w) (h:AppOk w0.heap.size w v bs) (hnew:w.heap[H]? = some (.cells #[.int .u8 (z:Int)] 5 (0,0))) (hz:z < 256) (hl:bs.length + 1≤1000000000) :
  ∃ ao cap w1,(Builtin.append_ #[49,49] 49 #[v,.slice (some ⟨H,0,none⟩) 1 1]).run Tryz.prog w = .ok (.slice ao (bs.length + 1) cap) w1 ∧
   w1.ownsRow w0.heap.size 5 1 (.slice ao (bs.length + 1) cap) (bs++[z]).length ((bs++[z]).map u8)∧Kept [] w0 w1:=by
 have hr:Rd w (.slice (some ⟨H,0,none⟩) 1 1) [z]:=rd_lit hnew rfl (by simpa using hz) 1 rfl (by omega)
 rcases h with h | ⟨g,rfl,h2⟩
 ·obtain ⟨ao,cap,w1,hrun,ho,hg,_⟩:=appendAll w w0.heap.size v bs [z] _ 1 1 h hr (by simp; omega) k.size
  exact ⟨ao,cap,w1,hrun,ho,k.grown hg (fun j hj=>.inr (h.lt j hj).1)⟩
 ·obtain ⟨i0,hi,hz0,hz1,hz2⟩:=info_parts Tryz.info5
  have hold:∀ j u,(bs.map u8)[j]? = some u→w.cell? (Addr.add ⟨g,0,none⟩ j) = some u:=by
   intro j u hj
   by_cases h0:0 < (bs.map u8).length
   ·obtain ⟨ad',e,hc⟩:=h2.src h0
    cases e
    exact hc j u hj
   ·have:bs.map u8 = []:=List.eq_nil_of_length_eq_zero (by omega)
    rw [this] at hj; simp at hj
  have hnews:∀ j u,([z].map u8)[j]? = some u→w.cell? (Addr.add ⟨H,0,none⟩ j) = some u:=by
   intro j u hj
   obtain ⟨ad',e,hc⟩:=hr.src (by simp)
   cases e
   exact hc j u hj
  obtain ⟨v',w1,hrun,hown,hgrow⟩:=run_append_arg_grows (P:=Tryz.prog) w 49 49 5 i0 (.int .u8 0) 1 1 Tryz.underlying49 hi hz0 hz1 hz2 rfl (by decide)
   ⟨g,0,none⟩ bs.length bs.length (bs.map u8) (by simp) hold ⟨H,0,none⟩ 1 1 ([z].map u8) (by simp) hnews (by omega) (by unfold maxLen; omega) (by omega)
  obtain ⟨ao',cap',rfl⟩:=xa1k hown
  exact ⟨ao',cap',w1,hrun,by rw [List.length_append,List.map_append]; exact xa3m hown k.size,k.trans ((Kept.refl [] w).grown hgrow (by simp)) (by simp)⟩
theorem xa4m {ops:Array Oper} {rest:List Oper} {o:Oper} {a:Act} {Q:Exit→Act→World→Prop} (hgd:o.guard = none) (s x:Operand)
  (ho:o.op = .call { callee:=.builtin .append,args:=#[s,x],argTypes:=#[49,49] }) (hty:o.type = 49)
  (w0 w:World) (v:Value) (bs:List Nat) (z:Nat) (H:Nat) (k:Kept [] w0 w) (h:AppOk w0.heap.size w v bs) (hnew:w.heap[H]? = some (.cells #[.int .u8 (z:Int)] 5 (0,0))) (hz:z < 256) (hl:bs.length + 1≤1000000000)
  (hs:a.eval s = v) (hx:a.eval x = .slice (some ⟨H,0,none⟩) 1 1)
  (hK:∀ ao cap w1,Hid (w1.ownsRow w0.heap.size 5 1 (.slice ao (bs.length + 1) cap) (bs++[z]).length ((bs++[z]).map u8))→Hid (Kept [] w0 w1)→wpList Tryz.prog ops Q rest (a.put o.dst (.slice ao (bs.length + 1) cap)) w1) :
  wpList Tryz.prog ops Q (o :: rest) a w:=by
 obtain ⟨ao,cap,w1,hrun,h2,h3⟩:=pushA w0 w v bs z H k h hnew hz hl
 refine wpList_plain hgd fun K hK'=>?_
 unfold Oper.wp execOp
 simp only [ho,hty,resolve,invoke,builtin,Sem.run_bind,Sem.run_pure,Result.andThen_ok,List.map_toArray,List.map_cons,List.map_nil,hs,hx,hrun]
 exact hK' _ _ (hK ao cap w1 h2 h3)
theorem AppOk.shape {base:Nat} {w:World} {v:Value} {bs:List Nat} (h:AppOk base w v bs):∃ ao cap,v = .slice ao bs.length cap:=by
 rcases h with h | ⟨g,h1,h2⟩
 ·exact xa1k h
 ·exact ⟨_,_,h1⟩
set_option maxHeartbeats 2000000 in
theorem xa1e (w0 w:World) (v:Value) (bs:List Nat) (x:Nat) (k:Kept [] w0 w) (h:AppOk w0.heap.size w v bs) (hl:bs.length≤1000000) :
  Calls Tryz.prog 141 #[v,.int .u64 x] w fun e w'=>∃ v',e = .returned v'∧AppOk w0.heap.size w' v' (bs++wide x 8)∧Kept [] w0 w':=by
 have HH:=hide h
 have HK:=hide k
 clear h k
 go_enter Tryz.func141,Tryz.ntmps141
 go_wp2_with fail
 go_loopw [0,5] (fun t0 t5 wr=>∃ (k:Nat) (cur:List Nat),t5 = .int .i64 ((k:Int) - 1)∧k≤8∧Hid (cur++wide x k = bs++wide x 8)∧Hid (AppOk w0.heap.size wr t0 cur)∧Hid (Kept [] w0 wr)) (fun _ t _=>(intOf t + 1).toNat)
 case atStart=>exact ⟨8,bs,rfl,Nat.le_refl _,rfl,HH,HK⟩
 case round =>
  obtain ⟨k,cur,rfl,hk,Hp,HA,HK1⟩:=hrel
  have hlen:cur.length + k≤1000008:=by have h1:=congrArg List.length (uh Hp); simp [xa0h] at h1; omega
  by_cases h0:k = 0
  ·subst h0
   go_wp2
   go_ret
   have h1:cur = bs++wide x 8:=by have h2:=uh Hp; rw [show wide x 0 = [] from rfl,List.append_nil] at h2; exact h2
   exact ⟨_,rfl,by rw [← h1]; exact uh HA,uh HK1⟩
  ·obtain ⟨j,rfl⟩:∃ j,k = j + 1:=⟨k - 1,by omega⟩
   have e1:(((j + 1:Nat):Int) - 1) = (j:Int):=by omega
   rw [e1]
   have hj0:(0:Int)≤(j:Int):=by omega
   have hj8:(j:Int)≤7:=by omega
   obtain ⟨q,hq⟩:∃ q,q = x / 256 ^ j:=⟨_,rfl⟩
   have hsh:=shr8 x j (by omega)
   rw [← hq] at hsh
   have Hq:=hide hq
   clear hq
   have hz1:IntKind.u8.wrap (q:Int) = ((q % 256:Nat):Int):=by rw [IntKind.wrap_u8']; omega
   have hz2:(q:Int) % 256 = ((q % 256:Nat):Int):=by omega
   have HZ:=hide (Nat.mod_lt q (by decide:0 < 256))
   obtain ⟨y,hy⟩:∃ y,q % 256 = y:=⟨_,rfl⟩
   rw [hy] at hz1 hz2 HZ
   have HY:=hide hy
   have hval:(x:Int) / 2 ^ (8 * j) % 256 = (y:Int):=by
    have h1:(x:Int) / 2 ^ (8 * j) = (q:Int):=by rw [uh Hq,Int.pow_mul]; simp
    rw [h1,hz2]
   clear hy
   obtain ⟨ao,cap,he⟩:=(uh HA).shape
   subst he
   go_wp2_with (at_builtin; go_must (refine xa4m rfl (.tmp 10) (.tmp 16) rfl rfl w0 _ (.slice ao cur.length cap) cur y wr.heap.size ((uh HK1).alloc _) ((uh HA).pass ((Kept.refl [] wr).alloc _)) (heap_alloc_new _ _) (uh HZ) (by omega) rfl rfl ?_; intro ao2 cap2 w2 HO2 HK2))
   go_roundw
   case rel=>exact ⟨j,cur++[y],rfl,by omega,hide (by rw [← uh Hp,← uh HY,uh Hq]; simp [wide]),hide (.inl (uh HO2)),HK2⟩
   case measure=>simp [intOf]
theorem hcells {w:World} {b:Nat} {x0 x1 x2 x3:Value} {t:TypeId} (h:w.heap[b]? = some (.cells #[x0,x1,x2,x3] t (0,0))):w.cell? ⟨b,0,none⟩ = some x0∧w.cell? ⟨b,1,none⟩ = some x1∧w.cell? ⟨b,2,none⟩ = some x2∧w.cell? ⟨b,3,none⟩ = some x3:=by
 refine ⟨?_,?_,?_,?_⟩ <;> rw [cell_of_row _ _ _ _ _ _ h] <;> rfl
def headB (a b c:Nat) (z:Int):List Nat:=[78,84,82,89,49]++wide a 8++wide b 8++wide c 8++[(z % 256).toNat]
theorem xc2r (a b c:Nat) (z:Int):headB a b c z = [78,84,82,89,49]++wide a 8++wide b 8++wide c 8++[(z % 256).toNat]:=rfl
theorem xa1q (a b c:Nat) (z:Int):(headB a b c z).length = 30:=by simp [headB,xa0h]
def ehE (z:Int):Nat:=if wideB z then 0 else 1
def ehB (a b c:Nat) (z:Int):List Nat:=if wideB z then frB a (headB a b c z) else []
set_option maxHeartbeats 2000000 in
theorem xa6h (a b c:Nat) (z:Int) (w:World) (ha:a < 18446744073709551616) (hz:-9223372036854775808≤z∧z≤9223372036854775807) :
  Calls Tryz.prog 92 #[.agg #[.int .u64 a,.int .u64 b,.int .u64 c,.int .i64 z]] w fun e w'=>∃ v',e = .returned (.tuple #[v',.int .i64 (ehE z)])∧NewB w w' v' (ehB a b c z)∧Kept [] w w':=by
 have HK0:=hide ((Kept.refl [] w).alloc (.cells #[.int .u64 a,.int .u64 b,.int .u64 c,.int .i64 z] 53))
 have HB0:=hide (heap_alloc_new w (.cells #[.int .u64 a,.int .u64 b,.int .u64 c,.int .i64 z] 53))
 by_cases hw:wideB z = true
 ·have hE:ehE z = 0:=by simp [ehE,hw]
  have hB:ehB a b c z = frB a (headB a b c z):=by simp [ehB,hw]
  rw [hE,hB]
  clear hE hB
  have hzz:1≤z∧z≤32:=by simpa [wideB] using hw
  have kc:(convert 49 49 (.slice (some ⟨w.heap.size + 1,0,none⟩) 5 5)).run Tryz.prog ((w.alloc (.cells #[.int .u64 a,.int .u64 b,.int .u64 c,.int .i64 z] 53)).alloc (.cells #[.int .u8 78,.int .u8 84,.int .u8 82,.int .u8 89,.int .u8 49] 5)) = .ok (.slice (some ⟨w.heap.size + 1,0,none⟩) 5 5) ((w.alloc (.cells #[.int .u64 a,.int .u64 b,.int .u64 c,.int .i64 z] 53)).alloc (.cells #[.int .u8 78,.int .u8 84,.int .u8 82,.int .u8 89,.int .u8 49] 5 (5,6))):=by
   have h9:=Lib.run_convert_bytes_const (P:=Tryz.prog) (w.alloc (.cells #[.int .u64 a,.int .u64 b,.int .u64 c,.int .i64 z] 53)) 49 5 #[.int .u8 78,.int .u8 84,.int .u8 82,.int .u8 89,.int .u8 49] 5 5 Tryz.underlying49 Tryz.underlying5
   rw [show (w.alloc (.cells #[.int .u64 a,.int .u64 b,.int .u64 c,.int .i64 z] 53)).heap.size = w.heap.size + 1 by simp] at h9
   exact h9
  go_enter Tryz.func92,Tryz.ntmps92
  go_wp2_with fail
  refine Calls.mono (xa3f z _) ?_
  rintro e w1 ⟨rfl,rfl⟩
  rw [hw]
  go_wp2_with fail
  obtain ⟨W1,hW1⟩:∃ W,w.alloc (.cells #[.int .u64 a,.int .u64 b,.int .u64 c,.int .i64 z] 53) = W:=⟨_,rfl⟩
  have hs1:W1.heap.size = w.heap.size + 1:=by rw [← hW1]; simp
  rw [hW1] at HK0 HB0 ⊢
  have HS1:=hide hs1
  clear hW1 hs1 kc
  obtain ⟨W2,hW2⟩:∃ W,W1.alloc (.cells #[.int .u8 78,.int .u8 84,.int .u8 82,.int .u8 89,.int .u8 49] 5 (5,6)) = W:=⟨_,rfl⟩
  have HK2:=hide (by rw [← hW2]; exact (Kept.refl [] W1).alloc _:Kept [] W1 W2)
  have HR2:=hide (by rw [← hW2,← uh HS1]; exact rd_row [78,84,82,89,49] (heap_alloc_new W1 _) rfl (by decide) 5 rfl (by decide):Rd W2 (.slice (some ⟨w.heap.size + 1,0,none⟩) 5 5) [78,84,82,89,49])
  rw [hW2]
  clear hW2
  obtain ⟨d0,d1,d2,d3⟩:=hcells ((uh HK2).heap (uh HB0) (by simp))
  refine Calls.mono (xa1e W1 W2 _ [78,84,82,89,49] a (uh HK2) (.inr ⟨_,rfl,uh HR2⟩) (by decide)) ?_
  rintro e w3 ⟨v3,rfl,o3,k3⟩
  obtain ⟨a3,c3,rfl⟩:=o3.shape
  have HO3:=hide o3
  have HK3:=hide k3
  clear o3 k3 d0 d1 d2 d3 HR2 HK2
  obtain ⟨d0,d1,d2,d3⟩:=hcells ((uh HK3).heap (uh HB0) (by simp))
  go_wp2_with fail
  refine Calls.mono (xa1e W1 w3 _ _ b (uh HK3) (uh HO3) (by simp [xa0h])) ?_
  rintro e w4 ⟨v4,rfl,o4,k4⟩
  obtain ⟨a4,c4,rfl⟩:=o4.shape
  have HO4:=hide o4
  have HK4:=hide k4
  clear o4 k4 d0 d1 d2 d3 HO3 HK3
  obtain ⟨d0,d1,d2,d3⟩:=hcells ((uh HK4).heap (uh HB0) (by simp))
  go_wp2_with fail
  refine Calls.mono (xa1e W1 w4 _ _ c (uh HK4) (uh HO4) (by simp [xa0h])) ?_
  rintro e w5 ⟨v5,rfl,o5,k5⟩
  obtain ⟨a5,c5,rfl⟩:=o5.shape
  have HO5:=hide o5
  have HK5:=hide k5
  clear o5 k5 d0 d1 d2 d3 HO4 HK4
  have hbl:([78,84,82,89,49]++wide a 8++wide b 8++wide c 8).length = 29:=by simp [xa0h]
  have HHB:=hide (xc2r a b c z)
  generalize [78,84,82,89,49]++wide a 8++wide b 8++wide c 8 = bs at HO5 HHB hbl
  obtain ⟨y,hy⟩:∃ y:Nat,z = (y:Int):=⟨z.toNat,by omega⟩
  subst hy
  have hy2:((y:Int) % 256).toNat = y:=by omega
  rw [hy2] at HHB
  have hval:(y:Int) % 256 = (y:Int):=by omega
  have HLB:=hide hbl
  have hyl:y < 256:=by omega
  have HYL:=hide hyl
  obtain ⟨d0,d1,d2,d3⟩:=hcells ((uh HK5).heap (uh HB0) (by simp))
  clear hbl hy2 hyl
  go_wp2_with (at_builtin; go_must (refine xa4m rfl (.tmp 23) (.tmp 27) rfl rfl W1 _ _ bs y w5.heap.size ((uh HK5).alloc _) (by exact (uh HO5).pass ((Kept.refl [] w5).alloc _)) (heap_alloc_new _ _) (uh HYL) (by rw [uh HLB]; omega) rfl rfl ?_; intro a6 c6 w6 HO6 HK6; obtain ⟨x0,x1,x2,x3⟩:=hcells ((uh HK6).heap (uh HB0) (by simp))))
  have HK0w:=hide (uh HK6)
  have hby:∀ x∈bs++[y],x < 256:=by
   have h9:∀ x∈headB a b c (y:Int),x < 256:=by
    intro x hx
    unfold headB at hx
    simp only [List.mem_append,List.mem_cons,List.not_mem_nil,or_false] at hx
    rcases hx with ((((h | h | h | h | h) | h) | h) | h) | h
    ·omega
    ·omega
    ·omega
    ·omega
    ·omega
    ·exact xa0r _ _ x h
    ·exact xa0r _ _ x h
    ·exact xa0r _ _ x h
    ·omega
   rw [uh HHB] at h9; exact h9
  have HR6:=hide (xa7t (uh HO6) hby (by rw [List.length_append,uh HLB]; simp))
  clear hby d0 d1 d2 d3
  refine Calls.mono (xa6w a _ (bs++[y]) w6 (uh HR6) ha) ?_
  rintro e w7 ⟨v7,rfl,n7,k7⟩
  have hel:(bs++[y]).length = 30:=by rw [List.length_append,uh HLB]; rfl
  have hee:encE (bs++[y]) = 0:=by unfold encE; rw [hel]; rfl
  have heb:encB a (bs++[y]) = frB a (bs++[y]):=by unfold encB; rw [hee]; rfl
  rw [heb] at n7
  rw [hee]
  have HN7:=hide (n7.weak (w0:=w) (Nat.le_trans (uh HK0).size (uh HK6).size))
  have HK7:=hide (((uh HK0).trans (uh HK6) (by simp)).trans k7 (by simp))
  clear n7 k7 hel hee heb
  go_wp2
  go_ret2
  exact ⟨_,rfl,by rw [uh HHB]; exact uh HN7,uh HK7⟩
 ·have hw':wideB z = false:=by simpa using hw
  have hE:ehE z = 1:=by simp [ehE,hw']
  have hB:ehB a b c z = []:=by simp [ehB,hw']
  rw [hE,hB]
  clear hE hB hw
  go_enter Tryz.func92,Tryz.ntmps92
  go_wp2_with fail
  refine Calls.mono (xa3f z _) ?_
  rintro e w1 ⟨rfl,rfl⟩
  rw [hw']
  go_wp2
  go_ret2
  exact ⟨_,rfl,NewB.nil _ _,uh HK0⟩
set_option maxHeartbeats 1000000 in
theorem xc1m (u:Nat) (w:World) (hu:u < 18446744073709551616) (hv:VarsS w) :
  Calls Tryz.prog 52 #[.int .u64 u,.int .i64 10] w fun e w'=>e = .returned (.string (strB (dgs (Lib.nDigits u) u)))∧Kept [] w w':=by
 go_enter Tryz.func52,Tryz.ntmps52
 go_wp2_with fail
 refine Calls.mono (xb9l u _ hu hv) ?_
 rintro e w1 ⟨rfl,k1⟩
 have HK:=hide k1
 clear k1
 go_wp2
 go_ret
 exact ⟨rfl,uh HK⟩
set_option maxHeartbeats 1000000 in
theorem xc2q (k:Nat) (w:World) (hk:k≤20):Calls Tryz.prog 53 #[.string ⟨#[48]⟩,.int .i64 k] w fun e w'=>e = .returned (.string (strB (List.replicate k 48)))∧w' = w:=by
 by_cases h0:k = 0
 ·subst h0
  go_enter Tryz.func53,Tryz.ntmps53
  go_wp2
  go_ret
  exact ⟨rfl,rfl⟩
 by_cases h1:k = 1
 ·subst h1
  go_enter Tryz.func53,Tryz.ntmps53
  go_wp2
  go_ret
  exact ⟨rfl,rfl⟩
 refine (xb6o k w (by omega) hk).mono fun e w' h=>⟨?_,h.2⟩
 rw [h.1,xc3y ⟨k,by omega⟩]
set_option maxHeartbeats 2000000 in
theorem xa5z (u:Nat) (w:World) (hu:u < 18446744073709551616) (hv:VarsS w) :
  Calls Tryz.prog 17 #[.int .u64 u] w fun e w'=>e = .returned (.string (strB (nmL u)))∧Kept [] w w':=by
 have HP:=hide (Lib.lt_pow_nDigits u)
 have HN:=hide (by
  by_cases h0:u = 0
  ·subst h0; rw [Lib.nDigits_small (by omega)]; omega
  ·have:=Lib.numDigits_eq u (by omega) hu; split at this <;> omega:Lib.nDigits u≤20)
 have HF:=hide (xc1m u w hu hv)
 obtain ⟨nd,hnd⟩:∃ nd,Lib.nDigits u = nd:=⟨_,rfl⟩
 rw [hnd] at HP HN HF
 clear hnd hv
 have HS:=hide (xa0p (dgs nd u))
 rw [xa7g] at HS
 have HE:=hide (by
  have h1:=xb9w nd u (uh HP) (20 - nd)
  rw [Nat.sub_add_cancel (uh HN)] at h1
  unfold nmL
  rw [h1,xb6k,xb6k,← ByteArray.append_assoc]
  rfl:strB (nmL u) = (⟨#[115,101,103,45]⟩:ByteArray)++strB (List.replicate (20 - nd) 48)++strB (dgs nd u))
 obtain ⟨D,hD⟩:∃ D,strB (dgs nd u) = D:=⟨_,rfl⟩
 rw [hD] at HF HS HE
 clear hD
 have hsz:(D.size:Int) = nd:=by rw [uh HS]
 have hz0:(strB (List.replicate (20 - nd) 48)).size = 20 - nd:=by rw [xa0p,List.length_replicate]
 have hz1:¬ 9223372036854775807 < 4 + (strB (List.replicate (20 - nd) 48)).size:=by omega
 have hz2:¬ 9223372036854775807 < 4 + (strB (List.replicate (20 - nd) 48)).size + D.size:=by have:=uh HS; have:=uh HN; omega
 clear hz0
 have hsub:(20:Int) - (nd:Int) = ((20 - nd:Nat):Int):=by have:=uh HN; omega
 go_enter Tryz.func17,Tryz.ntmps17
 go_wp2_with fail
 refine Calls.mono (uh HF) ?_
 rintro e w1 ⟨rfl,k1⟩
 have HK:=hide k1
 clear k1
 go_wp2_with fail
 refine Calls.mono (xc2q (20 - nd) _ (by omega)) ?_
 rintro e w2 ⟨rfl,rfl⟩
 go_wp2
 go_ret
 exact ⟨by rw [uh HE]; rfl,uh HK⟩
theorem pre_is (l:List Nat):(strB ([115,101,103,45]++l)).data.toList.take 4 = [115,101,103,45]:=by simp [strB]
theorem xc5g (l:List Nat):(strB ([115,101,103,45]++l)).extract 4 (strB ([115,101,103,45]++l)).size = strB l:=by
 apply ByteArray.ext
 rw [ByteArray.data_extract,xa0p]
 simp [strB]
 rw [List.take_of_length_le (by simp)]
set_option maxHeartbeats 1000000 in
theorem xb3f (s:ByteArray) (w:World) (hs:s.size≤140737488355328) :
  Calls Tryz.prog 149 #[.string s,.string ⟨#[115,101,103,45]⟩] w fun e w'=>e = .returned (.bool (decide (4≤s.size∧s.data.toList.take 4 = [115,101,103,45])))∧w' = w:=by
 by_cases h4:4≤s.size
 ·have h1:(4:Int)≤s.size:=by omega
  have HE:=hide (by
   rw [xa1l,xb6l]
   by_cases h:s.data.toList.take 4 = [115,101,103,45]
   ·rw [decide_eq_true ⟨h4,h⟩,h]; decide
   ·rw [decide_eq_false (fun x=>h x.2)]; exact beq_eq_false_iff_ne.2 h:((s.extract 0 4).toList == [115,101,103,45]) = decide (4≤s.size∧s.data.toList.take 4 = [115,101,103,45]))
  go_enter Tryz.func149,Tryz.ntmps149
  go_wp2
  go_ret
  exact ⟨by rw [← uh HE]; rfl,rfl⟩
 ·have h1:¬ (4:Int)≤s.size:=by omega
  rw [decide_eq_false (fun x=>h4 x.1)]
  go_enter Tryz.func149,Tryz.ntmps149
  go_wp2
  go_ret
  exact ⟨rfl,rfl⟩
set_option maxHeartbeats 1000000 in
theorem xb8t (s:ByteArray) (w:World) (hs:s.size≤140737488355328) :
  Calls Tryz.prog 200 #[.string s,.string ⟨#[115,101,103,45]⟩] w fun e w'=>∃ t,e = .returned (.string t)∧t.size≤s.size∧(∀ l,s = strB ([115,101,103,45]++l)→t = strB l)∧w' = w:=by
 have HS:=hide (xb3f s w hs)
 by_cases hc:4≤s.size∧s.data.toList.take 4 = [115,101,103,45]
 ·rw [decide_eq_true hc] at HS
  have h1:(4:Int)≤s.size:=by have:=hc.1; omega
  clear hc
  go_enter Tryz.func200,Tryz.ntmps200
  go_wp2_with fail
  refine Calls.mono (uh HS) ?_
  rintro e w1 ⟨rfl,rfl⟩
  go_wp2
  go_ret
  exact ⟨_,rfl,by simp,fun l hl=>by subst hl; exact xc5g l,rfl⟩
 ·rw [decide_eq_false hc] at HS
  have HC:=hide hc
  clear hc
  go_enter Tryz.func200,Tryz.ntmps200
  go_wp2_with fail
  refine Calls.mono (uh HS) ?_
  rintro e w1 ⟨rfl,rfl⟩
  go_wp2
  go_ret
  exact ⟨_,rfl,Nat.le_refl _,fun l hl=>absurd ⟨by rw [hl,xa0p]; simp,by rw [hl]; exact pre_is l⟩ (uh HC),rfl⟩
set_option maxHeartbeats 1000000 in
theorem xb2s (s:ByteArray) (w:World) (hs:s.size≤140737488355328) :
  Calls Tryz.prog 140 #[.string s,.string ⟨#[115,101,103,45]⟩] w fun e w'=>∃ t,e = .returned (.string t)∧t.size≤s.size∧(∀ l,s = strB ([115,101,103,45]++l)→t = strB l)∧w' = w:=by
 go_enter Tryz.func140,Tryz.ntmps140
 go_wp2_with fail
 refine Calls.mono (xb8t s _ hs) ?_
 rintro e w1 ⟨t,rfl,h1,h2,rfl⟩
 have H1:=hide h1
 have H2:=hide h2
 clear h1 h2
 go_wp2
 go_ret
 exact ⟨t,rfl,uh H1,uh H2,rfl⟩
theorem xb4i (s:ByteArray) (w:World) (hs:s.size≤140737488355328) (hv:VarsS w) :
  Calls Tryz.prog 139 #[.string s,.int .i64 10,.int .i64 64] w fun e w'=>∃ (u:Nat) (er:Value),e = .returned (.tuple #[.int .u64 u,er])∧u < 18446744073709551616∧(er = .nilIface∨∃ t N,er = .iface t (.pointer (some ⟨N,0,none⟩)))∧Kept [] w w':=by
 obtain ⟨_,⟨t1,p1,h1⟩,t2,p2,h2⟩:=hv
 cases h:Lib.parseUintB 64 s.data.toList with
 | ok u =>
  refine (Tryz.strconv_ParseUint_10_at64_ok s (by omega) u h w).mono fun e w' hh=>⟨u,.nilIface,hh.1,by have:=Lib.parseUintB_le h; omega,Or.inl rfl,?_⟩
  rcases hh.2 with rfl | rfl
  ·exact Kept.refl _ _
  ·exact xb2w _ _ _
 | «syntax» =>
  refine (Tryz.strconv_ParseUint_10_at64_syntax_var s (by omega) h t1 p1 w h1).mono fun e w' hh=>?_
  obtain ⟨N,h3,_,_,h4⟩:=hh
  exact ⟨0,_,h3,by omega,Or.inr ⟨_,_,rfl⟩,Kept.ofBelow h4 (Nat.le_refl _)⟩
 | range =>
  refine (Tryz.strconv_ParseUint_10_at64_range_var s (by omega) h t2 p2 w h2).mono fun e w' hh=>?_
  obtain ⟨N,h3,_,_,h4⟩:=hh
  exact ⟨18446744073709551615,_,h3,by omega,Or.inr ⟨_,_,rfl⟩,Kept.ofBelow h4 (Nat.le_refl _)⟩
theorem str_ne {s t:ByteArray} (h:s≠t):(s.toList == t.toList) = false:=by
 rw [xa1l,xa1l]
 refine beq_eq_false_iff_ne.2 fun e=>h ?_
 apply ByteArray.ext
 exact Array.toList_inj.1 e
set_option maxHeartbeats 1000000 in
theorem xb2j (u:Nat) (w:World) (hu:u < 18446744073709551616) (hv:VarsS w) :
  Calls Tryz.prog 88 #[.string (strB (nmL u))] w fun e w'=>e = .returned (.tuple #[.int .u64 u,.int .i64 0])∧Kept [] w w':=by
 have HV:=hide hv
 have HSZ:=hide (by rw [xa0p,xb6f]; omega:(strB (nmL u)).size≤140737488355328)
 have HT:=hide (fun t (h:∀ l,strB (nmL u) = strB ([115,101,103,45]++l)→t = strB l)=>h (dgs 20 u) rfl:∀ t:ByteArray,(∀ l,strB (nmL u) = strB ([115,101,103,45]++l)→t = strB l)→t = strB (dgs 20 u))
 have HP:=hide (fun W=>xb7u (dgs 20 u) W (by rw [xa7g]; omega) (by rw [xa7g]; omega) (xb1c 20 u) (by rw [xa3e,Nat.mod_eq_of_lt (by omega)]; exact hu))
 simp only [xa3e,Nat.mod_eq_of_lt (show u < 10 ^ 20 by omega)] at HP
 have HN:=hide (fun W (h:VarsS W)=>xa5z u W hu h)
 obtain ⟨S,hS⟩:∃ S,strB (nmL u) = S:=⟨_,rfl⟩
 rw [hS] at HSZ HT HN ⊢
 have heq:(S.toList == S.toList) = true:=by simp
 clear hS hv
 go_enter Tryz.func88,Tryz.ntmps88
 go_wp2_with fail
 refine Calls.mono (xb2s S _ (uh HSZ)) ?_
 rintro e w1 ⟨t,rfl,_,h2,rfl⟩
 obtain rfl:=uh HT t h2
 clear h2
 go_wp2_with fail
 refine Calls.mono (uh HP _) ?_
 rintro e w2 ⟨rfl,k2⟩
 have HK2:=hide k2
 clear k2
 go_wp2_with fail
 refine Calls.mono (uh HN _ ((uh HV).old (uh HK2))) ?_
 rintro e w3 ⟨rfl,k3⟩
 have HK3:=hide ((uh HK2).trans k3 (by simp))
 clear k3
 go_wp2
 go_ret2
 exact ⟨rfl,uh HK3⟩
set_option maxHeartbeats 1000000 in
theorem xb9i (s:ByteArray) (w:World) (hs:s.size≤140737488355328) (h:∀ u,u < 18446744073709551616→s≠strB (nmL u)) (hv:VarsS w) :
  Calls Tryz.prog 88 #[.string s] w fun e w'=>e = .returned (.tuple #[.int .u64 0,.int .i64 3])∧Kept [] w w':=by
 have HV:=hide hv
 have HH:=hide h
 clear h hv
 go_enter Tryz.func88,Tryz.ntmps88
 go_wp2_with fail
 refine Calls.mono (xb2s s _ hs) ?_
 rintro e w1 ⟨t,rfl,h1,_,rfl⟩
 have H1:=hide h1
 clear h1
 go_wp2_with fail
 refine Calls.mono (xb4i t _ (by have:=uh H1; omega) (uh HV)) ?_
 rintro e w2 ⟨u,er,rfl,hu,her,k2⟩
 have HK2:=hide k2
 clear k2
 rcases her with rfl | ⟨t9,N9,rfl⟩
 ·go_wp2_with fail
  refine Calls.mono (xa5z u _ hu ((uh HV).old (uh HK2))) ?_
  rintro e w3 ⟨rfl,k3⟩
  have HK3:=hide ((uh HK2).trans k3 (by simp))
  clear k3
  have hne:=str_ne (fun e=>uh HH u hu e.symm)
  generalize strB (nmL u) = S at hne ⊢
  go_wp2
  go_ret2
  exact ⟨rfl,uh HK3⟩
 ·go_wp2
  go_ret2
  exact ⟨rfl,uh HK2⟩
def stp (v c:Nat):Nat:=(10 * v + c + 18446744073709551568) % 18446744073709551616
theorem stp_lt (v c:Nat):stp v c < 18446744073709551616:=by unfold stp; exact Nat.mod_lt _ (Nat.zero_lt_succ _)
theorem xc4n {v c:Nat} (h:48≤c) (hl:v * 10 + (c - 48) < 18446744073709551616):stp v c = v * 10 + (c - 48):=by unfold stp; omega
def dv (a:Nat) (m:List Nat):Nat:=m.foldl stp a
theorem xc0a (a x:Nat) (r:List Nat):dv a (x :: r) = dv (stp a x) r:=by unfold dv; rw [List.foldl_cons]
theorem dv_lt (m:List Nat):∀ a,a < 18446744073709551616→dv a m < 18446744073709551616:=by
 induction m with
 | nil=>intro a h; exact h
 | cons x r ih=>intro a h; rw [xc0a]; exact ih _ (stp_lt _ _)
def fd (a:Nat) (m:List Nat):Nat:=m.foldl (fun a d=>a * 10 + (d - 48)) a
theorem xc0t (a x:Nat) (r:List Nat):fd a (x :: r) = fd (a * 10 + (x - 48)) r:=by unfold fd; rw [List.foldl_cons]
theorem fd_ge (m:List Nat):∀ a,a≤fd a m:=by
 induction m with
 | nil=>intro a; exact Nat.le_refl _
 | cons x r ih=>intro a; rw [xc0t]; exact Nat.le_trans (by omega) (ih _)
theorem xc4f (m:List Nat):∀ a,(∀ x∈m,48≤x)→fd a m < 18446744073709551616→dv a m = fd a m:=by
 induction m with
 | nil=>intro a _ _; unfold dv fd; rw [List.foldl_nil,List.foldl_nil]
 | cons x r ih =>
  intro a hx hl
  rw [xc0t] at hl ⊢
  have h1:=fd_ge r (a * 10 + (x - 48))
  rw [xc0a,xc4n (hx x (by simp)) (Nat.lt_of_le_of_lt h1 hl)]
  exact ih _ (fun y hy=>hx y (by simp [hy])) hl
theorem xc0h {u:Nat} (hu:u < 18446744073709551616):dv 0 ((nmL u).drop 4) = u:=by
 have h0:(nmL u).drop 4 = dgs 20 u:=by unfold nmL; simp
 have h1:fd 0 (dgs 20 u) = u:=by
  have h2:=xa3e 20 u
  rw [Nat.mod_eq_of_lt (Nat.lt_of_lt_of_le hu (by decide))] at h2
  exact h2
 rw [h0,xc4f _ 0 (fun x hx=>(xb1c 20 u x hx).1) (by rw [h1]; exact hu)]
 exact h1
theorem xa0a {P:Program} {fn:Func} {p q r:Tmp} {ty:TypeId} (h:fn.results = #[.cell p ty,.tmp q,.tmp r]) (tmps:Array Value) (w:World) (g:Nat) (t:TypeId) (cs:Array Value) (fr:Nat × Nat) (d:TypeDesc)
  (hp:tmps.getD p undef = .pointer (some ⟨g,0,none⟩)) (hg:w.heap[g]? = some (.cells cs t fr))
  (hu:P.underlying ty = some d) (hd:(match d with | .struct _ | .array _ _=>true | _=>false) = true) (hi:(P.info? ty).map (·.size) = some cs.size) (v u:Value) (hq:tmps.getD q undef = v) (hr:tmps.getD r undef = u) :
  (results fn tmps).run P w = .ok (.tuple #[.agg cs,v,u]) w:=by
 have hp':tmps[p]?.getD undef = .pointer (some ⟨g,0,none⟩):=by simpa using hp
 have hq':tmps[q]?.getD undef = v:=by simpa using hq
 have hr':tmps[r]?.getD undef = u:=by simpa using hr
 simp [results,h,hp',hq',hr',asAddr,run_loadVar_row w g t ty cs fr d hg hu hd hi]
structure NxR where
 pl:Nat
 pay:List Nat
 next:Int
 kind:Nat
def nextF (p:List Nat) (z:Int):NxR :=
 if z = p.length then ⟨0,[],z,0⟩ else if z < 0∨(p.length:Int) < z then ⟨0,[],z,2⟩ else
 match firstF (p.drop z.toNat) with
 | none=>⟨0,[],z,2⟩
 | some x=>⟨x.1,x.2,z + 18 + x.2.length,1⟩
theorem Rd.dropN {w:World} {b off cap:Nat} {p:List Nat} (h:Rd w (.slice (some ⟨b,off,none⟩) p.length cap) p) (n:Nat) (hn:n≤p.length):Rd w (.slice (some ⟨b,off + n,none⟩) (p.length - n) (cap - n)) (p.drop n):=by
 obtain ⟨ao',len',cap',he,_,h2,⟨h3,h3'⟩,h4,h5,h6⟩:=h
 cases he
 refine ⟨_,_,_,rfl,by rw [List.length_drop],by omega,⟨by omega,by omega⟩,fun h=>by simp at h,fun x hx=>h5 x (List.mem_of_mem_drop hx),fun hp=>?_⟩
 obtain ⟨b',off',e,hc⟩:=h6 (by omega)
 cases e
 refine ⟨b,off + n,rfl,fun i hi=>?_⟩
 have:=hc (n + i) (by omega)
 rw [Nat.add_assoc,this,List.getD_eq_getElem?_getD,List.getD_eq_getElem?_getD,List.getElem?_drop]
set_option maxHeartbeats 2000000 in
theorem xb6v (v:Value) (p:List Nat) (z:Int) (w:World) (h:Rd w v p) (hz:-9223372036854775808≤z∧z≤9223372036854775807) :
  Calls Tryz.prog 83 #[v,.int .i64 z] w fun e w'=>∃ v',e = .returned (.tuple #[.agg #[.int .u64 (nextF p z).pl,v'],.int .i64 (nextF p z).next,.int .i64 (nextF p z).kind])∧NewP w w' v' (nextF p z).pay∧Kept [] w w':=by
 have H:=hide h
 obtain ⟨a1,n1,c1,rfl,hn1,hc1,⟨hc2,hc3⟩,_,_,hcell⟩:=id h
 subst hn1
 clear h
 have HZ0:=hide (heap_alloc_new w (.cells #[.int .u64 0,.slice none 0 0] 173))
 have HK0:=hide ((Kept.refl [] w).alloc (.cells #[.int .u64 0,.slice none 0 0] 173))
 have HQ0:=hide (xa0s (uh HZ0) (.int .u64 0) (.slice none 0 0))
 have HKQ:=hide (xa0k (uh HK0) w.heap.size (Nat.le_refl _) (.int .u64 0) (.slice none 0 0))
 by_cases h1:z = p.length
 ·have hN:nextF p z = ⟨0,[],z,0⟩:=by unfold nextF; rw [if_pos h1]
  rw [hN]
  clear hN hcell
  subst h1
  go_enter Tryz.func83,Tryz.ntmps83
  go_wp2
  refine bodyPost_ret (v:=.tuple #[.agg #[.int .u64 0,.slice none 0 0],.int .i64 p.length,.int .i64 0]) ?_ rfl ⟨_,rfl,NewP.nil _ _,uh HK0⟩
  exact xa0a rfl _ _ w.heap.size _ #[.int .u64 0,.slice none 0 0] (0,0) _ rfl (uh HZ0) Tryz.underlying173 rfl Tryz.size_frame _ _ rfl rfl
 have h1':(z == (p.length:Int)) = false:=by rw [beq_eq_false_iff_ne]; exact h1
 by_cases h2:z < 0
 ·have hN:nextF p z = ⟨0,[],z,2⟩:=by unfold nextF; rw [if_neg h1,if_pos (Or.inl h2)]
  rw [hN]
  clear hN hcell
  go_enter Tryz.func83,Tryz.ntmps83
  go_wp2
  refine bodyPost_ret (v:=.tuple #[.agg #[.int .u64 0,.slice none 0 0],.int .i64 z,.int .i64 2]) ?_ rfl ⟨_,rfl,NewP.nil _ _,uh HK0⟩
  exact xa0a rfl _ _ w.heap.size _ #[.int .u64 0,.slice none 0 0] (0,0) _ rfl (uh HZ0) Tryz.underlying173 rfl Tryz.size_frame _ _ rfl rfl
 by_cases h3:(p.length:Int) < z
 ·have hN:nextF p z = ⟨0,[],z,2⟩:=by unfold nextF; rw [if_neg h1,if_pos (Or.inr h3)]
  rw [hN]
  clear hN hcell
  go_enter Tryz.func83,Tryz.ntmps83
  go_wp2
  refine bodyPost_ret (v:=.tuple #[.agg #[.int .u64 0,.slice none 0 0],.int .i64 z,.int .i64 2]) ?_ rfl ⟨_,rfl,NewP.nil _ _,uh HK0⟩
  exact xa0a rfl _ _ w.heap.size _ #[.int .u64 0,.slice none 0 0] (0,0) _ rfl (uh HZ0) Tryz.underlying173 rfl Tryz.size_frame _ _ rfl rfl
 obtain ⟨n,rfl⟩:∃ n:Nat,z = n:=⟨z.toNat,by omega⟩
 have hn:n < p.length:=by omega
 obtain ⟨bb,off,rfl,hcl⟩:=hcell (by omega)
 clear hcell hcl
 have HD:=hide ((uh H).dropN n (by omega))
 have HNF:=hide (by unfold nextF; rw [if_neg h1,if_neg (by omega),Int.toNat_natCast]:nextF p n = match firstF (p.drop n) with
  | none=>⟨0,[],n,2⟩
  | some x=>⟨x.1,x.2,(n:Int) + 18 + x.2.length,1⟩)
 cases hf:firstF (p.drop n) with
 | none =>
  rw [hf] at HNF
  rw [uh HNF]
  have HF:=hide hf
  clear hf
  have h3':¬ (p.length:Int) < n:=by omega
  go_enter Tryz.func83,Tryz.ntmps83
  go_wp2_with fail
  refine Calls.mono (xb0n _ (p.drop n) _ ((uh HD).old (uh HK0) (by simp))) ?_
  rintro e w1 ⟨v1,rfl,n1,k1⟩
  rw [uh HF]
  have HZ1:=hide (k1.heap (uh HZ0) (by simp))
  have HK1:=hide ((uh HK0).trans k1 (by simp))
  obtain ⟨a2,n2,c2,hv1,_⟩:=id n1.1
  subst hv1
  clear k1 n1
  have k2:=(Kept.refl [] w1).alloc (.cells #[.int .u64 (fstPl (p.drop n):Int),.slice a2 n2 c2] 173)
  have HZ2:=hide (k2.heap (uh HZ1) (by simp))
  have HK2:=hide ((uh HK1).alloc (.cells #[.int .u64 (fstPl (p.drop n):Int),.slice a2 n2 c2] 173))
  have d0:(w1.alloc (.cells #[.int .u64 (fstPl (p.drop n):Int),.slice a2 n2 c2] 173)).cell? ⟨w.heap.size,0,none⟩ = some (.int .u64 0):=by rw [cell_of_row _ _ _ _ _ _ (uh HZ2)]; rfl
  have d1:(w1.alloc (.cells #[.int .u64 (fstPl (p.drop n):Int),.slice a2 n2 c2] 173)).cell? ⟨w.heap.size,1,none⟩ = some (.slice none 0 0):=by rw [cell_of_row _ _ _ _ _ _ (uh HZ2)]; rfl
  have f0:(w1.alloc (.cells #[.int .u64 (fstPl (p.drop n):Int),.slice a2 n2 c2] 173)).frozen? ⟨w.heap.size,0,none⟩ = false:=frozen_of_row _ _ _ _ _ (uh HZ2)
  have f1:(w1.alloc (.cells #[.int .u64 (fstPl (p.drop n):Int),.slice a2 n2 c2] 173)).frozen? ⟨w.heap.size,1,none⟩ = false:=frozen_of_row _ _ _ _ _ (uh HZ2)
  clear k2
  go_wp2
  refine bodyPost_ret (v:=.tuple #[.agg #[.int .u64 0,.slice none 0 0],.int .i64 n,.int .i64 2]) ?_ rfl ⟨_,rfl,NewP.nil _ _,xa0k (uh HK2) w.heap.size (Nat.le_refl _) (.int .u64 0) (.slice none 0 0)⟩
  exact xa0a rfl _ _ w.heap.size _ #[.int .u64 0,.slice none 0 0] (0,0) _ rfl (xa0s (uh HZ2) (.int .u64 0) (.slice none 0 0)) Tryz.underlying173 rfl Tryz.size_frame _ _ rfl rfl
 | some x =>
  obtain ⟨pl,pay⟩:=x
  rw [hf] at HNF
  rw [uh HNF]
  have hfm:=xa2z hf (fun x hx=>(uh H).byte x (List.mem_of_mem_drop hx))
  have hlen:n + 18 + pay.length≤p.length:=by
   have:=congrArg List.length hfm.2.2.2.2
   rw [List.length_append,xa1t,List.length_drop] at this
   omega
  have HF:=hide hf
  have e1:fstPl (p.drop n) = pl:=by simp [fstPl,hf]
  have e2:fstPay (p.drop n) = pay:=by simp [fstPay,hf]
  clear hf
  have h3':¬ (p.length:Int) < n:=by omega
  go_enter Tryz.func83,Tryz.ntmps83
  go_wp2_with fail
  refine Calls.mono (xb0n _ (p.drop n) _ ((uh HD).old (uh HK0) (by simp))) ?_
  rintro e w1 ⟨v1,rfl,n1,k1⟩
  rw [e2] at n1
  rw [uh HF,e1]
  have HZ1:=hide (k1.heap (uh HZ0) (by simp))
  have HK1:=hide ((uh HK0).trans k1 (by simp))
  have HN1:=hide n1
  obtain ⟨a2,n2,c2,hv1,hn2,_⟩:=id n1.1
  subst hv1
  subst hn2
  clear k1 n1 e1 e2 hfm
  have k2:=(Kept.refl [] w1).alloc (.cells #[.int .u64 (pl:Int),.slice a2 pay.length c2] 173)
  have HZ2:=hide (k2.heap (uh HZ1) (by simp))
  have HK2:=hide ((uh HK1).alloc (.cells #[.int .u64 (pl:Int),.slice a2 pay.length c2] 173))
  have d0:(w1.alloc (.cells #[.int .u64 (pl:Int),.slice a2 pay.length c2] 173)).cell? ⟨w.heap.size,0,none⟩ = some (.int .u64 0):=by rw [cell_of_row _ _ _ _ _ _ (uh HZ2)]; rfl
  have d1:(w1.alloc (.cells #[.int .u64 (pl:Int),.slice a2 pay.length c2] 173)).cell? ⟨w.heap.size,1,none⟩ = some (.slice none 0 0):=by rw [cell_of_row _ _ _ _ _ _ (uh HZ2)]; rfl
  have f0:(w1.alloc (.cells #[.int .u64 (pl:Int),.slice a2 pay.length c2] 173)).frozen? ⟨w.heap.size,0,none⟩ = false:=frozen_of_row _ _ _ _ _ (uh HZ2)
  have f1:(w1.alloc (.cells #[.int .u64 (pl:Int),.slice a2 pay.length c2] 173)).frozen? ⟨w.heap.size,1,none⟩ = false:=frozen_of_row _ _ _ _ _ (uh HZ2)
  clear k2
  go_wp2
  obtain ⟨W,hW⟩:∃ W,w1.alloc (.cells #[.int .u64 (pl:Int),.slice a2 pay.length c2] 173) = W:=⟨_,rfl⟩
  have HC:=hide (heap_alloc_new w1 (.cells #[.int .u64 (pl:Int),.slice a2 pay.length c2] 173))
  have hlt1:w.heap.size < w1.heap.size:=lt_of_block (uh HZ1)
  have HNW:=hide ((uh HN1).1.old ((Kept.refl [] w1).alloc (.cells #[.int .u64 (pl:Int),.slice a2 pay.length c2] 173)) (by simp))
  rw [hW] at HC d0 d1 f0 f1 HZ2 HK2 HNW ⊢
  clear hW
  have e0:W.cell? ⟨w1.heap.size,0,none⟩ = some (.int .u64 pl):=by rw [cell_of_row _ _ _ _ _ _ (uh HC)]; rfl
  have e1:W.cell? ⟨w1.heap.size,1,none⟩ = some (.slice a2 pay.length c2):=by rw [cell_of_row _ _ _ _ _ _ (uh HC)]; rfl
  have hne:w.heap.size≠w1.heap.size:=by omega
  have HB1:=hide (fun x hx=>by have h9:=(uh HN1).2 x hx; have h8:(w.alloc (.cells #[.int .u64 0,.slice none 0 0] 173)).heap.size = w.heap.size + 1:=(by simp); omega:∀ x∈blk (.slice a2 pay.length c2),w.heap.size + 1≤x)
  have HRQ:=hide ((uh HNW).kept (xa6r W w.heap.size (.int .u64 pl) (.slice a2 pay.length c2)) (by
   intro x hx hm
   have h9:=uh HB1 x hx
   have h8:x = w.heap.size:=by simpa using hm
   omega))
  go_region_held3 (fun w'=>w'.cell? ⟨w1.heap.size,0,none⟩ = some (.int .u64 pl)∧w'.cell? ⟨w1.heap.size,1,none⟩ = some (.slice a2 pay.length c2)) (go_keep) (fail)
  have hww:IntKind.i64.wrap (IntKind.i64.wrap ((n:Int) + 18) + pay.length) = (n:Int) + 18 + pay.length:=by rw [IntKind.wrap_i64,IntKind.wrap_i64]; omega
  all_goals go_wp2
  all_goals
   refine bodyPost_ret (v:=.tuple #[.agg #[.int .u64 pl,.slice a2 pay.length c2],.int .i64 ((n:Int) + 18 + pay.length),.int .i64 1]) ?_ rfl ⟨.slice a2 pay.length c2,rfl,⟨uh HRQ,fun x hx=>by have h9:=uh HB1 x hx; omega⟩,(xa0k (uh HK2) w.heap.size (Nat.le_refl _) (.int .u64 pl) (.slice a2 pay.length c2)).drew⟩
   refine xa0a rfl _ _ w.heap.size 173 #[.int .u64 pl,.slice a2 pay.length c2] (0,0) _ rfl (by exact xa0s (uh HZ2) (.int .u64 pl) (.slice a2 pay.length c2)) Tryz.underlying173 rfl Tryz.size_frame _ _ ?_ rfl
   simp [hww]

theorem xa5i (p:List Nat) (z:Int) (hb:∀ x∈p,x < 256) :
  (z = p.length∧nextF p z = ⟨0,[],z,0⟩)∨(z≠p.length∧nextF p z = ⟨0,[],z,2⟩) ∨
  ∃ (n pl:Nat) (pay:List Nat),z = n∧nextF p z = ⟨pl,pay,((n + 18 + pay.length:Nat):Int),1⟩∧pl < 18446744073709551616∧1≤pay.length∧pay.length≤65535∧(∀ x∈pay,x < 256)∧n + 18 + pay.length≤p.length∧(p.drop n).take (18 + pay.length) = frB pl pay∧firstF (p.drop n) = some (pl,pay):=by
 by_cases h1:z = p.length
 ·exact Or.inl ⟨h1,by unfold nextF; rw [if_pos h1]⟩
 refine Or.inr ?_
 by_cases h2:z < 0∨(p.length:Int) < z
 ·exact Or.inl ⟨h1,by unfold nextF; rw [if_neg h1,if_pos h2]⟩
 obtain ⟨n,rfl⟩:∃ n:Nat,z = n:=⟨z.toNat,by omega⟩
 have hN:nextF p n = match firstF (p.drop n) with
  | none=>⟨0,[],n,2⟩
  | some x=>⟨x.1,x.2,(n:Int) + 18 + x.2.length,1⟩:=by
  unfold nextF; rw [if_neg h1,if_neg h2,Int.toNat_natCast]; try (cases firstF (p.drop n) <;> rfl)
 cases hf:firstF (p.drop n) with
 | none=>exact Or.inl ⟨h1,by rw [hN,hf]⟩
 | some x =>
  obtain ⟨pl,pay⟩:=x
  have hfm:=xa2z hf (fun x hx=>hb x (List.mem_of_mem_drop hx))
  have hlen:n + 18 + pay.length≤p.length:=by
   have:=congrArg List.length hfm.2.2.2.2
   rw [List.length_append,xa1t,List.length_drop] at this
   omega
  refine Or.inr ⟨n,pl,pay,rfl,?_,hfm.1,hfm.2.1,hfm.2.2.1,hfm.2.2.2.1,hlen,?_,hf⟩
  ·rw [hN,hf]; simp
  ·conv=>lhs; rw [hfm.2.2.2.2]
   rw [List.take_append_of_le_length (by rw [xa1t]; omega),List.take_of_length_le (by rw [xa1t]; omega)]
theorem Rd.cutN {w:World} {b off cap:Nat} {p:List Nat} (h:Rd w (.slice (some ⟨b,off,none⟩) p.length cap) p) (n N:Nat) (hn:n≤N) (hN:N≤p.length):Rd w (.slice (some ⟨b,off + n,none⟩) (N - n) (cap - n)) ((p.drop n).take (N - n)):=by
 obtain ⟨ao',len',cap',he,_,h2,⟨h3,h3'⟩,h4,h5,h6⟩:=h
 cases he
 refine ⟨_,_,_,rfl,by rw [List.length_take,List.length_drop]; omega,by omega,⟨by omega,by omega⟩,fun h=>by simp at h,fun x hx=>h5 x (List.mem_of_mem_drop (List.mem_of_mem_take hx)),fun hp=>?_⟩
 obtain ⟨b',off',e,hc⟩:=h6 (by omega)
 cases e
 refine ⟨b,off + n,rfl,fun i hi=>?_⟩
 have:=hc (n + i) (by omega)
 rw [Nat.add_assoc,this,List.getD_eq_getElem?_getD,List.getD_eq_getElem?_getD,List.getElem?_take,if_pos hi,List.getElem?_drop]
theorem xa9r {p:List Nat} (h1:1≤p.length) (h2:p.length≤65535):encE p = 0:=by unfold encE; rw [if_neg (by omega),if_neg (by omega)]
theorem xb9c {pl:Nat} {p:List Nat} (h1:1≤p.length) (h2:p.length≤65535):encB pl p = frB pl p:=by unfold encB; rw [xa9r h1 h2]; rfl
set_option maxHeartbeats 2000000 in
theorem xb5c (u v:Value) (p q:List Nat) (w:World) (hu:Rd w u p) (hv:Rd w v q) :
  Calls Tryz.prog 191 #[u,v] w fun e w'=>e = .returned (.bool (decide (p = q)))∧w' = w:=by
 have hu5:Tryz.prog.underlying 5 = some (.int .u8):=by kernel_rfl
 have hu9:Tryz.prog.underlying 9 = some .string:=by kernel_rfl
 have c1:=xa8d u p w hu hu5 hu9
 have c2:=xa8d v q w hv hu5 hu9
 have hd:((strOf p).toList == (strOf q).toList) = decide (p = q):=by
  rw [xa9w,xa9w]
  by_cases h:p = q
  ·subst h; simp
  ·have h2:¬ (strOf p).data.toList = (strOf q).data.toList:=fun e=>h (xb7m hu.byte hv.byte (by
    have e2:=congrArg List.toArray e
    simp only [Array.toArray_toList] at e2
    cases hp:strOf p; cases hq:strOf q
    rw [hp,hq] at e2
    simp only at e2
    rw [e2]))
   rw [decide_eq_false h]
   exact beq_eq_false_iff_ne.2 h2
 have Hd:=hide hd
 generalize strOf p = s1 at *
 generalize strOf q = s2 at *
 clear hu hv hu5 hu9 hd
 go_enter Tryz.func191,Tryz.ntmps191
 go_wp2
 go_ret
 exact ⟨by rw [uh Hd]; rfl,rfl⟩
set_option maxHeartbeats 1000000 in
theorem xb0u (u v:Value) (p q:List Nat) (w:World) (hu:Rd w u p) (hv:Rd w v q) (hl:q.length≤p.length) :
  Calls Tryz.prog 132 #[u,v] w fun e w'=>e = .returned (.bool (decide (p.take q.length = q)))∧w' = w:=by
 have HU:=hide hu
 have HV:=hide hv
 obtain ⟨a1,n1,c1,rfl,hn1,hc1,⟨hc2,hc3⟩,_⟩:=id hu
 obtain ⟨a2,n2,c2,rfl,hn2,_⟩:=id hv
 subst hn1
 subst hn2
 have hl':(q.length:Int)≤p.length:=by omega
 have hc9:(q.length:Int)≤c1:=by omega
 have HC:=hide ((uh HU).take0 hl)
 clear hu hv
 go_enter Tryz.func132,Tryz.ntmps132
 go_wp2_with fail
 refine Calls.mono (xb5c _ _ (p.take q.length) q w (uh HC) (uh HV)) ?_
 rintro e w1 ⟨rfl,rfl⟩
 go_wp2
 go_ret
 exact ⟨rfl,rfl⟩
set_option maxHeartbeats 1000000 in
theorem xc2l (b off cap:Nat) (v:Value) (p q:List Nat) (w:World) (hu:Rd w (.slice (some ⟨b,off,none⟩) p.length cap) p) (hv:Rd w v q) (hlt:q.length < p.length) :
  Calls Tryz.prog 84 #[.slice (some ⟨b,off,none⟩) p.length cap,v] w fun e w'=>e = .returned (.tuple #[if p.take q.length = q then .slice (some ⟨b,off + q.length,none⟩) (p.length - q.length) (cap - q.length) else .slice (some ⟨b,off,none⟩) p.length cap,.bool (decide (p.take q.length = q))])∧w' = w:=by
 have HU:=hide hu
 have HV:=hide hv
 obtain ⟨_,_,_,he,_,hc1,⟨hc2,hc3⟩,_⟩:=id hu
 cases he
 obtain ⟨a2,n2,c2,rfl,hn2,_⟩:=id hv
 subst hn2
 have hl:q.length≤p.length:=by omega
 have hl':(q.length:Int)≤p.length:=by omega
 have hcq:¬ cap = q.length:=by omega
 have hc9:(q.length:Int)≤cap:=by omega
 clear hu hv
 by_cases he:p.take q.length = q
 ·rw [if_pos he,decide_eq_true he]
  have HE:=hide (decide_eq_true he)
  clear he
  go_enter Tryz.func84,Tryz.ntmps84
  go_wp2_with fail
  refine Calls.mono (xb0u _ _ p q w (uh HU) (uh HV) hl) ?_
  rintro e w1 ⟨rfl,rfl⟩
  rw [uh HE]
  go_wp2
  go_ret2
  exact ⟨by simp,rfl⟩
 ·rw [if_neg he,decide_eq_false he]
  have HE:=hide (decide_eq_false he)
  clear he
  go_enter Tryz.func84,Tryz.ntmps84
  go_wp2_with fail
  refine Calls.mono (xb0u _ _ p q w (uh HU) (uh HV) hl) ?_
  rintro e w1 ⟨rfl,rfl⟩
  rw [uh HE]
  go_wp2
  go_ret2
  exact ⟨by simp,rfl⟩
set_option maxHeartbeats 2000000 in
theorem xa8j (b off cap i:Nat) (p:List Nat) (w:World) (hu:Rd w (.slice (some ⟨b,off,none⟩) p.length cap) p) (hi:i < 3) (hl:p.length = 25) :
  Calls Tryz.prog 85 #[.slice (some ⟨b,off,none⟩) p.length cap,.int .i64 i] w fun e w'=>e = .returned (.int .u64 (beL ((p.drop (i * 8)).take 8)))∧w' = w:=by
 obtain ⟨_,_,_,he,_,hc1,⟨hc2,hc3⟩,_,hby,hcl⟩:=id hu
 cases he
 obtain ⟨b9,o9,e9,hcell⟩:=hcl (by omega)
 cases e9
 obtain ⟨q,hq⟩:∃ q,(p.drop (i * 8)).take 8 = q:=⟨_,rfl⟩
 have hql:q.length = 8:=by rw [← hq,List.length_take,List.length_drop]; omega
 have HC:=hide (fun k (hk:k < 8)=>by
  have h9:=hcell (i * 8 + k) (by omega)
  have e9:p.getD (i * 8 + k) 0 = q.getD k 0:=by
   rw [← hq,List.getD_eq_getElem?_getD,List.getD_eq_getElem?_getD,List.getElem?_take,if_pos hk,List.getElem?_drop]
  rw [e9] at h9
  exact h9:∀ k,k < 8→w.cell? ⟨b,off + (i * 8 + k),none⟩ = some (u8 (q.getD k 0)))
 have HB:=hide (fun k (hk:k < 8)=>by
  have hm:∀ x∈q,x < 256:=fun x hx=>by rw [← hq] at hx; exact hby _ (List.mem_of_mem_drop (List.mem_of_mem_take hx))
  rw [List.getD_eq_getElem?_getD,List.getElem?_eq_getElem (by omega)]
  exact hm _ (List.getElem_mem _):∀ k,k < 8→q.getD k 0 < 256)
 have HQL:=hide hql
 rw [hq]
 rw [hl] at hc1 ⊢
 clear hu hby hcl hcell hq hql
 have hc4:(25:Int)≤cap:=by omega
 have hi3:i = 0∨i = 1∨i = 2:=by omega
 clear hi
 rcases hi3 with rfl | rfl | rfl
 all_goals
  have hc5:¬ cap = 8:=by omega
  have hc6:¬ cap = 16:=by omega
  have hc7:¬ cap = 0:=by omega
  go_enter Tryz.func85,Tryz.ntmps85
  go_wp2_with fail
  go_loopw [5,16] (fun t5 t16 wr=>∃ k:Nat,k≤8∧t16 = .int .i64 k∧t5 = .int .u64 (beL (q.take k))∧wr = w) (fun _ i _=>8 - (intOf i).toNat)
  case atStart=>exact ⟨0,Nat.zero_le _,rfl,by simp [beL],rfl⟩
  case round =>
   obtain ⟨k,hk,rfl,rfl,rfl⟩:=hrel
   by_cases hlt:k < 8
   ·have hck:=uh HC k hlt
    have hcb:=uh HB k hlt
    have hsn:=xb2g q k (by rw [uh HQL]; exact hlt)
    have hval:=xc0j (beL (q.take k)) (q.getD k 0) hcb
    rw [← hsn] at hval
    obtain ⟨c,hcc⟩:∃ c,q.getD k 0 = c:=⟨_,rfl⟩
    have ha1:=beL_lt (q.take k)
    obtain ⟨a,ha⟩:∃ a,beL (q.take k) = a:=⟨_,rfl⟩
    obtain ⟨a',ha'⟩:∃ a',beL (q.take (k + 1)) = a':=⟨_,rfl⟩
    rw [hcc] at hck hcb hval
    rw [ha] at hval ha1 ⊢
    rw [ha'] at hval
    have Ha':=hide ha'
    have hlt':(k:Int) < 8:=by omega
    clear hcc ha ha' hsn
    simp only [Nat.zero_mul,Nat.zero_add,Nat.one_mul,Nat.reduceMul,← Nat.add_assoc] at hck
    go_wp2
    go_roundw
    case rel=>exact ⟨k + 1,by omega,by go_num,by rw [uh Ha'],trivial⟩
    case measure=>simp [intOf]; omega
   ·have hlt':¬ (k:Int) < 8:=by omega
    obtain rfl:k = 8:=by omega
    have HT:=hide (List.take_of_length_le (by rw [uh HQL]; exact Nat.le_refl _):q.take 8 = q)
    rw [uh HT]
    go_wp2
    go_ret
    exact ⟨rfl,rfl⟩
end
section
open Go Go.RowKit Go.BigFrame
section
variable {P:Program} {Q:Exit→Act→World→Prop}
theorem xc5b {id:Nat} {o0 o1 o2 o3 o4 o5 o6 o7 o8 o9 o10 o11 o12:Oper} {a:Act} {w:World} (hm:P.follows .mixedOrders = true) (hs:Region.noSelect #[o0,o1,o2,o3,o4,o5,o6,o7,o8,o9,o10,o11,o12] = true)
  (f0:Region.free .any #[o0,o1,o2,o3,o4,o5,o6,o7,o8,o9,o10,o11,o12] #[false,false,false,false,false,false,false,false,false,false,false,false,false] 0 = true) (r0:(Region.ready .any #[o0,o1,o2,o3,o4,o5,o6,o7,o8,o9,o10,o11,o12] #[false,false,false,false,false,false,false,false,false,false,false,false,false]).contains 0 = true)
  (f2:Region.free .any #[o0,o1,o2,o3,o4,o5,o6,o7,o8,o9,o10,o11,o12] #[true,false,false,false,false,false,false,false,false,false,false,false,false] 2 = true) (r2:(Region.ready .any #[o0,o1,o2,o3,o4,o5,o6,o7,o8,o9,o10,o11,o12] #[true,false,false,false,false,false,false,false,false,false,false,false,false]).contains 2 = true)
  (f4:Region.free .any #[o0,o1,o2,o3,o4,o5,o6,o7,o8,o9,o10,o11,o12] #[true,false,true,false,false,false,false,false,false,false,false,false,false] 4 = true) (r4:(Region.ready .any #[o0,o1,o2,o3,o4,o5,o6,o7,o8,o9,o10,o11,o12] #[true,false,true,false,false,false,false,false,false,false,false,false,false]).contains 4 = true)
  (f6:Region.free .any #[o0,o1,o2,o3,o4,o5,o6,o7,o8,o9,o10,o11,o12] #[true,false,true,false,true,false,false,false,false,false,false,false,false] 6 = true) (r6:(Region.ready .any #[o0,o1,o2,o3,o4,o5,o6,o7,o8,o9,o10,o11,o12] #[true,false,true,false,true,false,false,false,false,false,false,false,false]).contains 6 = true)
  (f7:Region.free .any #[o0,o1,o2,o3,o4,o5,o6,o7,o8,o9,o10,o11,o12] #[true,false,true,false,true,false,true,false,false,false,false,false,false] 7 = true) (r7:(Region.ready .any #[o0,o1,o2,o3,o4,o5,o6,o7,o8,o9,o10,o11,o12] #[true,false,true,false,true,false,true,false,false,false,false,false,false]).contains 7 = true)
  (f8:Region.free .any #[o0,o1,o2,o3,o4,o5,o6,o7,o8,o9,o10,o11,o12] #[true,false,true,false,true,false,true,true,false,false,false,false,false] 8 = true) (r8:(Region.ready .any #[o0,o1,o2,o3,o4,o5,o6,o7,o8,o9,o10,o11,o12] #[true,false,true,false,true,false,true,true,false,false,false,false,false]).contains 8 = true)
  (f9:Region.free .any #[o0,o1,o2,o3,o4,o5,o6,o7,o8,o9,o10,o11,o12] #[true,false,true,false,true,false,true,true,true,false,false,false,false] 9 = true) (r9:(Region.ready .any #[o0,o1,o2,o3,o4,o5,o6,o7,o8,o9,o10,o11,o12] #[true,false,true,false,true,false,true,true,true,false,false,false,false]).contains 9 = true)
  (q_:Region.ready .any #[o0,o1,o2,o3,o4,o5,o6,o7,o8,o9,o10,o11,o12] #[true,false,true,false,true,false,true,true,true,true,false,false,false] = [1,11])
  (q1_:Region.ready .any #[o0,o1,o2,o3,o4,o5,o6,o7,o8,o9,o10,o11,o12] #[true,true,true,false,true,false,true,true,true,true,false,false,false] = [3,11])
  (q11_:Region.ready .any #[o0,o1,o2,o3,o4,o5,o6,o7,o8,o9,o10,o11,o12] #[true,false,true,false,true,false,true,true,true,true,false,true,false] = [1])
  (q1_3_:Region.ready .any #[o0,o1,o2,o3,o4,o5,o6,o7,o8,o9,o10,o11,o12] #[true,true,true,true,true,false,true,true,true,true,false,false,false] = [5,11])
  (f1_3_5_10:Region.free .any #[o0,o1,o2,o3,o4,o5,o6,o7,o8,o9,o10,o11,o12] #[true,true,true,true,true,true,true,true,true,true,false,false,false] 10 = true) (r1_3_5_10:(Region.ready .any #[o0,o1,o2,o3,o4,o5,o6,o7,o8,o9,o10,o11,o12] #[true,true,true,true,true,true,true,true,true,true,false,false,false]).contains 10 = true)
  (q1_11_:Region.ready .any #[o0,o1,o2,o3,o4,o5,o6,o7,o8,o9,o10,o11,o12] #[true,true,true,false,true,false,true,true,true,true,false,true,false] = [3])
  (q1_3_5_:Region.ready .any #[o0,o1,o2,o3,o4,o5,o6,o7,o8,o9,o10,o11,o12] #[true,true,true,true,true,true,true,true,true,true,true,false,false] = [11])
  (q1_3_11_:Region.ready .any #[o0,o1,o2,o3,o4,o5,o6,o7,o8,o9,o10,o11,o12] #[true,true,true,true,true,false,true,true,true,true,false,true,false] = [5])
  (f1_3_11_5_10:Region.free .any #[o0,o1,o2,o3,o4,o5,o6,o7,o8,o9,o10,o11,o12] #[true,true,true,true,true,true,true,true,true,true,false,true,false] 10 = true) (r1_3_11_5_10:(Region.ready .any #[o0,o1,o2,o3,o4,o5,o6,o7,o8,o9,o10,o11,o12] #[true,true,true,true,true,true,true,true,true,true,false,true,false]).contains 10 = true)
  (q1_3_5_11_:Region.ready .any #[o0,o1,o2,o3,o4,o5,o6,o7,o8,o9,o10,o11,o12] #[true,true,true,true,true,true,true,true,true,true,true,true,false] = [12])
  (q1_3_5_11_12_:Region.ready .any #[o0,o1,o2,o3,o4,o5,o6,o7,o8,o9,o10,o11,o12] #[true,true,true,true,true,true,true,true,true,true,true,true,true] = [])
  (g1:o1.guard = none)    (g3:o3.guard = none)    (g5:o5.guard = none)    (g11:o11.guard = none)    (g12:o12.guard = none)
  (ne11_1:∀ d,o11.dst = some d→o1.dst≠some d)
  (ne11_3:∀ d,o11.dst = some d→o3.dst≠some d)
  (ne11_5:∀ d,o11.dst = some d→o5.dst≠some d)
  (ne11_10:∀ d,o11.dst = some d→o10.dst≠some d)
  (v0 v2 v4 v6 v7 v8 v9:Value) (A0 A1 A2 A3 A4 A5 A6:Act)
  (S:World→Prop)
  (I_:World→Prop)
  (I1_:Value→World→Prop)
  (I11_:Value→World→Prop)
  (I1_3_:Value→Value→World→Prop)
  (I1_11_:Value→Value→World→Prop)
  (I1_3_5_:Value→Value→Value→World→Prop)
  (I1_3_11_:Value→Value→Value→World→Prop)
  (I1_3_5_11_:Value→Value→Value→Value→World→Prop)
  (I1_3_5_11_12_:Value→Value→Value→Value→Value→World→Prop)
  (v10:Value→Value→Value→Value)
  (p0:a.put o0.dst v0 = A0) (hy0:YieldsIf P #[o0,o1,o2,o3,o4,o5,o6,o7,o8,o9,o10,o11,o12] S o0 v0 a)
  (p2:A0.put o2.dst v2 = A1) (hy2:YieldsIf P #[o0,o1,o2,o3,o4,o5,o6,o7,o8,o9,o10,o11,o12] S o2 v2 A0)
  (p4:A1.put o4.dst v4 = A2) (hy4:YieldsIf P #[o0,o1,o2,o3,o4,o5,o6,o7,o8,o9,o10,o11,o12] S o4 v4 A1)
  (p6:A2.put o6.dst v6 = A3) (hy6:YieldsIf P #[o0,o1,o2,o3,o4,o5,o6,o7,o8,o9,o10,o11,o12] S o6 v6 A2)
  (p7:A3.put o7.dst v7 = A4) (hy7:YieldsIf P #[o0,o1,o2,o3,o4,o5,o6,o7,o8,o9,o10,o11,o12] S o7 v7 A3)
  (p8:A4.put o8.dst v8 = A5) (hy8:YieldsIf P #[o0,o1,o2,o3,o4,o5,o6,o7,o8,o9,o10,o11,o12] S o8 v8 A4)
  (p9:A5.put o9.dst v9 = A6) (hy9:YieldsIf P #[o0,o1,o2,o3,o4,o5,o6,o7,o8,o9,o10,o11,o12] S o9 v9 A5)
  (i0:I_ w.drew)
  (hIS:(∀ w',I_  w'→S w')∧(∀ (u1:Value) w',I1_ u1 w'→S w')∧(∀ (u11:Value) w',I11_ u11 w'→S w')∧(∀ (u1 u3:Value) w',I1_3_ u1 u3 w'→S w')∧(∀ (u1 u11:Value) w',I1_11_ u1 u11 w'→S w')∧(∀ (u1 u3 u5:Value) w',I1_3_5_ u1 u3 u5 w'→S w')∧(∀ (u1 u3 u11:Value) w',I1_3_11_ u1 u3 u11 w'→S w')∧(∀ (u1 u3 u5 u11:Value) w',I1_3_5_11_ u1 u3 u5 u11 w'→S w')∧(∀ (u1 u3 u5 u11 u12:Value) w',I1_3_5_11_12_ u1 u3 u5 u11 u12 w'→S w'))
  (s_1:∀ w',I_  w'→∀ K:Act→World→Prop,(∀ (u1:Value) w2,I1_ u1 w2→K (A6.put o1.dst u1) w2)→o1.wp P A6 w' K (NoPanic Q))
  (s_11:∀ w',I_  w'→∀ K:Act→World→Prop,(∀ (u11:Value) w2,I11_ u11 w2→K (A6.put o11.dst u11) w2)→o11.wp P A6 w' K (NoPanic Q))
  (s1_3:∀ (u1:Value) w',I1_ u1 w'→∀ K:Act→World→Prop,(∀ (u3:Value) w2,I1_3_ u1 u3 w2→K ((A6.put o1.dst u1).put o3.dst u3) w2)→o3.wp P (A6.put o1.dst u1) w' K (NoPanic Q))
  (s1_11:∀ (u1:Value) w',I1_ u1 w'→∀ K:Act→World→Prop,(∀ (u11:Value) w2,I1_11_ u1 u11 w2→K ((A6.put o1.dst u1).put o11.dst u11) w2)→o11.wp P (A6.put o1.dst u1) w' K (NoPanic Q))
  (s11_1:∀ (u11:Value) w',I11_ u11 w'→∀ K:Act→World→Prop,(∀ (u1:Value) w2,I1_11_ u1 u11 w2→K ((A6.put o11.dst u11).put o1.dst u1) w2)→o1.wp P (A6.put o11.dst u11) w' K (NoPanic Q))
  (s1_3_5:∀ (u1 u3:Value) w',I1_3_ u1 u3 w'→∀ K:Act→World→Prop,(∀ (u5:Value) w2,I1_3_5_ u1 u3 u5 w2→K (((A6.put o1.dst u1).put o3.dst u3).put o5.dst u5) w2)→o5.wp P ((A6.put o1.dst u1).put o3.dst u3) w' K (NoPanic Q))
  (s1_3_11:∀ (u1 u3:Value) w',I1_3_ u1 u3 w'→∀ K:Act→World→Prop,(∀ (u11:Value) w2,I1_3_11_ u1 u3 u11 w2→K (((A6.put o1.dst u1).put o3.dst u3).put o11.dst u11) w2)→o11.wp P ((A6.put o1.dst u1).put o3.dst u3) w' K (NoPanic Q))
  (s1_11_3:∀ (u1 u11:Value) w',I1_11_ u1 u11 w'→∀ K:Act→World→Prop,(∀ (u3:Value) w2,I1_3_11_ u1 u3 u11 w2→K (((A6.put o1.dst u1).put o11.dst u11).put o3.dst u3) w2)→o3.wp P ((A6.put o1.dst u1).put o11.dst u11) w' K (NoPanic Q))
  (s1_3_5_11:∀ (u1 u3 u5:Value) w',I1_3_5_ u1 u3 u5 w'→∀ K:Act→World→Prop,(∀ (u11:Value) w2,I1_3_5_11_ u1 u3 u5 u11 w2→K (((((A6.put o1.dst u1).put o3.dst u3).put o5.dst u5).put o10.dst (v10 u1 u3 u5)).put o11.dst u11) w2)→o11.wp P ((((A6.put o1.dst u1).put o3.dst u3).put o5.dst u5).put o10.dst (v10 u1 u3 u5)) w' K (NoPanic Q))
  (s1_3_11_5:∀ (u1 u3 u11:Value) w',I1_3_11_ u1 u3 u11 w'→∀ K:Act→World→Prop,(∀ (u5:Value) w2,I1_3_5_11_ u1 u3 u5 u11 w2→K ((((A6.put o1.dst u1).put o3.dst u3).put o11.dst u11).put o5.dst u5) w2)→o5.wp P (((A6.put o1.dst u1).put o3.dst u3).put o11.dst u11) w' K (NoPanic Q))
  (s1_3_5_11_12:∀ (u1 u3 u5 u11:Value) w',I1_3_5_11_ u1 u3 u5 u11 w'→∀ K:Act→World→Prop,(∀ (u12:Value) w2,I1_3_5_11_12_ u1 u3 u5 u11 u12 w2→K ((((((A6.put o1.dst u1).put o3.dst u3).put o5.dst u5).put o10.dst (v10 u1 u3 u5)).put o11.dst u11).put o12.dst u12) w2)→o12.wp P (((((A6.put o1.dst u1).put o3.dst u3).put o5.dst u5).put o10.dst (v10 u1 u3 u5)).put o11.dst u11) w' K (NoPanic Q))
  (y1_3_5_10:∀ (u1 u3 u5:Value) w',I1_3_5_ u1 u3 u5 w'→YieldsIf P #[o0,o1,o2,o3,o4,o5,o6,o7,o8,o9,o10,o11,o12] S o10 (v10 u1 u3 u5) (((A6.put o1.dst u1).put o3.dst u3).put o5.dst u5))
  (y1_3_11_5_10:∀ (u1 u3 u5 u11:Value) w',I1_3_5_11_ u1 u3 u5 u11 w'→YieldsIf P #[o0,o1,o2,o3,o4,o5,o6,o7,o8,o9,o10,o11,o12] S o10 (v10 u1 u3 u5) ((((A6.put o1.dst u1).put o3.dst u3).put o5.dst u5).put o11.dst u11))
  (h:∀ (u1 u3 u5 u11 u12:Value) w',I1_3_5_11_12_ u1 u3 u5 u11 u12 w'→Q .normal ((((((A6.put o1.dst u1).put o3.dst u3).put o5.dst u5).put o10.dst (v10 u1 u3 u5)).put o11.dst u11).put o12.dst u12) w') :
  (Code.region id #[o0,o1,o2,o3,o4,o5,o6,o7,o8,o9,o10,o11,o12] true).wp P Q a w:=by
 subst p0 p2 p4 p6 p7 p8 p9
 obtain ⟨z_,z1_,z11_,z1_3_,z1_11_,z1_3_5_,z1_3_11_,z1_3_5_11_,z1_3_5_11_12_⟩:=hIS
 refine wp_region_noPanic ?_
 refine wp_region_held_drew (S:=S) hm (z_ _ i0) (fun hH=>?_)
 show wpAnyH P .any #[o0,o1,o2,o3,o4,o5,o6,o7,o8,o9,o10,o11,o12] (NoPanic Q) S 13 #[false,false,false,false,false,false,false,false,false,false,false,false,false] a w.drew
 refine wpAnyH_take (i:=0) (oi:=o0) rfl hs f0 r0 (fun _ _ _ h=>h) hy0 hH ?_
 refine wpAnyH_take (i:=2) (oi:=o2) rfl hs f2 r2 (fun _ _ _ h=>h) hy2 hH ?_
 refine wpAnyH_take (i:=4) (oi:=o4) rfl hs f4 r4 (fun _ _ _ h=>h) hy4 hH ?_
 refine wpAnyH_take (i:=6) (oi:=o6) rfl hs f6 r6 (fun _ _ _ h=>h) hy6 hH ?_
 refine wpAnyH_take (i:=7) (oi:=o7) rfl hs f7 r7 (fun _ _ _ h=>h) hy7 hH ?_
 refine wpAnyH_take (i:=8) (oi:=o8) rfl hs f8 r8 (fun _ _ _ h=>h) hy8 hH ?_
 refine wpAnyH_take (i:=9) (oi:=o9) rfl hs f9 r9 (fun _ _ _ h=>h) hy9 hH ?_
 generalize (((((((a.put o0.dst v0).put o2.dst v2).put o4.dst v4).put o6.dst v6).put o7.dst v7).put o8.dst v8).put o9.dst v9) = B at *
 have wa1:∀ y,Region.wanted o1 y = true:=fun y=>by unfold Region.wanted; rw [g1]
 have wa3:∀ y,Region.wanted o3 y = true:=fun y=>by unfold Region.wanted; rw [g3]
 have wa5:∀ y,Region.wanted o5 y = true:=fun y=>by unfold Region.wanted; rw [g5]
 have wa11:∀ y,Region.wanted o11 y = true:=fun y=>by unfold Region.wanted; rw [g11]
 have wa12:∀ y,Region.wanted o12 y = true:=fun y=>by unfold Region.wanted; rw [g12]
 have t1_3_5_11_12_:∀ (u1 u3 u5 u11 u12:Value) w',I1_3_5_11_12_ u1 u3 u5 u11 u12 w'→wpAnyH P .any #[o0,o1,o2,o3,o4,o5,o6,o7,o8,o9,o10,o11,o12] (NoPanic Q) S 0 #[true,true,true,true,true,true,true,true,true,true,true,true,true] ((((((B.put o1.dst u1).put o3.dst u3).put o5.dst u5).put o10.dst (v10 u1 u3 u5)).put o11.dst u11).put o12.dst u12) w':=by
  intro u1 u3 u5 u11 u12 w0 i0
  exact ⟨q1_3_5_11_12_,NoPanic.normal (h u1 u3 u5 u11 u12 w0 i0)⟩
 have t1_3_5_11_:∀ (u1 u3 u5 u11:Value) w',I1_3_5_11_ u1 u3 u5 u11 w'→wpAnyH P .any #[o0,o1,o2,o3,o4,o5,o6,o7,o8,o9,o10,o11,o12] (NoPanic Q) S 1 #[true,true,true,true,true,true,true,true,true,true,true,true,false] (((((B.put o1.dst u1).put o3.dst u3).put o5.dst u5).put o10.dst (v10 u1 u3 u5)).put o11.dst u11) w':=by
  intro u1 u3 u5 u11 w0 i0
  refine wpAnyH_ready (rs:=[12]) q1_3_5_11_ (by simp) (AllReadyH.cons (o:=o12) rfl (fun K hK=>?_) AllReadyH.nil)
  ·rw [if_pos (wa12 _)]
   refine s1_3_5_11_12 u1 u3 u5 u11 w0 i0 K (fun u12 w1 i1=>hK.out _ _ (z1_3_5_11_12_ u1 u3 u5 u11 u12 w1 i1) (fun _=>?_))
   clear hK
   exact t1_3_5_11_12_ u1 u3 u5 u11 u12 w1 i1
 have t1_3_11_:∀ (u1 u3 u11:Value) w',I1_3_11_ u1 u3 u11 w'→wpAnyH P .any #[o0,o1,o2,o3,o4,o5,o6,o7,o8,o9,o10,o11,o12] (NoPanic Q) S 3 #[true,true,true,true,true,false,true,true,true,true,false,true,false] (((B.put o1.dst u1).put o3.dst u3).put o11.dst u11) w':=by
  intro u1 u3 u11 w0 i0
  refine wpAnyH_ready (rs:=[5]) q1_3_11_ (by simp) (AllReadyH.cons (o:=o5) rfl (fun K hK=>?_) AllReadyH.nil)
  ·rw [if_pos (wa5 _)]
   refine s1_3_11_5 u1 u3 u11 w0 i0 K (fun u5 w1 i1=>hK.out _ _ (z1_3_5_11_ u1 u3 u5 u11 w1 i1) (fun _=>?_))
   clear hK
   rw [Act.put_comm _ _ _ ne11_5]
   refine wpAnyH_take (i:=10) (oi:=o10) rfl hs f1_3_11_5_10 r1_3_11_5_10 (fun _ _ _ h=>h) (y1_3_11_5_10 u1 u3 u5 u11 w1 i1) (z1_3_5_11_ u1 u3 u5 u11 w1 i1) ?_
   rw [Act.put_comm _ _ _ ne11_10]
   exact t1_3_5_11_ u1 u3 u5 u11 w1 i1
 have t1_3_5_:∀ (u1 u3 u5:Value) w',I1_3_5_ u1 u3 u5 w'→wpAnyH P .any #[o0,o1,o2,o3,o4,o5,o6,o7,o8,o9,o10,o11,o12] (NoPanic Q) S 2 #[true,true,true,true,true,true,true,true,true,true,true,false,false] ((((B.put o1.dst u1).put o3.dst u3).put o5.dst u5).put o10.dst (v10 u1 u3 u5)) w':=by
  intro u1 u3 u5 w0 i0
  refine wpAnyH_ready (rs:=[11]) q1_3_5_ (by simp) (AllReadyH.cons (o:=o11) rfl (fun K hK=>?_) AllReadyH.nil)
  ·rw [if_pos (wa11 _)]
   refine s1_3_5_11 u1 u3 u5 w0 i0 K (fun u11 w1 i1=>hK.out _ _ (z1_3_5_11_ u1 u3 u5 u11 w1 i1) (fun _=>?_))
   clear hK
   exact t1_3_5_11_ u1 u3 u5 u11 w1 i1
 have t1_11_:∀ (u1 u11:Value) w',I1_11_ u1 u11 w'→wpAnyH P .any #[o0,o1,o2,o3,o4,o5,o6,o7,o8,o9,o10,o11,o12] (NoPanic Q) S 4 #[true,true,true,false,true,false,true,true,true,true,false,true,false] ((B.put o1.dst u1).put o11.dst u11) w':=by
  intro u1 u11 w0 i0
  refine wpAnyH_ready (rs:=[3]) q1_11_ (by simp) (AllReadyH.cons (o:=o3) rfl (fun K hK=>?_) AllReadyH.nil)
  ·rw [if_pos (wa3 _)]
   refine s1_11_3 u1 u11 w0 i0 K (fun u3 w1 i1=>hK.out _ _ (z1_3_11_ u1 u3 u11 w1 i1) (fun _=>?_))
   clear hK
   rw [Act.put_comm _ _ _ ne11_3]
   exact t1_3_11_ u1 u3 u11 w1 i1
 have t1_3_:∀ (u1 u3:Value) w',I1_3_ u1 u3 w'→wpAnyH P .any #[o0,o1,o2,o3,o4,o5,o6,o7,o8,o9,o10,o11,o12] (NoPanic Q) S 4 #[true,true,true,true,true,false,true,true,true,true,false,false,false] ((B.put o1.dst u1).put o3.dst u3) w':=by
  intro u1 u3 w0 i0
  refine wpAnyH_ready (rs:=[5,11]) q1_3_ (by simp) (AllReadyH.cons (o:=o5) rfl (fun K hK=>?_) (AllReadyH.cons (o:=o11) rfl (fun K hK=>?_) AllReadyH.nil))
  ·rw [if_pos (wa5 _)]
   refine s1_3_5 u1 u3 w0 i0 K (fun u5 w1 i1=>hK.out _ _ (z1_3_5_ u1 u3 u5 w1 i1) (fun _=>?_))
   clear hK
   refine wpAnyH_take (i:=10) (oi:=o10) rfl hs f1_3_5_10 r1_3_5_10 (fun _ _ _ h=>h) (y1_3_5_10 u1 u3 u5 w1 i1) (z1_3_5_ u1 u3 u5 w1 i1) ?_
   exact t1_3_5_ u1 u3 u5 w1 i1
  ·rw [if_pos (wa11 _)]
   refine s1_3_11 u1 u3 w0 i0 K (fun u11 w1 i1=>hK.out _ _ (z1_3_11_ u1 u3 u11 w1 i1) (fun _=>?_))
   clear hK
   exact t1_3_11_ u1 u3 u11 w1 i1
 have t11_:∀ (u11:Value) w',I11_ u11 w'→wpAnyH P .any #[o0,o1,o2,o3,o4,o5,o6,o7,o8,o9,o10,o11,o12] (NoPanic Q) S 5 #[true,false,true,false,true,false,true,true,true,true,false,true,false] (B.put o11.dst u11) w':=by
  intro u11 w0 i0
  refine wpAnyH_ready (rs:=[1]) q11_ (by simp) (AllReadyH.cons (o:=o1) rfl (fun K hK=>?_) AllReadyH.nil)
  ·rw [if_pos (wa1 _)]
   refine s11_1 u11 w0 i0 K (fun u1 w1 i1=>hK.out _ _ (z1_11_ u1 u11 w1 i1) (fun _=>?_))
   clear hK
   rw [Act.put_comm _ _ _ ne11_1]
   exact t1_11_ u1 u11 w1 i1
 have t1_:∀ (u1:Value) w',I1_ u1 w'→wpAnyH P .any #[o0,o1,o2,o3,o4,o5,o6,o7,o8,o9,o10,o11,o12] (NoPanic Q) S 5 #[true,true,true,false,true,false,true,true,true,true,false,false,false] (B.put o1.dst u1) w':=by
  intro u1 w0 i0
  refine wpAnyH_ready (rs:=[3,11]) q1_ (by simp) (AllReadyH.cons (o:=o3) rfl (fun K hK=>?_) (AllReadyH.cons (o:=o11) rfl (fun K hK=>?_) AllReadyH.nil))
  ·rw [if_pos (wa3 _)]
   refine s1_3 u1 w0 i0 K (fun u3 w1 i1=>hK.out _ _ (z1_3_ u1 u3 w1 i1) (fun _=>?_))
   clear hK
   exact t1_3_ u1 u3 w1 i1
  ·rw [if_pos (wa11 _)]
   refine s1_11 u1 w0 i0 K (fun u11 w1 i1=>hK.out _ _ (z1_11_ u1 u11 w1 i1) (fun _=>?_))
   clear hK
   exact t1_11_ u1 u11 w1 i1
 have t_:∀ w',I_  w'→wpAnyH P .any #[o0,o1,o2,o3,o4,o5,o6,o7,o8,o9,o10,o11,o12] (NoPanic Q) S 6 #[true,false,true,false,true,false,true,true,true,true,false,false,false] B w':=by
  intro w0 i0
  refine wpAnyH_ready (rs:=[1,11]) q_ (by simp) (AllReadyH.cons (o:=o1) rfl (fun K hK=>?_) (AllReadyH.cons (o:=o11) rfl (fun K hK=>?_) AllReadyH.nil))
  ·rw [if_pos (wa1 _)]
   refine s_1  w0 i0 K (fun u1 w1 i1=>hK.out _ _ (z1_ u1 w1 i1) (fun _=>?_))
   clear hK
   exact t1_ u1 w1 i1
  ·rw [if_pos (wa11 _)]
   refine s_11  w0 i0 K (fun u11 w1 i1=>hK.out _ _ (z11_ u11 w1 i1) (fun _=>?_))
   clear hK
   exact t11_ u11 w1 i1
 exact t_ w.drew i0
end
end
section
open Go.RowKit Go.BigFrame
theorem xa2c {w:World} {g:Nat} {a b c d:Value} {t:TypeId} (h:w.heap[g]? = some (.cells #[a,b,c,d] t (0,0))) (x y z u:Value):((((w.setCell ⟨g,0,none⟩ x).setCell ⟨g,1,none⟩ y).setCell ⟨g,2,none⟩ z).setCell ⟨g,3,none⟩ u).heap[g]? = some (.cells #[x,y,z,u] t (0,0)):=by
 rw [heap_setCell_same _ g 3 _ t _ (heap_setCell_same _ g 2 _ t _ (heap_setCell_same _ g 1 _ t _ (heap_setCell_same w g 0 _ t _ h)))]; rfl
theorem xa2a {w0 w:World} (k:Kept [] w0 w) (g:Nat) (hg:w0.heap.size≤g) (x y z u:Value):Kept [] w0 ((((w.setCell ⟨g,0,none⟩ x).setCell ⟨g,1,none⟩ y).setCell ⟨g,2,none⟩ z).setCell ⟨g,3,none⟩ u):=(((k.setCell (Or.inr hg) x).setCell (Or.inr hg) y).setCell (Or.inr hg) z).setCell (Or.inr hg) u
theorem Tryz.size_head:(Tryz.prog.info? 53).map (·.size) = some 4:=by kernel_rfl
theorem hfroz {w:World} {b:Nat} {cs:Array Value} {t:TypeId} (h:w.heap[b]? = some (.cells cs t (0,0))):w.frozen? ⟨b,0,none⟩ = false∧w.frozen? ⟨b,1,none⟩ = false∧w.frozen? ⟨b,2,none⟩ = false∧w.frozen? ⟨b,3,none⟩ = false :=
 ⟨frozen_of_row _ _ _ _ _ h,frozen_of_row _ _ _ _ _ h,frozen_of_row _ _ _ _ _ h,frozen_of_row _ _ _ _ _ h⟩
theorem xa1p {o:Oper} {a:Act} {w:World} {K:Act→World→Prop} {Q:Exit→Act→World→Prop} (ho:o.op = .alloc 53) (h:K (a.put o.dst (.pointer (some ⟨w.heap.size,0,none⟩))) (w.alloc (.cells #[.int .u64 0,.int .u64 0,.int .u64 0,.int .i64 0] 53))):o.wp Tryz.prog a w K Q:=by
 unfold Oper.wp execOp
 simp only [ho]
 go_simp
 exact h
theorem xb5l {n:Nat} (h:n < 256):IntKind.i64.wrap (n:Int) = (n:Int):=by
 simp [IntKind.wrap,IntKind.bits,IntKind.signed]; omega
def Ald (W:World) (u:Value) (cs:Array Value) (w:World):Prop:=∃ g,u = .pointer (some ⟨g,0,none⟩)∧W.heap.size≤g∧w.heap[g]? = some (.cells cs 53 (0,0))
theorem xb0i {W w:World} (k:Kept [] W w):Ald W (.pointer (some ⟨w.heap.size,0,none⟩)) #[.int .u64 0,.int .u64 0,.int .u64 0,.int .i64 0] (w.alloc (.cells #[.int .u64 0,.int .u64 0,.int .u64 0,.int .i64 0] 53)):=⟨_,rfl,k.size,heap_alloc_new _ _⟩
structure HdR where
 a:Nat
 b:Nat
 c:Nat
 d:Nat
def payH (pl:Nat) (pay:List Nat):Bool:=decide (pay.length = 30∧pay.take 5 = [78,84,82,89,49]∧beL ((pay.drop 5).take 8) = pl∧1≤pay.getD 29 0∧pay.getD 29 0≤32)
def hdF (p:List Nat):Option HdR:=match firstF p with
 | none=>none
 | some x=>if payH x.1 x.2 then some ⟨beL ((x.2.drop 5).take 8),beL ((x.2.drop 13).take 8),beL ((x.2.drop 21).take 8),x.2.getD 29 0⟩ else none
def hdC (p:List Nat):HdR:=(hdF p).getD ⟨0,0,0,0⟩
def hdN (p:List Nat):Nat:=if (hdF p).isSome then 48 else 0
theorem xb3m {p:List Nat} (h:(nextF p 0).kind≠1):hdF p = none:=by
 cases hf:firstF p with
 | none=>unfold hdF; rw [hf]
 | some x =>
  exfalso
  apply h
  unfold nextF
  have hp:0 < p.length:=by
   rcases Nat.eq_zero_or_pos p.length with h0 | h0
   ·rw [xa4o (by omega)] at hf; cases hf
   ·exact h0
  rw [if_neg (by omega),if_neg (by omega)]
  simp [hf]
set_option maxHeartbeats 4000000 in
theorem xa8g (v:Value) (p:List Nat) (w:World) (h:Rd w v p) :
  Calls Tryz.prog 47 #[v] w fun e w'=>e = .returned (.tuple #[.agg #[.int .u64 (hdC p).a,.int .u64 (hdC p).b,.int .u64 (hdC p).c,.int .i64 (hdC p).d],.int .i64 (hdN p),.bool (hdF p).isSome])∧Kept [] w w':=by
 have H:=hide h
 obtain ⟨a1,n1,c1,rfl,hn1,_⟩:=id h
 subst hn1
 clear h
 have HZ0:=hide (heap_alloc_new w (.cells #[.int .u64 0,.int .u64 0,.int .u64 0,.int .i64 0] 53))
 have HK0:=hide ((Kept.refl [] w).alloc (.cells #[.int .u64 0,.int .u64 0,.int .u64 0,.int .i64 0] 53))
 obtain ⟨X,hX⟩:∃ X,hdC p = X:=⟨_,rfl⟩
 obtain ⟨Y,hY⟩:∃ Y,hdN p = Y:=⟨_,rfl⟩
 obtain ⟨Z,hZ⟩:∃ Z,(hdF p).isSome = Z:=⟨_,rfl⟩
 rw [hX,hY,hZ]
 have HNO:=hide (fun (h0:hdF p = none)=>by
  rw [← hX,← hY,← hZ]
  exact ⟨by simp [hdC,h0],by simp [hdN,h0],by simp [h0]⟩:hdF p = none→X = ⟨0,0,0,0⟩∧Y = 0∧Z = false)
 have HYE:=hide (fun (x:HdR) (h0:hdF p = some x)=>by
  rw [← hX,← hY,← hZ]
  exact ⟨by simp [hdC,h0],by simp [hdN,h0],by simp [h0]⟩:∀ x,hdF p = some x→X = x∧Y = 48∧Z = true)
 clear hX hY hZ
 go_enter Tryz.func47,Tryz.ntmps47
 go_wp2_with fail
 refine Calls.mono (xb6v _ p 0 _ ((uh H).old (uh HK0) (by simp)) (by omega)) ?_
 rintro e w1 ⟨v1,rfl,n1,k1⟩
 obtain ⟨av,nv,cv,rfl,hnv,_⟩:=id n1.1
 have HN1:=hide n1
 have HZ1:=hide (k1.heap (uh HZ0) (by simp))
 have HK1:=hide ((uh HK0).trans k1 (by simp))
 have HLT1:=hide (lt_of_block (uh HZ1):w.heap.size < w1.heap.size)
 clear n1 k1 hnv
 have HZW:=hide (((Kept.refl [] w1).alloc (.cells #[.int .u64 ((nextF p 0).pl:Int),.slice av nv cv] 173)).heap (uh HZ1) (by simp))
 have HKW:=hide ((uh HK1).alloc (.cells #[.int .u64 ((nextF p 0).pl:Int),.slice av nv cv] 173))
 have HFW:=hide (heap_alloc_new w1 (.cells #[.int .u64 ((nextF p 0).pl:Int),.slice av nv cv] 173))
 have HNW:=hide ((uh HN1).1.old ((Kept.refl [] w1).alloc (.cells #[.int .u64 ((nextF p 0).pl:Int),.slice av nv cv] 173)) (by simp))
 obtain ⟨W1,hW1⟩:∃ W,w1.alloc (.cells #[.int .u64 ((nextF p 0).pl:Int),.slice av nv cv] 173) = W:=⟨_,rfl⟩
 have HS1:=hide (by rw [← hW1]; simp:w1.heap.size < W1.heap.size)
 rw [hW1] at HZW HKW HFW HNW
 have HW1:=hide hW1
 clear hW1
 obtain ⟨d0,d1,d2,d3⟩:=hcells (uh HZW)
 obtain ⟨f0,f1,f2,f3⟩:=hfroz (uh HZW)
 have g0:W1.cell? ⟨w1.heap.size,0,none⟩ = some (.int .u64 ((nextF p 0).pl:Int)):=by rw [cell_of_row _ _ _ _ _ _ (uh HFW)]; rfl
 have g1:W1.cell? ⟨w1.heap.size,1,none⟩ = some (.slice av nv cv):=by rw [cell_of_row _ _ _ _ _ _ (uh HFW)]; rfl
 have HNK:=hide (fun h=>xb3m (p:=p) h)
 have hcase:=xa5i p 0 (uh H).byte
 by_cases hkd:(nextF p 0).kind = 1
 ·rcases hcase with ⟨_,hN⟩ | ⟨_,hN⟩ | ⟨m,pl,pay,hzn,hN,b1,b2,b3,b4,b5,b6,b7⟩
  ·rw [hN] at hkd; simp at hkd
  ·rw [hN] at hkd; simp at hkd
  ·obtain rfl:m = 0:=by omega
   rw [List.drop_zero] at b7
   rw [hN] at HN1 HFW HNW HW1 g0 ⊢
   simp only at HN1 HFW HNW HW1 g0 ⊢
   have hnv:nv = pay.length:=by obtain ⟨_,_,_,e,h9,_⟩:=(uh HN1).1; cases e; exact h9.symm
   subst hnv
   have HHF:=hide (by unfold hdF; rw [b7]:hdF p = if payH pl pay then some ⟨beL ((pay.drop 5).take 8),beL ((pay.drop 13).take 8),beL ((pay.drop 21).take 8),pay.getD 29 0⟩ else none)
   have hpl:(pl:Int)≤18446744073709551615:=by omega
   clear hN hkd hzn b5 b6 b7 HNK
   by_cases hl30:pay.length = 30
   ·have HPL:=hide hl30
    obtain ⟨_,_,_,he9,_,hcap9,⟨hcm9,_⟩,_,_,hcl9⟩:=id (uh HNW)
    cases he9
    obtain ⟨bq,oq,e9,_⟩:=hcl9 (by omega)
    cases e9
    clear hcl9
    have hcv:30≤cv:=by omega
    clear hcap9
    rw [hl30] at HNW HN1 HFW HW1 g1 ⊢
    clear hl30
    obtain ⟨HHF30,hhf⟩:∃ q,q = pay:=⟨_,rfl⟩
    clear HHF30 hhf
    have kc:=fun (w:World) (C:Array Value) (n c:Nat)=>Lib.run_convert_bytes_const (P:=Tryz.prog) w 49 5 C n c Tryz.underlying49 Tryz.underlying5
    have hsz1:(w1.alloc (.cells #[.int .u64 (pl:Int),.slice (some ⟨bq,oq,none⟩) 30 cv] 173)).heap.size = w1.heap.size + 1:=by simp
    have kc1:=kc (w1.alloc (.cells #[.int .u64 (pl:Int),.slice (some ⟨bq,oq,none⟩) 30 cv] 173)) #[.int .u8 78,.int .u8 84,.int .u8 82,.int .u8 89,.int .u8 49] 5 5
    rw [hsz1] at kc1
    clear kc hsz1
    rw [← uh HW1] at g0 g1
    go_wp2_with fail
    clear kc1 d0 d1 d2 d3 f0 f1 f2 f3 g0 g1
    rw [uh HW1]
    have HK3:=hide ((Kept.refl [] W1).alloc (.cells #[.int .u8 78,.int .u8 84,.int .u8 82,.int .u8 89,.int .u8 49] 5 (5,6)))
    have HR3:=hide (rd_row [78,84,82,89,49] (heap_alloc_new W1 (.cells #[.int .u8 78,.int .u8 84,.int .u8 82,.int .u8 89,.int .u8 49] 5 (5,6))) rfl (by decide) 5 rfl (by decide))
    rw [show W1.heap.size = w1.heap.size + 1 by rw [← uh HW1]; simp] at HR3
    obtain ⟨W3,hW3⟩:∃ W,W1.alloc (.cells #[.int .u8 78,.int .u8 84,.int .u8 82,.int .u8 89,.int .u8 49] 5 (5,6)) = W:=⟨_,rfl⟩
    rw [hW3] at HK3 HR3 ⊢
    clear hW3
    have HZ3:=hide ((uh HK3).heap (uh HZW) (by simp))
    have HF3:=hide ((uh HK3).heap (uh HFW) (by simp))
    have HKW3:=hide ((uh HKW).trans (uh HK3) (by simp))
    have HNW3:=hide ((uh HNW).old (uh HK3) (by simp))
    have hcut:=xc2l bq oq cv _ pay [78,84,82,89,49] W3 (by rw [uh HPL]; exact uh HNW3) (uh HR3) (by rw [uh HPL]; decide)
    rw [uh HPL] at hcut
    refine Calls.mono hcut ?_
    clear hcut
    rintro e w4 ⟨rfl,hw4⟩
    subst w4
    obtain ⟨d0,d1,d2,d3⟩:=hcells (uh HZ3)
    obtain ⟨f0,f1,f2,f3⟩:=hfroz (uh HZ3)
    by_cases hpre:pay.take 5 = [78,84,82,89,49]
    ·simp only [List.length_cons,List.length_nil,Nat.zero_add,Nat.reduceAdd,hpre,if_true,decide_true,Nat.reduceSub]
     have hfl:(pay.drop 5).length = 25:=by rw [List.length_drop,uh HPL]
     have HFP:=hide (by
      have h9:=Rd.cutN (n:=5) (N:=30) (p:=pay) (by rw [uh HPL]; exact uh HNW3) (by decide) (by rw [uh HPL]; exact Nat.le_refl _)
      rw [List.take_of_length_le (by rw [List.length_drop,uh HPL]; exact Nat.le_refl _)] at h9
      exact h9:Rd W3 (.slice (some ⟨bq,oq + 5,none⟩) 25 (cv - 5)) (pay.drop 5))
     obtain ⟨m0,hm0⟩:∃ m,beL ((pay.drop 5).take 8) = m:=⟨_,rfl⟩
     obtain ⟨m1,hm1⟩:∃ m,beL ((pay.drop 13).take 8) = m:=⟨_,rfl⟩
     obtain ⟨m2,hm2⟩:∃ m,beL ((pay.drop 21).take 8) = m:=⟨_,rfl⟩
     obtain ⟨wz,hwz⟩:∃ m,pay.getD 29 0 = m:=⟨_,rfl⟩
     have hwl:wz < 256:=by
      rw [← hwz,List.getD_eq_getElem?_getD,List.getElem?_eq_getElem (by rw [uh HPL]; decide)]
      exact (uh HNW3).byte _ (List.getElem_mem _)
     have HC24:=hide (by
      obtain ⟨_,_,_,e9,_,_,_,_,_,hcl⟩:=uh HFP
      cases e9
      obtain ⟨b9,o9,e9,hc⟩:=hcl (by decide)
      cases e9
      have h9:=hc 24 (by decide)
      rw [← hwz]
      have e9:(pay.drop 5).getD 24 0 = pay.getD 29 0:=by simp [List.getD_eq_getElem?_getD]
      rw [e9] at h9
      exact h9:W3.cell? ⟨bq,oq + 5 + 24,none⟩ = some (.int .u8 (wz:Int)))
     have hnum:∀ w',Kept [] W3 w'→∀ i:Nat,i < 3→Calls Tryz.prog 85 #[.slice (some ⟨bq,oq + 5,none⟩) 25 (cv - 5),.int .i64 i] w' fun e w2=>e = .returned (.int .u64 (beL (((pay.drop 5).drop (i * 8)).take 8):Nat))∧w2 = w':=by
      intro w' k i hi
      have h9:=xa8j bq (oq + 5) (cv - 5) i (pay.drop 5) w' (by rw [hfl]; exact (uh HFP).old k (by simp)) hi hfl
      rw [hfl] at h9
      exact h9
     have HHF2:=hide (uh HHF)
     rw [hm0,hm1,hm2,hwz] at HHF2
     have Hm0:=hide (by rw [← hm0]; rfl:m0 = beL (((pay.drop 5).drop (0 * 8)).take 8))
     have Hm1:=hide (by rw [← hm1,List.drop_drop]:m1 = beL (((pay.drop 5).drop (1 * 8)).take 8))
     have Hm2:=hide (by rw [← hm2,List.drop_drop]:m2 = beL (((pay.drop 5).drop (2 * 8)).take 8))
     have HPH:=hide (by unfold payH; rw [hm0,hwz,uh HPL]; simp [hpre]:payH pl pay = decide (m0 = pl∧1≤wz∧wz≤32))
     clear hm0 hm1 hm2 hwz hfl HHF
     go_upto_region 7 with fail
     refine xc5b (by kernel_rfl) (by kernel_rfl) (by kernel_rfl) (by kernel_rfl) (by kernel_rfl) (by kernel_rfl) (by kernel_rfl) (by kernel_rfl) (by kernel_rfl) (by kernel_rfl) (by kernel_rfl) (by kernel_rfl) (by kernel_rfl) (by kernel_rfl) (by kernel_rfl) (by kernel_rfl) (by kernel_rfl) (by kernel_rfl) (by kernel_rfl) (by kernel_rfl) (by kernel_rfl) (by kernel_rfl) (by kernel_rfl) (by kernel_rfl) (by kernel_rfl) (by kernel_rfl) (by kernel_rfl) (by kernel_rfl) (by kernel_rfl) rfl rfl rfl rfl rfl (by simp) (by simp) (by simp) (by simp)
      (.slice (some ⟨bq,oq + 5,none⟩) 25 (cv - 5)) (.slice (some ⟨bq,oq + 5,none⟩) 25 (cv - 5)) (.slice (some ⟨bq,oq + 5,none⟩) 25 (cv - 5)) (.slice (some ⟨bq,oq + 5,none⟩) 25 (cv - 5)) (.pointer (some ⟨bq,oq + 5 + 24,none⟩)) (.int .u8 (wz:Int)) (.int .i64 (wz:Int)) _ _ _ _ _ _ _
      (fun w'=>w'.cell? ⟨bq,oq + 5 + 24,none⟩ = some (.int .u8 (wz:Int)))
      (fun  w'=>Kept [] W3 w') (fun u1 w'=>u1 = .int .u64 (m0:Int)∧Kept [] W3 w') (fun u11 w'=>Kept [] W3 w'∧Ald W3 u11 #[.int .u64 0,.int .u64 0,.int .u64 0,.int .i64 0] w') (fun u1 u3 w'=>u1 = .int .u64 (m0:Int)∧u3 = .int .u64 (m1:Int)∧Kept [] W3 w') (fun u1 u11 w'=>u1 = .int .u64 (m0:Int)∧Kept [] W3 w'∧Ald W3 u11 #[.int .u64 0,.int .u64 0,.int .u64 0,.int .i64 0] w') (fun u1 u3 u5 w'=>u1 = .int .u64 (m0:Int)∧u3 = .int .u64 (m1:Int)∧u5 = .int .u64 (m2:Int)∧Kept [] W3 w') (fun u1 u3 u11 w'=>u1 = .int .u64 (m0:Int)∧u3 = .int .u64 (m1:Int)∧Kept [] W3 w'∧Ald W3 u11 #[.int .u64 0,.int .u64 0,.int .u64 0,.int .i64 0] w') (fun u1 u3 u5 u11 w'=>u1 = .int .u64 (m0:Int)∧u3 = .int .u64 (m1:Int)∧u5 = .int .u64 (m2:Int)∧Kept [] W3 w'∧Ald W3 u11 #[.int .u64 0,.int .u64 0,.int .u64 0,.int .i64 0] w') (fun u1 u3 u5 u11 u12 w'=>u1 = .int .u64 (m0:Int)∧u3 = .int .u64 (m1:Int)∧u5 = .int .u64 (m2:Int)∧Kept [] W3 w'∧Ald W3 u11 #[.int .u64 (m0:Int),.int .u64 (m1:Int),.int .u64 (m2:Int),.int .i64 (wz:Int)] w')
      (fun u1 u3 u5=>.agg #[u1,u3,u5,.int .i64 (wz:Int)])
      (by simp only [Act.put,sa1,sa2,sa3]; rfl) (by exact Or.inl ⟨by rfl,fun W' hW'=>by go_simp⟩)
      (by simp only [Act.put,sa1,sa2,sa3]; rfl) (by exact Or.inl ⟨by rfl,fun W' hW'=>by go_simp⟩)
      (by simp only [Act.put,sa1,sa2,sa3]; rfl) (by exact Or.inl ⟨by rfl,fun W' hW'=>by go_simp⟩)
      (by simp only [Act.put,sa1,sa2,sa3]; rfl) (by exact Or.inl ⟨by rfl,fun W' hW'=>by go_simp⟩)
      (by simp only [Act.put,sa1,sa2,sa3]; rfl) (by exact Or.inl ⟨by rfl,fun W' hW'=>by go_simp⟩)
      (by simp only [Act.put,sa1,sa2,sa3]; rfl) (by exact Or.inl ⟨by rfl,fun W' hW'=>xb9e 5 _ rfl ⟨bq,oq + 5 + 24,none⟩ rfl W' _ .u8 Tryz.underlying5 hW'⟩)
      (by simp only [Act.put,sa1,sa2,sa3]; rfl) (by exact Or.inl ⟨by rfl,fun W' hW'=>by go_simp; exact xb5l hwl⟩)
      ((Kept.refl [] W3).drew)
      ⟨fun  w' h=>(h).cell (uh HC24) (by simp),fun u1 w' h=>(h.2).cell (uh HC24) (by simp),fun u11 w' h=>(h.1).cell (uh HC24) (by simp),fun u1 u3 w' h=>(h.2.2).cell (uh HC24) (by simp),fun u1 u11 w' h=>(h.2.1).cell (uh HC24) (by simp),fun u1 u3 u5 w' h=>(h.2.2.2).cell (uh HC24) (by simp),fun u1 u3 u11 w' h=>(h.2.2.1).cell (uh HC24) (by simp),fun u1 u3 u5 u11 w' h=>(h.2.2.2.1).cell (uh HC24) (by simp),fun u1 u3 u5 u11 u12 w' h=>(h.2.2.2.1).cell (uh HC24) (by simp)⟩
      (by
       rintro w' k K hK
       refine xa0f rfl Tryz.call85 [.slice (some ⟨bq,oq + 5,none⟩) 25 (cv - 5),.int .i64 0] rfl (hnum w' k 0 (by decide)) ?_
       rintro e w2 ⟨rfl,rfl⟩
       exact ⟨_,rfl,hK _ _ (⟨by rw [← uh Hm0],k⟩)⟩) (by
       rintro w' k K hK
       exact xa1p rfl (hK _ _ ⟨k.alloc _,xb0i k⟩)) (by
       rintro u1 w' ⟨rfl,k⟩ K hK
       refine xa0f rfl Tryz.call85 [.slice (some ⟨bq,oq + 5,none⟩) 25 (cv - 5),.int .i64 1] rfl (hnum w' k 1 (by decide)) ?_
       rintro e w2 ⟨rfl,rfl⟩
       exact ⟨_,rfl,hK _ _ (⟨rfl,by rw [← uh Hm1],k⟩)⟩) (by
       rintro u1 w' ⟨rfl,k⟩ K hK
       exact xa1p rfl (hK _ _ ⟨rfl,k.alloc _,xb0i k⟩)) (by
       rintro u11 w' ⟨k,al⟩ K hK
       refine xa0f rfl Tryz.call85 [.slice (some ⟨bq,oq + 5,none⟩) 25 (cv - 5),.int .i64 0] rfl (hnum w' k 0 (by decide)) ?_
       rintro e w2 ⟨rfl,rfl⟩
       exact ⟨_,rfl,hK _ _ (⟨by rw [← uh Hm0],k,al⟩)⟩) (by
       rintro u1 u3 w' ⟨rfl,rfl,k⟩ K hK
       refine xa0f rfl Tryz.call85 [.slice (some ⟨bq,oq + 5,none⟩) 25 (cv - 5),.int .i64 2] rfl (hnum w' k 2 (by decide)) ?_
       rintro e w2 ⟨rfl,rfl⟩
       exact ⟨_,rfl,hK _ _ (⟨rfl,rfl,by rw [← uh Hm2],k⟩)⟩) (by
       rintro u1 u3 w' ⟨rfl,rfl,k⟩ K hK
       exact xa1p rfl (hK _ _ ⟨rfl,rfl,k.alloc _,xb0i k⟩)) (by
       rintro u1 u11 w' ⟨rfl,k,al⟩ K hK
       refine xa0f rfl Tryz.call85 [.slice (some ⟨bq,oq + 5,none⟩) 25 (cv - 5),.int .i64 1] rfl (hnum w' k 1 (by decide)) ?_
       rintro e w2 ⟨rfl,rfl⟩
       exact ⟨_,rfl,hK _ _ (⟨rfl,by rw [← uh Hm1],k,al⟩)⟩) (by
       rintro u1 u3 u5 w' ⟨rfl,rfl,rfl,k⟩ K hK
       exact xa1p rfl (hK _ _ ⟨rfl,rfl,rfl,k.alloc _,xb0i k⟩)) (by
       rintro u1 u3 u11 w' ⟨rfl,rfl,k,al⟩ K hK
       refine xa0f rfl Tryz.call85 [.slice (some ⟨bq,oq + 5,none⟩) 25 (cv - 5),.int .i64 2] rfl (hnum w' k 2 (by decide)) ?_
       rintro e w2 ⟨rfl,rfl⟩
       exact ⟨_,rfl,hK _ _ (⟨rfl,rfl,by rw [← uh Hm2],k,al⟩)⟩)
      (by
       rintro u1 u3 u5 u11 w' ⟨rfl,rfl,rfl,k,g,rfl,hg,hh⟩ K hK
       simp only [Act.put,sa1,sa2,sa3] at hK ⊢
       have hk2:=hK undef _ ⟨trivial,trivial,trivial,Kept.setRow k (Or.inr hg) #[.int .u64 (m0:Int),.int .u64 (m1:Int),.int .u64 (m2:Int),.int .i64 (wz:Int)],g,rfl,hg,setRow_heap _ _ _ _ _ _ hh⟩
       clear hK
       exact wp_store_row 53 (.tmp 10) (.tmp 47) rfl g #[.int .u64 (m0:Int),.int .u64 (m1:Int),.int .u64 (m2:Int),.int .i64 (wz:Int)] rfl rfl 53 #[.int .u64 0,.int .u64 0,.int .u64 0,.int .i64 0] hh Tryz.size_head rfl (by simp [Value.oneCell']) hk2)
      (by rintro u1 u3 u5 w' ⟨rfl,rfl,rfl,k⟩; exact Or.inl ⟨by rfl,fun W' hW'=>by go_simp⟩)
      (by rintro u1 u3 u5 u11 w' ⟨rfl,rfl,rfl,k,al⟩; exact Or.inl ⟨by rfl,fun W' hW'=>by go_simp⟩)
      ?_
     rintro u1 u3 u5 u11 u12 w5 ⟨rfl,rfl,rfl,k5,g,rfl,hg,hh⟩
     simp only [Act.put,sa1,sa2,sa3]
     have HGK:=hide (k5.heap (uh HF3) (by simp))
     have HZ5:=hide (k5.heap (uh HZ3) (by simp))
     have HK5:=hide ((uh HKW3).trans k5 (by simp))
     have HG5:=hide hh
     have hgn:w.heap.size≠g:=by
      have:=(uh HKW3).size; have:=lt_of_block (uh HZ3); omega
     have HGN:=hide hgn
     clear k5 hh hgn hg d0 d1 d2 d3 f0 f1 f2 f3 hnum HK3 HR3 HZ3 HF3 HKW3 HNW3
     obtain ⟨d0,d1,d2,d3⟩:=hcells (uh HZ5)
     obtain ⟨f0,f1,f2,f3⟩:=hfroz (uh HZ5)
     obtain ⟨x0,x1,x2,x3⟩:=hcells (uh HG5)
     have g0:w5.cell? ⟨w1.heap.size,0,none⟩ = some (.int .u64 (pl:Int)):=by rw [cell_of_row _ _ _ _ _ _ (uh HGK)]; rfl
     by_cases hpm:m0 = pl
     ·have hne:((m0:Int) != (pl:Int)) = false:=by simp [hpm]
      go_wp2_with fail
      refine Calls.mono (xa3f (wz:Int) _) ?_
      rintro e w6 ⟨rfl,hw6⟩
      subst w6
      have HWD:=hide (by unfold wideB; simp only [decide_eq_decide]; omega:wideB (wz:Int) = decide (1≤wz∧wz≤32))
      by_cases hwd:wideB (wz:Int) = true
      ·rw [hwd]
       have HV:=hide (uh HYE _ (by rw [uh HHF2,if_pos (by rw [uh HPH]; rw [uh HWD] at hwd; simpa [hpm] using hwd)]))
       go_wp2
       refine bodyPost_ret (v:=.tuple #[.agg #[.int .u64 (pl:Int),.int .u64 (m1:Int),.int .u64 (m2:Int),.int .i64 (wz:Int)],.int .i64 48,.bool true]) ?_ rfl ⟨by rw [(uh HV).1,(uh HV).2.1,(uh HV).2.2,hpm]; rfl,xa2a (uh HK5) w.heap.size (Nat.le_refl _) _ _ _ _⟩
       exact xa0a rfl _ _ w.heap.size _ #[.int .u64 (pl:Int),.int .u64 (m1:Int),.int .u64 (m2:Int),.int .i64 (wz:Int)] (0,0) _ rfl (xa2c (uh HZ5) _ _ _ _) Tryz.underlying53 rfl Tryz.size_head _ _ rfl rfl
      ·rw [Bool.not_eq_true] at hwd
       rw [hwd]
       have HV:=hide (uh HNO (by rw [uh HHF2,if_neg (by rw [uh HPH]; rw [uh HWD] at hwd; simpa [hpm] using hwd)]))
       go_wp2
       refine bodyPost_ret (v:=.tuple #[.agg #[.int .u64 0,.int .u64 0,.int .u64 0,.int .i64 0],.int .i64 0,.bool false]) ?_ rfl ⟨by rw [(uh HV).1,(uh HV).2.1,(uh HV).2.2]; rfl,xa2a (uh HK5) w.heap.size (Nat.le_refl _) _ _ _ _⟩
       exact xa0a rfl _ _ w.heap.size _ #[.int .u64 0,.int .u64 0,.int .u64 0,.int .i64 0] (0,0) _ rfl (xa2c (uh HZ5) _ _ _ _) Tryz.underlying53 rfl Tryz.size_head _ _ rfl rfl
     ·have hne:((m0:Int) != (pl:Int)) = true:=by rw [bne_iff_ne]; omega
      have HV:=hide (uh HNO (by rw [uh HHF2,if_neg (by rw [uh HPH]; simp [hpm])]))
      go_wp2
      refine bodyPost_ret (v:=.tuple #[.agg #[.int .u64 0,.int .u64 0,.int .u64 0,.int .i64 0],.int .i64 0,.bool false]) ?_ rfl ⟨by rw [(uh HV).1,(uh HV).2.1,(uh HV).2.2]; rfl,xa2a (uh HK5) w.heap.size (Nat.le_refl _) _ _ _ _⟩
      exact xa0a rfl _ _ w.heap.size _ #[.int .u64 0,.int .u64 0,.int .u64 0,.int .i64 0] (0,0) _ rfl (xa2c (uh HZ5) _ _ _ _) Tryz.underlying53 rfl Tryz.size_head _ _ rfl rfl
    ·simp only [List.length_cons,List.length_nil,Nat.zero_add,Nat.reduceAdd,hpre,if_false,decide_false]
     have HV:=hide (uh HNO (by rw [uh HHF,if_neg]; simp [payH,hpre]))
     go_wp2
     refine bodyPost_ret (v:=.tuple #[.agg #[.int .u64 0,.int .u64 0,.int .u64 0,.int .i64 0],.int .i64 0,.bool false]) ?_ rfl ⟨by rw [(uh HV).1,(uh HV).2.1,(uh HV).2.2]; rfl,xa2a (uh HKW3) w.heap.size (Nat.le_refl _) _ _ _ _⟩
     exact xa0a rfl _ _ w.heap.size _ #[.int .u64 0,.int .u64 0,.int .u64 0,.int .i64 0] (0,0) _ rfl (xa2c (uh HZ3) _ _ _ _) Tryz.underlying53 rfl Tryz.size_head _ _ rfl rfl
   ·have hl30':((pay.length:Int) != 30) = true:=by rw [bne_iff_ne]; omega
    have HV:=hide (uh HNO (by rw [uh HHF,if_neg]; simp [payH,hl30]))
    rw [← uh HW1] at d0 d1 d2 d3 f0 f1 f2 f3 g0 g1
    go_wp2
    rw [uh HW1]
    refine bodyPost_ret (v:=.tuple #[.agg #[.int .u64 0,.int .u64 0,.int .u64 0,.int .i64 0],.int .i64 0,.bool false]) ?_ rfl ⟨by rw [(uh HV).1,(uh HV).2.1,(uh HV).2.2]; rfl,xa2a (uh HKW) w.heap.size (Nat.le_refl _) _ _ _ _⟩
    exact xa0a rfl _ _ w.heap.size _ #[.int .u64 0,.int .u64 0,.int .u64 0,.int .i64 0] (0,0) _ rfl (xa2c (uh HZW) _ _ _ _) Tryz.underlying53 rfl Tryz.size_head _ _ rfl rfl
 ·have hkd':(((nextF p 0).kind:Int) != 1) = true:=by rw [bne_iff_ne]; omega
  have HV:=hide (uh HNO (uh HNK hkd))
  clear hcase
  rw [← uh HW1] at d0 d1 d2 d3 f0 f1 f2 f3 g0 g1
  go_wp2
  rw [uh HW1]
  refine bodyPost_ret (v:=.tuple #[.agg #[.int .u64 0,.int .u64 0,.int .u64 0,.int .i64 0],.int .i64 0,.bool false]) ?_ rfl ⟨by rw [(uh HV).1,(uh HV).2.1,(uh HV).2.2]; rfl,xa2a (uh HKW) w.heap.size (Nat.le_refl _) _ _ _ _⟩
  exact xa0a rfl _ _ w.heap.size _ #[.int .u64 0,.int .u64 0,.int .u64 0,.int .i64 0] (0,0) _ rfl (xa2c (uh HZW) _ _ _ _) Tryz.underlying53 rfl Tryz.size_head _ _ rfl rfl
end
end Go.Proofs.YtkolfhgbojenjaaGreatDoor
