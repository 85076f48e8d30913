import Derived.Test.YtiopaaeejppnnaaGreatDoorTopC
namespace Go.Proofs.YtiopaaeejppnnaaGreatDoor
set_option linter.unusedVariables false
set_option linter.unusedSimpArgs false
set_option maxRecDepth 100000
section
open Go.RowKit Go.BigFrame
theorem ChL.app {Q:Exit→Act→World→Prop} {S:World→Prop} {F:Act→World→Prop} {cs:List Oper} {o:Oper} {a:Act} (T e:Nat) (s x:Operand)
    (ho:o.op = .call { callee:=.builtin .append,args:=#[s,x],argTypes:=#[T,T] }) (hty:o.type = T)
    (w:World) (base:Nat) (z:Value) (sz bytes:Nat) (hu:Tryz.prog.underlying T = some (.slice e)) (hinf:(Tryz.prog.info? e).map (fun i=>(i.zero,i.size,i.bytes)) = some (some z,sz,bytes)) (hzs:z.cells.size = sz) (hs0:0 < sz)
    (v:Value) (n:Nat) (xs:List Value) (h:w.ownsRow base e sz v n xs) (ao:Option Addr) (m c:Nat) (rows:List (List Value)) (hr:RdC sz w (.slice ao m c) rows) (hs:∀ r∈rows,r.length = sz) (hone:∀ r∈rows,∀ u∈r,u.oneCell' = true)
    (hl:(n + m) * bytes≤140737488355328) (hl2:n + m≤1000000000000) (hb:base≤w.heap.size) (he:a.eval s = v) (hx:a.eval x = .slice ao m c)
    (hK:∀ ao' cap' w1,Hid (w1.ownsRow base e sz (.slice ao' (n + m) cap') (n + m) (xs++rows.flatten))→Hid (w.grownBy w1 v.ownBlock)→Hid ((Value.slice ao' (n + m) cap').ownBlock = v.ownBlock∨(Value.slice ao' (n + m) cap').ownBlock = some w.heap.size) →
      S w1∧ChL Tryz.prog Q S F cs (a.put o.dst (.slice ao' (n + m) cap')) w1):ChL Tryz.prog Q S F (o :: cs) a w:=by
  obtain ⟨ao',cap',w1,hrun,h2,h3,h4⟩:=appendC w base T e z sz bytes hu hinf hzs hs0 v n xs h ao m c rows hr hs hone hl hl2 hb
  unfold ChL
  unfold Oper.wp execOp
  simp only [ho,hty,resolve,invoke,builtin,Sem.run_bind,Sem.run_pure,Result.andThen_ok,List.map_toArray,List.map_cons,List.map_nil,he,hx,hrun]
  exact hK ao' cap' w1 h2 h3 h4
theorem PR.shrink {S:Nat→Prop} {W:World} {l:List VP} {L:Prs} (h:PR S W l L):PR (lowS S W) W l L:=⟨h.1,fun i hi=>(h.2 i hi).shrink⟩
theorem PR.mono {S T:Nat→Prop} {W:World} {l:List VP} {L:Prs} (hs:∀ x,T x→S x) (h:PR T W l L):PR S W l L:=⟨h.1,fun i hi=>(h.2 i hi).mono hs⟩
def tB (B:Nat) (v:Value):Nat→Prop:=fun y=>B≤y∧v.ownBlock≠some y
structure LayAt (B:Nat) (w:World) (v:Value) (l:List VP) (L:Prs):Prop where
  own:w.ownsRow B 32 2 v l.length (kvR l).flatten
  pr:PR (tB B v) w l L
theorem LayAt.agr {B:Nat} {w w':World} {v:Value} {l:List VP} {L:Prs} (h:LayAt B w v l L) (k:Kept [] w w'):LayAt B w' v l L:=⟨k.owns h.own (by simp),h.pr.agr (Agr.nil k)⟩
theorem LayAt.nil (B:Nat) (w:World):LayAt B w (.slice none 0 0) [] []:=⟨World.ownsRow_nil _ _ _ _,PR.nil _ _⟩
theorem LayAt.snoc {B:Nat} {w w1:World} {v v':Value} {l:List VP} {L:Prs} {kz vz:Value} {a b:List Nat} (h:LayAt B w v l L) (hk:Rd w kz a) (hv:Rd w vz b) (hkb:∀ x∈blk kz,tB B v x) (hvb:∀ x∈blk vz,tB B v x)
    (ho:w1.ownsRow B 32 2 v' (l.length + 1) ((kvR l).flatten++(kvR [(kz,vz)]).flatten)) (hg:w.grownBy w1 v.ownBlock) (hb:v'.ownBlock = v.ownBlock∨v'.ownBlock = some w.heap.size):LayAt B w1 v' (l++[(kz,vz)]) (L++[(a,b)]):=by
  have hp:=(h.pr.app (PR.one (Sty.rd hk hkb) (Sty.rd hv hvb))).shrink
  have hK:=(Kept.refl v.ownBlock.toList w).grown hg (by intro x hx; left; simp [hx])
  have ha:Agr (lowS (tB B v) w) w w1:=⟨hK.size,fun x hx hl=>hK.block x hl (by
    intro hm
    have:v.ownBlock = some x:=by simpa using hm
    exact hx.1.2 this)⟩
  refine ⟨?_,(hp.agr ha).mono (fun x hx=>⟨hx.1.1,?_⟩)⟩
  · rw [List.length_append,xb5x,List.flatten_append]; exact ho
  · rcases hb with e | e
    · rw [e]; exact hx.1.2
    · rw [e]; intro e2; have h2:=hx.2; injection e2 with e3; omega
theorem xb6g {o:Oper} {a:Act} (w:World) {x y:Operand} {X1 Y1:Option Addr} {X2 X3 Y2 Y3:Nat} (ho:o.op = .build 32 #[(0,x),(1,y)]∧a.eval x = .slice X1 X2 X3∧a.eval y = .slice Y1 Y2 Y3):(execOp a.eval o).run Tryz.prog w = .ok (.value (.agg #[.slice X1 X2 X3,.slice Y1 Y2 Y3])) w:=by
  obtain ⟨h0,h1,h2⟩:=ho
  have hb:=run_build (P:=Tryz.prog) w 32 #[(0,.slice X1 X2 X3),(1,.slice Y1 Y2 Y3)] _ (xa8a undef undef)
  unfold execOp
  simp only [h0,List.map_toArray,List.map_cons,List.map_nil,h1,h2,Sem.run_bind,hb,Result.andThen_ok]
  rfl
set_option maxHeartbeats 4000000 in
theorem xb9k (S:Nat→Prop) (k g:Nat) (E L:Prs) (lv:Value) (l:List VP) (W0 w:World) (hb:BkAt S (hsZ k) W0 g E) (hk0:Kept [] W0 w) (hl:LayAt W0.heap.size w lv l L) (hn:L.length + E.length≤1000000000) :
    Calls Tryz.prog 48 #[.pointer (some ⟨g,0,none⟩),lv] w fun e w'=>∃ v' l',e = .returned v'∧LayAt W0.heap.size w' v' l' (L++E)∧Kept [] W0 w':=by
  obtain ⟨pv,hSg,hh,hne,hkr⟩:=hb
  have hkd:((hsZ k).kd (E.headD ([],[])).1).length = 32:=xa0h _ _
  have c1:=(bk_row hh hkd).2.1
  obtain ⟨b,off,cap,le,rfl,hc1,hc2,hSb,hle,hcells,hrds⟩:=hkr
  have HC1:=hide c1
  have c1a:=hk0.cell c1 (by simp)
  have HCE:=hide hcells
  have HRD:=hide (fun i (hi:i < le.length)=>(hrds i hi).now)
  obtain ⟨n,hnn⟩:∃ n,le.length = n:=⟨_,rfl⟩
  rw [hnn] at hle hc1 HC1 HCE HRD c1a
  have HLE:=hide hle
  have HKW:=hide hk0
  have HLY:=hide hl
  rw [← hle] at hn
  clear hcells hrds hh hkd c1 hl hk0 hnn hle hne
  go_enter Tryz.func48,Tryz.ntmps48
  go_wp2
  go_loopw [1,12] (fun t1 t12 wr=>∃ (i:Nat) (v:Value) (lx:List VP),t12 = .int .i64 i∧t1 = v∧i≤n∧Hid (LayAt W0.heap.size wr v lx (L++E.take i))∧Hid (Kept [] W0 wr)) (fun _ t _=>n - (intOf t).toNat)
  case atStart=>exact ⟨0,lv,l,rfl,rfl,Nat.zero_le _,hide (by rw [List.take_zero,List.append_nil]; exact uh HLY),HKW⟩
  case round =>
    clear HLY HKW c1a
    obtain ⟨i,v,lx,rfl,rfl,hi,HLx,HKr⟩:=hrel
    by_cases hlt:i < n
    · have hlt':(i:Int) < n:=by omega
      obtain ⟨hx1,hx2⟩:=uh HCE i hlt
      obtain ⟨hr1,hr2⟩:=uh HRD i hlt
      generalize (le.getD i (undef,undef)).1 = kx at hx1 hr1
      generalize (le.getD i (undef,undef)).2 = vx at hx2 hr2
      have hEi:E.take (i + 1) = E.take i++[E.getD i ([],[])]:=by
        have hiE:i < E.length:=by have:=uh HLE; omega
        rw [List.take_succ_eq_append_getElem hiE,List.getD_eq_getElem?_getD,List.getElem?_eq_getElem hiE]; rfl
      have HEi:=hide hEi
      clear hEi
      generalize E.getD i ([],[]) = ei at hr1 hr2 HEi
      obtain ⟨ka,kb⟩:=ei
      obtain ⟨x1,x2,x3,rfl,_⟩:=id hr1
      obtain ⟨y1,y2,y3,rfl,_⟩:=id hr2
      have hlx:=(uh HLx).pr.1
      rw [List.length_append,List.length_take] at hlx
      have HLX:=hide hlx
      clear hlx
      obtain ⟨vo,vc,rfl⟩:=xa0i (uh HLx).own
      have hm1:=(uh HKr).cell hx1 (by simp)
      have hm2:=(uh HKr).cell hx2 (by simp)
      have HRG:=hide (show wr.rangeAt b (off + i * 2) [.slice x1 x2 x3,.slice y1 y2 y3] from fun j u hj=>by
        match j,hj with
        | 0,hj=>rw [Nat.add_zero,hm1]; exact hj
        | 1,hj=>rw [hm2]; exact hj)
      have HP2:=hide (heap_alloc_new wr (.cells #[.slice x1 x2 x3,.slice y1 y2 y3] 32))
      have HK2:=hide ((Kept.refl [] wr).alloc (.cells #[.slice x1 x2 x3,.slice y1 y2 y3] 32))
      have hws:(wr.alloc (.cells #[.slice x1 x2 x3,.slice y1 y2 y3] 32)).heap.size = wr.heap.size + 1:=by simp
      have hown:∀ y,(Value.slice vo lx.length vc).ownBlock = some y→W0.heap.size≤y∧y < wr.heap.size:=fun y hy=>(uh HLx).own.lt y hy
      have HR1:=hide hr1
      have HR2:=hide hr2
      clear hx1 hx2 hr1 hr2 hm1 hm2
      go_upto_region 4 with (refine wpList_load_mid rfl 32 (.tmp 14) rfl b (off + i * 2) rfl [.slice x1 x2 x3,.slice y1 y2 y3] _ (uh HRG) Tryz.underlying32 rfl Tryz.size_pair ?_)
      try simp only [Act.put]
      generalize wr.alloc (.cells #[.slice x1 x2 x3,.slice y1 y2 y3] 32) = W2 at HP2 HK2 hws ⊢
      have hcp:=xa0l [] [.slice x1 x2 x3,.slice y1 y2 y3] [] (uh HP2) rfl
      have HQ1:=hide (show W2.cell? ⟨wr.heap.size,0,none⟩ = some (.slice x1 x2 x3) from hcp 0 _ rfl)
      have HQ2:=hide (show W2.cell? ⟨wr.heap.size,1,none⟩ = some (.slice y1 y2 y3) from hcp 1 _ rfl)
      have hno:wr.heap.size∉(Value.slice vo lx.length vc).ownBlock.toList:=by
        intro hm
        have:=hown _ (by simpa using hm)
        omega
      obtain ⟨OB,hOB⟩:∃ OB,(Value.slice vo lx.length vc).ownBlock = OB:=⟨_,rfl⟩
      rw [hOB] at hno hown
      refine ln_ly (by kernel_rfl) (by kernel_rfl) rfl (fun W=>Kept OB.toList W2 W) (Kept.refl _ W2).drew ?_
      refine LinY.mv (x:=.tmp 1) rfl (.slice vo lx.length vc) rfl (by simp only [Act.put,sa1,sa2,sa3]; rfl) ?_
      refine LinY.rd (.pointer (some ⟨wr.heap.size,0,none⟩)) (fun W hW=>by go_simp) (by simp only [Act.put,sa1,sa2,sa3]; rfl) ?_
      refine LinY.rd (.slice x1 x2 x3) (fun W hW=>by have h9:=hW.cell (uh HQ1) hno; go_simp) (by simp only [Act.put,sa1,sa2,sa3]; rfl) ?_
      refine LinY.rd (.pointer (some ⟨wr.heap.size,1,none⟩)) (fun W hW=>by go_simp) (by simp only [Act.put,sa1,sa2,sa3]; rfl) ?_
      refine LinY.rd (.slice y1 y2 y3) (fun W hW=>by have h9:=hW.cell (uh HQ2) hno; go_simp) (by simp only [Act.put,sa1,sa2,sa3]; rfl) ?_
      have hd2:=(Kept.refl [] W2).drew
      have hk02:=(uh HKr).trans ((uh HK2).trans hd2 (by simp)) (by simp)
      have hsz:wr.heap.size < W2.drew.heap.size:=by have:=hd2.size; omega
      have HLd:=hide ((uh HLx).agr ((uh HK2).trans hd2 (by simp)))
      obtain ⟨W3,hW3⟩:∃ W3,W2.drew = W3:=⟨_,rfl⟩
      rw [hW3] at hd2 hk02 hsz HLd ⊢
      refine ChL.call rfl Tryz.call41 [.slice x1 x2 x3] rfl (xa1n _ ka W3 ((uh HR1).old hk02 (by simp))) ?_
      rintro e w4 ⟨⟨kz,rfl,hA,hAb⟩,k4⟩
      have hk4:=hd2.trans k4 (by simp)
      refine ⟨_,rfl,hk4.mono (by simp),?_⟩
      simp only [Act.put,sa1,sa2,sa3]
      refine ChL.call rfl Tryz.call41 [.slice y1 y2 y3] rfl (xa1n _ kb w4 ((uh HR2).old (hk02.trans k4 (by simp)) (by simp))) ?_
      rintro e w5 ⟨⟨vz,rfl,hB,hBb⟩,k5⟩
      have hk5:=hk4.trans k5 (by simp)
      refine ⟨_,rfl,hk5.mono (by simp),?_⟩
      simp only [Act.put,sa1,sa2,sa3]
      have hA5:=hA.old k5 (by simp)
      have hz4:=k4.size
      obtain ⟨p1,p2,p3,rfl,_⟩:=id hA5
      obtain ⟨q1,q2,q3,rfl,_⟩:=id hB
      refine ChL.op (.agg #[.slice p1 p2 p3,.slice q1 q2 q3]) (xb6g w5 ⟨rfl,rfl,rfl⟩) (hk5.mono (by simp)) (by simp only [Act.put,sa1,sa2,sa3]; rfl) ?_
      have hka:=(Kept.refl [] w5).alloc (.cells #[.slice p1 p2 p3,.slice q1 q2 q3] 32)
      have hk6:=hk5.trans hka (by simp)
      refine ChL.op (.slice (some ⟨w5.heap.size,0,none⟩) 1 1) (xa9h w5 (.tmp 23) rfl _ _ rfl) (hk6.mono (by simp)) (by simp only [Act.put,sa1,sa2,sa3]; rfl) ?_
      have hrl:RdC 2 (w5.alloc (.cells #[.slice p1 p2 p3,.slice q1 q2 q3] 32)) (.slice (some ⟨w5.heap.size,0,none⟩) 1 1) (kvR [(.slice p1 p2 p3,.slice q1 q2 q3)]):=⟨_,1,1,rfl,rfl,Nat.le_refl _,by omega,fun _=>⟨w5.heap.size,0,rfl,fun j hj=>by
        have h0:j = 0:=by rw [xa0w] at hj; simp at hj; omega
        subst h0
        exact xa0l [] [.slice p1 p2 p3,.slice q1 q2 q3] [] (heap_alloc_new w5 _) rfl⟩⟩
      have hly:=((uh HLd).agr ((k4.trans k5 (by simp)).trans hka (by simp)))
      have hk06:=hk02.trans ((k4.trans k5 (by simp)).trans hka (by simp)) (by simp)
      refine ChL.app 22 32 (.tmp 16) (.tmp 24) rfl rfl _ W0.heap.size (.agg #[.slice none 0 0,.slice none 0 0]) 2 48 Tryz.underlying22 Tryz.infoQ rfl (by decide) (.slice vo lx.length vc) lx.length (kvR lx).flatten hly.own (some ⟨w5.heap.size,0,none⟩) 1 1 (kvR [(.slice p1 p2 p3,.slice q1 q2 q3)]) hrl (by intro r hr; simp [kvR] at hr; rw [hr]; rfl) (by intro r hr u hu; simp [kvR] at hr; rw [hr] at hu; simp at hu; rcases hu with rfl | rfl <;> rfl) (by have:=uh HLX; omega) (by have:=uh HLX; omega) hk06.size rfl rfl ?_
      intro ao7 c7 w7 HO7 HG7 HA7
      have hg7:=uh HG7
      rw [hOB] at hg7
      have hk7:=(Kept.refl OB.toList _).grown hg7 (by intro x hx; left; simp [hx])
      have hk27:=(hk6.mono (M:=OB.toList) (by simp)).trans hk7 (fun x hx=>Or.inl hx)
      refine ⟨hk27,?_⟩
      simp only [Act.put,sa1,sa2,sa3]
      refine ChL.op (.slice ao7 (lx.length + 1) c7) (by go_simp) hk27 (by simp only [Act.put,sa1,sa2,sa3]; rfl) (ChL.fin ?_)
      have hsn:=hly.snoc (hA5.old hka (by simp)) (hB.old hka (by simp)) (fun x hx=>⟨by have:=hAb x hx; have:=hk02.size; omega,fun e=>by rw [hOB] at e; have:=(hown x e).2; have:=hAb x hx; omega⟩) (fun x hx=>⟨by have:=hBb x hx; have:=hk02.size; omega,fun e=>by rw [hOB] at e; have:=(hown x e).2; have:=hBb x hx; omega⟩) (uh HO7) (uh HG7) (uh HA7)
      have hk07:=hk06.grown (uh HG7) (fun x hx=>Or.inr (by rw [hOB] at hx; exact (hown x hx).1))
      have HSN:=hide hsn
      have HK7:=hide hk07
      clear hsn hk07 hk27 hk7 hk6 hk06 hly hrl hA hB hA5 k4 k5 hka
      go_wp2
      refine ⟨⟨i + 1,.slice ao7 (lx.length + 1) c7,_,by go_num,rfl,hlt,hide (by rw [uh HEi,← List.append_assoc]; exact uh HSN),HK7⟩,?_⟩
      simp [intOf]; omega
    · have hie:i = n:=by omega
      subst hie
      have hlt':¬ (i:Int) < i:=by omega
      go_wp2
      go_ret
      have h9:=uh HLx
      rw [List.take_of_length_le (by have:=uh HLE; omega)] at h9
      first | exact ⟨_,rfl,⟨lx,h9⟩,uh HKr⟩ | exact ⟨_,lx,rfl,h9,uh HKr⟩
theorem xc3m {H:Hs} {d i:Nat} {L:Prs} (h:Pre H d L):Pre H (d + 1) (ch H d i L):=fun x hx y hy j hj=>by
  obtain ⟨a1,a2⟩:=(ch_mem x).1 hx
  obtain ⟨b1,b2⟩:=(ch_mem y).1 hy
  rcases Nat.lt_or_ge j d with g | g
  · exact h x a1 y b1 j g
  · rw [show j = d by omega,a2,b2]

theorem get_no {q:List Nat} {L:Prs} (h:fnd q L = false):getP q L = none:=by
  unfold fnd at h
  cases hg:getP q L with
  | none=>rfl
  | some v=>rw [hg] at h; simp at h
theorem xc1p {H:Hs} {q:List Nat} {L:Prs} (hs:Srt H L) (hr:Rise L) (h:fnd q L = true):plc q L < L.length∧getP q L = some (L.getD (plc q L) ([],[])).2:=by
  obtain ⟨h1,h2⟩:=(fnd_at hr).1 h
  refine ⟨h1,(xb8e hs).2 ?_⟩
  have h3:=List.getElem_mem h1
  rw [List.getD_eq_getElem?_getD,List.getElem?_eq_getElem h1,Option.getD_some] at h2 ⊢
  generalize L[plc q L] = x at h2 h3 ⊢
  have e:(q,x.2) = x:=by rw [← h2]
  rw [e]; exact h3
set_option maxHeartbeats 2000000 in
theorem xc3u (S:Nat→Prop) (k:Nat) (mv kv:Value) (L:Prs) (q:List Nat) (w:World) (hM:MapAt S k w mv L) (hku:Rd w kv q) (hq:q.length≤64) (hT:Tabs w) :
    Calls Tryz.prog 17 #[mv,kv] w fun e w'=>∃ v',e = .returned (.tuple #[v',.bool (fnd q L),.int .i64 0])∧Rd w' v' ((getP q L).getD [])∧(∀ x∈blk v',w.heap.size≤x)∧Kept [] w w':=by
  have HM:=hide hM
  obtain ⟨hk,hs,hfit,hlen,g,tv,rfl,hSg,hh,htop⟩:=hM
  have hH:=hsZ_ok hk
  have HKU:=hide hku
  have HTb:=hide hT
  have HSr:=hide hs
  clear hh htop hT hs hku hfit hSg
  go_enter Tryz.func17,Tryz.ntmps17
  go_wp2_with fail
  refine Calls.mono (xa3j S k _ kv L q w (uh HM) (uh HKU) hq (uh HTb)) ?_
  rintro e w1 ⟨m,cr,en,pl,fd,rfl,hway,k1⟩
  have hfd:=hway.fd
  have HFd:=hide hfd
  have hon:=hway.cells
  have hend:=hway.en
  have hgt:=dn_get (H:=hsZ k) (q:=q) (L:=L) m
  have hMs:=dn_srt (q:=q) (uh HSr) m
  have hDl:((hsZ k).kd q).length = 32:=(hH.dg q).1
  obtain ⟨D,hD⟩:∃ D,(hsZ k).kd q = D:=⟨_,rfl⟩
  rw [hD] at hDl ⊢
  clear hD hfd hway
  generalize dnL (hsZ k) q L m = M at hend hgt hMs
  have hws:((wayC k D cr en pl fd).toArray).size = 37:=by rw [List.size_toArray,xa1p hDl]
  have HZ1:=hide (heap_alloc_new w1 (.cells zwy 88))
  have HN2:=hide (setRow_heap _ _ _ (wayC k D cr en pl fd).toArray _ _ (uh HZ1))
  have HK12:=hide ((Kept.refl [] w1).alloc (.cells zwy 88) |>.setRow (g:=w1.heap.size) (Or.inr (Nat.le_refl _)) (wayC k D cr en pl fd).toArray)
  have HK2:=hide (k1.trans (uh HK12) (by simp))
  have hw1:=k1.size
  clear k1
  obtain ⟨W2,hW2⟩:∃ W2,(w1.alloc (.cells zwy 88)).setRow w1.heap.size (wayC k D cr en pl fd).toArray = W2:=⟨_,rfl⟩
  rw [hW2] at HN2 HK12 HK2
  obtain ⟨cw0,cw1,cw2,cw3,cw4,cw5⟩:=xa0x (uh HN2) hDl
  have HW3:=hide cw3
  have HW4:=hide cw4
  clear cw0 cw1 cw2 cw3 cw4
  cases fd with
  | false =>
    go_wp2_with (rw [xa2t]; refine wpList_store_row rfl 88 (.tmp 7) (.tmp 13) rfl w1.heap.size (wayC k D cr en pl false).toArray rfl rfl _ zwy (uh HZ1) (by rw [hws]; exact Tryz.size_way) (by rw [hws]; rfl) (xa1l _ _ hon.1 hon.2) ?_; rw [hW2]; simp only [Act.put])
    go_ret3
    refine ⟨.slice none 0 0,by rw [← uh HFd]; rfl,?_,by simp [blk],uh HK2⟩
    rw [get_no (uh HFd).symm]
    exact Rd.nil _
  | true =>
    rcases hend with ⟨_,_,_,hx⟩ | ⟨hsg,g1,rfl,hb,hpl,hfd⟩
    · cases hx
    have hris:=xa6p hMs hsg
    obtain ⟨hp1,hp2⟩:=xc1p hMs hris hfd.symm
    rw [← hpl] at hp1 hp2
    obtain ⟨pv,hSg1,hh1,hne,hkr⟩:=hb
    have hkd:((hsZ k).kd (M.headD ([],[])).1).length = 32:=xa0h _ _
    have c1:=(bk_row hh1 hkd).2.1
    obtain ⟨b,off,cap,l,rfl,hc1,hc2,hSb,hll,hcells,hrds⟩:=hkr
    have hcv:=(hcells pl (by omega)).2
    have hrv:=(hrds pl (by omega)).now.2
    have hgl:(getP q L).getD [] = (M.getD pl ([],[])).2:=by rw [← hgt,hp2]; rfl
    have HGL:=hide hgl
    generalize (M.getD pl ([],[])).2 = val at hrv hgl HGL
    generalize (l.getD pl (undef,undef)).2 = vz at hcv hrv
    obtain ⟨za,zn,zc,rfl,_⟩:=id hrv
    have hpn:pl < l.length:=by omega
    have hpi:(pl:Int) < (l.length:Int):=by omega
    generalize l.length = n at hc1 hpn hpi c1
    have HC1:=hide ((uh HK12).cell c1 (by simp))
    have HCV:=hide ((uh HK12).cell hcv (by simp))
    have HRV:=hide (hrv.old (uh HK12) (by simp))
    clear hcells hrds hcv hrv c1 hh1 hp2 hgt hgl hfd hpl hsg hris hMs hne
    go_upto_region 4 with (rw [xa2t]; refine wpList_store_row rfl 88 (.tmp 7) (.tmp 13) rfl w1.heap.size (wayC k D cr (.pointer (some ⟨g1,0,none⟩)) pl true).toArray rfl rfl _ zwy (uh HZ1) (by rw [hws]; exact Tryz.size_way) (by rw [hws]; rfl) (xa1l _ _ hon.1 hon.2) ?_; rw [hW2]; simp only [Act.put])
    refine ln_gt (by kernel_rfl) (by kernel_rfl) rfl (fun W=>Kept [] W2 W) (Kept.refl _ W2).drew ?_
    refine LinY.rd (.pointer (some ⟨w1.heap.size,34,none⟩)) (fun W hW=>by go_simp) (by simp only [Act.put,sa1,sa2,sa3]; rfl) ?_
    refine LinY.rd (.pointer (some ⟨g1,0,none⟩)) (fun W hW=>by have h9:=hW.cell (uh HW3) (by simp); go_simp) (by simp only [Act.put,sa1,sa2,sa3]; rfl) ?_
    refine LinY.rd (.pointer (some ⟨g1,0,none⟩)) (fun W hW=>by go_simp) (by simp only [Act.put,sa1,sa2,sa3]; rfl) ?_
    refine LinY.rd (.pointer (some ⟨g1,32,none⟩)) (fun W hW=>by go_simp) (by simp only [Act.put,sa1,sa2,sa3]; rfl) ?_
    refine LinY.rd (.slice (some ⟨b,off,none⟩) n cap) (fun W hW=>by have h9:=hW.cell (uh HC1) (by simp); go_simp) (by simp only [Act.put,sa1,sa2,sa3]; rfl) ?_
    refine LinY.rd (.pointer (some ⟨w1.heap.size,35,none⟩)) (fun W hW=>by go_simp) (by simp only [Act.put,sa1,sa2,sa3]; rfl) ?_
    refine LinY.rd (.int .i64 pl) (fun W hW=>by have h9:=hW.cell (uh HW4) (by simp); go_simp) (by simp only [Act.put,sa1,sa2,sa3]; rfl) ?_
    refine LinY.rd (.pointer (some ⟨b,off + pl * 2,none⟩)) (fun W hW=>by go_simp) (by simp only [Act.put,sa1,sa2,sa3]; rfl) ?_
    refine LinY.rd (.pointer (some ⟨b,off + pl * 2 + 1,none⟩)) (fun W hW=>by go_simp) (by simp only [Act.put,sa1,sa2,sa3]; rfl) ?_
    refine LinY.rd (.slice za zn zc) (fun W hW=>by have h9:=hW.cell (uh HCV) (by simp); go_simp) (by simp only [Act.put,sa1,sa2,sa3]; rfl) ?_
    have hd2:=(Kept.refl [] W2).drew
    refine ChL.call rfl Tryz.call41 [.slice za zn zc] rfl (xa1n _ val W2.drew ((uh HRV).old hd2 (by simp))) ?_
    rintro e w3 ⟨⟨vz,rfl,hvz,hvb⟩,k3⟩
    have hk3:=hd2.trans k3 (by simp)
    have hk30:=(uh HK2).trans hk3 (by simp)
    have hk20:=(uh HK2).trans hd2 (by simp)
    obtain ⟨ya,yn,yc,rfl,_⟩:=id hvz
    refine ⟨_,rfl,hk3,?_⟩
    simp only [Act.put,sa1,sa2,sa3]
    refine ChL.op (.slice ya yn yc) (by go_simp) hk3 (by simp only [Act.put,sa1,sa2,sa3]; rfl) ?_
    refine ChL.op (.bool true) (by go_simp) hk3 (by simp only [Act.put,sa1,sa2,sa3]; rfl) ?_
    refine ChL.op (.int .i64 0) (by go_simp) hk3 (by simp only [Act.put,sa1,sa2,sa3]; rfl) (ChL.fin ?_)
    go_wp2
    go_ret3
    exact ⟨.slice ya yn yc,by rw [← uh HFd]; rfl,by rw [uh HGL]; exact hvz,fun x hx=>Nat.le_trans hk20.size (hvb x hx),hk30⟩
theorem xa8p (g:Nat) (kv:Value) (q:List Nat) (w:World) (hku:Rd w kv q) (hq:64 < q.length) :
    Calls Tryz.prog 40 #[.pointer (some ⟨g,0,none⟩),kv] w fun e w'=>e = .returned (.tuple #[.agg zwy,.int .i64 2])∧Kept [] w w':=by
  obtain ⟨ua,un,uc,rfl,hul,_⟩:=id hku
  have h1:(64:Int) < un:=by omega
  have h2:(un:Int) > 64:=by omega
  clear hku hul hq
  have HZ0:=hide (heap_alloc_new w (.cells zwy 88))
  have HK0:=hide ((Kept.refl [] w).alloc (.cells zwy 88))
  go_enter Tryz.func40,Tryz.ntmps40
  go_wp2_with (first
    | (refine xa0o rfl 88 _ rfl zwy (by simp only [List.map_toArray,List.map_cons,List.map_nil]; exact xb2n) ?_)
    | (rw [xa2t]; refine wpList_store_row rfl 88 _ _ rfl w.heap.size zwy rfl rfl _ zwy (uh HZ0) (by rw [xa8j]; exact Tryz.size_way) rfl (xa1l _ _ rfl rfl) ?_))
  refine bodyPost_ret (v:=.tuple #[.agg zwy,.int .i64 2]) ?_ rfl ⟨rfl,(uh HK0).setRow (Or.inr (Nat.le_refl _)) _⟩
  exact xa0e rfl _ _ w.heap.size _ zwy (0,0) _ rfl (setRow_heap _ _ _ _ _ _ (uh HZ0)) Tryz.underlying88 rfl (by rw [xa8j]; exact Tryz.size_way) _ rfl
end
section
open Go Go.RowKit Go.BigFrame
theorem ln_wa {P:Program} {Q:Exit→Act→World→Prop} {id:Nat} {o0 o1 o2 o3 o4 o5 o6 o7 o8 o9 o10 o11 o12 o13:Oper} {a:Act} {w:World} (hm:P.follows .mixedOrders = true) (hb:linB #[o0,o1,o2,o3,o4,o5,o6,o7,o8,o9,o10,o11,o12,o13] [0,1,2,3,4,5,6,7,8] [9,10,11,12,13] [] = true) (hg:([o0,o1,o2,o3,o4,o5,o6,o7,o8]++([o9,o10,o11,o12,o13]++[])).all (fun o=>o.guard.isNone) = true) (S:World→Prop) (hS:S w.drew)
    (h:LinY P S (ChL P Q S (Q .normal) [o9,o10,o11,o12,o13]) [o0,o1,o2,o3,o4,o5,o6,o7,o8] a w.drew):(Code.region id #[o0,o1,o2,o3,o4,o5,o6,o7,o8,o9,o10,o11,o12,o13] true).wp P Q a w:=xa1c (R:=[0,1,2,3,4,5,6,7,8]) (C:=[9,10,11,12,13]) (rs:=[o0,o1,o2,o3,o4,o5,o6,o7,o8]) (cs:=[o9,o10,o11,o12,o13]) hm hb rfl rfl hg hS h
end
section
open Go.RowKit Go.BigFrame
theorem LayAt.rdK {B:Nat} {w:World} {v:Value} {l:List VP} {L:Prs} (h:LayAt B w v l L):RdK w v L:=by
  obtain ⟨_,len,cap,rfl,hl,hc1,hc2,hcell⟩:=xa1z (by rw [xa0w]; exact h.own) h.pr.cell.1
  rw [xa0w] at hl
  have e1:∀ i,i < l.length→(l.map (·.1)).getD i undef = (l.getD i (undef,undef)).1∧(l.map (·.2)).getD i undef = (l.getD i (undef,undef)).2:=fun i hi=>by
    simp [List.getD_eq_getElem?_getD,List.getElem?_eq_getElem hi]
  refine ⟨_,len,cap,l.map (·.1),l.map (·.2),rfl,by rw [← hl]; exact h.pr.1.symm,hc1,hc2,fun i hi=>?_,fun h0=>?_⟩
  · rw [(e1 i (by omega)).1,(e1 i (by omega)).2]; exact (h.pr.2 i (by omega)).now
  · obtain ⟨b,off,rfl,hce⟩:=hcell h0
    refine ⟨b,off,rfl,fun i hi=>?_⟩
    have hi':i < l.length:=by omega
    have h7:=hce i (by rw [xa0w]; exact hi')
    have e:(kvR l)[i]'(by rw [xa0w]; exact hi') = [l[i].1,l[i].2]:=kvR_at _ i hi'
    rw [e] at h7
    rw [(e1 i hi').1,(e1 i hi').2]
    simp only [List.getD_eq_getElem?_getD,List.getElem?_eq_getElem hi',Option.getD_some]
    exact ⟨h7 0 _ rfl,h7 1 _ rfl⟩
abbrev Stp:=Nat × List (List Nat)
def stR (l:List (Nat × Value)):List (List Value):=l.map fun p=>[.int .u16 (p.1:Int),p.2]
structure SLay (B:Nat) (w:World) (v:Value) (l:List (Nat × Value)) (ss:List Stp):Prop where
  own:w.ownsRow B 64 2 v l.length (stR l).flatten
  len:l.length = ss.length
  pr:∀ i,i < l.length→(l.getD i (0,undef)).1 = (ss.getD i (0,[])).1∧(ss.getD i (0,[])).1 < 65536∧Sty (tB B v) w (fun w=>RdD w (l.getD i (0,undef)).2 (ss.getD i (0,[])).2)
theorem SLay.agr {B:Nat} {w w':World} {v:Value} {l:List (Nat × Value)} {ss:List Stp} (h:SLay B w v l ss) (k:Kept [] w w'):SLay B w' v l ss:=⟨k.owns h.own (by simp),h.len,fun i hi=>⟨(h.pr i hi).1,(h.pr i hi).2.1,(h.pr i hi).2.2.agr (Agr.nil k)⟩⟩
theorem SLay.nil (B:Nat) (w:World):SLay B w (.slice none 0 0) [] []:=⟨World.ownsRow_nil _ _ _ _,rfl,fun i hi=>by simp at hi⟩
theorem SLay.rdS {B:Nat} {w:World} {v:Value} {l:List (Nat × Value)} {ss:List Stp} (h:SLay B w v l ss):RdS w v ss:=by
  have hsl:(stR l).length = l.length:=by simp [stR]
  obtain ⟨_,len,cap,rfl,hl,hc1,hc2,hcell⟩:=xa1z (rows:=stR l) (by rw [hsl]; exact h.own) (by intro r hr; obtain ⟨p,_,rfl⟩:=List.mem_map.1 hr; rfl)
  rw [hsl] at hl
  have e1:∀ i,i < l.length→(l.map (·.2)).getD i undef = (l.getD i (0,undef)).2:=fun i hi=>by
    simp [List.getD_eq_getElem?_getD,List.getElem?_eq_getElem hi]
  refine ⟨_,len,cap,l.map (·.2),rfl,by rw [← hl]; exact h.len.symm,hc1,hc2,fun i hi=>?_,fun h0=>?_⟩
  · rw [e1 i (by omega)]; exact ⟨(h.pr i (by omega)).2.1,(h.pr i (by omega)).2.2.now⟩
  · obtain ⟨b,off,rfl,hce⟩:=hcell h0
    refine ⟨b,off,rfl,fun i hi=>?_⟩
    have hi':i < l.length:=by omega
    have h7:=hce i (by rw [hsl]; exact hi')
    have e:(stR l)[i]'(by rw [hsl]; exact hi') = [.int .u16 (l[i].1:Int),l[i].2]:=by simp [stR]
    rw [e] at h7
    rw [e1 i hi',← (h.pr i hi').1]
    simp only [List.getD_eq_getElem?_getD,List.getElem?_eq_getElem hi',Option.getD_some]
    exact ⟨h7 0 _ rfl,h7 1 _ rfl⟩
theorem xa5u {α:Type} (l:List α) (a d:α) (i:Nat):(l++[a]).getD i d = if i < l.length then l.getD i d else if i = l.length then a else d:=by
  simp only [List.getD_eq_getElem?_getD]
  by_cases h:i < l.length
  · rw [if_pos h,List.getElem?_append_left h]
  · rw [if_neg h,List.getElem?_append_right (by omega)]
    by_cases g:i = l.length
    · rw [if_pos g]; subst g; simp
    · rw [if_neg g,List.getElem?_eq_none (by simp; omega)]; rfl
theorem SLay.snoc {B:Nat} {w w1:World} {v v':Value} {l:List (Nat × Value)} {ss:List Stp} {x:Nat} {dv:Value} {ds:List (List Nat)} (h:SLay B w v l ss) (hx:x < 65536) (hd:Sty (tB B v) w (fun w=>RdD w dv ds))
    (ho:w1.ownsRow B 64 2 v' (l.length + 1) ((stR l).flatten++(stR [(x,dv)]).flatten)) (hg:w.grownBy w1 v.ownBlock) (hb:v'.ownBlock = v.ownBlock∨v'.ownBlock = some w.heap.size):SLay B w1 v' (l++[(x,dv)]) (ss++[(x,ds)]):=by
  have hK:=(Kept.refl v.ownBlock.toList w).grown hg (by intro x hx; left; simp [hx])
  have ha:Agr (lowS (tB B v) w) w w1:=⟨hK.size,fun x hx hl=>hK.block x hl (by
    intro hm
    have:v.ownBlock = some x:=by simpa using hm
    exact hx.1.2 this)⟩
  have hT:∀ x,lowS (tB B v) w x→tB B v' x:=fun x hx=>⟨hx.1.1,by
    rcases hb with e | e
    · rw [e]; exact hx.1.2
    · rw [e]; intro e2; have h2:=hx.2; injection e2 with e3; omega⟩
  refine ⟨?_,by rw [List.length_append,List.length_append,h.len]; rfl,fun i hi=>?_⟩
  · rw [List.length_append,show stR (l++[(x,dv)]) = stR l++stR [(x,dv)] by simp [stR],List.flatten_append]; exact ho
  · rw [List.length_append] at hi
    have hi2:i < l.length + 1:=hi
    rw [xa5u,xa5u,← h.len]
    by_cases g:i < l.length
    · rw [if_pos g,if_pos g]
      exact ⟨(h.pr i g).1,(h.pr i g).2.1,(((h.pr i g).2.2.shrink).agr ha).mono hT⟩
    · have g2:i = l.length:=by omega
      rw [if_neg g,if_neg g,if_pos g2,if_pos g2]
      exact ⟨rfl,hx,((hd.shrink).agr ha).mono hT⟩
theorem Sty.rdD {S:Nat→Prop} {W:World} {v:Value} {ds:List (List Nat)} (h:RdD W v ds) (hs:∀ x∈blk v,S x):Sty S W (fun w=>RdD w v ds):=fun w k=>by
  obtain ⟨ao,len,cap,rfl,h1,h2,h3,h4,h5⟩:=h
  refine ⟨ao,len,cap,rfl,h1,h2,h3,h4,fun hp=>?_⟩
  obtain ⟨b,off,rfl,hc⟩:=h5 hp
  exact ⟨b,off,rfl,fun i hi j u hu=>k.cell (hc i hi j u hu) (hs b (by simp [blk]))⟩
def stp (k:Nat) (q:List Nat) (L:Prs) (i:Nat):Stp:=(bm (hsZ k) i (dnL (hsZ k) q L i),(kidsL (hsZ k) i (dnL (hsZ k) q L i)).map (nodP (hsZ k) (63 - i)))
theorem Tryz.infoSt:(Tryz.prog.info? 64).map (fun i=>(i.zero,i.size,i.bytes)) = some (some (.agg #[.int .u16 0,.slice none 0 0]),2,32):=by kernel_rfl
theorem xb3p (x:Int) {X1:Option Addr} {X2 X3:Nat}:Tryz.prog.built 64 [(0,.int .u16 x),(1,.slice X1 X2 X3)] = some #[.int .u16 x,.slice X1 X2 X3]:=by kernel_rfl
theorem xb7d {o:Oper} {a:Act} (w:World) {x y:Operand} {n:Int} {X1:Option Addr} {X2 X3:Nat} (ho:o.op = .build 64 #[(0,x),(1,y)]∧a.eval x = .int .u16 n∧a.eval y = .slice X1 X2 X3):(execOp a.eval o).run Tryz.prog w = .ok (.value (.agg #[.int .u16 n,.slice X1 X2 X3])) w:=by
  obtain ⟨h0,h1,h2⟩:=ho
  have hb:=run_build (P:=Tryz.prog) w 64 #[(0,.int .u16 n),(1,.slice X1 X2 X3)] _ (xb3p n)
  unfold execOp
  simp only [h0,List.map_toArray,List.map_cons,List.map_nil,h1,h2,Sem.run_bind,hb,Result.andThen_ok]
  rfl
theorem infoStp:∃ i,Tryz.prog.info? 64 = some i∧i.zero = some (.agg #[.int .u16 0,.slice none 0 0])∧i.size = 2:=by
  have h:=Tryz.infoSt
  generalize Tryz.prog.info? 64 = o at h
  cases o with
  | none=>cases h
  | some i =>
    have h1:=Option.some.inj h
    exact ⟨i,rfl,(Prod.mk.inj h1).1,(Prod.mk.inj (Prod.mk.inj h1).2).1⟩
theorem fillS (x y:Value) (hx:x.cells = #[x]):Instr.fill (fun i=>some (i * 2,2)) ((Array.range (1 * 2)).map ((Value.agg #[.int .u16 0,.slice none 0 0]).cells[· % (Value.agg #[.int .u16 0,.slice none 0 0]).cells.size]!)) [(0,.agg #[x,y])] = some #[x,y]:=by kernel_rfl
theorem xa9d {o:Oper} {a:Act} (w:World) (x:Operand) (ho:o.op = .buildSlice 33 1 #[(0,x)]) (n:Int) (vu:Value) (hx:a.eval x = .agg #[.int .u16 n,vu]):(execOp a.eval o).run Tryz.prog w = .ok (.value (.slice (some ⟨w.heap.size,0,none⟩) 1 1)) (w.alloc (.cells #[.int .u16 n,vu] 64)):=by
  obtain ⟨i0,hi,hz0,hz1⟩:=infoStp
  have hb:=run_buildSlice w 33 64 1 #[(0,.agg #[.int .u16 n,vu])] #[.int .u16 n,vu] i0 _ Tryz.underlying33 hi hz0 (by rw [hz1]; decide) (by rw [hz1]; decide) (by rw [hz1]; exact fillS (.int .u16 n) vu rfl)
  unfold execOp
  simp only [ho,List.map_toArray,List.map_cons,List.map_nil,hx,Sem.run_bind,hb,Result.andThen_ok]
  rfl
def WalkP (k:Nat) (w:World) (q:List Nat) (L:Prs) (sv pv:Value):Prop:=∃ m,RdS w sv ((List.range m).map (stp k q L))∧RdK w pv (dnL (hsZ k) q L m)∧(∀ i,i < m→sgl (hsZ k) (dnL (hsZ k) q L i) = false)∧sgl (hsZ k) (dnL (hsZ k) q L m) = true
end
theorem p_fold {H:Hs} (hH:H.Ok) {q:List Nat} {L:Prs} {m:Nat} (hf:∀ i,i < m→sgl H (dnL H q L i) = false):m≤2 * H.wd:=by
  cases m with
  | zero=>omega
  | succ i=>have:=deep hH (dn_on (H:=H) (q:=q) (L:=L) i).pre (hf i (by omega)); omega
theorem p_ne {H:Hs} {L:Prs} (h:sgl H L = false):L≠[]:=fun e=>by rw [e] at h; cases h
theorem p_up {H:Hs} {q:List Nat} {L:Prs} {i:Nat} (hi:i < 64) (hs:sgl H (dnL H q L i) = false):H.hr (bm H i (dnL H q L i)) ((kidsL H i (dnL H q L i)).map (nodP H (63 - i))) = nodP H (64 - i) (dnL H q L i):=by
  rw [show 64 - i = (63 - i) + 1 by omega,nod_br hs,show 63 - (63 - i) = i by omega]
  unfold kidsL
  rw [List.map_map]; rfl
theorem p_bit {H:Hs} (hH:H.Ok) {q:List Nat} {L:Prs} {i:Nat}:(bm H i (dnL H q L i)).testBit (dgt (H.kd q) i) = !(dnL H q L (i + 1)).isEmpty:=bm_bit (dgk hH q i)
theorem p_kid {H:Hs} (hH:H.Ok) {q:List Nat} {L:Prs} {i f:Nat} (hb:(bm H i (dnL H q L i)).testBit (dgt (H.kd q) i) = true):cnt (bm H i (dnL H q L i)) (dgt (H.kd q) i) < ((kidsL H i (dnL H q L i)).map (nodP H f)).length∧((kidsL H i (dnL H q L i)).map (nodP H f)).getD (cnt (bm H i (dnL H q L i)) (dgt (H.kd q) i)) [] = nodP H f (dnL H q L (i + 1)):=by
  have h:=kid_at (L:=dnL H q L i) (dgk hH q i) hb
  have hl:cnt (bm H i (dnL H q L i)) (dgt (H.kd q) i) < (kidsL H i (dnL H q L i)).length:=(List.getElem?_eq_some_iff.1 h).1
  refine ⟨by rw [List.length_map]; exact hl,?_⟩
  rw [List.getD_eq_getElem?_getD,List.getElem?_map,h]; rfl
theorem p_two {H:Hs} (hH:H.Ok) {q:List Nat} {L:Prs} {i:Nat} (hn:sgl H (dnL H q L i) = false) (hs:sgl H (dnL H q L (i + 1)) = true) (hne:dnL H q L (i + 1)≠[]):(kidsL H i (dnL H q L i)).length≠1:=fun h=>by
  have hk:=xb2a hH h
  have hb:(bm H i (dnL H q L i)).testBit (dgt (H.kd q) i) = true:=by
    rw [p_bit hH]
    cases hc:dnL H q L (i + 1) with
    | nil=>exact absurd hc hne
    | cons _ _=>rfl
  have h1:=kid_at (L:=dnL H q L i) (dgk hH q i) hb
  have hm:=List.mem_of_getElem? h1
  rw [hk,List.mem_singleton] at hm
  have hm2:dnL H q L (i + 1) = dnL H q L i:=hm
  rw [hm2,hn] at hs
  cases hs
theorem p_back {α:Type} (l:List α) (r:Nat) (hr:r < l.length) (d:α):(l.eraseIdx r).take r++l.getD r d :: (l.eraseIdx r).drop r = l:=by
  have h1:(l.take r).length = r:=by rw [List.length_take]; omega
  rw [List.eraseIdx_eq_take_drop_succ,List.take_append_of_le_length (by omega),List.take_take,Nat.min_self,List.drop_append_of_le_length (by omega),List.drop_of_length_le (by omega),List.nil_append,List.getD_eq_getElem?_getD,List.getElem?_eq_getElem hr,Option.getD_some,List.getElem_cons_drop,List.take_append_drop]
def wod (s:Stp) (c:Nat):Stp:=(s.1,if s.1.testBit c = true then s.2.eraseIdx (cnt s.1 c) else s.2)
def prf (k:Nat) (q:List Nat) (L:Prs) (i:Nat):Stp:=wod (stp k q L i) (dgt ((hsZ k).kd q) i)
def prfL (k:Nat) (q:List Nat) (L:Prs) (m:Nat):List Stp:=(List.range m).map (prf k q L)
theorem xa4v (k:Nat) (q:List Nat) (L:Prs) (m:Nat):(prfL k q L m).length = m:=by simp [prfL]
theorem xa9k {k:Nat} {q:List Nat} {L:Prs} {m i:Nat} (hi:i < m):(prfL k q L m).getD i (0,[]) = prf k q L i:=by
  unfold prfL
  rw [List.getD_eq_getElem?_getD,List.getElem?_map,List.getElem?_range hi]; rfl
theorem xc2n {k:Nat} {q:List Nat} {L:Prs} {i:Nat}:∀ d∈(prf k q L i).2,∃ K,d = nodP (hsZ k) (63 - i) K:=by
  intro d hd
  unfold prf wod at hd
  have hd2:d∈(stp k q L i).2:=by
    split at hd
    · exact List.mem_of_mem_eraseIdx hd
    · exact hd
  obtain ⟨K,_,rfl⟩:=List.mem_map.1 hd2
  exact ⟨K,rfl⟩
theorem xb8c (k:Nat) (q:List Nat) (L:Prs) (i:Nat):(prf k q L i).2.length≤16:=by
  have h1:(stp k q L i).2.length≤16:=by
    show ((kidsL (hsZ k) i (dnL (hsZ k) q L i)).map (nodP (hsZ k) (63 - i))).length≤16
    rw [List.length_map,xa1a]; exact cnt_le _ _
  unfold prf wod
  show (if _ then _ else _:List (List Nat)).length≤16
  split
  · exact Nat.le_trans (List.length_eraseIdx_le _ _) h1
  · exact h1
structure WayM (k:Nat) (q:List Nat) (L:Prs) (m:Nat):Prop where
  ns:∀ i,i < m→sgl (hsZ k) (dnL (hsZ k) q L i) = false
  sg:sgl (hsZ k) (dnL (hsZ k) q L m) = true
theorem xc0k {k:Nat} {q:List Nat} {L:Prs} {m n:Nat} (h:WayM k q L m) (g:WayM k q L n):m = n:=by
  rcases Nat.lt_trichotomy m n with h1 | h1 | h1
  · have:=g.ns m h1; rw [h.sg] at this; cases this
  · exact h1
  · have:=h.ns n h1; rw [g.sg] at this; cases this
theorem WayM.le {k:Nat} (hk:1≤k∧k≤32) {q:List Nat} {L:Prs} {m:Nat} (h:WayM k q L m):m≤2 * k:=p_fold (hsZ_ok hk) h.ns
theorem p_fits {k:Nat} (hk:1≤k∧k≤32) {q:List Nat} {L:Prs} {m i:Nat} (h:WayM k q L m) (hi:i < m):fitS (prf k q L i).1 (prf k q L i).2.length ((dgt ((hsZ k).kd q) i:Nat):Int) (!(dnL (hsZ k) q L (i + 1)).isEmpty) = true:=by
  have hH:=hsZ_ok hk
  have hn:=p_ne (h.ns i hi)
  have hc:dgt ((hsZ k).kd q) i < 16:=dgk hH q i
  have hl:=xa1a (hsZ k) i (dnL (hsZ k) q L i)
  have hp:=(xa3i hH (d:=i) hn).1
  have hb0:bm (hsZ k) i (dnL (hsZ k) q L i)≠0:=fun e=>by
    rw [hl,e] at hp
    have h2:cnt 0 16 = 0:=by decide
    omega
  have hbit:=p_bit hH (q:=q) (L:=L) (i:=i)
  unfold fitS
  have e1:(prf k q L i).1 = bm (hsZ k) i (dnL (hsZ k) q L i):=rfl
  rw [e1,xb3d _ _ (by omega),hbit,decide_eq_true hb0]
  simp only [Bool.true_and,beq_self_eq_true,decide_eq_true_eq]
  cases ht:(!(dnL (hsZ k) q L (i + 1)).isEmpty) with
  | true =>
    rw [ht] at hbit
    have hk2:=(p_kid hH (f:=63 - i) hbit).1
    have e2:(prf k q L i).2 = ((kidsL (hsZ k) i (dnL (hsZ k) q L i)).map (nodP (hsZ k) (63 - i))).eraseIdx (cnt (bm (hsZ k) i (dnL (hsZ k) q L i)) (dgt ((hsZ k).kd q) i)):=by
      show (if (bm (hsZ k) i (dnL (hsZ k) q L i)).testBit (dgt ((hsZ k).kd q) i) = true then _ else _) = _
      rw [if_pos hbit]; rfl
    rw [e2,List.length_eraseIdx_of_lt hk2,List.length_map,hl,if_pos rfl]
    rw [List.length_map,hl] at hk2
    omega
  | false =>
    rw [ht] at hbit
    have e2:(prf k q L i).2 = (kidsL (hsZ k) i (dnL (hsZ k) q L i)).map (nodP (hsZ k) (63 - i)):=by
      show (if (bm (hsZ k) i (dnL (hsZ k) q L i)).testBit (dgt ((hsZ k).kd q) i) = true then _ else _) = _
      rw [if_neg (by rw [hbit]; decide)]; rfl
    rw [e2,List.length_map,hl,if_neg (by decide)]; rfl
theorem xc3f {α:Type} (l:List α):(!l.isEmpty) = decide (0 < l.length):=by cases l <;> simp
theorem p_next {k:Nat} {q:List Nat} {L:Prs} {m i:Nat} (h:WayM k q L m) (hi:i < m):(!(dnL (hsZ k) q L (i + 1)).isEmpty) = (decide (i + 1 < m) || decide (0 < (dnL (hsZ k) q L m).length)):=by
  rcases Nat.lt_or_ge (i + 1) m with h1 | h1
  · rw [decide_eq_true h1,Bool.true_or]
    cases hc:dnL (hsZ k) q L (i + 1) with
    | nil=>exact absurd hc (p_ne (h.ns _ h1))
    | cons _ _=>rfl
  · have e:i + 1 = m:=by omega
    rw [decide_eq_false (by omega),Bool.false_or,← e,xc3f]
theorem p_dgt {k:Nat} (hk:1≤k∧k≤32) (q:List Nat) {i:Nat} (hi:i < 2 * k):atC (k:Int) (keyS (k:Int) q) (i:Int) = dgt ((hsZ k).kd q) i:=xc3x (wide_k hk) (xa5n (wide_k hk) q) (by simpa using hi)
theorem xb5n {k:Nat} (hk:1≤k∧k≤32) {q:List Nat} {L:Prs} {m:Nat} (h:WayM k q L m):∀ n,n≤m→fitsB (k:Int) (keyS (k:Int) q) (prfL k q L m) (dnL (hsZ k) q L m).length n = true
  | 0,_=>rfl
  | n + 1,hn=>by
    have hm:=h.le hk
    rw [fitsB,xb5n hk h n (by omega),Bool.true_and,xa9k (by omega),xa4v,p_dgt hk q (by omega),← p_next h (by omega)]
    exact p_fits hk h (by omega)
theorem p_ris {k:Nat} {q:List Nat} {L:Prs} {m:Nat} (h:WayM k q L m) (hs:Srt (hsZ k) L) (hf:Fit L):∀ n,n≤(dnL (hsZ k) q L m).length→risB (dnL (hsZ k) q L m) n = true
  | 0,_=>rfl
  | n + 1,hn=>by
    have hmem:(dnL (hsZ k) q L m).getD n ([],[])∈L:=by
      rw [List.getD_eq_getElem?_getD,List.getElem?_eq_getElem (by omega),Option.getD_some]
      exact dn_sub m _ (List.getElem_mem _)
    have hr:=xa6p (dn_srt (q:=q) hs m) h.sg
    rw [risB,p_ris h hs hf n (by omega),Bool.true_and,decide_eq_true (hf _ hmem).1,decide_eq_true (hf _ hmem).2,Bool.true_and,Bool.true_and]
    cases n with
    | zero=>rfl
    | succ i =>
      have h2:=List.pairwise_iff_getElem.1 hr i (i + 1) (by omega) (by omega) (by omega)
      rw [Nat.add_sub_cancel,List.getD_eq_getElem?_getD,List.getElem?_eq_getElem (by omega),List.getD_eq_getElem?_getD,List.getElem?_eq_getElem (by omega),Option.getD_some,Option.getD_some,decide_eq_true h2]
      simp
theorem p_hang {k:Nat} (hk:1≤k∧k≤32) {q:List Nat} {L:Prs} {m:Nat} (h:WayM k q L m) (hn:dnL (hsZ k) q L m≠[]):hanB (k:Int) (keyS (k:Int) q) m (dnL (hsZ k) q L m) = true:=by
  unfold hanB
  have h0:(dnL (hsZ k) q L m).getD 0 ([],[])∈dnL (hsZ k) q L m:=by
    cases hd:dnL (hsZ k) q L m with
    | nil=>exact absurd hd hn
    | cons x l=>simp
  rw [Bool.and_eq_true]
  constructor
  · rw [List.all_eq_true]
    intro p hp
    exact decide_eq_true (xa1t.1 h.sg p (List.mem_of_mem_drop hp) _ h0)
  · refine decide_eq_true ((xb1l (wide_k hk) (xa5n (wide_k hk) _) (xa5n (wide_k hk) _) (by have:=h.le hk; simpa using this)).2 (fun j hj=>?_))
    exact dn_on m _ h0 j hj
theorem p_prov {k:Nat} (hk:1≤k∧k≤32) {q:List Nat} {L:Prs} {m:Nat} (h:WayM k q L m) (hs:Srt (hsZ k) L) (hf:Fit L):provB (k:Int) (keyS (k:Int) q) (prfL k q L m) (dnL (hsZ k) q L m) = true:=by
  have hm:=h.le hk
  unfold provB
  rw [xa4v,xb5n hk h m (Nat.le_refl _),decide_eq_true (by simpa using hm),Bool.true_and,Bool.true_and]
  by_cases hn:dnL (hsZ k) q L m = []
  · rw [hn]; rfl
  · have hl:(dnL (hsZ k) q L m).length≠0:=fun e=>hn (List.eq_nil_of_length_eq_zero e)
    rw [decide_eq_false hl,Bool.false_or,p_ris h hs hf _ (Nat.le_refl _),p_hang hk h hn,Bool.and_true,Bool.and_true]
    cases m with
    | zero=>rfl
    | succ i =>
      rw [Nat.add_sub_cancel,xa9k (by omega)]
      have h2:=p_two (hsZ_ok hk) (h.ns i (by omega)) h.sg hn
      rw [xa1a] at h2
      rw [Bool.or_eq_true]
      exact Or.inr (decide_eq_true h2)
theorem p_form {k:Nat} (hk:1≤k∧k≤32) {q:List Nat} (hq:q.length≤64) (L:Prs) (m:Nat):hfE (k:Int) q [] (prfL k q L m) = 0:=by
  unfold hfE
  rw [if_neg (by rw [wide_k hk]; decide),if_neg (by omega),if_pos]
  rw [Bool.and_eq_true]
  refine ⟨rfl,List.all_eq_true.2 (fun s hs=>List.all_eq_true.2 (fun d hd=>?_))⟩
  obtain ⟨i,_,rfl⟩:=List.mem_map.1 hs
  obtain ⟨K,rfl⟩:=xc2n d hd
  exact xa8r hk _ _
theorem p_rtE {k:Nat} (hk:1≤k∧k≤32) {q:List Nat} (hq:q.length≤64) {L:Prs} {m:Nat} (h:WayM k q L m) (hs:Srt (hsZ k) L) (hf:Fit L):rtE (k:Int) q (prfL k q L m) (dnL (hsZ k) q L m) = 0:=rtE_mk (p_form hk hq L m) (p_prov hk h hs hf)
theorem p_brD {k:Nat} (hk:1≤k∧k≤32) {q:List Nat} {L:Prs} {m i:Nat} (h:WayM k q L m) (hi:i < m):brD (k:Int) (bm (hsZ k) i (dnL (hsZ k) q L i)) ((kidsL (hsZ k) i (dnL (hsZ k) q L i)).map (nodP (hsZ k) (63 - i))) = nodP (hsZ k) (64 - i) (dnL (hsZ k) q L i):=by
  have hm:=h.le hk
  have hp:=(xa3i (hsZ_ok hk) (d:=i) (p_ne (h.ns i hi))).1
  have h0:=xb8u hk (bm_lt (hsZ k) i (dnL (hsZ k) q L i)) (ds:=(kidsL (hsZ k) i (dnL (hsZ k) q L i)).map (nodP (hsZ k) (63 - i))) (fun d hd=>by obtain ⟨K,_,rfl⟩:=List.mem_map.1 hd; exact xa8r hk _ _) (by rw [List.length_map,xa1a]) (fun e=>by
    have e2:=congrArg List.length e
    rw [List.length_map] at e2
    simp only [List.length_nil] at e2
    omega)
  unfold brD sunD
  rw [h0,if_pos rfl]
  exact p_up (by omega) (h.ns i hi)
theorem p_cli {k:Nat} (hk:1≤k∧k≤32) {q:List Nat} {L:Prs} {m:Nat} (h:WayM k q L m):∀ n,n≤m→(∀ i,i < n→dnL (hsZ k) q L (i + 1)≠[])→cliD (k:Int) (keyS (k:Int) q) (prfL k q L m) n (nodP (hsZ k) (64 - n) (dnL (hsZ k) q L n)) = nodP (hsZ k) 64 L
  | 0,_,_=>rfl
  | n + 1,hn,hne=>by
    have hm:=h.le hk
    have hH:=hsZ_ok hk
    have hb:(bm (hsZ k) n (dnL (hsZ k) q L n)).testBit (dgt ((hsZ k).kd q) n) = true:=by
      rw [p_bit hH]
      cases hc:dnL (hsZ k) q L (n + 1) with
      | nil=>exact absurd hc (hne n (by omega))
      | cons _ _=>rfl
    obtain ⟨h1,h2⟩:=p_kid hH (f:=63 - n) hb
    rw [cliD,xa9k (by omega),p_dgt hk q (by omega),xa5p (by have:=dgk hH q n; omega)]
    have e1:(prf k q L n).1 = bm (hsZ k) n (dnL (hsZ k) q L n):=rfl
    have e2:(prf k q L n).2 = ((kidsL (hsZ k) n (dnL (hsZ k) q L n)).map (nodP (hsZ k) (63 - n))).eraseIdx (cnt (bm (hsZ k) n (dnL (hsZ k) q L n)) (dgt ((hsZ k).kd q) n)):=by
      show (if (bm (hsZ k) n (dnL (hsZ k) q L n)).testBit (dgt ((hsZ k).kd q) n) = true then _ else _) = _
      rw [if_pos hb]; rfl
    rw [e1,e2,show 64 - (n + 1) = 63 - n by omega,← h2,p_back _ _ h1 [],p_brD hk h (by omega)]
    exact p_cli hk h n (by omega) (fun i hi=>hne i (by omega))
theorem p_rooD {k:Nat} (hk:1≤k∧k≤32) {q:List Nat} {L:Prs} {m:Nat} (h:WayM k q L m):rooD (k:Int) q (prfL k q L m) (dnL (hsZ k) q L m) = rootP k L:=by
  have hm:=h.le hk
  unfold rooD footD footN
  rw [xa4v]
  by_cases hn:dnL (hsZ k) q L m = []
  · rw [hn,if_neg (by simp),if_neg (by simp)]
    cases m with
    | zero =>
      have hL:L = []:=hn
      subst hL
      rw [if_pos rfl,xa3a hk]; rfl
    | succ i =>
      have hL:L≠[]:=p_ne (h.ns 0 (by omega))
      have hb:(bm (hsZ k) i (dnL (hsZ k) q L i)).testBit (dgt ((hsZ k).kd q) i) = false:=by rw [p_bit (hsZ_ok hk),hn]; rfl
      have e2:(prf k q L i).2 = (kidsL (hsZ k) i (dnL (hsZ k) q L i)).map (nodP (hsZ k) (63 - i)):=by
        show (if (bm (hsZ k) i (dnL (hsZ k) q L i)).testBit (dgt ((hsZ k).kd q) i) = true then _ else _) = _
        rw [if_neg (by rw [hb]; decide)]; rfl
      have e1:(prf k q L i).1 = bm (hsZ k) i (dnL (hsZ k) q L i):=rfl
      rw [if_neg (by omega),Nat.add_sub_cancel,xa9k (by omega),e1,e2,p_brD hk h (by omega),p_cli hk h i (by omega) (fun j hj=>p_ne (h.ns (j + 1) (by omega)))]
      unfold rootP
      cases L with
      | nil=>exact absurd rfl hL
      | cons _ _=>rfl
  · have hl:0 < (dnL (hsZ k) q L m).length:=List.length_pos_iff.2 hn
    have hL:L≠[]:=fun e=>by
      have h1:=dn_len (H:=hsZ k) (q:=q) (L:=L) m
      rw [e] at h1
      simp only [List.length_nil] at h1
      rw [e] at hl
      omega
    rw [if_pos hl,if_pos hl]
    have e:sumD (k:Int) (buckB (dnL (hsZ k) q L m)) = nodP (hsZ k) (64 - m) (dnL (hsZ k) q L m):=(xb4e h.sg).symm
    rw [e,p_cli hk h m (Nat.le_refl _) (fun i hi=>by
      rcases Nat.lt_or_ge (i + 1) m with h1 | h1
      · exact p_ne (h.ns _ h1)
      · rw [show i + 1 = m by omega]; exact hn)]
    unfold rootP
    cases L with
    | nil=>exact absurd rfl hL
    | cons _ _=>rfl
theorem p_rtD {k:Nat} (hk:1≤k∧k≤32) {q:List Nat} (hq:q.length≤64) {L:Prs} {m:Nat} (h:WayM k q L m) (hs:Srt (hsZ k) L) (hf:Fit L):rtD (k:Int) q (prfL k q L m) (dnL (hsZ k) q L m) = rootP k L:=by
  unfold rtD
  rw [if_pos (p_rtE hk hq h hs hf),p_rooD hk h]
theorem xb2q (q:List Nat):∀ L:Prs,valH q L = getP q L
  | []=>rfl
  | p :: L=>by rw [valH,xa6r,xb2q q L]
theorem p_rtV {k:Nat} (hk:1≤k∧k≤32) {q:List Nat} (hq:q.length≤64) {L:Prs} {m:Nat} (h:WayM k q L m) (hs:Srt (hsZ k) L) (hf:Fit L):rtV (k:Int) q (prfL k q L m) (dnL (hsZ k) q L m) = getP q L:=by
  unfold rtV
  rw [if_pos (p_rtE hk hq h hs hf),xb2q,dn_get]
theorem p_ckE {k:Nat} (hk:1≤k∧k≤32) {q:List Nat} (hq:q.length≤64) {L:Prs} {m:Nat} (h:WayM k q L m) (hs:Srt (hsZ k) L) (hf:Fit L):ckE (k:Int) (rootP k L) q (prfL k q L m) (dnL (hsZ k) q L m) = 0:=by
  rw [← p_rtD hk hq h hs hf]; exact agr_ok (p_rtE hk hq h hs hf)
theorem p_ckV {k:Nat} (hk:1≤k∧k≤32) {q:List Nat} (hq:q.length≤64) {L:Prs} {m:Nat} (h:WayM k q L m) (hs:Srt (hsZ k) L) (hf:Fit L):ckV (k:Int) (rootP k L) q (prfL k q L m) (dnL (hsZ k) q L m) = getP q L:=by
  unfold ckV
  rw [if_pos (p_ckE hk hq h hs hf),p_rtV hk hq h hs hf]
section
open Go.RowKit Go.BigFrame
theorem xa8c (b:Nat) (t:TypeId):∀ (vs pre mid post:List Value) (w:World),mid.length = vs.length→w.heap[b]? = some (.cells (pre++(mid++post)).toArray t (0,0))→(w.setCells b pre.length vs).heap[b]? = some (.cells (pre++(vs++post)).toArray t (0,0))
  | [],pre,mid,post,w,hl,h=>by
    have:mid = []:=List.eq_nil_of_length_eq_zero (by simpa using hl)
    subst this; exact h
  | v :: r,pre,mid,post,w,hl,h=>by
    obtain ⟨x,mid,rfl⟩:∃ x q,mid = x :: q:=by cases mid with | nil=>simp at hl | cons x q=>exact ⟨x,q,rfl⟩
    rw [World.setCells]
    have h1:=heap_setCell_same w b pre.length _ t v h
    have e1:(pre++(x :: mid++post)).toArray.setIfInBounds pre.length v = ((pre++[v])++(mid++post)).toArray:=by simp
    rw [e1] at h1
    have h2:=xa8c b t r (pre++[v]) mid post _ (by simpa using hl) h1
    rw [List.length_append,List.length_cons,List.length_nil,List.append_assoc] at h2
    simpa using h2
theorem xa6q {L:List Nat} {w0:World} (b:Nat) (hb:b∈L∨w0.heap.size≤b):∀ (vs:List Value) (o:Nat) (w:World),Kept L w0 w→Kept L w0 (w.setCells b o vs)
  | [],o,w,h=>h
  | v :: r,o,w,h=>by
    rw [World.setCells]
    exact xa6q b hb r (o + 1) _ (h.setCell (p:=⟨b,o,none⟩) hb v)
theorem p_rddX {w:World} {g:Nat} {t:TypeId} {fr:Nat × Nat} {ds:List (List Nat)} {zs:List Value} {c:Nat} (h:w.heap[g]? = some (.cells (flatD ds++zs).toArray t fr)) (hd:∀ d∈ds,Dg d) (hl:ds.length≤c) (hc:c≤1000000):RdD w (.slice (some ⟨g,0,none⟩) ds.length c) ds:=by
  refine ⟨_,ds.length,c,rfl,rfl,hl,by omega,hd,fun _=>⟨g,0,rfl,fun i hi j v hj=>?_⟩⟩
  have hdl:∀ d∈ds,d.length = 32:=fun d hm=>(hd d hm).1
  have hj2:j < 32:=by
    have:=(List.getElem?_eq_some_iff.1 hj).1
    rw [List.length_map] at this
    have h9:(ds.getD i []).length = 32:=by rw [List.getD_eq_getElem?_getD,List.getElem?_eq_getElem hi]; exact hdl _ (List.getElem_mem _)
    omega
  have hln:=xa2a hdl
  rw [cell_of_row _ _ _ _ _ _ h,List.getElem?_toArray,Nat.zero_add,List.getElem?_append_left (by omega),xa6e hdl i hi j hj2]
  exact hj
theorem p_two1 {a b:Value} (ha:a.oneCell' = true) (hb:b.oneCell' = true):(#[a,b]:Array Value).all (·.oneCell') = true:=by simp [ha,hb]
def stV (s:Stp) (p:Nat × Nat):List Value:=[.int .u16 (s.1:Int),.slice (some ⟨p.1,0,none⟩) s.2.length p.2]
def snR (ss:List Stp) (gs:List (Nat × Nat)):List (List Value):=List.zipWith stV ss gs
theorem xb0g {ss:List Stp} {gs:List (Nat × Nat)} (h:gs.length = ss.length):(snR ss gs).length = ss.length:=by simp [snR,h]
theorem snR_at {ss:List Stp} {gs:List (Nat × Nat)} (h:gs.length = ss.length) (i:Nat) (hi:i < ss.length):(snR ss gs)[i]'(by rw [xb0g h]; exact hi) = stV (ss.getD i (0,[])) (gs.getD i (0,0)):=by
  simp [snR,List.getD_eq_getElem?_getD,List.getElem?_eq_getElem hi,List.getElem?_eq_getElem (show i < gs.length by omega)]
theorem xb2k {ss:List Stp} {gs:List (Nat × Nat)}:∀ r∈snR ss gs,r.length = 2:=fun r hr=>by
  obtain ⟨i,hi,rfl⟩:=List.getElem_of_mem hr
  simp [snR,stV]
structure KidB (B:Nat) (w:World) (v:Value) (s:Stp) (p:Nat × Nat):Prop where
  new:B≤p.1
  ne:v.ownBlock≠some p.1
  row:∃ zs:List Value,w.heap[p.1]? = some (.cells (flatD s.2++zs).toArray 50 (0,0))∧zs.length = (p.2 - s.2.length) * 32∧∀ u∈zs,u.oneCell' = true
  cap:s.2.length≤p.2∧p.2≤16
  bm:s.1 < 65536
  dg:∀ d∈s.2,Dg d
structure SNew (B:Nat) (w:World) (v:Value) (gs:List (Nat × Nat)) (ss:List Stp):Prop where
  own:w.ownsRow B 64 2 v ss.length (snR ss gs).flatten
  len:gs.length = ss.length
  kid:∀ i,i < ss.length→KidB B w v (ss.getD i (0,[])) (gs.getD i (0,0))
  dis:∀ i j,i < gs.length→j < gs.length→i≠j→(gs.getD i (0,0)).1≠(gs.getD j (0,0)).1
theorem KidB.kept {B:Nat} {w w':World} {v:Value} {s:Stp} {p:Nat × Nat} {M:List Nat} (h:KidB B w v s p) (k:Kept M w w') (hn:p.1∉M):KidB B w' v s p:=by
  obtain ⟨h1,h2,⟨zs,h3,h4⟩,h5,h6,h7⟩:=h
  exact ⟨h1,h2,⟨zs,k.heap h3 hn,h4⟩,h5,h6,h7⟩
theorem KidB.lt {B:Nat} {w:World} {v:Value} {s:Stp} {p:Nat × Nat} (h:KidB B w v s p):p.1 < w.heap.size:=by
  obtain ⟨h1,h2,⟨zs,h3,h4⟩,h5,h6,h7⟩:=h
  exact lt_of_block h3
theorem SNew.kept {B:Nat} {w w':World} {v:Value} {gs:List (Nat × Nat)} {ss:List Stp} (h:SNew B w v gs ss) (k:Kept [] w w'):SNew B w' v gs ss:=⟨k.owns h.own (by simp),h.len,fun i hi=>(h.kid i hi).kept k (by simp),h.dis⟩
theorem SNew.nil (B:Nat) (w:World):SNew B w (.slice none 0 0) [] []:=⟨World.ownsRow_nil _ _ _ _,rfl,fun i hi=>by simp at hi,fun i j hi=>by simp at hi⟩
theorem xa7a {α:Type} (l:List α) (a d:α) (i:Nat):(l++[a]).getD i d = if i < l.length then l.getD i d else if i = l.length then a else d:=xa5u l a d i
theorem SNew.snoc {B:Nat} {w w1:World} {v v':Value} {gs:List (Nat × Nat)} {ss:List Stp} {s:Stp} {p:Nat × Nat} (h:SNew B w v gs ss) (hk:KidB B w v s p) (hd:∀ q∈gs,q.1≠p.1)
    (ho:w1.ownsRow B 64 2 v' (ss.length + 1) ((snR ss gs).flatten++(stV s p))) (hg:w.grownBy w1 v.ownBlock) (hb:v'.ownBlock = v.ownBlock∨v'.ownBlock = some w.heap.size):SNew B w1 v' (gs++[p]) (ss++[s]):=by
  have hK:=(Kept.refl v.ownBlock.toList w).grown hg (by intro x hx; left; simp [hx])
  have hup:∀ {s p},KidB B w v s p→KidB B w1 v' s p:=fun {s p} k=>by
    have hlt:=k.lt
    obtain ⟨h1,h2,⟨zs,h3,h4⟩,h5,h6,h7⟩:=k
    refine ⟨h1,?_,⟨zs,hK.heap h3 (fun hm=>h2 (by simpa using hm)),h4⟩,h5,h6,h7⟩
    rcases hb with e | e
    · rw [e]; exact h2
    · rw [e]; intro e2; injection e2 with e3; omega
  refine ⟨?_,by rw [List.length_append,List.length_append,h.len]; rfl,fun i hi=>?_,fun i j hi hj hn=>?_⟩
  · rw [List.length_append,show snR (ss++[s]) (gs++[p]) = snR ss gs++[stV s p] by unfold snR; rw [List.zipWith_append h.len.symm]; rfl,List.flatten_append]
    simpa using ho
  · rw [List.length_append] at hi
    have hi2:i < ss.length + 1:=hi
    rw [xa7a,xa7a,h.len]
    by_cases g:i < ss.length
    · rw [if_pos g,if_pos g]; exact hup (h.kid i g)
    · have g2:i = ss.length:=by omega
      rw [if_neg g,if_neg g,if_pos g2,if_pos g2]; exact hup hk
  · rw [List.length_append] at hi hj
    simp only [List.length_cons,List.length_nil] at hi hj
    rw [xa7a,xa7a]
    have hm:∀ x,x < gs.length→(gs.getD x (0,0)).1≠p.1:=fun x hx=>hd _ (by rw [List.getD_eq_getElem?_getD,List.getElem?_eq_getElem hx]; exact List.getElem_mem hx)
    by_cases g1:i < gs.length
    · by_cases g2:j < gs.length
      · rw [if_pos g1,if_pos g2]; exact h.dis i j g1 g2 hn
      · rw [if_pos g1,if_neg g2,if_pos (by omega)]; exact hm i g1
    · by_cases g2:j < gs.length
      · rw [if_neg g1,if_pos g2,if_pos (by omega)]; exact fun e=>hm j g2 e.symm
      · omega
theorem SNew.rdS {B:Nat} {w:World} {v:Value} {gs:List (Nat × Nat)} {ss:List Stp} (h:SNew B w v gs ss):RdS w v ss:=by
  have hsl:=xb0g h.len
  obtain ⟨_,len,cap,rfl,hl,hc1,hc2,hcell⟩:=xa1z (rows:=snR ss gs) (by rw [hsl]; exact h.own) xb2k
  rw [hsl] at hl
  subst hl
  have e1:∀ i,i < ss.length→((snR ss gs).map (fun r=>r.getD 1 undef)).getD i undef = .slice (some ⟨(gs.getD i (0,0)).1,0,none⟩) (ss.getD i (0,[])).2.length (gs.getD i (0,0)).2:=fun i hi=>by
    rw [List.getD_eq_getElem?_getD,List.getElem?_map,List.getElem?_eq_getElem (by rw [hsl]; exact hi),Option.map_some,Option.getD_some,snR_at h.len i hi]; rfl
  refine ⟨_,ss.length,cap,(snR ss gs).map (fun r=>r.getD 1 undef),rfl,rfl,hc1,hc2,fun i hi=>?_,fun h0=>?_⟩
  · obtain ⟨h1,h2,⟨zs,h3,h4⟩,h5,h6,h7⟩:=h.kid i hi
    rw [e1 i hi]; exact ⟨h6,p_rddX h3 h7 h5.1 (by omega)⟩
  · obtain ⟨b,off,rfl,hce⟩:=hcell h0
    refine ⟨b,off,rfl,fun i hi=>?_⟩
    have h7:=hce i (by rw [hsl]; exact hi)
    rw [snR_at h.len i hi] at h7
    rw [e1 i hi]
    exact ⟨h7 0 _ rfl,h7 1 _ rfl⟩
theorem SNew.at_ {B:Nat} {w:World} {v:Value} {gs:List (Nat × Nat)} {ss:List Stp} (h:SNew B w v gs ss) {i:Nat} (hi:i < ss.length):∃ g c,v = .slice (some ⟨g,0,none⟩) ss.length c∧B≤g∧w.rangeAt g (i * 2) (stV (ss.getD i (0,[])) (gs.getD i (0,0)))∧∃ cur,w.heap[g]? = some (.cells cur 64 (0,0)):=by
  rcases h.own.2 with ⟨e,h9⟩ | ⟨g,cap,cur,rfl,hg,hh,hc,hm,hsz,ht⟩
  · omega
  · refine ⟨g,cap,rfl,hg,fun j u hu=>?_,?_⟩
    · have h8:=h.own.cells (g:=g) rfl (i * 2 + j) u (xa8h xb2k (show i < (snR ss gs).length by rw [xb0g h.len]; exact hi) (by rw [snR_at h.len i hi]; exact hu))
      rw [Addr.add_lit] at h8
      simpa using h8
    · exact ⟨cur,hh⟩
theorem xb0d {u:Value}:∀ {rows:List (List Value)} (hs:∀ r∈rows,r.length = 2) {i:Nat} (hi:i < rows.length) (a:Value) (ha:rows[i][0]? = some a),rows.flatten.set (i * 2 + 1) u = (rows.set i [a,u]).flatten
  | [],hs,i,hi,a,ha=>by simp at hi
  | r :: rs,hs,0,hi,a,ha=>by
    obtain ⟨x,y,rfl⟩:∃ x y,r = [x,y]:=by
      have:=hs r (by simp)
      match r,this with
      | [x,y],_=>exact ⟨x,y,rfl⟩
    have e:x = a:=by simpa using ha
    subst e
    simp
  | r :: rs,hs,i + 1,hi,a,ha=>by
    obtain ⟨x,y,rfl⟩:∃ x y,r = [x,y]:=by
      have:=hs r (by simp)
      match r,this with
      | [x,y],_=>exact ⟨x,y,rfl⟩
    have ih:=xb0d (u:=u) (fun r hr=>hs r (by simp [hr])) (i:=i) (by simpa using hi) a ha
    rw [List.set_cons_succ,List.flatten_cons,List.flatten_cons,← ih,show (i + 1) * 2 + 1 = (i * 2 + 1) + 1 + 1 by omega]
    rfl
theorem xc2o {ss:List Stp} {gs:List (Nat × Nat)} (h:gs.length = ss.length) (i:Nat) (hi:i < ss.length) (s:Stp):snR (ss.set i s) gs = (snR ss gs).set i (stV s (gs.getD i (0,0))):=by
  apply List.ext_getElem
  · simp [snR]
  · intro j h1 h2
    have hj:j < ss.length:=by simp [snR,h] at h1; omega
    simp only [snR,List.getElem_zipWith,List.getElem_set]
    by_cases e:i = j
    · subst e
      simp [List.getD_eq_getElem?_getD,List.getElem?_eq_getElem (show i < gs.length by omega)]
    · simp [e]
theorem xc3v {α:Type} {l:List α} {i:Nat} {a d:α} (h:i < l.length):(l.set i a).getD i d = a:=by
  rw [List.getD_eq_getElem?_getD,List.getElem?_set_self h,Option.getD_some]
theorem xc3t {α:Type} {l:List α} {i j:Nat} {a d:α} (h:i≠j):(l.set i a).getD j d = l.getD j d:=by
  rw [List.getD_eq_getElem?_getD,List.getElem?_set_ne h,← List.getD_eq_getElem?_getD]
theorem SNew.put {B:Nat} {w w1:World} {v:Value} {gs:List (Nat × Nat)} {ss:List Stp} (h:SNew B w v gs ss) {i:Nat} (hi:i < ss.length) {g c:Nat} (hv:v = .slice (some ⟨g,0,none⟩) ss.length c) {ds:List (List Nat)} (k:Kept [(gs.getD i (0,0)).1] w w1)
    (hk:KidB B w1 v ((ss.getD i (0,[])).1,ds) (gs.getD i (0,0))):SNew B (w1.setCell ⟨g,i * 2 + 1,none⟩ (.slice (some ⟨(gs.getD i (0,0)).1,0,none⟩) ds.length (gs.getD i (0,0)).2)) v gs (ss.set i ((ss.getD i (0,[])).1,ds)):=by
  have hgn:∀ j,j < ss.length→(gs.getD j (0,0)).1≠g:=fun j hj e=>by
    have:=(h.kid j hj).ne
    rw [hv] at this
    exact this (by rw [e]; rfl)
  have hKg:=(Kept.refl [g] w1).setCell (p:=⟨g,i * 2 + 1,none⟩) (Or.inl (by simp)) (.slice (some ⟨(gs.getD i (0,0)).1,0,none⟩) ds.length (gs.getD i (0,0)).2)
  refine ⟨?_,by rw [List.length_set]; exact h.len,fun j hj=>?_,h.dis⟩
  · have ho:=k.owns h.own (fun b hb hm=>hgn i hi (by
      rw [hv] at hb
      have e1:g = b:=Option.some.inj hb
      rw [e1]; exact (List.mem_singleton.1 hm).symm))
    rcases ho.2 with ⟨e,h9⟩ | ⟨g',cap,cur,e,hg,hh,hc,hm,hsz,ht⟩
    · omega
    · have hx:=e
      rw [hv] at hx
      simp only [Value.slice.injEq,Option.some.injEq,Addr.mk.injEq,and_true,true_and] at hx
      obtain ⟨hx1,hx2⟩:=hx
      subst hx1
      subst hx2
      have h1:=heap_setCell_same w1 g (i * 2 + 1) cur _ (.slice (some ⟨(gs.getD i (0,0)).1,0,none⟩) ds.length (gs.getD i (0,0)).2) hh
      have hsl:=xb0g h.len
      have hfl:(snR ss gs).flatten.set (i * 2 + 1) (.slice (some ⟨(gs.getD i (0,0)).1,0,none⟩) ds.length (gs.getD i (0,0)).2) = (snR (ss.set i ((ss.getD i (0,[])).1,ds)) gs).flatten:=by
        rw [xc2o h.len i hi,xb0d xb2k (by rw [hsl]; exact hi) (.int .u16 ((ss.getD i (0,[])).1:Int)) (by rw [snR_at h.len i hi]; rfl)]
        rfl
      refine ⟨?_,Or.inr ⟨g,c,_,by rw [hv,List.length_set],hg,h1,by rw [List.length_set]; exact hc,hm,by rw [Array.size_setIfInBounds]; exact hsz,?_⟩⟩
      · rw [← hfl,List.length_set,ho.1,List.length_set]
      · rw [List.length_set,Array.toList_setIfInBounds,List.take_set,ht,hfl]
  · rw [List.length_set] at hj
    by_cases e:i = j
    · subst e
      rw [xc3v hi]
      exact hk.kept hKg (fun hm=>hgn i hi (List.mem_singleton.1 hm))
    · rw [xc3t e]
      refine ((h.kid j hj).kept k ?_).kept hKg (fun hm=>hgn j hj (List.mem_singleton.1 hm))
      simp only [List.mem_singleton]
      exact h.dis j i (by have:=h.len; omega) (by have:=h.len; omega) (fun e2=>e e2.symm)
end
section
open Go Go.RowKit Go.BigFrame
theorem ln_l4 {P:Program} {Q:Exit→Act→World→Prop} {id:Nat} {o0 o1 o2 o3 o4 o5 o6 o7 o8:Oper} {a:Act} {w:World} (hm:P.follows .mixedOrders = true) (hb:linB #[o0,o1,o2,o3,o4,o5,o6,o7,o8] [0,1,2,3,4,5,6,7,8] [] [] = true) (hg:([o0,o1,o2,o3,o4,o5,o6,o7,o8]++([]++[])).all (fun o=>o.guard.isNone) = true) (S:World→Prop) (hS:S w.drew)
    (h:LinY P S (ChL P Q S (Q .normal) []) [o0,o1,o2,o3,o4,o5,o6,o7,o8] a w.drew):(Code.region id #[o0,o1,o2,o3,o4,o5,o6,o7,o8] true).wp P Q a w:=xa1c (R:=[0,1,2,3,4,5,6,7,8]) (C:=[]) (rs:=[o0,o1,o2,o3,o4,o5,o6,o7,o8]) (cs:=[]) hm hb rfl rfl hg hS h
theorem ln_l5 {P:Program} {Q:Exit→Act→World→Prop} {id:Nat} {o0 o1 o2 o3 o4 o5 o6 o7 o8 o9 o10 o11:Oper} {a:Act} {w:World} (hm:P.follows .mixedOrders = true) (hb:linB #[o0,o1,o2,o3,o4,o5,o6,o7,o8,o9,o10,o11] [0,1,2,3,4,5,6,7,8,9,10] [11] [] = true) (hg:([o0,o1,o2,o3,o4,o5,o6,o7,o8,o9,o10]++([o11]++[])).all (fun o=>o.guard.isNone) = true) (S:World→Prop) (hS:S w.drew)
    (h:LinY P S (ChL P Q S (Q .normal) [o11]) [o0,o1,o2,o3,o4,o5,o6,o7,o8,o9,o10] a w.drew):(Code.region id #[o0,o1,o2,o3,o4,o5,o6,o7,o8,o9,o10,o11] true).wp P Q a w:=xa1c (R:=[0,1,2,3,4,5,6,7,8,9,10]) (C:=[11]) (rs:=[o0,o1,o2,o3,o4,o5,o6,o7,o8,o9,o10]) (cs:=[o11]) hm hb rfl rfl hg hS h
end
section
open Go.RowKit Go.BigFrame
def lessI:List Nat→List Nat→Int
  | [],b=>-(b.length:Int)
  | x :: a,[]=>(a.length:Int) + 1
  | x :: a,y :: b=>if x = y then lessI a b else (x:Int) - (y:Int)
theorem xa6f:∀ a b:List Nat,(lessI a b < 0↔ordL a b < 0)∧(lessI a b = 0↔ordL a b = 0)
  | [],[]=>by simp [lessI,ordL]
  | [],y :: b=>by simp [lessI,ordL]; omega
  | x :: a,[]=>by simp [lessI,ordL]; omega
  | x :: a,y :: b=>by
    have ih:=xa6f a b
    by_cases h:x = y
    · subst h
      have e1:lessI (x :: a) (x :: b) = lessI a b:=by rw [lessI,if_pos rfl]
      have e2:ordL (x :: a) (x :: b) = ordL a b:=by rw [ordL,if_neg (Nat.lt_irrefl _),if_neg (Nat.lt_irrefl _)]
      rw [e1,e2]; exact ih
    · have e1:lessI (x :: a) (y :: b) = (x:Int) - (y:Int):=by rw [lessI,if_neg h]
      rw [e1]
      rcases Nat.lt_or_ge x y with g | g
      · have e2:ordL (x :: a) (y :: b) = -1:=by rw [ordL,if_pos g]
        rw [e2]; omega
      · have e2:ordL (x :: a) (y :: b) = 1:=by rw [ordL,if_neg (by omega),if_pos (by omega)]
        rw [e2]; omega
theorem xb7e (a b:List Nat) (h:a = []∨b = []):lessI a b = (a.length:Int) - (b.length:Int):=by
  rcases h with rfl | rfl
  · simp [lessI]
  · cases a with
    | nil=>simp [lessI]
    | cons x a=>simp [lessI]
theorem xb2l (a b:List Nat) (i:Nat) (ha:i < a.length) (hb:i < b.length):lessI (a.drop i) (b.drop i) = if a.getD i 0 = b.getD i 0 then lessI (a.drop (i + 1)) (b.drop (i + 1)) else (a.getD i 0:Int) - (b.getD i 0:Int):=by
  rw [List.drop_eq_getElem_cons ha,List.drop_eq_getElem_cons hb,List.getD_eq_getElem?_getD,List.getD_eq_getElem?_getD,List.getElem?_eq_getElem ha,List.getElem?_eq_getElem hb]
  rfl
set_option maxHeartbeats 2000000 in
theorem xb4f (u v:Value) (a b:List Nat) (w:World) (ha:Rd w u a) (hb:Rd w v b) :
    Calls Tryz.prog 93 #[u,v] w fun e w'=>e = .returned (.int .i64 (lessI a b))∧Kept [] w w':=by
  have HA:=hide ha.byte
  have HB:=hide hb.byte
  obtain ⟨ao,n,c,rfl,h1,h2,h3,_,_,h6⟩:=ha
  obtain ⟨bo,m,d,rfl,g1,g2,g3,_,_,g6⟩:=hb
  have HCA:=hide h6
  have HCB:=hide g6
  have HL:=hide (show lessI (a.drop 0) (b.drop 0) = lessI a b from rfl)
  obtain ⟨C,hC⟩:∃ C,lessI a b = C:=⟨_,rfl⟩
  rw [hC] at HL ⊢
  have HN:=hide h1
  have HM:=hide g1
  have hwr:IntKind.i64.wrap ((n:Int) - (m:Int)) = (n:Int) - (m:Int):=by simp [IntKind.wrap,IntKind.signed,IntKind.bits]; omega
  have HK:=hide (Kept.refl [] w)
  clear h1 h6 g1 g6 hC
  go_enter Tryz.func93,Tryz.ntmps93
  go_wp2
  go_loopw [5] (fun t5 wr=>∃ (i:Nat),t5 = .int .i64 i∧i≤n∧i≤m∧Hid (lessI (a.drop i) (b.drop i) = C)∧Hid (Kept [] w wr)) (fun t _=>n - (intOf t).toNat)
  case atStart=>exact ⟨0,rfl,Nat.zero_le _,Nat.zero_le _,HL,HK⟩
  case round =>
    clear HL HK
    obtain ⟨i,rfl,hin,him,HL,HK⟩:=hrel
    by_cases hlt:i < n∧i < m
    · obtain ⟨l1,l2⟩:=hlt
      have q1:(i:Int) < n:=by omega
      have q2:(i:Int) < m:=by omega
      obtain ⟨ba,oa,rfl,hca⟩:=uh HCA (by omega)
      obtain ⟨bb,ob,rfl,hcb⟩:=uh HCB (by omega)
      have HX:=hide ((uh HK).cell (hca i l1) (by simp))
      have HY:=hide ((uh HK).cell (hcb i l2) (by simp))
      have hst:=xb2l a b i (by have:=uh HN; omega) (by have:=uh HM; omega)
      have hx256:a.getD i 0 < 256:=uh HA _ (by have:=uh HN; rw [List.getD_eq_getElem?_getD,List.getElem?_eq_getElem (by omega)]; exact List.getElem_mem _)
      have hy256:b.getD i 0 < 256:=uh HB _ (by have:=uh HM; rw [List.getD_eq_getElem?_getD,List.getElem?_eq_getElem (by omega)]; exact List.getElem_mem _)
      rw [uh HL] at hst
      clear hca hcb
      generalize a.getD i 0 = x at HX hst hx256
      generalize b.getD i 0 = y at HY hst hy256
      have HST:=hide hst
      clear hst
      by_cases hxy:x = y
      · subst hxy
        have HL2:=hide (show lessI (a.drop (i + 1)) (b.drop (i + 1)) = C by have:=uh HST; rw [if_pos rfl] at this; exact this.symm)
        go_upto_region 4 with fail
        refine ln_l4 (by kernel_rfl) (by kernel_rfl) rfl (fun W=>Kept [] wr W) (Kept.refl _ wr).drew ?_
        refine LinY.mv (x:=.tmp 0) rfl (.slice (some ⟨ba,oa,none⟩) n c) rfl (by simp only [Act.put,sa1,sa2,sa3]; rfl) ?_
        refine LinY.mv (x:=.tmp 5) rfl (.int .i64 i) rfl (by simp only [Act.put,sa1,sa2,sa3]; rfl) ?_
        refine LinY.rd (.pointer (some ⟨ba,oa + i,none⟩)) (fun W hW=>by go_simp) (by simp only [Act.put,sa1,sa2,sa3]; rfl) ?_
        refine LinY.rd (.int .u8 x) (fun W hW=>by have h9:=hW.cell (uh HX) (by simp); go_simp) (by simp only [Act.put,sa1,sa2,sa3]; rfl) ?_
        refine LinY.mv (x:=.tmp 1) rfl (.slice (some ⟨bb,ob,none⟩) m d) rfl (by simp only [Act.put,sa1,sa2,sa3]; rfl) ?_
        refine LinY.mv (x:=.tmp 5) rfl (.int .i64 i) rfl (by simp only [Act.put,sa1,sa2,sa3]; rfl) ?_
        refine LinY.rd (.pointer (some ⟨bb,ob + i,none⟩)) (fun W hW=>by go_simp) (by simp only [Act.put,sa1,sa2,sa3]; rfl) ?_
        refine LinY.rd (.int .u8 x) (fun W hW=>by have h9:=hW.cell (uh HY) (by simp); go_simp) (by simp only [Act.put,sa1,sa2,sa3]; rfl) ?_
        refine LinY.rd (.bool false) (fun W hW=>by go_simp) (by simp only [Act.put,sa1,sa2,sa3]; rfl) ?_
        refine LinY.fin (ChL.fin ?_)
        have hkd:=(uh HK).trans (Kept.refl [] wr).drew (by simp)
        go_wp2
        refine ⟨⟨i + 1,by go_num,by omega,by omega,HL2,hide hkd⟩,?_⟩
        all_goals (simp [intOf]; omega)
      · have hz:(x:Int)≠(y:Int):=by omega
        have hz2:¬ (x:Int) = (y:Int):=hz
        have hC2:C = (x:Int) - (y:Int):=by have:=uh HST; rw [if_neg hxy] at this; exact this
        have hwr2:IntKind.i64.wrap ((x:Int) - (y:Int)) = (x:Int) - (y:Int):=by simp [IntKind.wrap,IntKind.signed,IntKind.bits]; omega
        have hwx:IntKind.i64.wrap (x:Int) = (x:Int):=by simp [IntKind.wrap,IntKind.signed,IntKind.bits]; omega
        have hwy:IntKind.i64.wrap (y:Int) = (y:Int):=by simp [IntKind.wrap,IntKind.signed,IntKind.bits]; omega
        go_upto_region 4 with fail
        refine ln_l4 (by kernel_rfl) (by kernel_rfl) rfl (fun W=>Kept [] wr W) (Kept.refl _ wr).drew ?_
        refine LinY.mv (x:=.tmp 0) rfl (.slice (some ⟨ba,oa,none⟩) n c) rfl (by simp only [Act.put,sa1,sa2,sa3]; rfl) ?_
        refine LinY.mv (x:=.tmp 5) rfl (.int .i64 i) rfl (by simp only [Act.put,sa1,sa2,sa3]; rfl) ?_
        refine LinY.rd (.pointer (some ⟨ba,oa + i,none⟩)) (fun W hW=>by go_simp) (by simp only [Act.put,sa1,sa2,sa3]; rfl) ?_
        refine LinY.rd (.int .u8 x) (fun W hW=>by have h9:=hW.cell (uh HX) (by simp); go_simp) (by simp only [Act.put,sa1,sa2,sa3]; rfl) ?_
        refine LinY.mv (x:=.tmp 1) rfl (.slice (some ⟨bb,ob,none⟩) m d) rfl (by simp only [Act.put,sa1,sa2,sa3]; rfl) ?_
        refine LinY.mv (x:=.tmp 5) rfl (.int .i64 i) rfl (by simp only [Act.put,sa1,sa2,sa3]; rfl) ?_
        refine LinY.rd (.pointer (some ⟨bb,ob + i,none⟩)) (fun W hW=>by go_simp) (by simp only [Act.put,sa1,sa2,sa3]; rfl) ?_
        refine LinY.rd (.int .u8 y) (fun W hW=>by have h9:=hW.cell (uh HY) (by simp); go_simp) (by simp only [Act.put,sa1,sa2,sa3]; rfl) ?_
        refine LinY.rd (.bool true) (fun W hW=>by go_simp) (by simp only [Act.put,sa1,sa2,sa3]; rfl) ?_
        refine LinY.fin (ChL.fin ?_)
        have hd:=(Kept.refl [] wr).drew
        go_upto_region 5 with fail
        refine ln_l5 (by kernel_rfl) (by kernel_rfl) rfl (fun W=>Kept [] wr W) hd.drew ?_
        refine LinY.mv (x:=.tmp 0) rfl (.slice (some ⟨ba,oa,none⟩) n c) rfl (by simp only [Act.put,sa1,sa2,sa3]; rfl) ?_
        refine LinY.mv (x:=.tmp 5) rfl (.int .i64 i) rfl (by simp only [Act.put,sa1,sa2,sa3]; rfl) ?_
        refine LinY.rd (.pointer (some ⟨ba,oa + i,none⟩)) (fun W hW=>by go_simp) (by simp only [Act.put,sa1,sa2,sa3]; rfl) ?_
        refine LinY.rd (.int .u8 x) (fun W hW=>by have h9:=hW.cell (uh HX) (by simp); go_simp) (by simp only [Act.put,sa1,sa2,sa3]; rfl) ?_
        refine LinY.rd (.int .i64 x) (fun W hW=>by go_simp) (by simp only [Act.put,sa1,sa2,sa3]; rfl) ?_
        refine LinY.mv (x:=.tmp 1) rfl (.slice (some ⟨bb,ob,none⟩) m d) rfl (by simp only [Act.put,sa1,sa2,sa3]; rfl) ?_
        refine LinY.mv (x:=.tmp 5) rfl (.int .i64 i) rfl (by simp only [Act.put,sa1,sa2,sa3]; rfl) ?_
        refine LinY.rd (.pointer (some ⟨bb,ob + i,none⟩)) (fun W hW=>by go_simp) (by simp only [Act.put,sa1,sa2,sa3]; rfl) ?_
        refine LinY.rd (.int .u8 y) (fun W hW=>by have h9:=hW.cell (uh HY) (by simp); go_simp) (by simp only [Act.put,sa1,sa2,sa3]; rfl) ?_
        refine LinY.rd (.int .i64 y) (fun W hW=>by go_simp) (by simp only [Act.put,sa1,sa2,sa3]; rfl) ?_
        refine LinY.rd (.int .i64 ((x:Int) - (y:Int))) (fun W hW=>by go_simp) (by simp only [Act.put,sa1,sa2,sa3]; rfl) ?_
        refine ChL.op (.int .i64 ((x:Int) - (y:Int))) (by go_simp) (hd.drew) (by simp only [Act.put,sa1,sa2,sa3]; rfl) (ChL.fin ?_)
        go_wp2
        go_ret
        exact ⟨by rw [hC2]; rfl,(uh HK).trans hd.drew (by simp)⟩
    · have hend:lessI (a.drop i) (b.drop i) = (n:Int) - (m:Int):=by
        have e1:=uh HN
        have e2:=uh HM
        rw [xb7e _ _ (by
          by_cases q:i < n
          · exact Or.inr (List.drop_of_length_le (by omega))
          · exact Or.inl (List.drop_of_length_le (by omega))),List.length_drop,List.length_drop]
        omega
      rw [uh HL] at hend
      have HE:=hide hend
      clear hend
      by_cases q:i < n
      · have q1:(i:Int) < n:=by omega
        have q2:¬ (i:Int) < m:=by omega
        go_wp2
        go_ret
        exact ⟨by rw [uh HE]; first | rfl | (rw [hwr]) | (simp [hwr]),uh HK⟩
      · have q1:¬ (i:Int) < n:=by omega
        go_wp2
        go_ret
        exact ⟨by rw [uh HE]; first | rfl | (rw [hwr]) | (simp [hwr]),uh HK⟩
end
def putS (H:Hs) (q v:List Nat) (s:Bool × Prs) (y:List Nat × List Nat):Bool × Prs :=
  (s.1 || decide (kc H q y.1≤0),(if s.1 = false∧kc H q y.1≤0 then s.2++[(q,v)] else s.2)++(if kc H q y.1 = 0 then [] else [y]))
def putF (q v:List Nat) (s:Bool × Prs):Prs:=if s.1 = true then s.2 else s.2++[(q,v)]
theorem xa8k {H:Hs} {q v:List Nat}:∀ {L acc:Prs},(∀ y∈L,kc H q y.1 < 0)→L.foldl (putS H q v) (true,acc) = (true,acc++L)
  | [],acc,_=>by simp
  | y :: L,acc,h=>by
    have h1:=h y (by simp)
    rw [List.foldl_cons]
    have e:putS H q v (true,acc) y = (true,acc++[y]):=by
      unfold putS; rw [if_neg (by simp),if_neg (by omega)]; simp
    rw [e,xa8k (fun z hz=>h z (by simp [hz]))]
    simp
theorem xa9s {H:Hs} {q v:List Nat}:∀ {L acc:Prs},Srt H L→putF q v (L.foldl (putS H q v) (false,acc)) = acc++insP H q v L
  | [],acc,_=>by simp [putF,insP]
  | y :: L,acc,h=>by
    rw [List.foldl_cons,xa2p]
    by_cases g1:kc H q y.1 < 0
    · have e:putS H q v (false,acc) y = (true,acc++[(q,v),y]):=by
        unfold putS; rw [if_pos ⟨rfl,by show kc H q y.1≤0; omega⟩,if_neg (by omega),decide_eq_true (by omega)]; simp
      rw [e,xa8k (fun z hz=>xa4h g1 (h.head z hz)),if_pos g1]
      simp [putF]
    · by_cases g2:kc H q y.1 = 0
      · have e:putS H q v (false,acc) y = (true,acc++[(q,v)]):=by
          unfold putS; rw [if_pos ⟨rfl,by show kc H q y.1≤0; omega⟩,if_pos g2,decide_eq_true (by omega)]; simp
        rw [e,xa8k (fun z hz=>by rw [xa7z g2]; exact h.head z hz),if_neg g1,if_pos g2]
        simp [putF]
      · have e:putS H q v (false,acc) y = (false,acc++[y]):=by
          unfold putS; rw [if_neg (by simp; omega),if_neg g2,decide_eq_false (by omega)]; simp
        rw [e,xa9s h.tail,if_neg g1,if_neg g2]
        simp
def putI (H:Hs) (q v:List Nat) (L:Prs) (i:Nat):Bool × Prs:=(L.take i).foldl (putS H q v) (false,[])
theorem xb7u (H:Hs) (q v:List Nat) (L:Prs):putI H q v L 0 = (false,[]):=rfl
theorem xb0n (H:Hs) (q v:List Nat) (L:Prs) (i:Nat) (hi:i < L.length):putI H q v L (i + 1) = putS H q v (putI H q v L i) (L.getD i ([],[])):=by
  unfold putI
  rw [List.take_succ_eq_append_getElem hi,List.foldl_append,List.getD_eq_getElem?_getD,List.getElem?_eq_getElem hi]; rfl
theorem xc0c (H:Hs) (q v:List Nat) (L:Prs) (h:Srt H L):putF q v (putI H q v L L.length) = insP H q v L:=by
  unfold putI; rw [List.take_of_length_le (Nat.le_refl _),xa9s h]; simp
theorem xb9t (H:Hs) (q v:List Nat) (s:Bool × Prs) (y:List Nat × List Nat):(putS H q v s y).2.length≤s.2.length + 2:=by
  unfold putS
  rw [List.length_append]
  have h1:(if s.1 = false∧kc H q y.1≤0 then s.2++[(q,v)] else s.2).length≤s.2.length + 1:=by split <;> simp
  have h2:(if kc H q y.1 = 0 then ([]:Prs) else [y]).length≤1:=by split <;> simp
  omega
theorem xb3o (H:Hs) (q v:List Nat) (L:Prs):∀ i,i≤L.length→(putI H q v L i).2.length≤2 * i
  | 0,_=>by simp [xb7u]
  | i + 1,hi=>by
    have ih:=xb3o H q v L i (by omega)
    rw [xb0n H q v L i (by omega)]
    have:=xb9t H q v (putI H q v L i) (L.getD i ([],[]))
    omega
def ordI (H:Hs) (a b:List Nat):Int:=if lessI (H.kd a) (H.kd b) = 0 then lessI a b else lessI (H.kd a) (H.kd b)
theorem xc0u (H:Hs) (a b:List Nat):(ordI H a b < 0↔kc H a b < 0)∧(ordI H a b = 0↔kc H a b = 0):=by
  have h1:=xa6f (H.kd a) (H.kd b)
  have h2:=xa6f a b
  unfold ordI kc
  by_cases g:lessI (H.kd a) (H.kd b) = 0
  · rw [if_pos g,if_pos (h1.2.1 g)]; exact h2
  · rw [if_neg g,if_neg (fun e=>g (h1.2.2 e))]; exact h1
def kidI (H:Hs) (f d:Nat) (L:Prs) (i:Nat):List (List Nat):=((List.range i).filter (fun j=>!(ch H d j L).isEmpty)).map fun j=>nodP H f (ch H d j L)
def bmI (H:Hs) (d:Nat) (L:Prs) (i:Nat):Nat:=bmk (fun j=>!(ch H d j L).isEmpty) i
theorem xc0q {H:Hs} {f d:Nat} {L:Prs} {i:Nat} (h:(ch H d i L).isEmpty = false):kidI H f d L (i + 1) = kidI H f d L i++[nodP H f (ch H d i L)]:=by
  unfold kidI; rw [List.range_succ,List.filter_append,List.map_append]; simp [h]
theorem xc2x {H:Hs} {f d:Nat} {L:Prs} {i:Nat} (h:(ch H d i L).isEmpty = true):kidI H f d L (i + 1) = kidI H f d L i:=by
  unfold kidI; rw [List.range_succ,List.filter_append,List.map_append]; simp [h]
theorem xc2k {H:Hs} {d:Nat} {L:Prs} {i:Nat} (h:(ch H d i L).isEmpty = false):bmI H d L (i + 1) = bmI H d L i + 2 ^ i:=by
  unfold bmI; conv=>lhs; unfold bmk
  rw [if_pos (by rw [h]; rfl)]
theorem bmI_no {H:Hs} {d:Nat} {L:Prs} {i:Nat} (h:(ch H d i L).isEmpty = true):bmI H d L (i + 1) = bmI H d L i:=by
  unfold bmI; conv=>lhs; unfold bmk
  rw [if_neg (by rw [h]; decide)]
theorem bmI_lt (H:Hs) (d:Nat) (L:Prs) (i:Nat):bmI H d L i < 2 ^ i:=bmk_lt _ i
theorem xc1w (H:Hs) (d:Nat) (L:Prs):bmI H d L 16 = bm H d L:=rfl
theorem xb9n (H:Hs) (f d:Nat) (L:Prs):kidI H f d L 16 = (kidsL H d L).map (nodP H f):=by
  unfold kidI kidsL; rw [prs_eq,List.map_map]; rfl
theorem xc1h (H:Hs) (f d:Nat) (L:Prs) (i:Nat):(kidI H f d L i).length≤i:=by
  unfold kidI; rw [List.length_map]; exact Nat.le_trans (List.length_filter_le _ _) (by simp)
theorem xb9u {H:Hs} (hH:H.Ok) {L:Prs} (h:Srt H L) (hn:L≠[]):sgl H L = decide (H.kd (L.getD 0 ([],[])).1 = H.kd (L.getD (L.length - 1) ([],[])).1):=by
  cases L with
  | nil=>exact absurd rfl hn
  | cons x L =>
    have el:((x :: L).getD ((x :: L).length - 1) ([],[])) = (x :: L).getLast (by simp):=by
      rw [List.getLast_eq_getElem,List.getD_eq_getElem?_getD,List.getElem?_eq_getElem (by simp)]; rfl
    rw [el]
    by_cases g:H.kd x.1 = H.kd ((x :: L).getLast (by simp)).1
    · rw [xc0b hH h g]
      exact (decide_eq_true g).symm
    · rw [List.getD_cons_zero,decide_eq_false g]
      cases hs:sgl H (x :: L) with
      | false=>rfl
      | true=>exact absurd (xa1t.1 hs x (by simp) _ (List.getLast_mem _)) g
section
open Go.RowKit Go.BigFrame
def fitP (q v:List Nat):Bool:=decide (q.length≤64∧v.length≤256)
theorem xa7b (x y:Value) (q v:List Nat) (w:World) (hx:Rd w x q) (hy:Rd w y v) :
    Calls Tryz.prog 35 #[x,y] w fun e w'=>e = .returned (.int .i64 (if fitP q v = true then 0 else 2))∧w' = w:=by
  obtain ⟨ao,n,c,rfl,h1,_⟩:=hx
  obtain ⟨bo,m,d,rfl,g1,_⟩:=hy
  have he:fitP q v = decide (n≤64∧m≤256):=by unfold fitP; rw [h1,g1]
  rw [he]
  clear he h1 g1
  by_cases p1:n≤64
  · have p2:¬ (n:Int) > 64:=by omega
    have p3:¬ (64:Int) < n:=by omega
    by_cases r1:m≤256
    · have r2:¬ (m:Int) > 256:=by omega
      have r3:¬ (256:Int) < m:=by omega
      rw [decide_eq_true ⟨p1,r1⟩,if_pos rfl]
      go_enter Tryz.func35,Tryz.ntmps35
      go_wp2
      go_ret
      exact ⟨rfl,rfl⟩
    · have r2:(m:Int) > 256:=by omega
      have r3:(256:Int) < m:=by omega
      rw [decide_eq_false (fun h=>r1 h.2),if_neg (by decide)]
      go_enter Tryz.func35,Tryz.ntmps35
      go_wp2
      go_ret
      exact ⟨rfl,rfl⟩
  · have p2:(n:Int) > 64:=by omega
    have p3:(64:Int) < n:=by omega
    rw [decide_eq_false (fun h=>p1 h.1),if_neg (by decide)]
    go_enter Tryz.func35,Tryz.ntmps35
    go_wp2
    go_ret
    exact ⟨rfl,rfl⟩
def itC (D:List Nat) (kv vv:Value):List Value:=D.map u8++([kv,vv]++[])
theorem xa2e {D:List Nat} (h:D.length = 32) (kv vv:Value):(itC D kv vv).length = 34:=by simp [itC,h]
def zit:Array Value:=(itC (List.replicate 32 0) (.slice none 0 0) (.slice none 0 0)).toArray
theorem lit_it:(#[.int .u8 0,.int .u8 0,.int .u8 0,.int .u8 0,.int .u8 0,.int .u8 0,.int .u8 0,.int .u8 0,.int .u8 0,.int .u8 0,.int .u8 0,.int .u8 0,.int .u8 0,.int .u8 0,.int .u8 0,.int .u8 0,.int .u8 0,.int .u8 0,.int .u8 0,.int .u8 0,.int .u8 0,.int .u8 0,.int .u8 0,.int .u8 0,.int .u8 0,.int .u8 0,.int .u8 0,.int .u8 0,.int .u8 0,.int .u8 0,.int .u8 0,.int .u8 0,.slice none 0 0,.slice none 0 0]:Array Value) = zit:=rfl
theorem Tryz.size_it:(Tryz.prog.info? 116).map (·.size) = some 34:=by kernel_rfl
theorem Tryz.infoIt:(Tryz.prog.info? 116).map (fun i=>(i.zero,i.size,i.bytes)) = some (some (.agg zit),34,80):=by kernel_rfl
theorem xb8h {D:List Nat} {kv vv:Value} (h1:kv.oneCell' = true) (h2:vv.oneCell' = true):∀ u∈itC D kv vv,u.oneCell' = true:=by
  intro u hu
  unfold itC at hu
  rcases List.mem_append.1 hu with h | h
  · obtain ⟨x,_,rfl⟩:=List.mem_map.1 h; rfl
  · simp only [List.cons_append,List.nil_append,List.mem_cons,List.not_mem_nil,or_false] at h
    rcases h with rfl | rfl
    · exact h1
    · exact h2
theorem xa7p {D:List Nat} {kv vv:Value} (h1:kv.oneCell' = true) (h2:vv.oneCell' = true):(itC D kv vv).toArray.all (·.oneCell') = true :=
  Array.all_eq_true_iff_forall_mem.2 (fun v hv=>xb8h h1 h2 v (by simpa using hv))
theorem xa1d {D:List Nat} (h:D.length = 32) (kv vv:Value):(itC D kv vv).toArray.size = 34:=by rw [List.size_toArray,xa2e h]
theorem it_row {W:World} {g:Nat} {D:List Nat} {kv vv:Value} {t:TypeId} {fr:Nat × Nat} (h:W.heap[g]? = some (.cells (itC D kv vv).toArray t fr)) (hD:D.length = 32):W.rangeAt g 0 (D.map u8)∧W.cell? ⟨g,32,none⟩ = some kv∧W.cell? ⟨g,33,none⟩ = some vv:=by
  have h1:=xa0l [] (D.map u8) ([kv,vv]++[]) (n:=0) (by simpa [itC] using h) rfl
  have h2:=xa0l (D.map u8) [kv,vv] [] (n:=32) h (by rw [List.length_map,hD])
  exact ⟨h1,h2 0 _ rfl,h2 1 _ rfl⟩
theorem xb2b {W:World} {g:Nat} {D:List Nat} {kv vv:Value} {t:TypeId} {fr:Nat × Nat} (h:W.heap[g]? = some (.cells (itC D kv vv).toArray t fr)) (hD:D.length = 32):W.rangeAt g 32 [kv,vv] :=
  xa0l (D.map u8) [kv,vv] [] (n:=32) h (by rw [List.length_map,hD])
def itR (k:Nat) (l:List VP) (L:Prs):List (List Value):=(l.zip L).map fun p=>itC ((hsZ k).kd p.2.1) p.1.1 p.1.2
theorem xa9l {k:Nat} {l:List VP} {L:Prs} (h:l.length = L.length):(itR k l L).length = l.length:=by simp [itR,h]
theorem xa2j {k:Nat} {l:List VP} {L:Prs}:∀ r∈itR k l L,r.length = 34:=by
  intro r hr
  obtain ⟨p,_,rfl⟩:=List.mem_map.1 hr
  exact xa2e (xa0h _ _) _ _
theorem xc2y {k:Nat} {l l':List VP} {L L':Prs} (h:l.length = L.length):itR k (l++l') (L++L') = itR k l L++itR k l' L':=by
  unfold itR; rw [List.zip_append h,List.map_append]
theorem itR_at {k:Nat} {l:List VP} {L:Prs} (h:l.length = L.length) (i:Nat) (hi:i < l.length):(itR k l L)[i]'(by rw [xa9l h]; exact hi) = itC ((hsZ k).kd (L.getD i ([],[])).1) (l.getD i (undef,undef)).1 (l.getD i (undef,undef)).2:=by
  have hi2:i < L.length:=by omega
  simp [itR,List.getD_eq_getElem?_getD,List.getElem?_eq_getElem hi,List.getElem?_eq_getElem hi2]
theorem xc2h {S:Nat→Prop} {s:Nat} {W W':World} {v:Value} {rows:List (List Value)} (h:RdC s W v rows) (a:Agr S W W') (hs:∀ x∈blk v,S x):RdC s W' v rows:=by
  obtain ⟨ao,len,cap,rfl,h1,h2,h3,h4⟩:=h
  refine ⟨ao,len,cap,rfl,h1,h2,h3,fun hp=>?_⟩
  obtain ⟨b,off,rfl,hc⟩:=h4 hp
  exact ⟨b,off,rfl,fun i hi j u hu=>a.cell (hc i hi j u hu) (hs b (by simp [blk]))⟩
def IAt (T:Nat→Prop) (k:Nat) (W:World) (v:Value) (L:Prs):Prop:=∃ l:List VP,RdC 34 W v (itR k l L)∧(∀ x∈blk v,T x∧x < W.heap.size)∧PR T W l L
theorem IAt.agr {T:Nat→Prop} {k:Nat} {W W':World} {v:Value} {L:Prs} (h:IAt T k W v L) (a:Agr T W W'):IAt T k W' v L:=by
  obtain ⟨l,h1,h2,h3⟩:=h
  exact ⟨l,xc2h h1 a (fun x hx=>(h2 x hx).1),fun x hx=>⟨(h2 x hx).1,Nat.lt_of_lt_of_le (h2 x hx).2 a.1⟩,h3.agr a⟩
theorem IAt.nil (T:Nat→Prop) (k:Nat) (W:World):IAt T k W (.slice none 0 0) []:=⟨[],RdC.nil _ _,by simp [blk],PR.nil _ _⟩
theorem IAt.parts {T:Nat→Prop} {k:Nat} {W:World} {v:Value} {L:Prs} (h:IAt T k W v L):∃ (ao:Option Addr) (c:Nat) (l:List VP),v = .slice ao L.length c∧L.length≤c∧c≤9223372036854775807∧l.length = L.length∧PR T W l L ∧
    (0 < L.length→∃ b off,ao = some ⟨b,off,none⟩∧T b∧∀ i,i < L.length→W.rangeAt b (off + i * 34) (itC ((hsZ k).kd (L.getD i ([],[])).1) (l.getD i (undef,undef)).1 (l.getD i (undef,undef)).2)):=by
  obtain ⟨l,⟨ao,len,cap,rfl,h1,h2,h3,h4⟩,hb,hp⟩:=h
  have hl:=hp.1
  rw [xa9l hl,hl] at h1
  subst h1
  refine ⟨ao,cap,l,rfl,h2,h3,hl,hp,fun h0=>?_⟩
  obtain ⟨b,off,rfl,hc⟩:=h4 h0
  refine ⟨b,off,rfl,(hb b (by simp [blk])).1,fun i hi=>?_⟩
  have h9:=hc i (by rw [xa9l hl,hl]; exact hi)
  rw [itR_at hl i (by omega)] at h9
  exact h9
theorem xb8t {w:World} {v:Value} {bs:List Nat} (h:Rd w v bs):v.oneCell' = true:=by obtain ⟨_,_,_,rfl,_⟩:=h; rfl
theorem PR.one' {T:Nat→Prop} {W:World} {l:List VP} {L:Prs} (h:PR T W l L) (i:Nat) (hi:i < l.length):(l.getD i (undef,undef)).1.oneCell' = true∧(l.getD i (undef,undef)).2.oneCell' = true:=by
  obtain ⟨h1,h2⟩:=(h.2 i hi).now
  exact ⟨xb8t h1,xb8t h2⟩
def tS (T:Nat→Prop) (v:Value):Nat→Prop:=fun y=>T y∧v.ownBlock≠some y
structure ILay (T:Nat→Prop) (B:Nat) (k:Nat) (w:World) (v:Value) (l:List VP) (L:Prs):Prop where
  own:w.ownsRow B 116 34 v l.length (itR k l L).flatten
  pr:PR (tS T v) w l L
theorem ILay.nil (T:Nat→Prop) (B k:Nat) (w:World):ILay T B k w (.slice none 0 0) [] []:=⟨World.ownsRow_nil _ _ _ _,PR.nil _ _⟩
theorem ILay.agr {T:Nat→Prop} {B k:Nat} {w w':World} {v:Value} {l:List VP} {L:Prs} (h:ILay T B k w v l L) (kk:Kept [] w w'):ILay T B k w' v l L:=⟨kk.owns h.own (by simp),h.pr.agr (Agr.nil kk)⟩
theorem ILay.at_ {T:Nat→Prop} {B k:Nat} {w:World} {v:Value} {l:List VP} {L:Prs} (h:ILay T B k w v l L) (hT:∀ y,B≤y→T y):IAt T k w v L:=by
  have hl:=h.pr.1
  refine ⟨l,xa1z (by rw [xa9l hl]; exact h.own) xa2j,fun x hx=>?_,h.pr.mono (fun x hx=>hx.1)⟩
  obtain ⟨ao,cap,rfl⟩:=xa0i h.own
  cases ao with
  | none=>simp [blk] at hx
  | some a =>
    rcases h.own.2 with ⟨e,_⟩ | ⟨g,c,cur,e,hg,_⟩
    · cases e
    · injection e with e1
      injection e1 with e2
      have:x = g:=by rw [e2] at hx; simpa [blk] using hx
      have hlt:=(h.own.lt x (by rw [this,e2]; rfl)).2
      exact ⟨hT x (by omega),hlt⟩
theorem ILay.snoc {T:Nat→Prop} {B k:Nat} {w w1:World} {v v':Value} {l:List VP} {L:Prs} {kz vz:Value} {a b:List Nat} (h:ILay T B k w v l L) (hkv:Sty (tS T v) w (fun w=>Rd w kz a∧Rd w vz b))
    (ho:w1.ownsRow B 116 34 v' (l.length + 1) ((itR k l L).flatten++(itR k [(kz,vz)] [(a,b)]).flatten)) (hg:w.grownBy w1 v.ownBlock) (hb:v'.ownBlock = v.ownBlock∨v'.ownBlock = some w.heap.size):ILay T B k w1 v' (l++[(kz,vz)]) (L++[(a,b)]):=by
  have hp:=(h.pr.app (PR.one (S:=tS T v) (W:=w) (x:=kz) (y:=vz) (a:=a) (b:=b) (fun w' k'=>(hkv w' k').1) (fun w' k'=>(hkv w' k').2))).shrink
  have hK:=(Kept.refl v.ownBlock.toList w).grown hg (by intro x hx; left; simp [hx])
  have ha:Agr (lowS (tS T v) w) w w1:=⟨hK.size,fun x hx hl=>hK.block x hl (by
    intro hm
    have:v.ownBlock = some x:=by simpa using hm
    exact hx.1.2 this)⟩
  refine ⟨?_,(hp.agr ha).mono (fun x hx=>⟨hx.1.1,?_⟩)⟩
  · rw [List.length_append,xc2y h.pr.1,List.flatten_append]; exact ho
  · rcases hb with e | e
    · rw [e]; exact hx.1.2
    · rw [e]; intro e2; have h2:=hx.2; injection e2 with e3; omega
theorem infoItp:∃ i,Tryz.prog.info? 116 = some i∧i.zero = some (.agg zit)∧i.size = 34:=by
  have h:=Tryz.infoIt
  generalize Tryz.prog.info? 116 = o at h
  cases o with
  | none=>cases h
  | some i =>
    have h1:=Option.some.inj h
    exact ⟨i,rfl,(Prod.mk.inj h1).1,(Prod.mk.inj (Prod.mk.inj h1).2).1⟩
theorem xc0o {o:Oper} {a:Act} (w:World) (x:Operand) (ho:o.op = .buildSlice 26 1 #[(0,x)]) (cs:List Value) (hcs:cs.length = 34) (hx:a.eval x = .agg cs.toArray):(execOp a.eval o).run Tryz.prog w = .ok (.value (.slice (some ⟨w.heap.size,0,none⟩) 1 1)) (w.alloc (.cells cs.toArray 116)):=by
  obtain ⟨i0,hi,hz0,hz1⟩:=infoItp
  have h9:=Great.fill_whole (s:=34) (by omega) [Value.agg cs.toArray] ((Array.range (1 * 34)).map ((Value.agg zit).cells[· % (Value.agg zit).cells.size]!)) (by
    intro v hv
    have e:v = Value.agg cs.toArray:=by simpa using hv
    subst e
    show cs.toArray.size = 34
    rw [List.size_toArray,hcs]) (by simp)
  have hb:=run_buildSlice w 26 116 1 #[(0,.agg cs.toArray)] cs.toArray i0 _ Tryz.underlying26 hi hz0 (by rw [hz1]; decide) (by rw [hz1]; decide) (by
    rw [hz1]
    refine Eq.trans h9 ?_
    show some (cs.toArray.toList++[]).toArray = some cs.toArray
    rw [List.append_nil])
  unfold execOp
  simp only [ho,List.map_toArray,List.map_cons,List.map_nil,hx,Sem.run_bind,hb,Result.andThen_ok]
  rfl
theorem xa1g {ops:Array Oper} {rest:List Oper} {o:Oper} {a:Act} {w:World} {Q:Exit→Act→World→Prop} (hw:Region.wanted o (yielded ops a.tmps) = true) (x:Operand) (ho:o.op = .buildSlice 26 1 #[(0,x)]) (cs:List Value) (hcs:cs.length = 34) (hx:a.eval x = .agg cs.toArray)
    (h:wpList Tryz.prog ops Q rest (a.put o.dst (.slice (some ⟨w.heap.size,0,none⟩) 1 1)) (w.alloc (.cells cs.toArray 116))):wpList Tryz.prog ops Q (o :: rest) a w :=
  wpList_want hw fun _ hK=>by
    unfold Oper.wp
    rw [xc0o w x ho cs hcs hx]
    exact hK _ _ h
theorem lit_rd {W:World} {k g:Nat} {q v:List Nat} {kv vv:Value} (h:W.heap[g]? = some (.cells (itC ((hsZ k).kd q) kv vv).toArray 116 (0,0))):RdC 34 W (.slice (some ⟨g,0,none⟩) 1 1) (itR k [(kv,vv)] [(q,v)]) :=
  ⟨_,1,1,rfl,rfl,Nat.le_refl _,by omega,fun _=>⟨g,0,rfl,fun j hj=>by
    have h0:j = 0:=by simp [itR] at hj; omega
    subst h0
    exact xa0l [] (itC ((hsZ k).kd q) kv vv) [] (by rw [List.nil_append,List.append_nil]; exact h) rfl⟩⟩
theorem xa4t {k:Nat} {q v:List Nat} {kv vv:Value} (h1:kv.oneCell' = true) (h2:vv.oneCell' = true):∀ r∈itR k [(kv,vv)] [(q,v)],∀ u∈r,u.oneCell' = true:=by
  intro r hr u hu
  have e:r = itC ((hsZ k).kd q) kv vv:=by simpa [itR] using hr
  subst e
  exact xb8h h1 h2 u hu
end
section
open Go Go.RowKit Go.BigFrame
section
variable {P:Program} {Q:Exit→Act→World→Prop} {S:World→Prop}
theorem xc0p {id:Nat} {O:Array Oper} {a:Act} {w:World} {R C:List Nat} {rs cs:List Oper} (hm:P.follows .mixedOrders = true) (hb:linB O R C [] = true) (hR:R.map (O[·]?) = rs.map some) (hC:C.map (O[·]?) = cs.map some) (hg:cs.all (fun o=>o.guard.isNone) = true)
    (hS:S w.drew) (h:LinG P O S (ChL P Q S (Q .normal) cs) rs a w.drew):(Code.region id O true).wp P Q a w:=by
  unfold linB at hb
  simp only [Bool.and_eq_true,decide_eq_true_eq] at hb
  obtain ⟨⟨b1,b2⟩,b3,b4,b5,b6⟩:=hb
  rw [List.all_eq_true] at hg
  refine wp_region_noPanic ?_
  refine wp_region_held_drew (S:=S) hm hS (fun _=>?_)
  rw [b2]
  have h2:=fun a w h=>xa2s (P:=P) (Q:=Q) (S:=S) (xa2z (decide_eq_true b6)) C cs (linD R (linS O)) a w hC (fun o ho=>by simpa using hg o ho) b4 rfl h
  have:=xa2q (P:=P) (Q:=Q) (S:=S) b1 h2 R rs (linS O) a w.drew hR b3 rfl hS h
  unfold linS at this
  rw [show R.length + (C.length + (([]:List Nat).length + 0)) = R.length + (C.length + 0) from rfl]
  rw [show R.length + (C.length + (([]:List Nat).length + 0)) = R.length + (C.length + 0) from rfl] at b2
  rw [b2] at this
  exact this
end
theorem lr_or {P:Program} {Q:Exit→Act→World→Prop} {id:Nat} {o0 o1 o2 o3 o4 o5:Oper} {a:Act} {w:World} (hm:P.follows .mixedOrders = true) (hb:linB #[o0,o1,o2,o3,o4,o5] [0,1,2,3] [4,5] [] = true) (hg:([o0,o1,o2,o3]++([o4,o5]++[])).all (fun o=>o.guard.isNone) = true) (S:World→Prop) (hS:S w.drew)
    (h:LinY P S (ChL P Q S (Q .normal) [o4,o5]) [o0,o1,o2,o3] a w.drew):(Code.region id #[o0,o1,o2,o3,o4,o5] true).wp P Q a w:=xa1c (R:=[0,1,2,3]) (C:=[4,5]) (rs:=[o0,o1,o2,o3]) (cs:=[o4,o5]) hm hb rfl rfl hg hS h
theorem lr_sp {P:Program} {Q:Exit→Act→World→Prop} {id:Nat} {o0 o1 o2 o3 o4 o5 o6 o7 o8 o9:Oper} {a:Act} {w:World} (hm:P.follows .mixedOrders = true) (hb:linB #[o0,o1,o2,o3,o4,o5,o6,o7,o8,o9] [0,1,2,3,4,5,6,7] [8,9] [] = true) (hg:([o0,o1,o2,o3,o4,o5,o6,o7]++([o8,o9]++[])).all (fun o=>o.guard.isNone) = true) (S:World→Prop) (hS:S w.drew)
    (h:LinY P S (ChL P Q S (Q .normal) [o8,o9]) [o0,o1,o2,o3,o4,o5,o6,o7] a w.drew):(Code.region id #[o0,o1,o2,o3,o4,o5,o6,o7,o8,o9] true).wp P Q a w:=xa1c (R:=[0,1,2,3,4,5,6,7]) (C:=[8,9]) (rs:=[o0,o1,o2,o3,o4,o5,o6,o7]) (cs:=[o8,o9]) hm hb rfl rfl hg hS h
theorem xc3w {P:Program} {Q:Exit→Act→World→Prop} {id:Nat} {o0 o1 o2 o3 o4 o5 o6 o7 o8 o9 o10 o11 o12 o13 o14 o15 o16:Oper} {a:Act} {w:World} (hm:P.follows .mixedOrders = true) (hb:linB #[o0,o1,o2,o3,o4,o5,o6,o7,o8,o9,o10,o11,o12,o13,o14,o15,o16] [0,1,2,3,4,5,6,7,8,9,10,11,12,13,14,15,16] [] [] = true) (hg:([o0,o1,o2,o3,o4,o5,o6,o7,o8,o9,o10,o11,o12,o13,o14,o15,o16]++([]++[])).all (fun o=>o.guard.isNone) = true) (S:World→Prop) (hS:S w.drew)
    (h:LinY P S (ChL P Q S (Q .normal) []) [o0,o1,o2,o3,o4,o5,o6,o7,o8,o9,o10,o11,o12,o13,o14,o15,o16] a w.drew):(Code.region id #[o0,o1,o2,o3,o4,o5,o6,o7,o8,o9,o10,o11,o12,o13,o14,o15,o16] true).wp P Q a w:=xa1c (R:=[0,1,2,3,4,5,6,7,8,9,10,11,12,13,14,15,16]) (C:=[]) (rs:=[o0,o1,o2,o3,o4,o5,o6,o7,o8,o9,o10,o11,o12,o13,o14,o15,o16]) (cs:=[]) hm hb rfl rfl hg hS h
theorem lr_ss6 {P:Program} {Q:Exit→Act→World→Prop} {id:Nat} {o0 o1 o2 o3 o4 o5 o6 o7 o8 o9 o10 o11 o12 o13 o14 o15 o16 o17 o18 o19 o20 o21 o22 o23 o24 o25:Oper} {a:Act} {w:World} (hm:P.follows .mixedOrders = true) (hb:linB #[o0,o1,o2,o3,o4,o5,o6,o7,o8,o9,o10,o11,o12,o13,o14,o15,o16,o17,o18,o19,o20,o21,o22,o23,o24,o25] [0,1,2,3,4,5,6,7,8,9,10,11,12,13,14,15,16,17,18,19,20,21,22,23,24,25] [] [] = true) (S:World→Prop) (hS:S w.drew)
    (h:LinG P #[o0,o1,o2,o3,o4,o5,o6,o7,o8,o9,o10,o11,o12,o13,o14,o15,o16,o17,o18,o19,o20,o21,o22,o23,o24,o25] S (Q .normal) [o0,o1,o2,o3,o4,o5,o6,o7,o8,o9,o10,o11,o12,o13,o14,o15,o16,o17,o18,o19,o20,o21,o22,o23,o24,o25] a w.drew):(Code.region id #[o0,o1,o2,o3,o4,o5,o6,o7,o8,o9,o10,o11,o12,o13,o14,o15,o16,o17,o18,o19,o20,o21,o22,o23,o24,o25] true).wp P Q a w:=xb8p (R:=[0,1,2,3,4,5,6,7,8,9,10,11,12,13,14,15,16,17,18,19,20,21,22,23,24,25]) (rs:=[o0,o1,o2,o3,o4,o5,o6,o7,o8,o9,o10,o11,o12,o13,o14,o15,o16,o17,o18,o19,o20,o21,o22,o23,o24,o25]) hm hb rfl hS h
theorem lr_si {P:Program} {Q:Exit→Act→World→Prop} {id:Nat} {o0 o1 o2 o3 o4 o5 o6 o7 o8 o9 o10 o11 o12 o13 o14 o15 o16 o17:Oper} {a:Act} {w:World} (hm:P.follows .mixedOrders = true) (hb:linB #[o0,o1,o2,o3,o4,o5,o6,o7,o8,o9,o10,o11,o12,o13,o14,o15,o16,o17] [0,1,2,3,4,5,6,7,8,9,10,11,12,13,14,15,16] [17] [] = true) (hg:[o17].all (fun o=>o.guard.isNone) = true) (S:World→Prop) (hS:S w.drew)
    (h:LinG P #[o0,o1,o2,o3,o4,o5,o6,o7,o8,o9,o10,o11,o12,o13,o14,o15,o16,o17] S (ChL P Q S (Q .normal) [o17]) [o0,o1,o2,o3,o4,o5,o6,o7,o8,o9,o10,o11,o12,o13,o14,o15,o16] a w.drew):(Code.region id #[o0,o1,o2,o3,o4,o5,o6,o7,o8,o9,o10,o11,o12,o13,o14,o15,o16,o17] true).wp P Q a w:=xc0p (R:=[0,1,2,3,4,5,6,7,8,9,10,11,12,13,14,15,16]) (C:=[17]) (rs:=[o0,o1,o2,o3,o4,o5,o6,o7,o8,o9,o10,o11,o12,o13,o14,o15,o16]) (cs:=[o17]) hm hb rfl rfl hg hS h
end
section
open Go.RowKit Go.BigFrame
set_option maxHeartbeats 1000000 in
theorem xa4l (d:List Nat) (i:Nat) (w:World) (hd:Dg d) (hi:i < 64) :
    Calls Tryz.prog 61 #[.agg (brow d),.int .i64 i] w fun e w'=>e = .returned (.int .i64 (dgt d i:Int))∧Kept [] w w':=by
  have hx:d.getD (i / 2) 0 < 256:=by rw [List.getD_eq_getElem?_getD,List.getElem?_eq_getElem (by have:=hd.1; omega)]; exact hd.2 _ (List.getElem_mem _)
  have HA:=hide (heap_alloc_new w (.cells (brow d) 50))
  have ci:=xa0q (uh HA) (i / 2) (by have:=hd.1; omega)
  have HK:=hide ((Kept.refl [] w).alloc (.cells (brow d) 50))
  clear hd
  obtain ⟨x,he⟩:∃ x,d.getD (i / 2) 0 = x:=⟨_,rfl⟩
  obtain ⟨j,hj⟩:∃ j,i / 2 = j:=⟨_,rfl⟩
  rw [he] at hx ci
  have hj2:(i:Int).tdiv 2 = j:=by rw [Int.tdiv_eq_ediv_of_nonneg (by omega)]; omega
  have hj3:(i:Int) / 2 = j:=by omega
  have hj4:(j:Int) < 32:=by omega
  have t1:(x:Int).tdiv 16 = ((x / 16:Nat):Int):=by rw [Int.tdiv_eq_ediv_of_nonneg (by omega)]; omega
  have t2:(x:Int).tmod 16 = ((x % 16:Nat):Int):=by rw [Int.tmod_eq_emod_of_nonneg (by omega)]; omega
  have w1:IntKind.u8.wrap ((x / 16:Nat):Int) = ((x / 16:Nat):Int):=by simp [IntKind.wrap,IntKind.signed,IntKind.bits]; omega
  have w2:IntKind.u8.wrap ((x % 16:Nat):Int) = ((x % 16:Nat):Int):=by simp [IntKind.wrap,IntKind.signed,IntKind.bits]; omega
  have w3:IntKind.i64.wrap ((x / 16:Nat):Int) = ((x / 16:Nat):Int):=by simp [IntKind.wrap,IntKind.signed,IntKind.bits]; omega
  have w4:IntKind.i64.wrap ((x % 16:Nat):Int) = ((x % 16:Nat):Int):=by simp [IntKind.wrap,IntKind.signed,IntKind.bits]; omega
  rw [hj] at ci
  by_cases hp:i % 2 = 0
  · have hp2:(i:Int) % 2 = 0:=by omega
    have hp3:(i:Int).tmod 2 = 0:=by rw [Int.tmod_eq_emod_of_nonneg (by omega)]; omega
    have HR:=hide (by unfold dgt; rw [if_pos hp,he]:dgt d i = x / 16)
    go_enter Tryz.func61,Tryz.ntmps61
    go_wp2
    go_ret
    exact ⟨by rw [uh HR]; first | rfl | (congr 2; omega),uh HK⟩
  · have hp2:(i:Int) % 2 = 1:=by omega
    have hp3:(i:Int).tmod 2 = 1:=by rw [Int.tmod_eq_emod_of_nonneg (by omega)]; omega
    have HR:=hide (by unfold dgt; rw [if_neg hp,he]:dgt d i = x % 16)
    go_enter Tryz.func61,Tryz.ntmps61
    go_wp2
    go_ret
    exact ⟨by rw [uh HR]; first | rfl | (congr 2; omega),uh HK⟩
theorem xb0y (v:Value) (bs:List Nat) (w:World) (h:Rd w v bs) :
    Calls Tryz.prog 92 #[v] w fun e w'=>∃ v',e = .returned v'∧Rd w' v' bs∧(∀ x∈blk v',w.heap.size≤x)∧Kept [] w w' :=
  (xb9g v bs w h).mono fun e w' ⟨h1,h2,h3⟩=>⟨_,h1,xa3o h3 h.byte h.len,by simp [blk],h2⟩
theorem itmI:∃ i,Tryz.prog.info? 116 = some i∧i.zero = some (.agg zit):=by
  obtain ⟨i,h1,h2,_⟩:=infoItp
  exact ⟨i,h1,h2⟩
theorem fitm:∀ fs,Tryz.prog.underlying 116 = some (.struct fs)→fs.toList.mapM (fun f=>(Tryz.prog.info? f.type).map fun i=>(f.offset,i.size)) = some [(0,32),(32,2)]:=by
  intro fs hfs
  rw [Tryz.underlying116] at hfs
  injection hfs with hfs
  injection hfs with hfs
  subst hfs
  kernel_rfl
theorem xb5v (D:List Nat) (hD:D.length = 32) (x y:Value):Tryz.prog.built 116 [(0,.agg (brow D)),(1,.agg #[x,y])] = some (itC D x y).toArray:=by
  obtain ⟨it,hit,hz⟩:=itmI
  obtain ⟨fs,hfs⟩:∃ fs,Tryz.prog.underlying 116 = some (.struct fs):=⟨_,Tryz.underlying116⟩
  have hpl:=fitm fs hfs
  unfold Program.built
  rw [hit,hfs]
  simp only [hz,hpl,Value.cells]
  unfold zit itC
  have z1:(List.replicate 32 0:List Nat).length = 32:=List.length_replicate
  generalize (List.replicate 32 0:List Nat) = z at z1 ⊢
  have s1:=xa1e (place:=([(0,32),(32,2)].toArray[·]?)) (i:=0) (n:=32) (rest:=[(1,.agg #[x,y])]) [] (z.map u8) ([.slice none 0 0,.slice none 0 0]++[]) (D.map u8) (X:=.agg (brow D)) rfl rfl (by rw [List.length_map,hD]) (by rw [List.length_map,z1])
  have s2:=xa1e (place:=([(0,32),(32,2)].toArray[·]?)) (i:=1) (n:=2) (rest:=[]) (D.map u8) [.slice none 0 0,.slice none 0 0] [] [x,y] (X:=.agg #[x,y]) rfl (by show some (32,2) = some ((D.map u8).length,2); rw [List.length_map,hD]) rfl rfl
  exact s1.trans s2
set_option maxHeartbeats 2000000 in
theorem xb9o (k:Nat) (kv vv:Value) (q v:List Nat) (w:World) (hk:1≤k∧k≤32) (hku:Rd w kv q) (hvu:Rd w vv v) (hq:q.length≤140737488351232) :
    Calls Tryz.prog 62 #[.int .i64 k,kv,vv] w fun e w'=>∃ kz vz,e = .returned (.agg (itC ((hsZ k).kd q) kz vz).toArray)∧(Rd w' kz q∧Rd w' vz v)∧(∀ x,x∈blk kz∨x∈blk vz→w.heap.size≤x)∧Kept [] w w':=by
  have hDl:((hsZ k).kd q).length = 32:=xa0h _ _
  have hDe:sumD (k:Int) (2 :: q) = (hsZ k).kd q:=rfl
  have HKU:=hide hku
  have HVU:=hide hvu
  generalize (hsZ k).kd q = D at hDl hDe ⊢
  have HDE:=hide hDe
  have HZ0:=hide (heap_alloc_new w (.cells zit 116))
  have HK0:=hide ((Kept.refl [] w).alloc (.cells zit 116))
  clear hku hvu hDe
  go_enter Tryz.func62,Tryz.ntmps62
  go_wp2_with fail
  rw [lit_it]
  refine Calls.mono (xa4d k kv q _ hk ((uh HKU).old (uh HK0) (by simp)) hq) ?_
  rintro e w1 ⟨rfl,k1⟩
  rw [uh HDE]
  have HK1:=hide ((uh HK0).trans k1 (by simp))
  have HZ1:=hide (k1.heap (uh HZ0) (by simp))
  clear k1
  go_wp2_with fail
  refine Calls.mono (xb0y kv q _ ((uh HKU).old (uh HK1) (by simp))) ?_
  rintro e w2 ⟨kz,rfl,ra,na,k2⟩
  have HK2:=hide ((uh HK1).trans k2 (by simp))
  have HZ2:=hide (k2.heap (uh HZ1) (by simp))
  have HRA:=hide ra
  have HNA:=hide na
  obtain ⟨p1,p2,p3,rfl,_⟩:=id ra
  clear k2 ra na
  go_wp2_with fail
  refine Calls.mono (xb0y vv v _ ((uh HVU).old (uh HK2) (by simp))) ?_
  rintro e w3 ⟨vz,rfl,rb,nb,k3⟩
  have HK3:=hide ((uh HK2).trans k3 (by simp))
  have HZ3:=hide (k3.heap (uh HZ2) (by simp))
  have HRA3:=hide ((uh HRA).old k3 (by simp))
  have HRB:=hide rb
  have HNB:=hide nb
  obtain ⟨r1,r2,r3,rfl,_⟩:=id rb
  clear k3 rb nb
  have HB1:=hide (xb5v D hDl (.slice p1 p2 p3) (.slice r1 r2 r3))
  have hsz:=xa1d hDl (.slice p1 p2 p3) (.slice r1 r2 r3)
  have hone:=xa7p (D:=D) (kv:=.slice p1 p2 p3) (vv:=.slice r1 r2 r3) rfl rfl
  go_wp2_with (first
    | (refine xa0o rfl 32 _ rfl #[.slice p1 p2 p3,.slice r1 r2 r3] (by simp only [List.map_toArray,List.map_cons,List.map_nil]; exact xa8a undef undef) ?_)
    | (refine xa0o rfl 116 _ rfl (itC D (.slice p1 p2 p3) (.slice r1 r2 r3)).toArray (by simp only [List.map_toArray,List.map_cons,List.map_nil]; exact uh HB1) ?_)
    | (refine wpList_store_row rfl 116 (.tmp 6) (.tmp 15) rfl w.heap.size (itC D (.slice p1 p2 p3) (.slice r1 r2 r3)).toArray rfl rfl _ zit (uh HZ3) (by rw [hsz]; exact Tryz.size_it) (by rw [hsz]; rfl) hone ?_))
  have hs4:=(uh HK3)
  have k4:=(Kept.refl [w.heap.size] w3).setRow (g:=w.heap.size) (Or.inl (by simp)) (itC D (.slice p1 p2 p3) (.slice r1 r2 r3)).toArray
  refine bodyPost_ret (v:=.agg (itC D (.slice p1 p2 p3) (.slice r1 r2 r3)).toArray) ?_ rfl ⟨.slice p1 p2 p3,.slice r1 r2 r3,rfl,⟨(uh HRA3).kept k4 ?_,(uh HRB).kept k4 ?_⟩,?_,(uh HK3).setRow (Or.inr (Nat.le_refl _)) _⟩
  · exact results_cell_row rfl _ _ w.heap.size _ _ (0,0) _ rfl (setRow_heap _ _ _ _ _ _ (uh HZ3)) Tryz.underlying116 rfl (by rw [hsz]; exact Tryz.size_it)
  · intro x hx hm
    have h1:=uh HNA x hx
    have h2:=lt_of_block (uh HZ1)
    simp at hm; omega
  · intro x hx hm
    have h1:=uh HNB x hx
    have h2:=lt_of_block (uh HZ2)
    simp at hm; omega
  · intro x hx
    have h0:=(uh HK1).size
    have h2:=(uh HK2).size
    rcases hx with hx | hx
    · have h1:=uh HNA x hx; omega
    · have h1:=uh HNB x hx; omega
set_option maxHeartbeats 2000000 in
theorem xb5p (k:Nat) (kx vx ky vy:Value) (a b va vb:List Nat) (w:World) (ha:Rd w kx a) (hb:Rd w ky b) (ha':Rd w vx va) (hb':Rd w vy vb) :
    Calls Tryz.prog 63 #[.agg (itC ((hsZ k).kd a) kx vx).toArray,.agg (itC ((hsZ k).kd b) ky vy).toArray] w fun e w'=>e = .returned (.int .i64 (ordI (hsZ k) a b))∧Kept [] w w':=by
  have hA:Dg ((hsZ k).kd a):=xa1h _ _
  have hB:Dg ((hsZ k).kd b):=xa1h _ _
  obtain ⟨a1,a2,a3,rfl,_⟩:=id ha
  obtain ⟨b1,b2,b3,rfl,_⟩:=id hb
  obtain ⟨c1,c2,c3,rfl,_⟩:=id ha'
  obtain ⟨d1,d2,d3,rfl,_⟩:=id hb'
  have HAu:=hide ha
  have HBu:=hide hb
  have hord:ordI (hsZ k) a b = if lessI ((hsZ k).kd a) ((hsZ k).kd b) = 0 then lessI a b else lessI ((hsZ k).kd a) ((hsZ k).kd b):=rfl
  rw [hord]
  generalize (hsZ k).kd a = A at hA ⊢
  generalize (hsZ k).kd b = B at hB ⊢
  obtain ⟨R,hR⟩:∃ R,(if lessI A B = 0 then lessI a b else lessI A B) = R:=⟨_,rfl⟩
  rw [hR]
  have HR:=hide hR
  clear hord ha hb ha' hb' hR
  have HX:=hide (heap_alloc_new w (.cells (itC A (.slice a1 a2 a3) (.slice c1 c2 c3)).toArray 116))
  have HK1:=hide ((Kept.refl [] w).alloc (.cells (itC A (.slice a1 a2 a3) (.slice c1 c2 c3)).toArray 116))
  obtain ⟨W1,hW1⟩:∃ W1,w.alloc (.cells (itC A (.slice a1 a2 a3) (.slice c1 c2 c3)).toArray 116) = W1:=⟨_,rfl⟩
  rw [hW1] at HX HK1
  have HY:=hide (heap_alloc_new W1 (.cells (itC B (.slice b1 b2 b3) (.slice d1 d2 d3)).toArray 116))
  have HK2:=hide ((Kept.refl [] W1).alloc (.cells (itC B (.slice b1 b2 b3) (.slice d1 d2 d3)).toArray 116))
  have HX2:=hide ((uh HK2).heap (uh HX) (by simp))
  obtain ⟨W2,hW2⟩:∃ W2,W1.alloc (.cells (itC B (.slice b1 b2 b3) (.slice d1 d2 d3)).toArray 116) = W2:=⟨_,rfl⟩
  rw [hW2] at HY HK2 HX2
  have HK:=hide ((uh HK1).trans (uh HK2) (by simp))
  obtain ⟨rA,cA,_⟩:=it_row (uh HX2) hA.1
  obtain ⟨rB,cB,_⟩:=it_row (uh HY) hB.1
  obtain ⟨gx,hgx⟩:∃ gx,w.heap.size = gx:=⟨_,rfl⟩
  obtain ⟨gy,hgy⟩:∃ gy,W1.heap.size = gy:=⟨_,rfl⟩
  rw [hgx] at rA cA
  rw [hgy] at rB cB
  have RA:=hide (show Rd W2 (.slice (some ⟨gx,0,none⟩) 32 32) A from ⟨_,32,32,rfl,hA.1,Nat.le_refl _,⟨by omega,by omega⟩,(fun h=>by cases h),hA.2,fun _=>⟨gx,0,rfl,fun i hi=>by
    have h9:=rA i (u8 (A.getD i 0)) (by rw [List.getElem?_map,List.getD_eq_getElem?_getD,List.getElem?_eq_getElem (by rw [hA.1]; exact hi)]; rfl)
    exact h9⟩⟩)
  have RB:=hide (show Rd W2 (.slice (some ⟨gy,0,none⟩) 32 32) B from ⟨_,32,32,rfl,hB.1,Nat.le_refl _,⟨by omega,by omega⟩,(fun h=>by cases h),hB.2,fun _=>⟨gy,0,rfl,fun i hi=>by
    have h9:=rB i (u8 (B.getD i 0)) (by rw [List.getElem?_map,List.getD_eq_getElem?_getD,List.getElem?_eq_getElem (by rw [hB.1]; exact hi)]; rfl)
    exact h9⟩⟩)
  have HCA:=hide cA
  have HCB:=hide cB
  clear rA rB cA cB
  go_enter Tryz.func63,Tryz.ntmps63
  go_upto_region 1 with fail
  try rw [hgx]
  try rw [hW1]
  try rw [hgy]
  try rw [hW2]
  refine lr_or (by kernel_rfl) (by kernel_rfl) rfl (fun W=>Kept [] W2 W) (Kept.refl _ W2).drew ?_
  refine LinY.rd (.pointer (some ⟨gx,0,none⟩)) (fun W hW=>by go_simp) (by simp only [Act.put,sa1,sa2,sa3]; rfl) ?_
  refine LinY.rd (.slice (some ⟨gx,0,none⟩) 32 32) (fun W hW=>by go_simp) (by simp only [Act.put,sa1,sa2,sa3]; rfl) ?_
  refine LinY.rd (.pointer (some ⟨gy,0,none⟩)) (fun W hW=>by go_simp) (by simp only [Act.put,sa1,sa2,sa3]; rfl) ?_
  refine LinY.rd (.slice (some ⟨gy,0,none⟩) 32 32) (fun W hW=>by go_simp) (by simp only [Act.put,sa1,sa2,sa3]; rfl) ?_
  have hd2:=(Kept.refl [] W2).drew
  refine LinY.fin (ChL.call rfl Tryz.call93 [.slice (some ⟨gx,0,none⟩) 32 32,.slice (some ⟨gy,0,none⟩) 32 32] rfl (xb4f _ _ A B W2.drew ((uh RA).old hd2 (by simp)) ((uh RB).old hd2 (by simp))) ?_)
  rintro e w4 ⟨rfl,k4⟩
  have hk4:=hd2.trans k4 (by simp)
  refine ⟨_,rfl,hk4,?_⟩
  simp only [Act.put,sa1,sa2,sa3]
  refine ChL.op (.int .i64 (lessI A B)) (by go_simp) hk4 (by simp only [Act.put,sa1,sa2,sa3]; rfl) (ChL.fin ?_)
  have HK4:=hide ((uh HK).trans hk4 (by simp))
  have cA4:=hk4.cell (uh HCA) (by simp)
  have cB4:=hk4.cell (uh HCB) (by simp)
  by_cases hz:lessI A B = 0
  · have HRR:=hide (show lessI a b = R by have h9:=uh HR; rw [if_pos hz] at h9; exact h9)
    obtain ⟨X,hX⟩:∃ X,lessI A B = X:=⟨_,rfl⟩
    clear HR
    rw [hX] at hz ⊢
    subst hz
    go_wp2_with fail
    refine Calls.mono (xb4f _ _ a b w4 ((uh HAu).old (uh HK4) (by simp)) ((uh HBu).old (uh HK4) (by simp))) ?_
    rintro e w5 ⟨rfl,k5⟩
    have HK5:=hide ((uh HK4).trans k5 (by simp))
    clear k5
    go_wp2_with fail
    go_ret
    exact ⟨by rw [uh HRR]; rfl,uh HK5⟩
  · have hrr:lessI A B = R:=by have h9:=uh HR; rw [if_neg hz] at h9; exact h9
    clear HR
    rw [hrr] at hz ⊢
    clear hrr
    have hz2:((R != 0):Bool) = true:=by rw [bne_iff_ne]; exact hz
    go_wp2_with fail
    go_ret
    exact ⟨rfl,uh HK4⟩
theorem sty_up {T:Nat→Prop} {v:Value} {w W:World} {P:World→Prop} (h:Sty T w P) (k:Kept [] w W) (ho:∀ x,v.ownBlock = some x→w.heap.size≤x):Sty (tS T v) W P:=fun w' a =>
  h.shrink w' ⟨Nat.le_trans k.size a.1,fun x hx hl=>(a.2 x ⟨hx.1,fun e=>by have:=ho x e; have:=hx.2; omega⟩ (Nat.lt_of_lt_of_le hl k.size)).trans (k.block x hl (by simp))⟩
theorem xb9a (H:Hs) (d i:Nat) (L:Prs) (e:List Nat × List Nat):ch H d i (L++[e]) = ch H d i L++(if dgt (H.kd e.1) d = i then [e] else []):=by
  unfold ch
  rw [List.filter_append,List.filter_cons]
  by_cases h:dgt (H.kd e.1) d = i
  · rw [if_pos (by simpa using h),if_pos h]; rfl
  · rw [if_neg (by simpa using h),if_neg h]; rfl
theorem ch_len (H:Hs) (d i:Nat) (L:Prs):(ch H d i L).length≤L.length:=List.length_filter_le _ _
set_option maxHeartbeats 4000000 in
theorem xa6z (T:Nat→Prop) (k d i:Nat) (mv:Value) (L:Prs) (w:World) (hM:IAt T k w mv L) (hd:d < 64) (hi:i < 16) (hl:L.length≤1000000000) (hT:∀ y,w.heap.size≤y→T y) :
    Calls Tryz.prog 90 #[mv,.int .i64 d,.int .i64 i] w fun e w'=>∃ v',e = .returned v'∧IAt T k w' v' (ch (hsZ k) d i L)∧Kept [] w w':=by
  have HM:=hide hM
  obtain ⟨ao,c,l,rfl,hc1,hc2,hll,hpr,hcell⟩:=hM.parts
  have HCE:=hide hcell
  have HPR:=hide hpr
  obtain ⟨n,hn⟩:∃ n,L.length = n:=⟨_,rfl⟩
  have HN:=hide hn
  rw [hn] at hc1 hl hll HCE ⊢
  clear hM hcell hpr hn
  go_enter Tryz.func90,Tryz.ntmps90
  go_wp2
  go_loopw [7,12] (fun t7 t12 wr=>∃ (j:Nat) (v:Value) (lx:List VP),t12 = .int .i64 j∧t7 = v∧j≤n∧Hid (ILay T w.heap.size k wr v lx (ch (hsZ k) d i (L.take j)))∧Hid (Kept [] w wr)) (fun _ t _=>n - (intOf t).toNat)
  case atStart=>exact ⟨0,.slice none 0 0,[],rfl,rfl,Nat.zero_le _,hide (ILay.nil _ _ _ _),hide (Kept.refl _ _)⟩
  case round =>
    obtain ⟨j,v,lx,rfl,rfl,hj,HLx,HKr⟩:=hrel
    by_cases hlt:j < n
    · have hlt':(j:Int) < n:=by omega
      obtain ⟨b,off,rfl,hTb,hcl⟩:=uh HCE (by omega)
      have hRG:=hcl j hlt
      have hone:=(uh HPR).one' j (by omega)
      have hrd:=(uh HPR).2 j (by omega)
      generalize (l.getD j (undef,undef)).1 = kx at hRG hone hrd
      generalize (l.getD j (undef,undef)).2 = vx at hRG hone hrd
      have HSNOC:=hide (show L.take (j + 1) = L.take j++[L.getD j ([],[])] by
        have hjL:j < L.length:=by have:=uh HN; omega
        rw [List.take_succ_eq_append_getElem hjL,List.getD_eq_getElem?_getD,List.getElem?_eq_getElem hjL]; rfl)
      generalize L.getD j ([],[]) = ej at hRG hrd HSNOC
      obtain ⟨ka,va⟩:=ej
      have hDg:Dg ((hsZ k).kd ka):=xa1h _ _
      obtain ⟨D,hD⟩:∃ D,(hsZ k).kd ka = D:=⟨_,rfl⟩
      simp only [hD] at hRG
      rw [hD] at hDg
      have HD:=hide hD
      have HSTY:=hide hrd
      have HRG:=hide (show wr.rangeAt b (off + j * 34) (itC D kx vx) from fun u z hz=>(uh HKr).cell (hRG u z hz) (by simp))
      have HZ1:=hide (heap_alloc_new wr (.cells zit 116))
      have HN2:=hide (setRow_heap _ _ _ (itC D kx vx).toArray _ _ (uh HZ1))
      have HK12:=hide ((Kept.refl [] wr).alloc (.cells zit 116) |>.setRow (g:=wr.heap.size) (Or.inr (Nat.le_refl _)) (itC D kx vx).toArray)
      obtain ⟨W2,hW2⟩:∃ W2,(wr.alloc (.cells zit 116)).setRow wr.heap.size (itC D kx vx).toArray = W2:=⟨_,rfl⟩
      rw [hW2] at HN2 HK12
      have HK2:=hide ((uh HKr).trans (uh HK12) (by simp))
      have hwsz:w.heap.size≤wr.heap.size:=by have:=(uh HKr).size; omega
      obtain ⟨rD2,cK2,cV2⟩:=it_row (uh HN2) hDg.1
      have HRD2:=hide rD2
      have HCK2:=hide cK2
      have HCV2:=hide cV2
      have HPA2:=hide (xb2b (uh HN2) hDg.1)
      obtain ⟨kx1,kx2,kx3,rfl,_⟩:=hrd.now.1
      obtain ⟨vx1,vx2,vx3,rfl,_⟩:=hrd.now.2
      clear hrd hRG hcl rD2 hD hDg hone
      go_wp2_with (first
      | (refine wpList_load_mid rfl 116 (.tmp 14) rfl b (off + j * 34) rfl (itC D (.slice kx1 kx2 kx3) (.slice vx1 vx2 vx3)) _ (uh HRG) Tryz.underlying116 rfl (by rw [xa2e (by rw [← uh HD]; exact xa0h _ _)]; exact Tryz.size_it) ?_)
      | (rw [lit_it]; refine wpList_store_row rfl 116 (.tmp 9) (.tmp 15) rfl wr.heap.size (itC D (.slice kx1 kx2 kx3) (.slice vx1 vx2 vx3)).toArray rfl rfl _ zit (uh HZ1) (by rw [xa1d (by rw [← uh HD]; exact xa0h _ _)]; exact Tryz.size_it) (by rw [xa1d (by rw [← uh HD]; exact xa0h _ _)]; rfl) (xa7p rfl rfl) ?_; rw [hW2]; simp only [Act.put])
      | (refine wpList_load_mid rfl 50 (.tmp 16) rfl wr.heap.size 0 rfl (D.map u8) _ (uh HRD2) Tryz.underlying50 rfl (by rw [List.length_map,show D.length = 32 by rw [← uh HD]; exact xa0h _ _]; exact Tryz.size_dig) ?_))
      refine Calls.mono (xa4l D d W2 (by rw [← uh HD]; exact xa1h _ _) hd) ?_
      rintro e w4 ⟨rfl,k4⟩
      have HN4:=hide (k4.heap (uh HN2) (by simp))
      have HK4:=hide ((uh HK2).trans k4 (by simp))
      have HL4:=hide (((uh HLx).agr (uh HK12)).agr k4)
      have HZD:=hide (show dgt ((hsZ k).kd ka) d = dgt D d by rw [uh HD])
      clear k4
      generalize dgt D d = z at HZD ⊢
      by_cases hz:z = i
      · subst hz
        obtain ⟨vo,vc,rfl⟩:=xa0i (uh HL4).own
        have hown:∀ z,(Value.slice vo lx.length vc).ownBlock = some z→w.heap.size≤z:=fun z hz=>((uh HL4).own.lt z hz).1
        have HW5:=hide (heap_alloc_new w4 (.cells (itC D (.slice kx1 kx2 kx3) (.slice vx1 vx2 vx3)).toArray 116))
        have HK45:=hide ((Kept.refl [] w4).alloc (.cells (itC D (.slice kx1 kx2 kx3) (.slice vx1 vx2 vx3)).toArray 116))
        have HL5:=hide ((uh HL4).agr (uh HK45))
        have HK5:=hide ((uh HK4).trans (uh HK45) (by simp))
        have HRL:=hide (lit_rd (k:=k) (q:=ka) (v:=va) (kv:=(.slice kx1 kx2 kx3)) (vv:=(.slice vx1 vx2 vx3)) (by rw [uh HD]; exact uh HW5))
        have hln:=(uh HL4).pr.1
        have hbnd:lx.length + 1≤1000000001:=by have h1:=ch_len (hsZ k) d z (L.take j); rw [List.length_take] at h1; omega
        clear hln
        go_wp2_with (first
      | (refine wpList_load_row rfl 116 (.tmp 9) rfl wr.heap.size rfl 116 (itC D (.slice kx1 kx2 kx3) (.slice vx1 vx2 vx3)).toArray (0,0) _ (uh HN4) Tryz.underlying116 rfl (by rw [xa1d (by rw [← uh HD]; exact xa0h _ _)]; exact Tryz.size_it) ?_)
      | (refine xa1g rfl (.tmp 23) rfl (itC D (.slice kx1 kx2 kx3) (.slice vx1 vx2 vx3)) (xa2e (by rw [← uh HD]; exact xa0h _ _) _ _) rfl ?_)
      | (at_builtin; refine xa0j rfl 26 116 (.tmp 22) (.tmp 24) rfl rfl _ w.heap.size (.agg zit) 34 80 Tryz.underlying26 Tryz.infoIt rfl (by decide) (.slice vo lx.length vc) lx.length (itR k lx (ch (hsZ k) d z (L.take j))).flatten (uh HL5).own (some ⟨w4.heap.size,0,none⟩) 1 1 (itR k [((.slice kx1 kx2 kx3),(.slice vx1 vx2 vx3))] [(ka,va)]) (uh HRL) xa2j (xa4t rfl rfl) (by omega) (by omega) (uh HK5).size rfl rfl ?_; intro ao7 c7 w7 HO7 HG7 HA7))
        have HS7:=hide ((uh HL5).snoc (a:=ka) (b:=va) (sty_up (uh HSTY) (uh HK5) hown) (uh HO7) (uh HG7) (uh HA7))
        have HK7:=hide ((uh HK5).grown (uh HG7) (fun z hz=>Or.inr (hown z hz)))
        clear hown hbnd
        refine ⟨⟨j + 1,.slice ao7 (lx.length + 1) c7,_,by go_num,rfl,hlt,hide (by rw [uh HSNOC,xb9a,if_pos (uh HZD)]; exact uh HS7),HK7⟩,?_⟩
        simp [intOf]; omega
      · have hz2:((z:Int) == (i:Int)) = false:=by rw [beq_eq_false_iff_ne]; omega
        go_wp2_with fail
        refine ⟨⟨j + 1,_,lx,by go_num,rfl,hlt,hide (by rw [uh HSNOC,xb9a,if_neg (by rw [uh HZD]; exact hz),List.append_nil]; exact uh HL4),HK4⟩,?_⟩
        simp [intOf]; omega
    · have hje:j = n:=by omega
      subst hje
      have hlt':¬ (j:Int) < j:=by omega
      go_wp2
      go_ret
      have h9:=(uh HLx).at_ hT
      rw [List.take_of_length_le (by have:=uh HN; omega)] at h9
      exact ⟨_,rfl,h9,uh HKr⟩
theorem same_k (u v:Value) (p q:List Nat) (w:World) (hu:Rd w u p) (hv:Rd w v q) :
    Calls Tryz.prog 21 #[u,v] w fun e w'=>e = .returned (.bool (decide (p = q)))∧Kept [] w w' :=
  (xc1k u v p q w hu hv).mono fun e w' ⟨h1,n,h2⟩=>⟨h1,by rw [h2]; exact (Kept.refl [] w).drewN n⟩
set_option maxHeartbeats 2000000 in
theorem xa9a (kx vx ky vy:Value) (a b va vb:List Nat) (w:World) (h1:Rd w kx a) (h2:Rd w vx va) (h3:Rd w ky b) (h4:Rd w vy vb) :
    Calls Tryz.prog 49 #[.agg #[kx,vx],.agg #[ky,vy]] w fun e w'=>e = .returned (.bool (decide (a = b) && decide (va = vb)))∧Kept [] w w':=by
  obtain ⟨a1,a2,a3,rfl,_⟩:=id h1
  obtain ⟨b1,b2,b3,rfl,_⟩:=id h2
  obtain ⟨c1,c2,c3,rfl,_⟩:=id h3
  obtain ⟨d1,d2,d3,rfl,_⟩:=id h4
  have H1:=hide h1
  have H2:=hide h2
  have H3:=hide h3
  have H4:=hide h4
  have HX:=hide (heap_alloc_new w (.cells #[.slice a1 a2 a3,.slice b1 b2 b3] 32))
  have HK1:=hide ((Kept.refl [] w).alloc (.cells #[.slice a1 a2 a3,.slice b1 b2 b3] 32))
  have HKB:=hide (fun (W:World)=>(Kept.refl [] W).alloc (.cells #[.slice c1 c2 c3,.slice d1 d2 d3] 32))
  have HYB:=hide (fun (W:World)=>heap_alloc_new W (.cells #[.slice c1 c2 c3,.slice d1 d2 d3] 32))
  have HX2:=hide ((uh HKB _).heap (uh HX) (by simp))
  have HK:=hide ((uh HK1).trans (uh HKB _) (by simp))
  have HY:=hide (uh HYB (w.alloc (.cells #[.slice a1 a2 a3,.slice b1 b2 b3] 32)))
  obtain ⟨W2,hW2⟩:∃ W2,(w.alloc (.cells #[.slice a1 a2 a3,.slice b1 b2 b3] 32)).alloc (.cells #[.slice c1 c2 c3,.slice d1 d2 d3] 32) = W2:=⟨_,rfl⟩
  have hz:(w.alloc (.cells #[.slice a1 a2 a3,.slice b1 b2 b3] 32)).heap.size = w.heap.size + 1:=by simp
  rw [hW2] at HX2 HK HY
  rw [hz] at HY
  have x0:=xa0l [] [.slice a1 a2 a3,.slice b1 b2 b3] [] (uh HX2) rfl
  have y0:=xa0l [] [.slice c1 c2 c3,.slice d1 d2 d3] [] (uh HY) rfl
  have k1:W2.cell? ⟨w.heap.size,0,none⟩ = some (.slice a1 a2 a3):=x0 0 _ rfl
  have k2:W2.cell? ⟨w.heap.size,1,none⟩ = some (.slice b1 b2 b3):=x0 1 _ rfl
  have k3:W2.cell? ⟨w.heap.size + 1,0,none⟩ = some (.slice c1 c2 c3):=y0 0 _ rfl
  have k4:W2.cell? ⟨w.heap.size + 1,1,none⟩ = some (.slice d1 d2 d3):=y0 1 _ rfl
  obtain ⟨R1,hR1⟩:∃ R1,decide (a = b) = R1:=⟨_,rfl⟩
  obtain ⟨R2,hR2⟩:∃ R2,decide (va = vb) = R2:=⟨_,rfl⟩
  have HR1:=hide hR1
  have HR2:=hide hR2
  rw [hR1,hR2]
  clear x0 y0 h1 h2 h3 h4 hz hR1 hR2 HX HK1 HKB HYB
  have HC2:=hide k2
  have HC4:=hide k4
  go_enter Tryz.func49,Tryz.ntmps49
  go_upto_region 1 with fail
  try rw [hW2]
  clear hW2
  go_wp2_with fail
  refine Calls.mono (same_k _ _ a b W2 ((uh H1).old (uh HK) (by simp)) ((uh H3).old (uh HK) (by simp))) ?_
  rintro e w4 ⟨rfl,k5⟩
  rw [uh HR1]
  have HK4:=hide ((uh HK).trans k5 (by simp))
  have c2':=k5.cell (uh HC2) (by simp)
  have c4':=k5.cell (uh HC4) (by simp)
  clear k1 k2 k3 k4 k5
  cases R1 with
  | false =>
    go_wp2_with fail
    go_ret
    exact ⟨rfl,uh HK4⟩
  | true =>
    go_wp2_with fail
    refine Calls.mono (same_k _ _ va vb w4 ((uh H2).old (uh HK4) (by simp)) ((uh H4).old (uh HK4) (by simp))) ?_
    rintro e w5 ⟨rfl,k6⟩
    rw [uh HR2]
    have HK5:=hide ((uh HK4).trans k6 (by simp))
    clear k6 c2' c4'
    go_wp2_with fail
    go_ret
    exact ⟨by simp,uh HK5⟩
theorem xa4q {α:Type} {p q:List α} {d:α} {k:Nat} (h:p.take k = q.take k) (hp:k < p.length) (hq:k < q.length) (e:p.getD k d = q.getD k d):p.take (k + 1) = q.take (k + 1):=by
  rw [List.take_succ_eq_append_getElem hp,List.take_succ_eq_append_getElem hq,h]
  rw [List.getD_eq_getElem?_getD,List.getD_eq_getElem?_getD,List.getElem?_eq_getElem hp,List.getElem?_eq_getElem hq] at e
  simp only [Option.getD_some] at e
  rw [e]
set_option maxHeartbeats 4000000 in
theorem xa6i (u v:Value) (ps qs:Prs) (w:World) (hu:RdK w u ps) (hv:RdK w v qs) :
    Calls Tryz.prog 23 #[u,v] w fun e w'=>e = .returned (.bool (decide (ps = qs)))∧Kept [] w w':=by
  obtain ⟨ao,len,cap,vs,us,rfl,h1,h2,h3,h4,h5⟩:=hu
  obtain ⟨ao',len',cap',vs',us',rfl,g1,g2,g3,g4,g5⟩:=hv
  have H4:=hide h4
  have H5:=hide h5
  have G4:=hide g4
  have G5:=hide g5
  obtain ⟨R,hR⟩:∃ R,decide (ps = qs) = R:=⟨_,rfl⟩
  rw [hR]
  have HR:=hide hR
  clear h4 h5 g4 g5 hR
  have HL1:=hide h1
  have HL2:=hide g1
  clear h1 g1
  by_cases hl:len = len'
  · subst hl
    have hb:((len:Int) != (len:Int)) = false:=by simp
    go_enter Tryz.func23,Tryz.ntmps23
    go_wp2_with fail
    go_loopw [5] (fun t5 wr=>∃ (i:Nat),i≤len∧t5 = .int .i64 i∧Hid (ps.take i = qs.take i)∧Hid (Kept [] w wr)) (fun t _=>len - (intOf t).toNat)
    case atStart=>exact ⟨0,Nat.zero_le _,rfl,hide (by simp),hide (Kept.refl _ _)⟩
    case round =>
      obtain ⟨i,hi,rfl,HA,HK⟩:=hrel
      by_cases hlt:i < len
      · have hlt':(i:Int) < len:=by omega
        have hip:i < ps.length:=by have:=uh HL1; omega
        have hiq:i < qs.length:=by have:=uh HL2; omega
        obtain ⟨b,o,rfl,hcell⟩:=uh H5 (by omega)
        obtain ⟨b',o',rfl,gcell⟩:=uh G5 (by omega)
        have p1:=(uh HK).cell (hcell i hlt).1 (by simp)
        have p2:=(uh HK).cell (hcell i hlt).2 (by simp)
        have q1:=(uh HK).cell (gcell i hlt).1 (by simp)
        have q2:=(uh HK).cell (gcell i hlt).2 (by simp)
        have HP:=hide (uh H4 i hlt)
        have HQ:=hide (uh G4 i hlt)
        have HN:=hide (fun (h:ps.getD i ([],[]) = qs.getD i ([],[]))=>xa4q (uh HA) hip hiq h)
        have HM:=hide (fun (h:¬ ps.getD i ([],[]) = qs.getD i ([],[]))=>show R = false by rw [← uh HR]; exact decide_eq_false (fun e=>h (by rw [e])))
        clear hcell gcell
        generalize ps.getD i ([],[]) = x at HP HN HM
        generalize qs.getD i ([],[]) = y at HQ HN HM
        generalize vs.getD i undef = va at p1 HP
        generalize us.getD i undef = vb at p2 HP
        generalize vs'.getD i undef = vc at q1 HQ
        generalize us'.getD i undef = vd at q2 HQ
        obtain ⟨xk,xv⟩:=x
        obtain ⟨yk,yv⟩:=y
        simp only at HP HQ
        obtain ⟨a1,a2,a3,rfl,_⟩:=(uh HP).1
        obtain ⟨b1,b2,b3,rfl,_⟩:=(uh HP).2
        obtain ⟨c1,c2,c3,rfl,_⟩:=(uh HQ).1
        obtain ⟨d1,d2,d3,rfl,_⟩:=(uh HQ).2
        have HRX:=hide (show wr.rangeAt b (o + i * 2) [.slice a1 a2 a3,.slice b1 b2 b3] from fun j u hj=>by
          match j,hj with
          | 0,hj=>rw [Nat.add_zero,p1]; exact hj
          | 1,hj=>rw [p2]; exact hj)
        have HRY:=hide (show wr.rangeAt b' (o' + i * 2) [.slice c1 c2 c3,.slice d1 d2 d3] from fun j u hj=>by
          match j,hj with
          | 0,hj=>rw [Nat.add_zero,q1]; exact hj
          | 1,hj=>rw [q2]; exact hj)
        clear p1 p2 q1 q2
        have HSC:=hide (fun (W:World) (hW:Kept [] wr W)=>xa9a _ _ _ _ xk yk xv yv W ((uh HP).1.old ((uh HK).trans hW (by simp)) (by simp)) ((uh HP).2.old ((uh HK).trans hW (by simp)) (by simp)) ((uh HQ).1.old ((uh HK).trans hW (by simp)) (by simp)) ((uh HQ).2.old ((uh HK).trans hW (by simp)) (by simp)))
        have HXY:=hide (show (decide (xk = yk) && decide (xv = yv)) = decide ((xk,xv) = (yk,yv)) by rw [Bool.eq_iff_iff]; simp)
        obtain ⟨X,hX⟩:∃ X,(decide (xk = yk) && decide (xv = yv)) = X:=⟨_,rfl⟩
        rw [hX] at HXY
        simp only [hX] at HSC
        clear hX
        go_upto_region 6 with fail
        refine lr_sp (by kernel_rfl) (by kernel_rfl) rfl (fun W=>Kept [] wr W) (Kept.refl _ wr).drew ?_
        refine LinY.rd (.slice (some ⟨b,o,none⟩) len cap) (fun W hW=>by go_simp) (by simp only [Act.put,sa1,sa2,sa3]; rfl) ?_
        refine LinY.rd (.int .i64 i) (fun W hW=>by go_simp) (by simp only [Act.put,sa1,sa2,sa3]; rfl) ?_
        refine LinY.rd (.pointer (some ⟨b,o + i * 2,none⟩)) (fun W hW=>by go_simp) (by simp only [Act.put,sa1,sa2,sa3]; rfl) ?_
        refine LinY.ld 32 (.tmp 19) rfl b (o + i * 2) rfl [.slice a1 a2 a3,.slice b1 b2 b3] _ (fun W hW=>hW.rng (uh HRX) (by simp)) Tryz.underlying32 rfl Tryz.size_pair (by simp only [Act.put,sa1,sa2,sa3]; rfl) ?_
        refine LinY.rd (.slice (some ⟨b',o',none⟩) len cap') (fun W hW=>by go_simp) (by simp only [Act.put,sa1,sa2,sa3]; rfl) ?_
        refine LinY.rd (.int .i64 i) (fun W hW=>by go_simp) (by simp only [Act.put,sa1,sa2,sa3]; rfl) ?_
        refine LinY.rd (.pointer (some ⟨b',o' + i * 2,none⟩)) (fun W hW=>by go_simp) (by simp only [Act.put,sa1,sa2,sa3]; rfl) ?_
        refine LinY.ld 32 (.tmp 23) rfl b' (o' + i * 2) rfl [.slice c1 c2 c3,.slice d1 d2 d3] _ (fun W hW=>hW.rng (uh HRY) (by simp)) Tryz.underlying32 rfl Tryz.size_pair (by simp only [Act.put,sa1,sa2,sa3]; rfl) ?_
        have hd2:=(Kept.refl [] wr).drew
        refine LinY.fin (ChL.call rfl Tryz.call49 [.agg #[.slice a1 a2 a3,.slice b1 b2 b3],.agg #[.slice c1 c2 c3,.slice d1 d2 d3]] rfl (uh HSC wr.drew hd2) ?_)
        rintro e w4 ⟨rfl,k4⟩
        have hk4:=hd2.trans k4 (by simp)
        refine ⟨_,rfl,hk4,?_⟩
        simp only [Act.put,sa1,sa2,sa3]
        refine ChL.op (.bool (!X)) (by go_simp) hk4 (by simp only [Act.put,sa1,sa2,sa3]; rfl) (ChL.fin ?_)
        have HK4:=hide ((uh HK).trans hk4 (by simp))
        clear hk4 k4 hd2 HSC HRX HRY HP HQ
        cases X with
        | true =>
          have hh:(xk,xv) = (yk,yv):=of_decide_eq_true (uh HXY).symm
          have HN2:=hide (uh HN hh)
          clear HN HM HXY hh
          go_wp2_with fail
          refine ⟨⟨i + 1,by omega,by go_num,HN2,HK4⟩,?_⟩
          simp [intOf]; omega
        | false =>
          have hh:¬ (xk,xv) = (yk,yv):=of_decide_eq_false (uh HXY).symm
          have hr:R = false:=uh HM hh
          clear HN HM HXY hh HR
          subst hr
          go_wp2_with fail
          go_ret
          exact ⟨rfl,uh HK4⟩
      · have hlt':¬ (i:Int) < len:=by omega
        have hie:i = len:=by omega
        have hr:R = true:=by
          rw [← uh HR]
          refine decide_eq_true ?_
          have h9:=uh HA
          rw [List.take_of_length_le (by have:=uh HL1; omega),List.take_of_length_le (by have:=uh HL2; omega)] at h9
          exact h9
        clear HR
        subst hr
        go_wp2
        go_ret
        exact ⟨rfl,uh HK⟩
  · have hb:((len:Int) != (len':Int)) = true:=by rw [bne_iff_ne]; omega
    have hr:R = false:=by
      rw [← uh HR]
      refine decide_eq_false (fun e=>hl ?_)
      have h1:=uh HL1
      have h2:=uh HL2
      rw [← h1,← h2,e]
    clear HR hl
    subst hr
    go_enter Tryz.func23,Tryz.ntmps23
    go_wp2
    go_ret
    exact ⟨rfl,Kept.refl _ _⟩
set_option maxHeartbeats 8000000 in
theorem xa7d (u v:Value) (ss tt:List Stp) (w:World) (hu:RdS w u ss) (hv:RdS w v tt) :
    Calls Tryz.prog 28 #[u,v] w fun e w'=>e = .returned (.bool (decide (ss = tt)))∧Kept [] w w':=by
  obtain ⟨ao,len,cap,vs,rfl,h1,h2,h3,h4,h5⟩:=hu
  obtain ⟨ao',len',cap',us,rfl,g1,g2,g3,g4,g5⟩:=hv
  have H4:=hide h4
  have H5:=hide h5
  have G4:=hide g4
  have G5:=hide g5
  obtain ⟨R,hR⟩:∃ R,decide (ss = tt) = R:=⟨_,rfl⟩
  rw [hR]
  have HR:=hide hR
  clear h4 h5 g4 g5 hR
  have HL1:=hide h1
  have HL2:=hide g1
  clear h1 g1
  by_cases hl:len = len'
  · subst hl
    have hb:((len:Int) != (len:Int)) = false:=by simp
    go_enter Tryz.func28,Tryz.ntmps28
    go_wp2_with fail
    go_loopw [5] (fun t5 wr=>∃ (i:Nat),i≤len∧t5 = .int .i64 i∧Hid (ss.take i = tt.take i)∧Hid (Kept [] w wr)) (fun t _=>len - (intOf t).toNat)
    case atStart=>exact ⟨0,Nat.zero_le _,rfl,hide (by simp),hide (Kept.refl _ _)⟩
    case round =>
      obtain ⟨i,hi,rfl,HA,HK⟩:=hrel
      by_cases hlt:i < len
      · have hlt':(i:Int) < len:=by omega
        have hip:i < ss.length:=by have:=uh HL1; omega
        have hiq:i < tt.length:=by have:=uh HL2; omega
        obtain ⟨b,o,rfl,hcell⟩:=uh H5 (by omega)
        obtain ⟨b',o',rfl,gcell⟩:=uh G5 (by omega)
        have p1:=(hcell i hlt).1
        have p2:=(hcell i hlt).2
        have q1:=(gcell i hlt).1
        have q2:=(gcell i hlt).2
        obtain ⟨hbx,hdx⟩:=uh H4 i hlt
        obtain ⟨hby,hdy⟩:=uh G4 i hlt
        have HN:=hide (fun (h:ss.getD i (0,[]) = tt.getD i (0,[]))=>xa4q (uh HA) hip hiq h)
        have HM:=hide (fun (h:¬ ss.getD i (0,[]) = tt.getD i (0,[]))=>show R = false by rw [← uh HR]; exact decide_eq_false (fun e=>h (by rw [e])))
        clear hcell gcell
        generalize ss.getD i (0,[]) = x at hdx hbx p1 HN HM
        generalize tt.getD i (0,[]) = y at hdy hby q1 HN HM
        generalize vs.getD i undef = va at p2 hdx
        generalize us.getD i undef = vb at q2 hdy
        obtain ⟨bx,dx⟩:=x
        obtain ⟨by_,dy⟩:=y
        simp only at hdx hdy p1 q1 hbx hby
        obtain ⟨xa,xn,xc,rfl,x1,x2,x3,x4,x5⟩:=hdx
        obtain ⟨ya,yn,yc,rfl,y1,y2,y3,y4,y5⟩:=hdy
        have HP1:=hide ((uh HK).cell p1 (by simp))
        have HP2:=hide ((uh HK).cell p2 (by simp))
        have HQ1:=hide ((uh HK).cell q1 (by simp))
        have HQ2:=hide ((uh HK).cell q2 (by simp))
        have HX5:=hide x5
        have HY5:=hide y5
        have HX4:=hide x4
        have HY4:=hide y4
        have HX1:=hide x1
        have HY1:=hide y1
        clear p1 p2 q1 q2 x5 y5 x4 y4 x1 y1
        have hd2:=(Kept.refl [] wr).drew
        by_cases hbb:bx = by_
        · subst hbb
          have e0:((bx:Int) != (bx:Int)) = false:=by simp
          by_cases hnn:xn = yn
          · subst hnn
            have e1:((xn:Int) != (xn:Int)) = false:=by simp
            go_upto_region 6 with fail
            refine lr_ss6 (by kernel_rfl) (by kernel_rfl) (fun W=>Kept [] wr W) hd2 ?_
            refine LinG.rd (by rfl) (.slice (some ⟨b,o,none⟩) len cap) (fun W hW=>by go_simp) (by simp only [Act.put,sa1,sa2,sa3]; rfl) ?_
            refine LinG.rd (by rfl) (.int .i64 i) (fun W hW=>by go_simp) (by simp only [Act.put,sa1,sa2,sa3]; rfl) ?_
            refine LinG.rd (by rfl) (.pointer (some ⟨b,o + i * 2,none⟩)) (fun W hW=>by go_simp) (by simp only [Act.put,sa1,sa2,sa3]; rfl) ?_
            refine LinG.rd (by rfl) (.pointer (some ⟨b,o + i * 2,none⟩)) (fun W hW=>by go_simp) (by simp only [Act.put,sa1,sa2,sa3]; rfl) ?_
            refine LinG.rd (by rfl) (.int .u16 bx) (fun W hW=>by have h9:=hW.cell (uh HP1) (by simp); go_simp) (by simp only [Act.put,sa1,sa2,sa3]; rfl) ?_
            refine LinG.rd (by rfl) (.slice (some ⟨b',o',none⟩) len cap') (fun W hW=>by go_simp) (by simp only [Act.put,sa1,sa2,sa3]; rfl) ?_
            refine LinG.rd (by rfl) (.int .i64 i) (fun W hW=>by go_simp) (by simp only [Act.put,sa1,sa2,sa3]; rfl) ?_
            refine LinG.rd (by rfl) (.pointer (some ⟨b',o' + i * 2,none⟩)) (fun W hW=>by go_simp) (by simp only [Act.put,sa1,sa2,sa3]; rfl) ?_
            refine LinG.rd (by rfl) (.pointer (some ⟨b',o' + i * 2,none⟩)) (fun W hW=>by go_simp) (by simp only [Act.put,sa1,sa2,sa3]; rfl) ?_
            refine LinG.rd (by rfl) (.int .u16 bx) (fun W hW=>by have h9:=hW.cell (uh HQ1) (by simp); go_simp) (by simp only [Act.put,sa1,sa2,sa3]; rfl) ?_
            refine LinG.rd (by rfl) (.bool false) (fun W hW=>by go_simp) (by simp only [Act.put,sa1,sa2,sa3]; rfl) ?_
            refine LinG.rd (by rfl) (.bool false) (fun W hW=>by go_simp) (by simp only [Act.put,sa1,sa2,sa3]; rfl) ?_
            refine LinG.rd (by rfl) (.slice (some ⟨b,o,none⟩) len cap) (fun W hW=>by go_simp) (by simp only [Act.put,sa1,sa2,sa3]; rfl) ?_
            refine LinG.rd (by rfl) (.int .i64 i) (fun W hW=>by go_simp) (by simp only [Act.put,sa1,sa2,sa3]; rfl) ?_
            refine LinG.rd (by rfl) (.pointer (some ⟨b,o + i * 2,none⟩)) (fun W hW=>by go_simp) (by simp only [Act.put,sa1,sa2,sa3]; rfl) ?_
            refine LinG.rd (by rfl) (.pointer (some ⟨b,o + i * 2 + 1,none⟩)) (fun W hW=>by go_simp) (by simp only [Act.put,sa1,sa2,sa3]; rfl) ?_
            refine LinG.rd (by rfl) (.slice xa xn xc) (fun W hW=>by have h9:=hW.cell (uh HP2) (by simp); go_simp) (by simp only [Act.put,sa1,sa2,sa3]; rfl) ?_
            refine LinG.rd (by rfl) (.int .i64 xn) (fun W hW=>by go_simp) (by simp only [Act.put,sa1,sa2,sa3]; rfl) ?_
            refine LinG.rd (by rfl) (.slice (some ⟨b',o',none⟩) len cap') (fun W hW=>by go_simp) (by simp only [Act.put,sa1,sa2,sa3]; rfl) ?_
            refine LinG.rd (by rfl) (.int .i64 i) (fun W hW=>by go_simp) (by simp only [Act.put,sa1,sa2,sa3]; rfl) ?_
            refine LinG.rd (by rfl) (.pointer (some ⟨b',o' + i * 2,none⟩)) (fun W hW=>by go_simp) (by simp only [Act.put,sa1,sa2,sa3]; rfl) ?_
            refine LinG.rd (by rfl) (.pointer (some ⟨b',o' + i * 2 + 1,none⟩)) (fun W hW=>by go_simp) (by simp only [Act.put,sa1,sa2,sa3]; rfl) ?_
            refine LinG.rd (by rfl) (.slice ya xn yc) (fun W hW=>by have h9:=hW.cell (uh HQ2) (by simp); go_simp) (by simp only [Act.put,sa1,sa2,sa3]; rfl) ?_
            refine LinG.rd (by rfl) (.int .i64 xn) (fun W hW=>by go_simp) (by simp only [Act.put,sa1,sa2,sa3]; rfl) ?_
            refine LinG.rd (by rfl) (.bool false) (fun W hW=>by go_simp) (by simp only [Act.put,sa1,sa2,sa3]; rfl) ?_
            refine LinG.rd (by rfl) (.bool false) (fun W hW=>by go_simp) (by simp only [Act.put,sa1,sa2,sa3]; rfl) ?_
            refine LinG.fin ?_
            have c2:=hd2.cell (uh HP2) (by simp)
            have HK1:=hide ((uh HK).trans hd2 (by simp))
            have hxl:xn≤xc:=x2
            go_wp2_with fail
            obtain ⟨wo,hwo⟩:∃ wo,wo = wr:=⟨_,rfl⟩
            subst hwo
            go_loopw [6] (fun t6 wq=>∃ (j:Nat),j≤xn∧t6 = .int .i64 j∧Hid (dx.take j = dy.take j)∧Hid (Kept [] wo wq)) (fun t _=>xn - (intOf t).toNat)
            case atStart=>exact ⟨0,Nat.zero_le _,rfl,hide (by simp),hide hd2⟩
            case round =>
              obtain ⟨j,hj,rfl,HB,HKq⟩:=hrel
              clear c2 hd2
              have c2:=(uh HKq).cell (uh HP2) (by simp)
              have HKw:=hide ((uh HK).trans (uh HKq) (by simp))
              by_cases hjl:j < xn
              · have hjl':(j:Int) < xn:=by omega
                have hjx:j < dx.length:=by have:=uh HX1; omega
                have hjy:j < dy.length:=by have:=uh HY1; omega
                obtain ⟨g,off,rfl,hcx⟩:=uh HX5 (by omega)
                obtain ⟨g',off',rfl,hcy⟩:=uh HY5 (by omega)
                have hrx:=hcx j hjl
                have hry:=hcy j hjl
                have hDx:=uh HX4 (dx.getD j []) (by rw [List.getD_eq_getElem?_getD,List.getElem?_eq_getElem hjx]; exact List.getElem_mem hjx)
                have hDy:=uh HY4 (dy.getD j []) (by rw [List.getD_eq_getElem?_getD,List.getElem?_eq_getElem hjy]; exact List.getElem_mem hjy)
                have HNj:=hide (fun (h:dx.getD j [] = dy.getD j [])=>xa4q (uh HB) hjx hjy h)
                have HMj:=hide (fun (h:¬ dx.getD j [] = dy.getD j [])=>uh HM (fun e=>h (by rw [(Prod.mk.inj e).2])))
                generalize dx.getD j [] = d at hrx hDx HNj HMj
                generalize dy.getD j [] = d' at hry hDy HNj HMj
                have heq:=fun W=>dig_eq W d d' hDx.1 hDy.1
                obtain ⟨sm,hsm⟩:∃ sm,decide (d = d') = sm:=⟨_,rfl⟩
                rw [hsm] at heq
                have HEQ:=hide heq
                have HSM:=hide hsm
                have HRX:=hide (show wr.rangeAt g (off + j * 32) (d.map u8) from fun u z hz=>(uh HKw).cell (hrx u z hz) (by simp))
                have HRY:=hide (show wr.rangeAt g' (off' + j * 32) (d'.map u8) from fun u z hz=>(uh HKw).cell (hry u z hz) (by simp))
                have HP2q:=hide c2
                have HQ2q:=hide ((uh HKq).cell (uh HQ2) (by simp))
                have hdl:=hDx.1
                have hdl':=hDy.1
                clear hrx hry hcx hcy heq hsm hDx hDy
                go_upto_region 11 with fail
                have hq2:=(Kept.refl [] wr).drew
                refine xc3w (by kernel_rfl) (by kernel_rfl) rfl (fun W=>Kept [] wr W) hq2 ?_
                refine LinY.rd (.slice (some ⟨b,o,none⟩) len cap) (fun W hW=>by go_simp) (by simp only [Act.put,sa1,sa2,sa3]; rfl) ?_
                refine LinY.rd (.int .i64 i) (fun W hW=>by go_simp) (by simp only [Act.put,sa1,sa2,sa3]; rfl) ?_
                refine LinY.rd (.pointer (some ⟨b,o + i * 2,none⟩)) (fun W hW=>by go_simp) (by simp only [Act.put,sa1,sa2,sa3]; rfl) ?_
                refine LinY.rd (.pointer (some ⟨b,o + i * 2 + 1,none⟩)) (fun W hW=>by go_simp) (by simp only [Act.put,sa1,sa2,sa3]; rfl) ?_
                refine LinY.rd (.slice (some ⟨g,off,none⟩) xn xc) (fun W hW=>by have h9:=hW.cell (uh HP2q) (by simp); go_simp) (by simp only [Act.put,sa1,sa2,sa3]; rfl) ?_
                refine LinY.rd (.int .i64 j) (fun W hW=>by go_simp) (by simp only [Act.put,sa1,sa2,sa3]; rfl) ?_
                refine LinY.rd (.pointer (some ⟨g,off + j * 32,none⟩)) (fun W hW=>by go_simp) (by simp only [Act.put,sa1,sa2,sa3]; rfl) ?_
                refine LinY.ld 50 (.tmp 60) rfl g (off + j * 32) rfl (d.map u8) _ (fun W hW=>hW.rng (uh HRX) (by simp)) Tryz.underlying50 rfl (by rw [List.length_map,hdl]; exact Tryz.size_dig) (by simp only [Act.put,sa1,sa2,sa3]; rfl) ?_
                refine LinY.rd (.slice (some ⟨b',o',none⟩) len cap') (fun W hW=>by go_simp) (by simp only [Act.put,sa1,sa2,sa3]; rfl) ?_
                refine LinY.rd (.int .i64 i) (fun W hW=>by go_simp) (by simp only [Act.put,sa1,sa2,sa3]; rfl) ?_
                refine LinY.rd (.pointer (some ⟨b',o' + i * 2,none⟩)) (fun W hW=>by go_simp) (by simp only [Act.put,sa1,sa2,sa3]; rfl) ?_
                refine LinY.rd (.pointer (some ⟨b',o' + i * 2 + 1,none⟩)) (fun W hW=>by go_simp) (by simp only [Act.put,sa1,sa2,sa3]; rfl) ?_
                refine LinY.rd (.slice (some ⟨g',off',none⟩) xn yc) (fun W hW=>by have h9:=hW.cell (uh HQ2q) (by simp); go_simp) (by simp only [Act.put,sa1,sa2,sa3]; rfl) ?_
                refine LinY.rd (.int .i64 j) (fun W hW=>by go_simp) (by simp only [Act.put,sa1,sa2,sa3]; rfl) ?_
                refine LinY.rd (.pointer (some ⟨g',off' + j * 32,none⟩)) (fun W hW=>by go_simp) (by simp only [Act.put,sa1,sa2,sa3]; rfl) ?_
                refine LinY.ld 50 (.tmp 68) rfl g' (off' + j * 32) rfl (d'.map u8) _ (fun W hW=>hW.rng (uh HRY) (by simp)) Tryz.underlying50 rfl (by rw [List.length_map,hdl']; exact Tryz.size_dig) (by simp only [Act.put,sa1,sa2,sa3]; rfl) ?_
                refine LinY.rd (.bool (!sm)) (fun W hW=>xc3b 50 (.tmp 61) (.tmp 69) 50 rfl (brow d) (brow d') rfl rfl W sm (by kernel_rfl) (uh HEQ W)) (by simp only [Act.put,sa1,sa2,sa3]; rfl) ?_
                refine LinY.fin (ChL.fin ?_)
                have HKq2:=hide ((uh HKq).trans hq2 (by simp))
                have c2n:=hq2.cell c2 (by simp)
                clear hq2 HRX HRY HEQ c2
                cases sm with
                | true =>
                  have HT:=hide (uh HNj (of_decide_eq_true (uh HSM)))
                  clear HNj HMj HSM
                  go_wp2_with fail
                  refine ⟨⟨j + 1,by omega,by go_num,HT,HKq2⟩,?_⟩
                  simp [intOf]; omega
                | false =>
                  have hr:R = false:=uh HMj (of_decide_eq_false (uh HSM))
                  clear HNj HMj HSM HR HM HN
                  subst hr
                  go_wp2_with fail
                  go_ret
                  exact ⟨rfl,(uh HK).trans (uh HKq2) (by simp)⟩
              · have hje:j = xn:=by omega
                have hjl':¬ (j:Int) < xn:=by omega
                have hdd:dx = dy:=by
                  have h9:=uh HB
                  rw [List.take_of_length_le (by have:=uh HX1; omega),List.take_of_length_le (by have:=uh HY1; omega)] at h9
                  exact h9
                have HT:=hide (uh HN (by rw [hdd]))
                clear HN HM hdd
                go_wp2_with fail
                refine ⟨⟨i + 1,by omega,by go_num,HT,HKw⟩,?_⟩
                simp [intOf]; omega
          · have e1:((xn:Int) != (yn:Int)) = true:=by rw [bne_iff_ne]; omega
            have hr:R = false:=uh HM (fun e=>hnn (by have h9:=(Prod.mk.inj e).2; have h1:=uh HX1; have h2:=uh HY1; rw [← h1,← h2,h9]))
            clear HN HM HR
            subst hr
            go_upto_region 6 with fail
            refine lr_ss6 (by kernel_rfl) (by kernel_rfl) (fun W=>Kept [] wr W) hd2 ?_
            refine LinG.rd (by rfl) (.slice (some ⟨b,o,none⟩) len cap) (fun W hW=>by go_simp) (by simp only [Act.put,sa1,sa2,sa3]; rfl) ?_
            refine LinG.rd (by rfl) (.int .i64 i) (fun W hW=>by go_simp) (by simp only [Act.put,sa1,sa2,sa3]; rfl) ?_
            refine LinG.rd (by rfl) (.pointer (some ⟨b,o + i * 2,none⟩)) (fun W hW=>by go_simp) (by simp only [Act.put,sa1,sa2,sa3]; rfl) ?_
            refine LinG.rd (by rfl) (.pointer (some ⟨b,o + i * 2,none⟩)) (fun W hW=>by go_simp) (by simp only [Act.put,sa1,sa2,sa3]; rfl) ?_
            refine LinG.rd (by rfl) (.int .u16 bx) (fun W hW=>by have h9:=hW.cell (uh HP1) (by simp); go_simp) (by simp only [Act.put,sa1,sa2,sa3]; rfl) ?_
            refine LinG.rd (by rfl) (.slice (some ⟨b',o',none⟩) len cap') (fun W hW=>by go_simp) (by simp only [Act.put,sa1,sa2,sa3]; rfl) ?_
            refine LinG.rd (by rfl) (.int .i64 i) (fun W hW=>by go_simp) (by simp only [Act.put,sa1,sa2,sa3]; rfl) ?_
            refine LinG.rd (by rfl) (.pointer (some ⟨b',o' + i * 2,none⟩)) (fun W hW=>by go_simp) (by simp only [Act.put,sa1,sa2,sa3]; rfl) ?_
            refine LinG.rd (by rfl) (.pointer (some ⟨b',o' + i * 2,none⟩)) (fun W hW=>by go_simp) (by simp only [Act.put,sa1,sa2,sa3]; rfl) ?_
            refine LinG.rd (by rfl) (.int .u16 bx) (fun W hW=>by have h9:=hW.cell (uh HQ1) (by simp); go_simp) (by simp only [Act.put,sa1,sa2,sa3]; rfl) ?_
            refine LinG.rd (by rfl) (.bool false) (fun W hW=>by go_simp) (by simp only [Act.put,sa1,sa2,sa3]; rfl) ?_
            refine LinG.rd (by rfl) (.bool false) (fun W hW=>by go_simp) (by simp only [Act.put,sa1,sa2,sa3]; rfl) ?_
            refine LinG.rd (by rfl) (.slice (some ⟨b,o,none⟩) len cap) (fun W hW=>by go_simp) (by simp only [Act.put,sa1,sa2,sa3]; rfl) ?_
            refine LinG.rd (by rfl) (.int .i64 i) (fun W hW=>by go_simp) (by simp only [Act.put,sa1,sa2,sa3]; rfl) ?_
            refine LinG.rd (by rfl) (.pointer (some ⟨b,o + i * 2,none⟩)) (fun W hW=>by go_simp) (by simp only [Act.put,sa1,sa2,sa3]; rfl) ?_
            refine LinG.rd (by rfl) (.pointer (some ⟨b,o + i * 2 + 1,none⟩)) (fun W hW=>by go_simp) (by simp only [Act.put,sa1,sa2,sa3]; rfl) ?_
            refine LinG.rd (by rfl) (.slice xa xn xc) (fun W hW=>by have h9:=hW.cell (uh HP2) (by simp); go_simp) (by simp only [Act.put,sa1,sa2,sa3]; rfl) ?_
            refine LinG.rd (by rfl) (.int .i64 xn) (fun W hW=>by go_simp) (by simp only [Act.put,sa1,sa2,sa3]; rfl) ?_
            refine LinG.rd (by rfl) (.slice (some ⟨b',o',none⟩) len cap') (fun W hW=>by go_simp) (by simp only [Act.put,sa1,sa2,sa3]; rfl) ?_
            refine LinG.rd (by rfl) (.int .i64 i) (fun W hW=>by go_simp) (by simp only [Act.put,sa1,sa2,sa3]; rfl) ?_
            refine LinG.rd (by rfl) (.pointer (some ⟨b',o' + i * 2,none⟩)) (fun W hW=>by go_simp) (by simp only [Act.put,sa1,sa2,sa3]; rfl) ?_
            refine LinG.rd (by rfl) (.pointer (some ⟨b',o' + i * 2 + 1,none⟩)) (fun W hW=>by go_simp) (by simp only [Act.put,sa1,sa2,sa3]; rfl) ?_
            refine LinG.rd (by rfl) (.slice ya yn yc) (fun W hW=>by have h9:=hW.cell (uh HQ2) (by simp); go_simp) (by simp only [Act.put,sa1,sa2,sa3]; rfl) ?_
            refine LinG.rd (by rfl) (.int .i64 yn) (fun W hW=>by go_simp) (by simp only [Act.put,sa1,sa2,sa3]; rfl) ?_
            refine LinG.rd (by rfl) (.bool true) (fun W hW=>by go_simp) (by simp only [Act.put,sa1,sa2,sa3]; rfl) ?_
            refine LinG.rd (by rfl) (.bool true) (fun W hW=>by go_simp) (by simp only [Act.put,sa1,sa2,sa3]; rfl) ?_
            refine LinG.fin ?_
            go_wp2_with fail
            go_ret
            exact ⟨rfl,(uh HK).trans hd2 (by simp)⟩
        · have e0:((bx:Int) != (by_:Int)) = true:=by rw [bne_iff_ne]; omega
          have hr:R = false:=uh HM (fun e=>hbb (Prod.mk.inj e).1)
          clear HN HM HR
          subst hr
          go_upto_region 6 with fail
          refine lr_ss6 (by kernel_rfl) (by kernel_rfl) (fun W=>Kept [] wr W) hd2 ?_
          refine LinG.rd (by rfl) (.slice (some ⟨b,o,none⟩) len cap) (fun W hW=>by go_simp) (by simp only [Act.put,sa1,sa2,sa3]; rfl) ?_
          refine LinG.rd (by rfl) (.int .i64 i) (fun W hW=>by go_simp) (by simp only [Act.put,sa1,sa2,sa3]; rfl) ?_
          refine LinG.rd (by rfl) (.pointer (some ⟨b,o + i * 2,none⟩)) (fun W hW=>by go_simp) (by simp only [Act.put,sa1,sa2,sa3]; rfl) ?_
          refine LinG.rd (by rfl) (.pointer (some ⟨b,o + i * 2,none⟩)) (fun W hW=>by go_simp) (by simp only [Act.put,sa1,sa2,sa3]; rfl) ?_
          refine LinG.rd (by rfl) (.int .u16 bx) (fun W hW=>by have h9:=hW.cell (uh HP1) (by simp); go_simp) (by simp only [Act.put,sa1,sa2,sa3]; rfl) ?_
          refine LinG.rd (by rfl) (.slice (some ⟨b',o',none⟩) len cap') (fun W hW=>by go_simp) (by simp only [Act.put,sa1,sa2,sa3]; rfl) ?_
          refine LinG.rd (by rfl) (.int .i64 i) (fun W hW=>by go_simp) (by simp only [Act.put,sa1,sa2,sa3]; rfl) ?_
          refine LinG.rd (by rfl) (.pointer (some ⟨b',o' + i * 2,none⟩)) (fun W hW=>by go_simp) (by simp only [Act.put,sa1,sa2,sa3]; rfl) ?_
          refine LinG.rd (by rfl) (.pointer (some ⟨b',o' + i * 2,none⟩)) (fun W hW=>by go_simp) (by simp only [Act.put,sa1,sa2,sa3]; rfl) ?_
          refine LinG.rd (by rfl) (.int .u16 by_) (fun W hW=>by have h9:=hW.cell (uh HQ1) (by simp); go_simp) (by simp only [Act.put,sa1,sa2,sa3]; rfl) ?_
          refine LinG.rd (by rfl) (.bool true) (fun W hW=>by go_simp) (by simp only [Act.put,sa1,sa2,sa3]; rfl) ?_
          refine LinG.rd (by rfl) (.bool true) (fun W hW=>by go_simp) (by simp only [Act.put,sa1,sa2,sa3]; rfl) ?_
          refine LinG.no (by rfl) (by simp only [Act.put,sa1,sa2,sa3]; rfl) ?_
          refine LinG.no (by rfl) (by simp only [Act.put,sa1,sa2,sa3]; rfl) ?_
          refine LinG.no (by rfl) (by simp only [Act.put,sa1,sa2,sa3]; rfl) ?_
          refine LinG.no (by rfl) (by simp only [Act.put,sa1,sa2,sa3]; rfl) ?_
          refine LinG.no (by rfl) (by simp only [Act.put,sa1,sa2,sa3]; rfl) ?_
          refine LinG.no (by rfl) (by simp only [Act.put,sa1,sa2,sa3]; rfl) ?_
          refine LinG.no (by rfl) (by simp only [Act.put,sa1,sa2,sa3]; rfl) ?_
          refine LinG.no (by rfl) (by simp only [Act.put,sa1,sa2,sa3]; rfl) ?_
          refine LinG.no (by rfl) (by simp only [Act.put,sa1,sa2,sa3]; rfl) ?_
          refine LinG.no (by rfl) (by simp only [Act.put,sa1,sa2,sa3]; rfl) ?_
          refine LinG.no (by rfl) (by simp only [Act.put,sa1,sa2,sa3]; rfl) ?_
          refine LinG.no (by rfl) (by simp only [Act.put,sa1,sa2,sa3]; rfl) ?_
          refine LinG.no (by rfl) (by simp only [Act.put,sa1,sa2,sa3]; rfl) ?_
          refine LinG.rd (by rfl) (.bool true) (fun W hW=>by go_simp) (by simp only [Act.put,sa1,sa2,sa3]; rfl) ?_
          refine LinG.fin ?_
          go_wp2_with fail
          go_ret
          exact ⟨rfl,(uh HK).trans hd2 (by simp)⟩
      · have hlt':¬ (i:Int) < len:=by omega
        have hie:i = len:=by omega
        have hr:R = true:=by
          rw [← uh HR]
          refine decide_eq_true ?_
          have h9:=uh HA
          rw [List.take_of_length_le (by have:=uh HL1; omega),List.take_of_length_le (by have:=uh HL2; omega)] at h9
          exact h9
        clear HR
        subst hr
        go_wp2
        go_ret
        exact ⟨rfl,uh HK⟩
  · have hb:((len:Int) != (len':Int)) = true:=by rw [bne_iff_ne]; omega
    have hr:R = false:=by
      rw [← uh HR]
      refine decide_eq_false (fun e=>hl ?_)
      have h1:=uh HL1
      have h2:=uh HL2
      rw [← h1,← h2,e]
    clear HR hl
    subst hr
    go_enter Tryz.func28,Tryz.ntmps28
    go_wp2
    go_ret
    exact ⟨rfl,Kept.refl _ _⟩
def digN (ss:List Stp):Nat:=(ss.map (fun s=>s.2.length)).sum
theorem xa9p {ss:List Stp} {i:Nat} (h:i < ss.length):digN (ss.take (i + 1)) = digN (ss.take i) + (ss.getD i (0,[])).2.length:=by
  unfold digN
  rw [List.take_succ_eq_append_getElem h,List.map_append,List.sum_append,List.getD_eq_getElem?_getD,List.getElem?_eq_getElem h]; simp
theorem xb3s {ss:List Stp} (h:∀ s∈ss,s.2.length≤1048576):∀ i,digN (ss.take i)≤1048576 * i
  | 0=>by simp [digN]
  | i + 1=>by
    rcases Nat.lt_or_ge i ss.length with hi | hi
    · rw [xa9p hi]
      have h1:=xb3s h i
      have h2:=h (ss.getD i (0,[])) (by rw [List.getD_eq_getElem?_getD,List.getElem?_eq_getElem hi]; exact List.getElem_mem hi)
      omega
    · rw [List.take_of_length_le (by omega)]
      have h1:=xb3s h i
      rw [List.take_of_length_le hi] at h1
      omega
theorem RdS.at_ {w:World} {ao:Option Addr} {n c:Nat} {ss:List Stp} (h:RdS w (.slice ao n c) ss) {i:Nat} (hi:i < ss.length):∃ b o v,ao = some ⟨b,o,none⟩∧w.rangeAt b (o + i * 2) [.int .u16 ((ss.getD i (0,[])).1:Int),v]∧(ss.getD i (0,[])).1 < 65536∧RdD w v (ss.getD i (0,[])).2:=by
  obtain ⟨ao',len,cap,vs,e,h1,h2,h3,h4,h5⟩:=h
  cases e
  obtain ⟨b,o,rfl,hc⟩:=h5 (by omega)
  have h6:=hc i (by omega)
  refine ⟨b,o,vs.getD i undef,rfl,fun j u hj=>?_,(h4 i (by omega)).1,(h4 i (by omega)).2⟩
  match j,hj with
  | 0,hj=>rw [Nat.add_zero,h6.1]; exact hj
  | 1,hj=>rw [h6.2]; exact hj
set_option maxHeartbeats 4000000 in
theorem xb6e (sv pv:Value) (ss:List Stp) (ps:Prs) (w:World) (hs:RdS w sv ss) (hp:RdK w pv ps) (hl:ss.length≤1048576) (hk:∀ s∈ss,s.2.length≤1048576) :
    Calls Tryz.prog 15 #[.agg #[sv,pv]] w fun e w'=>e = .returned (.tuple #[.int .i64 (digN ss:Nat),.int .i64 (ps.length:Nat)])∧Kept [] w w':=by
  obtain ⟨sa,sn,sc,vs0,rfl,hsn,_⟩:=id hs
  obtain ⟨pa,pn,pc,_,_,rfl,hpn,_⟩:=id hp
  have HPN:=hide hpn
  have HSN:=hide hsn
  have HS:=hide hs
  have HDN:=hide (xb3s hk)
  have hl2:sn≤1048576:=by omega
  have HA:=hide (heap_alloc_new w (.cells #[.slice sa sn sc,.slice pa pn pc] 35))
  have HK:=hide ((Kept.refl [] w).alloc (.cells #[.slice sa sn sc,.slice pa pn pc] 35))
  have c0:(w.alloc (.cells #[.slice sa sn sc,.slice pa pn pc] 35)).cell? ⟨w.heap.size,0,none⟩ = some (.slice sa sn sc):=cell_of_row _ _ 0 _ _ _ (uh HA)
  clear hs hp hpn hl hk hsn
  go_enter Tryz.func15,Tryz.ntmps15
  obtain ⟨W,hW⟩:∃ W,w.alloc (.cells #[.slice sa sn sc,.slice pa pn pc] 35) = W:=⟨_,rfl⟩
  rw [hW] at HA HK c0
  go_wp2_with fail
  try rw [hW]
  clear hW
  go_loopw [4,10] (fun t4 t10 wr=>∃ (i:Nat),i≤sn∧t10 = .int .i64 i∧t4 = .int .i64 (digN (ss.take i):Nat)∧Hid (Kept [] W wr)) (fun _ t _=>sn - (intOf t).toNat)
  case atStart=>exact ⟨0,Nat.zero_le _,rfl,by simp [digN],hide (Kept.refl _ _)⟩
  case round =>
    obtain ⟨i,hi,rfl,rfl,HKr⟩:=hrel
    have HKw:=hide ((uh HK).trans (uh HKr) (by simp))
    by_cases hlt:i < sn
    · have hlt':(i:Int) < sn:=by omega
      have hil:i < ss.length:=by have:=uh HSN; omega
      obtain ⟨b,o,v,rfl,hr,hb,hd⟩:=(uh HS).at_ hil
      have hsc:=xa9p hil
      have hdb:=uh HDN i
      have hdb2:=uh HDN (i + 1)
      have HRG:=hide (show wr.rangeAt b (o + i * 2) _ from fun j u hj=>(uh HKw).cell (hr j u hj) (by simp))
      obtain ⟨da,dn,dc,rfl,hdn,_⟩:=id hd
      rw [hdn] at hsc
      have HSC:=hide hsc
      generalize (ss.getD i (0,[])).1 = x at HRG hb
      obtain ⟨S0,hS0⟩:∃ S0,digN (ss.take i) = S0:=⟨_,rfl⟩
      rw [hS0] at HSC hdb hsc ⊢
      rw [hsc] at hdb2
      have hA:=heap_alloc_new wr (.cells #[.int .u16 (x:Int),.slice da dn dc] 64)
      have HKA:=hide ((Kept.refl [] wr).alloc (.cells #[.int .u16 (x:Int),.slice da dn dc] 64))
      have c1:(wr.alloc (.cells #[.int .u16 (x:Int),.slice da dn dc] 64)).cell? ⟨wr.heap.size,1,none⟩ = some (.slice da dn dc):=cell_of_row _ _ 1 _ _ _ hA
      clear hr hd hdn hsc hA hS0
      go_wp2_with (refine wpList_load_mid rfl 64 (.tmp 12) rfl b (o + i * 2) rfl [.int .u16 (x:Int),.slice da dn dc] _ (uh HRG) Tryz.underlying64 rfl (by kernel_rfl) ?_)
      refine ⟨⟨i + 1,hlt,by go_num,by rw [uh HSC]; go_num,hide ((uh HKr).trans (uh HKA) (by simp))⟩,?_⟩
      simp [intOf]; omega
    · have hie:i = sn:=by omega
      have hlt':¬ (i:Int) < sn:=by omega
      have hall:digN (ss.take i) = digN ss:=by rw [List.take_of_length_le (by have:=uh HSN; omega)]
      have c2:wr.cell? ⟨w.heap.size,1,none⟩ = some (.slice pa pn pc):=(uh HKr).cell (cell_of_row _ _ 1 _ _ _ (uh HA)) (by simp)
      obtain ⟨D,hD⟩:∃ D,digN (ss.take i) = D:=⟨_,rfl⟩
      rw [hD]
      have HALL:=hide (show digN ss = D by rw [← hall,hD])
      clear hall hie hD
      go_wp2_with fail
      go_quiet (fail)
      go_wp2
      go_ret2
      exact ⟨by rw [uh HALL,uh HPN]; rfl,((uh HKw).drewN _)⟩
set_option maxHeartbeats 4000000 in
theorem xb6a (sv pv tv qv:Value) (ss tt:List Stp) (ps qs:Prs) (w:World) (h1:RdS w sv ss) (h2:RdK w pv ps) (h3:RdS w tv tt) (h4:RdK w qv qs) :
    Calls Tryz.prog 14 #[.agg #[sv,pv],.agg #[tv,qv]] w fun e w'=>e = .returned (.bool (decide (ss = tt) && decide (ps = qs)))∧Kept [] w w':=by
  obtain ⟨a1,a2,a3,_,rfl,_⟩:=id h1
  obtain ⟨b1,b2,b3,_,_,rfl,_⟩:=id h2
  obtain ⟨c1,c2,c3,_,rfl,_⟩:=id h3
  obtain ⟨d1,d2,d3,_,_,rfl,_⟩:=id h4
  have H1:=hide h1
  have H2:=hide h2
  have H3:=hide h3
  have H4:=hide h4
  have HX:=hide (heap_alloc_new w (.cells #[.slice a1 a2 a3,.slice b1 b2 b3] 35))
  have HK1:=hide ((Kept.refl [] w).alloc (.cells #[.slice a1 a2 a3,.slice b1 b2 b3] 35))
  have HKB:=hide (fun (W:World)=>(Kept.refl [] W).alloc (.cells #[.slice c1 c2 c3,.slice d1 d2 d3] 35))
  have HYB:=hide (fun (W:World)=>heap_alloc_new W (.cells #[.slice c1 c2 c3,.slice d1 d2 d3] 35))
  have HX2:=hide ((uh HKB _).heap (uh HX) (by simp))
  have HK:=hide ((uh HK1).trans (uh HKB _) (by simp))
  have HY:=hide (uh HYB (w.alloc (.cells #[.slice a1 a2 a3,.slice b1 b2 b3] 35)))
  obtain ⟨W2,hW2⟩:∃ W2,(w.alloc (.cells #[.slice a1 a2 a3,.slice b1 b2 b3] 35)).alloc (.cells #[.slice c1 c2 c3,.slice d1 d2 d3] 35) = W2:=⟨_,rfl⟩
  have hz:(w.alloc (.cells #[.slice a1 a2 a3,.slice b1 b2 b3] 35)).heap.size = w.heap.size + 1:=by simp
  rw [hW2] at HX2 HK HY
  rw [hz] at HY
  have x0:=xa0l [] [.slice a1 a2 a3,.slice b1 b2 b3] [] (uh HX2) rfl
  have y0:=xa0l [] [.slice c1 c2 c3,.slice d1 d2 d3] [] (uh HY) rfl
  have k1:W2.cell? ⟨w.heap.size,0,none⟩ = some (.slice a1 a2 a3):=x0 0 _ rfl
  have k2:W2.cell? ⟨w.heap.size,1,none⟩ = some (.slice b1 b2 b3):=x0 1 _ rfl
  have k3:W2.cell? ⟨w.heap.size + 1,0,none⟩ = some (.slice c1 c2 c3):=y0 0 _ rfl
  have k4:W2.cell? ⟨w.heap.size + 1,1,none⟩ = some (.slice d1 d2 d3):=y0 1 _ rfl
  obtain ⟨R1,hR1⟩:∃ R1,decide (ss = tt) = R1:=⟨_,rfl⟩
  obtain ⟨R2,hR2⟩:∃ R2,decide (ps = qs) = R2:=⟨_,rfl⟩
  have HR1:=hide hR1
  have HR2:=hide hR2
  rw [hR1,hR2]
  clear x0 y0 h1 h2 h3 h4 hz hR1 hR2 HX HK1 HKB HYB
  have HC2:=hide k2
  have HC4:=hide k4
  go_enter Tryz.func14,Tryz.ntmps14
  go_upto_region 1 with fail
  try rw [hW2]
  clear hW2
  go_wp2_with fail
  refine Calls.mono (xa7d _ _ ss tt W2 ((uh H1).old (uh HK)) ((uh H3).old (uh HK))) ?_
  rintro e w4 ⟨rfl,k5⟩
  rw [uh HR1]
  have HK4:=hide ((uh HK).trans k5 (by simp))
  have c2':=k5.cell (uh HC2) (by simp)
  have c4':=k5.cell (uh HC4) (by simp)
  clear k1 k2 k3 k4 k5
  cases R1 with
  | false =>
    go_wp2_with fail
    go_ret
    exact ⟨rfl,uh HK4⟩
  | true =>
    go_wp2_with fail
    refine Calls.mono (xa6i _ _ ps qs w4 ((uh H2).old (uh HK4)) ((uh H4).old (uh HK4))) ?_
    rintro e w5 ⟨rfl,k6⟩
    rw [uh HR2]
    have HK5:=hide ((uh HK4).trans k6 (by simp))
    clear k6 c2' c4'
    go_wp2_with fail
    go_ret
    exact ⟨by simp,uh HK5⟩
theorem rdk_of {T:Nat→Prop} {W:World} {v:Value} {l:List VP} {L:Prs} (h:RdC 2 W v (kvR l)) (hp:PR T W l L):RdK W v L:=by
  obtain ⟨ao,len,cap,rfl,hl,hc1,hc2,hcell⟩:=h
  rw [xa0w] at hl
  have e1:∀ i,i < l.length→(l.map (·.1)).getD i undef = (l.getD i (undef,undef)).1∧(l.map (·.2)).getD i undef = (l.getD i (undef,undef)).2:=fun i hi=>by
    simp [List.getD_eq_getElem?_getD,List.getElem?_eq_getElem hi]
  refine ⟨_,len,cap,l.map (·.1),l.map (·.2),rfl,by rw [← hl]; exact hp.1.symm,hc1,hc2,fun i hi=>?_,fun h0=>?_⟩
  · rw [(e1 i (by omega)).1,(e1 i (by omega)).2]; exact (hp.2 i (by omega)).now
  · obtain ⟨b,off,rfl,hce⟩:=hcell h0
    refine ⟨b,off,rfl,fun i hi=>?_⟩
    have hi':i < l.length:=by omega
    have h7:=hce i (by rw [xa0w]; exact hi')
    have e:(kvR l)[i]'(by rw [xa0w]; exact hi') = [l[i].1,l[i].2]:=kvR_at _ i hi'
    rw [e] at h7
    rw [(e1 i hi').1,(e1 i hi').2]
    simp only [List.getD_eq_getElem?_getD,List.getElem?_eq_getElem hi',Option.getD_some]
    exact ⟨h7 0 _ rfl,h7 1 _ rfl⟩
theorem kvR_tk (l:List VP) (j:Nat) (hj:j < l.length):kvR (l.take (j + 1)) = kvR (l.take j)++[[(l.getD j (undef,undef)).1,(l.getD j (undef,undef)).2]]:=by
  rw [List.take_succ_eq_append_getElem hj,xb5x,List.getD_eq_getElem?_getD,List.getElem?_eq_getElem hj]; rfl
set_option maxHeartbeats 4000000 in
theorem xa3p (T:Nat→Prop) (k:Nat) (mv:Value) (L:Prs) (w:World) (hM:IAt T k w mv L) (hl:L.length≤1000000000) :
    Calls Tryz.prog 29 #[mv] w fun e w'=>∃ v',e = .returned v'∧RdK w' v' L∧(∀ y∈blk v',w.heap.size≤y)∧Kept [] w w':=by
  have HM:=hide hM
  obtain ⟨ao,c,l,rfl,hc1,hc2,hll,hpr,hcell⟩:=hM.parts
  have HCE:=hide hcell
  have HPR:=hide hpr
  obtain ⟨n,hn⟩:∃ n,L.length = n:=⟨_,rfl⟩
  have HN:=hide hn
  rw [hn] at hc1 hl hll HCE ⊢
  clear hM hcell hpr hn
  go_enter Tryz.func29,Tryz.ntmps29
  go_wp2
  go_loopw [3,8] (fun t7 t12 wr=>∃ (j:Nat) (v:Value),t12 = .int .i64 j∧t7 = v∧j≤n∧Hid (wr.ownsRow w.heap.size 32 2 v j (kvR (l.take j)).flatten)∧Hid (Kept [] w wr)) (fun _ t _=>n - (intOf t).toNat)
  case atStart=>exact ⟨0,.slice none 0 0,rfl,rfl,Nat.zero_le _,hide (World.ownsRow_nil _ _ _ _),hide (Kept.refl _ _)⟩
  case round =>
    obtain ⟨j,v,rfl,rfl,hj,HOx,HKr⟩:=hrel
    by_cases hlt:j < n
    · have hlt':(j:Int) < n:=by omega
      have HTK:=hide (kvR_tk l j (by omega))
      obtain ⟨b,off,rfl,hTb,hcl⟩:=uh HCE (by omega)
      have hRG:=hcl j hlt
      have hone:=(uh HPR).one' j (by omega)
      have hrd:=(uh HPR).2 j (by omega)
      generalize (l.getD j (undef,undef)).1 = kx at hRG hone hrd HTK
      generalize (l.getD j (undef,undef)).2 = vx at hRG hone hrd HTK
      have HSNOC:=hide (show L.take (j + 1) = L.take j++[L.getD j ([],[])] by
        have hjL:j < L.length:=by have:=uh HN; omega
        rw [List.take_succ_eq_append_getElem hjL,List.getD_eq_getElem?_getD,List.getElem?_eq_getElem hjL]; rfl)
      generalize L.getD j ([],[]) = ej at hRG hrd HSNOC
      obtain ⟨ka,va⟩:=ej
      have hDg:Dg ((hsZ k).kd ka):=xa1h _ _
      obtain ⟨D,hD⟩:∃ D,(hsZ k).kd ka = D:=⟨_,rfl⟩
      simp only [hD] at hRG
      rw [hD] at hDg
      have HD:=hide hD
      have HSTY:=hide hrd
      have HRG:=hide (show wr.rangeAt b (off + j * 34) (itC D kx vx) from fun u z hz=>(uh HKr).cell (hRG u z hz) (by simp))
      have HZ1:=hide (heap_alloc_new wr (.cells zit 116))
      have HN2:=hide (setRow_heap _ _ _ (itC D kx vx).toArray _ _ (uh HZ1))
      have HK12:=hide ((Kept.refl [] wr).alloc (.cells zit 116) |>.setRow (g:=wr.heap.size) (Or.inr (Nat.le_refl _)) (itC D kx vx).toArray)
      obtain ⟨W2,hW2⟩:∃ W2,(wr.alloc (.cells zit 116)).setRow wr.heap.size (itC D kx vx).toArray = W2:=⟨_,rfl⟩
      rw [hW2] at HN2 HK12
      have HK2:=hide ((uh HKr).trans (uh HK12) (by simp))
      have hwsz:w.heap.size≤wr.heap.size:=by have:=(uh HKr).size; omega
      obtain ⟨rD2,cK2,cV2⟩:=it_row (uh HN2) hDg.1
      have HRD2:=hide rD2
      have HCK2:=hide cK2
      have HCV2:=hide cV2
      have HPA2:=hide (xb2b (uh HN2) hDg.1)
      obtain ⟨kx1,kx2,kx3,rfl,_⟩:=hrd.now.1
      obtain ⟨vx1,vx2,vx3,rfl,_⟩:=hrd.now.2
      clear hrd hRG hcl rD2 hD hDg hone
      have HO2:=hide ((uh HK12).owns (uh HOx) (by simp))
      obtain ⟨vo,vc,rfl⟩:=xa0i (uh HOx)
      have hown:∀ z,(Value.slice vo j vc).ownBlock = some z→w.heap.size≤z:=fun z hz=>((uh HOx).lt z hz).1
      have HW5:=hide (heap_alloc_new W2 (.cells #[.slice kx1 kx2 kx3,.slice vx1 vx2 vx3] 32))
      have HK45:=hide ((Kept.refl [] W2).alloc (.cells #[.slice kx1 kx2 kx3,.slice vx1 vx2 vx3] 32))
      have HO5:=hide ((uh HK45).owns (uh HO2) (by simp))
      have HK5:=hide ((uh HK2).trans (uh HK45) (by simp))
      have HRL:=hide (show RdC 2 (W2.alloc (.cells #[.slice kx1 kx2 kx3,.slice vx1 vx2 vx3] 32)) (.slice (some ⟨W2.heap.size,0,none⟩) 1 1) (kvR [(.slice kx1 kx2 kx3,.slice vx1 vx2 vx3)]) from ⟨_,1,1,rfl,rfl,Nat.le_refl _,by omega,fun _=>⟨W2.heap.size,0,rfl,fun j hj=>by
        have h0:j = 0:=by rw [xa0w] at hj; simp at hj; omega
        subst h0
        exact xa0l [] [.slice kx1 kx2 kx3,.slice vx1 vx2 vx3] [] (uh HW5) rfl⟩⟩)
      have hbnd:j + 1≤1000000001:=by omega
      go_wp2_with (first
      | (refine wpList_load_mid rfl 116 (.tmp 10) rfl b (off + j * 34) rfl (itC D (.slice kx1 kx2 kx3) (.slice vx1 vx2 vx3)) _ (uh HRG) Tryz.underlying116 rfl (by rw [xa2e (by rw [← uh HD]; exact xa0h _ _)]; exact Tryz.size_it) ?_)
      | (rw [lit_it]; refine wpList_store_row rfl 116 (.tmp 5) (.tmp 11) rfl wr.heap.size (itC D (.slice kx1 kx2 kx3) (.slice vx1 vx2 vx3)).toArray rfl rfl _ zit (uh HZ1) (by rw [xa1d (by rw [← uh HD]; exact xa0h _ _)]; exact Tryz.size_it) (by rw [xa1d (by rw [← uh HD]; exact xa0h _ _)]; rfl) (xa7p rfl rfl) ?_; rw [hW2]; simp only [Act.put])
      | (refine wpList_load_mid rfl 32 (.tmp 13) rfl wr.heap.size 32 rfl [.slice kx1 kx2 kx3,.slice vx1 vx2 vx3] _ (uh HPA2) Tryz.underlying32 rfl Tryz.size_pair ?_)
      | (refine xa3k rfl (.tmp 14) rfl (.slice kx1 kx2 kx3) (.slice vx1 vx2 vx3) rfl ?_)
      | (at_builtin; refine xa0j rfl 22 32 (.tmp 12) (.tmp 15) rfl rfl _ w.heap.size (.agg #[.slice none 0 0,.slice none 0 0]) 2 48 Tryz.underlying22 Tryz.infoQ rfl (by decide) (.slice vo j vc) j (kvR (l.take j)).flatten (uh HO5) (some ⟨W2.heap.size,0,none⟩) 1 1 (kvR [(.slice kx1 kx2 kx3,.slice vx1 vx2 vx3)]) (uh HRL) (by intro r hr; simp [kvR] at hr; rw [hr]; rfl) (by intro r hr u hu; simp [kvR] at hr; rw [hr] at hu; simp at hu; rcases hu with rfl | rfl <;> rfl) (by omega) (by omega) (uh HK5).size rfl rfl ?_; intro ao7 c7 w7 HO7 HG7 HA7))
      have HK7:=hide ((uh HK5).grown (uh HG7) (fun z hz=>Or.inr (hown z hz)))
      clear hown hbnd
      refine ⟨⟨j + 1,.slice ao7 (j + 1) c7,by go_num,rfl,hlt,hide (by rw [uh HTK,List.flatten_append]; exact uh HO7),HK7⟩,?_⟩
      simp [intOf]; omega
    · have hje:j = n:=by omega
      subst hje
      have hlt':¬ (j:Int) < j:=by omega
      go_wp2
      go_ret
      have h9:=uh HOx
      rw [List.take_of_length_le (by omega)] at h9
      exact ⟨_,rfl,rdk_of (xa1z (by rw [xa0w,hll]; exact h9) (uh HPR).cell.1) ((uh HPR).agr (Agr.nil (uh HKr))),fun y hy=>by
        rcases h9.2 with ⟨e,_⟩ | ⟨g,c,cur,e,hg,_⟩
        · rw [e] at hy; simp [blk] at hy
        · rw [e] at hy; have h8:y = g:=by simpa [blk] using hy
          omega,uh HKr⟩
theorem xa8d (T:Nat→Prop) (k:Nat) (mv:Value) (L:Prs) (w:World) (hM:IAt T k w mv L) (hl:L.length≤1000000000) :
    Calls Tryz.prog 29 #[mv] w fun e w'=>∃ v',e = .returned v'∧RdK w' v' L∧Kept [] w w' :=
  (xa3p T k mv L w hM hl).mono fun e w' ⟨v,h1,h2,_,h4⟩=>⟨v,h1,h2,h4⟩
set_option maxHeartbeats 2000000 in
theorem xa4b (T:Nat→Prop) (k:Nat) (mv:Value) (L:Prs) (w:World) (hk:1≤k∧k≤32) (hM:IAt T k w mv L) (hs:Srt (hsZ k) L) (hl:L.length≤1000000000) :
    Calls Tryz.prog 88 #[mv] w fun e w'=>e = .returned (.bool (sgl (hsZ k) L))∧Kept [] w w':=by
  obtain ⟨ao,c,l,rfl,hc1,hc2,hll,hpr,hcell⟩:=hM.parts
  by_cases h0:L = []
  · subst h0
    rw [xb0k]
    clear hcell hpr hM
    go_enter Tryz.func88,Tryz.ntmps88
    go_upto_region 1 with fail
    refine lr_si (by kernel_rfl) (by kernel_rfl) rfl (fun W=>Kept [] w W) (Kept.refl _ w).drew ?_
    refine LinG.rd (by rfl) (.slice ao 0 c) (fun W hW=>by go_simp) (by simp only [Act.put,sa1,sa2,sa3]; rfl) ?_
    refine LinG.rd (by rfl) (.int .i64 0) (fun W hW=>by go_simp) (by simp only [Act.put,sa1,sa2,sa3]; rfl) ?_
    refine LinG.rd (by rfl) (.bool true) (fun W hW=>by go_simp) (by simp only [Act.put,sa1,sa2,sa3]; rfl) ?_
    refine LinG.rd (by rfl) (.bool true) (fun W hW=>by go_simp) (by simp only [Act.put,sa1,sa2,sa3]; rfl) ?_
    iterate 12 refine LinG.no (by rfl) (by simp only [Act.put,sa1,sa2,sa3]; rfl) ?_
    refine LinG.rd (by rfl) (.bool true) (fun W hW=>by go_simp) (by simp only [Act.put,sa1,sa2,sa3]; rfl) ?_
    refine LinG.fin (ChL.op (.bool true) (by go_simp) (Kept.refl _ w).drew (by simp only [Act.put,sa1,sa2,sa3]; rfl) (ChL.fin ?_))
    go_wp2
    go_ret
    exact ⟨rfl,(Kept.refl _ w).drew⟩
  · rw [xb9u (hsZ_ok hk) hs h0]
    have hp:0 < L.length:=by cases L with
      | nil=>exact absurd rfl h0
      | cons y L=>simp
    obtain ⟨b,off,rfl,hTb,hcl⟩:=hcell hp
    have hr0:=hcl 0 hp
    have hr1:=hcl (L.length - 1) (by omega)
    generalize (l.getD 0 (undef,undef)).1 = x0 at hr0
    generalize (l.getD 0 (undef,undef)).2 = y0 at hr0
    generalize (l.getD (L.length - 1) (undef,undef)).1 = x1 at hr1
    generalize (l.getD (L.length - 1) (undef,undef)).2 = y1 at hr1
    have hA:((hsZ k).kd (L.getD 0 ([],[])).1).length = 32:=xa0h _ _
    have hB:((hsZ k).kd (L.getD (L.length - 1) ([],[])).1).length = 32:=xa0h _ _
    generalize (hsZ k).kd (L.getD 0 ([],[])).1 = A at hr0 hA ⊢
    generalize (hsZ k).kd (L.getD (L.length - 1) ([],[])).1 = B at hr1 hB ⊢
    obtain ⟨n,hn⟩:∃ n,L.length = n:=⟨_,rfl⟩
    rw [hn] at hr1 hp hl hc1 ⊢
    have q1:((n:Int) == 0) = false:=by rw [beq_eq_false_iff_ne]; omega
    have q2:IntKind.i64.wrap ((n:Int) - 1) = ((n - 1:Nat):Int):=by simp [IntKind.wrap,IntKind.signed,IntKind.bits]; omega
    have q3:(0:Int) < n:=by omega
    have q4:((n - 1:Nat):Int) < n:=by omega
    have q5:¬ n = 0:=by omega
    have HR0:=hide (show w.rangeAt b off (A.map u8) from fun j u hu=>by
      have h9:=hr0 j u (by rw [itC,List.getElem?_append_left (by rw [List.length_map]; have:=(List.getElem?_eq_some_iff.1 hu).1; simpa using this)]; exact hu)
      simpa using h9)
    have HR1:=hide (show w.rangeAt b (off + (n - 1) * 34) (B.map u8) from fun j u hu=>by
      exact hr1 j u (by rw [itC,List.getElem?_append_left (by rw [List.length_map]; have:=(List.getElem?_eq_some_iff.1 hu).1; simpa using this)]; exact hu))
    have heq:=fun W=>dig_eq W A B hA hB
    obtain ⟨sm,hsm⟩:∃ sm,decide (A = B) = sm:=⟨_,rfl⟩
    rw [hsm] at heq ⊢
    have HEQ:=hide heq
    clear hr0 hr1 heq hsm hcl hcell hpr hM hs h0 hn hll
    obtain ⟨m,hm⟩:∃ m,n - 1 = m:=⟨_,rfl⟩
    rw [hm] at q2 q4 HR1
    clear hm
    go_enter Tryz.func88,Tryz.ntmps88
    go_upto_region 1 with fail
    refine lr_si (by kernel_rfl) (by kernel_rfl) rfl (fun W=>Kept [] w W) (Kept.refl _ w).drew ?_
    refine LinG.rd (by rfl) (.slice (some ⟨b,off,none⟩) n c) (fun W hW=>by go_simp) (by simp only [Act.put,sa1,sa2,sa3]; rfl) ?_
    refine LinG.rd (by rfl) (.int .i64 n) (fun W hW=>by go_simp) (by simp only [Act.put,sa1,sa2,sa3]; rfl) ?_
    refine LinG.rd (by rfl) (.bool false) (fun W hW=>by go_simp) (by simp only [Act.put,sa1,sa2,sa3]; rfl) ?_
    refine LinG.rd (by rfl) (.bool false) (fun W hW=>by go_simp) (by simp only [Act.put,sa1,sa2,sa3]; rfl) ?_
    refine LinG.rd (by rfl) (.slice (some ⟨b,off,none⟩) n c) (fun W hW=>by go_simp) (by simp only [Act.put,sa1,sa2,sa3]; rfl) ?_
    refine LinG.rd (by rfl) (.pointer (some ⟨b,off,none⟩)) (fun W hW=>by go_simp) (by simp only [Act.put,sa1,sa2,sa3]; rfl) ?_
    refine LinG.rd (by rfl) (.pointer (some ⟨b,off,none⟩)) (fun W hW=>by go_simp) (by simp only [Act.put,sa1,sa2,sa3]; rfl) ?_
    refine LinG.ld (by rfl) 50 (.tmp 9) rfl b off rfl (A.map u8) _ (fun W hW=>hW.rng (uh HR0) (by simp)) Tryz.underlying50 rfl (by rw [List.length_map,hA]; exact Tryz.size_dig) (by simp only [Act.put,sa1,sa2,sa3]; rfl) ?_
    refine LinG.rd (by rfl) (.slice (some ⟨b,off,none⟩) n c) (fun W hW=>by go_simp) (by simp only [Act.put,sa1,sa2,sa3]; rfl) ?_
    refine LinG.rd (by rfl) (.slice (some ⟨b,off,none⟩) n c) (fun W hW=>by go_simp) (by simp only [Act.put,sa1,sa2,sa3]; rfl) ?_
    refine LinG.rd (by rfl) (.int .i64 n) (fun W hW=>by go_simp) (by simp only [Act.put,sa1,sa2,sa3]; rfl) ?_
    refine LinG.rd (by rfl) (.int .i64 (m:Nat)) (fun W hW=>by go_simp) (by simp only [Act.put,sa1,sa2,sa3]; rfl) ?_
    refine LinG.rd (by rfl) (.pointer (some ⟨b,off + m * 34,none⟩)) (fun W hW=>by go_simp) (by simp only [Act.put,sa1,sa2,sa3]; rfl) ?_
    refine LinG.rd (by rfl) (.pointer (some ⟨b,off + m * 34,none⟩)) (fun W hW=>by go_simp) (by simp only [Act.put,sa1,sa2,sa3]; rfl) ?_
    refine LinG.ld (by rfl) 50 (.tmp 16) rfl b (off + m * 34) rfl (B.map u8) _ (fun W hW=>hW.rng (uh HR1) (by simp)) Tryz.underlying50 rfl (by rw [List.length_map,hB]; exact Tryz.size_dig) (by simp only [Act.put,sa1,sa2,sa3]; rfl) ?_
    refine LinG.rd (by rfl) (.bool sm) (fun W hW=>xb0w 50 (.tmp 10) (.tmp 17) 50 rfl (brow A) (brow B) rfl rfl W sm (by kernel_rfl) (uh HEQ W)) (by simp only [Act.put,sa1,sa2,sa3]; rfl) ?_
    refine LinG.rd (by rfl) (.bool sm) (fun W hW=>by go_simp) (by simp only [Act.put,sa1,sa2,sa3]; rfl) ?_
    refine LinG.fin (ChL.op (.bool sm) (by go_simp) (Kept.refl _ w).drew (by simp only [Act.put,sa1,sa2,sa3]; rfl) (ChL.fin ?_))
    go_wp2
    go_ret
    exact ⟨rfl,(Kept.refl _ w).drew⟩
theorem xa3w {P:Program} (w:World) (g off:Nat) (t ty:TypeId) (cur:Array Value) (v:Value) (hg:w.heap[g]? = some (.cells cur t (0,0))) (ho:off + 1≤cur.size) (hi:(P.info? ty).map (·.size) = some 1)
    (h1:v.oneCell' = true):(storeVar ty ⟨g,off,none⟩ v).run P w = .ok () (w.setRow g (cur.toList.take off++[v]++cur.toList.drop (off + 1)).toArray):=by
  have:=run_storeCells_at (P:=P) g off t [v] 0 cur w hg (by simpa using ho) (fun x hx=>by simp at hx; subst hx; exact h1)
  have hc:v.cells = #[v]:=by cases v <;> first | rfl | cases h1
  cases hq:P.info? ty with
  | none=>simp [hq] at hi
  | some i =>
    have hs:i.size = 1:=by simpa [hq] using hi
    simp only [Nat.add_zero] at this
    simp [storeVar,sizeOf,typeInfo,hq,hc,hs,this]
def dgR (ds:List (List Nat)):List (List Value):=ds.map fun d=>d.map u8
theorem xa6m {ds:List (List Nat)} (h:∀ d∈ds,Dg d):∀ r∈dgR ds,r.length = 32:=by
  intro r hr
  obtain ⟨d,hd,rfl⟩:=List.mem_map.1 hr
  rw [List.length_map]; exact (h d hd).1
theorem xb8i {ds:List (List Nat)}:∀ r∈dgR ds,∀ u∈r,u.oneCell' = true:=by
  intro r hr u hu
  obtain ⟨d,hd,rfl⟩:=List.mem_map.1 hr
  obtain ⟨x,_,rfl⟩:=List.mem_map.1 hu
  rfl
theorem xb5c {w:World} {v:Value} {ds:List (List Nat)} (h:RdC 32 w v (dgR ds)) (hd:∀ d∈ds,Dg d):RdD w v ds:=by
  obtain ⟨ao,len,cap,rfl,h1,h2,h3,h4⟩:=h
  have hl:(dgR ds).length = ds.length:=by simp [dgR]
  refine ⟨ao,len,cap,rfl,by rw [← h1,hl],h2,h3,hd,fun hp=>?_⟩
  obtain ⟨b,off,rfl,hc⟩:=h4 hp
  refine ⟨b,off,rfl,fun i hi j u hu=>?_⟩
  have hi':i < (dgR ds).length:=by omega
  have h9:=hc i hi' j u (by
    have e:(dgR ds)[i] = (ds.getD i []).map u8:=by
      rw [hl] at hi'
      simp [dgR,List.getD_eq_getElem?_getD,List.getElem?_eq_getElem hi']
    rw [e]; exact hu)
  exact h9
theorem Tryz.infoDg3:(Tryz.prog.info? 50).map (fun i=>(i.zero,i.size,i.bytes)) = some (some (.agg (zb 32)),32,32):=by kernel_rfl
theorem infoDgp:∃ i,Tryz.prog.info? 50 = some i∧i.zero = some (.agg (zb 32))∧i.size = 32:=by
  have h:=Tryz.infoDg3
  generalize Tryz.prog.info? 50 = o at h
  cases o with
  | none=>cases h
  | some i =>
    have h1:=Option.some.inj h
    exact ⟨i,rfl,(Prod.mk.inj h1).1,(Prod.mk.inj (Prod.mk.inj h1).2).1⟩
theorem xa9z {o:Oper} {a:Act} (w:World) (x:Operand) (ho:o.op = .buildSlice 62 1 #[(0,x)]) (d:List Nat) (hd:d.length = 32) (hx:a.eval x = .agg (brow d)):(execOp a.eval o).run Tryz.prog w = .ok (.value (.slice (some ⟨w.heap.size,0,none⟩) 1 1)) (w.alloc (.cells (brow d) 50)):=by
  obtain ⟨i0,hi,hz0,hz1⟩:=infoDgp
  have h9:=Great.fill_whole (s:=32) (by omega) [Value.agg (brow d)] ((Array.range (1 * 32)).map ((Value.agg (zb 32)).cells[· % (Value.agg (zb 32)).cells.size]!)) (by
    intro v hv
    have e:v = Value.agg (brow d):=by simpa using hv
    subst e
    show (brow d).size = 32
    rw [xa0a,hd]) (by simp)
  have hb:=run_buildSlice w 62 50 1 #[(0,.agg (brow d))] (brow d) i0 _ Tryz.underlying62 hi hz0 (by rw [hz1]; decide) (by rw [hz1]; decide) (by
    rw [hz1]
    refine Eq.trans h9 ?_
    show some ((brow d).toList++[]).toArray = some (brow d)
    rw [List.append_nil])
  unfold execOp
  simp only [ho,List.map_toArray,List.map_cons,List.map_nil,hx,Sem.run_bind,hb,Result.andThen_ok]
  rfl
theorem Tryz.size_u16:(Tryz.prog.info? 61).map (·.size) = some 1:=by kernel_rfl
theorem Tryz.size_dgs:(Tryz.prog.info? 62).map (·.size) = some 1:=by kernel_rfl
theorem Tryz.size_stp:(Tryz.prog.info? 64).map (·.size) = some 2:=by kernel_rfl
theorem xb3g (k f d:Nat) (L:Prs) (i:Nat):∀ x∈kidI (hsZ k) f d L i,Dg x:=fun x hx=>by
  obtain ⟨j,_,rfl⟩:=List.mem_map.1 hx
  exact nod_dg k f _
abbrev iv (n:Nat):Value:=.int .i64 (n:Int)
theorem xb1d {P:Program} {ops:Array Oper} {rest:List Oper} {o:Oper} {a:Act} {w:World} {Q:Exit→Act→World→Prop} (hgd:o.guard = none) (t t2:TypeId) (x y:Operand)
    (ho:o.op = .binOp .shr t x y t2) (b i q:Nat) (hi:i < 16) (hx:a.eval x = .int .u16 (b:Int)) (hy:a.eval y = .int .i64 (i:Int)) (hq:(b:Int) / 2 ^ i = (q:Int)) (hK:wpList P ops Q rest (a.put o.dst (.int .u16 (q:Int))) w):wpList P ops Q (o :: rest) a w:=by
  have e:(Op.shift .shr .u16 (b:Int) .i64 (i:Int)).run P w = .ok (.int .u16 (q:Int)) w:=by
    rw [shift_shr .u16 .i64 (b:Int) (i:Int) (by omega) (by simp [IntKind.bits]; omega),Int.toNat_natCast,hq]
    rfl
  refine wpList_plain hgd fun K hK'=>?_
  unfold Oper.wp execOp
  simp only [ho,hx,hy,binOp,eqGuard,Sem.run_bind,Bool.not_false,if_true,Sem.run_pure,Result.andThen_ok,e]
  exact hK' _ _ hK
end
section
open Go
section
variable {P:Program} {ops:Array Oper} {Q:Exit→Act→World→Prop} {md:Region.Mode} {S:Array Bool→World→Prop}
def AnyL (P:Program) (md:Region.Mode) (ops:Array Oper) (Q:Exit→Act→World→Prop) (S:Array Bool→World→Prop):Nat→Array Bool→Act→World→Prop
  | 0,d,a,w=>Region.ready md ops d = []∧Q .normal a w
  | g + 1,d,a,w=>(Region.ready md ops d = []→Q .normal a w)∧∀ i∈Region.ready md ops d,wpOp P ops Q i (fun a' w'=>S (d.setIfInBounds i true) w'∧AnyL P md ops Q S g (d.setIfInBounds i true) a' w') a w
theorem AnyL.any:∀ (g:Nat) (d:Array Bool) (a:Act) (w:World),AnyL P md ops Q S g d a w→wpAny P md ops Q g d a w
  | 0,_,_,_,h=>h
  | g + 1,_,_,_,h=>⟨h.1,fun i hi=>wpOp_mono (fun a' w' h'=>AnyL.any g _ a' w' h'.2) (h.2 i hi)⟩
theorem AnyL.first {i t:Nat} {oi ot:Oper} {v:Value} {T:World→Prop} (hi:ops[i]? = some oi) (ht:ops[t]? = some ot) (hit:t≠i) (hb:∃ e∈ot.after,Region.binds md e = true∧e.on = i)
    (hsel:∀ (j:Nat) (o:Oper) cs b,ops[j]? = some o→o.op≠.select cs b) (hQ:∀ c a w,Q (.panic c) (a.put oi.dst v) w→Q (.panic c) a w)
    (hST:∀ d w,S d w→d.getD t true = false→T w) (hSi:∀ d w,S (d.setIfInBounds i true) w↔S d w) :
    ∀ (g:Nat) (d:Array Bool) (a:Act) (w:World),
      (∀ j oj,ops[j]? = some oj→j≠i→d.getD j true = false→(∀ e∈oj.after,Region.binds md e = true→e.on≠i)→oi.apart ops oj = true) →
      i∈Region.ready md ops d→YieldsIf P ops T oi v a→d.getD t true = false→S d w →
      AnyL P md ops Q S g (d.setIfInBounds i true) (a.put oi.dst v) w→AnyL P md ops Q S (g + 1) d a w:=by
  intro g
  induction g with
  | zero =>
    intro d a w _ hr hy hdt hS H
    refine ⟨fun h=>(by rw [h] at hr; cases hr),fun j hj=>?_⟩
    by_cases hji:j = i
    · subst hji; exact hy.wpOp hi (hST d w hS hdt) ⟨(hSi d w).2 hS,H⟩
    · have:=ready_mono hj hji
      rw [H.1] at this
      cases this
  | succ g ih =>
    intro d a w hfree hr hy hdt hS H
    refine ⟨fun h=>(by rw [h] at hr; cases hr),fun j hj=>?_⟩
    by_cases hji:j = i
    · subst hji; exact hy.wpOp hi (hST d w hS hdt) ⟨(hSi d w).2 hS,H⟩
    · have h1:=H.2 j (ready_mono hj hji)
      obtain ⟨hjun,oj,hoj,hall⟩:=mem_ready.1 hj
      have hnot:∀ e∈oj.after,Region.binds md e = true→e.on≠i:=fun e he hb heq=>by
        have h1:=hall e he hb
        have h0:=(mem_ready.1 hr).1
        rw [heq] at h1
        rcases Nat.lt_or_ge i d.size with h' | h'
        · simp [h'] at h0 h1; rw [h0] at h1; cases h1
        · simp [Array.getElem?_eq_none h'] at h1
      have hjt:j≠t:=fun e9=>by
        subst e9
        rw [ht] at hoj
        injection hoj with hoj
        obtain ⟨e,he,hb1,hb2⟩:=hb
        exact hnot e (by rw [← hoj]; exact he) hb1 hb2
      have h2:=wpOp_putIf hoj (hfree j oj hoj hji hjun hnot) (fun cs b=>hsel i oi cs b hi) (fun cs b=>hsel j oj cs b hoj) hQ hy h1
      refine wpOp_mono (fun a' w' h3=>?_) h2
      have hc:=Array.setIfInBounds_comm (xs:=d) true true hji
      have hS':S (d.setIfInBounds j true) w':=(hSi _ w').1 (by rw [hc]; exact h3.2.1)
      refine ⟨hS',ih (d.setIfInBounds j true) a' w' (fun k ok hk hki hun hno=>?_) (ready_mono hr (Ne.symm hji)) h3.1 ?_ hS' ?_⟩
      · refine hfree k ok hk hki ?_ hno
        by_cases hjk:j = k
        · subst hjk; exact hjun
        · rw [getD_set_ne true hjk] at hun; exact hun
      · rw [getD_set_ne true hjt]; exact hdt
      · rw [hc]; exact h3.2.2
theorem AnyL.take {i t:Nat} {oi ot:Oper} {v:Value} {T:World→Prop} {g:Nat} {d:Array Bool} {a:Act} {w:World} (hi:ops[i]? = some oi) (ht:ops[t]? = some ot) (hit:t≠i) (hs:Region.noSelect ops = true) (hf:Region.free md ops d i = true)
    (hr:(Region.ready md ops d).contains i = true) (hb:ot.after.any (fun e=>Region.binds md e && e.on == i) = true) (hQ:∀ c a w,Q (.panic c) (a.put oi.dst v) w→Q (.panic c) a w)
    (hST:∀ d w,S d w→d.getD t true = false→T w) (hSi:∀ d w,S (d.setIfInBounds i true) w↔S d w) (hy:YieldsIf P ops T oi v a) (hd:d.getD t true = false) (hS:S d w)
    (h:AnyL P md ops Q S g (d.setIfInBounds i true) (a.put oi.dst v) w):AnyL P md ops Q S (g + 1) d a w:=by
  refine AnyL.first hi ht hit ?_ (Region.noSelect_spec hs) hQ hST hSi g d a w (Region.free_spec hi hf) (by simpa using hr) hy hd hS h
  obtain ⟨e,he,h9⟩:=Array.any_eq_true'.1 hb
  simp only [Bool.and_eq_true,beq_iff_eq] at h9
  exact ⟨e,he,h9⟩
theorem AnyL.forced {i:Nat} {o:Oper} {g:Nat} {d:Array Bool} {a:Act} {w:World} (hr:Region.ready md ops d = [i]) (ho:ops[i]? = some o) (hg:o.guard = none)
    (h:∀ K:Act→World→Prop,(∀ a' w',S (d.setIfInBounds i true) w'→AnyL P md ops Q S g (d.setIfInBounds i true) a' w'→K a' w')→o.wp P a w K Q):AnyL P md ops Q S (g + 1) d a w:=by
  refine ⟨fun h0=>(by rw [hr] at h0; cases h0),fun j hj=>?_⟩
  rw [hr] at hj
  obtain rfl:j = i:=by simpa using hj
  refine wpOp_step ho (fun K' hK=>?_)
  rw [if_pos (by unfold Region.wanted; rw [hg])]
  exact h K' (fun a' w' h1 h2=>hK a' w' ⟨h1,h2⟩)
end
section
variable {P:Program} {Q:Exit→Act→World→Prop}
end
end
section
open Go Go.RowKit Go.BigFrame
section
variable {P:Program} {Q:Exit→Act→World→Prop} {T:World→Prop}
def linRT (O:Array Oper) (t:Nat):List Nat→Array Bool→Bool
  | [],_=>true
  | i :: r,d=>(Region.free .any O d i && (Region.ready .any O d).contains i) && ((match O[t]? with | some ot=>ot.after.any (fun e=>Region.binds .any e && e.on == i) | none=>false) && (decide (t≠i) && (decide (d.getD t true = false) && linRT O t r (d.setIfInBounds i true))))
def lateS (T:World→Prop) (t:Nat):Array Bool→World→Prop:=fun d w=>d.getD t true = false→T w
theorem xc0r {t i:Nat} (h:t≠i) (d:Array Bool) (w:World):lateS T t (d.setIfInBounds i true) w↔lateS T t d w:=by
  unfold lateS
  rw [getD_set_ne true (fun e=>h e.symm)]
theorem xb6n (t:Nat) (d:Array Bool) (w:World):lateS T t (d.setIfInBounds t true) w:=fun h=>by
  exfalso
  by_cases hd:t < d.size
  · simp [Array.getD,hd] at h
  · simp [Array.getD,hd] at h
theorem xa7k {O:Array Oper} {F:Act→World→Prop} {m t:Nat} {ot:Oper} {D:Array Bool} (ht:O[t]? = some ot) (hs:Region.noSelect O = true) (hF:∀ a w,F a w→AnyL P .any O (NoPanic Q) (lateS T t) m D a w) :
    ∀ (R:List Nat) (rs:List Oper) (d:Array Bool) (a:Act) (w:World),R.map (O[·]?) = rs.map some→(∀ o∈rs,o.guard = none)→linRT O t R d = true→linD R d = D→T w→LinY P T F rs a w→AnyL P .any O (NoPanic Q) (lateS T t) (R.length + m) d a w
  | [],[],d,a,w,_,_,_,hc,_,h=>by rw [List.length_nil,Nat.zero_add]; have e:d = D:=hc; rw [e]; exact hF a w h
  | [],_ :: _,_,_,_,he,_,_,_,_,_=>by simp at he
  | i :: R,[],_,_,_,he,_,_,_,_,_=>by simp at he
  | i :: R,o :: rs,d,a,w,he,hg,hr,hc,hS,h=>by
    simp only [List.map_cons,List.cons.injEq] at he
    simp only [linRT,ht,Bool.and_eq_true,decide_eq_true_eq] at hr
    obtain ⟨v,hv,h2⟩:=h
    have hw:∀ y,Region.wanted o y = true:=fun y=>by unfold Region.wanted; rw [hg o (by simp)]
    rw [List.length_cons,show R.length + 1 + m = (R.length + m) + 1 by omega]
    refine AnyL.take (i:=i) (t:=t) (oi:=o) (ot:=ot) (T:=T) he.1 ht hr.2.2.1 hs hr.1.1 hr.1.2 hr.2.1 (fun _ _ _ h=>h) (fun d w h9 hd=>h9 hd) (fun d w=>xc0r hr.2.2.1 d w) (Or.inl ⟨hw _,hv⟩) hr.2.2.2.1 (fun _=>hS) ?_
    exact xa7k ht hs hF R rs _ _ w he.2 (fun x hx=>hg x (by simp [hx])) hr.2.2.2.2 hc hS h2
theorem xa7m {O:Array Oper} {F:Act→World→Prop} {m t:Nat} {D:Array Bool} (hF:∀ a w,F a w→AnyL P .any O (NoPanic Q) (lateS T t) m D a w):∀ (C:List Nat) (cs:List Oper) (d:Array Bool) (a:Act) (w:World),C.map (O[·]?) = cs.map some→(∀ o∈cs,o.guard = none)→linC O C d = true→linD C d = D→ChL P Q T F cs a w→AnyL P .any O (NoPanic Q) (lateS T t) (C.length + m) d a w
  | [],[],d,a,w,_,_,_,hD,h=>by rw [List.length_nil,Nat.zero_add]; have e:d = D:=hD; rw [e]; exact hF a w h
  | [],_ :: _,_,_,_,he,_,_,_,_=>by simp at he
  | i :: C,[],_,_,_,he,_,_,_,_=>by simp at he
  | i :: C,o :: cs,d,a,w,he,hg,hb,hD,h=>by
    simp only [List.map_cons,List.cons.injEq] at he
    simp only [linC,Bool.and_eq_true,decide_eq_true_eq] at hb
    rw [List.length_cons,show C.length + 1 + m = (C.length + m) + 1 by omega]
    refine AnyL.forced hb.1 he.1 (hg o (by simp)) (fun K hK=>?_)
    exact Oper.wp_mono (fun a' w' h2=>hK a' w' (fun _=>h2.1) (xa7m hF C cs _ a' w' he.2 (fun x hx=>hg x (by simp [hx])) hb.2 hD h2.2)) h
def linBT (O:Array Oper) (R C:List Nat) (t:Nat):Bool :=
  (Region.noSelect O && decide (O.size = R.length + (C.length + 1))) && (linRT O t R (linS O) && (linC O C (linD R (linS O)) && (decide (Region.ready .any O (linD C (linD R (linS O))) = [t]) && decide (Region.ready .any O ((linD C (linD R (linS O))).setIfInBounds t true) = []))))
theorem xb4j {id:Nat} {O:Array Oper} {a:Act} {w:World} {R C:List Nat} {t:Nat} {rs cs:List Oper} {ot:Oper} (hm:P.follows .mixedOrders = true) (hb:linBT O R C t = true) (hR:R.map (O[·]?) = rs.map some) (hC:C.map (O[·]?) = cs.map some) (ht:O[t]? = some ot) (hg:(rs++(cs++[ot])).all (fun o=>o.guard.isNone) = true)
    (hT:T w.drew) (h:LinY P T (ChL P Q T (fun a w=>ot.wp P a w (Q .normal) (NoPanic Q)) cs) rs a w.drew):(Code.region id O true).wp P Q a w:=by
  unfold linBT at hb
  simp only [Bool.and_eq_true,decide_eq_true_eq] at hb
  obtain ⟨⟨b1,b2⟩,b3,b4,b5,b6⟩:=hb
  rw [List.all_append,List.all_append,Bool.and_eq_true,Bool.and_eq_true,List.all_eq_true,List.all_eq_true,List.all_eq_true] at hg
  refine wp_region_noPanic ?_
  refine wp_region_any hm ?_
  refine AnyL.any (S:=lateS T t) _ _ _ _ ?_
  rw [b2]
  have h3:∀ a w,ot.wp P a w (Q .normal) (NoPanic Q)→AnyL P .any O (NoPanic Q) (lateS T t) 1 (linD C (linD R (linS O))) a w:=fun a w h=>by
    refine AnyL.forced b5 ht (by simpa using hg.2.2 ot (by simp)) (fun K hK=>?_)
    exact Oper.wp_mono (fun a' w' h2=>hK a' w' (xb6n t _ w') ⟨b6,NoPanic.normal h2⟩) h
  have h2:=fun a w h=>xa7m (P:=P) (Q:=Q) (T:=T) (t:=t) h3 C cs (linD R (linS O)) a w hC (fun o ho=>by simpa using hg.2.1 o ho) b4 rfl h
  have:=xa7k (P:=P) (Q:=Q) (T:=T) ht b1 h2 R rs (linS O) a w.drew hR (fun o ho=>by simpa using hg.1 o ho) b3 rfl hT h
  unfold linS at this
  rw [b2] at this
  exact this
end
theorem lr_t7 {P:Program} {Q:Exit→Act→World→Prop} {id:Nat} {o0 o1 o2 o3 o4 o5 o6:Oper} {a:Act} {w:World} (hm:P.follows .mixedOrders = true) (hb:linBT #[o0,o1,o2,o3,o4,o5,o6] [0,1,2,3,4,5] [] 6 = true) (hg:([o0,o1,o2,o3,o4,o5]++([]++[o6])).all (fun o=>o.guard.isNone) = true) (T:World→Prop) (hT:T w.drew)
    (h:LinY P T (ChL P Q T (fun a w=>o6.wp P a w (Q .normal) (NoPanic Q)) []) [o0,o1,o2,o3,o4,o5] a w.drew):(Code.region id #[o0,o1,o2,o3,o4,o5,o6] true).wp P Q a w:=xb4j (R:=[0,1,2,3,4,5]) (C:=[]) (t:=6) (rs:=[o0,o1,o2,o3,o4,o5]) (cs:=[]) hm hb rfl rfl rfl hg hT h
theorem lr_t8 {P:Program} {Q:Exit→Act→World→Prop} {id:Nat} {o0 o1 o2 o3 o4 o5 o6 o7 o8 o9 o10:Oper} {a:Act} {w:World} (hm:P.follows .mixedOrders = true) (hb:linBT #[o0,o1,o2,o3,o4,o5,o6,o7,o8,o9,o10] [0,1,2,3,4,5] [6,7,8,9] 10 = true) (hg:([o0,o1,o2,o3,o4,o5]++([o6,o7,o8,o9]++[o10])).all (fun o=>o.guard.isNone) = true) (T:World→Prop) (hT:T w.drew)
    (h:LinY P T (ChL P Q T (fun a w=>o10.wp P a w (Q .normal) (NoPanic Q)) [o6,o7,o8,o9]) [o0,o1,o2,o3,o4,o5] a w.drew):(Code.region id #[o0,o1,o2,o3,o4,o5,o6,o7,o8,o9,o10] true).wp P Q a w:=xb4j (R:=[0,1,2,3,4,5]) (C:=[6,7,8,9]) (t:=10) (rs:=[o0,o1,o2,o3,o4,o5]) (cs:=[o6,o7,o8,o9]) hm hb rfl rfl rfl hg hT h
end
section
open Go.RowKit Go.BigFrame
theorem xb6u {P:Program} {o:Oper} {a:Act} (w:World) (t t2:TypeId) (y:Operand) (ho:o.op = .binOp .shl t (.const (.int .u16 1)) y t2) (k:Nat) (hk:k≤15) (hy:a.eval y = .int .i64 (k:Int)):(execOp a.eval o).run P w = .ok (.value (.int .u16 ((2 ^ k:Nat):Int))) w:=by
  have e:(Op.shift .shl .u16 1 .i64 (k:Int)).run P w = .ok (.int .u16 ((2 ^ k:Nat):Int)) w:=by
    rw [shift_shl .u16 .i64 1 (k:Int) (by omega) (by simp [IntKind.bits]; omega)]
    have h9:2 ^ k≤2 ^ 15:=Nat.pow_le_pow_right (by decide) hk
    rw [Int.toNat_natCast,Int.one_mul]
    have h8:(2 ^ k:Int) = ((2 ^ k:Nat):Int):=by simp
    rw [h8]
    obtain ⟨y,hy⟩:∃ y,2 ^ k = y:=⟨_,rfl⟩
    rw [hy] at h9 ⊢
    have h7:IntKind.u16.wrap (y:Int) = y:=by simp [IntKind.wrap,IntKind.signed,IntKind.bits]; omega
    rw [h7]
    rfl
  have h1:a.eval (.const (.int .u16 1)) = .int .u16 1:=rfl
  unfold execOp
  simp only [ho,hy,h1,eqGuard_shl,binOp_shl,Sem.run_bind,Sem.run_pure,Result.andThen_ok,e]
theorem xa1s {P:Program} {o:Oper} {a:Act} {w:World} {K:Act→World→Prop} {Q:Exit→Act→World→Prop} (ty:TypeId) (x y:Operand) (ho:o.op = .store ty x y) (g off:Nat) (t:TypeId) (cur cur':Array Value) (v:Value) (hx:a.eval x = .pointer (some ⟨g,off,none⟩)) (hy:a.eval y = v)
    (hg:w.heap[g]? = some (.cells cur t (0,0))) (hoff:off + 1≤cur.size) (hi:(P.info? ty).map (·.size) = some 1) (h1:v.oneCell' = true) (hc:(cur.toList.take off++[v]++cur.toList.drop (off + 1)).toArray = cur') (h:K (a.put o.dst undef) (w.setRow g cur')):o.wp P a w K Q:=by
  subst hc
  unfold Oper.wp execOp
  simp only [ho,hx,hy,Instr.storeAt,Instr.sureAddr,Sem.run_bind,Sem.run_pure,Result.andThen_ok,xa3w w g off t ty cur v hg hoff hi h1]
  exact h
theorem IAt.mono {T T':Nat→Prop} {k:Nat} {W:World} {v:Value} {L:Prs} (hs:∀ x,T x→T' x) (h:IAt T k W v L):IAt T' k W v L:=by
  obtain ⟨l,h1,h2,h3⟩:=h
  exact ⟨l,h1,fun x hx=>⟨hs x (h2 x hx).1,(h2 x hx).2⟩,h3.mono hs⟩
theorem IAt.shrink {T:Nat→Prop} {k:Nat} {W:World} {v:Value} {L:Prs} (h:IAt T k W v L):IAt (lowS T W) k W v L:=by
  obtain ⟨l,h1,h2,h3⟩:=h
  exact ⟨l,h1,fun x hx=>⟨h2 x hx,(h2 x hx).2⟩,h3.shrink⟩
theorem xb3t {L:List Nat} {w w':World} {v:Value} {ds:List (List Nat)} (h:RdD w v ds) (k:Kept L w w') (hn:∀ x∈blk v,x∉L):RdD w' v ds:=by
  obtain ⟨ao,len,cap,rfl,h1,h2,h3,h4,h5⟩:=h
  refine ⟨ao,len,cap,rfl,h1,h2,h3,h4,fun hp=>?_⟩
  obtain ⟨b,off,rfl,hc⟩:=h5 hp
  exact ⟨b,off,rfl,fun i hi j u hu=>k.cell (hc i hi j u hu) (hn b (by simp [blk]))⟩
def NodeOk (k f:Nat):Prop:=∀ (T:Nat→Prop) (mv:Value) (L:Prs) (w:World),IAt T k w mv L→L≠[]→Srt (hsZ k) L→Fit L→L.length≤1000000000→Pre (hsZ k) (64 - f) L→(∀ y,w.heap.size≤y→T y) →
    Calls Tryz.prog 120 #[.int .i64 k,mv,.int .i64 ((64 - f:Nat):Int)] w fun e w'=>e = .returned (.agg (brow (nodP (hsZ k) f L)))∧Kept [] w w'
set_option maxHeartbeats 8000000 in
theorem xa9n (k f:Nat) (hf:f≤63) (hN:NodeOk k f) (T:Nat→Prop) (mv:Value) (L:Prs) (w:World) (hM:IAt T k w mv L) (hne0:L≠[]) (hs:Srt (hsZ k) L) (hfit:Fit L) (hl:L.length≤1000000000) (hpre:Pre (hsZ k) (63 - f) L) :
    Calls Tryz.prog 89 #[.int .i64 k,mv,.int .i64 ((63 - f:Nat):Int)] w fun e w'=>∃ v,e = .returned (.agg #[.int .u16 (bm (hsZ k) (63 - f) L:Nat),v])∧RdD w' v ((kidsL (hsZ k) (63 - f) L).map (nodP (hsZ k) f))∧(∀ x∈blk v,w.heap.size≤x)∧Kept [] w w':=by
  obtain ⟨d,hd⟩:∃ d,63 - f = d:=⟨_,rfl⟩
  have hd1:64 - f = d + 1:=by omega
  have hdl:d < 64:=by omega
  unfold NodeOk at hN
  rw [hd1] at hN
  rw [hd] at hpre ⊢
  have HNO:=hide hN
  obtain ⟨T',hT'⟩:∃ T':Nat→Prop,T' = fun x=>lowS T w x∨w.heap.size + 1 + 1≤x:=⟨_,rfl⟩
  have HT1:=hide (show ∀ x,T' x→x≠w.heap.size + 1 by intro x hx; rw [hT'] at hx; rcases hx with h | h; have:=h.2; omega; omega)
  have HT:=hide (show ∀ y,w.heap.size + 1 + 1≤y→T' y by intro y hy; rw [hT']; exact Or.inr hy)
  have HM:=hide (show IAt T' k w mv L from hM.shrink.mono (by intro x hx; rw [hT']; exact Or.inl hx))
  clear hT' hne0
  have HS:=hide hs
  have HFI:=hide hfit
  have HPR:=hide hpre
  obtain ⟨ma,mc,ml,rfl,_⟩:=hM.parts
  clear hM
  have HG0:=hide (heap_alloc_new w (.cells #[.int .u16 0,.slice none 0 0] 64))
  have HK0:=hide ((Kept.refl [] w).alloc (.cells #[.int .u16 0,.slice none 0 0] 64))
  obtain ⟨W1,hW1⟩:∃ W1,w.alloc (.cells #[.int .u16 0,.slice none 0 0] 64) = W1:=⟨_,rfl⟩
  rw [hW1] at HG0 HK0
  have HG1:=hide (heap_alloc_new W1 (.cells #[.int .u16 0,.slice none 0 0] 64))
  have HK1:=hide ((Kept.refl [] W1).alloc (.cells #[.int .u16 0,.slice none 0 0] 64))
  have HG02:=hide ((uh HK1).heap (uh HG0) (by simp))
  obtain ⟨W2,hW2⟩:∃ W2,W1.alloc (.cells #[.int .u16 0,.slice none 0 0] 64) = W2:=⟨_,rfl⟩
  rw [hW2] at HG1 HK1 HG02
  have HKW:=hide ((uh HK0).trans (uh HK1) (by simp))
  have hz1:W1.heap.size = w.heap.size + 1:=by rw [← hW1]; simp
  have hz2:W2.heap.size = w.heap.size + 1 + 1:=by rw [← hW2]; simp [hz1]
  rw [hz1] at HG1
  have HZ2:=hide hz2
  have HZ1:=hide hz1
  have HWD:=hide (show IntKind.i64.wrap ((d:Int) + 1) = (d:Int) + 1 by simp [IntKind.wrap,IntKind.signed,IntKind.bits]; omega)
  clear hz1 hz2 hN hs hfit hpre HK0 HK1 HG0
  go_enter Tryz.func89,Tryz.ntmps89
  go_upto_region 2 with fail
  try rw [hW1]
  try rw [hW2]
  rw [uh HZ1]
  clear hW1 hW2
  go_wp2_with fail
  go_loopw [8] (fun t8 wr=>∃ (i:Nat) (v:Value),t8 = .int .i64 i∧i≤16∧Hid (wr.heap[w.heap.size + 1]? = some (.cells #[.int .u16 (bmI (hsZ k) d L i:Nat),v] 64 (0,0)))∧Hid (wr.ownsRow W2.heap.size 50 32 v (kidI (hsZ k) f d L i).length (dgR (kidI (hsZ k) f d L i)).flatten)∧Hid (Kept [w.heap.size + 1] W2 wr)) (fun t _=>16 - (intOf t).toNat)
  case atStart=>exact ⟨0,_,rfl,Nat.zero_le _,HG1,hide (World.ownsRow_nil _ _ _ _),hide (Kept.refl _ _)⟩
  case round =>
    obtain ⟨i,v,rfl,hi,HG,HO,HKr⟩:=hrel
    by_cases hlt:i < 16
    · have hlt':(i:Int) < 16:=by omega
      have HKwr:=hide (show Kept [] w wr from (uh HKW).trans (uh HKr) (by intro x hx; simp at hx; right; omega))
      go_wp2_with fail
      refine Calls.mono (xa6z T' k d i _ L wr ((uh HM).agr (Agr.nil (uh HKwr))) hdl hlt hl (fun y hy=>uh HT y (by have:=(uh HKr).size; have:=uh HZ2; omega))) ?_
      rintro e w3 ⟨v3,rfl,hc3,k3⟩
      have HC3:=hide hc3
      have HG3:=hide (k3.heap (uh HG) (by simp))
      have HO3:=hide (k3.owns (uh HO) (by simp))
      have HK3:=hide (show Kept [w.heap.size + 1] W2 w3 from (uh HKr).trans k3 (by simp))
      obtain ⟨ca,cc,cl,rfl,_⟩:=hc3.parts
      have hcl:=ch_len (hsZ k) d i L
      have HCL:=hide (Nat.le_trans hcl hl)
      clear hc3 k3 hcl
      by_cases hne:ch (hsZ k) d i L = []
      · have hem:(ch (hsZ k) d i L).isEmpty = true:=by rw [hne]; rfl
        have HB:=hide (bmI_no hem)
        have HKi:=hide (xc2x (f:=f) hem)
        have hln:(ch (hsZ k) d i L).length = 0:=by rw [hne]; rfl
        rw [hln]
        clear hne hem hln
        go_wp2_with fail
        refine ⟨⟨i + 1,v,by go_num,hlt,hide (by rw [uh HB]; exact uh HG3),hide (by rw [uh HKi]; exact uh HO3),HK3⟩,?_⟩
        simp [intOf]; omega
      · have hem:(ch (hsZ k) d i L).isEmpty = false:=by cases h:ch (hsZ k) d i L with
          | nil=>exact absurd h hne
          | cons y M=>rfl
        have HB:=hide (xc2k hem)
        have HKi:=hide (xc0q (f:=f) hem)
        have hpos:0 < (ch (hsZ k) d i L).length:=by cases h:ch (hsZ k) d i L with
          | nil=>exact absurd h hne
          | cons y M=>simp
        have HNE:=hide hne
        have HSr:=hide ((uh HS).ch d i)
        have HFr:=hide (show Fit (ch (hsZ k) d i L) from (uh HFI).sub (fun x hx=>ch_sub x hx))
        have HPr:=hide (xc3m (i:=i) (uh HPR))
        have hkl:=xc1h (hsZ k) f d L i
        have hkd:=xb3g k f d L i
        have hbl:=bmI_lt (hsZ k) d L i
        have hb2:bmI (hsZ k) d L i + 2 ^ i < 65536:=by
          have h1:2 ^ (i + 1)≤2 ^ 16:=Nat.pow_le_pow_right (by omega) (by omega)
          rw [Nat.pow_succ] at h1; omega
        have hDi:Dg (nodP (hsZ k) f (ch (hsZ k) d i L)):=nod_dg k f _
        generalize bmI (hsZ k) d L i = B at HG3 HB hb2 hbl
        generalize kidI (hsZ k) f d L i = KI at HO3 HKi hkl hkd
        generalize ch (hsZ k) d i L = C at HC3 HCL HNE HSr HFr HPr hpos HB HKi hDi hem ⊢
        generalize hCn:C.length = cn at HC3 hpos ⊢
        have hgt:(cn:Int) > 0:=by omega
        have hgt2:(0:Int) < cn:=by omega
        have HCn:=hide hCn
        clear hne hem hCn
        obtain ⟨vo,vc,rfl⟩:=xa0i (uh HO3)
        have c0:w3.cell? ⟨w.heap.size + 1,0,none⟩ = some (.int .u16 (B:Nat)):=by rw [cell_of_row _ _ _ _ _ _ (uh HG3)]; rfl
        have c1:w3.cell? ⟨w.heap.size + 1,1,none⟩ = some (.slice vo KI.length vc):=by rw [cell_of_row _ _ _ _ _ _ (uh HG3)]; rfl
        have HC0:=hide c0
        have hwr1:IntKind.u16.wrap ((B:Int) + ((2 ^ i:Nat):Int)) = ((B + 2 ^ i:Nat):Int):=by
          rw [← Int.natCast_add]
          generalize B + 2 ^ i = z at hb2 ⊢
          simp [IntKind.wrap,IntKind.signed,IntKind.bits]; omega
        obtain ⟨B2,hB2⟩:∃ B2,B + 2 ^ i = B2:=⟨_,rfl⟩
        rw [hB2] at hwr1 HB
        obtain ⟨PW,hPW⟩:∃ PW:Nat,2 ^ i = PW:=⟨_,rfl⟩
        rw [hPW] at hwr1
        have HSH:=hide (fun (P:Program) (o:Oper) (a:Act) (W:World) (t t2:TypeId) (y:Operand) (ho:o.op = .binOp .shl t (.const (.int .u16 1)) y t2) (hy:a.eval y = .int .i64 (i:Int))=>by
          have h9:=xb6u (P:=P) W t t2 y ho i (by omega) hy
          rw [hPW] at h9
          exact h9)
        clear hb2 hB2 hPW hbl c0 c1
        have HOW:=hide (fun x hx=>(uh HO3).lt x hx)
        go_upto_region 7 with fail
        have hd3:=(Kept.refl [w.heap.size + 1] w3).drew
        refine lr_t7 (by kernel_rfl) (by kernel_rfl) rfl (fun W=>Kept [] w3 W) (Kept.refl [] w3).drew ?_
        refine LinY.rd (.pointer (some ⟨w.heap.size + 1,0,none⟩)) (fun W hW=>by go_simp) (by simp only [Act.put,sa1,sa2,sa3]; rfl) ?_
        refine LinY.rd (.int .u16 (B:Nat)) (fun W hW=>by have h9:=hW.cell (uh HC0) (by simp); go_simp) (by simp only [Act.put,sa1,sa2,sa3]; rfl) ?_
        refine LinY.rd (.int .i64 i) (fun W hW=>by go_simp) (by simp only [Act.put,sa1,sa2,sa3]; rfl) ?_
        refine LinY.rd (.int .u16 (PW:Nat)) (fun W hW=>uh HSH _ _ _ W _ _ _ rfl rfl) (by simp only [Act.put,sa1,sa2,sa3]; rfl) ?_
        refine LinY.rd (.int .u16 (B2:Nat)) (fun W hW=>by go_simp) (by simp only [Act.put,sa1,sa2,sa3]; rfl) ?_
        refine LinY.rd (.pointer (some ⟨w.heap.size + 1,0,none⟩)) (fun W hW=>by go_simp) (by simp only [Act.put,sa1,sa2,sa3]; rfl) ?_
        refine LinY.fin (ChL.fin (xa1s 61 (.tmp 26) (.tmp 25) rfl (w.heap.size + 1) 0 64 #[.int .u16 (B:Nat),.slice vo KI.length vc] #[.int .u16 (B2:Nat),.slice vo KI.length vc] (.int .u16 (B2:Nat)) rfl rfl ((Kept.refl [] w3).drew.heap (uh HG3) (by simp)) (by simp) Tryz.size_u16 rfl rfl ?_))
        have HG4:=hide (setRow_heap _ _ _ #[.int .u16 (B2:Nat),.slice vo KI.length vc] _ _ ((Kept.refl [] w3).drew.heap (uh HG3) (by simp)))
        have HK34:=hide (((Kept.refl [w.heap.size + 1] w3).drew).setRow (g:=w.heap.size + 1) (Or.inl (by simp)) #[.int .u16 (B2:Nat),.slice vo KI.length vc])
        have HO4:=hide ((uh HK34).owns (uh HO3) (fun x hx hm=>by have h1:=uh HOW x hx; have h2:=uh HZ2; simp at hm; omega))
        obtain ⟨W4,hW4⟩:∃ W4,w3.drew.setRow (w.heap.size + 1) #[.int .u16 (B2:Nat),.slice vo KI.length vc] = W4:=⟨_,rfl⟩
        rw [hW4] at HG4 HK34 HO4 ⊢
        clear hW4 HC0 HSH HG3 HO3
        have HK4:=hide (show Kept [w.heap.size + 1] W2 W4 from (uh HK3).trans (uh HK34) (by intro x hx; left; exact hx))
        have HKw4:=hide (show Kept [] w W4 from (uh HKW).trans (uh HK4) (by intro x hx; simp at hx; right; omega))
        have HC4:=hide (show IAt T' k W4 (.slice ca cn cc) C from (uh HC3).agr ⟨(uh HK34).size,fun x hx hl=>(uh HK34).block x hl (by
          intro hm
          simp at hm
          exact uh HT1 x hx hm)⟩)
        have c4:W4.cell? ⟨w.heap.size + 1,1,none⟩ = some (.slice vo KI.length vc):=by rw [cell_of_row _ _ _ _ _ _ (uh HG4)]; rfl
        have HC5:=hide c4
        clear c4
        go_upto_region 8 with fail
        obtain ⟨OB,hOB⟩:∃ OB,(Value.slice vo KI.length vc).ownBlock = OB:=⟨_,rfl⟩
        have hOBn:w.heap.size + 1∉OB.toList:=by
          intro hm
          rw [← hOB] at hm
          have h1:=uh HOW (w.heap.size + 1) (by simpa using hm)
          have h2:=uh HZ2
          omega
        have hd4:=(Kept.refl [] W4).drew
        refine lr_t8 (by kernel_rfl) (by kernel_rfl) rfl (fun W=>Kept OB.toList W4 W) (hd4.mono (by simp)) ?_
        refine LinY.rd (.pointer (some ⟨w.heap.size + 1,1,none⟩)) (fun W hW=>by go_simp) (by simp only [Act.put,sa1,sa2,sa3]; rfl) ?_
        refine LinY.rd (.slice vo KI.length vc) (fun W hW=>by have h9:=hW.cell (uh HC5) hOBn; go_simp) (by simp only [Act.put,sa1,sa2,sa3]; rfl) ?_
        refine LinY.rd (.int .i64 k) (fun W hW=>by go_simp) (by simp only [Act.put,sa1,sa2,sa3]; rfl) ?_
        refine LinY.rd (.slice ca cn cc) (fun W hW=>by go_simp) (by simp only [Act.put,sa1,sa2,sa3]; rfl) ?_
        refine LinY.rd (.int .i64 d) (fun W hW=>by go_simp) (by simp only [Act.put,sa1,sa2,sa3]; rfl) ?_
        refine LinY.rd (.int .i64 ((d + 1:Nat):Int)) (fun W hW=>by have h9:=uh HWD; go_simp) (by simp only [Act.put,sa1,sa2,sa3]; rfl) ?_
        refine LinY.fin (ChL.call rfl Tryz.call120 [.int .i64 k,.slice ca cn cc,.int .i64 ((d + 1:Nat):Int)] rfl (uh HNO T' _ C W4.drew ((uh HC4).agr (Agr.nil hd4)) (uh HNE) (uh HSr) (uh HFr) (uh HCL) (uh HPr) (fun y hy=>uh HT y (by have h1:=(uh HK4).size; have h2:=hd4.size; have h3:=uh HZ2; omega))) ?_)
        rintro e w5 ⟨rfl,k5⟩
        have hk5:=hd4.trans k5 (by simp)
        refine ⟨_,rfl,hk5.mono (by simp),?_⟩
        simp only [Act.put,sa1,sa2,sa3]
        obtain ⟨N,hN⟩:∃ N,nodP (hsZ k) f C = N:=⟨_,rfl⟩
        rw [hN] at HKi hDi ⊢
        clear hN
        have hka:=(Kept.refl [] w5).alloc (.cells (brow N) 50)
        have hk6:=hk5.trans hka (by simp)
        refine ChL.op (.slice (some ⟨w5.heap.size,0,none⟩) 1 1) (xa9z w5 (.tmp 33) rfl N hDi.1 rfl) (hk6.mono (by simp)) (by simp only [Act.put,sa1,sa2,sa3]; rfl) ?_
        have hrl:RdC 32 (w5.alloc (.cells (brow N) 50)) (.slice (some ⟨w5.heap.size,0,none⟩) 1 1) (dgR [N]):=⟨_,1,1,rfl,rfl,Nat.le_refl _,by omega,fun _=>⟨w5.heap.size,0,rfl,fun j hj=>by
          have h0:j = 0:=by simp [dgR] at hj; omega
          subst h0
          exact xa0l [] (N.map u8) [] (by rw [List.nil_append,List.append_nil]; exact heap_alloc_new w5 _) rfl⟩⟩
        refine ChL.app 62 50 (.tmp 28) (.tmp 34) rfl rfl _ W2.heap.size (.agg (zb 32)) 32 32 Tryz.underlying62 Tryz.infoDg3 rfl (by decide) (.slice vo KI.length vc) KI.length (dgR KI).flatten (hk6.owns (uh HO4) (by simp)) (some ⟨w5.heap.size,0,none⟩) 1 1 (dgR [N]) hrl (xa6m (by intro x hx; simp at hx; subst hx; exact hDi)) xb8i (by omega) (by omega) (by have h1:=(uh HK4).size; have h2:=hk6.size; omega) rfl rfl ?_
        intro ao7 c7 w7 HO7 HG7 HA7
        have hg7:=uh HG7
        rw [hOB] at hg7
        have hk7:=(Kept.refl OB.toList _).grown hg7 (by intro x hx; left; simp [hx])
        have hk47:=(hk6.mono (M:=OB.toList) (by simp)).trans hk7 (fun x hx=>Or.inl hx)
        refine ⟨hk47,?_⟩
        simp only [Act.put,sa1,sa2,sa3]
        refine ChL.op (.pointer (some ⟨w.heap.size + 1,1,none⟩)) (by go_simp) hk47 (by simp only [Act.put,sa1,sa2,sa3]; rfl) ?_
        have hgx:=hk47.heap (uh HG4) hOBn
        refine ChL.fin (xa1s 62 (.tmp 36) (.tmp 35) rfl (w.heap.size + 1) 1 64 #[.int .u16 (B2:Nat),.slice vo KI.length vc] #[.int .u16 (B2:Nat),.slice ao7 (KI.length + 1) c7] (.slice ao7 (KI.length + 1) c7) rfl rfl hgx (by simp) Tryz.size_dgs rfl rfl ?_)
        have HG8:=hide (setRow_heap _ _ _ #[.int .u16 (B2:Nat),.slice ao7 (KI.length + 1) c7] _ _ hgx)
        have hk78:=(Kept.refl [w.heap.size + 1] w7).setRow (g:=w.heap.size + 1) (Or.inl (by simp)) #[.int .u16 (B2:Nat),.slice ao7 (KI.length + 1) c7]
        have HO8:=hide (hk78.owns (uh HO7) (fun x hx hm=>by
          have h1:=(uh HO7).lt x hx
          have h2:=uh HZ2
          simp at hm; omega))
        have HK8:=hide (show Kept [w.heap.size + 1] W2 (w7.setRow (w.heap.size + 1) #[.int .u16 (B2:Nat),.slice ao7 (KI.length + 1) c7]) from ((uh HK4).trans hk47 (fun x hx=>by
          right
          rw [← hOB] at hx
          exact (uh HOW x (by simpa using hx)).1)).trans hk78 (fun x hx=>Or.inl hx))
        have hlen:(KI++[N]).length = KI.length + 1:=by simp
        have hrows:(dgR (KI++[N])).flatten = (dgR KI).flatten++(dgR [N]).flatten:=by simp [dgR]
        clear hk78 hgx hk47 hk7 hg7 hrl hk6 hka hk5 k5 hd4
        generalize w7.setRow (w.heap.size + 1) #[.int .u16 (B2:Nat),.slice ao7 (KI.length + 1) c7] = W8 at HG8 HO8 HK8 ⊢
        go_wp2_with fail
        refine ⟨⟨i + 1,.slice ao7 (KI.length + 1) c7,by go_num,hlt,hide (by rw [uh HB]; exact uh HG8),hide (by rw [uh HKi,hlen,hrows]; exact uh HO8),HK8⟩,?_⟩
        simp [intOf]; omega
    · have hie:i = 16:=by omega
      subst hie
      have hlt':¬ ((16:Nat):Int) < 16:=by omega
      have hrd:=xb5c (xa1z (by rw [show (dgR (kidI (hsZ k) f d L 16)).length = (kidI (hsZ k) f d L 16).length by simp [dgR]]; exact uh HO) (xa6m (xb3g k f d L 16))) (xb3g k f d L 16)
      rw [xb9n] at hrd
      have hbm:bmI (hsZ k) d L 16 = bm (hsZ k) d L:=xc1w _ _ _
      have hG:=uh HG
      rw [hbm] at hG
      have hown:=fun x hx=>(uh HO).lt x hx
      obtain ⟨vo,vc,rfl⟩:=xa0i (uh HO)
      have hbl:∀ x∈blk (.slice vo (kidI (hsZ k) f d L 16).length vc),w.heap.size + 1 + 1≤x:=fun x hx=>by
        have h2:=uh HZ2
        rcases (uh HO).2 with ⟨e,_⟩ | ⟨g,c,cur,e,hg,_⟩
        · injection e with e1; subst e1; simp [blk] at hx
        · injection e with e1; subst e1; have:x = g:=by simpa [blk] using hx
          omega
      generalize (kidI (hsZ k) f d L 16).length = kl at hG hrd hbl ⊢
      have HG9:=hide hG
      have HRD:=hide hrd
      have HBL:=hide hbl
      have HZR:=hide ((uh HKr).heap (uh HG02) (by simp))
      have HKw:=hide (show Kept [] w wr from (uh HKW).trans (uh HKr) (by intro x hx; simp at hx; right; omega))
      clear hG hrd hbl hown hbm HG HO
      have c0:wr.cell? ⟨w.heap.size + 1,0,none⟩ = some (.int .u16 (bm (hsZ k) d L:Nat)):=by rw [cell_of_row _ _ _ _ _ _ (uh HG9)]; rfl
      have c1:wr.cell? ⟨w.heap.size + 1,1,none⟩ = some (.slice vo kl vc):=by rw [cell_of_row _ _ _ _ _ _ (uh HG9)]; rfl
      have r0:wr.cell? ⟨w.heap.size,0,none⟩ = some (.int .u16 0):=by rw [cell_of_row _ _ _ _ _ _ (uh HZR)]; rfl
      have r1:wr.cell? ⟨w.heap.size,1,none⟩ = some (.slice none 0 0):=by rw [cell_of_row _ _ _ _ _ _ (uh HZR)]; rfl
      have z0:=frozen_of_row _ _ 0 _ _ (uh HZR)
      have z1:=frozen_of_row _ _ 1 _ _ (uh HZR)
      go_wp2_with fail
      have k9:=((Kept.refl [w.heap.size] wr).setCell (p:=⟨w.heap.size,0,none⟩) (Or.inl (by simp)) (.int .u16 (bm (hsZ k) d L:Nat))).setCell (p:=⟨w.heap.size,1,none⟩) (Or.inl (by simp)) (.slice vo kl vc)
      refine bodyPost_ret (v:=.agg #[.int .u16 (bm (hsZ k) d L:Nat),.slice vo kl vc]) ?_ rfl ⟨.slice vo kl vc,rfl,xb3t (uh HRD) k9 (fun x hx hm=>by have:=uh HBL x hx; simp at hm; omega),fun x hx=>by have:=uh HBL x hx; omega,((uh HKw).setCell (p:=⟨w.heap.size,0,none⟩) (Or.inr (Nat.le_refl _)) _).setCell (p:=⟨w.heap.size,1,none⟩) (Or.inr (Nat.le_refl _)) _⟩
      exact results_cell_row rfl _ _ w.heap.size 64 #[.int .u16 (bm (hsZ k) d L:Nat),.slice vo kl vc] (0,0) _ rfl (by rw [heap_setCell_same _ w.heap.size 1 _ _ _ (heap_setCell_same _ w.heap.size 0 _ _ _ (uh HZR))]; rfl) Tryz.underlying64 rfl Tryz.size_stp
end
section
open Go Go.RowKit Go.BigFrame
section
variable {P:Program} {Q:Exit→Act→World→Prop} {S:World→Prop}
def ChG (P:Program) (O:Array Oper) (Q:Exit→Act→World→Prop) (S:World→Prop) (F:Act→World→Prop):List Oper→Act→World→Prop
  | [],a,w=>F a w
  | o :: r,a,w=>(Region.wanted o (yielded O a.tmps) = true∧o.wp P a w (fun a' w'=>S w'∧ChG P O Q S F r a' w') (NoPanic Q))∨(Region.wanted o (yielded O a.tmps) = false∧S w∧ChG P O Q S F r (a.put o.dst undef) w)
theorem xa4f {O:Array Oper} {F:Act→World→Prop} {m:Nat} {D:Array Bool} (hF:∀ a w,F a w→wpAnyH P .any O (NoPanic Q) S m D a w):∀ (C:List Nat) (cs:List Oper) (d:Array Bool) (a:Act) (w:World),C.map (O[·]?) = cs.map some→linC O C d = true→linD C d = D→ChG P O Q S F cs a w→wpAnyH P .any O (NoPanic Q) S (C.length + m) d a w
  | [],[],d,a,w,_,_,hD,h=>by rw [List.length_nil,Nat.zero_add]; have e:d = D:=hD; rw [e]; exact hF a w h
  | [],_ :: _,_,_,_,he,_,_,_=>by simp at he
  | i :: C,[],_,_,_,he,_,_,_=>by simp at he
  | i :: C,o :: cs,d,a,w,he,hb,hD,h=>by
    simp only [List.map_cons,List.cons.injEq] at he
    simp only [linC,Bool.and_eq_true,decide_eq_true_eq] at hb
    rw [List.length_cons,show C.length + 1 + m = (C.length + m) + 1 by omega]
    refine wpAnyH_all (rs:=[i]) hb.1 (by simp) (fun j hj=>?_)
    rw [List.mem_singleton] at hj
    subst hj
    unfold wpOp
    simp only [he.1]
    rcases h with ⟨hw,h⟩ | ⟨hw,hS,h⟩
    · rw [if_pos hw]
      refine Or.inl (Oper.wp_mono (fun a' w' h2=>⟨h2.1,?_⟩) h)
      exact xa4f hF C cs _ a' w' he.2 hb.2 hD h2.2
    · rw [if_neg (by rw [hw]; decide)]
      exact ⟨hS,xa4f hF C cs _ _ w he.2 hb.2 hD h⟩
theorem xc0a {id:Nat} {O:Array Oper} {a:Act} {w:World} {R C T:List Nat} {rs cs ts:List Oper} (hm:P.follows .mixedOrders = true) (hb:linB O R C T = true) (hR:R.map (O[·]?) = rs.map some) (hC:C.map (O[·]?) = cs.map some) (hT:T.map (O[·]?) = ts.map some)
    (hS:S w.drew) (h:LinG P O S (ChG P O Q S (fun a w=>S w∧LinG P O S (Q .normal) ts a w) cs) rs a w.drew):(Code.region id O true).wp P Q a w:=by
  unfold linB at hb
  simp only [Bool.and_eq_true,decide_eq_true_eq] at hb
  obtain ⟨⟨b1,b2⟩,b3,b4,b5,b6⟩:=hb
  refine wp_region_noPanic ?_
  refine wp_region_held_drew (S:=S) hm hS (fun _=>?_)
  rw [b2]
  have h3:∀ a w,(S w∧LinG P O S (Q .normal) ts a w)→wpAnyH P .any O (NoPanic Q) S (T.length + 0) (linD C (linD R (linS O))) a w:=fun a w h=>xa2q b1 (xa2z (decide_eq_true b6)) T ts _ a w hT b5 rfl h.1 h.2
  have h2:=fun a w h=>xa4f (P:=P) (Q:=Q) (S:=S) h3 C cs (linD R (linS O)) a w hC b4 rfl h
  have:=xa2q (P:=P) (Q:=Q) (S:=S) b1 h2 R rs (linS O) a w.drew hR b3 rfl hS h
  unfold linS at this
  rw [b2] at this
  exact this
theorem ChG.op {O:Array Oper} {F:Act→World→Prop} {cs:List Oper} {o:Oper} {a A:Act} {w w':World} (hw:Region.wanted o (yielded O a.tmps) = true) (v:Value) (hv:(execOp a.eval o).run P w = .ok (.value v) w') (hS:S w') (p:a.put o.dst v = A) (h:ChG P O Q S F cs A w'):ChG P O Q S F (o :: cs) a w:=by
  refine Or.inl ⟨hw,?_⟩
  unfold Oper.wp
  rw [hv]
  rw [← p] at h
  exact ⟨hS,h⟩
theorem ChG.fin {O:Array Oper} {F:Act→World→Prop} {a:Act} {w:World} (h:F a w):ChG P O Q S F [] a w:=h
end
theorem ChG.call {O:Array Oper} {Q:Exit→Act→World→Prop} {S:World→Prop} {F:Act→World→Prop} {cs:List Oper} {o:Oper} {a:Act} {w:World} {f:FuncId} {xs:Array Operand} {ts:Array TypeId} (hw:Region.wanted o (yielded O a.tmps) = true) (ho:o.op = .call { callee:=.value (.func f),args:=xs,argTypes:=ts })
    (hcl:∀ args W,(callFunc f args).run Tryz.prog W = .ok (.enter f args) W) (us:List Value) (he:xs.toList.map a.eval = us) {R:Ending→World→Prop}
    (hc:Calls Tryz.prog f us.toArray w R) (h:∀ e w',R e w'→∃ v,e = .returned v∧S w'∧ChG Tryz.prog O Q S F cs (a.put o.dst v) w'):ChG Tryz.prog O Q S F (o :: cs) a w:=by
  unfold ChG
  exact Or.inl ⟨hw,xb4q ho hcl us he hc h⟩
theorem lp_de {P:Program} {Q:Exit→Act→World→Prop} {id:Nat} {o0 o1 o2 o3 o4 o5 o6 o7:Oper} {a:Act} {w:World} (hm:P.follows .mixedOrders = true) (hb:linB #[o0,o1,o2,o3,o4,o5,o6,o7] [0,1,2,3,4,5] [6,7] [] = true) (hg:([o0,o1,o2,o3,o4,o5]++([o6,o7]++[])).all (fun o=>o.guard.isNone) = true) (S:World→Prop) (hS:S w.drew)
    (h:LinY P S (ChL P Q S (Q .normal) [o6,o7]) [o0,o1,o2,o3,o4,o5] a w.drew):(Code.region id #[o0,o1,o2,o3,o4,o5,o6,o7] true).wp P Q a w:=xa1c (R:=[0,1,2,3,4,5]) (C:=[6,7]) (rs:=[o0,o1,o2,o3,o4,o5]) (cs:=[o6,o7]) hm hb rfl rfl hg hS h
theorem lp_ah {P:Program} {Q:Exit→Act→World→Prop} {id:Nat} {o0 o1 o2 o3 o4 o5 o6 o7:Oper} {a:Act} {w:World} (hm:P.follows .mixedOrders = true) (hb:linB #[o0,o1,o2,o3,o4,o5,o6,o7] [0,1,2,3,4,5,6,7] [] [] = true) (hg:([o0,o1,o2,o3,o4,o5,o6,o7]++([]++[])).all (fun o=>o.guard.isNone) = true) (S:World→Prop) (hS:S w.drew)
    (h:LinY P S (ChL P Q S (Q .normal) []) [o0,o1,o2,o3,o4,o5,o6,o7] a w.drew):(Code.region id #[o0,o1,o2,o3,o4,o5,o6,o7] true).wp P Q a w:=xa1c (R:=[0,1,2,3,4,5,6,7]) (C:=[]) (rs:=[o0,o1,o2,o3,o4,o5,o6,o7]) (cs:=[]) hm hb rfl rfl hg hS h
theorem lp_rp {P:Program} {Q:Exit→Act→World→Prop} {id:Nat} {o0 o1 o2 o3 o4 o5 o6 o7 o8 o9 o10:Oper} {a:Act} {w:World} (hm:P.follows .mixedOrders = true) (hb:linBT #[o0,o1,o2,o3,o4,o5,o6,o7,o8,o9,o10] [0,1,2,3,4] [5,6,7,8,9] 10 = true) (hg:([o0,o1,o2,o3,o4]++([o5,o6,o7,o8,o9]++[o10])).all (fun o=>o.guard.isNone) = true) (T:World→Prop) (hT:T w.drew)
    (h:LinY P T (ChL P Q T (fun a w=>o10.wp P a w (Q .normal) (NoPanic Q)) [o5,o6,o7,o8,o9]) [o0,o1,o2,o3,o4] a w.drew):(Code.region id #[o0,o1,o2,o3,o4,o5,o6,o7,o8,o9,o10] true).wp P Q a w:=xb4j (R:=[0,1,2,3,4]) (C:=[5,6,7,8,9]) (t:=10) (rs:=[o0,o1,o2,o3,o4]) (cs:=[o5,o6,o7,o8,o9]) hm hb rfl rfl rfl hg hT h
theorem lp_aw {P:Program} {Q:Exit→Act→World→Prop} {id:Nat} {o0 o1 o2 o3 o4 o5 o6 o7 o8 o9 o10 o11 o12 o13 o14 o15 o16 o17 o18:Oper} {a:Act} {w:World} (hm:P.follows .mixedOrders = true) (hb:linB #[o0,o1,o2,o3,o4,o5,o6,o7,o8,o9,o10,o11,o12,o13,o14,o15,o16,o17,o18] [0,1,2,3,4] [5,6,7,8] [9,10,11,12,13,14,15,16,17,18] = true) (S:World→Prop) (hS:S w.drew)
    (h:LinG P #[o0,o1,o2,o3,o4,o5,o6,o7,o8,o9,o10,o11,o12,o13,o14,o15,o16,o17,o18] S (ChG P #[o0,o1,o2,o3,o4,o5,o6,o7,o8,o9,o10,o11,o12,o13,o14,o15,o16,o17,o18] Q S (fun a w=>S w∧LinG P #[o0,o1,o2,o3,o4,o5,o6,o7,o8,o9,o10,o11,o12,o13,o14,o15,o16,o17,o18] S (Q .normal) [o9,o10,o11,o12,o13,o14,o15,o16,o17,o18] a w) [o5,o6,o7,o8]) [o0,o1,o2,o3,o4] a w.drew):(Code.region id #[o0,o1,o2,o3,o4,o5,o6,o7,o8,o9,o10,o11,o12,o13,o14,o15,o16,o17,o18] true).wp P Q a w:=xc0a (R:=[0,1,2,3,4]) (C:=[5,6,7,8]) (T:=[9,10,11,12,13,14,15,16,17,18]) (rs:=[o0,o1,o2,o3,o4]) (cs:=[o5,o6,o7,o8]) (ts:=[o9,o10,o11,o12,o13,o14,o15,o16,o17,o18]) hm hb rfl rfl rfl hS h
end
section
open Go.RowKit Go.BigFrame
theorem xc0v (b j:Nat):b / 2 ^ j % 2 = (if b.testBit j = true then 1 else 0):=by
  rw [Nat.testBit_eq_decide_div_mod_eq]
  by_cases h:b / 2 ^ j % 2 = 1
  · rw [h]; simp
  · rw [decide_eq_false h]; simp; omega
theorem p_cntn (b j:Nat):cnt b (j + 1) = cnt b j + b / 2 ^ j % 2:=by
  rw [cnt_up,xc0v]
  cases b.testBit j <;> rfl
theorem p_shr {P:Program} {o:Oper} {a:Act} (w:World) (t t2:TypeId) (x y:Operand) (ho:o.op = .binOp .shr t x y t2) (b i q:Nat) (hi:i < 16) (hx:a.eval x = .int .u16 (b:Int)) (hy:a.eval y = .int .i64 (i:Int)) (hq:(b:Int) / 2 ^ i = (q:Int)):(execOp a.eval o).run P w = .ok (.value (.int .u16 (q:Int))) w:=by
  have e:(Op.shift .shr .u16 (b:Int) .i64 (i:Int)).run P w = .ok (.int .u16 (q:Int)) w:=by
    rw [shift_shr .u16 .i64 (b:Int) (i:Int) (by omega) (by simp [IntKind.bits]; omega),Int.toNat_natCast,hq]
    rfl
  unfold execOp
  simp only [ho,hx,hy,binOp,eqGuard,Sem.run_bind,Bool.not_false,if_true,Sem.run_pure,Result.andThen_ok,e]
theorem p_and1 {q:Nat} (h:q < 65536):bits .and .u16 (q:Int) 1 = ((q % 2:Nat):Int):=by
  have h2:=u16_and_nat q 1 h (by omega)
  rw [Nat.and_one_is_mod] at h2
  exact h2
set_option maxHeartbeats 2000000 in
theorem xb7t (b c:Nat) (w:World) (hb:b < 65536) (hc:c < 16) :
    Calls Tryz.prog 91 #[.int .u16 b,.int .i64 c] w fun e w'=>e = .returned (.tuple #[.int .i64 (cnt b c:Nat),.bool (b.testBit c)])∧Kept [] w w':=by
  go_enter Tryz.func91,Tryz.ntmps91
  go_wp2_with fail
  go_loopw [6,7] (fun t6 t7 wr=>∃ (j:Nat),j≤c∧t7 = .int .i64 j∧t6 = .int .i64 (cnt b j:Nat)∧wr = w) (fun _ t _=>c - (intOf t).toNat)
  case atStart=>exact ⟨0,Nat.zero_le _,rfl,rfl,rfl⟩
  case round =>
    obtain ⟨j,hj,rfl,rfl,rfl⟩:=hrel
    obtain ⟨q,hq⟩:∃ q,b / 2 ^ j = q:=⟨_,rfl⟩
    have HQ:=hide (by rw [← hq,Int.natCast_ediv]; simp:(b:Int) / 2 ^ j = (q:Int))
    have hcl:=cnt_le b j
    have hql:q < 65536:=by rw [← hq]; exact Nat.lt_of_le_of_lt (Nat.div_le_self _ _) hb
    have hq3:=p_and1 hql
    by_cases hlt:j < c
    · have hlt':(j:Int) < c:=by omega
      have hst:=p_cntn b j
      rw [hq] at hst
      have HST:=hide hst
      obtain ⟨r,hr⟩:∃ r,q % 2 = r:=⟨_,rfl⟩
      have hrl:r < 2:=by omega
      rw [hr] at hq3 hst HST
      have hq4:(q:Int) % 2 = (r:Int):=by omega
      generalize cnt b j = C at hcl HST ⊢
      clear hst hq hr
      go_wp2_with (refine xb1d rfl _ _ _ _ rfl b j _ (by omega) rfl rfl (uh HQ) ?_)
      refine ⟨⟨j + 1,hlt,by go_num,by rw [uh HST]; go_num,trivial⟩,?_⟩
      simp [intOf]; omega
    · have hje:j = c:=by omega
      subst hje
      have hlt':¬ (j:Int) < j:=by omega
      have htb:b.testBit j = decide (q % 2 = 1):=by rw [Nat.testBit_eq_decide_div_mod_eq,hq]
      obtain ⟨B,hB⟩:∃ B,b.testBit j = B:=⟨_,rfl⟩
      obtain ⟨C,hC⟩:∃ C,cnt b j = C:=⟨_,rfl⟩
      have HB:=hide (show B = decide (q % 2 = 1) by rw [← hB]; exact htb)
      have HFI:=hide (show b.testBit j = B∧cnt b j = C from ⟨hB,hC⟩)
      rw [hC] at hcl ⊢
      clear htb hq hB hC
      go_upto_region 6 with fail
      refine lp_ah (by kernel_rfl) (by kernel_rfl) rfl (fun W=>Kept [] wr W) (Kept.refl _ wr).drew ?_
      refine LinY.rd (.int .i64 C) (fun W hW=>by go_simp) (by simp only [Act.put,sa1,sa2,sa3]; rfl) ?_
      refine LinY.rd (.int .u16 b) (fun W hW=>by go_simp) (by simp only [Act.put,sa1,sa2,sa3]; rfl) ?_
      refine LinY.rd (.int .i64 j) (fun W hW=>by go_simp) (by simp only [Act.put,sa1,sa2,sa3]; rfl) ?_
      refine LinY.rd (.int .u16 q) (fun W hW=>p_shr W _ _ _ _ rfl b j q hc rfl rfl (uh HQ)) (by simp only [Act.put,sa1,sa2,sa3]; rfl) ?_
      refine LinY.rd (.int .u16 ((q % 2:Nat):Int)) (fun W hW=>by go_simp) (by simp only [Act.put,sa1,sa2,sa3]; rfl) ?_
      refine LinY.rd (.bool B) (fun W hW=>by go_simp; rw [uh HB,Bool.eq_iff_iff]; simp; omega) (by simp only [Act.put,sa1,sa2,sa3]; rfl) ?_
      refine LinY.rd (.int .i64 C) (fun W hW=>by go_simp) (by simp only [Act.put,sa1,sa2,sa3]; rfl) ?_
      refine LinY.rd (.bool B) (fun W hW=>by go_simp) (by simp only [Act.put,sa1,sa2,sa3]; rfl) ?_
      refine LinY.fin (ChL.fin ?_)
      go_wp2_with fail
      go_ret2
      exact ⟨by rw [(uh HFI).1,(uh HFI).2]; rfl,(Kept.refl [] wr).drew⟩
def woE (H:Bool) (at_:Nat) (l:List (List Nat)):List (List Nat):=if H = true then l.eraseIdx at_ else l
theorem xc3n (H:Bool) (n:Nat):woE H n [] = []:=by unfold woE; split <;> simp
theorem xc3r (H:Bool) (n:Nat) (l:List (List Nat)):(woE H n l).length≤l.length:=by
  unfold woE
  split
  · exact List.length_eraseIdx_le _ _
  · exact Nat.le_refl _
theorem xc0w {H:Bool} {n:Nat} {l:List (List Nat)} {d:List Nat} (h:H = false∨l.length≠n):woE H n (l++[d]) = woE H n l++[d]:=by
  unfold woE
  cases H with
  | false=>rfl
  | true =>
    rw [if_pos rfl,if_pos rfl]
    have hn:l.length≠n:=by rcases h with h | h; cases h; exact h
    rcases Nat.lt_or_ge n l.length with g | g
    · exact List.eraseIdx_append_of_lt_length g _
    · rw [List.eraseIdx_of_length_le (by simp; omega),List.eraseIdx_of_length_le (by omega)]
theorem xb9x {n:Nat} {l:List (List Nat)} {d:List Nat} (h:l.length = n):woE true n (l++[d]) = woE true n l:=by
  unfold woE
  rw [if_pos rfl,if_pos rfl,List.eraseIdx_append_of_length_le (by omega),List.eraseIdx_of_length_le (l:=l) (by omega),h,Nat.sub_self]
  simp
theorem woE_dg {H:Bool} {n:Nat} {l:List (List Nat)} (h:∀ d∈l,Dg d):∀ d∈woE H n l,Dg d:=fun d hd=>by
  unfold woE at hd
  split at hd
  · exact h d (List.mem_of_mem_eraseIdx hd)
  · exact h d hd
theorem xa9m {ops:Array Oper} {rest:List Oper} {o:Oper} {a:Act} {w:World} {Q:Exit→Act→World→Prop} (hw:Region.wanted o (yielded ops a.tmps) = true) (ty:TypeId) (x y:Operand) (ho:o.op = .store ty x y) (g off:Nat) (t:TypeId) (cur cur':Array Value) (v:Value) (hx:a.eval x = .pointer (some ⟨g,off,none⟩)) (hy:a.eval y = v)
    (hg:w.heap[g]? = some (.cells cur t (0,0))) (hoff:off + 1≤cur.size) (hi:(Tryz.prog.info? ty).map (·.size) = some 1) (h1:v.oneCell' = true) (hc:(cur.toList.take off++[v]++cur.toList.drop (off + 1)).toArray = cur') (h:wpList Tryz.prog ops Q rest (a.put o.dst undef) (w.setRow g cur')):wpList Tryz.prog ops Q (o :: rest) a w :=
  wpList_want hw fun _ hK=>xa1s ty x y ho g off t cur cur' v hx hy hg hoff hi h1 hc (hK _ _ h)
theorem xa8u {ops:Array Oper} {rest:List Oper} {o:Oper} {a:Act} {w:World} {Q:Exit→Act→World→Prop} (hw:Region.wanted o (yielded ops a.tmps) = true) (x:Operand) (ho:o.op = .buildSlice 62 1 #[(0,x)]) (d:List Nat) (hd:d.length = 32) (hx:a.eval x = .agg (brow d))
    (h:wpList Tryz.prog ops Q rest (a.put o.dst (.slice (some ⟨w.heap.size,0,none⟩) 1 1)) (w.alloc (.cells (brow d) 50))):wpList Tryz.prog ops Q (o :: rest) a w :=
  wpList_want hw fun _ hK=>by
    unfold Oper.wp
    rw [xa9z w x ho d hd hx]
    exact hK _ _ h
theorem xb6z (x:Int):Tryz.prog.built 64 [(0,.int .u16 x)] = some #[.int .u16 x,.slice none 0 0]:=by kernel_rfl
theorem xc1t {W:World} {g:Nat} {d:List Nat} (h:W.heap[g]? = some (.cells (brow d) 50 (0,0))):RdC 32 W (.slice (some ⟨g,0,none⟩) 1 1) (dgR [d]) :=
  ⟨_,1,1,rfl,rfl,Nat.le_refl _,by omega,fun _=>⟨g,0,rfl,fun j hj=>by
    have h0:j = 0:=by simp [dgR] at hj; omega
    subst h0
    exact xa0l [] (d.map u8) [] (by rw [List.nil_append,List.append_nil]; exact h) rfl⟩⟩
set_option maxHeartbeats 8000000 in
theorem xa8i (x c:Nat) (dv:Value) (ds:List (List Nat)) (w:World) (hx:x < 65536) (hc:c < 16) (hd:RdD w dv ds) (hl:ds.length≤1000000) :
    Calls Tryz.prog 60 #[.agg #[.int .u16 (x:Nat),dv],.int .i64 c] w fun e w'=>∃ v,e = .returned (.agg #[.int .u16 (x:Nat),v])∧RdD w' v (wod (x,ds) c).2∧(∀ y∈blk v,w.heap.size≤y)∧Kept [] w w':=by
  obtain ⟨da,dn,dc,rfl,h1,h2,h3,h4,h5⟩:=hd
  have HL:=hide h1
  have H4:=hide h4
  have H5:=hide h5
  have hdn:dn≤1000000:=by omega
  have HW:=hide (show (wod (x,ds) c).2 = woE (x.testBit c) (cnt x c) ds from rfl)
  have hcl:=cnt_le x c
  clear h1 h4 h5 hl
  have HG0:=hide (heap_alloc_new w (.cells #[.int .u16 (x:Nat),.slice da dn dc] 64))
  have HK0:=hide ((Kept.refl [] w).alloc (.cells #[.int .u16 (x:Nat),.slice da dn dc] 64))
  obtain ⟨W1,hW1⟩:∃ W1,w.alloc (.cells #[.int .u16 (x:Nat),.slice da dn dc] 64) = W1:=⟨_,rfl⟩
  rw [hW1] at HG0 HK0
  have HG1:=hide (heap_alloc_new W1 (.cells #[.int .u16 0,.slice none 0 0] 64))
  have HK1:=hide ((Kept.refl [] W1).alloc (.cells #[.int .u16 0,.slice none 0 0] 64))
  have HG02:=hide ((uh HK1).heap (uh HG0) (by simp))
  obtain ⟨W2,hW2⟩:∃ W2,W1.alloc (.cells #[.int .u16 0,.slice none 0 0] 64) = W2:=⟨_,rfl⟩
  rw [hW2] at HG1 HK1 HG02
  have HKW:=hide ((uh HK0).trans (uh HK1) (by simp))
  have hz1:W1.heap.size = w.heap.size + 1:=by rw [← hW1]; simp
  rw [hz1] at HG1
  have HZ1:=hide hz1
  have c0:W2.cell? ⟨w.heap.size,0,none⟩ = some (.int .u16 (x:Nat)):=cell_of_row _ _ 0 _ _ _ (uh HG02)
  clear hz1 HK0 HK1 HG0
  go_enter Tryz.func60,Tryz.ntmps60
  go_upto_region 1 with fail
  try rw [hW1]
  try rw [hW2]
  rw [uh HZ1]
  clear hW1 hW2
  go_wp2_with fail
  refine Calls.mono (xb7t x c W2 hx hc) ?_
  rintro e w3 ⟨rfl,k3⟩
  have HK3:=hide k3
  have HB3:=hide (k3.heap (uh HG02) (by simp))
  have HZ3:=hide (k3.heap (uh HG1) (by simp))
  have c0':w3.cell? ⟨w.heap.size,0,none⟩ = some (.int .u16 (x:Nat)):=cell_of_row _ _ 0 _ _ _ (uh HB3)
  clear k3 c0
  generalize x.testBit c = H at HW ⊢
  generalize cnt x c = AT at HW hcl ⊢
  have HN3:=hide (show w.heap.size + 1 < w3.heap.size from lt_of_block (uh HZ3))
  have HZA:=hide (heap_alloc_new w3 (.cells #[.int .u16 0,.slice none 0 0] 64))
  have HGA:=hide (setRow_heap _ _ _ #[.int .u16 (x:Nat),.slice none 0 0] _ _ (uh HZA))
  have HKA:=hide ((Kept.refl [] w3).alloc (.cells #[.int .u16 0,.slice none 0 0] 64) |>.setRow (g:=w3.heap.size) (Or.inr (Nat.le_refl _)) #[.int .u16 (x:Nat),.slice none 0 0])
  obtain ⟨W3,hW3⟩:∃ W3,(w3.alloc (.cells #[.int .u16 0,.slice none 0 0] 64)).setRow w3.heap.size #[.int .u16 (x:Nat),.slice none 0 0] = W3:=⟨_,rfl⟩
  rw [hW3] at HGA HKA
  have c1:W3.cell? ⟨w.heap.size,1,none⟩ = some (.slice da dn dc):=(uh HKA).cell (cell_of_row _ _ 1 _ _ _ (uh HB3)) (by simp)
  have HK03:=hide (((uh HKW).trans (uh HK3) (by simp)).trans (uh HKA) (by simp))
  have HZW:=hide ((uh HKA).heap (uh HZ3) (by simp))
  have hg7:w3.heap.size < W3.heap.size:=lt_of_block (uh HGA)
  go_upto_region 3 with (first
    | (refine xa0o rfl 64 _ rfl #[.int .u16 (x:Nat),.slice none 0 0] (by simp only [List.map_toArray,List.map_cons,List.map_nil]; exact xb6z x) ?_)
    | (refine wpList_store_row rfl 64 (.tmp 7) (.tmp 19) rfl w3.heap.size #[.int .u16 (x:Nat),.slice none 0 0] rfl rfl _ #[.int .u16 0,.slice none 0 0] (uh HZA) Tryz.size_stp rfl (p_two1 rfl rfl) ?_; rw [hW3]; simp only [Act.put]))
  clear hW3 c0' HZA
  go_wp2_with fail
  go_loopw [23] (fun t23 wr=>∃ (j:Nat) (v:Value),t23 = .int .i64 j∧j≤dn∧Hid (wr.heap[w3.heap.size]? = some (.cells #[.int .u16 (x:Nat),v] 64 (0,0)))∧Hid (wr.ownsRow W3.heap.size 50 32 v (woE H AT (ds.take j)).length (dgR (woE H AT (ds.take j))).flatten)∧Hid (Kept [w3.heap.size] W3 wr)) (fun t _=>dn - (intOf t).toNat)
  case atStart=>exact ⟨0,_,rfl,Nat.zero_le _,HGA,hide (by rw [List.take_zero,xc3n]; exact World.ownsRow_nil _ _ _ _),hide (Kept.refl _ _)⟩
  case round =>
    clear c1
    obtain ⟨j,v,rfl,hj,HG,HO,HKr⟩:=hrel
    have HKw:=hide (show Kept [] w wr from (uh HK03).trans (uh HKr) (fun y hy=>Or.inr (by rw [List.mem_singleton.1 hy]; have h1:=(uh HK3).size; have h2:=(uh HKW).size; omega)))
    by_cases hlt:j < dn
    · have hlt':(j:Int) < dn:=by omega
      have hjd:j < ds.length:=by have:=uh HL; omega
      obtain ⟨b,o,rfl,hcl⟩:=uh H5 (by omega)
      have hrg:=hcl j hlt
      have hDj:=uh H4 (ds.getD j []) (by rw [List.getD_eq_getElem?_getD,List.getElem?_eq_getElem hjd]; exact List.getElem_mem hjd)
      have hsn:ds.take (j + 1) = ds.take j++[ds.getD j []]:=by rw [List.take_succ_eq_append_getElem hjd,List.getD_eq_getElem?_getD,List.getElem?_eq_getElem hjd]; rfl
      have htl:(ds.take j).length = j:=by rw [List.length_take]; omega
      have hwl:=xc3r H AT (ds.take j)
      rw [htl] at hwl
      have HKP:=hide (fun (h:H = false∨j≠AT)=>show woE H AT (ds.take (j + 1)) = woE H AT (ds.take j)++[ds.getD j []] by rw [hsn]; exact xc0w (by rw [htl]; exact h))
      have HSK:=hide (fun (h:H = true) (h2:j = AT)=>show woE H AT (ds.take (j + 1)) = woE H AT (ds.take j) by rw [hsn,h]; exact xb9x (by rw [htl]; exact h2))
      generalize ds.getD j [] = d at hrg hDj HKP
      generalize woE H AT (ds.take j) = E at HO hwl HKP HSK
      have hdl:=hDj.1
      have HRG:=hide (show wr.rangeAt b (o + j * 32) (d.map Go.Proofs.YtiopaaeejppnnaaGreatDoor.u8) from fun u z hz=>(uh HKw).cell (hrg u z hz) (by simp))
      have HZ1:=hide (heap_alloc_new wr (.cells (zb 32) 50))
      have HX0:=hide (setRow_heap _ _ _ (brow d) _ _ (uh HZ1))
      have HKq:=hide ((Kept.refl [] wr).alloc (.cells (zb 32) 50) |>.setRow (g:=wr.heap.size) (Or.inr (Nat.le_refl _)) (brow d))
      have HSD:=hide (by rw [xa0a,hdl]; exact Tryz.size_dig:(Tryz.prog.info? 50).map (·.size) = some (brow d).size)
      obtain ⟨wq,hwq⟩:∃ wq,(wr.alloc (.cells (zb 32) 50)).setRow wr.heap.size (brow d) = wq:=⟨_,rfl⟩
      rw [hwq] at HX0 HKq
      have HGq:=hide ((uh HKq).heap (uh HG) (by simp))
      have HOq:=hide ((uh HKq).owns (uh HO) (by simp))
      obtain ⟨vo,vc,rfl⟩:=xa0i (uh HOq)
      have hc1:wq.cell? ⟨w3.heap.size,1,none⟩ = some (.slice vo E.length vc):=cell_of_row _ _ 1 _ _ _ (uh HGq)
      clear hrg hcl hsn htl hjd
      go_upto_region 6 with (first
        | (refine wpList_load_mid rfl 50 (.tmp 26) rfl b (o + j * 32) rfl (d.map Go.Proofs.YtiopaaeejppnnaaGreatDoor.u8) _ (uh HRG) Tryz.underlying50 rfl (by rw [List.length_map,hdl]; exact Tryz.size_dig) ?_)
        | (rw [zb32]; refine wpList_store_row rfl 50 (.tmp 9) (.tmp 27) rfl wr.heap.size (brow d) rfl rfl _ (zb 32) (uh HZ1) (uh HSD) (by rw [xa0d,xa0a,hdl]) (xa0c _) ?_; rw [hwq]; simp only [Act.put]))
      clear hwq HZ1
      have HJ:=hide (show E.length≤1000000 by omega)
      by_cases hskip:H = true∧j = AT
      · obtain ⟨rfl,rfl⟩:=hskip
        have HE:=hide (uh HSK rfl rfl)
        clear HKP HSK
        have hbq:((j:Int) != (j:Int)) = false:=by simp
        go_wp2_with fail
        refine ⟨⟨j + 1,_,by go_num,hlt,HGq,hide (by rw [uh HE]; exact uh HOq),hide ((uh HKr).trans (uh HKq) (by simp))⟩,?_⟩
        simp [intOf]; omega
      · have hkeep:H = false∨j≠AT:=by
          cases H with
          | false=>exact Or.inl rfl
          | true=>exact Or.inr (fun e=>hskip ⟨rfl,e⟩)
        have HE:=hide (uh HKP hkeep)
        clear HKP HSK hskip
        cases H
        case' false=>go_upto_region 7 with fail
        case' true =>
          have hbq:((j:Int) != (AT:Int)) = true:=by rw [bne_iff_ne]; rcases hkeep with h | h; cases h; omega
          go_upto_region 7 with fail
        all_goals
          have HLN:=hide (heap_alloc_new wq (.cells (brow d) 50))
          have HKl:=hide ((Kept.refl [] wq).alloc (.cells (brow d) 50))
          have HOl:=hide ((uh HKl).owns (uh HOq) (by simp))
          have HGl:=hide ((uh HKl).heap (uh HGq) (by simp))
          obtain ⟨wl,hwl2⟩:∃ wl,wq.alloc (.cells (brow d) 50) = wl:=⟨_,rfl⟩
          rw [hwl2] at HLN HKl HOl HGl
          have HRL:=hide (xc1t (uh HLN))
          have HBS:=hide (show W3.heap.size≤wl.heap.size from Nat.le_trans (uh HKr).size (Nat.le_trans (uh HKq).size (uh HKl).size))
          have HOLT:=hide (fun y hy=>(uh HOl).lt y hy)
          iterate 8 (first | (refine wpList_load_row rfl 50 (.tmp 9) rfl wr.heap.size rfl 50 (brow d) (0,0) _ (uh HX0) Tryz.underlying50 rfl (uh HSD) ?_) | go_values | go_skip | go_guarded | go_step | go_upon)
          try simp only [Act.put,sa1,sa2,sa3]
          (refine xa8u rfl (.tmp 37) rfl d hdl rfl ?_; rw [hwl2])
          try simp only [Act.put,sa1,sa2,sa3]
          at_builtin
          refine xa0j rfl 62 50 (.tmp 36) (.tmp 38) rfl rfl _ W3.heap.size (.agg (zb 32)) 32 32 Tryz.underlying62 Tryz.infoDg3 rfl (by decide) (.slice vo E.length vc) E.length (dgR E).flatten (uh HOl) (some ⟨wq.heap.size,0,none⟩) 1 1 (dgR [d]) (uh HRL) (xa6m (by intro y hy; simp at hy; rw [hy]; exact hDj)) xb8i (by have:=uh HJ; omega) (by have:=uh HJ; omega) (uh HBS) rfl rfl ?_
          intro ao7 c7 w7 HO7 HG7 HA7
          clear hwl2
          try simp only [Act.put,sa1,sa2,sa3]
          go_upto_region 8 with (refine xa9m rfl 62 (.tmp 40) (.tmp 39) rfl w3.heap.size 1 64 #[.int .u16 (x:Nat),.slice vo E.length vc] #[.int .u16 (x:Nat),.slice ao7 (E.length + 1) c7] (.slice ao7 (E.length + 1) c7) rfl rfl (((Kept.refl (Value.slice vo E.length vc).ownBlock.toList wl).grown (uh HG7) (by intro y hy; left; simp [hy])).heap (uh HGl) (fun hm=>by have h1:=(uh HOLT _ (by simpa using hm)).1; omega)) (by simp) Tryz.size_dgs rfl rfl ?_)
          have hgx:=((Kept.refl (Value.slice vo E.length vc).ownBlock.toList wl).grown (uh HG7) (by intro y hy; left; simp [hy])).heap (uh HGl) (fun hm=>by have h1:=(uh HOLT _ (by simpa using hm)).1; omega)
          have HG8:=hide (setRow_heap _ _ _ #[.int .u16 (x:Nat),.slice ao7 (E.length + 1) c7] _ _ hgx)
          have hk78:=(Kept.refl [w3.heap.size] w7).setRow (g:=w3.heap.size) (Or.inl (by simp)) #[.int .u16 (x:Nat),.slice ao7 (E.length + 1) c7]
          have HO8:=hide (hk78.owns (uh HO7) (fun y hy hm=>by
            have h1:=(uh HO7).lt y hy
            have h2:=List.mem_singleton.1 hm
            omega))
          have HK8:=hide (((((uh HKr).trans (uh HKq) (by simp)).trans (uh HKl) (by simp)).grown (uh HG7) (fun y hy=>Or.inr (uh HOLT y hy).1)).trans hk78 (fun y hy=>Or.inl hy))
          have hlen:(E++[d]).length = E.length + 1:=by simp
          have hrows:(dgR (E++[d])).flatten = (dgR E).flatten++(dgR [d]).flatten:=by simp [dgR]
          clear hk78 hgx
          generalize w7.setRow w3.heap.size #[.int .u16 (x:Nat),.slice ao7 (E.length + 1) c7] = W8 at HG8 HO8 HK8 ⊢
          go_wp2_with fail
          refine ⟨⟨j + 1,.slice ao7 (E.length + 1) c7,by go_num,hlt,HG8,hide (by rw [uh HE,hlen,hrows]; exact uh HO8),HK8⟩,?_⟩
          simp [intOf]; omega
    · have hje:j = dn:=by omega
      subst hje
      have hlt':¬ (j:Int) < j:=by omega
      have htk:ds.take j = ds:=List.take_of_length_le (by have:=uh HL; omega)
      rw [htk] at HO
      have hdg:∀ d∈woE H AT ds,Dg d:=woE_dg (uh H4)
      have hrd:=xb5c (xa1z (by rw [show (dgR (woE H AT ds)).length = (woE H AT ds).length by simp [dgR]]; exact uh HO) (xa6m hdg)) hdg
      rw [← uh HW] at hrd
      obtain ⟨vo,vc,rfl⟩:=xa0i (uh HO)
      have hbl:∀ y∈blk (.slice vo (woE H AT ds).length vc),W3.heap.size≤y:=fun y hy=>by
        rcases (uh HO).2 with ⟨e,_⟩ | ⟨g,c,cur,e,hg,_⟩
        · injection e with e1; subst e1; simp [blk] at hy
        · injection e with e1; subst e1; have:y = g:=by simpa [blk] using hy
          omega
      generalize (woE H AT ds).length = kl at hrd hbl HG HO ⊢
      have HRD:=hide hrd
      have HBL:=hide hbl
      have hn3:=uh HN3
      have HZR:=hide ((uh HKr).heap (uh HZW) (by simp; omega))
      have HB3:=hide (show w.heap.size + 1 < W3.heap.size by omega)
      have c0:wr.cell? ⟨w3.heap.size,0,none⟩ = some (.int .u16 (x:Nat)):=by rw [cell_of_row _ _ _ _ _ _ (uh HG)]; rfl
      have c1:wr.cell? ⟨w3.heap.size,1,none⟩ = some (.slice vo kl vc):=by rw [cell_of_row _ _ _ _ _ _ (uh HG)]; rfl
      have r0:wr.cell? ⟨w.heap.size + 1,0,none⟩ = some (.int .u16 0):=by rw [cell_of_row _ _ _ _ _ _ (uh HZR)]; rfl
      have r1:wr.cell? ⟨w.heap.size + 1,1,none⟩ = some (.slice none 0 0):=by rw [cell_of_row _ _ _ _ _ _ (uh HZR)]; rfl
      have z0:=frozen_of_row _ _ 0 _ _ (uh HZR)
      have z1:=frozen_of_row _ _ 1 _ _ (uh HZR)
      clear hrd hbl htk hdg HO
      go_wp2_with fail
      have k9:=((Kept.refl [w.heap.size + 1] wr).setCell (p:=⟨w.heap.size + 1,0,none⟩) (Or.inl (by simp)) (.int .u16 (x:Nat))).setCell (p:=⟨w.heap.size + 1,1,none⟩) (Or.inl (by simp)) (.slice vo kl vc)
      refine bodyPost_ret (v:=.agg #[.int .u16 (x:Nat),.slice vo kl vc]) ?_ rfl ⟨.slice vo kl vc,rfl,xb3t (uh HRD) k9 (fun y hy hm=>by have:=uh HBL y hy; have:=uh HB3; simp at hm; omega),fun y hy=>by have:=uh HBL y hy; have:=uh HB3; omega,((uh HKw).setCell (p:=⟨w.heap.size + 1,0,none⟩) (Or.inr (Nat.le_succ _)) _).setCell (p:=⟨w.heap.size + 1,1,none⟩) (Or.inr (Nat.le_succ _)) _⟩
      exact results_cell_row rfl _ _ (w.heap.size + 1) 64 #[.int .u16 (x:Nat),.slice vo kl vc] (0,0) _ rfl (by rw [heap_setCell_same _ (w.heap.size + 1) 1 _ _ _ (heap_setCell_same _ (w.heap.size + 1) 0 _ _ _ (uh HZR))]; rfl) Tryz.underlying64 rfl Tryz.size_stp
set_option maxHeartbeats 4000000 in
theorem xb0v (k:Nat) (hk:1≤k∧k≤32):∀ f,f≤64→NodeOk k f
  | f,hf=>by
    intro T mv L w hM hne hs hfit hl hpre hT
    have HM:=hide hM
    obtain ⟨ao,c,l,rfl,hc1,hc2,hll,hpr,hcell⟩:=hM.parts
    have HZ0:=hide (heap_alloc_new w (.cells (zb 32) 50))
    have HK0:=hide ((Kept.refl [] w).alloc (.cells (zb 32) 50))
    have hNd:=nod_dg k f L
    have HPB:=hide (show (pairB L).length≤1000000000000 by have:=xa3e hfit; omega)
    have HS:=hide hs
    have HFI:=hide hfit
    have HPR:=hide hpre
    cases hsg:sgl (hsZ k) L with
    | true =>
      have hE:nodP (hsZ k) f L = sumD (k:Int) (buckB L):=xb4e hsg
      obtain ⟨C,hC⟩:∃ C,nodP (hsZ k) f L = C:=⟨_,rfl⟩
      rw [hC] at hE hNd ⊢
      have HE:=hide hE
      have HSG:=hide hsg
      have hcl:=hNd.1
      have HS2:=hide (by rw [xa0a,hcl]; exact Tryz.size_dig:(Tryz.prog.info? 50).map (·.size) = some (brow C).size)
      clear hM hcell hpr hs hfit hpre hE hC hsg hNd
      go_enter Tryz.func120,Tryz.ntmps120
      go_wp2_with fail
      rw [zb32]
      refine Calls.mono (xa4b T k _ L _ hk ((uh HM).agr (Agr.nil (uh HK0))) (uh HS) hl) ?_
      rintro e w1 ⟨rfl,k1⟩
      rw [uh HSG]
      have HK1:=hide ((uh HK0).trans k1 (by simp))
      have HZ1:=hide (k1.heap (uh HZ0) (by simp))
      clear k1
      go_wp2_with fail
      refine Calls.mono (xa8d T k _ L w1 ((uh HM).agr (Agr.nil (uh HK1))) hl) ?_
      rintro e w2 ⟨v2,rfl,r2,k2⟩
      have HR2:=hide r2
      have HK2:=hide ((uh HK1).trans k2 (by simp))
      have HZ2:=hide (k2.heap (uh HZ1) (by simp))
      clear r2 k2
      go_wp2_with fail
      refine Calls.mono (xa7c k v2 L w2 hk (uh HR2) (uh HPB)) ?_
      rintro e w3 ⟨rfl,k3⟩
      rw [← uh HE]
      have HK3:=hide ((uh HK2).trans k3 (by simp))
      have HZ3:=hide (k3.heap (uh HZ2) (by simp))
      clear k3
      go_wp2_with (refine wpList_store_row rfl 50 _ _ rfl w.heap.size (brow C) rfl rfl _ (zb 32) (uh HZ3) (uh HS2) (by rw [xa0d,xa0a,hcl]) (xa0c _) ?_)
      refine bodyPost_ret (v:=.agg (brow C)) ?_ rfl ⟨rfl,(uh HK3).setRow (Or.inr (Nat.le_refl _)) _⟩
      exact results_cell_row rfl _ _ w.heap.size _ (brow C) (0,0) _ rfl (setRow_heap _ _ _ _ _ _ (uh HZ3)) Tryz.underlying50 rfl (uh HS2)
    | false =>
      match f,hf with
      | 0,_=>exact absurd (xb8a (hsZ_ok hk) hpre (by have:(hsZ k).wd = k:=rfl; omega)) (by rw [hsg]; simp)
      | f + 1,hf =>
        have IH:=hide (xb0v k hk f (by omega))
        have hE:nodP (hsZ k) (f + 1) L = sumD (k:Int) (branchB (k:Int) (bm (hsZ k) (63 - f) L) ((kidsL (hsZ k) (63 - f) L).map (nodP (hsZ k) f))):=by
          rw [nod_br hsg]; unfold kidsL; rw [List.map_map]; rfl
        obtain ⟨C,hC⟩:∃ C,nodP (hsZ k) (f + 1) L = C:=⟨_,rfl⟩
        rw [hC] at hE hNd ⊢
        have HE:=hide hE
        have HSG:=hide hsg
        have hcl:=hNd.1
        have hd:64 - (f + 1) = 63 - f:=by omega
        rw [hd] at HPR ⊢
        have HS2:=hide (by rw [xa0a,hcl]; exact Tryz.size_dig:(Tryz.prog.info? 50).map (·.size) = some (brow C).size)
        have hbl:=bm_lt (hsZ k) (63 - f) L
        have hkl:((kidsL (hsZ k) (63 - f) L).map (nodP (hsZ k) f)).length≤16:=by rw [List.length_map,xa1a]; exact cnt_le _ _
        have HST:=hide (fun w hM=>xa9n k f (by omega) (uh IH) T (.slice ao L.length c) L w hM hne (uh HS) (uh HFI) hl (uh HPR))
        generalize bm (hsZ k) (63 - f) L = BM at HE hbl HST
        generalize (kidsL (hsZ k) (63 - f) L).map (nodP (hsZ k) f) = KS at HE hkl HST
        generalize 63 - f = d at HST ⊢
        clear hM hcell hpr hs hfit hpre hE hC hsg hNd hd
        go_enter Tryz.func120,Tryz.ntmps120
        go_wp2_with fail
        rw [zb32]
        refine Calls.mono (xa4b T k _ L _ hk ((uh HM).agr (Agr.nil (uh HK0))) (uh HS) hl) ?_
        rintro e w1 ⟨rfl,k1⟩
        rw [uh HSG]
        have HK1:=hide ((uh HK0).trans k1 (by simp))
        have HZ1:=hide (k1.heap (uh HZ0) (by simp))
        clear k1
        go_wp2_with fail
        refine Calls.mono (uh HST w1 ((uh HM).agr (Agr.nil (uh HK1)))) ?_
        rintro e w2 ⟨v2,rfl,r2,n2,k2⟩
        obtain ⟨p1,p2,p3,rfl,_⟩:=id r2
        have HK2:=hide ((uh HK1).trans k2 (by simp))
        have HZ2:=hide (k2.heap (uh HZ1) (by simp))
        have HKS:=hide ((Kept.refl [] w2).alloc (.cells #[.int .u16 (BM:Nat),.slice p1 p2 p3] 64))
        have HR2:=hide (r2.old (uh HKS))
        have HQ:=hide (heap_alloc_new w2 (.cells #[.int .u16 (BM:Nat),.slice p1 p2 p3] 64))
        have HK3:=hide ((uh HK2).trans (uh HKS) (by simp))
        have HZ3:=hide ((uh HKS).heap (uh HZ2) (by simp))
        clear r2 k2 n2
        have c0:(w2.alloc (.cells #[.int .u16 (BM:Nat),.slice p1 p2 p3] 64)).cell? ⟨w2.heap.size,0,none⟩ = some (.int .u16 (BM:Nat)):=by rw [cell_of_row _ _ _ _ _ _ (uh HQ)]; rfl
        have c1:(w2.alloc (.cells #[.int .u16 (BM:Nat),.slice p1 p2 p3] 64)).cell? ⟨w2.heap.size,1,none⟩ = some (.slice p1 p2 p3):=by rw [cell_of_row _ _ _ _ _ _ (uh HQ)]; rfl
        go_wp2_with fail
        refine Calls.mono (xa6u k BM _ KS _ hk hbl (uh HR2) hkl) ?_
        rintro e w4 ⟨rfl,k4⟩
        rw [← uh HE]
        have HK4:=hide ((uh HK3).trans k4 (by simp))
        have HZ4:=hide (k4.heap (uh HZ3) (by simp))
        clear k4 c0 c1
        go_wp2_with (refine wpList_store_row rfl 50 _ _ rfl w.heap.size (brow C) rfl rfl _ (zb 32) (uh HZ4) (uh HS2) (by rw [xa0d,xa0a,hcl]) (xa0c _) ?_)
        refine bodyPost_ret (v:=.agg (brow C)) ?_ rfl ⟨rfl,(uh HK4).setRow (Or.inr (Nat.le_refl _)) _⟩
        exact results_cell_row rfl _ _ w.heap.size _ (brow C) (0,0) _ rfl (setRow_heap _ _ _ _ _ _ (uh HZ4)) Tryz.underlying50 rfl (uh HS2)
theorem xb1z {ops:Array Oper} {rest:List Oper} {o:Oper} {a:Act} {w:World} {Q:Exit→Act→World→Prop} (hw:Region.wanted o (yielded ops a.tmps) = true) (x:Operand) (ho:o.op = .buildSlice 33 1 #[(0,x)]) (n:Int) (vu:Value) (hx:a.eval x = .agg #[.int .u16 n,vu])
    (h:wpList Tryz.prog ops Q rest (a.put o.dst (.slice (some ⟨w.heap.size,0,none⟩) 1 1)) (w.alloc (.cells #[.int .u16 n,vu] 64))):wpList Tryz.prog ops Q (o :: rest) a w :=
  wpList_want hw fun _ hK=>by
    unfold Oper.wp
    rw [xa9d w x ho n vu hx]
    exact hK _ _ h
theorem xc2z {x:Nat} {v:Value} (h:v.oneCell' = true):∀ r∈stR [(x,v)],∀ u∈r,u.oneCell' = true:=by
  intro r hr u hu
  simp [stR] at hr
  rw [hr] at hu
  simp at hu
  rcases hu with rfl | rfl
  · rfl
  · exact h
theorem xb7n {T:Nat→Prop} {k:Nat} {w w1:World} {v v' u:Value} {L:Prs} (h:IAt (tS T v) k w u L) (hn:L≠[]) (hg:w.grownBy w1 v.ownBlock) (hb:v'.ownBlock = v.ownBlock∨v'.ownBlock = some w.heap.size):IAt (tS T v') k w1 u L:=by
  have hK:=(Kept.refl v.ownBlock.toList w).grown hg (by intro x hx; left; simp [hx])
  have ha:Agr (lowS (tS T v) w) w w1:=⟨hK.size,fun x hx hl=>hK.block x hl (by
    intro hm
    have:v.ownBlock = some x:=by simpa using hm
    exact hx.1.2 this)⟩
  refine (h.shrink.agr ha).mono (fun x hx=>⟨hx.1.1,?_⟩)
  rcases hb with e | e
  · rw [e]; exact hx.1.2
  · rw [e]; intro e2; have h2:=hx.2; injection e2 with e3; omega
set_option maxHeartbeats 8000000 in
theorem xb3a (T:Nat→Prop) (k:Nat) (hk:1≤k∧k≤32) (mv qv:Value) (q:List Nat) (L:Prs) (w:World) (hM:IAt T k w mv L) (hq:Rd w qv q) (hql:q.length≤140737488351232) (hs:Srt (hsZ k) L) (hfit:Fit L) (hl:L.length≤1000000000) (hT:∀ y,w.heap.size≤y→T y) :
    Calls Tryz.prog 59 #[.int .i64 k,mv,qv] w fun e w'=>∃ sv pv,e = .returned (.tuple #[sv,pv])∧WalkP k w' q L sv pv∧(∀ y∈blk pv,w.heap.size≤y)∧Kept [] w w':=by
  have hH:=hsZ_ok hk
  have HM:=hide hM
  have HQ:=hide hq
  have HS:=hide hs
  have HFI:=hide hfit
  have HT:=hide hT
  have hDg:Dg ((hsZ k).kd q):=hH.dg q
  have hDe:sumD (k:Int) (2 :: q) = (hsZ k).kd q:=rfl
  clear hM hq hs hfit hT
  go_enter Tryz.func59,Tryz.ntmps59
  go_wp2_with fail
  refine Calls.mono (xa4d k qv q w hk (uh HQ) hql) ?_
  rintro e w1 ⟨rfl,k1⟩
  rw [hDe]
  obtain ⟨D,hD⟩:∃ D,(hsZ k).kd q = D:=⟨_,rfl⟩
  rw [hD] at hDg ⊢
  have HD:=hide hD
  have hDl:=hDg.1
  have HZ1:=hide (heap_alloc_new w1 (.cells (zb 32) 50))
  have HX0:=hide (setRow_heap _ _ _ (brow D) _ _ (uh HZ1))
  have HK12:=hide ((Kept.refl [] w1).alloc (.cells (zb 32) 50) |>.setRow (g:=w1.heap.size) (Or.inr (Nat.le_refl _)) (brow D))
  obtain ⟨W0,hW0⟩:∃ W0,(w1.alloc (.cells (zb 32) 50)).setRow w1.heap.size (brow D) = W0:=⟨_,rfl⟩
  rw [hW0] at HX0 HK12
  have HKW:=hide (k1.trans (uh HK12) (by simp))
  have HM0:=hide ((uh HM).agr (Agr.nil (uh HKW)))
  have HS1:=hide (by rw [xa0a,hDl]; exact Tryz.size_dig:(Tryz.prog.info? 50).map (·.size) = some (brow D).size)
  clear k1 hD hDe
  go_wp2_with (rw [zb32]; refine wpList_store_row rfl 50 (.tmp 9) (.tmp 13) rfl w1.heap.size (brow D) rfl rfl _ (zb 32) (uh HZ1) (uh HS1) (by rw [xa0d,xa0a,hDl]) (xa0c _) ?_; rw [hW0]; simp only [Act.put])
  go_loopw [1,8,10] (fun t1 t8 t10 wr=>∃ (i:Nat) (iv v:Value) (sl:List (Nat × Value)),t10 = .int .i64 i∧t1 = iv∧t8 = v∧i≤64∧Hid (IAt (tS T v) k wr iv (dnL (hsZ k) q L i))∧Hid (SLay W0.heap.size wr v sl ((List.range i).map (stp k q L)))∧Hid (∀ j,j < i→sgl (hsZ k) (dnL (hsZ k) q L j) = false)∧Hid (Kept [] W0 wr)) (fun _ _ t _=>64 - (intOf t).toNat)
  case atStart=>exact ⟨0,mv,_,[],rfl,rfl,rfl,Nat.zero_le _,hide ((uh HM0).mono (fun x hx=>⟨hx,by simp [Value.ownBlock]⟩)),hide (SLay.nil _ _),hide (fun j hj=>by omega),hide (Kept.refl _ _)⟩
  case round =>
    clear HM0
    obtain ⟨i,iv,v,sl,rfl,rfl,rfl,hi,HI,HSL,HNS,HKr⟩:=hrel
    have hln:=dn_len (H:=hsZ k) (q:=q) (L:=L) i
    have HLN:=hide (show (dnL (hsZ k) q L i).length≤1000000000 by omega)
    have HSr:=hide (dn_srt (H:=hsZ k) (q:=q) (uh HS) i)
    have HFr:=hide (show Fit (dnL (hsZ k) q L i) from (uh HFI).sub (fun x hx=>dn_sub i x hx))
    have HOn:=hide (dn_on (H:=hsZ k) (q:=q) (L:=L) i).pre
    clear hln
    go_wp2_with fail
    refine Calls.mono (xa4b _ k _ _ wr hk (uh HI) (uh HSr) (uh HLN)) ?_
    rintro e w3 ⟨rfl,k3⟩
    have HK3:=hide ((uh HKr).trans k3 (by simp))
    have HI3:=hide ((uh HI).agr (Agr.nil k3))
    have HSL3:=hide ((uh HSL).agr k3)
    clear k3
    cases hsg:sgl (hsZ k) (dnL (hsZ k) q L i) with
    | true =>
      have HSG:=hide hsg
      clear hsg
      go_wp2_with fail
      refine Calls.mono (xa3p _ k _ _ w3 (uh HI3) (uh HLN)) ?_
      rintro e w4 ⟨v4,rfl,r4,n4,k4⟩
      have HR4:=hide r4
      have HN4:=hide (show ∀ y∈blk v4,w.heap.size≤y from fun y hy=>by have h1:=n4 y hy; have h2:=(uh HKW).size; have h3:=(uh HK3).size; omega)
      have HK4:=hide ((uh HK3).trans k4 (by simp))
      have HRS:=hide ((uh HSL3).rdS.old k4)
      clear r4 k4 n4
      go_wp2_with fail
      go_ret2
      first
      | exact ⟨_,_,rfl,⟨i,uh HRS,uh HR4,uh HNS,uh HSG⟩,uh HN4,(uh HKW).trans (uh HK4) (by simp)⟩
    | false =>
      have hne:dnL (hsZ k) q L i≠[]:=fun e=>by rw [e,xb0k] at hsg; cases hsg
      have hdp:=deep hH (uh HOn) hsg
      have hwd:(hsZ k).wd = k:=rfl
      have hi63:i≤63:=by omega
      have HNS2:=hide (show ∀ j,j < i + 1→sgl (hsZ k) (dnL (hsZ k) q L j) = false from fun j hj=>by
        rcases Nat.lt_or_ge j i with h | h
        · exact uh HNS j h
        · rw [show j = i by omega]; exact hsg)
      have h63:63 - (63 - i) = i:=by omega
      have HST:=hide (xa9n k (63 - i) (by omega) (xb0v k hk (63 - i) (by omega)) _ _ _ w3 (uh HI3) hne (uh HSr) (uh HFr) (uh HLN) (by rw [h63]; exact uh HOn))
      rw [h63] at HST
      have HSTP:=hide (show stp k q L i = (bm (hsZ k) i (dnL (hsZ k) q L i),(kidsL (hsZ k) i (dnL (hsZ k) q L i)).map (nodP (hsZ k) (63 - i))) from rfl)
      have hbl:=bm_lt (hsZ k) i (dnL (hsZ k) q L i)
      generalize bm (hsZ k) i (dnL (hsZ k) q L i) = BM at HST HSTP hbl
      generalize (kidsL (hsZ k) i (dnL (hsZ k) q L i)).map (nodP (hsZ k) (63 - i)) = KS at HST HSTP
      have HNE:=hide hne
      clear hne hdp hwd hsg h63
      have HCH:=hide (fun (T:Nat→Prop) (u:Value) (W:World) (hI:IAt T k W u (dnL (hsZ k) q L i)) (hT:∀ y,W.heap.size≤y→T y)=>xa6z T k i (dgt D i) u (dnL (hsZ k) q L i) W hI (by omega) (dgt_lt hDg.2 i) (uh HLN) hT)
      have hdn:ch (hsZ k) i (dgt D i) (dnL (hsZ k) q L i) = dnL (hsZ k) q L (i + 1):=by rw [← uh HD]; rfl
      rw [hdn] at HCH
      clear hdn
      go_wp2_with fail
      refine Calls.mono (uh HST) ?_
      clear HST
      rintro e w4 ⟨v2,rfl,r2,n2,k4⟩
      obtain ⟨p1,p2,p3,rfl,_⟩:=id r2
      have HK4:=hide ((uh HK3).trans k4 (by simp))
      have HI4:=hide ((uh HI3).agr (Agr.nil k4))
      have HSL4:=hide ((uh HSL3).agr k4)
      obtain ⟨vo,vc,rfl⟩:=xa0i (uh HSL4).own
      have HOWN:=hide (fun z hz=>(uh HSL3).own.lt z hz)
      have hka:=(Kept.refl [] w4).alloc (.cells #[.int .u16 (BM:Nat),.slice p1 p2 p3] 64)
      have HKA:=hide hka
      have HSL5:=hide ((uh HSL4).agr hka)
      have HK5:=hide ((uh HK4).trans hka (by simp))
      have HSTY:=hide (show Sty (tB W0.heap.size (.slice vo sl.length vc)) (w4.alloc (.cells #[.int .u16 (BM:Nat),.slice p1 p2 p3] 64)) (fun w=>RdD w (.slice p1 p2 p3) KS) from Sty.rdD (r2.old hka) (fun y hy=>⟨by have:=n2 y hy; have:=(uh HK3).size; omega,fun e=>by have h1:=(uh HOWN y e).2; have h2:=n2 y hy; omega⟩))
      have HRL:=hide (show RdC 2 (w4.alloc (.cells #[.int .u16 (BM:Nat),.slice p1 p2 p3] 64)) (.slice (some ⟨w4.heap.size,0,none⟩) 1 1) (stR [(BM,.slice p1 p2 p3)]) from ⟨_,1,1,rfl,rfl,Nat.le_refl _,by omega,fun _=>⟨w4.heap.size,0,rfl,fun j hj=>by
          have h0:j = 0:=by simp [stR] at hj; omega
          subst h0
          exact xa0l [] [.int .u16 (BM:Nat),.slice p1 p2 p3] [] (heap_alloc_new w4 _) rfl⟩⟩)
      have hsll:=(uh HSL).len
      rw [List.length_map,List.length_range] at hsll
      have hbnd:sl.length + 1≤100:=by omega
      have hown:∀ z,(Value.slice vo sl.length vc).ownBlock = some z→W0.heap.size≤z:=fun z hz=>(uh HOWN z hz).1
      clear r2 n2 k4 hka hsll
      go_upto_region 7 with (first
        | (refine xb1z rfl (.tmp 23) rfl (BM:Nat) (.slice p1 p2 p3) rfl ?_)
        | (at_builtin; refine xa0j rfl 33 64 (.tmp 19) (.tmp 24) rfl rfl _ W0.heap.size (.agg #[.int .u16 0,.slice none 0 0]) 2 32 Tryz.underlying33 Tryz.infoSt rfl (by decide) (.slice vo sl.length vc) sl.length (stR sl).flatten (uh HSL5).own (some ⟨w4.heap.size,0,none⟩) 1 1 (stR [(BM,.slice p1 p2 p3)]) (uh HRL) (by intro r hr; simp [stR] at hr; rw [hr]; rfl) (xc2z rfl) (by omega) (by omega) (uh HK5).size rfl rfl ?_; intro ao7 c7 w7 HO7 HG7 HA7))
      have HS7:=hide ((uh HSL5).snoc hbl (uh HSTY) (uh HO7) (uh HG7) (uh HA7))
      have HK7:=hide ((uh HK5).grown (uh HG7) (fun z hz=>Or.inr (hown z hz)))
      have HX7:=hide ((uh HK7).heap (uh HX0) (by simp))
      have HI7:=hide (xb7n (((uh HI4).agr (Agr.nil (uh HKA)))) (uh HNE) (uh HG7) (uh HA7))
      have HT7:=hide (show ∀ y,w7.heap.size≤y→tS T (.slice ao7 (sl.length + 1) c7) y from fun y hy=>⟨uh HT y (by have:=(uh HK7).size; have:=(uh HKW).size; omega),fun e=>by have:=((uh HO7).lt y e).2; omega⟩)
      clear hown hbnd HO7 HG7 HA7 HSL5 HK5 HSTY HRL HSL4 HI4
      go_wp2_with (refine wpList_load_row rfl 50 (.tmp 9) rfl w1.heap.size rfl 50 (brow D) (0,0) _ (uh HX7) Tryz.underlying50 rfl (uh HS1) ?_)
      refine Calls.mono (xa4l D i w7 hDg (by omega)) ?_
      rintro e w8 ⟨rfl,k8⟩
      have HI8:=hide ((uh HI7).agr (Agr.nil k8))
      have HS8:=hide ((uh HS7).agr k8)
      have HK8:=hide ((uh HK7).trans k8 (by simp))
      have HT8:=hide (show ∀ y,w8.heap.size≤y→tS T (.slice ao7 (sl.length + 1) c7) y from fun y hy=>uh HT7 y (by have:=k8.size; omega))
      clear k8
      go_wp2_with fail
      refine Calls.mono (uh HCH _ _ w8 (uh HI8) (uh HT8)) ?_
      rintro e w9 ⟨v9,rfl,hi9,k9⟩
      have HI9:=hide hi9
      have HS9:=hide ((uh HS8).agr k9)
      have HK9:=hide ((uh HK8).trans k9 (by simp))
      clear hi9 k9 HCH
      go_wp2_with fail
      refine ⟨⟨i + 1,v9,.slice ao7 (sl.length + 1) c7,_,by go_num,rfl,rfl,by omega,HI9,hide (by rw [List.range_succ,List.map_append,List.map_cons,List.map_nil,uh HSTP]; exact uh HS9),HNS2,HK9⟩,?_⟩
      simp [intOf]; omega
theorem SNew.base {B C:Nat} {w:World} {v:Value} {gs:List (Nat × Nat)} {ss:List Stp} (h:SNew B w v gs ss) (hc:C≤B):SNew C w v gs ss:=by
  refine ⟨⟨h.own.1,?_⟩,h.len,fun i hi=>?_,h.dis⟩
  · rcases h.own.2 with h1 | ⟨g,cap,cur,h1,h2,h3⟩
    · exact Or.inl h1
    · exact Or.inr ⟨g,cap,cur,h1,Nat.le_trans hc h2,h3⟩
  · exact { h.kid i hi with new:=Nat.le_trans hc (h.kid i hi).new }
theorem SNew.lts {B:Nat} {w:World} {v:Value} {gs:List (Nat × Nat)} {ss:List Stp} (h:SNew B w v gs ss):(∀ p∈gs,p.1 < w.heap.size)∧∀ b,v.ownBlock = some b→b < w.heap.size:=by
  refine ⟨fun p hp=>?_,fun b hb=>(h.own.lt b hb).2⟩
  obtain ⟨j,hj,rfl⟩:=List.getElem_of_mem hp
  have h8:=(h.kid j (by have:=h.len; omega)).lt
  rw [List.getD_eq_getElem?_getD,List.getElem?_eq_getElem hj,Option.getD_some] at h8
  exact h8
theorem LayAt.far {C:Nat} {w w':World} {v:Value} {l:List VP} {L:Prs} {M:List Nat} (h:LayAt C w v l L) (k:Kept M w w') (hM:∀ x∈M,x < C):LayAt C w' v l L :=
  ⟨k.owns h.own (fun b hb hm=>by have h1:=(h.own.lt b hb).1; have h2:=hM b hm; omega),h.pr.agr ⟨k.size,fun x hx hl=>k.block x hl (fun hm=>by have h1:=hM x hm; have h2:=hx.1; omega)⟩⟩
structure SLP (B:Nat) (w:World) (sv pv:Value) (gs:List (Nat × Nat)) (ss:List Stp) (E:Prs) (C:Nat) (l:List VP):Prop where
  st:SNew B w sv gs ss
  ly:LayAt C w pv l E
  lo:(∀ p∈gs,p.1 < C)∧∀ b,sv.ownBlock = some b→b < C
  bc:B≤C
theorem SLP.kept {B:Nat} {w w':World} {sv pv:Value} {gs:List (Nat × Nat)} {ss:List Stp} {E:Prs} {C:Nat} {l:List VP} (h:SLP B w sv pv gs ss E C l) (k:Kept [] w w'):SLP B w' sv pv gs ss E C l:=⟨h.st.kept k,h.ly.agr k,h.lo,h.bc⟩
theorem SLP.far {B:Nat} {w w':World} {sv pv:Value} {gs:List (Nat × Nat)} {ss:List Stp} {E:Prs} {C:Nat} {l:List VP} {M:List Nat} (h:SLP B w sv pv gs ss E C l) (k:Kept M w w') (hM:∀ x∈M,x < B):SLP B w' sv pv gs ss E C l :=
  ⟨⟨k.owns h.st.own (fun b hb hm=>by have h1:=(h.st.own.lt b hb).1; have h2:=hM b hm; omega),h.st.len,fun i hi=>(h.st.kid i hi).kept k (fun hm=>by have h1:=(h.st.kid i hi).new; have h2:=hM _ hm; omega),h.st.dis⟩,h.ly.far k (fun x hx=>Nat.lt_of_lt_of_le (hM x hx) h.bc),h.lo,h.bc⟩
theorem SLP.base {B B':Nat} {w:World} {sv pv:Value} {gs:List (Nat × Nat)} {ss:List Stp} {E:Prs} {C:Nat} {l:List VP} (h:SLP B w sv pv gs ss E C l) (hb:B'≤B):SLP B' w sv pv gs ss E C l:=⟨h.st.base hb,h.ly,h.lo,Nat.le_trans hb h.bc⟩
def WalkN (k B:Nat) (w:World) (q:List Nat) (L:Prs) (sv pv:Value):Prop:=∃ m gs C l,SLP B w sv pv gs ((List.range m).map (stp k q L)) (dnL (hsZ k) q L m) C l∧WayM k q L m∧∀ i,i < m→(gs.getD i (0,0)).2 = (stp k q L i).2.length
set_option maxHeartbeats 4000000 in
theorem xb7r (S:Nat→Prop) (k:Nat) (mv kv:Value) (L:Prs) (q:List Nat) (w:World) (hM:MapAt S k w mv L) (hku:Rd w kv q) (hq:q.length≤64) (hT:Tabs w) :
    Calls Tryz.prog 22 #[mv,kv] w fun e w'=>∃ sv pv,e = .returned (.tuple #[sv,pv,.int .i64 0])∧WalkN k w.heap.size w' q L sv pv∧Kept [] w w':=by
  have HM:=hide hM
  obtain ⟨hk,hs,hfit,hlen,g,tv,rfl,hSg,hh,htop⟩:=hM
  have hH:=hsZ_ok hk
  have HKU:=hide hku
  have HTb:=hide hT
  have HSr:=hide hs
  clear hh htop hT hs hku hfit hSg
  go_enter Tryz.func22,Tryz.ntmps22
  go_wp2_with fail
  refine Calls.mono (xa3j S k _ kv L q w (uh HM) (uh HKU) hq (uh HTb)) ?_
  rintro e w1 ⟨m,cr,en,pl,fd,rfl,hway,k1⟩
  have hon:=hway.cells
  have HWay:=hide hway
  have hDl:((hsZ k).kd q).length = 32:=(hH.dg q).1
  obtain ⟨D,hD⟩:∃ D,(hsZ k).kd q = D:=⟨_,rfl⟩
  rw [hD] at hDl ⊢
  clear hD hway
  have hws:((wayC k D cr en pl fd).toArray).size = 37:=by rw [List.size_toArray,xa1p hDl]
  have HZ1:=hide (heap_alloc_new w1 (.cells zwy 88))
  have HN2:=hide (setRow_heap _ _ _ (wayC k D cr en pl fd).toArray _ _ (uh HZ1))
  have HK12:=hide ((Kept.refl [] w1).alloc (.cells zwy 88) |>.setRow (g:=w1.heap.size) (Or.inr (Nat.le_refl _)) (wayC k D cr en pl fd).toArray)
  have HK2:=hide (k1.trans (uh HK12) (by simp))
  clear k1
  obtain ⟨W2,hW2⟩:∃ W2,(w1.alloc (.cells zwy 88)).setRow w1.heap.size (wayC k D cr en pl fd).toArray = W2:=⟨_,rfl⟩
  rw [hW2] at HN2 HK12 HK2
  obtain ⟨⟨gs,hgl,hrd,htr⟩,hend,hdeep⟩:=(uh HWay).old (uh HK12)
  obtain ⟨ao,c,b,off,rfl,hc1,hc2,hao,hcell⟩:=xb5k hrd
  rw [hgl] at hc1 hao hcell hon hws HN2 hW2 ⊢
  obtain ⟨cw0,cw1,cw2,cw3,cw4,cw5⟩:=xa0x (uh HN2) hDl
  have HC:=hide hcell
  have HTR:=hide htr
  have HEn:=hide hend
  have HAO:=hide hao
  have HW3:=hide cw3
  have hL0:=hide (SNew.nil W2.heap.size W2)
  have hKa:=hide (Kept.refl [] W2)
  clear cw0 cw1 cw3 cw4 cw5 hcell htr hrd hend hao HWay
  go_wp2_with (rw [xa2t]; refine wpList_store_row rfl 88 (.tmp 7) (.tmp 16) rfl w1.heap.size (wayC k D (.slice ao m c) en pl fd).toArray rfl rfl _ zwy (uh HZ1) (by rw [hws]; exact Tryz.size_way) (by rw [hws]; rfl) (xa1l _ _ hon.1 hon.2) ?_; rw [hW2]; simp only [Act.put])
  go_loopw [9,24] (fun t9 t24 wr=>∃ (i:Nat) (v:Value) (gz:List (Nat × Nat)),t24 = .int .i64 i∧t9 = v∧i≤m∧Hid (SNew W2.heap.size wr v gz ((List.range i).map (stp k q L)))∧Hid (∀ j,j < i→(gz.getD j (0,0)).2 = (stp k q L j).2.length)∧Hid (Kept [] W2 wr)) (fun _ t _=>m - (intOf t).toNat)
  case atStart=>exact ⟨0,_,[],rfl,rfl,Nat.zero_le _,hL0,hide (fun j hj=>by omega),hKa⟩
  case round =>
    clear hL0 hKa cw2
    obtain ⟨i,v,gz,rfl,rfl,hi,HSL,HCP,HKr⟩:=hrel
    by_cases hlt:i < m
    · have hlt':(i:Int) < m:=by omega
      have haod:=uh HAO (by omega)
      subst haod
      have hx1:=(uh HKr).cell (uh HC i hlt) (by simp)
      obtain ⟨ht,hsg⟩:=uh HTR i hlt
      generalize gs.getD i 0 = gi at hx1 ht
      obtain ⟨f,hf⟩:∃ f,64 - i = f + 1:=⟨63 - i,by omega⟩
      have hfi:63 - f = i:=by omega
      have hif:63 - i = f:=by omega
      rw [hf] at ht
      obtain ⟨g',kvv,vs,e,hSg,hh,hrow,hle,hkd⟩:=ht.2 hsg
      have eg:g' = gi:=by injection e with _ e2; injection e2 with e3; injection e3 with e4; injection e4 with e5; exact e5.symm
      subst eg
      rw [hfi] at hh hle hkd
      obtain ⟨b0,b1,_⟩:=br_row hh
      have hst:stp k q L i = (bm (hsZ k) i (dnL (hsZ k) q L i),(kidsL (hsZ k) i (dnL (hsZ k) q L i)).map (nodP (hsZ k) f)):=by unfold stp; rw [hif]
      have hbl:=bm_lt (hsZ k) i (dnL (hsZ k) q L i)
      have hkp:=(xa3i hH (d:=i) ht.ne).1
      have hkl:=xa1a (hsZ k) i (dnL (hsZ k) q L i)
      have hkc:=cnt_le (bm (hsZ k) i (dnL (hsZ k) q L i)) 16
      have hdg:∀ d∈(kidsL (hsZ k) i (dnL (hsZ k) q L i)).map (nodP (hsZ k) f),Dg d:=fun d hd=>by
        obtain ⟨K,_,rfl⟩:=List.mem_map.1 hd
        exact nod_dg k f K
      rw [← hkl] at hkc
      have HSt:=hide hst
      generalize bm (hsZ k) i (dnL (hsZ k) q L i) = x at b0 hbl hst HSt
      generalize kidsL (hsZ k) i (dnL (hsZ k) q L i) = Ks at hle hkd hkp hkc hdg hst HSt
      have hrow':=hrow.agr (Agr.nil (uh HKr))
      have HRow:=hide hrow'
      have hkd':=hide (fun j (hj:j < vs.length)=>(hkd j hj).agr (Agr.nil (uh HKr)))
      obtain ⟨b2,off2,cap2,rfl,_⟩:=hrow
      have HB0:=hide ((uh HKr).cell b0 (by simp))
      have HB1:=hide ((uh HKr).cell b1 (by simp))
      obtain ⟨SS,hSS⟩:∃ SS,(List.range i).map (stp k q L) = SS:=⟨_,rfl⟩
      rw [hSS] at HSL
      have HSS:=hide hSS
      obtain ⟨vo,vc,rfl⟩:=xa0i (uh HSL).own
      have hown:∀ y,(Value.slice vo SS.length vc).ownBlock = some y→W2.heap.size≤y∧y < wr.heap.size:=fun y hy=>(uh HSL).own.lt y hy
      have hgs:=lt_of_block hh
      have HSLn:=hide (show SS.length≤64 by rw [← hSS]; simp; omega)
      have HGL:=hide (fun (p:Nat × Nat) (hp:p∈gz)=>by
        obtain ⟨j,hj,rfl⟩:=List.getElem_of_mem hp
        have h8:=((uh HSL).kid j (by have:=(uh HSL).len; omega)).lt
        rw [List.getD_eq_getElem?_getD,List.getElem?_eq_getElem hj,Option.getD_some] at h8
        exact h8:∀ p∈gz,p.1 < wr.heap.size)
      obtain ⟨OB,hOB⟩:∃ OB,(Value.slice vo SS.length vc).ownBlock = OB:=⟨_,rfl⟩
      rw [hOB] at hown
      have hno:g'∉OB.toList:=by
        intro hm
        have:=hown g' (by simpa using hm)
        omega
      clear hh hkd b0 b1 hst ht hsg e hSS hrow'
      go_upto_region 8 with fail
      refine ln_wa (by kernel_rfl) (by kernel_rfl) rfl (fun W=>Kept OB.toList wr W) (Kept.refl _ wr).drew ?_
      refine LinY.mv (x:=.tmp 9) rfl (.slice vo SS.length vc) rfl (by simp only [Act.put,sa1,sa2,sa3]; rfl) ?_
      refine LinY.mv (x:=.tmp 11) rfl (.pointer (some ⟨g',0,none⟩)) rfl (by simp only [Act.put,sa1,sa2,sa3]; rfl) ?_
      refine LinY.rd (.pointer (some ⟨g',0,none⟩)) (fun W hW=>by go_simp) (by simp only [Act.put,sa1,sa2,sa3]; rfl) ?_
      refine LinY.rd (.pointer (some ⟨g',0,none⟩)) (fun W hW=>by go_simp) (by simp only [Act.put,sa1,sa2,sa3]; rfl) ?_
      refine LinY.rd (.int .u16 x) (fun W hW=>by have h9:=hW.cell (uh HB0) hno; go_simp) (by simp only [Act.put,sa1,sa2,sa3]; rfl) ?_
      refine LinY.mv (x:=.tmp 11) rfl (.pointer (some ⟨g',0,none⟩)) rfl (by simp only [Act.put,sa1,sa2,sa3]; rfl) ?_
      refine LinY.rd (.pointer (some ⟨g',0,none⟩)) (fun W hW=>by go_simp) (by simp only [Act.put,sa1,sa2,sa3]; rfl) ?_
      refine LinY.rd (.pointer (some ⟨g',1,none⟩)) (fun W hW=>by go_simp) (by simp only [Act.put,sa1,sa2,sa3]; rfl) ?_
      refine LinY.rd (.slice (some ⟨b2,off2,none⟩) vs.length cap2) (fun W hW=>by have h9:=hW.cell (uh HB1) hno; go_simp) (by simp only [Act.put,sa1,sa2,sa3]; rfl) ?_
      have hd2:=(Kept.refl [] wr).drew
      refine ChL.call rfl Tryz.call47 [.slice (some ⟨b2,off2,none⟩) vs.length cap2] rfl (xb0a S k f _ vs Ks wr.drew ((uh HRow).agr (Agr.nil hd2)) hle (by omega) (fun j hj=>(uh hkd' j hj).agr (Agr.nil hd2))) ?_
      rintro e w4 ⟨g4,n4,rfl,hn4,hg4,hh4,k4⟩
      have hk4:=hd2.trans k4 (by simp)
      refine ⟨_,rfl,hk4.mono (by simp),?_⟩
      simp only [Act.put,sa1,sa2,sa3]
      have hn5:n4 = (Ks.map (nodP (hsZ k) f)).length:=by rw [List.length_map,hn4,hle]
      have hrdd:=xb9b hh4 hdg (by rw [← hn5]; omega)
      rw [← hn5] at hrdd
      refine ChL.op (.agg #[.int .u16 x,.slice (some ⟨g4,0,none⟩) n4 n4]) (xb7d w4 ⟨rfl,rfl,rfl⟩) (hk4.mono (by simp)) (by simp only [Act.put,sa1,sa2,sa3]; rfl) ?_
      have hka:=(Kept.refl [] w4).alloc (.cells #[.int .u16 x,.slice (some ⟨g4,0,none⟩) n4 n4] 64)
      have hk6:=hk4.trans hka (by simp)
      refine ChL.op (.slice (some ⟨w4.heap.size,0,none⟩) 1 1) (xa9d w4 (.tmp 38) rfl x _ rfl) (hk6.mono (by simp)) (by simp only [Act.put,sa1,sa2,sa3]; rfl) ?_
      have hrl:RdC 2 (w4.alloc (.cells #[.int .u16 x,.slice (some ⟨g4,0,none⟩) n4 n4] 64)) (.slice (some ⟨w4.heap.size,0,none⟩) 1 1) (stR [(x,.slice (some ⟨g4,0,none⟩) n4 n4)]):=⟨_,1,1,rfl,rfl,Nat.le_refl _,by omega,fun _=>⟨w4.heap.size,0,rfl,fun j hj=>by
          have h0:j = 0:=by simp [stR] at hj; omega
          subst h0
          exact xa0l [] [.int .u16 x,.slice (some ⟨g4,0,none⟩) n4 n4] [] (heap_alloc_new w4 _) rfl⟩⟩
      have hly:=(uh HSL).kept hk6
      have hk06:=(uh HKr).trans hk6 (by simp)
      refine ChL.app 33 64 (.tmp 28) (.tmp 39) rfl rfl _ W2.heap.size (.agg #[.int .u16 0,.slice none 0 0]) 2 32 Tryz.underlying33 Tryz.infoSt rfl (by decide) (.slice vo SS.length vc) SS.length (snR SS gz).flatten hly.own (some ⟨w4.heap.size,0,none⟩) 1 1 (stR [(x,.slice (some ⟨g4,0,none⟩) n4 n4)]) hrl (by intro r hr; simp [stR] at hr; rw [hr]; rfl) (by intro r hr u hu; simp [stR] at hr; rw [hr] at hu; simp at hu; rcases hu with rfl | rfl <;> rfl) (by have:=uh HSLn; omega) (by have:=uh HSLn; omega) hk06.size rfl rfl ?_
      intro ao7 c7 w7 HO7 HG7 HA7
      have hg7:=uh HG7
      rw [hOB] at hg7
      have hk7:=(Kept.refl OB.toList _).grown hg7 (by intro x hx; left; simp [hx])
      have hk27:=(hk6.mono (M:=OB.toList) (by simp)).trans hk7 (fun x hx=>Or.inl hx)
      refine ⟨hk27,?_⟩
      simp only [Act.put,sa1,sa2,sa3]
      refine ChL.op (.slice ao7 (SS.length + 1) c7) (by go_simp) hk27 (by simp only [Act.put,sa1,sa2,sa3]; rfl) (ChL.fin ?_)
      have hz4:=hd2.size
      have hfr:W2.heap.size≤g4∧∀ y,OB = some y→y≠g4:=⟨by have:=(uh HKr).size; omega,fun y hy e=>by have:=(hown y hy).2; omega⟩
      have hsn:=hly.snoc (s:=(x,Ks.map (nodP (hsZ k) f))) (p:=(g4,n4)) ⟨hfr.1,by rw [hOB]; exact fun e=>hfr.2 _ e rfl,⟨[],by rw [List.append_nil]; exact hka.heap hh4 (by simp),by rw [← hn5]; simp,by simp⟩,⟨by rw [← hn5]; exact Nat.le_refl _,by rw [hn5,List.length_map]; exact hkc⟩,hbl,hdg⟩ (fun p hp e=>by have:=uh HGL p hp; omega) (by
        have h8:=uh HO7
        rw [show stV (x,Ks.map (nodP (hsZ k) f)) (g4,n4) = (stR [(x,.slice (some ⟨g4,0,none⟩) n4 n4)]).flatten by rw [hn5]; rfl]
        exact h8) (uh HG7) (uh HA7)
      have hk07:=hk06.grown (uh HG7) (fun x hx=>Or.inr (by rw [hOB] at hx; exact (hown x hx).1))
      have HSN:=hide hsn
      have HK7:=hide hk07
      clear hsn hk07 hk27 hk7 hk6 hk06 hly hrl hrdd hh4 k4 hka hg7
      go_wp2
      refine ⟨⟨i + 1,.slice ao7 (SS.length + 1) c7,_,by go_num,rfl,hlt,hide (by rw [List.range_succ,List.map_append,List.map_cons,List.map_nil,uh HSS,uh HSt]; exact uh HSN),hide (fun j hj=>by
        rw [xa7a]
        have hgl:=(uh HSL).len
        rw [← uh HSS,List.length_map,List.length_range] at hgl
        by_cases hj2:j < i
        · rw [if_pos (by omega)]; exact uh HCP j hj2
        · rw [if_neg (by omega),if_pos (by omega),show j = i by omega,uh HSt]; exact hn5),HK7⟩,?_⟩
      simp [intOf]; omega
    · have hie:i = m:=by omega
      subst hie
      have hlt':¬ (i:Int) < i:=by omega
      have h3:=(uh HKr).cell (uh HW3) (by simp)
      have hsgs:=fun j hj=>(uh HTR j hj).2
      have hrs:=(uh HSL).base (show w.heap.size≤W2.heap.size from (uh HK2).size)
      rcases uh HEn with ⟨hm,rfl,_,_⟩ | ⟨hsg,g1,rfl,hb,_⟩
      · go_wp2_with fail
        go_ret3
        exact ⟨_,.slice none 0 0,rfl,⟨i,gz,wr.heap.size,[],⟨hrs,by rw [hm]; exact LayAt.nil _ _,hrs.lts,Nat.le_trans (uh HK2).size (uh HKr).size⟩,⟨hsgs,by rw [hm]; rfl⟩,uh HCP⟩,(uh HK2).trans (uh HKr) (by simp)⟩
      · have HRS:=hide hrs
        have HSG:=hide hsgs
        have HL:=hide (show (dnL (hsZ k) q L i).length≤1000000000 from Nat.le_trans (dn_len i) hlen)
        clear hrs hsgs
        go_wp2_with fail
        refine Calls.mono (xb9k S k g1 (dnL (hsZ k) q L i) [] _ [] wr wr (hb.agr (Agr.nil (uh HKr))) (Kept.refl _ _) (LayAt.nil _ _) (by have:=uh HL; simpa using this)) ?_
        rintro e w5 ⟨v5,l5,rfl,hl5,k5⟩
        have HL5:=hide hl5
        have HK5:=hide k5
        clear hl5 k5
        go_wp2_with fail
        go_ret3
        exact ⟨_,_,rfl,⟨i,gz,wr.heap.size,_,⟨(uh HRS).kept (uh HK5),uh HL5,(uh HRS).lts,Nat.le_trans (uh HK2).size (uh HKr).size⟩,⟨uh HSG,hsg⟩,uh HCP⟩,((uh HK2).trans (uh HKr) (by simp)).trans (uh HK5) (by simp)⟩
theorem xb6d (w:World):(zeroValue 50).run Tryz.prog w = .ok (.agg (zb 32)) w:=by
  kernel_rfl
theorem xb1g:(Builtin.zeroCells (Value.agg (zb 32)).cells 1).toList = (zb 32).toList:=by kernel_rfl
theorem zb_one (v:Value) (h:v∈(zb 32).toList):v.oneCell' = true:=by
  have e:v = .int .u8 0:=by simpa [zb,brow,u8] using h
  subst e; rfl
theorem xa7u {P:Program} (w:World) (t e ty:TypeId) (z:Value) (cs:List Value) (ht:P.underlying t = some (.slice e)) (hv:(zeroValue e).run P w = .ok z w) (hzc:(Builtin.zeroCells z.cells 1).toList = cs) (h1:∀ v∈cs,v.oneCell' = true) (b o c:Nat) (hc:∀ j,j < cs.length→(w.cell? ⟨b,o + j,none⟩).isSome = true) (hf:∀ j,j < cs.length→w.frozen? ⟨b,o + j,none⟩ = false) :
    (Builtin.clear_ #[t] ty #[.slice (some ⟨b,o,none⟩) 1 c]).run P w = .ok (.tuple #[]) (w.setCells b o cs):=by
  have hst:=run_storeCells_cells (P:=P) b o cs 0 w (by simpa using hc) (by simpa using hf) h1
  simp only [Nat.add_zero] at hst
  simp [Builtin.clear_,run_underlying ht,hv,hzc,hst]
theorem xa7r (w:World) (ty:TypeId) (g o c:Nat) (hc:∀ j,j < 32→(w.cell? ⟨g,o + j,none⟩).isSome = true) (hf:∀ j,j < 32→w.frozen? ⟨g,o + j,none⟩ = false) :
    (Builtin.clear_ #[62] ty #[.slice (some ⟨g,o,none⟩) 1 c]).run Tryz.prog w = .ok (.tuple #[]) (w.setCells g o (zb 32).toList):=by
  have hl:(zb 32).toList.length = 32:=by rfl
  exact xa7u w _ 50 ty _ _ Tryz.underlying62 (xb6d w) xb1g zb_one g o c (by rw [hl]; exact hc) (by rw [hl]; exact hf)
theorem xb7p {P:Program} {o:Oper} {a:Act} {w w1:World} {T:TypeId} (s x:Operand) (ho:o.op = .call { callee:=.builtin .append,args:=#[s,x],argTypes:=#[T,T] }) (hty:o.type = T) (v u r:Value) (hs:a.eval s = v) (hx:a.eval x = u) (hrun:(Builtin.append_ #[T,T] T #[v,u]).run P w = .ok r w1):(execOp a.eval o).run P w = .ok (.value r) w1:=by
  unfold execOp
  simp only [ho,hty,resolve,invoke,builtin,Sem.run_bind,Sem.run_pure,Result.andThen_ok,List.map_toArray,List.map_cons,List.map_nil,hs,hx,hrun]
theorem xb0o {ds:List (List Nat)} (j:Nat):flatD ds = flatD (ds.take j)++flatD (ds.drop j):=by rw [← xa4a,List.take_append_drop]
set_option maxHeartbeats 4000000 in
theorem xb9s (g n i j:Nat) (ds:List (List Nat)) (w:World) (hh:w.heap[g]? = some (.cells (flatD ds).toArray 50 (0,0))) (hn:ds.length = n) (hij:j = i + 1) (hj:j≤n) (hd:∀ d∈ds,d.length = 32) (hm:n≤1000000) :
    Calls Tryz.prog 66 #[.slice (some ⟨g,0,none⟩) n n,.int .i64 i,.int .i64 j] w fun e w'=>e = .returned (.slice (some ⟨g,0,none⟩) (i + (n - j)) n)∧w'.heap[g]? = some (.cells (flatD (ds.eraseIdx i)++(zb 32).toList).toArray 50 (0,0))∧Kept [g] w w':=by
  have hfl:∀ m,(flatD (ds.take m)).length = (min m n) * 32:=fun m=>by rw [xa2a (fun d h=>hd d (List.mem_of_mem_take h)),List.length_take,hn]
  have hfd:∀ m,(flatD (ds.drop m)).length = (n - m) * 32:=fun m=>by rw [xa2a (fun d h=>hd d (List.mem_of_mem_drop h)),List.length_drop,hn]
  obtain ⟨news,hnews⟩:∃ news,news = flatD (ds.drop j):=⟨_,rfl⟩
  have hlen:news.length = (n - j) * 32:=by rw [hnews,hfd]
  obtain ⟨A,hA,hsrc⟩:∃ A:Addr,(if n = j then (some ⟨g,0,none⟩:Option Addr) else some ⟨g,j * 32,none⟩) = some A∧Hid (∀ t u,news[t]? = some u→w.drew.cell? (A.add t) = some u):=by
    by_cases h:n = j
    · refine ⟨⟨g,0,none⟩,by simp [h],fun t u hu=>?_⟩
      have h0:news.length = 0:=by rw [hlen]; omega
      rw [List.length_eq_zero_iff.1 h0] at hu
      simp at hu
    · refine ⟨⟨g,j * 32,none⟩,by simp [h],fun t u hu=>?_⟩
      rw [Addr.add_lit]
      show w.cell? _ = _
      rw [cell_of_row _ _ _ _ _ _ hh,List.getElem?_toArray,xb0o j,List.getElem?_append_right (by rw [hfl,Nat.min_eq_left hj]; omega),hfl,Nat.min_eq_left hj,show j * 32 + t - j * 32 = t by omega,← hnews]
      exact hu
  have s1:Hid (news.length = (n - j) * 32):=hlen
  have s2:Hid (∀ u∈news,u.oneCell' = true):=by rw [hnews]; exact xa6k _
  have hsz:(flatD ds).length = n * 32:=by rw [xa2a hd,hn]
  have s3:Hid (∀ t,t < news.length→(w.drew.cell? ⟨g,0 + i * 32 + t,none⟩).isSome = true∧w.drew.frozen? ⟨g,0 + i * 32 + t,none⟩ = false):=by
    intro t ht
    rw [hlen] at ht
    refine ⟨?_,frozen_of_row (w.drew) g _ _ _ hh⟩
    show (w.cell? _).isSome = true
    rw [cell_of_row _ _ _ _ _ _ hh,List.getElem?_toArray,List.getElem?_eq_getElem (by rw [hsz]; omega)]; rfl
  obtain ⟨W1,hW1⟩:∃ W1,W1 = w.drew.setCells g (0 + i * 32) news:=⟨_,rfl⟩
  have hli:(flatD (ds.take i)).length = i * 32:=by rw [hfl,Nat.min_eq_left (by omega)]
  have hrest:=hfd i
  have hh1:W1.heap[g]? = some (.cells (flatD (ds.take i)++(news++(flatD (ds.drop i)).drop ((n - j) * 32))).toArray 50 (0,0)):=by
    rw [hW1,show 0 + i * 32 = (flatD (ds.take i)).length by rw [hli]; omega]
    refine xa8c g 50 news (flatD (ds.take i)) ((flatD (ds.drop i)).take ((n - j) * 32)) _ w.drew (by rw [List.length_take,hrest,hlen]; omega) ?_
    rw [List.take_append_drop,← xb0o i]; exact hh
  have hK1:Kept [g] w W1:=by rw [hW1]; exact xa6q g (Or.inl (by simp)) news _ _ ((Kept.refl [g] w).drew)
  have hpost:((flatD (ds.drop i)).drop ((n - j) * 32)).length = 32:=by rw [List.length_drop,hrest]; omega
  have hpre:(flatD (ds.take i)++news).length = (i + (n - j)) * 32:=by rw [List.length_append,hli,hlen]; omega
  have hh2:(W1.setCells g ((i + (n - j)) * 32) (zb 32).toList).heap[g]? = some (.cells (flatD (ds.eraseIdx i)++(zb 32).toList).toArray 50 (0,0)):=by
    have h9:=xa8c g 50 (zb 32).toList (flatD (ds.take i)++news) ((flatD (ds.drop i)).drop ((n - j) * 32)) [] W1 (by rw [hpost]; rfl) (by rw [List.append_nil,List.append_assoc]; exact hh1)
    rw [hpre,List.append_nil,hnews,← xa4a] at h9
    rw [List.eraseIdx_eq_take_drop_succ,← hij]
    exact h9
  have hK2:Kept [g] w (W1.setCells g ((i + (n - j)) * 32) (zb 32).toList):=xa6q g (Or.inl (by simp)) _ _ _ hK1
  have hcl:∀ ty c,(Builtin.clear_ #[62] ty #[.slice (some ⟨g,(i + (n - j)) * 32,none⟩) 1 c]).run Tryz.prog W1 = .ok (.tuple #[]) (W1.setCells g ((i + (n - j)) * 32) (zb 32).toList):=fun ty c=>xa7r W1 ty g _ c (fun t ht=>by
    rw [cell_of_row _ _ _ _ _ _ hh1,List.getElem?_toArray,List.getElem?_eq_getElem (by rw [← List.append_assoc,List.length_append,hpre,hpost]; omega)]; rfl) (fun t ht=>frozen_of_row W1 g _ _ _ hh1)
  obtain ⟨i0,hi0,hz0,hz1,hz2⟩:=info_parts Tryz.infoD
  have hrun:=run_append_room_cells (P:=Tryz.prog) w.drew 62 62 50 i0 Tryz.underlying62 hi0 g 0 i n A (n - j) (n - j) news (by rw [hz1]; exact s1.out) hsrc.out s2.out (by omega) (fun t ht=>by rw [hz1]; exact (s3.out t ht).1) (fun t ht=>by rw [hz1]; exact (s3.out t ht).2)
  rw [hz1,← hW1] at hrun
  have HRUN:=hide hrun
  have HK1:=hide hK1
  have HH2:=hide hh2
  have HK2:=hide hK2
  have hic:i≤n:=by omega
  have hbq:((i:Int) == (j:Int)) = false:=by rw [beq_eq_false_iff_ne]; omega
  have hltj:i < j:=by omega
  have hle:i≤j:=by omega
  have HONE:=hide (show n - (i + (n - j)) = 1 by omega)
  have HLT:=hide (show i + (n - j) < n by omega)
  clear hrun hi0 s1 s2 s3 hsrc hW1 hh1 hK1 hh hnews hlen hpre hpost hrest hli hfl hfd hsz hh2 hK2 hd hz0 hz1 hz2
  have HIJ:=hide hij
  have HA:=hide hA
  have HM:=hide hm
  clear hij hA hm hn
  go_enter Tryz.func66,Tryz.ntmps66
  go_upto_region 5 with fail
  refine lp_de (by kernel_rfl) (by kernel_rfl) rfl (fun W=>Kept [g] w W) (Kept.refl _ w).drew ?_
  refine LinY.rd (.slice (some ⟨g,0,none⟩) n n) (fun W hW=>by go_simp) (by simp only [Act.put,sa1,sa2,sa3]; rfl) ?_
  refine LinY.rd (.int .i64 i) (fun W hW=>by go_simp) (by simp only [Act.put,sa1,sa2,sa3]; rfl) ?_
  refine LinY.rd (.slice (some ⟨g,0,none⟩) i n) (fun W hW=>by go_simp) (by simp only [Act.put,sa1,sa2,sa3]; rfl) ?_
  refine LinY.rd (.slice (some ⟨g,0,none⟩) n n) (fun W hW=>by go_simp) (by simp only [Act.put,sa1,sa2,sa3]; rfl) ?_
  refine LinY.rd (.int .i64 j) (fun W hW=>by go_simp) (by simp only [Act.put,sa1,sa2,sa3]; rfl) ?_
  refine LinY.rd (.slice (some A) (n - j) (n - j)) (fun W hW=>by have h9:=uh HA; go_simp) (by simp only [Act.put,sa1,sa2,sa3]; rfl) ?_
  refine LinY.fin (ChL.op (.slice (some ⟨g,0,none⟩) (i + (n - j)) n) (xb7p (.tmp 22) (.tmp 25) rfl rfl _ _ _ rfl rfl (uh HRUN)) (uh HK1) (by simp only [Act.put,sa1,sa2,sa3]; rfl) ?_)
  refine ChL.op (.slice (some ⟨g,0,none⟩) (i + (n - j)) n) (by go_simp) (uh HK1) (by simp only [Act.put,sa1,sa2,sa3]; rfl) (ChL.fin ?_)
  have hone:=uh HONE
  have hlt1:=uh HLT
  go_wp2
  go_ret
  exact ⟨rfl,uh HH2,uh HK2⟩
set_option maxHeartbeats 4000000 in
theorem xa9g (x c g n:Nat) (ds:List (List Nat)) (w:World) (hx:x < 65536) (hc:c < 16) (hh:w.heap[g]? = some (.cells (flatD ds).toArray 50 (0,0))) (hn:ds.length = n) (hd:∀ d∈ds,d.length = 32) (hm:n≤16) (hat:x.testBit c = true→cnt x c < n) :
    Calls Tryz.prog 39 #[.agg #[.int .u16 (x:Nat),.slice (some ⟨g,0,none⟩) n n],.int .i64 c] w fun e w'=>∃ zs:List Value,e = .returned (.slice (some ⟨g,0,none⟩) (wod (x,ds) c).2.length n)∧w'.heap[g]? = some (.cells (flatD (wod (x,ds) c).2++zs).toArray 50 (0,0))∧zs.length = (n - (wod (x,ds) c).2.length) * 32∧(∀ u∈zs,u.oneCell' = true)∧Kept [g] w w':=by
  have HG0:=hide (heap_alloc_new w (.cells #[.int .u16 (x:Nat),.slice (some ⟨g,0,none⟩) n n] 64))
  have HK0:=hide ((Kept.refl [] w).alloc (.cells #[.int .u16 (x:Nat),.slice (some ⟨g,0,none⟩) n n] 64))
  have HH0:=hide ((uh HK0).heap hh (by simp))
  obtain ⟨W,hW⟩:∃ W,w.alloc (.cells #[.int .u16 (x:Nat),.slice (some ⟨g,0,none⟩) n n] 64) = W:=⟨_,rfl⟩
  rw [hW] at HG0 HK0 HH0
  have c0:W.cell? ⟨w.heap.size,0,none⟩ = some (.int .u16 (x:Nat)):=cell_of_row _ _ 0 _ _ _ (uh HG0)
  have HD:=hide hd
  have hhas:=xb3d x c (by omega)
  have hrk:rankB x (c:Int) = cnt x c:=by
    unfold rankB
    rw [if_neg (by omega),if_pos (by omega),Int.toNat_natCast]
  have hwo:(wod (x,ds) c).2 = if x.testBit c = true then ds.eraseIdx (cnt x c) else ds:=rfl
  clear hd hh
  go_enter Tryz.func39,Tryz.ntmps39
  go_upto_region 1 with fail
  try rw [hW]
  clear hW
  go_wp2_with fail
  refine Calls.mono (xa7y x c W hx (by omega)) ?_
  rintro e w1 ⟨rfl,k1⟩
  have HK1:=hide k1
  have HG1:=hide (k1.heap (uh HG0) (by simp))
  have HH1:=hide (k1.heap (uh HH0) (by simp))
  have d0:w1.cell? ⟨w.heap.size,0,none⟩ = some (.int .u16 (x:Nat)):=cell_of_row _ _ 0 _ _ _ (uh HG1)
  have d1:w1.cell? ⟨w.heap.size,1,none⟩ = some (.slice (some ⟨g,0,none⟩) n n):=cell_of_row _ _ 1 _ _ _ (uh HG1)
  rw [hhas]
  clear k1 c0 hhas
  by_cases hb:x.testBit c = true
  · rw [if_pos hb] at hwo
    have hci:=hat hb
    rw [hb]
    have HWO:=hide hwo
    clear hb hat hwo
    go_wp2_with fail
    refine Calls.mono (xa4k x c w1 hx (by omega)) ?_
    rintro e w2 ⟨rfl,k2⟩
    rw [hrk]
    have HK2:=hide ((uh HK1).trans k2 (by simp))
    have HG2:=hide (k2.heap (uh HG1) (by simp))
    have HH2:=hide (k2.heap (uh HH1) (by simp))
    have e1:w2.cell? ⟨w.heap.size,1,none⟩ = some (.slice (some ⟨g,0,none⟩) n n):=cell_of_row _ _ 1 _ _ _ (uh HG2)
    clear k2 d0 d1 hrk
    generalize cnt x c = C at hci HWO ⊢
    obtain ⟨J,hJ⟩:∃ J,J = C + 1:=⟨_,rfl⟩
    have hJi:(C:Int) + 1 = (J:Int):=by omega
    have hDL:=xb9s g n C J ds w2 (uh HH2) hn hJ (by omega) (uh HD) (by omega)
    have HDL:=hide hDL
    have HL:=hide (show (ds.eraseIdx C).length = C + (n - J) by rw [List.length_eraseIdx_of_lt (by omega)]; omega)
    have HL2:=hide (show 32 = (n - (C + (n - J))) * 32 by omega)
    clear hDL hJ
    go_upto_region 4 with fail
    go_wp2_with fail
    refine Calls.mono (uh HDL) ?_
    rintro e w3 ⟨rfl,hh3,k3⟩
    have HH3:=hide hh3
    have HK3:=hide ((((uh HK0).trans (uh HK2) (by simp)).mono (M:=[g]) (by simp)).trans k3 (fun x hx=>Or.inl hx))
    clear hh3 k3 e1
    go_wp2_with fail
    go_ret
    refine ⟨(zb 32).toList,?_,?_,?_,zb_one,uh HK3⟩
    · rw [uh HWO,uh HL]; rfl
    · rw [uh HWO]; exact uh HH3
    · rw [uh HWO,uh HL]; exact uh HL2
  · rw [if_neg hb] at hwo
    have hb2:x.testBit c = false:=by simpa using hb
    rw [hb2]
    have HWO:=hide hwo
    clear hb hat hwo hb2
    go_wp2_with fail
    go_ret
    refine ⟨[],?_,?_,?_,by simp,(((uh HK0).trans (uh HK1) (by simp)).mono (M:=[g]) (by simp))⟩
    · rw [uh HWO,hn]; rfl
    · rw [uh HWO,List.append_nil]; exact uh HH1
    · rw [uh HWO,hn]; simp
theorem xc1i (g:Nat) (kv:Value) (q:List Nat) (w:World) (hku:Rd w kv q) (hq:64 < q.length) :
    Calls Tryz.prog 17 #[.pointer (some ⟨g,0,none⟩),kv] w fun e w'=>e = .returned (.tuple #[.slice none 0 0,.bool false,.int .i64 2])∧Kept [] w w':=by
  go_enter Tryz.func17,Tryz.ntmps17
  go_wp2_with fail
  refine Calls.mono (xa8p g kv q w hku hq) ?_
  rintro e w1 ⟨rfl,k1⟩
  have HZ1:=hide (heap_alloc_new w1 (.cells zwy 88))
  have HK1:=hide ((k1.alloc (.cells zwy 88)).setRow (g:=w1.heap.size) (Or.inr k1.size) zwy)
  clear k1
  go_wp2_with (rw [xa2t]; refine wpList_store_row rfl 88 (.tmp 7) (.tmp 13) rfl w1.heap.size zwy rfl rfl _ zwy (uh HZ1) (by rw [xa8j]; exact Tryz.size_way) rfl (xa1l _ _ rfl rfl) ?_; simp only [Act.put])
  go_ret3
  exact ⟨rfl,uh HK1⟩
end
end Go.Proofs.YtiopaaeejppnnaaGreatDoor
