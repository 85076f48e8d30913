import Derived.Test.YtbobbnbjnadalaaGreatDoorTopC
namespace Go.Proofs.YtbobbnbjnadalaaGreatDoor
set_option linter.unusedVariables false
set_option linter.unusedSimpArgs false
set_option maxRecDepth 100000
section
open Go.RowKit Go.BigFrame
theorem xb0k {w w1:World} {row:Option Nat} {b:Nat} {o:Obj} (h:w.grownBy w1 row) (hb:w.heap[b]? = some o) (hn:row≠some b):w1.heap[b]? = some o:=by
 have k:=(Kept.refl row.toList w).grown h (by intro x hx; left; simp [hx])
 exact k.heap hb (by intro hm; exact hn (by simpa using hm))
theorem xb6g {H:Hs} {q v:List Nat} {s:Bool × Prs} {y:List Nat × List Nat}:putS H q v s y = (s.1 || decide (kc H q y.1≤0),(if s.1 = false∧kc H q y.1≤0 then s.2++[(q,v)] else s.2)++(if kc H q y.1 = 0 then [] else [y])):=rfl
set_option maxHeartbeats 8000000 in
theorem xb1p (T:Nat→Prop) (k:Nat) (mv qv uv:Value) (q u:List Nat) (L:Prs) (w:World) (hk:1≤k∧k≤32) (hM:IAt T k w mv L) (hs:Srt (hsZ k) L) (hq:Rd w qv q) (hu:Rd w uv u) (hql:q.length≤140737488351232) (hl:L.length≤1000000000) (hT:∀ y,w.heap.size≤y→T y) :
  Calls Tryz.prog 53 #[.int .i64 k,mv,qv,uv] w fun e w'=>∃ v',e = .returned v'∧IAt T k w' v' (insP (hsZ k) q u L)∧Kept [] w w':=by
 have HM:=hide hM
 obtain ⟨ao,c,l,rfl,hc1,hc2,hll,hpr,hcell⟩:=hM.parts
 have HCE:=hide hcell
 have HPR:=hide hpr
 obtain ⟨n,hn⟩:∃ n,L.length = n:=⟨_,rfl⟩
 have HN:=hide hn
 rw [hn] at hc1 hl hll HCE ⊢
 have HSR:=hide (xb6l (hsZ k) q u L hs)
 rw [hn] at HSR
 obtain ⟨R,hR⟩:∃ R,insP (hsZ k) q u L = R:=⟨_,rfl⟩
 rw [hR] at HSR ⊢
 have HQ:=hide hq
 have HU:=hide hu
 clear hM hcell hpr hn hq hu hs hR
 go_enter Tryz.func53,Tryz.ntmps53
 go_wp2_with fail
 refine Calls.mono (xb7q k qv uv q u w hk (uh HQ) (uh HU) hql) ?_
 rintro e w1 ⟨kz,vz,rfl,hkv,hnew,k1⟩
 obtain ⟨z1,z2,z3,rfl,_⟩:=id hkv.1
 obtain ⟨y1,y2,y3,rfl,_⟩:=id hkv.2
 obtain ⟨D0,hD0⟩:∃ D0,(hsZ k).kd q = D0:=⟨_,rfl⟩
 have hD0l:D0.length = 32:=by rw [← hD0]; exact xa0e _ _
 rw [hD0]
 have HD0:=hide hD0
 have HZ1:=hide (heap_alloc_new w1 (.cells zit 116))
 have HX0:=hide (setRow_heap _ _ _ (itC D0 (.slice z1 z2 z3) (.slice y1 y2 y3)).toArray _ _ (uh HZ1))
 have HK12:=hide ((Kept.refl [] w1).alloc (.cells zit 116) |>.setRow (g:=w1.heap.size) (Or.inr (Nat.le_refl _)) (itC D0 (.slice z1 z2 z3) (.slice y1 y2 y3)).toArray)
 obtain ⟨W0,hW0⟩:∃ W0,(w1.alloc (.cells zit 116)).setRow w1.heap.size (itC D0 (.slice z1 z2 z3) (.slice y1 y2 y3)).toArray = W0:=⟨_,rfl⟩
 rw [hW0] at HX0 HK12
 have HKW:=hide (k1.trans (uh HK12) (by simp))
 have HT0:=hide (show ∀ y,W0.heap.size≤y→T y from fun y hy=>hT y (by have:=(uh HKW).size; omega))
 have HSTQ:=hide (show Sty T W0 (fun w=>Rd w (.slice z1 z2 z3) q∧Rd w (.slice y1 y2 y3) u) from fun w' a=>⟨Sty.rd (hkv.1.old (uh HK12) (by simp)) (fun x hx=>hT x (hnew x (Or.inl hx))) w' a,Sty.rd (hkv.2.old (uh HK12) (by simp)) (fun x hx=>hT x (hnew x (Or.inr hx))) w' a⟩)
 have hM0:=(uh HM).agr (Agr.nil (uh HKW))
 have HPR:=hide ((uh HPR).agr (Agr.nil (uh HKW)))
 have HCE:=hide (fun h0:0 < n=>by
  obtain ⟨b,off,e,hTb,hcl⟩:=uh HCE h0
  exact (⟨b,off,e,hTb,fun i hi u z hz=>(uh HKW).cell (hcl i hi u z hz) (by simp)⟩:∃ b off,ao = some ⟨b,off,none⟩∧T b∧∀ i,i < n→W0.rangeAt b (off + i * 34) (itC ((hsZ k).kd (L.getD i ([],[])).1) (l.getD i (undef,undef)).1 (l.getD i (undef,undef)).2)))
 clear hM0 hkv hnew k1 hD0 HM
 go_wp2_with (rw [lit_it]; refine wpList_store_row rfl 116 (.tmp 9) (.tmp 18) rfl w1.heap.size (itC D0 (.slice z1 z2 z3) (.slice y1 y2 y3)).toArray rfl rfl _ zit (uh HZ1) (by rw [xa1a hD0l]; exact Tryz.size_it) (by rw [xa1a hD0l]; rfl) (xa6m rfl rfl) ?_; rw [hW0]; simp only [Act.put])
 go_loopw [10,11,21] (fun t10 t11 t21 wr=>∃ (j:Nat) (v:Value) (lx:List VP) (sb:Bool) (sl:Prs),t21 = .int .i64 j∧t10 = v∧t11 = .bool sb∧j≤n∧Hid (putI (hsZ k) q u L j = (sb,sl))∧Hid (ILay T W0.heap.size k wr v lx sl)∧Hid (Kept [] W0 wr)) (fun _ _ t _=>n - (intOf t).toNat)
 case atStart=>exact ⟨0,.slice none 0 0,[],false,[],rfl,rfl,rfl,Nat.zero_le _,hide rfl,hide (ILay.nil _ _ _ _),hide (Kept.refl _ _)⟩
 case round =>
  obtain ⟨j,v,lx,sb,sl,rfl,rfl,rfl,hj,HPI,HLx,HKr⟩:=hrel
  have HBND:=hide (show lx.length≤2000000000 by
   have h1:=xb0v (hsZ k) q u L j (by have:=uh HN; omega)
   rw [uh HPI] at h1
   have h2:=(uh HLx).pr.1
   have h3:sl.length≤2 * j:=h1
   omega)
  have HX:=hide ((uh HKr).heap (uh HX0) (by simp))
  by_cases hlt:j < n
  ·have hlt':(j:Int) < n:=by omega
   have HPS:=hide (show putI (hsZ k) q u L (j + 1) = putS (hsZ k) q u (sb,sl) (L.getD j ([],[])) by rw [← uh HPI]; exact xa8b (hsZ k) q u L j (by have:=uh HN; omega))
   obtain ⟨b,off,rfl,hTb,hcl⟩:=uh HCE (by omega)
   have hRG:=hcl j hlt
   have hone:=(uh HPR).one' j (by omega)
   have hrd:=(uh HPR).2 j (by omega)
   generalize (l.getD j (undef,undef)).1 = kx at hRG hone hrd
   generalize (l.getD j (undef,undef)).2 = vx at hRG hone hrd
   have HSNOC:=hide (show L.take (j + 1) = L.take j++[L.getD j ([],[])] by
    have hjL:j < L.length:=by have:=uh HN; omega
    rw [List.take_succ_eq_append_getElem hjL,List.getD_eq_getElem?_getD,List.getElem?_eq_getElem hjL]; rfl)
   generalize L.getD j ([],[]) = ej at hRG hrd HSNOC HPS
   obtain ⟨ka,va⟩:=ej
   have hDg:Dg ((hsZ k).kd ka):=xa2v _ _
   obtain ⟨D,hD⟩:∃ D,(hsZ k).kd ka = D:=⟨_,rfl⟩
   simp only [hD] at hRG
   rw [hD] at hDg
   have HD:=hide hD
   have HSTY:=hide hrd
   have HRG:=hide (show wr.rangeAt b (off + j * 34) (itC D kx vx) from fun u z hz=>(uh HKr).cell (hRG u z hz) (by simp))
   have HZ1:=hide (heap_alloc_new wr (.cells zit 116))
   have HN2:=hide (setRow_heap _ _ _ (itC D kx vx).toArray _ _ (uh HZ1))
   have HK12:=hide ((Kept.refl [] wr).alloc (.cells zit 116) |>.setRow (g:=wr.heap.size) (Or.inr (Nat.le_refl _)) (itC D kx vx).toArray)
   obtain ⟨W2,hW2⟩:∃ W2,(wr.alloc (.cells zit 116)).setRow wr.heap.size (itC D kx vx).toArray = W2:=⟨_,rfl⟩
   rw [hW2] at HN2 HK12
   have HK2:=hide ((uh HKr).trans (uh HK12) (by simp))
   have hwsz:W0.heap.size≤wr.heap.size:=by have:=(uh HKr).size; omega
   obtain ⟨rD2,cK2,cV2⟩:=it_row (uh HN2) hDg.1
   have HRD2:=hide rD2
   have HCK2:=hide cK2
   have HCV2:=hide cV2
   have HPA2:=hide (xb2q (uh HN2) hDg.1)
   obtain ⟨kx1,kx2,kx3,rfl,_⟩:=hrd.now.1
   obtain ⟨vx1,vx2,vx3,rfl,_⟩:=hrd.now.2
   clear hrd hRG hcl rD2 hD hDg hone
   have HX2:=hide ((uh HK12).heap (uh HX) (by simp))
   go_wp2_with (first
    | (refine wpList_load_row rfl 116 (.tmp 9) rfl w1.heap.size rfl 116 (itC D0 (.slice z1 z2 z3) (.slice y1 y2 y3)).toArray (0,0) _ (uh HX2) Tryz.underlying116 rfl (by rw [xa1a hD0l]; exact Tryz.size_it) ?_)
    | (refine wpList_load_row rfl 116 (.tmp 13) rfl wr.heap.size rfl 116 (itC D (.slice kx1 kx2 kx3) (.slice vx1 vx2 vx3)).toArray (0,0) _ (uh HN2) Tryz.underlying116 rfl (by rw [xa1a (by rw [← uh HD]; exact xa0e _ _)]; exact Tryz.size_it) ?_)
    | (first
   | (refine wpList_load_mid rfl 116 (.tmp 23) rfl b (off + j * 34) rfl (itC D (.slice kx1 kx2 kx3) (.slice vx1 vx2 vx3)) _ (uh HRG) Tryz.underlying116 rfl (by rw [xa2c (by rw [← uh HD]; exact xa0e _ _)]; exact Tryz.size_it) ?_)
   | (rw [lit_it]; refine wpList_store_row rfl 116 (.tmp 13) (.tmp 24) rfl wr.heap.size (itC D (.slice kx1 kx2 kx3) (.slice vx1 vx2 vx3)).toArray rfl rfl _ zit (uh HZ1) (by rw [xa1a (by rw [← uh HD]; exact xa0e _ _)]; exact Tryz.size_it) (by rw [xa1a (by rw [← uh HD]; exact xa0e _ _)]; rfl) (xa6m rfl rfl) ?_; rw [hW2]; simp only [Act.put])))
   have hoc:=xb2e k (.slice z1 z2 z3) (.slice y1 y2 y3) (.slice kx1 kx2 kx3) (.slice vx1 vx2 vx3) q ka u va W2 (uh HSTQ W2 (Agr.nil (uh HK2))).1 (uh HSTY W2 (Agr.nil (uh HK2))).1 (uh HSTQ W2 (Agr.nil (uh HK2))).2 (uh HSTY W2 (Agr.nil (uh HK2))).2
   rw [uh HD,uh HD0] at hoc
   refine Calls.mono hoc ?_
   clear hoc
   rintro e w4 ⟨rfl,k4⟩
   have HN4:=hide (k4.heap (uh HN2) (by simp))
   have HX4:=hide (k4.heap (uh HX2) (by simp))
   have HK4:=hide ((uh HK2).trans k4 (by simp))
   have HL4:=hide (((uh HLx).agr (uh HK12)).agr k4)
   have hsg:=xb6n (hsZ k) q ka
   rw [xb6g] at HPS
   generalize ordI (hsZ k) q ka = z at hsg ⊢
   have hle:kc (hsZ k) q ka≤0↔z≤0:=by
    constructor
    ·intro h
     rcases Int.lt_or_eq_of_le h with g | g
     ·have:=hsg.1.2 g; omega
     ·have:=hsg.2.2 g; omega
    ·intro h
     rcases Int.lt_or_eq_of_le h with g | g
     ·have:=hsg.1.1 g; omega
     ·have:=hsg.2.1 g; omega
   have heq:kc (hsZ k) q ka = 0↔z = 0:=hsg.2.symm
   have HLE:=hide hle
   have HEQ:=hide heq
   clear k4 hsg hle heq
   cases sb with
   | true =>
    by_cases hz0:z = 0
    ·have HC:=hide ((uh HEQ).2 hz0)
     subst hz0
     go_wp2_with fail
     refine ⟨⟨j + 1,_,lx,true,sl,by go_num,rfl,rfl,hlt,hide (by rw [uh HPS]; simp [uh HC]),HL4,HK4⟩,?_⟩
     simp [intOf]; omega
    ·have HC:=hide (show ¬ kc (hsZ k) q ka = 0 from fun h=>hz0 ((uh HEQ).1 h))
     have hz2:((z != 0):Bool) = true:=by rw [bne_iff_ne]; exact hz0
     obtain ⟨vo,vc,rfl⟩:=xa0n (uh HL4).own
     have hown:∀ z,(Value.slice vo lx.length vc).ownBlock = some z→W0.heap.size≤z:=fun z hz=>((uh HL4).own.lt z hz).1
     have HW5:=hide (heap_alloc_new w4 (.cells (itC D (.slice kx1 kx2 kx3) (.slice vx1 vx2 vx3)).toArray 116))
     have HK45:=hide ((Kept.refl [] w4).alloc (.cells (itC D (.slice kx1 kx2 kx3) (.slice vx1 vx2 vx3)).toArray 116))
     have HL5:=hide ((uh HL4).agr (uh HK45))
     have HK5:=hide ((uh HK4).trans (uh HK45) (by simp))
     have HRL:=hide (lit_rd (k:=k) (q:=ka) (v:=va) (kv:=(.slice kx1 kx2 kx3)) (vv:=(.slice vx1 vx2 vx3)) (by rw [uh HD]; exact uh HW5))
     have hln:=(uh HL4).pr.1
     have hbnd:=uh HBND
     clear hln hz0
     go_wp2_with (first
   | (refine wpList_load_row rfl 116 (.tmp 13) rfl wr.heap.size rfl 116 (itC D (.slice kx1 kx2 kx3) (.slice vx1 vx2 vx3)).toArray (0,0) _ (uh HN4) Tryz.underlying116 rfl (by rw [xa1a (by rw [← uh HD]; exact xa0e _ _)]; exact Tryz.size_it) ?_)
   | (refine xa1d rfl (.tmp 41) rfl (itC D (.slice kx1 kx2 kx3) (.slice vx1 vx2 vx3)) (xa2c (by rw [← uh HD]; exact xa0e _ _) _ _) rfl ?_)
   | (at_builtin; refine xa0k rfl 54 116 (.tmp 40) (.tmp 42) rfl rfl _ W0.heap.size (.agg zit) 34 80 Tryz.underlying54 Tryz.infoIt rfl (by decide) (.slice vo lx.length vc) lx.length (itR k lx (sl)).flatten (uh HL5).own (some ⟨w4.heap.size,0,none⟩) 1 1 (itR k [((.slice kx1 kx2 kx3),(.slice vx1 vx2 vx3))] [(ka,va)]) (uh HRL) xa2l (xa4b rfl rfl) (by omega) (by omega) (uh HK5).size rfl rfl ?_; intro ao7 c7 w7 HO7 HG7 HA7))
     have HS7:=hide ((uh HL5).snoc (a:=ka) (b:=va) (sty_up (uh HSTY) (uh HK5) hown) (uh HO7) (uh HG7) (uh HA7))
     have HK7:=hide ((uh HK5).grown (uh HG7) (fun z hz=>Or.inr (hown z hz)))
     clear hown hbnd
     refine ⟨⟨j + 1,.slice ao7 (lx.length + 1) c7,_,true,sl++[(ka,va)],by go_num,rfl,rfl,hlt,hide (by rw [uh HPS]; simp [uh HC]),HS7,HK7⟩,?_⟩
     simp [intOf]; omega
   | false =>
    by_cases hz0:z = 0
    ·have HC:=hide ((uh HEQ).2 hz0)
     subst hz0
     obtain ⟨vo,vc,rfl⟩:=xa0n (uh HL4).own
     have hown:∀ z,(Value.slice vo lx.length vc).ownBlock = some z→W0.heap.size≤z:=fun z hz=>((uh HL4).own.lt z hz).1
     have HW5:=hide (heap_alloc_new w4 (.cells (itC D0 (.slice z1 z2 z3) (.slice y1 y2 y3)).toArray 116))
     have HK45:=hide ((Kept.refl [] w4).alloc (.cells (itC D0 (.slice z1 z2 z3) (.slice y1 y2 y3)).toArray 116))
     have HL5:=hide ((uh HL4).agr (uh HK45))
     have HK5:=hide ((uh HK4).trans (uh HK45) (by simp))
     have HRL:=hide (lit_rd (k:=k) (q:=q) (v:=u) (kv:=(.slice z1 z2 z3)) (vv:=(.slice y1 y2 y3)) (by rw [uh HD0]; exact uh HW5))
     have hln:=(uh HL4).pr.1
     have hbnd:=uh HBND
     clear hln
     go_wp2_with (first
   | (refine wpList_load_row rfl 116 (.tmp 9) rfl w1.heap.size rfl 116 (itC D0 (.slice z1 z2 z3) (.slice y1 y2 y3)).toArray (0,0) _ (uh HX4) Tryz.underlying116 rfl (by rw [xa1a (by rw [← uh HD0]; exact xa0e _ _)]; exact Tryz.size_it) ?_)
   | (refine xa1d rfl (.tmp 35) rfl (itC D0 (.slice z1 z2 z3) (.slice y1 y2 y3)) (xa2c (by rw [← uh HD0]; exact xa0e _ _) _ _) rfl ?_)
   | (at_builtin; refine xa0k rfl 54 116 (.tmp 34) (.tmp 36) rfl rfl _ W0.heap.size (.agg zit) 34 80 Tryz.underlying54 Tryz.infoIt rfl (by decide) (.slice vo lx.length vc) lx.length (itR k lx (sl)).flatten (uh HL5).own (some ⟨w4.heap.size,0,none⟩) 1 1 (itR k [((.slice z1 z2 z3),(.slice y1 y2 y3))] [(q,u)]) (uh HRL) xa2l (xa4b rfl rfl) (by omega) (by omega) (uh HK5).size rfl rfl ?_; intro ao7 c7 w7 HO7 HG7 HA7))
     have HS7:=hide ((uh HL5).snoc (a:=q) (b:=u) (sty_up (uh HSTQ) (uh HK5) hown) (uh HO7) (uh HG7) (uh HA7))
     have HK7:=hide ((uh HK5).grown (uh HG7) (fun z hz=>Or.inr (hown z hz)))
     clear hown hbnd
     refine ⟨⟨j + 1,.slice ao7 (lx.length + 1) c7,_,true,sl++[(q,u)],by go_num,rfl,rfl,hlt,hide (by rw [uh HPS]; simp [uh HC]),HS7,HK7⟩,?_⟩
     simp [intOf]; omega
    ·have HC:=hide (show ¬ kc (hsZ k) q ka = 0 from fun h=>hz0 ((uh HEQ).1 h))
     have hz2:((z != 0):Bool) = true:=by rw [bne_iff_ne]; exact hz0
     by_cases hz1:z≤0
     ·have HC2:=hide ((uh HLE).2 hz1)
      obtain ⟨vo,vc,rfl⟩:=xa0n (uh HL4).own
      have hown:∀ z,(Value.slice vo lx.length vc).ownBlock = some z→W0.heap.size≤z:=fun z hz=>((uh HL4).own.lt z hz).1
      have HW5:=hide (heap_alloc_new w4 (.cells (itC D0 (.slice z1 z2 z3) (.slice y1 y2 y3)).toArray 116))
      have HK45:=hide ((Kept.refl [] w4).alloc (.cells (itC D0 (.slice z1 z2 z3) (.slice y1 y2 y3)).toArray 116))
      have HL5:=hide ((uh HL4).agr (uh HK45))
      have HK5:=hide ((uh HK4).trans (uh HK45) (by simp))
      have HRL:=hide (lit_rd (k:=k) (q:=q) (v:=u) (kv:=(.slice z1 z2 z3)) (vv:=(.slice y1 y2 y3)) (by rw [uh HD0]; exact uh HW5))
      have hln:=(uh HL4).pr.1
      have hbnd:=uh HBND
      have HLT:=hide (fun z hz=>((uh HLx).own.lt z hz).2)
      clear hln hz0
      go_upto_region 12 with (first
   | (refine wpList_load_row rfl 116 (.tmp 9) rfl w1.heap.size rfl 116 (itC D0 (.slice z1 z2 z3) (.slice y1 y2 y3)).toArray (0,0) _ (uh HX4) Tryz.underlying116 rfl (by rw [xa1a (by rw [← uh HD0]; exact xa0e _ _)]; exact Tryz.size_it) ?_)
   | (refine xa1d rfl (.tmp 35) rfl (itC D0 (.slice z1 z2 z3) (.slice y1 y2 y3)) (xa2c (by rw [← uh HD0]; exact xa0e _ _) _ _) rfl ?_)
   | (at_builtin; refine xa0k rfl 54 116 (.tmp 34) (.tmp 36) rfl rfl _ W0.heap.size (.agg zit) 34 80 Tryz.underlying54 Tryz.infoIt rfl (by decide) (.slice vo lx.length vc) lx.length (itR k lx (sl)).flatten (uh HL5).own (some ⟨w4.heap.size,0,none⟩) 1 1 (itR k [((.slice z1 z2 z3),(.slice y1 y2 y3))] [(q,u)]) (uh HRL) xa2l (xa4b rfl rfl) (by omega) (by omega) (uh HK5).size rfl rfl ?_; intro ao7 c7 w7 HO7 HG7 HA7))
      have HS7:=hide ((uh HL5).snoc (a:=q) (b:=u) (sty_up (uh HSTQ) (uh HK5) hown) (uh HO7) (uh HG7) (uh HA7))
      have HK7:=hide ((uh HK5).grown (uh HG7) (fun z hz=>Or.inr (hown z hz)))
      have HN7:=hide (xb0k (uh HG7) ((uh HK45).heap (uh HN4) (by simp)) (fun e=>by have h1:=uh HLT _ e; omega))
      have hlen2:lx.length + 1 = (lx++[(((.slice z1 z2 z3):Value),((.slice y1 y2 y3):Value))]).length:=by simp
      rw [hlen2] at HS7 ⊢
      have HBN2:=hide (show (lx++[(((.slice z1 z2 z3):Value),((.slice y1 y2 y3):Value))]).length≤2000000001 by rw [← hlen2]; omega)
      clear hown hlen2 HLT hbnd HO7 HG7 HA7 HL5 HK5 HRL HW5 HK45
      generalize lx++[(((.slice z1 z2 z3):Value),((.slice y1 y2 y3):Value))] = lx2 at HS7 HBN2 ⊢
      have hown:∀ z,(Value.slice ao7 lx2.length c7).ownBlock = some z→W0.heap.size≤z:=fun z hz=>((uh HS7).own.lt z hz).1
      have HW5:=hide (heap_alloc_new w7 (.cells (itC D (.slice kx1 kx2 kx3) (.slice vx1 vx2 vx3)).toArray 116))
      have HK45:=hide ((Kept.refl [] w7).alloc (.cells (itC D (.slice kx1 kx2 kx3) (.slice vx1 vx2 vx3)).toArray 116))
      have HL5:=hide ((uh HS7).agr (uh HK45))
      have HK5:=hide ((uh HK7).trans (uh HK45) (by simp))
      have HRL:=hide (lit_rd (k:=k) (q:=ka) (v:=va) (kv:=(.slice kx1 kx2 kx3)) (vv:=(.slice vx1 vx2 vx3)) (by rw [uh HD]; exact uh HW5))
      have hln:=(uh HS7).pr.1
      have hbnd:=uh HBN2
      clear hln
      go_wp2_with (first
   | (refine wpList_load_row rfl 116 (.tmp 13) rfl wr.heap.size rfl 116 (itC D (.slice kx1 kx2 kx3) (.slice vx1 vx2 vx3)).toArray (0,0) _ (uh HN7) Tryz.underlying116 rfl (by rw [xa1a (by rw [← uh HD]; exact xa0e _ _)]; exact Tryz.size_it) ?_)
   | (refine xa1d rfl (.tmp 41) rfl (itC D (.slice kx1 kx2 kx3) (.slice vx1 vx2 vx3)) (xa2c (by rw [← uh HD]; exact xa0e _ _) _ _) rfl ?_)
   | (at_builtin; refine xa0k rfl 54 116 (.tmp 40) (.tmp 42) rfl rfl _ W0.heap.size (.agg zit) 34 80 Tryz.underlying54 Tryz.infoIt rfl (by decide) (.slice ao7 lx2.length c7) lx2.length (itR k lx2 (sl++[(q,u)])).flatten (uh HL5).own (some ⟨w7.heap.size,0,none⟩) 1 1 (itR k [((.slice kx1 kx2 kx3),(.slice vx1 vx2 vx3))] [(ka,va)]) (uh HRL) xa2l (xa4b rfl rfl) (by omega) (by omega) (uh HK5).size rfl rfl ?_; intro ao8 c8 w8 HO8 HG8 HA8))
      have HS8:=hide ((uh HL5).snoc (a:=ka) (b:=va) (sty_up (uh HSTY) (uh HK5) hown) (uh HO8) (uh HG8) (uh HA8))
      have HK8:=hide ((uh HK5).grown (uh HG8) (fun z hz=>Or.inr (hown z hz)))
      clear hown hbnd
      refine ⟨⟨j + 1,.slice ao8 (lx2.length + 1) c8,_,true,sl++[(q,u)]++[(ka,va)],by go_num,rfl,rfl,hlt,hide (by rw [uh HPS]; simp [uh HC,uh HC2]),HS8,HK8⟩,?_⟩
      simp [intOf]; omega
     ·have HC2:=hide (show ¬ kc (hsZ k) q ka≤0 from fun h=>hz1 ((uh HLE).1 h))
      obtain ⟨vo,vc,rfl⟩:=xa0n (uh HL4).own
      have hown:∀ z,(Value.slice vo lx.length vc).ownBlock = some z→W0.heap.size≤z:=fun z hz=>((uh HL4).own.lt z hz).1
      have HW5:=hide (heap_alloc_new w4 (.cells (itC D (.slice kx1 kx2 kx3) (.slice vx1 vx2 vx3)).toArray 116))
      have HK45:=hide ((Kept.refl [] w4).alloc (.cells (itC D (.slice kx1 kx2 kx3) (.slice vx1 vx2 vx3)).toArray 116))
      have HL5:=hide ((uh HL4).agr (uh HK45))
      have HK5:=hide ((uh HK4).trans (uh HK45) (by simp))
      have HRL:=hide (lit_rd (k:=k) (q:=ka) (v:=va) (kv:=(.slice kx1 kx2 kx3)) (vv:=(.slice vx1 vx2 vx3)) (by rw [uh HD]; exact uh HW5))
      have hln:=(uh HL4).pr.1
      have hbnd:=uh HBND
      clear hln hz0
      go_wp2_with (first
   | (refine wpList_load_row rfl 116 (.tmp 13) rfl wr.heap.size rfl 116 (itC D (.slice kx1 kx2 kx3) (.slice vx1 vx2 vx3)).toArray (0,0) _ (uh HN4) Tryz.underlying116 rfl (by rw [xa1a (by rw [← uh HD]; exact xa0e _ _)]; exact Tryz.size_it) ?_)
   | (refine xa1d rfl (.tmp 41) rfl (itC D (.slice kx1 kx2 kx3) (.slice vx1 vx2 vx3)) (xa2c (by rw [← uh HD]; exact xa0e _ _) _ _) rfl ?_)
   | (at_builtin; refine xa0k rfl 54 116 (.tmp 40) (.tmp 42) rfl rfl _ W0.heap.size (.agg zit) 34 80 Tryz.underlying54 Tryz.infoIt rfl (by decide) (.slice vo lx.length vc) lx.length (itR k lx (sl)).flatten (uh HL5).own (some ⟨w4.heap.size,0,none⟩) 1 1 (itR k [((.slice kx1 kx2 kx3),(.slice vx1 vx2 vx3))] [(ka,va)]) (uh HRL) xa2l (xa4b rfl rfl) (by omega) (by omega) (uh HK5).size rfl rfl ?_; intro ao7 c7 w7 HO7 HG7 HA7))
      have HS7:=hide ((uh HL5).snoc (a:=ka) (b:=va) (sty_up (uh HSTY) (uh HK5) hown) (uh HO7) (uh HG7) (uh HA7))
      have HK7:=hide ((uh HK5).grown (uh HG7) (fun z hz=>Or.inr (hown z hz)))
      clear hown hbnd
      refine ⟨⟨j + 1,.slice ao7 (lx.length + 1) c7,_,false,sl++[(ka,va)],by go_num,rfl,rfl,hlt,hide (by rw [uh HPS]; simp [uh HC,uh HC2]),HS7,HK7⟩,?_⟩
      simp [intOf]; omega
  ·have hje:j = n:=by omega
   subst hje
   have hlt':¬ (j:Int) < j:=by omega
   have HAL:=hide (show putF q u (sb,sl) = R by rw [← uh HPI]; exact uh HSR)
   cases sb with
   | true =>
    go_wp2
    go_ret
    have h9:=(uh HLx).at_ (uh HT0)
    have h8:sl = R:=uh HAL
    rw [h8] at h9
    exact ⟨_,rfl,h9,(uh HKW).trans (uh HKr) (by simp)⟩
   | false =>
    have HLw:=HLx
    have HKw:=HKr
    obtain ⟨vo,vc,rfl⟩:=xa0n (uh HLw).own
    have hown:∀ z,(Value.slice vo lx.length vc).ownBlock = some z→W0.heap.size≤z:=fun z hz=>((uh HLw).own.lt z hz).1
    have HW5:=hide (heap_alloc_new wr (.cells (itC D0 (.slice z1 z2 z3) (.slice y1 y2 y3)).toArray 116))
    have HK45:=hide ((Kept.refl [] wr).alloc (.cells (itC D0 (.slice z1 z2 z3) (.slice y1 y2 y3)).toArray 116))
    have HL5:=hide ((uh HLw).agr (uh HK45))
    have HK5:=hide ((uh HKw).trans (uh HK45) (by simp))
    have HRL:=hide (lit_rd (k:=k) (q:=q) (v:=u) (kv:=(.slice z1 z2 z3)) (vv:=(.slice y1 y2 y3)) (by rw [uh HD0]; exact uh HW5))
    have hln:=(uh HLw).pr.1
    have hbnd:lx.length≤2000000000:=uh HBND
    clear hln
    go_wp2_with (first
   | (refine wpList_load_row rfl 116 (.tmp 9) rfl w1.heap.size rfl 116 (itC D0 (.slice z1 z2 z3) (.slice y1 y2 y3)).toArray (0,0) _ (uh HX) Tryz.underlying116 rfl (by rw [xa1a (by rw [← uh HD0]; exact xa0e _ _)]; exact Tryz.size_it) ?_)
   | (refine xa1d rfl (.tmp 48) rfl (itC D0 (.slice z1 z2 z3) (.slice y1 y2 y3)) (xa2c (by rw [← uh HD0]; exact xa0e _ _) _ _) rfl ?_)
   | (at_builtin; refine xa0k rfl 54 116 (.tmp 47) (.tmp 49) rfl rfl _ W0.heap.size (.agg zit) 34 80 Tryz.underlying54 Tryz.infoIt rfl (by decide) (.slice vo lx.length vc) lx.length (itR k lx (sl)).flatten (uh HL5).own (some ⟨wr.heap.size,0,none⟩) 1 1 (itR k [((.slice z1 z2 z3),(.slice y1 y2 y3))] [(q,u)]) (uh HRL) xa2l (xa4b rfl rfl) (by omega) (by omega) (uh HK5).size rfl rfl ?_; intro ao7 c7 w7 HO7 HG7 HA7))
    have HS7:=hide ((uh HL5).snoc (a:=q) (b:=u) (sty_up (uh HSTQ) (uh HK5) hown) (uh HO7) (uh HG7) (uh HA7))
    have HK7:=hide ((uh HK5).grown (uh HG7) (fun z hz=>Or.inr (hown z hz)))
    go_ret
    have h9:=(uh HS7).at_ (uh HT0)
    have h8:sl++[(q,u)] = R:=uh HAL
    rw [h8] at h9
    exact ⟨_,rfl,h9,(uh HKW).trans (uh HK7) (by simp)⟩
end
theorem xb0q {H:Hs} {k v:List Nat} {L:Prs} (h:Srt H L) (q:List Nat):getP q (insP H k v L) = if q = k then some v else getP q L:=by
 by_cases e:q = k
 ·subst e
  rw [if_pos rfl,xa6b (h.ins q v)]
  exact (xa2g h _).2 (Or.inl rfl)
 ·rw [if_neg e]
  cases hg:getP q L with
  | none =>
   rw [xa2w] at hg ⊢
   intro y hy e2
   rcases (xa2g h y).1 hy with rfl | ⟨hm,_⟩
   ·exact e e2.symm
   ·exact hg y hm e2
  | some u =>
   rw [xa6b h] at hg
   rw [xa6b (h.ins k v)]
   exact (xa2g h _).2 (Or.inr ⟨hg,e⟩)
def insAll (H:Hs) (L:Prs) (ps:Prs):Prs:=ps.foldl (fun M p=>insP H p.1 p.2 M) L
theorem Srt.insAll {H:Hs}:∀ (ps:Prs) {L:Prs},Srt H L→Srt H (insAll H L ps)
 | [],_,h=>h
 | p :: ps,_,h=>Srt.insAll ps (h.ins p.1 p.2)
theorem xa9n (H:Hs) (L ps:Prs) (p:List Nat × List Nat):insAll H L (ps++[p]) = insP H p.1 p.2 (insAll H L ps):=by
 unfold insAll; rw [List.foldl_append]; rfl
theorem xa6j (H:Hs):Srt H []:=List.Pairwise.nil
def lv (q:List Nat):Prs→Option (List Nat)
 | []=>none
 | p :: ps=>(lv q ps).or (if p.1 = q then some p.2 else none)
section
open Go.RowKit Go.BigFrame
theorem ins_le (H:Hs) (q v:List Nat):∀ L:Prs,(insP H q v L).length≤L.length + 1
 | []=>by simp [insP]
 | y :: L=>by
  have ih:=ins_le H q v L
  rw [xa2f]
  split
  ·simp
  ·split
   ·simp
   ·simp only [List.length_cons]; omega
theorem xa8p (H:Hs):∀ (ps L:Prs),(insAll H L ps).length≤L.length + ps.length
 | [],L=>by simp [insAll]
 | p :: ps,L=>by
  have h1:=xa8p H ps (insP H p.1 p.2 L)
  have h2:=ins_le H p.1 p.2 L
  show (insAll H (insP H p.1 p.2 L) ps).length≤_
  rw [List.length_cons]; omega
theorem xb3b (H:Hs) (ps:Prs) (j:Nat) (hj:j < ps.length):insAll H [] (ps.take (j + 1)) = insP H (ps.getD j ([],[])).1 (ps.getD j ([],[])).2 (insAll H [] (ps.take j)):=by
 rw [List.take_succ_eq_append_getElem hj,xa9n,List.getD_eq_getElem?_getD,List.getElem?_eq_getElem hj]; rfl
set_option maxHeartbeats 4000000 in
theorem xb3f (T:Nat→Prop) (k:Nat) (pv:Value) (ps:Prs) (w:World) (hk:1≤k∧k≤32) (hP:RdK w pv ps) (hf:∀ p∈ps,p.1.length≤1000000000) (hl:ps.length≤1000000000) (hT:∀ y,w.heap.size≤y→T y) :
  Calls Tryz.prog 25 #[.int .i64 k,pv] w fun e w'=>∃ v',e = .returned v'∧IAt T k w' v' (insAll (hsZ k) [] ps)∧Kept [] w w':=by
 obtain ⟨ao,n,c,ks,vs,rfl,hn,hc1,hc2,hrd,hcell⟩:=hP
 have HN:=hide hn
 rw [hn] at hl
 have HRD:=hide hrd
 have HCE:=hide hcell
 have HF:=hide hf
 clear hn hrd hcell hf
 go_enter Tryz.func25,Tryz.ntmps25
 go_wp2
 go_loopw [5,10] (fun t5 t10 wr=>∃ (j:Nat) (v:Value),t10 = .int .i64 j∧t5 = v∧j≤n∧Hid (IAt T k wr v (insAll (hsZ k) [] (ps.take j)))∧Hid (Kept [] w wr)) (fun _ t _=>n - (intOf t).toNat)
 case atStart=>exact ⟨0,.slice none 0 0,rfl,rfl,Nat.zero_le _,hide (IAt.nil _ _ _),hide (Kept.refl _ _)⟩
 case round =>
  obtain ⟨j,v,rfl,rfl,hj,HIx,HKr⟩:=hrel
  by_cases hlt:j < n
  ·have hlt':(j:Int) < n:=by omega
   have hjL:j < ps.length:=by have:=uh HN; omega
   obtain ⟨b,off,rfl,hcl⟩:=uh HCE (by omega)
   obtain ⟨hx1,hx2⟩:=hcl j hlt
   obtain ⟨hr1,hr2⟩:=uh HRD j hlt
   have HTK:=hide (xb3b (hsZ k) ps j hjL)
   have hq:=uh HF (ps.getD j ([],[])) (by rw [List.getD_eq_getElem?_getD,List.getElem?_eq_getElem hjL]; exact List.getElem_mem hjL)
   generalize ks.getD j undef = kx at hx1 hr1
   generalize vs.getD j undef = vx at hx2 hr2
   generalize ps.getD j ([],[]) = ej at hr1 hr2 HTK hq
   obtain ⟨ka,va⟩:=ej
   have HR1:=hide hr1
   have HR2:=hide hr2
   obtain ⟨x1,x2,x3,rfl,_⟩:=id hr1
   obtain ⟨y1,y2,y3,rfl,_⟩:=id hr2
   have hm1:=(uh HKr).cell hx1 (by simp)
   have hm2:=(uh HKr).cell hx2 (by simp)
   have HRG:=hide (show wr.rangeAt b (off + j * 2) [.slice x1 x2 x3,.slice y1 y2 y3] from fun i u hi=>by
    match i,hi with
    | 0,hi=>rw [Nat.add_zero,hm1]; exact hi
    | 1,hi=>rw [hm2]; exact hi)
   have HP2:=hide (heap_alloc_new wr (.cells #[.slice x1 x2 x3,.slice y1 y2 y3] 46))
   have HK2:=hide ((Kept.refl [] wr).alloc (.cells #[.slice x1 x2 x3,.slice y1 y2 y3] 46))
   clear hx1 hx2 hr1 hr2 hm1 hm2 hcl
   go_upto_region 5 with (refine wpList_load_mid rfl 46 (.tmp 12) rfl b (off + j * 2) rfl [.slice x1 x2 x3,.slice y1 y2 y3] _ (uh HRG) Tryz.underlying46 rfl Tryz.size_pair ?_)
   try simp only [Act.put]
   generalize wr.alloc (.cells #[.slice x1 x2 x3,.slice y1 y2 y3] 46) = W2 at HP2 HK2 ⊢
   have hcp:=xa0o [] [.slice x1 x2 x3,.slice y1 y2 y3] [] (uh HP2) rfl
   have hQ1:=(show W2.cell? ⟨wr.heap.size,0,none⟩ = some (.slice x1 x2 x3) from hcp 0 _ rfl)
   have hQ2:=(show W2.cell? ⟨wr.heap.size,1,none⟩ = some (.slice y1 y2 y3) from hcp 1 _ rfl)
   have HK02:=hide ((uh HKr).trans (uh HK2) (by simp))
   have hlen:(insAll (hsZ k) [] (ps.take j)).length≤1000000000:=by
    have h1:=xa8p (hsZ k) (ps.take j) []
    rw [List.length_take] at h1; simp at h1; omega
   have HLN:=hide hlen
   clear hcp hlen
   go_wp2_with fail
   refine Calls.mono (xb1p T k _ _ _ ka va _ W2 hk ((uh HIx).agr (Agr.nil (uh HK2))) ((xa6j _).insAll _) ((uh HR1).old (uh HK02) (by simp)) ((uh HR2).old (uh HK02) (by simp)) (Nat.le_trans hq (by omega)) (uh HLN) (fun y hy=>hT y (by have:=(uh HK02).size; omega))) ?_
   rintro e w4 ⟨v4,rfl,hi4,k4⟩
   have HI4:=hide hi4
   have HK4:=hide ((uh HK02).trans k4 (by simp))
   clear hi4 k4 hQ1 hQ2
   go_wp2_with fail
   refine ⟨⟨j + 1,v4,by go_num,rfl,hlt,hide (by rw [uh HTK]; exact uh HI4),HK4⟩,?_⟩
   simp [intOf]; omega
  ·have hje:j = n:=by omega
   subst hje
   have hlt':¬ (j:Int) < j:=by omega
   go_wp2
   go_ret
   have h9:=uh HIx
   rw [List.take_of_length_le (by have:=uh HN; omega)] at h9
   exact ⟨_,rfl,h9,uh HKr⟩
end
section
open Go Go.RowKit Go.BigFrame

end
section
open Go.RowKit Go.BigFrame
theorem xa9h {ops:Array Oper} {rest:List Oper} {o:Oper} {a:Act} {w:World} {Q:Exit→Act→World→Prop} (hw:Region.wanted o (yielded ops a.tmps) = true) (x y:Operand) (r:TypeId) (ho:o.op = .binOp .eql 30 x y r) (d e:List Nat) (hd:d.length = 32) (he:e.length = 32) (hx:a.eval x = .agg (brow d)) (hy:a.eval y = .agg (brow e))
  (h:wpList Tryz.prog ops Q rest (a.put o.dst (.bool (decide (d = e)))) w):wpList Tryz.prog ops Q (o :: rest) a w :=
 wpList_want hw fun _ hK=>by
  unfold Oper.wp
  rw [xa6p 30 x y r ho (brow d) (brow e) hx hy w _ (by kernel_rfl) (dig_eq w d e hd he)]
  exact hK _ _ h
theorem xa3b (k:Nat) (hk:1≤k∧k≤32) (L:Prs):(rootP k L).length = 32:=by
 unfold rootP
 split
 ·exact xa0w k (hash [5]) (by omega) (xa1f [5])
 ·exact (nod_dg k 64 L).1
theorem MapAt.form {S:Nat→Prop} {k:Nat} {W:World} {v:Value} {L:Prs} (h:MapAt S k W v L):∃ g,v = .pointer (some ⟨g,0,none⟩):=by
 obtain ⟨g,tv,e,_⟩:=h.at_
 exact ⟨g,e⟩


theorem xa8l {w:World} {g:Nat} (bs:List Nat) {cs:Array Value} {fr:Nat × Nat} (h:w.heap[g]? = some (.cells cs 5 fr)) (hc:cs = (bs.map u8).toArray) (hb:∀ x∈bs,x < 256) (n:Nat) (hn:bs.length = n) (hl:n≤140737488355328):Rd w (.slice (some ⟨g,0,none⟩) n n) bs:=by
 refine ⟨_,n,n,rfl,hn,Nat.le_refl _,⟨by omega,hl⟩,fun h=>by simp at h,hb,fun hp=>⟨g,0,rfl,fun i hi=>?_⟩⟩
 subst hc
 have hi':i < bs.length:=by omega
 rw [cell_of_row _ _ _ _ _ _ h,Nat.zero_add,List.getElem?_toArray,List.getElem?_map,List.getD_eq_getElem?_getD,List.getElem?_eq_getElem hi']
 rfl
abbrev bt (x:Int):Obj:=.cells #[.int .u8 x] 5 (1,2)
theorem bt_rd (w:World) (x:Nat) (hx:x < 256):Rd (w.alloc (bt x)) (.slice (some ⟨w.heap.size,0,none⟩) 1 1) [x]:=xa8l (n:=1) [x] (heap_alloc_new w (bt x)) rfl (by intro y hy; simp at hy; omega) rfl (by decide)
def awL (k:Nat):Prs:=insP (hsZ k) [98] [] (insP (hsZ k) [97] [49] [])
theorem xa8n (k:Nat):Srt (hsZ k) (insP (hsZ k) [97] [49] []):=(xa6j _).ins _ _
theorem xb4y (k:Nat):getP [97] (awL k) = some [49]:=by
 unfold awL
 rw [xb0q (xa8n k),if_neg (by decide),xb0q (xa6j _),if_pos rfl]
theorem xb9d (k:Nat):fnd [97] (awL k) = true:=by unfold fnd; rw [xb4y]; rfl
theorem xb4w (k:Nat):(awL k).length = 2:=by
 unfold awL
 have h0:fnd [98] (insP (hsZ k) [97] [49] []) = false:=by unfold fnd; rw [xb0q (xa6j _),if_neg (by decide)]; rfl
 rw [xb0h (xa8n k),h0,if_neg (by decide)]; rfl
set_option maxHeartbeats 4000000 in
theorem xa9o (w:World) (hTb:Tabs w) :
  Calls Tryz.prog 8 #[] w fun e w'=>e = .returned (.bool true)∧Kept [] w w':=by
 have HTb:=hide hTb
 obtain ⟨S,hS⟩:∃ S:Nat→Prop,S = fun _=>True:=⟨_,rfl⟩
 have HS:=hide (show ∀ (n y:Nat),n≤y→S y from fun _ _ _=>by rw [hS]; trivial)
 clear hTb hS
 have kc:=fun (w:World) (C:Array Value) (n c:Nat)=>Lib.run_convert_bytes_const (P:=Tryz.prog) w 37 5 C n c Tryz.underlying37 Tryz.underlying5
 have kc1:=fun (w:World) (o:Obj) (C:Array Value) (n c:Nat)=>Go.Joins.run_convert_bytes_const_at (P:=Tryz.prog) (w.alloc o) 37 5 C n c (w.heap.size + 1) (by simp) Tryz.underlying37 Tryz.underlying5
 have kc2:=fun (w:World) (o o':Obj) (C:Array Value) (n c:Nat)=>Go.Joins.run_convert_bytes_const_at (P:=Tryz.prog) ((w.alloc o).alloc o') 37 5 C n c (w.heap.size + 1 + 1) (by simp) Tryz.underlying37 Tryz.underlying5
 go_enter Tryz.func8,Tryz.ntmps8
 go_wp2_with fail
 refine Calls.mono (xb5h S 4 w (by omega) (uh HS _)) ?_
 rintro e w1 ⟨m1,rfl,hm1,k1⟩
 obtain ⟨g1,rfl⟩:=hm1.form
 have HM1:=hide hm1
 have HK1:=hide k1
 clear hm1 k1
 go_wp2_with fail
 have ka:=(Kept.refl [] w1).alloc (bt 97)
 have kb:=(Kept.refl [] (w1.alloc (bt 97))).alloc (bt 49)
 have hz:(w1.alloc (bt 97)).heap.size = w1.heap.size + 1:=by simp
 have r1:=(bt_rd w1 97 (by decide)).old kb (by simp)
 have r2:=bt_rd (w1.alloc (bt 97)) 49 (by decide)
 rw [hz] at r2
 have HKA:=hide ((uh HK1).trans (ka.trans kb (by simp)) (by simp))
 have HMA:=hide ((uh HM1).agr (Agr.nil (ka.trans kb (by simp))))
 refine Calls.mono (xa4z S 4 _ _ _ [] [97] [49] _ (uh HMA) r1 r2 (by decide) (by decide) (by decide) (uh HS _) ((uh HTb).k (uh HKA))) ?_
 rintro e w2 ⟨m2,rfl,hm2,k2⟩
 obtain ⟨g2,rfl⟩:=hm2.form
 have HM2:=hide hm2
 have HK2:=hide ((uh HKA).trans k2 (by simp))
 clear hm2 k2 ka kb hz r1 r2 HKA HMA HM1 HK1
 go_wp2_with fail
 have kb:=(Kept.refl [] w2).alloc (bt 98)
 have r1:=bt_rd w2 98 (by decide)
 have HKB:=hide ((uh HK2).trans kb (by simp))
 refine Calls.mono (xa4z S 4 _ _ _ _ [98] [] _ ((uh HM2).agr (Agr.nil kb)) r1 (Rd.nil _) (by decide) (by decide) (by decide) (uh HS _) ((uh HTb).k (uh HKB))) ?_
 rintro e w3 ⟨m3,rfl,hm3,k3⟩
 obtain ⟨g3,rfl⟩:=hm3.form
 have HM3:=hide (show MapAt S 4 w3 (.pointer (some ⟨g3,0,none⟩)) (awL 4) from hm3)
 have HK3:=hide ((uh HKB).trans k3 (by simp))
 clear hm3 k3 kb r1 HKB HM2 HK2
 go_wp2_with fail
 have kb:=(Kept.refl [] w3).alloc (bt 97)
 have r1:=bt_rd w3 97 (by decide)
 have HKB:=hide ((uh HK3).trans kb (by simp))
 refine Calls.mono (xb0l S 4 _ _ (awL 4) [97] _ ((uh HM3).agr (Agr.nil kb)) r1 (by decide) ((uh HTb).k (uh HKB))) ?_
 rintro e w4 ⟨v4,rfl,r4,_,k4⟩
 rw [xb4y] at r4
 rw [xb9d]
 have HR4:=hide (show Rd w4 v4 [49] from r4)
 have HM4:=hide (((uh HM3).agr (Agr.nil kb)).agr (Agr.nil k4))
 have HK4:=hide ((uh HKB).trans k4 (by simp))
 clear r4 k4 kb r1 HKB HM3 HK3
 go_wp2_with fail
 refine Calls.mono (xa5m S 4 _ _ w4 (uh HM4)) ?_
 rintro e w5 ⟨rfl,k5⟩
 rw [xb4w]
 have HM5:=hide ((uh HM4).agr (Agr.nil k5))
 have HR5:=hide ((uh HR4).old k5 (by simp))
 have HK5:=hide ((uh HK4).trans k5 (by simp))
 clear k5
 go_wp2_with fail
 refine Calls.mono (xb6d S 4 _ _ w5 (uh HM5)) ?_
 rintro e w6 ⟨rfl,k6⟩
 have HM6:=hide ((uh HM5).agr (Agr.nil k6))
 have HR6:=hide ((uh HR5).old k6 (by simp))
 have HK6:=hide ((uh HK5).trans k6 (by simp))
 clear k6
 go_wp2_with fail
 have kb:=(Kept.refl [] w6).alloc (bt 49)
 have r1:=bt_rd w6 49 (by decide)
 refine Calls.mono (same_k _ _ [49] [49] _ ((uh HR6).old kb (by simp)) r1) ?_
 rintro e w7 ⟨rfl,k7⟩
 rw [decide_eq_true rfl]
 have HM7:=hide (((uh HM6).agr (Agr.nil kb)).agr (Agr.nil k7))
 have HK7:=hide (((uh HK6).trans kb (by simp)).trans k7 (by simp))
 clear k7 kb r1
 go_wp2_with fail
 refine Calls.mono (xa3k S 4 _ _ w7 (uh HM7) ((uh HTb).k (uh HK7))) ?_
 rintro e w8 ⟨rfl,k8⟩
 have HK8:=hide ((uh HK7).trans k8 (by simp))
 clear k8
 go_wp2_with fail
 have z1:(w8.alloc (bt 97)).heap.size = w8.heap.size + 1:=by simp
 have z2:((w8.alloc (bt 97)).alloc (bt 49)).heap.size = w8.heap.size + 1 + 1:=by simp
 have z3:(((w8.alloc (bt 97)).alloc (bt 49)).alloc (bt 98)).heap.size = w8.heap.size + 1 + 1 + 1:=by simp
 have ka:=(Kept.refl [] w8).alloc (bt 97)
 have kb:=(Kept.refl [] (w8.alloc (bt 97))).alloc (bt 49)
 have kd:=(Kept.refl [] ((w8.alloc (bt 97)).alloc (bt 49))).alloc (bt 98)
 have ke:=(Kept.refl [] (((w8.alloc (bt 97)).alloc (bt 49)).alloc (bt 98))).alloc (.cells #[.slice (some ⟨w8.heap.size,0,none⟩) 1 1,.slice (some ⟨w8.heap.size + 1,0,none⟩) 1 1,.slice (some ⟨w8.heap.size + 1 + 1,0,none⟩) 1 1,.slice none 0 0] 46)
 have r1:=(((bt_rd w8 97 (by decide)).old kb (by simp)).old kd (by simp)).old ke (by simp)
 have r2:=((bt_rd (w8.alloc (bt 97)) 49 (by decide)).old kd (by simp)).old ke (by simp)
 have r3:=(bt_rd ((w8.alloc (bt 97)).alloc (bt 49)) 98 (by decide)).old ke (by simp)
 rw [z1] at r2
 rw [z2] at r3
 have hx:=heap_alloc_new (((w8.alloc (bt 97)).alloc (bt 49)).alloc (bt 98)) (.cells #[.slice (some ⟨w8.heap.size,0,none⟩) 1 1,.slice (some ⟨w8.heap.size + 1,0,none⟩) 1 1,.slice (some ⟨w8.heap.size + 1 + 1,0,none⟩) 1 1,.slice none 0 0] 46)
 rw [z3] at hx
 have kall:=((ka.trans kb (by simp)).trans kd (by simp)).trans ke (by simp)
 have hK:=(uh HK8).trans kall (by simp)
 obtain ⟨X,hX⟩:∃ X,(((w8.alloc (bt 97)).alloc (bt 49)).alloc (bt 98)).alloc (.cells #[.slice (some ⟨w8.heap.size,0,none⟩) 1 1,.slice (some ⟨w8.heap.size + 1,0,none⟩) 1 1,.slice (some ⟨w8.heap.size + 1 + 1,0,none⟩) 1 1,.slice none 0 0] 46) = X:=⟨_,rfl⟩
 rw [hX] at r1 r2 r3 hx hK
 rw [hX]
 have hrk:RdK X (.slice (some ⟨w8.heap.size + 1 + 1 + 1,0,none⟩) 2 2) [([97],[49]),([98],[])]:=⟨_,2,2,[.slice (some ⟨w8.heap.size,0,none⟩) 1 1,.slice (some ⟨w8.heap.size + 1 + 1,0,none⟩) 1 1],[.slice (some ⟨w8.heap.size + 1,0,none⟩) 1 1,.slice none 0 0],rfl,rfl,Nat.le_refl _,by omega,fun i hi=>by
   match i,hi with
   | 0,_=>exact ⟨r1,r2⟩
   | 1,_=>exact ⟨r3,Rd.nil _⟩,fun _=>⟨_,0,rfl,fun i hi=>by
   match i,hi with
   | 0,_=>constructor <;> (rw [cell_of_row _ _ _ _ _ _ hx]; rfl)
   | 1,_=>constructor <;> (rw [cell_of_row _ _ _ _ _ _ hx]; rfl)⟩⟩
 have HRK:=hide hrk
 have HKX:=hide hK
 clear z1 z2 z3 ka kb kd ke r1 r2 r3 hx kall hK hX hrk
 refine Calls.mono (xb3f S 4 _ [([97],[49]),([98],[])] X (by omega) (uh HRK) (by intro p hp; simp at hp; rcases hp with rfl | rfl <;> simp) (by simp) (uh HS _)) ?_
 rintro e w9 ⟨v9,rfl,i9,k9⟩
 have HI9:=hide (show IAt S 4 w9 v9 (awL 4) from i9)
 have HK9:=hide ((uh HKX).trans k9 (by simp))
 have hfit:Fit (awL 4):=xa9g (xa8n 4) (xa9g (xa6j _) (fun p hp=>by simp at hp) (by decide) (by decide)) (by decide) (by decide)
 have HFI:=hide hfit
 have hrl:=xa3b 4 (by omega) (awL 4)
 clear i9 k9 hfit
 go_wp2_with fail
 refine Calls.mono (xa9s S 4 (by omega) _ (awL 4) w9 (uh HI9) ((xa8n 4).ins _ _) (uh HFI) (by rw [xb4w]; omega) (uh HS _)) ?_
 rintro e w10 ⟨rfl,k10⟩
 have HK10:=hide ((uh HK9).trans k10 (by simp))
 clear k10
 generalize rootP 4 (awL 4) = R at hrl ⊢
 go_wp2_with (refine xa9h rfl (.tmp 74) (.tmp 85) _ rfl R R hrl hrl rfl rfl ?_; rw [decide_eq_true rfl])
 go_ret
 exact ⟨rfl,uh HK10⟩
end
section
open Go Go.RowKit Go.BigFrame
section
variable {P:Program} {Q:Exit→Act→World→Prop} {S:World→Prop}
def linB2T (O:Array Oper) (R:List Nat) (i j:Nat) (C T:List Nat):Bool :=
 (Region.noSelect O && decide (O.size = R.length + (C.length + 1 + (T.length + 0) + 1))) && (linR O R (linS O) && (decide (Region.ready .any O (linD R (linS O)) = [i,j]) && ((linC O (j :: C) ((linD R (linS O)).setIfInBounds i true) && linC O (i :: C) ((linD R (linS O)).setIfInBounds j true)) &&
  ((linR O T (linD (j :: C) ((linD R (linS O)).setIfInBounds i true)) && decide (Region.ready .any O (linD T (linD (j :: C) ((linD R (linS O)).setIfInBounds i true))) = [])) && (linR O T (linD (i :: C) ((linD R (linS O)).setIfInBounds j true)) && decide (Region.ready .any O (linD T (linD (i :: C) ((linD R (linS O)).setIfInBounds j true))) = []))))))
theorem xb7c {id:Nat} {O:Array Oper} {a:Act} {w:World} {R C T:List Nat} {i j:Nat} {oi oj:Oper} {rs cs ts:List Oper} (hm:P.follows .mixedOrders = true) (hb:linB2T O R i j C T = true) (hR:R.map (O[·]?) = rs.map some) (hi:O[i]? = some oi) (hj:O[j]? = some oj) (hC:C.map (O[·]?) = cs.map some) (hT:T.map (O[·]?) = ts.map some) (hg:(rs++(oi :: oj :: (cs++ts))).all (fun o=>o.guard.isNone) = true)
  (hS:S w.drew) (h:LinY P S (fun a w=>ChL P Q S (fun a w=>S w∧LinY P S (Q .normal) ts a w) (oi :: oj :: cs) a w∧ChL P Q S (fun a w=>S w∧LinY P S (Q .normal) ts a w) (oj :: oi :: cs) a w) rs a w.drew):(Code.region id O true).wp P Q a w:=by
 unfold linB2T at hb
 simp only [Bool.and_eq_true,decide_eq_true_eq] at hb
 obtain ⟨⟨b1,b2⟩,b3,b4,⟨b5,b6⟩,⟨b7,b8⟩,b9,b10⟩:=hb
 rw [List.all_append,Bool.and_eq_true,List.all_eq_true,List.all_eq_true] at hg
 have hgi:∀ o∈oi :: oj :: (cs++ts),o.guard = none:=fun o ho=>by simpa using hg.2 o ho
 have hgt:∀ o∈ts,o.guard = none:=fun o ho=>hgi o (by simp [ho])
 have hgc:∀ o∈cs,o.guard = none:=fun o ho=>hgi o (by simp [ho])
 refine wp_region_noPanic ?_
 refine wp_region_held_drew (S:=S) hm hS (fun _=>?_)
 rw [b2]
 have t1:∀ a w,(S w∧LinY P S (Q .normal) ts a w)→wpAnyH P .any O (NoPanic Q) S (T.length + 0) (linD (j :: C) ((linD R (linS O)).setIfInBounds i true)) a w:=fun a w h=>xa1p b1 (xa2h (decide_eq_true b8)) T ts _ a w hT hgt b7 rfl h.1 h.2
 have t2:∀ a w,(S w∧LinY P S (Q .normal) ts a w)→wpAnyH P .any O (NoPanic Q) S (T.length + 0) (linD (i :: C) ((linD R (linS O)).setIfInBounds j true)) a w:=fun a w h=>xa1p b1 (xa2h (decide_eq_true b10)) T ts _ a w hT hgt b9 rfl h.1 h.2
 have hF:∀ a w,(ChL P Q S (fun a w=>S w∧LinY P S (Q .normal) ts a w) (oi :: oj :: cs) a w∧ChL P Q S (fun a w=>S w∧LinY P S (Q .normal) ts a w) (oj :: oi :: cs) a w)→wpAnyH P .any O (NoPanic Q) S (C.length + 1 + (T.length + 0) + 1) (linD R (linS O)) a w:=fun a w h=>by
  refine wpAnyH_all (rs:=[i,j]) b4 (by simp) (fun x hx=>?_)
  simp only [List.mem_cons,List.not_mem_nil,or_false] at hx
  rcases hx with rfl | rfl
  ·unfold wpOp
   simp only [hi]
   have hw:∀ y,Region.wanted oi y = true:=fun y=>by unfold Region.wanted; rw [hgi oi (by simp)]
   rw [if_pos (hw _)]
   exact Or.inl (Oper.wp_mono (fun a' w' h2=>⟨h2.1,xa1q t1 (j :: C) (oj :: cs) _ a' w' (by rw [List.map_cons,List.map_cons,hj,hC]) (fun o ho=>by rcases List.mem_cons.1 ho with rfl | ho; exact hgi _ (by simp); exact hgc o ho) b5 rfl h2.2⟩) h.1)
  ·unfold wpOp
   simp only [hj]
   have hw:∀ y,Region.wanted oj y = true:=fun y=>by unfold Region.wanted; rw [hgi oj (by simp)]
   rw [if_pos (hw _)]
   exact Or.inl (Oper.wp_mono (fun a' w' h2=>⟨h2.1,xa1q t2 (i :: C) (oi :: cs) _ a' w' (by rw [List.map_cons,List.map_cons,hi,hC]) (fun o ho=>by rcases List.mem_cons.1 ho with rfl | ho; exact hgi _ (by simp); exact hgc o ho) b6 rfl h2.2⟩) h.2)
 have:=xa1p (P:=P) (Q:=Q) (S:=S) b1 hF R rs (linS O) a w.drew hR (fun o ho=>by simpa using hg.1 o ho) b3 rfl hS h
 unfold linS at this
 rw [b2] at this
 exact this
theorem lx_19 {P:Program} {Q:Exit→Act→World→Prop} {id:Nat} {o0 o1 o2 o3 o4 o5 o6 o7 o8:Oper} {a:Act} {w:World} (hm:P.follows .mixedOrders = true) (hb:linB2T #[o0,o1,o2,o3,o4,o5,o6,o7,o8] [0] 1 2 [3,4] [5,6,7,8] = true) (hg:([o0]++(o1 :: o2 :: ([o3,o4]++[o5,o6,o7,o8]))).all (fun o=>o.guard.isNone) = true) (S:World→Prop) (hS:S w.drew)
  (h:LinY P S (fun a w=>ChL P Q S (fun a w=>S w∧LinY P S (Q .normal) [o5,o6,o7,o8] a w) (o1 :: o2 :: [o3,o4]) a w∧ChL P Q S (fun a w=>S w∧LinY P S (Q .normal) [o5,o6,o7,o8] a w) (o2 :: o1 :: [o3,o4]) a w) [o0] a w.drew):(Code.region id #[o0,o1,o2,o3,o4,o5,o6,o7,o8] true).wp P Q a w :=
 xb7c (R:=[0]) (i:=1) (j:=2) (C:=[3,4]) (T:=[5,6,7,8]) (rs:=[o0]) (cs:=[o3,o4]) (ts:=[o5,o6,o7,o8]) hm hb rfl rfl rfl rfl rfl hg hS h
end
end
section
open Go.RowKit Go.BigFrame
theorem xa4f {o:Oper} {a:Act} {w:World} {K:Act→World→Prop} {Q:Exit→Act→World→Prop} (x y:Operand) (ho:o.op = .makeSlice 37 x y) (m:Nat) (hm:m≤5000) (hx:a.eval x = .int .i64 (m:Int)) (hy:a.eval y = .int .i64 (m:Int))
  (h:∀ w2 v,Kept [] w w2→Rd w2 v (List.replicate m 0)→K (a.put o.dst v) w2):o.wp Tryz.prog a w K Q:=by
 have hmk:=run_make_row' (P:=Tryz.prog) 37 5 (.int .u8 0) 1 Tryz.underlying37 Tryz.info5 rfl .i64 .i64 m (by omega) (by omega)
 simp only [madeZeros] at hmk
 have hr:=hmk w
 unfold Oper.wp execOp
 simp only [ho,hx,hy]
 go_simp
 exact h _ _ ((Kept.refl [] w).alloc _) (xa8l (List.replicate m 0) (heap_alloc_new _ _) (by simp [zeros]) (by intro x hx; have:=(List.mem_replicate.1 hx).2; omega) m (by simp) (by omega))
theorem xa2b {ops:Array Oper} {rest:List Oper} {o:Oper} {a:Act} {w:World} {Q:Exit→Act→World→Prop} (hw:Region.wanted o (yielded ops a.tmps) = true) (x y:Operand) (ho:o.op = .makeSlice 37 x y) (m:Nat) (hm:m≤5000) (hx:a.eval x = .int .i64 (m:Int)) (hy:a.eval y = .int .i64 (m:Int))
  (h:∀ w2 v,Kept [] w w2→Rd w2 v (List.replicate m 0)→wpList Tryz.prog ops Q rest (a.put o.dst v) w2):wpList Tryz.prog ops Q (o :: rest) a w :=
 wpList_want hw fun _ hK=>xa4f x y ho m hm hx hy (fun w2 v k r=>hK _ _ (h w2 v k r))
theorem xa2t {ops:Array Oper} {rest:List Oper} {o:Oper} {a:Act} {w:World} {Q:Exit→Act→World→Prop} (hw:Region.wanted o (yielded ops a.tmps) = true) (x y:Operand) (r:TypeId) (ho:o.op = .binOp .neq 30 x y r) (d e:List Nat) (hd:d.length = 32) (he:e.length = 32) (hx:a.eval x = .agg (brow d)) (hy:a.eval y = .agg (brow e))
  (h:wpList Tryz.prog ops Q rest (a.put o.dst (.bool (!decide (d = e)))) w):wpList Tryz.prog ops Q (o :: rest) a w :=
 wpList_want hw fun _ hK=>by
  unfold Oper.wp
  rw [xb9m 30 x y r ho (brow d) (brow e) hx hy w _ (by kernel_rfl) (dig_eq w d e hd he)]
  exact hK _ _ h
theorem xa4u {ops:Array Oper} {rest:List Oper} {o:Oper} {a:Act} {w:World} {Q:Exit→Act→World→Prop} (hw:Region.wanted o (yielded ops a.tmps) = true) (x y:Operand) (r:TypeId) (ho:o.op = .binOp .eql 30 x y r) (d e:List Nat) (hd:d.length = 32) (he:e.length = 32) (hx:a.eval x = .agg (brow d)) (hy:a.eval y = .agg (brow e))
  (h:wpList Tryz.prog ops Q rest (a.put o.dst (.bool (decide (d = e)))) w):wpList Tryz.prog ops Q (o :: rest) a w :=
 wpList_want hw fun _ hK=>by
  unfold Oper.wp
  rw [xa6p 30 x y r ho (brow d) (brow e) hx hy w _ (by kernel_rfl) (dig_eq w d e hd he)]
  exact hK _ _ h
theorem xa4w {ops:Array Oper} {rest:List Oper} {o:Oper} {a:Act} {w:World} {Q:Exit→Act→World→Prop} (hw:Region.wanted o (yielded ops a.tmps) = true) (x:Operand) (ho:o.op = .buildSlice 33 1 #[(0,x)]) (ku vu:Value) (hx:a.eval x = .agg #[ku,vu])
  (h:wpList Tryz.prog ops Q rest (a.put o.dst (.slice (some ⟨w.heap.size,0,none⟩) 1 1)) (w.alloc (.cells #[ku,vu] 46))):wpList Tryz.prog ops Q (o :: rest) a w :=
 wpList_want hw fun _ hK=>by
  unfold Oper.wp
  rw [xa5n w x ho ku vu hx]
  exact hK _ _ h
theorem xb8w:cutL 1 (hash [5]) = rootP 1 []:=by unfold rootP; rw [if_pos (by rfl)]
theorem xb4n:rootP 1 [([],[])] = sumD (1:Nat) (buckB [([],[])]):=by
 unfold rootP
 rw [if_neg (by decide),xb1k (xa1h.2 (fun x hx y hy=>by rw [List.mem_singleton.1 hx,List.mem_singleton.1 hy]))]
 unfold hsZ
 rfl
theorem xb5f:(pairB [(([]:List Nat),([]:List Nat))]).length≤1000000000000:=by
 have h:=xa2r (L:=[([],[])]) (fun p hp=>by rw [List.mem_singleton.1 hp]; exact ⟨Nat.zero_le _,Nat.zero_le _⟩)
 exact Nat.le_trans h (by simp)
theorem xb5b {w:World} {v:Value} (h:RdK w v []):∃ ao c,v = .slice ao 0 c:=by
 obtain ⟨ao,len,cap,_,_,rfl,h1,_⟩:=h
 have:len = 0:=h1.symm
 subst this
 exact ⟨ao,cap,rfl⟩
theorem xb4z {w:World} {v:Value} (h:Rd w v []):∃ ao c,v = .slice ao 0 c:=by
 obtain ⟨ao,len,cap,rfl,h1,_⟩:=h
 have:len = 0:=h1.symm
 subst this
 exact ⟨ao,cap,rfl⟩
theorem xb3n {k:Nat} {w:World} {q:List Nat} {sv pv:Value} (h:WalkP k w q [] sv pv):(∃ ao c,sv = .slice ao 0 c)∧∃ ao c,pv = .slice ao 0 c:=by
 obtain ⟨m,h1,h2,h3,h4⟩:=h
 have hm:m = 0:=by
  cases m with
  | zero=>rfl
  | succ i=>have h9:=h3 0 (by omega); cases h9
 subst hm
 refine ⟨?_,xb5b h2⟩
 obtain ⟨ao,len,cap,_,rfl,h5,_⟩:=h1
 have:len = 0:=by simpa using h5.symm
 subst this
 exact ⟨ao,cap,rfl⟩
theorem xb2k (w:World):Calls Tryz.prog 19 #[.pointer none] w fun e w'=>e = .returned (.int .i64 0)∧Kept [] w w':=by
 go_enter Tryz.func19,Tryz.ntmps19
 go_wp2_with fail
 go_ret
 exact ⟨rfl,Kept.refl _ _⟩
theorem xb0t (w:World):Calls Tryz.prog 10 #[.pointer none] w fun e w'=>e = .returned (.int .i64 0)∧Kept [] w w':=by
 go_enter Tryz.func10,Tryz.ntmps10
 go_wp2_with fail
 go_ret
 exact ⟨rfl,Kept.refl _ _⟩
theorem xb1f (w:World):Calls Tryz.prog 11 #[.pointer none] w fun e w'=>e = .returned (.agg (brow (List.replicate 32 0)))∧Kept [] w w':=by
 have HZ:=hide (heap_alloc_new w (.cells (zb 32) 30))
 have HK:=hide ((Kept.refl [] w).alloc (.cells (zb 32) 30))
 go_enter Tryz.func11,Tryz.ntmps11
 go_wp2_with (refine wpList_store_row rfl 30 (.tmp 2) (.tmp 8) rfl w.heap.size (zb 32) rfl rfl _ (zb 32) (uh HZ) (by rw [xa0i]; exact Tryz.size_dig) rfl (xa0f _) ?_)
 refine bodyPost_ret (v:=.agg (zb 32)) ?_ rfl ⟨rfl,(uh HK).setRow (by simp) _⟩
 exact results_cell_row rfl _ _ w.heap.size 30 (zb 32) (0,0) _ rfl (setRow_heap _ _ _ _ _ _ (uh HZ)) Tryz.underlying30 rfl (by rw [xa0i]; exact Tryz.size_dig)
theorem xa8r (w:World):Calls Tryz.prog 13 #[.pointer none] w fun e w'=>e = .returned (.slice none 0 0)∧Kept [] w w':=by
 go_enter Tryz.func13,Tryz.ntmps13
 go_wp2_with fail
 go_ret
 exact ⟨rfl,Kept.refl _ _⟩
set_option maxHeartbeats 8000000 in
theorem hamtFixed_walk (w:World) (hT:Tabs w) :
  Calls Tryz.prog 3 #[] w fun e w'=>e = .returned (.bool true)∧Below w.heap.size w w':=by
 obtain ⟨S,hS⟩:∃ S:Nat→Prop,S = fun _=>True:=⟨_,rfl⟩
 have HS:=hide (show ∀ (n y:Nat),n≤y→S y from fun _ _ _=>by rw [hS]; trivial)
 have HT:=hide hT
 clear hT hS
 go_enter Tryz.func3,Tryz.ntmps3
 go_wp2_with fail
 refine Calls.mono (xa9o w (uh HT)) ?_
 rintro e w1 ⟨rfl,k1⟩
 have HK1:=hide k1
 have HA1:=hide (heap_alloc_new w1 (.cells #[.int .i64 0,.int .i64 33,.int .i64 (-1)] 3))
 have HKA:=hide ((uh HK1).trans ((Kept.refl [] w1).alloc (.cells #[.int .i64 0,.int .i64 33,.int .i64 (-1)] 3)) (by simp))
 clear k1
 go_wp2_with fail
 generalize w1.alloc (.cells #[.int .i64 0,.int .i64 33,.int .i64 (-1)] 3) = W1 at HA1 HKA ⊢
 generalize w1.heap.size = g1 at HA1 ⊢
 have hcp:=xa0o [] [.int .i64 0,.int .i64 33,.int .i64 (-1)] [] (uh HA1) rfl
 have HC0:=hide (show W1.cell? ⟨g1,0,none⟩ = some (.int .i64 0) from hcp 0 _ rfl)
 have HC1:=hide (show W1.cell? ⟨g1,1,none⟩ = some (.int .i64 33) from hcp 1 _ rfl)
 have HC2:=hide (show W1.cell? ⟨g1,2,none⟩ = some (.int .i64 (-1)) from hcp 2 _ rfl)
 clear hcp
 go_loopw [27] (fun t27 wr=>∃ (i:Nat),t27 = .int .i64 i∧i≤3∧Hid (Kept [] W1 wr)) (fun t _=>3 - (intOf t).toNat)
 case atStart=>exact ⟨0,rfl,by omega,hide (Kept.refl _ _)⟩
 case round =>
  obtain ⟨i,rfl,hi,HKr⟩:=hrel
  by_cases h3:i = 3
  ·subst h3
   have HKw:=hide ((uh HKA).trans (uh HKr) (by simp))
   obtain ⟨w5,hw5⟩:∃ w5,w5 = wr:=⟨_,rfl⟩
   subst hw5
   go_wp2_with fail
   refine Calls.mono (xb5h S 1 w5 (by omega) (uh HS _)) ?_
   rintro e w6 ⟨m6,rfl,hm6,k6⟩
   obtain ⟨g,rfl⟩:=hm6.form
   have HM:=hide hm6
   have HK6:=hide ((uh HKw).trans k6 (by simp))
   clear hm6 k6
   go_wp2_with fail
   refine Calls.mono (xa5m S 1 _ [] w6 (uh HM)) ?_
   rintro e w7 ⟨rfl,k7⟩
   have HK7:=hide ((uh HK6).trans k7 (by simp))
   have HM7:=hide ((uh HM).agr (Agr.nil k7))
   clear k7 HM
   go_wp2_with fail
   refine Calls.mono (xa3k S 1 _ [] w7 (uh HM7) ((uh HT).k (uh HK7))) ?_
   rintro e w8 ⟨rfl,k8⟩
   have HK8:=hide ((uh HK7).trans k8 (by simp))
   have HM8:=hide ((uh HM7).agr (Agr.nil k8))
   clear k8 HM7
   have hrl:=xa3b 1 (by omega) []
   have hre:cutL 1 (hash [5]) = rootP 1 []:=xb8w
   have HRL:=hide hrl
   have HRE:=hide hre
   clear hrl hre
   go_wp2_with fail
   refine Calls.mono (xa4i 1 w8 (by omega)) ?_
   rintro e w9 ⟨rfl,k9⟩
   rw [uh HRE]
   have HK9:=hide ((uh HK8).trans k9 (by simp))
   have HM9:=hide ((uh HM8).agr (Agr.nil k9))
   clear k9 HM8
   generalize rootP 1 [] = R at HRL ⊢
   go_wp2_with (refine xa2t rfl (.tmp 60) (.tmp 61) _ rfl R R (uh HRL) (uh HRL) rfl rfl ?_; rw [decide_eq_true rfl])
   refine Calls.mono (xb2z S 1 _ [] w9 (uh HM9)) ?_
   rintro e w10 ⟨v10,l10,rfl,hl10,k10⟩
   obtain ⟨pa,pc,rfl⟩:=xb5b hl10.rdK
   have HK10:=hide ((uh HK9).trans k10 (by simp))
   have HM10:=hide ((uh HM9).agr (Agr.nil k10))
   clear k10 hl10 HM9
   have hc1:=Lib.run_convert_bytes_const (P:=Tryz.prog) w10 37 5 #[.int .u8 120] 1 1 Tryz.underlying37 Tryz.underlying5
   rw [show (#[Value.int IntKind.u8 120]).size = 1 from rfl] at hc1
   have HL1:=hide (xa8l (n:=1) [120] (heap_alloc_new w10 (.cells #[.int .u8 120] 5 (1,2))) rfl (by decide) rfl (by decide))
   have HKl1:=hide ((Kept.refl [] w10).alloc (.cells #[.int .u8 120] 5 (1,2)))
   have HM11:=hide ((uh HM10).agr (Agr.nil (uh HKl1)))
   have HK11:=hide ((uh HK10).trans (uh HKl1) (by simp))
   go_wp2_with fail
   clear hc1
   refine Calls.mono (xb2c S 1 _ _ [] [120] _ (uh HM11) (uh HL1) (by decide) (uh HS _) ((uh HT).k (uh HK11))) ?_
   rintro e w12 ⟨m12,rfl,hm12,k12⟩
   obtain ⟨gd,rfl⟩:=hm12.form
   have HD12:=hide (show MapAt S 1 w12 (.pointer (some ⟨gd,0,none⟩)) [] from hm12)
   have HK12:=hide ((uh HK11).trans k12 (by simp))
   have HM12:=hide ((uh HM11).agr (Agr.nil k12))
   clear k12 hm12 HM10 HM11 HL1 HKl1
   have hc2:=Lib.run_convert_bytes_const (P:=Tryz.prog) w12 37 5 #[.int .u8 120] 1 1 Tryz.underlying37 Tryz.underlying5
   rw [show (#[Value.int IntKind.u8 120]).size = 1 from rfl] at hc2
   have HL2:=hide (xa8l (n:=1) [120] (heap_alloc_new w12 (.cells #[.int .u8 120] 5 (1,2))) rfl (by decide) rfl (by decide))
   have HKl2:=hide ((Kept.refl [] w12).alloc (.cells #[.int .u8 120] 5 (1,2)))
   have HM13:=hide ((uh HM12).agr (Agr.nil (uh HKl2)))
   have HD13:=hide ((uh HD12).agr (Agr.nil (uh HKl2)))
   have HK13:=hide ((uh HK12).trans (uh HKl2) (by simp))
   have hfn:fnd [120] [] = false:=rfl
   rw [hfn]
   go_wp2_with fail
   clear hc2
   refine Calls.mono (xb6y S 1 _ _ [] [120] _ (uh HM13) (uh HL2) (by decide) ((uh HT).k (uh HK13))) ?_
   rintro e w14 ⟨sv,ev,rfl,hwp,k14⟩
   obtain ⟨⟨sa,sc,rfl⟩,ea,ec,rfl⟩:=xb3n hwp
   have HK14:=hide ((uh HK13).trans k14 (by simp))
   have HM14:=hide ((uh HM13).agr (Agr.nil k14))
   have HD14:=hide ((uh HD13).agr (Agr.nil k14))
   clear k14 hwp HM12 HM13 HD12 HD13 HL2 HKl2 hfn
   have hrl:=xa3b 1 (by omega) []
   have HRL2:=hide hrl
   clear hrl
   go_wp2_with fail
   refine Calls.mono (xa3k S 1 _ [] w14 (uh HD14) ((uh HT).k (uh HK14))) ?_
   rintro e w15 ⟨rfl,k15⟩
   have HK15:=hide ((uh HK14).trans k15 (by simp))
   have HM15:=hide ((uh HM14).agr (Agr.nil k15))
   clear k15 HM14 HD14
   go_wp2_with fail
   refine Calls.mono (xa3k S 1 _ [] w15 (uh HM15) ((uh HT).k (uh HK15))) ?_
   rintro e w16 ⟨rfl,k16⟩
   have HK16:=hide ((uh HK15).trans k16 (by simp))
   have HM16:=hide ((uh HM15).agr (Agr.nil k16))
   clear k16 HM15
   generalize rootP 1 [] = R2 at HRL2 ⊢
   go_wp2_with (first
    | (refine xa2t rfl (.tmp 97) (.tmp 99) _ rfl R2 R2 (uh HRL2) (uh HRL2) rfl rfl ?_; rw [decide_eq_true rfl])
    | (refine xa2b rfl (.const (.int .i64 65)) (.const (.int .i64 65)) rfl 65 (by omega) rfl rfl ?_; intro w17 v17 k17 r17; obtain ⟨b1,b2,b3,rfl,_⟩:=id r17))
   have HM17:=hide ((uh HM16).agr (Agr.nil k17))
   have HK17:=hide ((uh HK16).trans k17 (by simp))
   refine Calls.mono (xb6w g _ _ (List.replicate 65 0) w17 r17 (by simp)) ?_
   rintro e w18 ⟨rfl,k18⟩
   have HM18:=hide ((uh HM17).agr (Agr.nil k18))
   have HK18:=hide ((uh HK17).trans k18 (by simp))
   clear k17 r17 k18 HM16 HM17
   go_wp2_with (refine xa2b rfl (.const (.int .i64 257)) (.const (.int .i64 257)) rfl 257 (by omega) rfl rfl ?_; intro w19 v19 k19 r19; obtain ⟨c1,c2,c3,rfl,_⟩:=id r19)
   have HM19:=hide ((uh HM18).agr (Agr.nil k19))
   have HK19:=hide ((uh HK18).trans k19 (by simp))
   refine Calls.mono (xb2x S 1 _ _ _ [] [] (List.replicate 257 0) w19 (uh HM19) (Rd.nil _) r19 (by simp) (by simp) ((uh HT).k (uh HK19))) ?_
   rintro e w20 ⟨rfl,k20⟩
   have HM20:=hide ((uh HM19).agr (Agr.nil k20))
   have HK20:=hide ((uh HK19).trans k20 (by simp))
   clear k19 r19 k20 HM18 HM19
   go_upto_region 19 with fail
   have hd2:=(Kept.refl [] w20).drew
   refine lx_19 (by kernel_rfl) (by kernel_rfl) rfl (fun W=>Kept [] w20 W) hd2 ?_
   refine LinY.rd (.pointer (some ⟨g,0,none⟩)) (fun W hW=>by go_simp) (by simp only [Act.put,sa1,sa2,sa3]; rfl) ?_
   refine LinY.fin ⟨?_,?_⟩
   ·refine xa4f (.const (.int .i64 64)) (.const (.int .i64 64)) rfl 64 (by omega) rfl rfl ?_
    intro w21 v21 k21 r21
    refine ⟨hd2.trans k21 (by simp),?_⟩
    refine xa4f (.const (.int .i64 256)) (.const (.int .i64 256)) rfl 256 (by omega) rfl rfl ?_
    intro w22 v22 k22 r22
    have hk22:=(hd2.trans k21 (by simp)).trans k22 (by simp)
    refine ⟨hk22,?_⟩
    have r21:=r21.old k22 (by simp)
    simp only [Act.put,sa1,sa2,sa3]
    refine ChL.call rfl Tryz.call16 [.pointer (some ⟨g,0,none⟩),v21,v22] rfl (xa4z S 1 _ _ _ [] (List.replicate 64 0) (List.replicate 256 0) w22 ((uh HM20).agr (Agr.nil hk22)) r21 r22 (by simp) (by simp) (by decide) (uh HS _) ((uh HT).k ((uh HK20).trans hk22 (by simp)))) ?_
    rintro e w23 ⟨m23,rfl,hm23,k23⟩
    have hk23:=hk22.trans k23 (by simp)
    refine ⟨_,rfl,hk23,?_⟩
    simp only [Act.put,sa1,sa2,sa3]
    obtain ⟨gx,rfl⟩:=hm23.form
    refine ChL.op (.tuple #[.pointer (some ⟨gx,0,none⟩),.int .i64 0]) (by go_simp) hk23 (by simp only [Act.put,sa1,sa2,sa3]; rfl) (ChL.fin ⟨hk23,?_⟩)
    refine LinY.rd (.pointer (some ⟨gx,0,none⟩)) (fun W hW=>by go_simp) (by simp only [Act.put,sa1,sa2,sa3]; rfl) ?_
    refine LinY.rd (.int .i64 0) (fun W hW=>by go_simp) (by simp only [Act.put,sa1,sa2,sa3]; rfl) ?_
    refine LinY.rd (.pointer (some ⟨gx,0,none⟩)) (fun W hW=>by go_simp) (by simp only [Act.put,sa1,sa2,sa3]; rfl) ?_
    refine LinY.rd (.int .i64 0) (fun W hW=>by go_simp) (by simp only [Act.put,sa1,sa2,sa3]; rfl) ?_
    refine LinY.fin ?_
    have HX:=hide hm23
    have HM23:=hide ((uh HM20).agr (Agr.nil hk23))
    have HK23:=hide ((uh HK20).trans hk23 (by simp))
    have HXL:=hide (show (insP (hsZ 1) (List.replicate 64 0) (List.replicate 256 0) []).length = 1 from rfl)
    generalize insP (hsZ 1) (List.replicate 64 0) (List.replicate 256 0) [] = LX at HX HXL
    clear hm23 k23 hk23 k21 k22 r21 r22 hk22 hd2
    go_wp2_with fail
    refine Calls.mono (xa4z S 1 _ _ _ [] [] [] w23 (uh HM23) (Rd.nil _) (Rd.nil _) (by simp) (by simp) (by decide) (uh HS _) ((uh HT).k (uh HK23))) ?_
    rintro e w24 ⟨m24,rfl,hm24,k24⟩
    obtain ⟨gy,rfl⟩:=hm24.form
    have HY:=hide (show MapAt S 1 w24 (.pointer (some ⟨gy,0,none⟩)) [([],[])] from hm24)
    have HX24:=hide ((uh HX).agr (Agr.nil k24))
    have HK24:=hide ((uh HK23).trans k24 (by simp))
    clear hm24 k24 HX HM23
    go_wp2_with fail
    refine Calls.mono (xa5m S 1 _ LX w24 (uh HX24)) ?_
    rintro e w25 ⟨rfl,k25⟩
    rw [uh HXL]
    have HY25:=hide ((uh HY).agr (Agr.nil k25))
    have HK25:=hide ((uh HK24).trans k25 (by simp))
    clear k25 HX24 HY
    go_wp2_with fail
    refine Calls.mono (xb0l S 1 _ _ _ [] w25 (uh HY25) (Rd.nil _) (by simp) ((uh HT).k (uh HK25))) ?_
    rintro e w26 ⟨ov,rfl,r26,_,k26⟩
    have r26:Rd w26 ov []:=r26
    obtain ⟨oa,oc,rfl⟩:=xb4z r26
    have hfn:fnd [] [(([]:List Nat),([]:List Nat))] = true:=rfl
    rw [hfn]
    have HY26:=hide ((uh HY25).agr (Agr.nil k26))
    have HK26:=hide ((uh HK25).trans k26 (by simp))
    clear r26 k26 hfn HY25
    go_wp2_with fail
    refine Calls.mono (xa3k S 1 _ _ w26 (uh HY26) ((uh HT).k (uh HK26))) ?_
    rintro e w27 ⟨rfl,k27⟩
    have HK27:=hide ((uh HK26).trans k27 (by simp))
    have hrb:rootP 1 [([],[])] = sumD (1:Nat) (buckB [([],[])]):=xb4n
    have hrl:=xa3b 1 (by omega) [([],[])]
    rw [hrb] at hrl ⊢
    have HRL3:=hide hrl
    have ka:=(Kept.refl [] w27).alloc (.cells #[.slice none 0 0,.slice none 0 0] 46)
    have HKP:=hide ka
    have HRP:=hide (show RdK (w27.alloc (.cells #[.slice none 0 0,.slice none 0 0] 46)) (.slice (some ⟨w27.heap.size,0,none⟩) 1 1) [([],[])] from rdk_of (T:=fun _=>True) (l:=[(.slice none 0 0,.slice none 0 0)]) ⟨_,1,1,rfl,rfl,Nat.le_refl _,by omega,fun _=>⟨w27.heap.size,0,rfl,fun j hj=>by
     have h0:j = 0:=by rw [xa0t] at hj; simp at hj; omega
     subst h0
     exact xa0o [] [.slice none 0 0,.slice none 0 0] [] (heap_alloc_new w27 _) rfl⟩⟩ (PR.one (fun w' _=>Rd.nil w') (fun w' _=>Rd.nil w')))
    clear k27 hrb hrl ka
    go_wp2_with (refine xa4w rfl (.tmp 187) rfl (.slice none 0 0) (.slice none 0 0) rfl ?_)
    refine Calls.mono (xa2m 1 _ [([],[])] _ (by omega) (uh HRP) xb5f) ?_
    rintro e w28 ⟨rfl,k28⟩
    have HK28:=hide ((uh HK27).trans ((uh HKP).trans k28 (by simp)) (by simp))
    clear k28 HRP HKP
    generalize sumD ((1:Nat):Int) (buckB [([],[])]) = R3 at HRL3 ⊢
    go_wp2_with (refine xa2t rfl (.tmp 186) (.tmp 189) _ rfl R3 R3 (uh HRL3) (uh HRL3) rfl rfl ?_; rw [decide_eq_true rfl])
    refine Calls.mono (xa7z _ w28) ?_
    rintro e w29 ⟨rfl,k29⟩
    have HK29:=hide ((uh HK28).trans k29 (by simp))
    clear k29
    go_wp2_with fail
    refine Calls.mono (xb5s _ _ w29) ?_
    rintro e w30 ⟨rfl,k30⟩
    have HK30:=hide ((uh HK29).trans k30 (by simp))
    clear k30
    go_wp2_with fail
    refine Calls.mono (xa6u _ w30) ?_
    rintro e w31 ⟨rfl,k31⟩
    have HK31:=hide ((uh HK30).trans k31 (by simp))
    clear k31
    go_wp2_with fail
    refine Calls.mono (xb0n _ w31) ?_
    rintro e w32 ⟨rfl,k32⟩
    have HK32:=hide ((uh HK31).trans k32 (by simp))
    clear k32
    go_wp2_with (refine xa2b rfl (.const (.int .i64 65)) (.const (.int .i64 65)) rfl 65 (by omega) rfl rfl ?_; intro w33 v33 k33 r33; obtain ⟨d1,d2,d3,rfl,_⟩:=id r33)
    have HK33:=hide ((uh HK32).trans k33 (by simp))
    clear k33 r33
    refine Calls.mono (xa7z _ w33) ?_
    rintro e w34 ⟨rfl,k34⟩
    have HK34:=hide ((uh HK33).trans k34 (by simp))
    clear k34
    go_wp2_with fail
    refine Calls.mono (xb2k w34) ?_
    rintro e w35 ⟨rfl,k35⟩
    have HK35:=hide ((uh HK34).trans k35 (by simp))
    clear k35
    go_wp2_with fail
    refine Calls.mono (xb0t w35) ?_
    rintro e w36 ⟨rfl,k36⟩
    have HK36:=hide ((uh HK35).trans k36 (by simp))
    clear k36
    go_wp2_with fail
    refine Calls.mono (xb1f w36) ?_
    rintro e w37 ⟨rfl,k37⟩
    have HK37:=hide ((uh HK36).trans k37 (by simp))
    clear k37
    go_wp2_with (refine xa4u rfl (.tmp 264) (.tmp 265) _ rfl (List.replicate 32 0) (List.replicate 32 0) (by simp) (by simp) rfl rfl ?_; rw [decide_eq_true rfl])
    refine Calls.mono (xa8r w37) ?_
    rintro e w38 ⟨rfl,k38⟩
    have HK38:=hide ((uh HK37).trans k38 (by simp))
    clear k38
    go_wp2_with fail
    go_ret
    exact ⟨by first | rfl | simp,(uh HK38).below (Nat.le_refl _) (by simp)⟩
   ·refine xa4f (.const (.int .i64 256)) (.const (.int .i64 256)) rfl 256 (by omega) rfl rfl ?_
    intro w21 v21 k21 r21
    refine ⟨hd2.trans k21 (by simp),?_⟩
    refine xa4f (.const (.int .i64 64)) (.const (.int .i64 64)) rfl 64 (by omega) rfl rfl ?_
    intro w22 v22 k22 r22
    have hk22:=(hd2.trans k21 (by simp)).trans k22 (by simp)
    refine ⟨hk22,?_⟩
    have r21:=r21.old k22 (by simp)
    simp only [Act.put,sa1,sa2,sa3]
    refine ChL.call rfl Tryz.call16 [.pointer (some ⟨g,0,none⟩),v22,v21] rfl (xa4z S 1 _ _ _ [] (List.replicate 64 0) (List.replicate 256 0) w22 ((uh HM20).agr (Agr.nil hk22)) r22 r21 (by simp) (by simp) (by decide) (uh HS _) ((uh HT).k ((uh HK20).trans hk22 (by simp)))) ?_
    rintro e w23 ⟨m23,rfl,hm23,k23⟩
    have hk23:=hk22.trans k23 (by simp)
    refine ⟨_,rfl,hk23,?_⟩
    simp only [Act.put,sa1,sa2,sa3]
    obtain ⟨gx,rfl⟩:=hm23.form
    refine ChL.op (.tuple #[.pointer (some ⟨gx,0,none⟩),.int .i64 0]) (by go_simp) hk23 (by simp only [Act.put,sa1,sa2,sa3]; rfl) (ChL.fin ⟨hk23,?_⟩)
    refine LinY.rd (.pointer (some ⟨gx,0,none⟩)) (fun W hW=>by go_simp) (by simp only [Act.put,sa1,sa2,sa3]; rfl) ?_
    refine LinY.rd (.int .i64 0) (fun W hW=>by go_simp) (by simp only [Act.put,sa1,sa2,sa3]; rfl) ?_
    refine LinY.rd (.pointer (some ⟨gx,0,none⟩)) (fun W hW=>by go_simp) (by simp only [Act.put,sa1,sa2,sa3]; rfl) ?_
    refine LinY.rd (.int .i64 0) (fun W hW=>by go_simp) (by simp only [Act.put,sa1,sa2,sa3]; rfl) ?_
    refine LinY.fin ?_
    have HX:=hide hm23
    have HM23:=hide ((uh HM20).agr (Agr.nil hk23))
    have HK23:=hide ((uh HK20).trans hk23 (by simp))
    have HXL:=hide (show (insP (hsZ 1) (List.replicate 64 0) (List.replicate 256 0) []).length = 1 from rfl)
    generalize insP (hsZ 1) (List.replicate 64 0) (List.replicate 256 0) [] = LX at HX HXL
    clear hm23 k23 hk23 k21 k22 r21 r22 hk22 hd2
    go_wp2_with fail
    refine Calls.mono (xa4z S 1 _ _ _ [] [] [] w23 (uh HM23) (Rd.nil _) (Rd.nil _) (by simp) (by simp) (by decide) (uh HS _) ((uh HT).k (uh HK23))) ?_
    rintro e w24 ⟨m24,rfl,hm24,k24⟩
    obtain ⟨gy,rfl⟩:=hm24.form
    have HY:=hide (show MapAt S 1 w24 (.pointer (some ⟨gy,0,none⟩)) [([],[])] from hm24)
    have HX24:=hide ((uh HX).agr (Agr.nil k24))
    have HK24:=hide ((uh HK23).trans k24 (by simp))
    clear hm24 k24 HX HM23
    go_wp2_with fail
    refine Calls.mono (xa5m S 1 _ LX w24 (uh HX24)) ?_
    rintro e w25 ⟨rfl,k25⟩
    rw [uh HXL]
    have HY25:=hide ((uh HY).agr (Agr.nil k25))
    have HK25:=hide ((uh HK24).trans k25 (by simp))
    clear k25 HX24 HY
    go_wp2_with fail
    refine Calls.mono (xb0l S 1 _ _ _ [] w25 (uh HY25) (Rd.nil _) (by simp) ((uh HT).k (uh HK25))) ?_
    rintro e w26 ⟨ov,rfl,r26,_,k26⟩
    have r26:Rd w26 ov []:=r26
    obtain ⟨oa,oc,rfl⟩:=xb4z r26
    have hfn:fnd [] [(([]:List Nat),([]:List Nat))] = true:=rfl
    rw [hfn]
    have HY26:=hide ((uh HY25).agr (Agr.nil k26))
    have HK26:=hide ((uh HK25).trans k26 (by simp))
    clear r26 k26 hfn HY25
    go_wp2_with fail
    refine Calls.mono (xa3k S 1 _ _ w26 (uh HY26) ((uh HT).k (uh HK26))) ?_
    rintro e w27 ⟨rfl,k27⟩
    have HK27:=hide ((uh HK26).trans k27 (by simp))
    have hrb:rootP 1 [([],[])] = sumD (1:Nat) (buckB [([],[])]):=xb4n
    have hrl:=xa3b 1 (by omega) [([],[])]
    rw [hrb] at hrl ⊢
    have HRL3:=hide hrl
    have ka:=(Kept.refl [] w27).alloc (.cells #[.slice none 0 0,.slice none 0 0] 46)
    have HKP:=hide ka
    have HRP:=hide (show RdK (w27.alloc (.cells #[.slice none 0 0,.slice none 0 0] 46)) (.slice (some ⟨w27.heap.size,0,none⟩) 1 1) [([],[])] from rdk_of (T:=fun _=>True) (l:=[(.slice none 0 0,.slice none 0 0)]) ⟨_,1,1,rfl,rfl,Nat.le_refl _,by omega,fun _=>⟨w27.heap.size,0,rfl,fun j hj=>by
     have h0:j = 0:=by rw [xa0t] at hj; simp at hj; omega
     subst h0
     exact xa0o [] [.slice none 0 0,.slice none 0 0] [] (heap_alloc_new w27 _) rfl⟩⟩ (PR.one (fun w' _=>Rd.nil w') (fun w' _=>Rd.nil w')))
    clear k27 hrb hrl ka
    go_wp2_with (refine xa4w rfl (.tmp 187) rfl (.slice none 0 0) (.slice none 0 0) rfl ?_)
    refine Calls.mono (xa2m 1 _ [([],[])] _ (by omega) (uh HRP) xb5f) ?_
    rintro e w28 ⟨rfl,k28⟩
    have HK28:=hide ((uh HK27).trans ((uh HKP).trans k28 (by simp)) (by simp))
    clear k28 HRP HKP
    generalize sumD ((1:Nat):Int) (buckB [([],[])]) = R3 at HRL3 ⊢
    go_wp2_with (refine xa2t rfl (.tmp 186) (.tmp 189) _ rfl R3 R3 (uh HRL3) (uh HRL3) rfl rfl ?_; rw [decide_eq_true rfl])
    refine Calls.mono (xa7z _ w28) ?_
    rintro e w29 ⟨rfl,k29⟩
    have HK29:=hide ((uh HK28).trans k29 (by simp))
    clear k29
    go_wp2_with fail
    refine Calls.mono (xb5s _ _ w29) ?_
    rintro e w30 ⟨rfl,k30⟩
    have HK30:=hide ((uh HK29).trans k30 (by simp))
    clear k30
    go_wp2_with fail
    refine Calls.mono (xa6u _ w30) ?_
    rintro e w31 ⟨rfl,k31⟩
    have HK31:=hide ((uh HK30).trans k31 (by simp))
    clear k31
    go_wp2_with fail
    refine Calls.mono (xb0n _ w31) ?_
    rintro e w32 ⟨rfl,k32⟩
    have HK32:=hide ((uh HK31).trans k32 (by simp))
    clear k32
    go_wp2_with (refine xa2b rfl (.const (.int .i64 65)) (.const (.int .i64 65)) rfl 65 (by omega) rfl rfl ?_; intro w33 v33 k33 r33; obtain ⟨d1,d2,d3,rfl,_⟩:=id r33)
    have HK33:=hide ((uh HK32).trans k33 (by simp))
    clear k33 r33
    refine Calls.mono (xa7z _ w33) ?_
    rintro e w34 ⟨rfl,k34⟩
    have HK34:=hide ((uh HK33).trans k34 (by simp))
    clear k34
    go_wp2_with fail
    refine Calls.mono (xb2k w34) ?_
    rintro e w35 ⟨rfl,k35⟩
    have HK35:=hide ((uh HK34).trans k35 (by simp))
    clear k35
    go_wp2_with fail
    refine Calls.mono (xb0t w35) ?_
    rintro e w36 ⟨rfl,k36⟩
    have HK36:=hide ((uh HK35).trans k36 (by simp))
    clear k36
    go_wp2_with fail
    refine Calls.mono (xb1f w36) ?_
    rintro e w37 ⟨rfl,k37⟩
    have HK37:=hide ((uh HK36).trans k37 (by simp))
    clear k37
    go_wp2_with (refine xa4u rfl (.tmp 264) (.tmp 265) _ rfl (List.replicate 32 0) (List.replicate 32 0) (by simp) (by simp) rfl rfl ?_; rw [decide_eq_true rfl])
    refine Calls.mono (xa8r w37) ?_
    rintro e w38 ⟨rfl,k38⟩
    have HK38:=hide ((uh HK37).trans k38 (by simp))
    clear k38
    go_wp2_with fail
    go_ret
    exact ⟨by first | rfl | simp,(uh HK38).below (Nat.le_refl _) (by simp)⟩
  ·have h4:i = 0∨i = 1∨i = 2:=by omega
   rcases h4 with rfl | rfl | rfl
   ·have hc:=(uh HKr).cell (uh HC0) (by simp)
    go_wp2_with fail
    refine Calls.mono (xb0m (0) wr (by decide)) ?_
    rintro e w2 ⟨rfl,k2⟩
    have HK2:=hide ((uh HKr).trans k2 (by simp))
    clear k2 hc
    go_wp2_with fail
    refine ⟨⟨1,by first | rfl | go_num,by omega,HK2⟩,?_⟩
    simp [intOf]
   ·have hc:=(uh HKr).cell (uh HC1) (by simp)
    go_wp2_with fail
    refine Calls.mono (xb0m (33) wr (by decide)) ?_
    rintro e w2 ⟨rfl,k2⟩
    have HK2:=hide ((uh HKr).trans k2 (by simp))
    clear k2 hc
    go_wp2_with fail
    refine ⟨⟨2,by first | rfl | go_num,by omega,HK2⟩,?_⟩
    simp [intOf]
   ·have hc:=(uh HKr).cell (uh HC2) (by simp)
    go_wp2_with fail
    refine Calls.mono (xb0m (-1) wr (by decide)) ?_
    rintro e w2 ⟨rfl,k2⟩
    have HK2:=hide ((uh HKr).trans k2 (by simp))
    clear k2 hc
    go_wp2_with fail
    refine ⟨⟨3,by first | rfl | go_num,by omega,HK2⟩,?_⟩
    simp [intOf]
end
section
open Go.ChangeShapes Go.WideShapes Go.ChangeAt Go.RowKit Go.Deep
theorem own:ownKnob Tryz.prog.godebug = none:=by kernel_rfl
section
variable {H:Type} {enc:TypeId × Value→H} {W:World}
end
end
end Go.Proofs.YtbobbnbjnadalaaGreatDoor
