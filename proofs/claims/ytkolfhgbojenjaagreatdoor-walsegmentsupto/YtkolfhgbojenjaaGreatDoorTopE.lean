import Derived.Test.YtkolfhgbojenjaaGreatDoorTopD
namespace Go.Proofs.YtkolfhgbojenjaaGreatDoor
set_option linter.unusedVariables false
set_option linter.unusedSimpArgs false
set_option maxRecDepth 100000
section
open Go.RowKit Go.BigFrame Go.Maps Go.Sort
def zLf:Lf:=⟨.slice none 0 0,0,.slice none 0 0,false,0,.slice none 0 0,[],[],[]⟩
theorem Tryz.infoLf:(Tryz.prog.info? 39).map (fun i=>(i.zero,i.size,i.bytes)) = some (some (.agg #[.slice none 0 0,.int .i64 0,.slice none 0 0,.bool false,.int .i64 0,.slice none 0 0]),6,96):=by kernel_rfl
theorem xb5e {w:World} {base e s g:Nat} (h:w.heap[g]? = some (.cells #[] e (0,0))) (hb:base≤g):w.ownsRow base e s (.slice (some ⟨g,0,none⟩) 0 0) 0 [] :=
 ⟨by simp,Or.inr ⟨g,0,#[],rfl,hb,h,Nat.le_refl _,by decide,by simp,by simp⟩⟩
theorem xc4h {g:Nat} {w:World} {x:Lf} (h:LifeO g w x.fv x.sv x.kv x.fl x.os x.ks):∀ u∈lfC x,u.oneCell' = true:=by
 obtain ⟨⟨fa,f2,fc,hfv,_⟩,⟨ka,k2,kc,hkv,_⟩⟩:=h.rd [] w (Kept.refl _ _) (by simp)
 obtain ⟨t9,_,_,hts⟩:=h.so
 obtain ⟨sa,s2,sc,hsv,_⟩:=(hts [] w (Kept.refl _ _) (by simp)).1
 intro u hu
 simp only [lfC,List.mem_cons,List.not_mem_nil,or_false] at hu
 rcases hu with rfl | rfl | rfl | rfl | rfl | rfl
 ·rw [hfv]; rfl
 ·rfl
 ·rw [hsv]; rfl
 ·rfl
 ·rfl
 ·rw [hkv]; rfl
theorem froz6 {w:World} {b:Nat} {cs:Array Value} {t:TypeId} (h:w.heap[b]? = some (.cells cs t (0,0))):w.frozen? ⟨b,0,none⟩ = false∧w.frozen? ⟨b,1,none⟩ = false:=⟨frozen_of_row _ _ _ _ _ h,frozen_of_row _ _ _ _ _ h⟩
theorem xc3u (A:List DF) (j:Nat):totA (A.take j)≤totA A:=by
 conv=>rhs; rw [← List.take_append_drop j A]
 unfold totA
 rw [List.map_append,List.sum_append]; omega
theorem xc4m:∀ u∈lfC zLf,u.oneCell' = true:=by
 intro u hu
 simp only [lfC,zLf,List.mem_cons,List.not_mem_nil,or_false] at hu
 rcases hu with rfl | rfl | rfl | rfl | rfl | rfl <;> rfl
theorem xc5i {w:World} {H:Nat} {t:TypeId} (h:w.heap[H]? = some (.cells #[.slice none 0 0,.int .i64 0,.slice none 0 0,.bool false,.int .i64 0,.slice none 0 0] t (0,0))):RdC 6 w (.slice (some ⟨H,0,none⟩) 1 1) [lfC zLf]:=by
 refine ⟨_,_,_,rfl,rfl,Nat.le_refl _,by omega,fun _=>⟨H,0,rfl,fun i hi j u hu=>?_⟩⟩
 have hi0:i = 0:=by simp at hi; omega
 subst hi0
 simp only [List.getElem_cons_zero,lfC,zLf] at hu
 match j with
 | 0=>simp only [List.getElem?_cons_zero,Option.some.injEq] at hu; subst hu; have h9:=cell_of_row _ _ 0 _ _ _ h; simpa using h9
 | 1=>simp only [List.getElem?_cons_succ,List.getElem?_cons_zero,Option.some.injEq] at hu; subst hu; have h9:=cell_of_row _ _ 1 _ _ _ h; simpa using h9
 | 2=>simp only [List.getElem?_cons_succ,List.getElem?_cons_zero,Option.some.injEq] at hu; subst hu; have h9:=cell_of_row _ _ 2 _ _ _ h; simpa using h9
 | 3=>simp only [List.getElem?_cons_succ,List.getElem?_cons_zero,Option.some.injEq] at hu; subst hu; have h9:=cell_of_row _ _ 3 _ _ _ h; simpa using h9
 | 4=>simp only [List.getElem?_cons_succ,List.getElem?_cons_zero,Option.some.injEq] at hu; subst hu; have h9:=cell_of_row _ _ 4 _ _ _ h; simpa using h9
 | 5=>simp only [List.getElem?_cons_succ,List.getElem?_cons_zero,Option.some.injEq] at hu; subst hu; have h9:=cell_of_row _ _ 5 _ _ _ h; simpa using h9
 | j + 6=>simp at hu
def AlH (W:World) (u:Value) (cs:Array Value) (w:World):Prop:=∃ g,u = .pointer (some ⟨g,0,none⟩)∧W.heap.size≤g∧g < w.heap.size∧w.heap[g]? = some (.cells cs 53 (0,0))
theorem xb0h {W w:World} (k:Kept [] W w):AlH W (.pointer (some ⟨w.heap.size,0,none⟩)) #[.int .u64 0,.int .u64 0,.int .u64 0,.int .i64 0] (w.alloc (.cells #[.int .u64 0,.int .u64 0,.int .u64 0,.int .i64 0] 53)):=⟨_,rfl,k.size,by simp,heap_alloc_new _ _⟩
theorem xa3l {o:Oper} {a:Act} {w:World} {K:Act→World→Prop} {Q:Exit→Act→World→Prop} (ho:o.op = .alloc 53) (h:K (a.put o.dst (.pointer (some ⟨w.heap.size,0,none⟩))) (w.alloc (.cells #[.int .u64 0,.int .u64 0,.int .u64 0,.int .i64 0] 53))):o.wp Tryz.prog a w K Q:=by
 unfold Oper.wp execOp
 simp only [ho]
 go_simp
 exact h
theorem froz4 {w:World} {b:Nat} {cs:Array Value} {t:TypeId} (h:w.heap[b]? = some (.cells cs t (0,0))):w.frozen? ⟨b,0,none⟩ = false∧w.frozen? ⟨b,1,none⟩ = false∧w.frozen? ⟨b,2,none⟩ = false∧w.frozen? ⟨b,3,none⟩ = false:=⟨frozen_of_row _ _ _ _ _ h,frozen_of_row _ _ _ _ _ h,frozen_of_row _ _ _ _ _ h,frozen_of_row _ _ _ _ _ h⟩
theorem hput4 {w:World} {b:Nat} {x0 x1 x2 x3:Value} {t:TypeId} (h:w.heap[b]? = some (.cells #[x0,x1,x2,x3] t (0,0))) (y0 y1 y2 y3:Value):((((w.setCell ⟨b,0,none⟩ y0).setCell ⟨b,1,none⟩ y1).setCell ⟨b,2,none⟩ y2).setCell ⟨b,3,none⟩ y3).heap[b]? = some (.cells #[y0,y1,y2,y3] t (0,0)):=by
 have h1:=heap_setCell_same _ _ 0 _ _ y0 h
 have h2:=heap_setCell_same _ _ 1 _ _ y1 h1
 have h3:=heap_setCell_same _ _ 2 _ _ y2 h2
 have h4:=heap_setCell_same _ _ 3 _ _ y3 h3
 exact h4
theorem xc3t {X5 w':World} {g:Nat} {x0 x1 x2 x3:Value} (hg1:X5.heap.size≤g) (hg2:g < w'.heap.size) (hg3:w'.heap[g]? = some (.cells #[x0,x1,x2,x3] 53 (0,0))) (k:Kept [] X5 w') (y0 y1 y2 y3:Value):AlH X5 (.pointer (some ⟨g,0,none⟩)) #[y0,y1,y2,y3] ((((w'.setCell ⟨g,0,none⟩ y0).setCell ⟨g,1,none⟩ y1).setCell ⟨g,2,none⟩ y2).setCell ⟨g,3,none⟩ y3)∧Kept [] X5 ((((w'.setCell ⟨g,0,none⟩ y0).setCell ⟨g,1,none⟩ y1).setCell ⟨g,2,none⟩ y2).setCell ⟨g,3,none⟩ y3):=by
 have kS:Kept [g] w' ((((w'.setCell ⟨g,0,none⟩ y0).setCell ⟨g,1,none⟩ y1).setCell ⟨g,2,none⟩ y2).setCell ⟨g,3,none⟩ y3):=((((Kept.refl [g] w').setCell (p:=⟨g,0,none⟩) (.inl (by simp)) _).setCell (p:=⟨g,1,none⟩) (.inl (by simp)) _).setCell (p:=⟨g,2,none⟩) (.inl (by simp)) _).setCell (p:=⟨g,3,none⟩) (.inl (by simp)) _
 exact ⟨⟨g,rfl,hg1,Nat.lt_of_lt_of_le hg2 kS.size,hput4 hg3 y0 y1 y2 y3⟩,k.trans kS (fun x hx=>Or.inr (by rw [List.mem_singleton.1 hx]; exact hg1))⟩
set_option maxHeartbeats 8000000 in
theorem walSegments_walk (sec wd lim:Int) (v:Value) (ls:List Lf) (W:World) (h1:-9223372036854775808≤sec∧sec≤9223372036854775807) (hr:RdC 6 W v (ls.map lfC)) (ho:∀ x∈ls,LifeO W.heap.size W x.fv x.sv x.kv x.fl x.os x.ks∧Rng x.n) (hs:(ls.map lfW).sum + 1≤1048576) (hv:VarsS W) :
  Calls Tryz.prog 4 #[.agg #[.int .i64 sec,.int .i64 wd,.int .i64 lim,v]] W fun r w'=>r = .returned (.bool true)∧Below W.heap.size W w':=by
 obtain ⟨va,vl,vc,rfl,hvl,_⟩:=id hr
 rw [List.length_map] at hvl
 subst hvl
 have kA:=(Kept.refl [] W).alloc (.cells #[.int .i64 sec,.int .i64 wd,.int .i64 lim,.slice va ls.length vc] 24)
 have hA:=heap_alloc_new W (.cells #[.int .i64 sec,.int .i64 wd,.int .i64 lim,.slice va ls.length vc] 24)
 obtain ⟨W1,hW1⟩:∃ X,W.alloc (.cells #[.int .i64 sec,.int .i64 wd,.int .i64 lim,.slice va ls.length vc] 24) = X:=⟨_,rfl⟩
 rw [hW1] at kA hA
 have HW1:=hide hW1
 have HKA:=hide kA
 have HA:=hide hA
 have HR:=hide hr
 have HO:=hide ho
 have HVG:=hide (VarsG.start hv)
 have HAW:=hide (xb3k W1 (((VarsG.start hv).old kA).now))
 obtain ⟨FR,hFR⟩:∃ FR,FrR sec [] = FR:=⟨_,rfl⟩
 have HFR:=hide hFR
 clear hW1 kA hA hr ho hv hFR
 go_enter Tryz.func4,Tryz.ntmps4
 go_upto_region 1 with fail
 rw [uh HW1]
 go_wp2_with fail
 refine Calls.mono (uh HAW) ?_
 rintro e w1 ⟨rfl,k1⟩
 have HK1:=hide ((uh HKA).trans k1 (by simp))
 have HS1:=hide (by have h9:=k1.size; have h8:W1.heap.size = W.heap.size + 1:=(by rw [← uh HW1]; simp); omega:W.heap.size + 1≤w1.heap.size)
 have HA1:=hide (k1.heap (uh HA) (by simp))
 have HN:=hide (xc3d sec w1)
 rw [uh HFR] at HN
 obtain ⟨b0,b1,b2,b3⟩:=cells4 (uh HA1)
 clear k1 HAW HA
 go_wp2_with fail
 refine Calls.mono (uh HN) ?_
 rintro e w2 ⟨p,rfl,k2,hp0,hp1⟩
 have HK2:=hide ((uh HK1).trans k2 (by simp))
 have HS2:=hide (by have h9:=k2.size; have:=uh HS1; omega:W.heap.size + 1≤w2.heap.size)
 have HA2:=hide (k2.heap (uh HA1) (by simp))
 have HP0:=hide hp0
 have HP1:=hide hp1
 clear k2 hp0 hp1 HN b0 b1 b2 b3 HA1
 obtain ⟨b0,b1,b2,b3⟩:=cells4 (uh HA2)
 by_cases h0:FR = 0
 ·subst h0
  obtain ⟨d,D,hpd,hD,hDn⟩:=uh HP1 (by simp)
  subst hpd
  have HD2:=hide hD
  have HDN:=hide hDn
  clear hD hDn HP0 HP1
  have kB:=(Kept.refl [] w2).alloc (.cells #[.slice none 0 0,.int .i64 0] 44)
  have hB:=heap_alloc_new w2 (.cells #[.slice none 0 0,.int .i64 0] 44)
  go_upto_region 8 with fail
  obtain ⟨w3,hw3⟩:∃ X,w2.alloc (.cells #[.slice none 0 0,.int .i64 0] 44) = X:=⟨_,rfl⟩
  have HZ3:=hide (by rw [← hw3]; simp:w3.heap.size = w2.heap.size + 1)
  rw [hw3] at kB hB ⊢
  have HK3:=hide ((uh HK2).trans kB (by simp))
  have HA3:=hide (kB.heap (uh HA2) (by simp))
  have HKR3:=hide hB
  have HD3:=hide ((uh HD2).old kB)
  have HGD:=hide (fun x hx=>Nat.le_trans (uh HS1) (uh HDN x hx):∀ x∈D,W.heap.size + 1≤x)
  have HDL:=hide ((uh HD2).lt:∀ x∈D,x < w2.heap.size)
  clear kB hB hw3 HD2 HDN b0 b1 b2 b3 HA2
  obtain ⟨b0,b1,b2,b3⟩:=cells4 (uh HA3)
  have HKE:=hide ((Kept.refl [] w3).alloc (.cells #[] 39))
  have HNE:=hide (heap_alloc_new w3 (.cells #[] 39))
  have b3':=(uh HKE).cell b3 (by simp)
  obtain ⟨w4,hw4⟩:∃ X,w3.alloc (.cells #[] 39) = X:=⟨_,rfl⟩
  rw [hw4] at HKE HNE b3'
  have HZ4:=hide (by rw [← hw4]; simp:w4.heap.size = w3.heap.size + 1)
  have HW4:=hide hw4
  have HO4:=hide (xb5e (base:=w3.heap.size) (s:=6) (uh HNE) (Nat.le_refl _))
  have HR4:=hide ((uh HR).old ((uh HK3).trans (uh HKE) (by simp)))
  have HLL:=hide (by have h9:=xc0q ls; omega:ls.length≤1048575)
  have HL6:=hide (fun r (hr:r∈ls.map lfC)=>by obtain ⟨a,_,rfl⟩:=List.mem_map.1 hr; rfl:∀ r∈ls.map lfC,r.length = 6)
  have HLO1:=hide (fun r (hr:r∈ls.map lfC)=>by
   obtain ⟨a,ha,rfl⟩:=List.mem_map.1 hr
   exact xc4h (uh HO a ha).1:∀ r∈ls.map lfC,∀ u∈r,u.oneCell' = true)
  clear b0 b1 b2 b3 hw4
  go_upto_region 9 with (first
   | rw [uh HW4]
   | (at_builtin; first | (refine xa1a rfl 22 39 (.tmp 36) (.tmp 38) rfl rfl w4 w3.heap.size (.agg #[.slice none 0 0,.int .i64 0,.slice none 0 0,.bool false,.int .i64 0,.slice none 0 0]) 6 96 Tryz.underlying22 Tryz.infoLf rfl (by decide) (.slice (some ⟨w3.heap.size,0,none⟩) 0 0) 0 [] (uh HO4) va ls.length vc (ls.map lfC) (uh HR4) (uh HL6) (uh HLO1) (by have:=uh HLL; omega) (by have:=uh HLL; omega) (by have:=uh HZ4; omega) rfl rfl ?_; intro a5 cap5 w5 HO5 HGR5 HA5; rw [Nat.zero_add,List.nil_append] at HO5; rw [Nat.zero_add] at HA5 ⊢) | (have HK6:=hide ((Kept.refl [] w5).alloc (.cells #[.slice none 0 0,.int .i64 0,.slice none 0 0,.bool false,.int .i64 0,.slice none 0 0] 39)); have HN6:=hide (xc5i (heap_alloc_new w5 (.cells #[.slice none 0 0,.int .i64 0,.slice none 0 0,.bool false,.int .i64 0,.slice none 0 0] 39))); refine xa1a rfl 22 39 (.tmp 39) (.tmp 41) rfl rfl _ w3.heap.size (.agg #[.slice none 0 0,.int .i64 0,.slice none 0 0,.bool false,.int .i64 0,.slice none 0 0]) 6 96 Tryz.underlying22 Tryz.infoLf rfl (by decide) (.slice a5 ls.length cap5) ls.length (ls.map lfC).flatten ((uh HK6).owns (uh HO5) (by simp)) (some ⟨w5.heap.size,0,none⟩) 1 1 [lfC zLf] (uh HN6) (by intro r hr; rw [List.mem_singleton.1 hr]; rfl) (by intro r hr; rw [List.mem_singleton.1 hr]; exact xc4m) (by have:=uh HLL; omega) (by have:=uh HLL; omega) (by have:=(uh HK6).size; have h9:=(uh HGR5).size; have:=uh HZ4; omega) rfl rfl ?_; intro a6 cap6 w6 HO6 HGR6 HA6; obtain ⟨n6,hn6⟩:∃ n6,ls.length + 1 = n6:=⟨_,rfl⟩; rw [hn6] at HO6 HA6 ⊢; (have HN6n:=hide hn6); clear hn6)))
  have hkA:Kept [w3.heap.size] w4 w5:=(Kept.refl _ _).grown (uh HGR5) (by intro k hk; left; simp [Value.ownBlock] at hk; simp [hk])
  have hkB:Kept (Value.slice a5 ls.length cap5).ownBlock.toList w5 w6:=((uh HK6).mono (by simp)).trans ((Kept.refl _ _).grown (uh HGR6) (by intro k hk; left; simp [hk])) (fun x hx=>Or.inl hx)
  have hk36:Kept [] w3 w6:=((uh HKE).trans hkA (fun x hx=>Or.inr (by rw [List.mem_singleton.1 hx]; exact Nat.le_refl _))).trans hkB (fun x hx=>Or.inr ((uh HO5).lt x (by simpa using hx)).1)
  have hrl:RdC 6 w6 (.slice a6 n6 cap6) ((ls++[zLf]).map lfC):=by
   have h9:=uh HO6
   refine xb5b (base:=w3.heap.size) (e:=39) ?_ ?_
   ·rw [List.length_map,List.length_append,List.map_append,List.flatten_append,show ls.length + [zLf].length = n6 from uh HN6n]
    exact h9
   ·intro r hr
    obtain ⟨a,_,rfl⟩:=List.mem_map.1 hr
    rfl
  have HBL:=hide (fun x (hx:x∈blk (.slice a6 n6 cap6))=>(uh HO6).lt x (xa7e (uh HO6) hx):∀ x∈blk (.slice a6 n6 cap6),w3.heap.size≤x∧x < w6.heap.size)
  have HRL:=hide hrl
  have HK6':=hide ((uh HK3).trans hk36 (by simp))
  have HRN6:=hide (hk36.heap (uh HA3) (by simp))
  have HS6:=hide (by have:=hk36.size; have:=uh HZ3; have:=uh HS2; omega:W.heap.size + 1≤w6.heap.size)
  have HZ6:=hide (by have:=hk36.size; have:=uh HZ3; omega:w2.heap.size < w6.heap.size)
  have hks0:KS w6 w6 w2.heap.size D (.slice none 0 0) [] 0:=⟨hk36.heap (uh HKR3) (by simp),OwnX.none _ (Nat.le_refl _),fun hm=>by have:=uh HDL _ hm; omega,uh HZ6⟩
  have HKS0:=hide hks0
  have HD6:=hide ((uh HD3).old hk36)
  have HBD0:=hide (fun x (hx:x∈blk (.slice a6 n6 cap6)) hm=>by have h9:=(uh HBL x hx).1; have h8:=uh HDL x hm; have:=uh HZ3; omega:∀ x∈blk (.slice a6 n6 cap6),x∉D)
  have hI0:Inv wd 0 (⟨sec.toNat,0,0,false,fun _=>none,[]⟩:DSt).A [] 0:=xb9d wd
  have HI0:=hide hI0
  have HPH0:=hide (by simp [phi]:phi (⟨sec.toNat,0,0,false,fun _=>none,[]⟩:DSt).A≤0)
  have HKBg:=hide (uh HS2:W.heap.size + 1≤w2.heap.size)
  have HKB3:=hide (by have:=uh HZ3; omega:w2.heap.size < w3.heap.size)
  clear hkA hkB hk36 hrl hks0 hI0 HO4 HR4 HL6 HLO1 HKE HNE b3' HO5 HGR5 HA5 HK6 HN6 HO6 HGR6 HW4 HZ4 HD3 HKR3 HA3 HDL
  obtain ⟨σ0,hσ0⟩:∃ s,(⟨sec.toNat,0,0,false,fun _=>none,[]⟩:DSt) = s:=⟨_,rfl⟩
  have HOF0:=hide (by rw [← hσ0]:σ0.off = false)
  rw [hσ0] at HD6 HPH0 HI0
  clear hσ0
  generalize hkbe:w2.heap.size = kb at HKS0 HZ6 HKBg HKB3 ⊢
  clear hkbe
  obtain ⟨Ls,hLs⟩:∃ Ls,ls++[zLf] = Ls:=⟨_,rfl⟩
  have HLN:=hide (by rw [← hLs,List.length_append]; exact uh HN6n:Ls.length = n6)
  have HSS:=hide (by rw [← hLs,List.map_append,List.sum_append]; show (ls.map lfW).sum + (0 + 0 + 1 + 0)≤1048576; omega:(Ls.map lfW).sum≤1048576)
  have HOL:=hide (fun x (hx:x∈Ls)=>by
   rw [← hLs] at hx
   rcases List.mem_append.1 hx with hx | hx
   ·exact (uh HO x hx).1
   ·rw [List.mem_singleton.1 hx]; exact LifeO.zero _ W:∀ x∈Ls,LifeO W.heap.size W x.fv x.sv x.kv x.fl x.os x.ks)
  rw [hLs] at HRL
  clear hLs HO HR HN6n HLL
  obtain ⟨b0,b1,b2,b3⟩:=cells4 (uh HRN6)
  go_wp2_with fail
  go_loopw [6,7,44] (fun t6 t7 t44 wr=>∃ (i:Nat) (B:List Nat) (σ:DSt) (my:List (Nat × List En)) (mu:Nat) (mv:Value) (tk:List (Nat × Value × List En)) (km en nn:Nat),i≤n6∧t44 = .int .i64 (i:Int)∧t6 = .int .u64 (en:Int)∧t7 = .int .u64 (nn:Int)∧Hid (DK wr d B (6 * ((Ls.take i).map lfW).sum) (40048 * ((Ls.take i).map lfW).sum) σ)∧Hid (σ.off = false)∧Hid (Inv wd ((Ls.take i).map lfW).sum σ.A my mu)∧Hid (phi σ.A≤48240 * ((Ls.take i).map lfW).sum)∧Hid (KS w6 wr kb B mv tk km)∧Hid (tk.length≤((Ls.take i).map lfW).sum)∧Hid ((nn = 0∧en = 0)∨Pd wd nn en σ.A)∧Hid (Kept [] W wr)∧Hid (wr.heap[W.heap.size]? = some (.cells #[.int .i64 sec,.int .i64 wd,.int .i64 lim,.slice va ls.length vc] 24 (0,0)))∧Hid (RdC 6 wr (.slice a6 n6 cap6) (Ls.map lfC))∧Hid (∀ x∈blk (.slice a6 n6 cap6),x∉B)∧Hid (∀ x∈B,W.heap.size + 1≤x)∧Hid (w6.heap.size≤wr.heap.size)) (fun _ _ t _=>n6 - (intOf t).toNat)
  case atStart=>exact ⟨0,D,σ0,[],0,.slice none 0 0,[],0,0,0,Nat.zero_le _,rfl,rfl,rfl,hide ((uh HD6).more (Nat.zero_le _) (Nat.zero_le _)),HOF0,HI0,hide (by have:=uh HPH0; omega),HKS0,hide (by simp),hide (Or.inl ⟨rfl,rfl⟩),HK6',HRN6,HRL,HBD0,HGD,hide (Nat.le_refl _)⟩
  case round =>
   clear HD6 HOF0 HI0 HPH0 HKS0 HK6' HRN6 HRL HBD0 HGD b0 b1 b2 b3
   obtain ⟨i,B,σ,my,mu,mv,tk,km,en,nn,hi,rfl,rfl,rfl,HD,HOFF,HI,HPH,HKS,HTK,HPD,HK,HA,HRL,HBB,HGB,HNW⟩:=hrel
   by_cases hlt:i < n6
   ·have hlt':(i:Int) < n6:=by omega
    have hltL:i < Ls.length:=by have:=uh HLN; omega
    obtain ⟨qa,ql,qc,hq1,hq2,hq3,hq4,hq5⟩:=uh HRL
    injection hq1 with r1 r2 r3
    subst r1 r2 r3
    obtain ⟨bk,o2,rfl,hcc⟩:=hq5 (by omega)
    have hri:=hcc i (by rw [List.length_map]; exact hltL)
    rw [List.getElem_map] at hri
    have hlo:=uh HOL Ls[i] (List.getElem_mem hltL)
    have HSM:=hide (xc1n Ls i hltL)
    have HSL:=hide (lfW_le Ls (i + 1))
    clear hcc hq2 hq4 hq5
    generalize Ls[i] = X at hri hlo HSM
    obtain ⟨fv,cr,sv,cut,n,kv,fl,os,ks⟩:=X
    dsimp only at hlo
    obtain ⟨⟨fa,f2,fc,hfv,_⟩,⟨ka,k2,kc,hkv,_⟩⟩:=hlo.rd [] W (Kept.refl _ _) (by simp)
    obtain ⟨t9,hos9,hte9,hts⟩:=hlo.so
    obtain ⟨sa,s2,sc,hsv,_⟩:=(hts [] W (Kept.refl _ _) (by simp)).1
    subst hfv hkv hsv
    have x0:=hri 0 _ rfl
    have x1:=hri 1 _ rfl
    have x2:=hri 2 _ rfl
    have x3:=hri 3 _ rfl
    have x4:=hri 4 _ rfl
    have x5:=hri 5 _ rfl
    simp only [Nat.add_zero] at x0
    have hic:(i:Int) < cap6:=by omega
    have ha1:IntKind.i64.wrap ((i:Int) + 1) = (i:Int) + 1:=by rw [IntKind.wrap_i64]; have:=uh HLN; have:=xc0q Ls; have:=uh HSS; omega
    have hOO:OldO W.heap.size W (.slice sa s2 sc) os:=fun M w' k hM=>⟨t9,hos9,(hts M w' k hM).1,fun t ht=>⟨(hts M w' k hM).2 t ht,hte9 t ht⟩⟩
    have HOO:=hide hOO
    have HLO:=hide hlo
    have hsm:=uh HSM
    have hlw:lfW ⟨.slice fa f2 fc,cr,.slice sa s2 sc,cut,n,.slice ka k2 kc,fl,os,ks⟩ = fl.length + os.length + 1:=rfl
    have hsl:=uh HSL
    have hss:=uh HSS
    rw [hlw] at hsm
    have HNB:=hide (⟨hsm,by omega,by omega⟩:((Ls.take (i + 1)).map lfW).sum = ((Ls.take i).map lfW).sum + (fl.length + os.length + 1)∧((Ls.take (i + 1)).map lfW).sum≤1048576∧os.length≤1048576)
    clear hri hlo hts hos9 hte9 hOO hsm hlw hsl hss HSM HSL hq3
    generalize hSi:((Ls.take i).map lfW).sum = Si at HD HI HPH HTK HNB
    generalize hSj:((Ls.take (i + 1)).map lfW).sum = Sj at HNB
    obtain ⟨b0,b1,b2,b3⟩:=cells4 (uh HA)
    go_upto_region 11 with fail
    have kA:=(Kept.refl [] wr).alloc (.cells #[.slice fa f2 fc,.int .i64 cr,.slice sa s2 sc,.bool cut,.int .i64 n,.slice ka k2 kc] 39)
    have hA:=heap_alloc_new wr (.cells #[.slice fa f2 fc,.int .i64 cr,.slice sa s2 sc,.bool cut,.int .i64 n,.slice ka k2 kc] 39)
    obtain ⟨V1,hV1⟩:∃ X,wr.alloc (.cells #[.slice fa f2 fc,.int .i64 cr,.slice sa s2 sc,.bool cut,.int .i64 n,.slice ka k2 kc] 39) = X:=⟨_,rfl⟩
    have HZ1:=hide (by rw [← hV1]; simp:V1.heap.size = wr.heap.size + 1)
    rw [hV1] at kA hA ⊢
    have HD1:=hide ((uh HD).old kA)
    have hof:=off_D9 d _ _ B σ V1 (uh HD1)
    rw [uh HOFF] at hof
    have HOF:=hide hof
    have HL1:=hide hA
    have HK1:=hide kA
    clear kA hA hV1 hof x0 x1 x2 x3 x4 x5 b0 b1 b2 b3
    go_wp2_with fail
    refine Calls.mono (uh HOF) ?_
    rintro e v8 ⟨rfl,h8⟩
    rw [h8]
    clear h8 v8 HOF
    obtain ⟨fz0,_⟩:=froz6 (uh HL1)
    obtain ⟨a0,a1,a2,a3,a4,a5⟩:=cells6 (uh HL1)
    go_upto_region 14 with fail
    have kS:Kept [wr.heap.size] V1 (V1.setCell ⟨wr.heap.size,0,none⟩ (.slice none 0 0)):=(Kept.refl _ _).setCell (Or.inl (by simp)) _
    have hS:(V1.setCell ⟨wr.heap.size,0,none⟩ (.slice none 0 0)).heap[wr.heap.size]? = some (.cells #[.slice none 0 0,.int .i64 cr,.slice sa s2 sc,.bool cut,.int .i64 n,.slice ka k2 kc] 39 (0,0)):=by rw [heap_setCell_same _ _ 0 _ _ _ (uh HL1)]; rfl
    obtain ⟨V2,hV2⟩:∃ X,V1.setCell ⟨wr.heap.size,0,none⟩ (.slice none 0 0) = X:=⟨_,rfl⟩
    rw [hV2] at kS hS ⊢
    have HKr:=hide ((uh HK1).trans kS (fun x hx=>Or.inr (by rw [List.mem_singleton.1 hx]; exact Nat.le_refl _)))
    have HL2:=hide hS
    have HZ2:=hide (by have:=kS.size; have:=uh HZ1; omega:wr.heap.size + 1≤V2.heap.size)
    have HDlt:=hide ((uh HD).lt:∀ x∈B,x < wr.heap.size)
    have HPL:=hide (plan_D d _ _ B σ (.slice none 0 0) [] 0 V2 ((uh HD).old (uh HKr)) (RdC.nil 2 V2) (by simp [zblk]) (by simp) (by simp))
    have hpe:stPlan σ [] 0 = dH σ.sec 0 σ.A:=by
     have h9:=uh HOFF
     unfold stPlan dH fstF
     rw [h9]
     rfl
    rw [hpe] at HPL
    clear kS hS hV2 hpe fz0 a0 a1 a2 a3 a4 a5 HD1 HK1 HL1 HZ1
    go_wp2_with fail
    refine Calls.mono (uh HPL) ?_
    rintro e V3 ⟨B3,rfl,hd3,ev3⟩
    have hd3':=hd3
    simp only [List.length_nil,Nat.add_zero] at hd3'
    have HD3:=hide hd3'
    have HEV3:=hide ev3
    have HB3:=hide (fun x (hx:x∈B3)=>by
     rcases ev3.2 x hx with h9 | h9
     ·exact Or.inl h9
     ·have:=uh HZ2; exact Or.inr (by omega):∀ x∈B3,x∈B∨wr.heap.size + 1≤x)
    have HK3r:=hide (((uh HKr).mono (M:=B) (by simp)).trans ev3.1 (fun x hx=>Or.inl hx))
    have HL3:=hide (ev3.1.heap (uh HL2) (fun hm=>by have:=uh HDlt _ hm; omega))
    have HZ3:=hide (by have:=ev3.1.size; have:=uh HZ2; omega:wr.heap.size + 1≤V3.heap.size)
    have HCH:Hid (Ch wd Si 0 0 0 σ.A):=hide (uh HI).1
    have hnm:nmsOf (dH σ.sec 0 σ.A) = σ.A.map (fun f=>f.nm.data.toList):=(uh HI).1.names (σ:=dH σ.sec 0 σ.A) rfl
    have HNC:=hide (xb0j d _ _ B3 _ V3 hd3' (by have:=uh HNB; omega))
    rw [hnm] at HNC
    clear hd3 hd3' ev3 hnm HPL HL2 HKr
    go_wp2_with fail
    refine Calls.mono (uh HNC) ?_
    rintro e V4 ⟨v4,rfl,ho4,k4⟩
    have HRS:=hide (xa8l ho4)
    have HD4:=hide ((uh HD3).old k4)
    have HK4r:=hide ((uh HK3r).trans k4 (by simp))
    have HL4:=hide (k4.heap (uh HL3) (by simp))
    have HZ4:=hide (by have:=k4.size; have:=uh HZ3; omega:wr.heap.size + 1≤V4.heap.size)
    have HEV4:=hide (⟨(uh HEV3).1.trans k4 (by simp),(uh HEV3).2⟩:Kept B V2 V4∧∀ x∈B3,x∈B∨V2.heap.size≤x)
    obtain ⟨ua,ul,uc,rfl,g1,g2,g3,g4⟩:=uh HRS
    rw [List.length_map] at g1
    subst g1
    have H4:=hide g4
    have HDi:=hide ((uh HCH).pair.2)
    have HBT:=hide (fun f (hf:f∈σ.A)=>(uh HD4).byt f hf:∀ f∈σ.A,f.bs.length≤40048 * Si)
    have HLNA:=hide ((uh HD4).len:σ.A.length≤6 * Si)
    clear ho4 k4 g4 HRS HNC HD3 HK3r HL3 HZ3 HEV3
    obtain ⟨wO,hwO⟩:∃ x,x = wr:=⟨_,rfl⟩
    subst hwO
    go_wp2_with fail
    go_loopw [10,11,56] (fun t10 t11 t56 wq=>∃ (j:Nat) (av:Value) (ta:List (Nat × Value × List En)) (cj:Nat),j≤σ.A.length∧t56 = .int .i64 (j:Int)∧t10 = av∧t11 = .int .i64 (cj:Int)∧Hid (OwnX [] V4 wq av ta)∧Hid (ta.map (fun t=>(t.1,t.2.2)) = Rb (σ.A.take j))∧Hid (cj = cnR (σ.A.take j))∧Hid (ta.length≤totA (σ.A.take j))∧Hid (Kept [] V4 wq)) (fun _ _ t _=>σ.A.length - (intOf t).toNat)
    case atStart=>exact ⟨0,.slice none 0 0,[],0,Nat.zero_le _,rfl,rfl,rfl,hide (OwnX.none _ (Nat.le_refl _)),hide (by simp [Rb]),hide (by simp [cnR]),hide (Nat.zero_le _),hide (Kept.refl _ _)⟩
    case round =>
     obtain ⟨j,av,ta,cj,hj,rfl,rfl,rfl,HOA,HTA,HCJ,HTL,HKQ⟩:=hrel
     obtain ⟨aa,ac,rfl⟩:=(uh HOA).shape
     by_cases hltj:j < σ.A.length
     ·have hltj':(j:Int) < σ.A.length:=by omega
      obtain ⟨bn,on,rfl,hcn⟩:=uh H4 (by omega)
      have q0:=(uh HKQ).cell (hcn j (by rw [List.length_map]; exact hltj)) (by simp)
      rw [List.getElem_map] at q0
      have HMJ:=hide (List.getElem_mem hltj)
      have HTJ:=hide (List.take_succ_eq_append_getElem hltj)
      generalize σ.A[j] = f at q0 HMJ HTJ
      rw [xa6a] at q0
      have huc:(j:Int) < uc:=by omega
      have hja:IntKind.i64.wrap ((j:Int) + 1) = (j:Int) + 1:=by rw [IntKind.wrap_i64]; have:=uh HLNA; have:=uh HNB; omega
      have hrd:=xb5v (σ:=dH σ.sec 0 σ.A) rfl (uh HDi) (uh HMJ)
      have HRD:=hide (read_D d _ _ B3 _ (strU f.nm.data.toList) wr ((uh HD4).old (uh HKQ)) (by
       rw [xa6b]
       have h9:=(xa3q ((uh HD4).nms f (uh HMJ))).2
       have h8:f.nm.data.toList.length = f.nm.size:=Array.length_toList
       omega) (by have:=uh HNB; omega))
      obtain ⟨P9,hP9⟩:∃ x,stRead (dH σ.sec 0 σ.A) (strU f.nm.data.toList) = x:=⟨_,rfl⟩
      rw [hP9] at HRD hrd
      obtain ⟨p9,e9⟩:=P9
      dsimp only at hrd HRD
      subst hrd
      clear hcn hP9
      go_wp2_with fail
      refine Calls.mono (uh HRD) ?_
      rintro e U1 ⟨v5,rfl,hw5,k5⟩
      have hr5:=hw5.rd
      obtain ⟨a5,n5,c5,rfl,hn5,_⟩:=id hr5
      have HKU1:=hide k5
      have HRO:=hide (xa5r _ f.bs U1 hr5 (by have h9:=uh HBT f (uh HMJ); have:=uh HNB; omega))
      clear k5 hw5 hr5 hn5 HRD q0
      go_wp2_with fail
      refine Calls.mono (uh HRO) ?_
      rintro e U2 ⟨b5,rfl,⟨ss,hss,ho5⟩,k6⟩
      obtain ⟨a7,c7,rfl⟩:=xa0q ho5.own
      obtain ⟨SE,hSE⟩:∃ x,sgE f.bs = x:=⟨_,rfl⟩
      obtain ⟨⟨xa,xb,xc,xd⟩,hX⟩:∃ x,hdC f.bs = x:=⟨_,rfl⟩
      obtain ⟨SU,hSU⟩:∃ x,sgU f.bs = x:=⟨_,rfl⟩
      rw [hSE,hX,hSU]
      dsimp only
      have kN:=(Kept.refl [] U2).alloc (.cells #[.int .u64 (xa:Int),.int .u64 (xb:Int),.int .u64 (xc:Int),.int .i64 (xd:Int),.slice a7 ss.length c7,.int .i64 (SU:Int)] 55)
      have hNw:=heap_alloc_new U2 (.cells #[.int .u64 (xa:Int),.int .u64 (xb:Int),.int .u64 (xc:Int),.int .i64 (xd:Int),.slice a7 ss.length c7,.int .i64 (SU:Int)] 55)
      have HSSl:=hide (by rw [← List.length_map (f:=fun t:Nat × Value × List En=>(t.1,t.2.2)),← hss]; exact sgB_le f.bs:ss.length≤f.bs.length)
      have HTT:=hide (by rw [uh HTJ]; simp [totA]:totA (σ.A.take (j + 1)) = totA (σ.A.take j) + f.bs.length)
      have HTE:=hide (xc3u σ.A (j + 1))
      have HO5:=hide ho5
      have HKU2:=hide ((uh HKU1).trans k6 (by simp))
      have HKU:=hide k6
      have HSS5:=hide hss
      have HSE:=hide hSE
      have HKN:=hide kN
      have HNW5:=hide hNw
      clear k6 ho5 hss hSE hX hSU kN hNw HRO
      by_cases hse:SE = 0
      ·have HRj:=hide (by rw [uh HTJ,Rb_app,← uh HTA,List.map_append]; congr 1; simp only [Rb,List.flatMap_cons,List.flatMap_nil,List.append_nil]; exact (uh HSS5).symm:(ta++ss).map (fun t=>(t.1,t.2.2)) = Rb (σ.A.take (j + 1)))
       have HCj:=hide (by rw [uh HTJ,uh HCJ]; unfold cnR; rw [List.filter_append,List.length_append]; simp [uh HSE,hse]:cj + 1 = cnR (σ.A.take (j + 1)))
       subst hse
       go_upto_region 23 with fail
       obtain ⟨U3,hU3⟩:∃ Y,U2.alloc (.cells #[.int .u64 (xa:Int),.int .u64 (xb:Int),.int .u64 (xc:Int),.int .i64 (xd:Int),.slice a7 ss.length c7,.int .i64 (SU:Int)] 55) = Y:=⟨_,rfl⟩
       rw [hU3] at HKN HNW5 ⊢
       obtain ⟨s0,s1,s2',s3,s4,s5⟩:=scells (uh HNW5)
       have HOA3:=hide ((uh HOA).pass ((uh HKU2).trans (uh HKN) (by simp)) (by simp))
       have HOB3:=hide ((uh HO5).pass (uh HKN) (by simp))
       have HTl:=hide (by have:=uh HTL; have:=uh HTT; have:=uh HTE; have:=xb4n σ.A; have:=uh HPH; have:=uh HNB; have:=uh HSSl; omega:ta.length + ss.length≤1000000000000)
       have HAVl:=hide (fun x hx=>by have h9:=((uh HOA).own.lt x hx).2; have:=(uh HKU1).size; omega:∀ x,(Value.slice aa ta.length ac).ownBlock = some x→x < U1.heap.size)
       have H01:=hide (by have:=(uh HKQ).size; have:=(uh HKU1).size; omega:V4.heap.size≤U1.heap.size)
       clear hU3
       go_upto_region 24 with (at_builtin; refine xa1a rfl 42 75 (.tmp 73) (.tmp 75) rfl rfl U3 V4.heap.size (.agg #[.int .u64 0,.slice none 0 0]) 2 32 Tryz.underlying42 Tryz.infoBt rfl (by decide) (.slice aa ta.length ac) ta.length (cellsB ta) (uh HOA3).own a7 ss.length c7 (ss.map rowB) (uh HOB3).rdC (xa8a ss) (uh HOB3).oneC (by have:=uh HTl; omega) (uh HTl) (uh HOA3).sz rfl rfl ?_; intro a8 cap8 U4 HO8 HGR8 HA8)
       rw [xa2w] at HO8
       have HKG:=hide ((Kept.refl (Value.slice aa ta.length ac).ownBlock.toList U3).grown (uh HGR8) (by intro k hk; left; simp [hk]))
       have HOX4:=hide ((uh HOA3).cat (uh HO5) (uh HKN) (by simp) (uh H01) (uh HAVl) (by simp) (by simp) (uh HO8) (uh HGR8) (uh HA8))
       have HKQ4:=hide ((uh HKQ).trans (((uh HKU2).trans (uh HKN) (by simp))) (by simp))
       have HKQ5:=hide ((uh HKQ4).trans (uh HKG) (fun x hx=>Or.inr ((uh HOA).own.lt x (by simpa using hx)).1))
       obtain ⟨nL,hnL⟩:∃ nL,ta.length + ss.length = nL:=⟨_,rfl⟩
       have hca:IntKind.i64.wrap ((cj:Int) + 1) = ((cj + 1:Nat):Int):=by
        rw [IntKind.wrap_i64]
        have h9:=uh HCJ
        have h8:cnR (σ.A.take j)≤σ.A.length:=by unfold cnR; exact Nat.le_trans (List.length_filter_le _ _) (by rw [List.length_take]; omega)
        have h7:cj≤6 * Si:=by rw [h9]; exact Nat.le_trans h8 (uh HLNA)
        have h6:=(uh HNB).1
        have h5:=(uh HNB).2.1
        omega
       clear s0 s1 s2' s3 s4 s5
       go_wp2_with fail
       go_roundw
       case rel=>exact ⟨j + 1,_,ta++ss,cj + 1,by omega,by simp,rfl,by simp,HOX4,HRj,HCj,hide (by have:=uh HTL; have:=uh HTT; have:=uh HSSl; rw [List.length_append]; omega),HKQ5⟩
       case measure=>simp [intOf]; omega
      ·have HRj:=hide (by
        rw [uh HTJ,Rb_app,← uh HTA]
        have h9:Rb [f] = []:=by
         simp only [Rb,List.flatMap_cons,List.flatMap_nil,List.append_nil]
         have h8:=uh HSE
         unfold sgE at h8
         unfold sgB
         split at h8
         ·exact absurd h8.symm hse
         ·rename_i h7; rw [if_neg h7]
        rw [h9,List.append_nil]:ta.map (fun t=>(t.1,t.2.2)) = Rb (σ.A.take (j + 1)))
       have HCj:=hide (by rw [uh HTJ,uh HCJ]; unfold cnR; rw [List.filter_append,List.length_append]; simp [uh HSE,hse]:cj = cnR (σ.A.take (j + 1)))
       have hse':((SE:Int) == 0) = false:=by rw [beq_eq_false_iff_ne]; omega
       go_wp2_with fail
       go_roundw
       case rel=>exact ⟨j + 1,_,ta,cj,by omega,by simp,rfl,rfl,hide ((uh HOA).pass ((uh HKU2).trans (uh HKN) (by simp)) (by simp)),HRj,HCj,hide (by have:=uh HTL; have:=uh HTT; omega),hide ((uh HKQ).trans ((uh HKU2).trans (uh HKN) (by simp)) (by simp))⟩
       case measure=>simp [intOf]; omega
     ·have hltj':¬ (j:Int) < σ.A.length:=by omega
      have hje:j = σ.A.length:=by omega
      subst hje
      rw [List.take_length] at HTA HCJ
      have HKW5:=hide (((uh HK).trans (uh HK4r) (fun x hx=>Or.inr (by have:=uh HGB x hx; omega))).trans (uh HKQ) (by simp))
      have HK5r:=hide ((uh HK4r).trans (uh HKQ) (by simp))
      have HA5:=hide ((uh HK5r).heap (uh HA) (fun hm=>by have:=uh HGB _ hm; omega))
      have HL5:=hide ((uh HKQ).heap (uh HL4) (by simp))
      have HZ5:=hide (by have:=(uh HKQ).size; have:=uh HZ4; omega:wO.heap.size + 1≤wr.heap.size)
      obtain ⟨b0,b1,b2,b3⟩:=cells4 (uh HA5)
      by_cases hag:argOk wd lim = true
      ·have hz:wideB wd = true:=by unfold argOk at hag; unfold wideB; simp at hag ⊢; omega
       have HZW:=hide hz
       have HNB2:=hide (by have:=uh HNB; omega:Si + 1 < 18446744073709551615)
       obtain ⟨s,A9,hop,hnx,hfs,hwd9,hgrow,hn0,he0,hpd9,hrd9,hnl,hel,hnxl⟩:=xc2b (sec:=σ.sec) (lim:=lim) (uh HI) hag (uh HNB2)
       have hSC0:=xc1h (σ:=dH σ.sec 0 σ.A) (lim:=lim) (uh HI) hag (uh HNB2)
       have hPO0:=xc1s (uh HD4).dist wd lim
       have hF5:DKf wr d B3 (6 * Si) 0 (40048 * Si) (dH σ.sec 0 σ.A):=((uh HD4).old (uh HKQ)).toF (by show (0:Int)≤0; omega)
       have hrt:rdT (dH σ.sec 0 σ.A) (nmsOf (dH σ.sec 0 σ.A))≤1000000000000:=Nat.le_trans (rdT_le _ hF5.dist) (Nat.le_trans (xb4n _) (by have h9:=uh HPH; have h8:=uh HNB; show phi σ.A≤_; omega))
       have HB3g:=hide (fun x (hx:x∈B3)=>by
        rcases uh HB3 x hx with h9 | h9
        ·exact uh HGB x h9
        ·have:=uh HNW; have:=uh HS6; omega:∀ x∈B3,W.heap.size + 1≤x)
       have HV5:=hide (((uh HVG).up (Nat.le_succ _)).old (uh HKW5))
       have hOP:=xb1b d (6 * Si) 0 (40048 * Si) (W.heap.size + 1) wd lim B3 _ wr hF5 (uh HV5) (uh HB3g) (by have:=uh HZ5; have:=uh HNW; have:=uh HS6; omega) (by have:=uh HNB; omega) (by omega) (by have:=uh HNB; omega) hrt
       rw [hop] at hOP hSC0 hPO0
       obtain ⟨τ,hτ⟩:∃ x,dH σ.sec ((cnR σ.A:Nat) + 4) A9 = x:=⟨_,rfl⟩
       have HTO:=hide (by rw [← hτ,uh HCJ]; rfl:τ.op = (cj:Int) + 4)
       have HTA9:=hide (by rw [← hτ]; exact hpd9:Pd wd s.num s.ep τ.A)
       have HTR:=hide (by rw [← hτ]; exact hrd9:stRead τ (nmB s.num) = (ehB s.num s.ep s.nx wd,0))
       have HTF:=hide (by rw [← hτ]; rfl:τ.off = false)
       rw [hτ] at hOP hSC0 hPO0
       obtain ⟨hs1,hs2,hs3,s9,hs4,hs5,hs6,hs7,hs8⟩:=hSC0.2.2 rfl
       have hs9:s = s9:=by simpa using hs4
       subst hs9
       have HSC:Hid (ScI wd (Si + 1) ⟨τ,s,Rb σ.A,(Rb σ.A).length⟩):=hide hs8
       have HPHO:Hid (phi τ.A≤phi σ.A + 4144∧Dist τ.A):=hide hPO0
       have HGW:Hid (nn < s.num∧en < s.ep):=hide (by
        rcases uh HPD with ⟨h8,h9⟩ | h9
        ·omega
        ·exact hgrow nn en h9)
       have HLM:Hid (s.num < 18446744073709551616∧s.ep < 18446744073709551616∧s.nx < 18446744073709551616):=hide ⟨hnl,hel,hnxl⟩
       have HOP:Hid (Calls Tryz.prog 16 #[.pointer (some ⟨d,0,none⟩),.int .i64 wd,.int .i64 lim] wr fun e w'=>∃ B4 l bv ts,e = .returned (.tuple #[.pointer (some ⟨l,0,none⟩),bv,.int .i64 0])∧wr.heap.size≤l∧LK w' l d B4 (6 * Si + 1) (0 + 6 * Si + 4) (40048 * Si + 48) τ s∧OwnX (l :: B4) wr w' bv ts∧Ev wr w' B3 B4∧Rb σ.A = ts.map (fun t=>(t.1,t.2.2))):=hide (Calls.mono hOP (by
        rintro e w' ⟨B4,lp,bv,ts,rfl,hA⟩
        obtain ⟨l,h7,h8,h9,h10⟩:=hA.so s rfl
        subst h7
        exact ⟨B4,l,bv,ts,rfl,h8,h9,h10,hA.ev,hA.bs⟩))
       have HW9:=hide hwd9
       clear hOP hSC0 hPO0 hF5 hrt hop hnx hfs hwd9 hgrow hn0 he0 hpd9 hrd9 hnl hel hnxl hs1 hs2 hs3 hs4 hs5 hs6 hs7 hs8 hτ hz hag
       go_wp2_with fail
       refine Calls.mono (uh HOP) ?_
       rintro e X1 ⟨B4,l,bv,ts,rfl,hl1,hLK1,hOX1,hev1,hbs1⟩
       obtain ⟨ba,bc,rfl⟩:=hOX1.shape
       have HB4:=hide (fun x (hx:x∈B4)=>by
        rcases hev1.2 x hx with h9 | h9
        ·exact uh HB3 x h9
        ·have:=uh HZ5; exact Or.inr (by omega):∀ x∈B4,x∈B∨wO.heap.size + 1≤x)
       have HLW:=hide (by have:=uh HZ5; omega:wO.heap.size + 1≤l)
       have HKX1:=hide ((uh HK5r).trans hev1.1 (fun x hx=>(uh HB3 x hx).imp id (by omega)))
       have HWX1:=hide ((uh HKW5).trans hev1.1 (fun x hx=>Or.inr (by have:=uh HB3g x hx; omega)))
       have HL6:=hide (hev1.1.heap (uh HL5) (fun hm=>by
        rcases uh HB3 _ hm with h9 | h9
        ·have:=uh HDlt _ h9; omega
        ·omega))
       have HA6:=hide (hev1.1.heap (uh HA5) (fun hm=>by have:=uh HB3g _ hm; omega))
       have HOX2:=hide ((uh HOA).pass hev1.1 (fun x hx=>Or.inl ((uh HD4).lt x hx)))
       have HOX1:=hide hOX1
       have HLK1:=hide hLK1
       have HBS1:=hide hbs1
       have HSN:=hide (xa1v l d s X1 hLK1.row)
       have HNM:=hide (xa5z s.num X1 (uh HLM).1 ((uh HV5).on hev1.1 (uh HB3g)).now)
       have HSX1:=hide (hev1.1.size)
       clear hOX1 hLK1 hev1 hbs1 HOP b0 b1 b2 b3
       go_wp2_with fail
       refine Calls.mono (uh HSN) ?_
       rintro e v8 ⟨rfl,h8⟩
       rw [h8]
       clear h8 v8
       go_wp2_with fail
       refine Calls.mono (uh HNM) ?_
       rintro e X2 ⟨rfl,k2⟩
       have HTR':Hid (stRead τ (strB (nmL s.num)) = (ehB s.num s.ep s.nx wd,0)):=HTR
       have HRD2:Hid (Calls Tryz.prog 14 #[.pointer (some ⟨d,0,none⟩),.string (strB (nmL s.num))] X2 fun e w'=>∃ v,e = .returned (.tuple #[v,.int .i64 0])∧NwB X2 w' v (ehB s.num s.ep s.nx wd)∧Kept [] X2 w'):=hide (by
        have h9:=read_D d _ _ B4 τ (strB (nmL s.num)) X2 ((uh HLK1).dk.toDK.old k2) (by rw [xa0p,xb6f]; omega) (by have:=uh HNB; omega)
        rw [uh HTR'] at h9
        exact h9)
       have HKX2:=hide k2
       clear k2 HNM HSN
       go_wp2_with fail
       refine Calls.mono (uh HRD2) ?_
       rintro e X3 ⟨v5,rfl,hw5,k3⟩
       have hr5:=hw5.rd
       obtain ⟨a5,n5,c5,rfl,hn5,_⟩:=id hr5
       have HKX3:=hide ((uh HKX2).trans k3 (by simp))
       have HRO2:Hid (Calls Tryz.prog 15 #[.slice a5 n5 c5] X3 fun e w'=>∃ bv su,e = .returned (.tuple #[.agg #[.int .u64 (s.num:Int),.int .u64 (s.ep:Int),.int .u64 (s.nx:Int),.int .i64 wd,bv,.int .i64 su],.int .i64 0])∧(∃ a n c,bv = .slice a n c)∧Kept [] X3 w'):=hide (by
        have hh:=xa8t (uh HLM).1 (uh HLM).2.1 (uh HLM).2.2 (uh HZW) []
        rw [List.append_nil] at hh
        have hE:sgE (ehB s.num s.ep s.nx wd) = 0:=by unfold sgE; rw [hh]; rfl
        have hC:hdC (ehB s.num s.ep s.nx wd) = ⟨s.num,s.ep,s.nx,wd.toNat⟩:=by unfold hdC; rw [hh]; rfl
        have hwn:((wd.toNat:Nat):Int) = wd:=by have h9:=uh HZW; simp [wideB] at h9; omega
        refine Calls.mono (xa5r _ (ehB s.num s.ep s.nx wd) X3 hr5 (by rw [xa1u (uh HZW)]; omega)) ?_
        rintro e w' ⟨bv,rfl,⟨ss,_,ho⟩,k⟩
        obtain ⟨a,c,rfl⟩:=xa0q ho.own
        rw [hC,hE]
        dsimp only
        rw [hwn]
        exact ⟨_,_,rfl,⟨_,_,_,rfl⟩,k⟩)
       clear k3 hw5 hr5 hn5 HRD2
       go_wp2_with fail
       refine Calls.mono (uh HRO2) ?_
       rintro e X4 ⟨bv4,su,rfl,⟨a7,n7,c7,rfl⟩,k4⟩
       have kN:=(Kept.refl [] X4).alloc (.cells #[.int .u64 (s.num:Int),.int .u64 (s.ep:Int),.int .u64 (s.nx:Int),.int .i64 wd,.slice a7 n7 c7,.int .i64 su] 55)
       have hNw:=heap_alloc_new X4 (.cells #[.int .u64 (s.num:Int),.int .u64 (s.ep:Int),.int .u64 (s.nx:Int),.int .i64 wd,.slice a7 n7 c7,.int .i64 su] 55)
       go_upto_region 31 with fail
       obtain ⟨X5,hX5⟩:∃ Y,X4.alloc (.cells #[.int .u64 (s.num:Int),.int .u64 (s.ep:Int),.int .u64 (s.nx:Int),.int .i64 wd,.slice a7 n7 c7,.int .i64 su] 55) = Y:=⟨_,rfl⟩
       rw [hX5] at kN hNw ⊢
       have HN5:=hide hNw
       have HK15:=hide (((uh HKX3).trans k4 (by simp)).trans kN (by simp))
       have HG5:=hide (by rw [← hX5]; simp:X4.heap.size < X5.heap.size)
       have HR5:=hide ((uh HK15).heap (uh HLK1).row (by simp))
       have hA7:=(uh HK15).heap (uh HA6) (by simp)
       obtain ⟨b0,b1,b2,b3⟩:=cells4 hA7
       clear kN hNw hX5 k4 HRO2 hA7 b0 b2 b3
       refine xc4g (by kernel_rfl) (by kernel_rfl) (by kernel_rfl) (by kernel_rfl) (by kernel_rfl) (by kernel_rfl) (by kernel_rfl) (by kernel_rfl) (by kernel_rfl) (by kernel_rfl) (by kernel_rfl) (by kernel_rfl) (by kernel_rfl) (by kernel_rfl) (by kernel_rfl) (by kernel_rfl) (by kernel_rfl) (by kernel_rfl) (by kernel_rfl) (by kernel_rfl) (by kernel_rfl) (by kernel_rfl) (by kernel_rfl) (by kernel_rfl) (by kernel_rfl) rfl rfl rfl rfl rfl (by simp) (by simp) (by simp) (by simp)
        (.pointer (some ⟨l,0,none⟩)) (.pointer (some ⟨l,0,none⟩)) (.pointer (some ⟨l,0,none⟩)) (.pointer (some ⟨W.heap.size,1,none⟩)) (.int .i64 wd) _ _ _ _ _
        (fun w'=>Kept [] X5 w')
        (fun w'=>Kept [] X5 w')
        (fun u1 w'=>u1 = .int .u64 (s.num:Int)∧Kept [] X5 w')
        (fun u9 w'=>AlH X5 u9 #[.int .u64 0,.int .u64 0,.int .u64 0,.int .i64 0] w'∧Kept [] X5 w')
        (fun u1 u3 w'=>u1 = .int .u64 (s.num:Int)∧u3 = .int .u64 (s.ep:Int)∧Kept [] X5 w')
        (fun u1 u9 w'=>u1 = .int .u64 (s.num:Int)∧AlH X5 u9 #[.int .u64 0,.int .u64 0,.int .u64 0,.int .i64 0] w'∧Kept [] X5 w')
        (fun u1 u3 u5 w'=>u1 = .int .u64 (s.num:Int)∧u3 = .int .u64 (s.ep:Int)∧u5 = .int .u64 (s.nx:Int)∧Kept [] X5 w')
        (fun u1 u3 u9 w'=>u1 = .int .u64 (s.num:Int)∧u3 = .int .u64 (s.ep:Int)∧AlH X5 u9 #[.int .u64 0,.int .u64 0,.int .u64 0,.int .i64 0] w'∧Kept [] X5 w')
        (fun u1 u3 u5 u9 w'=>u1 = .int .u64 (s.num:Int)∧u3 = .int .u64 (s.ep:Int)∧u5 = .int .u64 (s.nx:Int)∧AlH X5 u9 #[.int .u64 0,.int .u64 0,.int .u64 0,.int .i64 0] w'∧Kept [] X5 w')
        (fun u1 u3 u5 u9 u10 w'=>u1 = .int .u64 (s.num:Int)∧u3 = .int .u64 (s.ep:Int)∧u5 = .int .u64 (s.nx:Int)∧AlH X5 u9 #[.int .u64 (s.num:Int),.int .u64 (s.ep:Int),.int .u64 (s.nx:Int),.int .i64 wd] w'∧Kept [] X5 w')
        (fun u1 u3 u5=>.agg #[u1,u3,u5,.int .i64 wd])
        (by simp only [Act.put,sa1,sa2,sa3]; rfl) (by exact Or.inl ⟨by rfl,fun W' hW'=>by go_simp⟩)
        (by simp only [Act.put,sa1,sa2,sa3]; rfl) (by exact Or.inl ⟨by rfl,fun W' hW'=>by go_simp⟩)
        (by simp only [Act.put,sa1,sa2,sa3]; rfl) (by exact Or.inl ⟨by rfl,fun W' hW'=>by go_simp⟩)
        (by simp only [Act.put,sa1,sa2,sa3]; rfl) (by exact Or.inl ⟨by rfl,fun W' hW'=>by go_simp⟩)
        (by simp only [Act.put,sa1,sa2,sa3]; rfl) (by exact Or.inl ⟨by rfl,fun W' hW'=>by have h9:=hW'.cell b1 (by simp); go_simp⟩)
        (Kept.refl [] X5).drew
        ⟨fun w' h=>h,fun u1 w' h=>h.2,fun u9 w' h=>h.2,fun u1 u3 w' h=>h.2.2,fun u1 u9 w' h=>h.2.2,fun u1 u3 u5 w' h=>h.2.2.2,fun u1 u3 u9 w' h=>h.2.2.2,fun u1 u3 u5 u9 w' h=>h.2.2.2.2,fun u1 u3 u5 u9 u10 w' h=>h.2.2.2.2⟩
        (by
         intro w' k K hK
         simp only [Act.put,sa1,sa2,sa3] at hK ⊢
         refine xa0f rfl Tryz.call18 [.pointer (some ⟨l,0,none⟩)] rfl (xa1v l d s w' (k.heap (uh HR5) (by simp))) ?_
         rintro e w3 ⟨rfl,rfl⟩
         exact ⟨_,rfl,hK _ _ ⟨rfl,k⟩⟩)
        (by
         intro w' k K hK
         exact xa3l rfl (hK _ _ ⟨xb0h k,k.alloc _⟩))
        (by
         rintro u1 w' ⟨rfl,k⟩ K hK
         simp only [Act.put,sa1,sa2,sa3] at hK ⊢
         refine xa0f rfl Tryz.call19 [.pointer (some ⟨l,0,none⟩)] rfl (xa2p l d s w' (k.heap (uh HR5) (by simp))) ?_
         rintro e w3 ⟨rfl,rfl⟩
         exact ⟨_,rfl,hK _ _ ⟨by trivial,rfl,k⟩⟩)
        (by
         rintro u1 w' ⟨rfl,k⟩ K hK
         exact xa3l rfl (hK _ _ ⟨rfl,xb0h k,k.alloc _⟩))
        (by
         rintro u9 w' ⟨ha,k⟩ K hK
         simp only [Act.put,sa1,sa2,sa3] at hK ⊢
         refine xa0f rfl Tryz.call18 [.pointer (some ⟨l,0,none⟩)] rfl (xa1v l d s w' (k.heap (uh HR5) (by simp))) ?_
         rintro e w3 ⟨rfl,rfl⟩
         exact ⟨_,rfl,hK _ _ ⟨rfl,ha,k⟩⟩)
        (by
         rintro u1 u3 w' ⟨rfl,rfl,k⟩ K hK
         simp only [Act.put,sa1,sa2,sa3] at hK ⊢
         refine xa0f rfl Tryz.call20 [.pointer (some ⟨l,0,none⟩)] rfl (xa2r l d s w' (k.heap (uh HR5) (by simp))) ?_
         rintro e w3 ⟨rfl,rfl⟩
         exact ⟨_,rfl,hK _ _ ⟨by trivial,by trivial,rfl,k⟩⟩)
        (by
         rintro u1 u3 w' ⟨rfl,rfl,k⟩ K hK
         exact xa3l rfl (hK _ _ ⟨rfl,rfl,xb0h k,k.alloc _⟩))
        (by
         rintro u1 u9 w' ⟨rfl,ha,k⟩ K hK
         simp only [Act.put,sa1,sa2,sa3] at hK ⊢
         refine xa0f rfl Tryz.call19 [.pointer (some ⟨l,0,none⟩)] rfl (xa2p l d s w' (k.heap (uh HR5) (by simp))) ?_
         rintro e w3 ⟨rfl,rfl⟩
         exact ⟨_,rfl,hK _ _ ⟨by trivial,rfl,ha,k⟩⟩)
        (by
         rintro u1 u3 u5 w' ⟨rfl,rfl,rfl,k⟩ K hK
         exact xa3l rfl (hK _ _ ⟨rfl,rfl,rfl,xb0h k,k.alloc _⟩))
        (by
         rintro u1 u3 u9 w' ⟨rfl,rfl,ha,k⟩ K hK
         simp only [Act.put,sa1,sa2,sa3] at hK ⊢
         refine xa0f rfl Tryz.call20 [.pointer (some ⟨l,0,none⟩)] rfl (xa2r l d s w' (k.heap (uh HR5) (by simp))) ?_
         rintro e w3 ⟨rfl,rfl⟩
         exact ⟨_,rfl,hK _ _ ⟨by trivial,by trivial,rfl,ha,k⟩⟩)
        (by
         intro u1 u3 u5 u9 w' hI K hK
         simp only [Act.put,sa1,sa2,sa3] at hK ⊢
         obtain ⟨rfl,rfl,rfl,⟨g,rfl,hg1,hg2,hg3⟩,k⟩:=hI
         obtain ⟨b0,b1,b2,b3⟩:=cells4 hg3
         obtain ⟨z0,z1,z2,z3⟩:=froz4 hg3
         obtain ⟨hP1,hP2⟩:=xc3t hg1 hg2 hg3 k (.int .u64 (s.num:Int)) (.int .u64 (s.ep:Int)) (.int .u64 (s.nx:Int)) (.int .i64 wd)
         have hK2:=hK (.bool true) ((((w'.setCell ⟨g,0,none⟩ (.int .u64 (s.num:Int))).setCell ⟨g,1,none⟩ (.int .u64 (s.ep:Int))).setCell ⟨g,2,none⟩ (.int .u64 (s.nx:Int))).setCell ⟨g,3,none⟩ (.int .i64 wd)) ⟨rfl,rfl,rfl,hP1,hP2⟩
         clear hP1 hP2 hg1 hg2 hg3 k hK
         unfold Oper.wp execOp
         go_simp
         exact hK2)
        (by rintro u1 u3 u5 w' ⟨rfl,rfl,rfl,_⟩; exact Or.inl ⟨by rfl,fun W' hW'=>by go_simp⟩)
        (by rintro u1 u3 u5 u9 w' ⟨rfl,rfl,rfl,_⟩; exact Or.inl ⟨by rfl,fun W' hW'=>by go_simp⟩)
        ?_
       rintro u1 u3 u5 u9 u10 X6 ⟨rfl,rfl,rfl,⟨g6,rfl,hg1,hg2,hg3⟩,k6⟩
       simp only [Act.put,sa1,sa2,sa3]
       have HG6:=hide hg3
       have HN6:=hide (k6.heap (uh HN5) (by simp))
       have HK16:=hide ((uh HK15).trans k6 (by simp))
       clear k6 hg1 hg2 hg3 b1 HN5 HK15 HR5
       have HBQ:Hid (Calls Tryz.prog 21 #[.slice ba ts.length bc,.slice aa ta.length ac] X6 fun e w'=>e = .returned (.bool true)∧Kept [] X6 w'):=hide (by
        have h9:=xa9b (.slice ba ts.length bc) (.slice aa ta.length ac) _ _ X6 ((uh HOX1).pass (uh HK16) (by simp)).toB.rdB ((uh HOX2).pass (uh HK16) (by simp)).toB.rdB
        rw [← uh HBS1,uh HTA,decide_eq_true rfl] at h9
        exact h9)
       go_wp2_with fail
       refine Calls.mono (uh HBQ) ?_
       rintro e X7 ⟨rfl,k7⟩
       have HK17:=hide ((uh HK16).trans k7 (by simp))
       have HR7:=hide ((uh HK17).heap (uh HLK1).row (by simp))
       have HOPS:=hide (ops_F d _ _ _ B4 τ X7 ((uh HLK1).dk.old (uh HK17)))
       rw [uh HTO] at HOPS
       have hc4:IntKind.i64.wrap ((cj:Int) + 4) = (cj:Int) + 4:=by
        rw [IntKind.wrap_i64]
        have h9:=uh HCJ
        have h8:cnR σ.A≤σ.A.length:=by unfold cnR; exact List.length_filter_le _ _
        have h7:cj≤6 * Si:=by rw [h9]; exact Nat.le_trans h8 (uh HLNA)
        have h6:=(uh HNB).1
        have h5:=(uh HNB).2.1
        omega
       have hgw1:=(uh HGW).1
       have hgw2:=(uh HGW).2
       have hge:decide ((s.ep:Int)≤(en:Int)) = false:=by have h9:=uh HGW; simp; omega
       have hgn:decide ((s.num:Int)≤(nn:Int)) = false:=by have h9:=uh HGW; simp; omega
       obtain ⟨s0,s1,s2',s3,s4,s5⟩:=scells (k7.heap (uh HN6) (by simp))
       obtain ⟨h0',h1',h2',h3'⟩:=cells4 (k7.heap (uh HG6) (by simp))
       have HSN7:=hide (xa1v l d s X7 (uh HR7))
       have HEP7:=hide (xa2p l d s X7 (uh HR7))
       clear k7 HBQ
       go_wp2_with fail
       refine Calls.mono (uh HOPS) ?_
       rintro e v8 ⟨rfl,h8⟩
       rw [h8]
       clear h8 v8 HOPS
       go_wp2_with fail
       refine Calls.mono (uh HEP7) ?_
       rintro e v8 ⟨rfl,h8⟩
       rw [h8]
       clear h8 v8
       go_wp2_with fail
       refine Calls.mono (uh HSN7) ?_
       rintro e v8 ⟨rfl,h8⟩
       rw [h8]
       clear h8 v8
       go_wp2_with fail
       refine Calls.mono (uh HEP7) ?_
       rintro e v8 ⟨rfl,h8⟩
       rw [h8]
       clear h8 v8
       go_wp2_with fail
       refine Calls.mono (uh HSN7) ?_
       rintro e v8 ⟨rfl,h8⟩
       rw [h8]
       clear h8 v8 HSN7 HEP7 s0 s1 s2' s3 s4 s5 h0' h1' h2' h3' hc4 hge hgn hgw1 hgw2 HG6 HN6
       have HL7:=hide ((uh HK17).heap (uh HL6) (by simp))
       obtain ⟨a0,a1,a2,a3,a4,a5'⟩:=cells6 (uh HL7)
       have HD7:Hid (DK X7 d B4 (6 * Si + 4) (40048 * Si + 48) τ):=hide (((uh HLK1).dk.old (uh HK17)).toDK.more (by omega) (by omega))
       have HPL7:=hide (plan_D d _ _ B4 τ (.slice none 0 0) [] cr X7 (uh HD7) (RdC.nil 2 X7) (by simp [zblk]) (by simp) (by simp))
       have HKO7:=hide ((uh HKX1).trans (uh HK17) (by simp))
       have HW7:=hide ((uh HWX1).trans (uh HK17) (by simp))
       have HA7:=hide ((uh HK17).heap (uh HA6) (by simp))
       have HLl:=hide (by have h9:=(uh HLK1).lt; have:=(uh HK17).size; omega:l < X7.heap.size)
       have HX7:=hide (by have:=(uh HKO7).size; omega:wO.heap.size≤X7.heap.size)
       have HKLW:=hide (by have h9:=(uh HKS).kl; have:=uh HNW; omega:kb < wO.heap.size)
       have HMO:=hide (fun x (hx:x∈mv.ownBlock.toList)=>(uh HKS).ow.own.lt x (by simpa using hx):∀ x∈mv.ownBlock.toList,w6.heap.size≤x∧x < wO.heap.size)
       have HB4g:=hide (fun x (hx:x∈B4)=>by
        rcases uh HB4 x hx with h9 | h9
        ·exact uh HGB x h9
        ·have:=uh HNW; have:=uh HS6; omega:∀ x∈B4,W.heap.size + 1≤x)
       go_wp2_with fail
       refine Calls.mono (uh HPL7) ?_
       rintro e X8 ⟨B8,rfl,hd8,ev8⟩
       have hd8':DK X8 d B8 (6 * Si + 4) (40048 * Si + 48) (stPlan τ [] cr):=hd8
       have HB8:=hide (fun x (hx:x∈B8)=>by
        rcases ev8.2 x hx with h9 | h9
        ·exact uh HB4 x h9
        ·have:=uh HLl; have:=uh HLW; exact Or.inr (by omega):∀ x∈B8,x∈B∨wO.heap.size + 1≤x)
       have HB8g:=hide (fun x (hx:x∈B8)=>by
        rcases uh HB8 x hx with h9 | h9
        ·exact uh HGB x h9
        ·have:=uh HNW; have:=uh HS6; omega:∀ x∈B8,W.heap.size + 1≤x)
       have HKO8:=hide ((uh HKO7).trans ev8.1 (fun x hx=>(uh HB4 x hx).imp id (by omega)))
       have HW8:=hide ((uh HW7).trans ev8.1 (fun x hx=>Or.inr (by have:=uh HB4g x hx; omega)))
       have HL8:=hide (ev8.1.heap (uh HL7) (fun hm=>by
        rcases uh HB4 _ hm with h9 | h9
        ·have:=uh HDlt _ h9; omega
        ·omega))
       have HX9s:=hide (ev8.1.size)
       have HA8:=hide (ev8.1.heap (uh HA7) (fun hm=>by have:=uh HB4g _ hm; omega))
       have hLK8:LK X8 l d B8 (6 * Si + 4) (0 + 6 * Si + 4) (40048 * Si + 48) (stPlan τ [] cr) s :=
        { row:=ev8.1.heap (uh HR7) (uh HLK1).nl
          dk:=hd8'.toF (by show (0:Int)≤_; omega)
          nl:=fun hm=>by
           rcases ev8.2 l hm with h9 | h9
           ·exact (uh HLK1).nl h9
           ·have:=uh HLl; omega
          num:=(uh HLK1).num
          ep:=(uh HLK1).ep
          nx:=(uh HLK1).nx
          wd:=(uh HLK1).wd
          bt:=(uh HLK1).bt
          byt:=(uh HLK1).byt
          lim:=(uh HLK1).lim
          st:=(uh HLK1).st }
       have hks8:KS w6 X8 kb (l :: B8) mv tk km:=⟨(uh HKO8).heap (uh HKS).row (uh HKS).kx,(uh HKS).ow.mv (uh HKO8) (fun b hb=>by
        rcases List.mem_cons.1 hb with rfl | hb
        ·have:=uh HLW; exact Or.inr (by omega)
        ·exact (uh HB8 b hb).imp id (by omega)),fun hm=>by
        rcases List.mem_cons.1 hm with h9 | h9
        ·have:=uh HLW; have:=uh HKLW; omega
        ·rcases uh HB8 _ h9 with h8 | h8
         ·exact (uh HKS).kx h8
         ·have:=uh HKLW; omega,(uh HKS).kl⟩
       have HSR:=hide (xb3i l d (6 * Si + 4) (0 + 6 * Si + 4) (40048 * Si + 48) W.heap.size kb km B8 (stPlan τ [] cr) s (.slice sa s2 sc) mv os tk w6 X8 hLK8 ((uh HVG).on (uh HW8) (by simp)) (fun x hx=>by have:=uh HB8g x hx; omega) (by have:=uh HLW; have:=uh HNW; have:=uh HS6; omega) (by have:=(uh HW8).size; omega) ((uh HOO).on (uh HW8) (by simp)) hks8 (by have:=uh HKBg; omega) (by have:=(uh HKO8).size; have:=uh HNW; omega) (by have:=uh HS6; omega) (by have:=uh HNB; omega) (by have:=uh HNB; omega) (by have:=uh HNB; omega) (by have:=uh HNB; have:=uh HTK; omega))
       have hSC8:ScI wd (Si + 1) ⟨stPlan τ [] cr,s,Rb σ.A,(Rb σ.A).length⟩:=uh HSC
       have HSI:=hide (ScI.run os hSC8 (uh HLO).byn (by have:=uh HNB; omega))
       have hsame:=xb3x os (c:=⟨stPlan τ [] cr,s,tk.map (fun t=>(t.1,t.2.2)),km⟩) (d:=⟨stPlan τ [] cr,s,Rb σ.A,(Rb σ.A).length⟩) rfl rfl
       have HPS:=hide (xc0e os (c:=⟨stPlan τ [] cr,s,tk.map (fun t=>(t.1,t.2.2)),km⟩) (uh HPHO).2 (uh HLM).2.2)
       have HPD9:=hide ((gr_run os ⟨stPlan τ [] cr,s,tk.map (fun t=>(t.1,t.2.2)),km⟩).pd (uh HTA9))
       obtain ⟨c9,hc9⟩:∃ c,scR ⟨stPlan τ [] cr,s,tk.map (fun t=>(t.1,t.2.2)),km⟩ os = c:=⟨_,rfl⟩
       rw [hc9] at HSR HPS HPD9 hsame
       have HIV:=hide (uh HSI).inv
       rw [← hsame.1] at HIV
       generalize (scR ⟨stPlan τ [] cr,s,Rb σ.A,(Rb σ.A).length⟩ os).may = my9 at HIV
       generalize (scR ⟨stPlan τ [] cr,s,Rb σ.A,(Rb σ.A).length⟩ os).must = mu9 at HIV
       clear hd8 hd8' ev8 hLK8 hks8 hSC8 hsame hc9 HSI HPL7 a0 a1 a2 a3 a4 a5' HL7 HA7
       obtain ⟨a0,a1,a2,a3,a4,a5'⟩:=cells6 (uh HL8)
       go_wp2_with fail
       refine Calls.mono (uh HSR) ?_
       rintro e X9 ⟨B9,mv9,ts9,rfl,hk9,k9,hn9,hks9,hm9⟩
       have hLL:∀ x∈kb :: l :: (mv.ownBlock.toList++B8),x≠wO.heap.size∧W.heap.size + 1≤x:=fun x hx=>by
        have:=uh HLW; have:=uh HKLW; have:=uh HNW; have:=uh HS6; have:=uh HKBg
        rcases List.mem_cons.1 hx with rfl | hx
        ·exact ⟨by omega,by omega⟩
        ·rcases List.mem_cons.1 hx with rfl | hx
         ·exact ⟨by omega,by omega⟩
         ·rcases List.mem_append.1 hx with hx | hx
          ·have:=uh HMO x hx; exact ⟨by omega,by omega⟩
          ·refine ⟨fun e=>?_,uh HB8g x hx⟩
           rcases uh HB8 x hx with h9 | h9
           ·have:=uh HDlt x h9; omega
           ·omega
       have HL9:=hide (k9.heap (uh HL8) (fun hm=>(hLL _ hm).1 rfl))
       have HA9:=hide (k9.heap (uh HA8) (fun hm=>by have:=(hLL _ hm).2; omega))
       have HW9:=hide ((uh HW8).trans k9 (fun x hx=>Or.inr (by have:=(hLL x hx).2; omega)))
       have HM9:=hide ((((uh HKO8).mono (M:=kb :: (mv.ownBlock.toList++B)) (fun x hx=>by simp [hx])).trans k9 (fun x hx=>by
        rcases List.mem_cons.1 hx with rfl | hx
        ·exact Or.inl (by simp)
        ·rcases List.mem_cons.1 hx with rfl | hx
         ·have:=uh HLW; exact Or.inr (by omega)
         ·rcases List.mem_append.1 hx with hx | hx
          ·exact Or.inl (by simp [hx])
          ·rcases uh HB8 x hx with h9 | h9
           ·exact Or.inl (by simp [h9])
           ·exact Or.inr (by omega))))
       have HB9:=hide (fun x (hx:x∈B9)=>by
        rcases hn9 x hx with h9 | h9
        ·exact uh HB8 x h9
        ·have:=(uh HKO8).size; have h8:=(uh HLW); have:=uh HLl; have h7:=(uh HX9s); exact Or.inr (by omega):∀ x∈B9,x∈B∨wO.heap.size + 1≤x)
       have HB9g:=hide (fun x (hx:x∈B9)=>by
        rcases uh HB9 x hx with h9 | h9
        ·exact uh HGB x h9
        ·have:=uh HNW; have:=uh HS6; omega:∀ x∈B9,W.heap.size + 1≤x)
       have hd9:DK X9 d B9 (6 * Si + 4 + 6 * os.length) (40048 * Si + 48 + 40048 * os.length) c9.σ:=hk9.dk.toDK.more (by omega) (by omega)
       obtain ⟨_,hksr⟩:=(uh HLO).rd [] X9 (uh HW9) (by simp)
       have HRS9:=hide (xb8l d _ _ B9 c9.σ n (.slice ka k2 kc) ks X9 hd9 (by have:=uh HNB; omega) (by have:=uh HNB; omega) hksr (fun x hx hm=>by have h9:=(uh HLO).kz x hx; have h8:=uh HB9g x hm; omega) (fun k hk=>by have h9:=(uh HLO).ko k hk; exact Nat.le_trans h9.1 (by omega)) (by have:=(uh HLO).kn; omega))
       have hks9':KS w6 X9 kb B9 mv9 ts9 c9.must:=⟨hks9.row,hks9.ow.sub (fun x hx=>List.mem_cons_of_mem _ hx),fun hm=>hks9.kx (List.mem_cons_of_mem _ hm),hks9.kl⟩
       have HKS9:=hide hks9'
       have HTS9:=hide (by
        have h9:=(uh HPS).2
        rw [← hm9,List.length_map] at h9
        have h8:(tk.map (fun t=>(t.1,t.2.2))).length = tk.length:=List.length_map _
        (try dsimp only at h9)
        rw [h8] at h9
        have:=uh HTK; have:=uh HNB; omega:ts9.length≤Sj)
       have HSEC:=hide hd9.secb
       have HX9:=hide (k9.size)
       clear hk9 k9 hn9 hks9 hks9' hm9 hLL hd9 hksr HSR a0 a1 a2 a3 a4 a5'
       obtain ⟨a0,a1,a2,a3,a4,a5'⟩:=cells6 (uh HL9)
       go_wp2_with fail
       refine Calls.mono (uh HRS9) ?_
       rintro e v2 ⟨B',rfl,hd2,ev2⟩
       have HBn:=hide (fun x (hx:x∈B')=>by
        rcases ev2.2 x hx with h9 | h9
        ·exact uh HB9 x h9
        ·have:=(uh HKO8).size; have:=uh HLl; have:=uh HLW; have:=uh HX9; have:=uh HX9s; exact Or.inr (by omega):∀ x∈B',x∈B∨wO.heap.size + 1≤x)
       have HDn:Hid (DK v2 d B' (6 * Sj) (40048 * Sj) (stRestart c9.σ n ks)):=hide (hd2.more (by have:=uh HNB; omega) (by have:=uh HNB; omega))
       have HIn:=hide ((xb2d n ks (uh HIV)).more (N':=Sj) (by have:=uh HNB; omega) (List.prefix_refl _) (uh HIV).2.2.2)
       have HPn:=hide (by
        have h9:=(uh HPS).1
        have h8:=(uh HPHO).1
        have h7:=uh HPH
        have h6:=xb1g n ks (uh HSEC).1 (uh HSEC).2 (uh HIV).1.syl
        have h5:=(uh HNB).1
        have h4:phi c9.σ.A≤phi τ.A + 48240 * os.length:=h9
        omega:phi (stRestart c9.σ n ks).A≤48240 * Sj)
       have HKn:Hid (KS w6 v2 kb B' mv9 ts9 c9.must):=hide ⟨ev2.1.heap (uh HKS9).row (uh HKS9).kx,(uh HKS9).ow.mv ev2.1 ev2.2,fun hm=>by
        rcases ev2.2 kb hm with h9 | h9
        ·exact (uh HKS9).kx h9
        ·have:=uh HKLW; have:=(uh HKO8).size; have:=uh HX9; omega,(uh HKS9).kl⟩
       have HPDn:=hide (xb4y (uh HZW) n ks (uh HPD9))
       have HWn:=hide ((uh HW9).trans ev2.1 (fun x hx=>Or.inr (by have:=uh HB9g x hx; omega)))
       have HAn:=hide (ev2.1.heap (uh HA9) (fun hm=>by have:=uh HB9g _ hm; omega))
       have HMn:=hide ((uh HM9).trans ev2.1 (fun x hx=>by
        rcases uh HB9 x hx with h9 | h9
        ·exact Or.inl (by simp [h9])
        ·exact Or.inr (by omega)))
       have HRLn:=hide ((uh HRL).kept (uh HMn) (fun x hx hm=>by
        have h1:=uh HBL x hx
        have:=uh HKB3
        rcases List.mem_cons.1 hm with rfl | hm
        ·omega
        ·rcases List.mem_append.1 hm with hm | hm
         ·have:=uh HMO x hm; omega
         ·exact uh HBB x hx hm))
       have HBBn:=hide (fun x (hx:x∈blk (.slice (some ⟨bk,o2,none⟩) n6 cap6)) (hm:x∈B')=>by
        rcases uh HBn x hm with h9 | h9
        ·exact uh HBB x hx h9
        ·have h1:=uh HBL x hx; have:=uh HNW; omega:∀ x∈blk (.slice (some ⟨bk,o2,none⟩) n6 cap6),x∉B')
       have HGn:=hide (fun x (hx:x∈B')=>by
        rcases uh HBn x hx with h9 | h9
        ·exact uh HGB x h9
        ·have:=uh HNW; have:=uh HS6; omega:∀ x∈B',W.heap.size + 1≤x)
       have HNn:=hide (by have:=(uh HMn).size; have:=uh HNW; omega:w6.heap.size≤v2.heap.size)
       clear hd2 ev2 HRS9 a0 a1 a2 a3 a4 a5'
       go_wp2_with fail
       go_roundw
       case rel=>exact ⟨i + 1,B',stRestart c9.σ n ks,my9,mu9,mv9,ts9,c9.must,s.ep,s.num,by omega,by simp,rfl,rfl,hide (by rw [hSj]; exact uh HDn),hide rfl,hide (by rw [hSj]; exact uh HIn),hide (by rw [hSj]; exact uh HPn),HKn,hide (by rw [hSj]; exact uh HTS9),hide (Or.inr (uh HPDn)),HWn,HAn,HRLn,HBBn,HGn,HNn⟩
       case measure=>simp [intOf]; omega
      ·have hag':argOk wd lim = false:=by simpa using hag
       have HOP:=hide (xb0c (.pointer (some ⟨d,0,none⟩)) (Or.inr ⟨d,rfl⟩) wd lim wr hag')
       clear hag hag'
       go_wp2_with fail
       refine Calls.mono (uh HOP) ?_
       rintro e X1 ⟨rfl,h8⟩
       rw [h8]
       clear h8 X1 HOP
       go_wp2_with fail
       go_ret
       exact ⟨rfl,(uh HKW5).below (Nat.le_refl _) (by simp)⟩
   ·have hlt':¬ (i:Int) < n6:=by omega
    go_wp2_with fail
    go_ret
    exact ⟨rfl,(uh HK).below (Nat.le_refl _) (by simp)⟩
 ·have h0':((FR:Int) != 0) = true:=by rw [bne_iff_ne]; omega
  have hpn:=uh HP0 h0
  subst hpn
  clear h0 HP0 HP1
  go_wp2_with fail
  go_ret
  exact ⟨rfl,(uh HK2).below (Nat.le_refl _) (by simp)⟩
end
section
open Go.ChangeShapes Go.WideShapes Go.ChangeAt Go.RowKit Go.Deep
section
variable {H:Type} {enc:TypeId × Value→H} {W:World}
theorem xb1k {d:DataW H} {l:List (DataW H)} (h:d∈l):Rows.uptoBulk d≤Rows.uptoBulkAll l:=by
 induction l with
 | nil=>simp at h
 | cons a l ih =>
  simp only [Rows.uptoBulkAll]
  rcases List.mem_cons.1 h with rfl | h
  ·omega
  ·have:=ih h; omega
theorem xb5a (D:Nat→DataW H) (l:List Nat) (h:∀ i∈l,1≤Rows.uptoBulk (D i)):l.length≤Rows.uptoBulkAll (l.map D):=by
 induction l with
 | nil=>simp
 | cons a l ih =>
  have h1:=h a (by simp)
  have h2:=ih (fun i hi=>h i (by simp [hi]))
  simp only [List.map_cons,Rows.uptoBulkAll,List.length_cons]
  omega
theorem xb7b (cs:List Value) (a n:Nat):cs.drop a = (cs.drop a).take n++cs.drop (a + n):=by
 rw [← List.drop_drop,List.take_append_drop]
theorem xb6z {fuel:Nat} {cs:List Value} {x:DataW H × List MemPlace} (h:DataW.trod enc Tryz.prog W 0 (fun _=>true) true fuel 71 cs = some x) (hB:Rows.uptoBulk x.1≤1048576) :
  ∃ (e:En) (kv vv:Value),cs = (enC e kv vv).toList∧OkE W e kv vv∧e.key.length + e.val.length + 2≤Rows.uptoBulk x.1:=by
 obtain ⟨xs,n,_,rfl,hl,hlen,hf⟩:=DataW.trod_struct Tryz.underlying71 h
 rw [show Tryz.prog.cellsOf 71 = 3 from by kernel_rfl] at hl
 match xs,hlen with
 | [y0,y1,y2],_ =>
  have ci:Tryz.prog.cellsOf 5 = 1:=by kernel_rfl
  have cb:Tryz.prog.cellsOf 49 = 1:=by kernel_rfl
  have f0:DataW.trod enc Tryz.prog W 0 (fun _=>true) true n 5 ((cs.drop 0).take 1) = some y0:=by rw [← ci]; exact hf 0 _ rfl
  have f1:DataW.trod enc Tryz.prog W 0 (fun _=>true) true n 49 ((cs.drop 1).take 1) = some y1:=by have this:DataW.trod enc Tryz.prog W 0 (fun _=>true) true n 49 ((cs.drop 1).take (Tryz.prog.cellsOf 49)) = some y1:=hf 1 _ rfl; rw [cb] at this; exact this
  have f2:DataW.trod enc Tryz.prog W 0 (fun _=>true) true n 49 ((cs.drop 2).take 1) = some y2:=by have this:DataW.trod enc Tryz.prog W 0 (fun _=>true) true n 49 ((cs.drop 2).take (Tryz.prog.cellsOf 49)) = some y2:=hf 2 _ rfl; rw [cb] at this; exact this
  simp only [List.map_cons,List.map_nil,Rows.uptoBulk,Rows.uptoBulkAll] at hB ⊢
  obtain ⟨k,e0,_,w0⟩:=DataW.trod_int Tryz.underlying5 f0
  obtain ⟨kv,key,e1,hr1,hb1⟩:=xa6t f1
  obtain ⟨vv,val,e2,hr2,hb2⟩:=xa6t f2
  have g1:=xa7u hb1
  have g2:=xa7u hb2
  have hk:=xa4j w0
  refine ⟨⟨k.toNat,key,val⟩,kv,vv,?_,⟨by show k.toNat < 256; omega,hr1 (by omega),hr2 (by omega)⟩,by show key.length + val.length + 2≤_; omega⟩
  have hd:cs.drop 3 = []:=List.drop_eq_nil_of_le (by omega)
  have this:=xb7b cs 0 1
  rw [e0,xb7b cs 1 1,e1,xb7b cs 2 1,e2,hd,List.drop_zero] at this
  rw [this]
  simp [enC,Int.toNat_of_nonneg hk.1]
instance:Inhabited En:=⟨⟨0,[],[]⟩⟩
theorem xa8e {fuel:Nat} {cs:List Value} {x:DataW H × List MemPlace} (h:DataW.trod enc Tryz.prog W 0 (fun _=>true) true fuel 73 cs = some x) (hB:Rows.uptoBulk x.1≤1048576) :
  ∃ v es,cs = [v]∧RdN W v es∧es.length≤1048576:=by
 rcases open_slice Tryz.underlying73 h with ⟨rfl,rfl⟩ | ⟨a,len,cap,m,n,D,Pl,rfl,_,hl,hm,hmm,rfl,hx⟩
 ·exact ⟨_,[],rfl,RdN.nil W,by simp⟩
 ·have hC:Tryz.prog.cellsOf 71 = 3:=by kernel_rfl
  rw [hC] at hx
  simp only [if_true] at hmm
  simp only [Rows.uptoBulk] at hB
  obtain ⟨f,hf⟩:=choose_lt (α:=En × Value × Value) (n:=len) (p:=fun i o=>((∀ j v,(enC o.1 o.2.1 o.2.2).toList[j]? = some v→W.cell? ((a.add (i * 3)).add j) = some v)∧OkE W o.1 o.2.1 o.2.2)∧1≤Rows.uptoBulk (D i)) (by
   intro i hi
   obtain ⟨cs',h1,h2⟩:=hx i (by omega)
   have hDi:Rows.uptoBulk (D i)≤Rows.uptoBulkAll ((List.range len).map D):=xb1k (List.mem_map.2 ⟨i,List.mem_range.2 hi,rfl⟩)
   obtain ⟨o,kv,vv,rfl,ho,hbb⟩:=xb6z h2 (by simp only; omega)
   obtain ⟨_,hlen,hc⟩:=World.cells?_some h1
   refine ⟨(o,kv,vv),⟨fun j v hv=>?_,ho⟩,by simp only at hbb; omega⟩
   have hj:=(List.getElem?_eq_some_iff.1 hv).1
   have:=hc j hj
   rw [this,← hv,List.getElem?_eq_getElem hj])
  refine ⟨_,(List.range len).map fun i=>(f i).1,rfl,⟨some a,len,cap,fun i=>(f i).2.1,fun i=>(f i).2.2,rfl,by simp,hl,by unfold maxLen at hm; omega,?_,?_⟩,?_⟩
  ·intro i hi
   have hi':i < len:=by simpa using hi
   have:=(hf i hi').1.2
   simpa using this
  ·intro hp
   obtain ⟨b,off,spot⟩:=a
   have h0:=(hf 0 hp).1
   have hc0:=h0.1 0 _ rfl
   have hspot:spot = none:=by simpa [Addr.add] using World.cell?_spot hc0
   subst hspot
   refine ⟨b,off,rfl,fun i hi j v hv=>?_⟩
   have hi':i < len:=by simpa using hi
   have e9:((List.range len).map fun i=>(f i).1)[i] = (f i).1:=by simp
   rw [e9] at hv
   have:=(hf i hi').1.1 j v hv
   rw [Addr.add_mid,Addr.add_mid] at this
   exact this
  ·have:=xb5a D (List.range len) (fun i hi=>(hf i (List.mem_range.1 hi)).2)
   simp only [List.length_map,List.length_range] at this ⊢
   omega
end
def OkO9 (W:World) (t:Bool × Value × List En):Prop:=RdN W t.2.1 t.2.2∧t.2.2.length≤1048576
def OkLf (W:World) (x:Lf):Prop:=LifeO W.heap.size W x.fv x.sv x.kv x.fl x.os x.ks∧Rng x.n
instance:Inhabited Lf:=⟨⟨undef,0,undef,false,0,undef,[],[],[]⟩⟩
instance:Inhabited (Bool × Value × List En):=⟨(false,undef,[])⟩
theorem xc2a {α:Type} (l:List α):(l.map fun _=>1).sum = l.length:=by
 induction l with
 | nil=>rfl
 | cons a r ih=>simp only [List.map_cons,List.sum_cons,List.length_cons,ih]; omega
theorem xb2b {W:World} {fv sv kv:Value} {fl:List (Int × Int)} {ts:List (Bool × Value × List En)} {ks:List KeepD} (r0:RdC 2 W fv (fl.map faC)) (a0:∀ x∈fl,OkFa x) (l0:fl.length≤1048576) (r2:RdC 2 W sv (ts.map o9C)) (a2:∀ t∈ts,OkO9 W t) (l2:ts.length≤1048576) (r4:RdC 3 W kv (ks.map keC)) (a4:∀ x∈ks,OkKe x) (l4:ks.length≤1048576):LifeO W.heap.size W fv sv kv fl (ts.map fun t=>(t.1,t.2.2)) ks:=by
 have z0:=r0.ltZ (by intro r hr; obtain ⟨a,_,rfl⟩:=List.mem_map.1 hr; simp [faC])
 have z4:=r4.ltZ (by intro r hr; obtain ⟨a,_,rfl⟩:=List.mem_map.1 hr; simp [keC])
 have hk:∀ M w',Kept M W w'→(∀ x∈M,W.heap.size≤x)→Kept [] W w':=fun M w' k hM=>⟨k.os,k.tape,k.output,k.size,fun j hj _=>k.block j hj (fun hm=>by have:=hM j hm; omega)⟩
 exact ⟨fun M w' k hM=>⟨r0.kept (hk M w' k hM) (by simp),r4.kept (hk M w' k hM) (by simp)⟩,⟨ts,rfl,fun t ht=>(a2 t ht).2,fun M w' k hM=>⟨r2.kept (hk M w' k hM) (by simp),fun t ht=>(a2 t ht).1.old (hk M w' k hM)⟩⟩,z0,z4,a0,l0,a4,l4,by rw [List.length_map]; exact l2⟩
section
variable {H:Type} {enc:TypeId × Value→H} {W:World}
theorem xc3j {fuel:Nat} {cs:List Value} {x:DataW H × List MemPlace} (h:DataW.trod enc Tryz.prog W 0 (fun _=>true) true fuel 100 cs = some x) (hB:Rows.uptoBulk x.1≤1048576) :
  ∃ t:Bool × Value × List En,cs = o9C t∧OkO9 W t∧1≤Rows.uptoBulk x.1:=by
 obtain ⟨xs,n,_,rfl,hl,hlen,hf⟩:=DataW.trod_struct Tryz.underlying100 h
 rw [show Tryz.prog.cellsOf 100 = 2 from by kernel_rfl] at hl
 match xs,hlen with
 | [y0,y1],_ =>
  have f0:DataW.trod enc Tryz.prog W 0 (fun _=>true) true n 4 ((cs.drop 0).take 1) = some y0:=by have this:DataW.trod enc Tryz.prog W 0 (fun _=>true) true n 4 ((cs.drop 0).take (Tryz.prog.cellsOf 4)) = some y0:=hf 0 _ rfl; rw [show Tryz.prog.cellsOf 4 = 1 from by kernel_rfl] at this; exact this
  have f1:DataW.trod enc Tryz.prog W 0 (fun _=>true) true n 73 ((cs.drop 1).take 1) = some y1:=by have this:DataW.trod enc Tryz.prog W 0 (fun _=>true) true n 73 ((cs.drop 1).take (Tryz.prog.cellsOf 73)) = some y1:=hf 1 _ rfl; rw [show Tryz.prog.cellsOf 73 = 1 from by kernel_rfl] at this; exact this
  simp only [List.map_cons,List.map_nil,Rows.uptoBulk,Rows.uptoBulkAll] at hB ⊢
  obtain ⟨z0,e0,q0⟩:=DataW.trod_bool Tryz.underlying4 f0
  have b0:=xa0w y0.1
  obtain ⟨v1,z1,e1,r1,a1⟩:=xa8e f1 (by omega)
  have b1:=xa0w y1.1
  have hd:cs.drop 2 = []:=List.drop_eq_nil_of_le (by omega)
  have this:=xa0u cs 0 1
  rw [e0,xa0u cs 1 1,e1,hd,List.drop_zero] at this
  exact ⟨(z0,v1,z1),by rw [this]; rfl,⟨r1,a1⟩,by omega⟩
theorem xb8m {fuel:Nat} {cs:List Value} {x:DataW H × List MemPlace} (h:DataW.trod enc Tryz.prog W 0 (fun _=>true) true fuel 34 cs = some x) (hB:Rows.uptoBulk x.1≤1048576) :
  ∃ (v:Value) (l:List (Bool × Value × List En)),cs = [v]∧RdC 2 W v (l.map o9C)∧(∀ a∈l,OkO9 W a)∧(l.map fun _=>1).sum + 1≤Rows.uptoBulk x.1 :=
 xa3p Tryz.underlying34 (by kernel_rfl:Tryz.prog.cellsOf 100 = 2) o9C (by intro a; rfl) (by decide) (OkO9 W) (fun _=>1) (fun n cs y h hB=>xc3j h hB) h hB
theorem xb8e {fuel:Nat} {cs:List Value} {x:DataW H × List MemPlace} (h:DataW.trod enc Tryz.prog W 0 (fun _=>true) true fuel 39 cs = some x) (hB:Rows.uptoBulk x.1≤1048576) :
  ∃ a:Lf,cs = lfC a∧OkLf W a∧lfW a≤Rows.uptoBulk x.1:=by
 obtain ⟨xs,n,_,rfl,hl,hlen,hf⟩:=DataW.trod_struct Tryz.underlying39 h
 rw [show Tryz.prog.cellsOf 39 = 6 from by kernel_rfl] at hl
 match xs,hlen with
 | [y0,y1,y2,y3,y4],_ =>
  have f0:DataW.trod enc Tryz.prog W 0 (fun _=>true) true n 33 ((cs.drop 0).take 1) = some y0:=by have this:DataW.trod enc Tryz.prog W 0 (fun _=>true) true n 33 ((cs.drop 0).take (Tryz.prog.cellsOf 33)) = some y0:=hf 0 _ rfl; rw [show Tryz.prog.cellsOf 33 = 1 from by kernel_rfl] at this; exact this
  have f1:DataW.trod enc Tryz.prog W 0 (fun _=>true) true n 3 ((cs.drop 1).take 1) = some y1:=by have this:DataW.trod enc Tryz.prog W 0 (fun _=>true) true n 3 ((cs.drop 1).take (Tryz.prog.cellsOf 3)) = some y1:=hf 1 _ rfl; rw [show Tryz.prog.cellsOf 3 = 1 from by kernel_rfl] at this; exact this
  have f2:DataW.trod enc Tryz.prog W 0 (fun _=>true) true n 34 ((cs.drop 2).take 1) = some y2:=by have this:DataW.trod enc Tryz.prog W 0 (fun _=>true) true n 34 ((cs.drop 2).take (Tryz.prog.cellsOf 34)) = some y2:=hf 2 _ rfl; rw [show Tryz.prog.cellsOf 34 = 1 from by kernel_rfl] at this; exact this
  have f3:DataW.trod enc Tryz.prog W 0 (fun _=>true) true n 4 ((cs.drop 3).take 1) = some y3:=by have this:DataW.trod enc Tryz.prog W 0 (fun _=>true) true n 4 ((cs.drop 3).take (Tryz.prog.cellsOf 4)) = some y3:=hf 3 _ rfl; rw [show Tryz.prog.cellsOf 4 = 1 from by kernel_rfl] at this; exact this
  have f4:DataW.trod enc Tryz.prog W 0 (fun _=>true) true n 37 ((cs.drop 4).take 2) = some y4:=by have this:DataW.trod enc Tryz.prog W 0 (fun _=>true) true n 37 ((cs.drop 4).take (Tryz.prog.cellsOf 37)) = some y4:=hf 4 _ rfl; rw [show Tryz.prog.cellsOf 37 = 2 from by kernel_rfl] at this; exact this
  simp only [List.map_cons,List.map_nil,Rows.uptoBulk,Rows.uptoBulkAll] at hB ⊢
  obtain ⟨v0,z0,e0,r0,a0,b0⟩:=xb1d f0 (by omega)
  obtain ⟨z1,e1,q1,w1⟩:=DataW.trod_int Tryz.underlying3 f1
  have g1:=xa1h w1
  have b1:=xa0w y1.1
  obtain ⟨v2,z2,e2,r2,a2,b2⟩:=xb8m f2 (by omega)
  obtain ⟨z3,e3,q3⟩:=DataW.trod_bool Tryz.underlying4 f3
  have b3:=xa0w y3.1
  obtain ⟨n4,v4,z4,e4,g4,r4,a4,b4⟩:=xb8k f4 (by omega)
  have hd:cs.drop 6 = []:=List.drop_eq_nil_of_le (by omega)
  have this:=xa0u cs 0 1
  rw [e0,xa0u cs 1 1,e1,xa0u cs 2 1,e2,xa0u cs 3 1,e3,xa0u cs 4 2,e4,hd,List.drop_zero] at this
  rw [xc2a] at b2
  exact ⟨⟨v0,z1,v2,z3,n4,v4,z0,z2.map (fun t=>(t.1,t.2.2)),z4⟩,by rw [this]; rfl,⟨xb2b r0 a0 (by omega) r2 a2 (by omega) r4 a4 (by omega),g4⟩,by show z0.length + (z2.map _).length + 1≤_; rw [List.length_map]; omega⟩
theorem xb3v {fuel:Nat} {cs:List Value} {x:DataW H × List MemPlace} (h:DataW.trod enc Tryz.prog W 0 (fun _=>true) true fuel 22 cs = some x) (hB:Rows.uptoBulk x.1≤1048576) :
  ∃ (v:Value) (l:List Lf),cs = [v]∧RdC 6 W v (l.map lfC)∧(∀ a∈l,OkLf W a)∧(l.map lfW).sum + 1≤Rows.uptoBulk x.1 :=
 xa3p Tryz.underlying22 (by kernel_rfl:Tryz.prog.cellsOf 39 = 6) lfC (by intro a; rfl) (by decide) (OkLf W) lfW (fun n cs y h hB=>xb8e h hB) h hB
theorem xb7j {fuel:Nat} {cs:List Value} {x:DataW H × List MemPlace} (h:DataW.trod enc Tryz.prog W 0 (fun _=>true) true fuel 24 cs = some x) (hB:Rows.uptoBulk x.1≤1048576) :
  ∃ (sec wd lim:Int) (v:Value) (ls:List Lf),cs = [.int .i64 sec,.int .i64 wd,.int .i64 lim,v]∧Rng sec∧RdC 6 W v (ls.map lfC)∧(∀ a∈ls,OkLf W a)∧(ls.map lfW).sum + 1≤Rows.uptoBulk x.1:=by
 obtain ⟨xs,n,_,rfl,hl,hlen,hf⟩:=DataW.trod_struct Tryz.underlying24 h
 rw [show Tryz.prog.cellsOf 24 = 4 from by kernel_rfl] at hl
 match xs,hlen with
 | [y0,y1,y2,y3],_ =>
  have f0:DataW.trod enc Tryz.prog W 0 (fun _=>true) true n 3 ((cs.drop 0).take 1) = some y0:=by have this:DataW.trod enc Tryz.prog W 0 (fun _=>true) true n 3 ((cs.drop 0).take (Tryz.prog.cellsOf 3)) = some y0:=hf 0 _ rfl; rw [show Tryz.prog.cellsOf 3 = 1 from by kernel_rfl] at this; exact this
  have f1:DataW.trod enc Tryz.prog W 0 (fun _=>true) true n 3 ((cs.drop 1).take 1) = some y1:=by have this:DataW.trod enc Tryz.prog W 0 (fun _=>true) true n 3 ((cs.drop 1).take (Tryz.prog.cellsOf 3)) = some y1:=hf 1 _ rfl; rw [show Tryz.prog.cellsOf 3 = 1 from by kernel_rfl] at this; exact this
  have f2:DataW.trod enc Tryz.prog W 0 (fun _=>true) true n 3 ((cs.drop 2).take 1) = some y2:=by have this:DataW.trod enc Tryz.prog W 0 (fun _=>true) true n 3 ((cs.drop 2).take (Tryz.prog.cellsOf 3)) = some y2:=hf 2 _ rfl; rw [show Tryz.prog.cellsOf 3 = 1 from by kernel_rfl] at this; exact this
  have f3:DataW.trod enc Tryz.prog W 0 (fun _=>true) true n 22 ((cs.drop 3).take 1) = some y3:=by have this:DataW.trod enc Tryz.prog W 0 (fun _=>true) true n 22 ((cs.drop 3).take (Tryz.prog.cellsOf 22)) = some y3:=hf 3 _ rfl; rw [show Tryz.prog.cellsOf 22 = 1 from by kernel_rfl] at this; exact this
  simp only [List.map_cons,List.map_nil,Rows.uptoBulk,Rows.uptoBulkAll] at hB ⊢
  obtain ⟨z0,e0,q0,w0⟩:=DataW.trod_int Tryz.underlying3 f0
  have g0:=xa1h w0
  have b0:=xa0w y0.1
  obtain ⟨z1,e1,q1,w1⟩:=DataW.trod_int Tryz.underlying3 f1
  have g1:=xa1h w1
  have b1:=xa0w y1.1
  obtain ⟨z2,e2,q2,w2⟩:=DataW.trod_int Tryz.underlying3 f2
  have g2:=xa1h w2
  have b2:=xa0w y2.1
  obtain ⟨v3,z3,e3,r3,a3,b3⟩:=xb3v f3 (by omega)
  have hd:cs.drop 4 = []:=List.drop_eq_nil_of_le (by omega)
  have this:=xa0u cs 0 1
  rw [e0,xa0u cs 1 1,e1,xa0u cs 2 1,e2,xa0u cs 3 1,e3,hd,List.drop_zero] at this
  exact ⟨z0,z1,z2,v3,z3,by rw [this]; rfl,g0,r3,a3,by omega⟩
end
end
end Go.Proofs.YtkolfhgbojenjaaGreatDoor
