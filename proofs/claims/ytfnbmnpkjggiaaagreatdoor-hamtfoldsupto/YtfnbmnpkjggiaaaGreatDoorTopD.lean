import Derived.Test.YtfnbmnpkjggiaaaGreatDoorTopC
namespace Go.Proofs.YtfnbmnpkjggiaaaGreatDoor
set_option linter.unusedVariables false
set_option linter.unusedSimpArgs false
set_option maxRecDepth 100000
section
open Go.RowKit Go.BigFrame
def shortP (ps:Prs):Prs:=ps.filter (fun p=>fitP p.1 p.2)
theorem xa6m (ps:Prs) (e:List Nat × List Nat):shortP (ps++[e]) = shortP ps++(if fitP e.1 e.2 = true then [e] else []):=by
 unfold shortP
 rw [List.filter_append,List.filter_cons]
 by_cases h:fitP e.1 e.2 = true
 ·rw [if_pos h,if_pos h]; rfl
 ·rw [if_neg h,if_neg h]; rfl
theorem xa7a (ps:Prs):(shortP ps).length≤ps.length:=List.length_filter_le _ _
theorem rd_low {w w7:World} {v:Value} {q:List Nat} (h:Rd w v q) (k:Kept [] w w7):Sty (fun y=>y < w.heap.size) w7 (fun w=>Rd w v q):=fun w' a=>by
 obtain ⟨ao,len,cap,rfl,h1,h2,h3,h4,h5,h6⟩:=h
 refine ⟨ao,len,cap,rfl,h1,h2,h3,h4,h5,fun hp=>?_⟩
 obtain ⟨b,off,rfl,hc⟩:=h6 hp
 exact ⟨b,off,rfl,fun i hi=>a.cell (k.cell (hc i hi) (by simp)) (block_lt_of_cell (hc i hi))⟩
set_option maxHeartbeats 4000000 in
theorem xb8i (pv:Value) (ps:Prs) (w:World) (hP:RdK w pv ps) (hl:ps.length≤1000000000) :
  Calls Tryz.prog 17 #[pv] w fun e w'=>∃ v' l',e = .returned v'∧(w'.ownsRow w.heap.size 46 2 v' l'.length (kvR l').flatten∧PR (fun y=>y < w.heap.size) w' l' (shortP ps))∧Kept [] w w':=by
 obtain ⟨ao,n,c,ks,vs,rfl,hn,hc1,hc2,hrd,hcell⟩:=hP
 have HN:=hide hn
 rw [hn] at hl
 have HRD:=hide hrd
 have HCE:=hide hcell
 clear hn hrd hcell
 go_enter Tryz.func17,Tryz.ntmps17
 go_wp2
 go_loopw [3,8] (fun t3 t8 wr=>∃ (j:Nat) (v:Value) (lx:List VP),t8 = .int .i64 j∧t3 = v∧j≤n∧Hid (wr.ownsRow w.heap.size 46 2 v lx.length (kvR lx).flatten)∧Hid (PR (fun y=>y < w.heap.size) wr lx (shortP (ps.take j)))∧Hid (Kept [] w wr)) (fun _ t _=>n - (intOf t).toNat)
 case atStart=>exact ⟨0,.slice none 0 0,[],rfl,rfl,Nat.zero_le _,hide (World.ownsRow_nil _ _ _ _),hide (PR.nil _ _),hide (Kept.refl _ _)⟩
 case round =>
  obtain ⟨j,v,lx,rfl,rfl,hj,HOx,HPx,HKr⟩:=hrel
  by_cases hlt:j < n
  ·have hlt':(j:Int) < n:=by omega
   have hjL:j < ps.length:=by have:=uh HN; omega
   obtain ⟨b,off,rfl,hcl⟩:=uh HCE (by omega)
   obtain ⟨hx1,hx2⟩:=hcl j hlt
   obtain ⟨hr1,hr2⟩:=uh HRD j hlt
   have HSNOC:=hide (show ps.take (j + 1) = ps.take j++[ps.getD j ([],[])] by
    rw [List.take_succ_eq_append_getElem hjL,List.getD_eq_getElem?_getD,List.getElem?_eq_getElem hjL]; rfl)
   generalize ks.getD j undef = kx at hx1 hr1
   generalize vs.getD j undef = vx at hx2 hr2
   generalize ps.getD j ([],[]) = ej at hr1 hr2 HSNOC
   obtain ⟨ka,va⟩:=ej
   have HR1:=hide hr1
   have HR2:=hide hr2
   obtain ⟨x1,x2,x3,rfl,_⟩:=id hr1
   obtain ⟨y1,y2,y3,rfl,_⟩:=id hr2
   have hm1:=(uh HKr).cell hx1 (by simp)
   have hm2:=(uh HKr).cell hx2 (by simp)
   have HRG:=hide (show wr.rangeAt b (off + j * 2) [.slice x1 x2 x3,.slice y1 y2 y3] from fun i u hi=>by
    match i,hi with
    | 0,hi=>rw [Nat.add_zero,hm1]; exact hi
    | 1,hi=>rw [hm2]; exact hi)
   have HP2:=hide (heap_alloc_new wr (.cells #[.slice x1 x2 x3,.slice y1 y2 y3] 46))
   have HK2:=hide ((Kept.refl [] wr).alloc (.cells #[.slice x1 x2 x3,.slice y1 y2 y3] 46))
   clear hx1 hx2 hr1 hr2 hm1 hm2 hcl
   go_upto_region 5 with (refine wpList_load_mid rfl 46 (.tmp 10) rfl b (off + j * 2) rfl [.slice x1 x2 x3,.slice y1 y2 y3] _ (uh HRG) Tryz.underlying46 rfl Tryz.size_pair ?_)
   try simp only [Act.put]
   generalize wr.alloc (.cells #[.slice x1 x2 x3,.slice y1 y2 y3] 46) = W2 at HP2 HK2 ⊢
   have hcp:=xa0o [] [.slice x1 x2 x3,.slice y1 y2 y3] [] (uh HP2) rfl
   have hQ1:=(show W2.cell? ⟨wr.heap.size,0,none⟩ = some (.slice x1 x2 x3) from hcp 0 _ rfl)
   have hQ2:=(show W2.cell? ⟨wr.heap.size,1,none⟩ = some (.slice y1 y2 y3) from hcp 1 _ rfl)
   have HC1:=hide hQ1
   have HC2:=hide hQ2
   have HK02:=hide ((uh HKr).trans (uh HK2) (by simp))
   clear hcp
   have HCP:=hide (xa3r _ _ ka va W2 ((uh HR1).old (uh HK02) (by simp)) ((uh HR2).old (uh HK02) (by simp)))
   have HSN:=hide (xa6m (ps.take j) (ka,va))
   have hln:=(uh HPx).1
   have hsl:=xa7a (ps.take j)
   rw [List.length_take] at hsl
   have hbnd:lx.length + 1≤1000000001:=by omega
   have HO2:=hide ((uh HK2).owns (uh HOx) (by simp))
   obtain ⟨vo,vc,rfl⟩:=xa0n (uh HOx)
   have hown:∀ z,(Value.slice vo lx.length vc).ownBlock = some z→w.heap.size≤z:=fun z hz=>((uh HOx).lt z hz).1
   clear hln hsl
   have HSN:Hid (shortP (ps.take j++[(ka,va)]) = shortP (ps.take j)++(if fitP ka va = true then [(ka,va)] else [])):=HSN
   generalize fitP ka va = FP at HCP HSN
   cases FP with
   | true =>
    have HW5:=hide (heap_alloc_new W2 (.cells #[.slice x1 x2 x3,.slice y1 y2 y3] 46))
    have HK45:=hide ((Kept.refl [] W2).alloc (.cells #[.slice x1 x2 x3,.slice y1 y2 y3] 46))
    have HO5:=hide ((uh HK45).owns (uh HO2) (by simp))
    have HK5:=hide ((uh HK02).trans (uh HK45) (by simp))
    have HRL:=hide (show RdC 2 (W2.alloc (.cells #[.slice x1 x2 x3,.slice y1 y2 y3] 46)) (.slice (some ⟨W2.heap.size,0,none⟩) 1 1) (kvR [(.slice x1 x2 x3,.slice y1 y2 y3)]) from ⟨_,1,1,rfl,rfl,Nat.le_refl _,by omega,fun _=>⟨W2.heap.size,0,rfl,fun j hj=>by
     have h0:j = 0:=by rw [xa0r] at hj; simp at hj; omega
     subst h0
     exact xa0o [] [.slice x1 x2 x3,.slice y1 y2 y3] [] (uh HW5) rfl⟩⟩)
    go_wp2_with fail
    refine Calls.mono (uh HCP) ?_
    rintro e w7 ⟨rfl,h7⟩
    rw [h7]
    clear h7 HCP
    go_wp2_with (first
     | (refine xa2p rfl (.tmp 19) rfl (.slice x1 x2 x3) (.slice y1 y2 y3) rfl ?_)
     | (at_builtin; refine xa0j rfl 40 46 (.tmp 18) (.tmp 20) rfl rfl _ w.heap.size (.agg #[.slice none 0 0,.slice none 0 0]) 2 48 Tryz.underlying40 Tryz.infoQ rfl (by decide) (.slice vo lx.length vc) lx.length (kvR lx).flatten (uh HO5) (some ⟨W2.heap.size,0,none⟩) 1 1 (kvR [(.slice x1 x2 x3,.slice y1 y2 y3)]) (uh HRL) (by intro r hr; simp [kvR] at hr; rw [hr]; rfl) (by intro r hr u hu; simp [kvR] at hr; rw [hr] at hu; simp at hu; rcases hu with rfl | rfl <;> rfl) (by omega) (by omega) (uh HK5).size rfl rfl ?_; intro ao7 c7 w7 HO7 HG7 HA7))
    have HK7:=hide ((uh HK5).grown (uh HG7) (fun z hz=>Or.inr (hown z hz)))
    have HKR7:=hide (show Agr (fun y=>y < w.heap.size) wr w7 from ⟨by have h1:=(uh HK2).size; have h2:=(uh HK45).size; have h3:=(uh HG7).size; omega,fun x hx hl=>by
     rw [(uh HK7).block x hx (by simp),(uh HKr).block x hx (by simp)]⟩)
    have HPY:=hide (((uh HPx).agr (uh HKR7)).app (PR.one (S:=fun y=>y < w.heap.size) (W:=w7) (x:=.slice x1 x2 x3) (y:=.slice y1 y2 y3) (a:=ka) (b:=va) (rd_low (uh HR1) (uh HK7)) (rd_low (uh HR2) (uh HK7))))
    clear hown hbnd HKR7
    refine ⟨⟨j + 1,.slice ao7 (lx.length + 1) c7,lx++[(.slice x1 x2 x3,.slice y1 y2 y3)],by go_num,rfl,hlt,hide (by rw [List.length_append,xa8t,List.flatten_append]; exact uh HO7),hide (by rw [uh HSNOC,uh HSN]; first | (rw [if_pos rfl]; exact uh HPY) | (rw [if_pos trivial]; exact uh HPY)),HK7⟩,?_⟩
    simp [intOf]; omega
   | false =>
    go_wp2_with fail
    refine Calls.mono (uh HCP) ?_
    rintro e w7 ⟨rfl,h7⟩
    rw [h7]
    clear h7 HCP
    go_wp2_with fail
    refine ⟨⟨j + 1,_,lx,by go_num,rfl,hlt,HO2,hide (by rw [uh HSNOC,uh HSN,if_neg (by decide),List.append_nil]; exact (uh HPx).agr (Agr.nil (uh HK2))),HK02⟩,?_⟩
    simp [intOf]; omega
  ·have hje:j = n:=by omega
   subst hje
   have hlt':¬ (j:Int) < j:=by omega
   have h9:=uh HPx
   rw [List.take_of_length_le (by have:=uh HN; omega)] at h9
   have H9:=hide h9
   clear h9
   go_wp2
   go_ret
   first
   | exact ⟨_,rfl,⟨lx,uh HOx,uh H9⟩,uh HKr⟩
   | exact ⟨_,lx,rfl,⟨uh HOx,uh H9⟩,uh HKr⟩
set_option maxHeartbeats 8000000 in
theorem xb3b (S:Nat→Prop) (k:Nat) (hk:1≤k∧k≤32) (pv:Value) (ps:Prs) (w:World) (hP:RdK w pv ps) (hl:ps.length≤100000000) (hS:∀ y,w.heap.size≤y→S y) (hTb:Tabs w) :
  Calls Tryz.prog 15 #[.int .i64 k,pv] w fun e w'=>∃ m',e = .returned m'∧MapAt S k w' m' (insAll (hsZ k) [] (shortP ps))∧Kept [] w w':=by
 obtain ⟨ao,n,c,ks,vs,rfl,hn,hc1,hc2,hrd,hcell⟩:=hP
 have HN:=hide hn
 rw [hn] at hl
 have HRD:=hide hrd
 have HCE:=hide hcell
 clear hn hrd hcell
 have HS:=hide hS
 have HTb:=hide hTb
 clear hS hTb
 go_enter Tryz.func15,Tryz.ntmps15
 go_wp2_with fail
 refine Calls.mono (xb5e S k w hk (uh HS)) ?_
 rintro e w1 ⟨m1,rfl,hm1,k1⟩
 have HM1:=hide hm1
 have HK1:=hide k1
 clear hm1 k1
 go_wp2_with fail
 go_loopw [5,16] (fun t5 t16 wr=>∃ (j:Nat) (v:Value),t16 = .int .i64 j∧t5 = v∧j≤n∧Hid (MapAt S k wr v (insAll (hsZ k) [] (shortP (ps.take j))))∧Hid (Kept [] w wr)) (fun _ t _=>n - (intOf t).toNat)
 case atStart=>exact ⟨0,m1,rfl,rfl,Nat.zero_le _,HM1,HK1⟩
 case round =>
  clear HM1 HK1
  obtain ⟨j,v,rfl,rfl,hj,HMx,HKr⟩:=hrel
  by_cases hlt:j < n
  ·have hlt':(j:Int) < n:=by omega
   have hjL:j < ps.length:=by have:=uh HN; omega
   obtain ⟨b,off,rfl,hcl⟩:=uh HCE (by omega)
   obtain ⟨hx1,hx2⟩:=hcl j hlt
   obtain ⟨hr1,hr2⟩:=uh HRD j hlt
   have HSNOC:=hide (show ps.take (j + 1) = ps.take j++[ps.getD j ([],[])] by
    rw [List.take_succ_eq_append_getElem hjL,List.getD_eq_getElem?_getD,List.getElem?_eq_getElem hjL]; rfl)
   generalize ks.getD j undef = kx at hx1 hr1
   generalize vs.getD j undef = vx at hx2 hr2
   generalize ps.getD j ([],[]) = ej at hr1 hr2 HSNOC
   obtain ⟨ka,va⟩:=ej
   have HR1:=hide hr1
   have HR2:=hide hr2
   obtain ⟨x1,x2,x3,rfl,_⟩:=id hr1
   obtain ⟨y1,y2,y3,rfl,_⟩:=id hr2
   have hm1:=(uh HKr).cell hx1 (by simp)
   have hm2:=(uh HKr).cell hx2 (by simp)
   have HRG:=hide (show wr.rangeAt b (off + j * 2) [.slice x1 x2 x3,.slice y1 y2 y3] from fun i u hi=>by
    match i,hi with
    | 0,hi=>rw [Nat.add_zero,hm1]; exact hi
    | 1,hi=>rw [hm2]; exact hi)
   have HP2:=hide (heap_alloc_new wr (.cells #[.slice x1 x2 x3,.slice y1 y2 y3] 46))
   have HK2:=hide ((Kept.refl [] wr).alloc (.cells #[.slice x1 x2 x3,.slice y1 y2 y3] 46))
   clear hx1 hx2 hr1 hr2 hm1 hm2 hcl
   go_upto_region 5 with (refine wpList_load_mid rfl 46 (.tmp 18) rfl b (off + j * 2) rfl [.slice x1 x2 x3,.slice y1 y2 y3] _ (uh HRG) Tryz.underlying46 rfl Tryz.size_pair ?_)
   try simp only [Act.put]
   generalize wr.alloc (.cells #[.slice x1 x2 x3,.slice y1 y2 y3] 46) = W2 at HP2 HK2 ⊢
   have hcp:=xa0o [] [.slice x1 x2 x3,.slice y1 y2 y3] [] (uh HP2) rfl
   have hQ1:=(show W2.cell? ⟨wr.heap.size,0,none⟩ = some (.slice x1 x2 x3) from hcp 0 _ rfl)
   have hQ2:=(show W2.cell? ⟨wr.heap.size,1,none⟩ = some (.slice y1 y2 y3) from hcp 1 _ rfl)
   have HC1:=hide hQ1
   have HC2:=hide hQ2
   have HK02:=hide ((uh HKr).trans (uh HK2) (by simp))
   clear hcp
   have HCP:=hide (xa3r _ _ ka va W2 ((uh HR1).old (uh HK02) (by simp)) ((uh HR2).old (uh HK02) (by simp)))
   have HSN:=hide (xa6m (ps.take j) (ka,va))
   have hsl:=xa3u (hsZ k) (shortP (ps.take j)) []
   have hsl2:=xa7a (ps.take j)
   rw [List.length_take] at hsl2
   have HLN:=hide (show (insAll (hsZ k) [] (shortP (ps.take j))).length < 1000000000 by simp at hsl; omega)
   have HMX2:=hide ((uh HMx).agr (Agr.nil (uh HK2)))
   have HQ2:=hide ((uh HR1).old (uh HK02) (by simp))
   have HV2:=hide ((uh HR2).old (uh HK02) (by simp))
   obtain ⟨g,rfl⟩:=(uh HMx).form
   have HPUT:=hide (fun (W:World) (z1 z2:Value) (hW:Kept [] W2 W) (h1:Rd W z1 ka) (h2:Rd W z2 va)=>xb8c S k _ z1 z2 _ ka va W ((uh HMX2).agr (Agr.nil hW)) h1 h2 (uh HLN) (fun y hy=>uh HS y (by have:=hW.size; have:=(uh HK02).size; omega)) (Tabs.k (uh HTb) ((uh HK02).trans hW (by simp))))
   have HINS:=hide (xa4x (hsZ k) [] (shortP (ps.take j)) (ka,va))
   clear hsl hsl2
   have HSN:Hid (shortP (ps.take j++[(ka,va)]) = shortP (ps.take j)++(if fitP ka va = true then [(ka,va)] else [])):=HSN
   generalize hFP:fitP ka va = FP at HCP HSN HPUT
   cases FP with
   | true =>
    go_wp2_with fail
    refine Calls.mono (uh HCP) ?_
    rintro e w7 ⟨rfl,h7⟩
    rw [h7]
    clear h7 HCP hFP
    go_upto_region 6 with fail
    clear hQ1 hQ2
    refine lh_gr (by kernel_rfl) (by kernel_rfl) rfl (fun W=>Kept [] W2 W) (Kept.refl _ W2).drew ?_
    refine LinY.rd (.pointer (some ⟨g,0,none⟩)) (fun W hW=>by go_simp) (by simp only [Act.put,sa1,sa2,sa3]; rfl) ?_
    refine LinY.rd (.pointer (some ⟨wr.heap.size,0,none⟩)) (fun W hW=>by go_simp) (by simp only [Act.put,sa1,sa2,sa3]; rfl) ?_
    refine LinY.rd (.slice x1 x2 x3) (fun W hW=>by have h9:=hW.cell (uh HC1) (by simp); go_simp) (by simp only [Act.put,sa1,sa2,sa3]; rfl) ?_
    refine LinY.rd (.pointer (some ⟨wr.heap.size,1,none⟩)) (fun W hW=>by go_simp) (by simp only [Act.put,sa1,sa2,sa3]; rfl) ?_
    refine LinY.rd (.slice y1 y2 y3) (fun W hW=>by have h9:=hW.cell (uh HC2) (by simp); go_simp) (by simp only [Act.put,sa1,sa2,sa3]; rfl) ?_
    have hd2:=(Kept.refl [] W2).drew
    refine LinY.fin (ChL.call rfl Tryz.call25 [.slice x1 x2 x3] rfl (xa3w _ ka W2.drew ((uh HQ2).old hd2 (by simp))) ?_)
    rintro e w4 ⟨z1,rfl,r1,_,k4⟩
    have hk4:=hd2.trans k4 (by simp)
    refine ⟨_,rfl,hk4,?_⟩
    simp only [Act.put,sa1,sa2,sa3]
    refine ChL.call rfl Tryz.call25 [.slice y1 y2 y3] rfl (xa3w _ va w4 ((uh HV2).old hk4 (by simp))) ?_
    rintro e w5 ⟨z2,rfl,r2,_,k5⟩
    have hk5:=hk4.trans k5 (by simp)
    refine ⟨_,rfl,hk5,?_⟩
    simp only [Act.put,sa1,sa2,sa3]
    refine ChL.call rfl Tryz.call20 [.pointer (some ⟨g,0,none⟩),z1,z2] rfl (uh HPUT w5 z1 z2 hk5 (r1.old k5 (by simp)) r2) ?_
    rintro e w6 ⟨x,rfl,m6,n6,k6⟩
    have hk6:=hk5.trans k6 (by simp)
    refine ⟨_,rfl,hk6,?_⟩
    simp only [Act.put,sa1,sa2,sa3]
    obtain ⟨gx,rfl⟩:=(show MapAt S k w6 x (insP (hsZ k) ka va _) from by first | exact m6 rfl | exact m6 trivial).form
    refine ChL.op (.tuple #[.pointer (some ⟨gx,0,none⟩),.int .i64 0]) (by go_simp) hk6 (by simp only [Act.put,sa1,sa2,sa3]; rfl) (ChL.fin ⟨hk6,?_⟩)
    refine LinY.rd (.pointer (some ⟨gx,0,none⟩)) (fun W hW=>by go_simp) (by simp only [Act.put,sa1,sa2,sa3]; rfl) ?_
    refine LinY.rd (.int .i64 0) (fun W hW=>by go_simp) (by simp only [Act.put,sa1,sa2,sa3]; rfl) ?_
    refine LinY.rd (.pointer (some ⟨gx,0,none⟩)) (fun W hW=>by go_simp) (by simp only [Act.put,sa1,sa2,sa3]; rfl) ?_
    refine LinY.fin ?_
    have HMX:=hide (by first | exact m6 rfl | exact m6 trivial)
    have HK6:=hide ((uh HK02).trans hk6 (by simp))
    clear m6 n6 k6 hk6 r2 r1 k5 hk5 k4 hk4 hd2 HPUT
    go_wp2_with fail
    refine ⟨⟨j + 1,_,by go_num,rfl,hlt,hide (by rw [uh HSNOC,uh HSN]; first | (rw [if_pos rfl,uh HINS]; exact uh HMX) | (rw [if_pos trivial,uh HINS]; exact uh HMX)),HK6⟩,?_⟩
    simp [intOf]; omega
   | false =>
    go_wp2_with fail
    refine Calls.mono (uh HCP) ?_
    rintro e w7 ⟨rfl,h7⟩
    rw [h7]
    clear h7 HCP hFP
    go_wp2_with fail
    refine ⟨⟨j + 1,_,by go_num,rfl,hlt,hide (by rw [uh HSNOC,uh HSN,if_neg (by decide),List.append_nil]; exact uh HMX2),HK02⟩,?_⟩
    simp [intOf]; omega
  ·have hje:j = n:=by omega
   subst hje
   have hlt':¬ (j:Int) < j:=by omega
   have h9:=uh HMx
   rw [List.take_of_length_le (by have:=uh HN; omega)] at h9
   have H9:=hide h9
   clear h9
   go_wp2
   go_ret
   exact ⟨_,rfl,uh H9,uh HKr⟩
theorem xb8l {w:World} {g:Nat} (bs:List Nat) {cs:Array Value} {fr:Nat × Nat} (h:w.heap[g]? = some (.cells cs 5 fr)) (hc:cs = (bs.map u8).toArray) (hb:∀ x∈bs,x < 256) (n:Nat) (hn:bs.length = n) (hl:n≤140737488355328):Rd w (.slice (some ⟨g,0,none⟩) n n) bs:=by
 refine ⟨_,n,n,rfl,hn,Nat.le_refl _,⟨by omega,hl⟩,fun h=>by simp at h,hb,fun hp=>⟨g,0,rfl,fun i hi=>?_⟩⟩
 subst hc
 have hi':i < bs.length:=by omega
 rw [cell_of_row _ _ _ _ _ _ h,Nat.zero_add,List.getElem?_toArray,List.getElem?_map,List.getD_eq_getElem?_getD,List.getElem?_eq_getElem hi']
 rfl
abbrev bt (x:Int):Obj:=.cells #[.int .u8 x] 5 (1,2)
theorem bt_rd (w:World) (x:Nat) (hx:x < 256):Rd (w.alloc (bt x)) (.slice (some ⟨w.heap.size,0,none⟩) 1 1) [x]:=xb8l (n:=1) [x] (heap_alloc_new w (bt x)) rfl (by intro y hy; simp at hy; omega) rfl (by decide)
def awL (k:Nat):Prs:=insP (hsZ k) [98] [] (insP (hsZ k) [97] [49] [])
theorem xa9d (k:Nat):Srt (hsZ k) (insP (hsZ k) [97] [49] []):=(xa6f _).ins _ _
theorem xb4w (k:Nat):getP [97] (awL k) = some [49]:=by
 unfold awL
 rw [xb1o (xa9d k),if_neg (by decide),xb1o (xa6f _),if_pos rfl]
theorem xb8x (k:Nat):fnd [97] (awL k) = true:=by unfold fnd; rw [xb4w]; rfl
theorem xb5f (k:Nat):(awL k).length = 2:=by
 unfold awL
 have h0:fnd [98] (insP (hsZ k) [97] [49] []) = false:=by unfold fnd; rw [xb1o (xa6f _),if_neg (by decide)]; rfl
 rw [xb2n (xa9d k),h0,if_neg (by decide)]; rfl
set_option maxHeartbeats 4000000 in
theorem xa9h (w:World) (hTb:Tabs w) :
  Calls Tryz.prog 9 #[] w fun e w'=>e = .returned (.bool true)∧Kept [] w w':=by
 have HTb:=hide hTb
 obtain ⟨S,hS⟩:∃ S:Nat→Prop,S = fun _=>True:=⟨_,rfl⟩
 have HS:=hide (show ∀ (n y:Nat),n≤y→S y from fun _ _ _=>by rw [hS]; trivial)
 clear hTb hS
 have kc:=fun (w:World) (C:Array Value) (n c:Nat)=>Lib.run_convert_bytes_const (P:=Tryz.prog) w 32 5 C n c Tryz.underlying32 Tryz.underlying5
 have kc1:=fun (w:World) (o:Obj) (C:Array Value) (n c:Nat)=>Go.Joins.run_convert_bytes_const_at (P:=Tryz.prog) (w.alloc o) 32 5 C n c (w.heap.size + 1) (by simp) Tryz.underlying32 Tryz.underlying5
 have kc2:=fun (w:World) (o o':Obj) (C:Array Value) (n c:Nat)=>Go.Joins.run_convert_bytes_const_at (P:=Tryz.prog) ((w.alloc o).alloc o') 32 5 C n c (w.heap.size + 1 + 1) (by simp) Tryz.underlying32 Tryz.underlying5
 go_enter Tryz.func9,Tryz.ntmps9
 go_wp2_with fail
 refine Calls.mono (xb5e S 4 w (by omega) (uh HS _)) ?_
 rintro e w1 ⟨m1,rfl,hm1,k1⟩
 obtain ⟨g1,rfl⟩:=hm1.form
 have HM1:=hide hm1
 have HK1:=hide k1
 clear hm1 k1
 go_wp2_with fail
 have ka:=(Kept.refl [] w1).alloc (bt 97)
 have kb:=(Kept.refl [] (w1.alloc (bt 97))).alloc (bt 49)
 have hz:(w1.alloc (bt 97)).heap.size = w1.heap.size + 1:=by simp
 have r1:=(bt_rd w1 97 (by decide)).old kb (by simp)
 have r2:=bt_rd (w1.alloc (bt 97)) 49 (by decide)
 rw [hz] at r2
 have HKA:=hide ((uh HK1).trans (ka.trans kb (by simp)) (by simp))
 have HMA:=hide ((uh HM1).agr (Agr.nil (ka.trans kb (by simp))))
 refine Calls.mono (xb2m S 4 _ _ _ [] [97] [49] _ (uh HMA) r1 r2 (by decide) (by decide) (by decide) (uh HS _) ((uh HTb).k (uh HKA))) ?_
 rintro e w2 ⟨m2,rfl,hm2,k2⟩
 obtain ⟨g2,rfl⟩:=hm2.form
 have HM2:=hide hm2
 have HK2:=hide ((uh HKA).trans k2 (by simp))
 clear hm2 k2 ka kb hz r1 r2 HKA HMA HM1 HK1
 go_wp2_with fail
 have kb:=(Kept.refl [] w2).alloc (bt 98)
 have r1:=bt_rd w2 98 (by decide)
 have HKB:=hide ((uh HK2).trans kb (by simp))
 refine Calls.mono (xb2m S 4 _ _ _ _ [98] [] _ ((uh HM2).agr (Agr.nil kb)) r1 (Rd.nil _) (by decide) (by decide) (by decide) (uh HS _) ((uh HTb).k (uh HKB))) ?_
 rintro e w3 ⟨m3,rfl,hm3,k3⟩
 obtain ⟨g3,rfl⟩:=hm3.form
 have HM3:=hide (show MapAt S 4 w3 (.pointer (some ⟨g3,0,none⟩)) (awL 4) from hm3)
 have HK3:=hide ((uh HKB).trans k3 (by simp))
 clear hm3 k3 kb r1 HKB HM2 HK2
 go_wp2_with fail
 have kb:=(Kept.refl [] w3).alloc (bt 97)
 have r1:=bt_rd w3 97 (by decide)
 have HKB:=hide ((uh HK3).trans kb (by simp))
 refine Calls.mono (xb8a S 4 _ _ (awL 4) [97] _ ((uh HM3).agr (Agr.nil kb)) r1 (by decide) ((uh HTb).k (uh HKB))) ?_
 rintro e w4 ⟨v4,rfl,r4,_,k4⟩
 rw [xb4w] at r4
 rw [xb8x]
 have HR4:=hide (show Rd w4 v4 [49] from r4)
 have HM4:=hide (((uh HM3).agr (Agr.nil kb)).agr (Agr.nil k4))
 have HK4:=hide ((uh HKB).trans k4 (by simp))
 clear r4 k4 kb r1 HKB HM3 HK3
 go_wp2_with fail
 refine Calls.mono (xb5q S 4 _ _ w4 (uh HM4)) ?_
 rintro e w5 ⟨rfl,k5⟩
 rw [xb5f]
 have HM5:=hide ((uh HM4).agr (Agr.nil k5))
 have HR5:=hide ((uh HR4).old k5 (by simp))
 have HK5:=hide ((uh HK4).trans k5 (by simp))
 clear k5
 go_wp2_with fail
 refine Calls.mono (xb6g S 4 _ _ w5 (uh HM5)) ?_
 rintro e w6 ⟨rfl,k6⟩
 have HM6:=hide ((uh HM5).agr (Agr.nil k6))
 have HR6:=hide ((uh HR5).old k6 (by simp))
 have HK6:=hide ((uh HK5).trans k6 (by simp))
 clear k6
 go_wp2_with fail
 have kb:=(Kept.refl [] w6).alloc (bt 49)
 have r1:=bt_rd w6 49 (by decide)
 refine Calls.mono (same_k _ _ [49] [49] _ ((uh HR6).old kb (by simp)) r1) ?_
 rintro e w7 ⟨rfl,k7⟩
 rw [decide_eq_true rfl]
 have HM7:=hide (((uh HM6).agr (Agr.nil kb)).agr (Agr.nil k7))
 have HK7:=hide (((uh HK6).trans kb (by simp)).trans k7 (by simp))
 clear k7 kb r1
 go_wp2_with fail
 refine Calls.mono (xa5r S 4 _ _ w7 (uh HM7) ((uh HTb).k (uh HK7))) ?_
 rintro e w8 ⟨rfl,k8⟩
 have HK8:=hide ((uh HK7).trans k8 (by simp))
 clear k8
 go_wp2_with fail
 have z1:(w8.alloc (bt 97)).heap.size = w8.heap.size + 1:=by simp
 have z2:((w8.alloc (bt 97)).alloc (bt 49)).heap.size = w8.heap.size + 1 + 1:=by simp
 have z3:(((w8.alloc (bt 97)).alloc (bt 49)).alloc (bt 98)).heap.size = w8.heap.size + 1 + 1 + 1:=by simp
 have ka:=(Kept.refl [] w8).alloc (bt 97)
 have kb:=(Kept.refl [] (w8.alloc (bt 97))).alloc (bt 49)
 have kd:=(Kept.refl [] ((w8.alloc (bt 97)).alloc (bt 49))).alloc (bt 98)
 have ke:=(Kept.refl [] (((w8.alloc (bt 97)).alloc (bt 49)).alloc (bt 98))).alloc (.cells #[.slice (some ⟨w8.heap.size,0,none⟩) 1 1,.slice (some ⟨w8.heap.size + 1,0,none⟩) 1 1,.slice (some ⟨w8.heap.size + 1 + 1,0,none⟩) 1 1,.slice none 0 0] 46)
 have r1:=(((bt_rd w8 97 (by decide)).old kb (by simp)).old kd (by simp)).old ke (by simp)
 have r2:=((bt_rd (w8.alloc (bt 97)) 49 (by decide)).old kd (by simp)).old ke (by simp)
 have r3:=(bt_rd ((w8.alloc (bt 97)).alloc (bt 49)) 98 (by decide)).old ke (by simp)
 rw [z1] at r2
 rw [z2] at r3
 have hx:=heap_alloc_new (((w8.alloc (bt 97)).alloc (bt 49)).alloc (bt 98)) (.cells #[.slice (some ⟨w8.heap.size,0,none⟩) 1 1,.slice (some ⟨w8.heap.size + 1,0,none⟩) 1 1,.slice (some ⟨w8.heap.size + 1 + 1,0,none⟩) 1 1,.slice none 0 0] 46)
 rw [z3] at hx
 have kall:=((ka.trans kb (by simp)).trans kd (by simp)).trans ke (by simp)
 have hK:=(uh HK8).trans kall (by simp)
 obtain ⟨X,hX⟩:∃ X,(((w8.alloc (bt 97)).alloc (bt 49)).alloc (bt 98)).alloc (.cells #[.slice (some ⟨w8.heap.size,0,none⟩) 1 1,.slice (some ⟨w8.heap.size + 1,0,none⟩) 1 1,.slice (some ⟨w8.heap.size + 1 + 1,0,none⟩) 1 1,.slice none 0 0] 46) = X:=⟨_,rfl⟩
 rw [hX] at r1 r2 r3 hx hK
 rw [hX]
 have hrk:RdK X (.slice (some ⟨w8.heap.size + 1 + 1 + 1,0,none⟩) 2 2) [([97],[49]),([98],[])]:=⟨_,2,2,[.slice (some ⟨w8.heap.size,0,none⟩) 1 1,.slice (some ⟨w8.heap.size + 1 + 1,0,none⟩) 1 1],[.slice (some ⟨w8.heap.size + 1,0,none⟩) 1 1,.slice none 0 0],rfl,rfl,Nat.le_refl _,by omega,fun i hi=>by
   match i,hi with
   | 0,_=>exact ⟨r1,r2⟩
   | 1,_=>exact ⟨r3,Rd.nil _⟩,fun _=>⟨_,0,rfl,fun i hi=>by
   match i,hi with
   | 0,_=>constructor <;> (rw [cell_of_row _ _ _ _ _ _ hx]; rfl)
   | 1,_=>constructor <;> (rw [cell_of_row _ _ _ _ _ _ hx]; rfl)⟩⟩
 have HRK:=hide hrk
 have HKX:=hide hK
 clear z1 z2 z3 ka kb kd ke r1 r2 r3 hx kall hK hX hrk
 refine Calls.mono (xb2w S 4 _ [([97],[49]),([98],[])] X (by omega) (uh HRK) (by intro p hp; simp at hp; rcases hp with rfl | rfl <;> simp) (by simp) (uh HS _)) ?_
 rintro e w9 ⟨v9,rfl,i9,k9⟩
 have HI9:=hide (show IAt S 4 w9 v9 (awL 4) from i9)
 have HK9:=hide ((uh HKX).trans k9 (by simp))
 have hfit:Fit (awL 4):=xa8p (xa9d 4) (xa8p (xa6f _) (fun p hp=>by simp at hp) (by decide) (by decide)) (by decide) (by decide)
 have HFI:=hide hfit
 have hrl:=xa1b 4 (by omega) (awL 4)
 clear i9 k9 hfit
 go_wp2_with fail
 refine Calls.mono (xa9n S 4 (by omega) _ (awL 4) w9 (uh HI9) ((xa9d 4).ins _ _) (uh HFI) (by rw [xb5f]; omega) (uh HS _)) ?_
 rintro e w10 ⟨rfl,k10⟩
 have HK10:=hide ((uh HK9).trans k10 (by simp))
 clear k10
 generalize rootP 4 (awL 4) = R at hrl ⊢
 go_wp2_with (refine xa9q rfl (.tmp 74) (.tmp 85) _ rfl R R hrl hrl rfl rfl ?_; rw [decide_eq_true rfl])
 go_ret
 exact ⟨rfl,uh HK10⟩

theorem xb5h:∀ ps:Prs,2 * ps.length≤kwt ps
 | []=>by simp [kwt]
 | p :: ps=>by
  have ih:=xb5h ps
  have e:kwt (p :: ps) = p.1.length + p.2.length + 2 + kwt ps:=by simp [kwt]
  rw [e,List.length_cons]; omega
theorem xb0w {z:Int} (h:widthB z = true):∃ k:Nat,z = k∧1≤k∧k≤32:=by
 have h1:1≤z∧z≤32:=by simpa [widthB] using h
 exact ⟨z.toNat,by omega,by omega,by omega⟩
end
section
open Go Go.RowKit Go.BigFrame
section
variable {P:Program} {Q:Exit→Act→World→Prop} {S:World→Prop}
end
theorem lg_f35 {P:Program} {Q:Exit→Act→World→Prop} {id:Nat} {o0 o1 o2 o3 o4 o5 o6 o7 o8 o9 o10 o11 o12 o13:Oper} {a:Act} {w:World} (hm:P.follows .mixedOrders = true) (hb:linB #[o0,o1,o2,o3,o4,o5,o6,o7,o8,o9,o10,o11,o12,o13] [0,1,2,3,4,5,6,7,8,9,10,11,12,13] [] [] = true) (S:World→Prop) (hS:S w.drew)
  (h:LinG P #[o0,o1,o2,o3,o4,o5,o6,o7,o8,o9,o10,o11,o12,o13] S (Q .normal) [o0,o1,o2,o3,o4,o5,o6,o7,o8,o9,o10,o11,o12,o13] a w.drew):(Code.region id #[o0,o1,o2,o3,o4,o5,o6,o7,o8,o9,o10,o11,o12,o13] true).wp P Q a w:=xb4o (R:=[0,1,2,3,4,5,6,7,8,9,10,11,12,13]) (rs:=[o0,o1,o2,o3,o4,o5,o6,o7,o8,o9,o10,o11,o12,o13]) hm hb rfl hS h
theorem lg_f41 {P:Program} {Q:Exit→Act→World→Prop} {id:Nat} {o0 o1 o2 o3 o4:Oper} {a:Act} {w:World} (hm:P.follows .mixedOrders = true) (hb:linB #[o0,o1,o2,o3,o4] [0,1] [2,3,4] [] = true) (hg:([o0,o1]++([o2,o3,o4]++[])).all (fun o=>o.guard.isNone) = true) (S:World→Prop) (hS:S w.drew)
  (h:LinY P S (ChL P Q S (Q .normal) [o2,o3,o4]) [o0,o1] a w.drew):(Code.region id #[o0,o1,o2,o3,o4] true).wp P Q a w:=xa1f (R:=[0,1]) (C:=[2,3,4]) (rs:=[o0,o1]) (cs:=[o2,o3,o4]) hm hb rfl rfl hg hS h

end
section
open Go.RowKit Go.BigFrame
structure HOp where
 kd:Int
 fr:Int
 kv:Value
 vv:Value
 q:List Nat
 v:List Nat
instance:Inhabited HOp:=⟨⟨0,0,undef,undef,[],[]⟩⟩
theorem xb9b {H:Hs} (hH:H.Ok) {q:List Nat} {L:Prs} {m:Nat} (hf:∀ i,i < m→sgl H (dnL H q L i) = false):m≤2 * H.wd:=by
 cases m with
 | zero=>omega
 | succ i=>have:=deep hH (dn_on (H:=H) (q:=q) (L:=L) i).pre (hf i (by omega)); omega
theorem xa8l (k:Nat) {L:Prs} (h:L≠[]):rootP k L = nodP (hsZ k) 64 L:=by
 unfold rootP
 cases L with
 | nil=>exact absurd rfl h
 | cons _ _=>rfl
theorem xa1u {H:Hs} {L:Prs} (h:sgl H L = false):L≠[]:=fun e=>by rw [e] at h; cases h
theorem nod_up {H:Hs} {q:List Nat} {L:Prs} {i:Nat} (hi:i < 64) (hs:sgl H (dnL H q L i) = false):H.hr (bm H i (dnL H q L i)) ((kidsL H i (dnL H q L i)).map (nodP H (63 - i))) = nodP H (64 - i) (dnL H q L i):=by
 rw [show 64 - i = (63 - i) + 1 by omega,nod_br hs,show 63 - (63 - i) = i by omega]
 unfold kidsL
 rw [List.map_map]; rfl
theorem xb1e (b j:Nat):b / 2 ^ j % 2 = (if b.testBit j = true then 1 else 0):=by
 rw [Nat.testBit_eq_decide_div_mod_eq]
 by_cases h:b / 2 ^ j % 2 = 1
 ·rw [h]; simp
 ·rw [decide_eq_false h]; simp; omega
theorem xa9x (b j:Nat):cnt b (j + 1) = cnt b j + b / 2 ^ j % 2:=by
 rw [cnt_up,xb1e]
 cases b.testBit j <;> rfl
theorem kid_dn {H:Hs} {q:List Nat} {L:Prs} {i f:Nat} (hd:dgt (H.kd q) i < 16) (hn:dnL H q L (i + 1)≠[]):cnt (bm H i (dnL H q L i)) (dgt (H.kd q) i) < ((kidsL H i (dnL H q L i)).map (nodP H f)).length∧((kidsL H i (dnL H q L i)).map (nodP H f)).getD (cnt (bm H i (dnL H q L i)) (dgt (H.kd q) i)) [] = nodP H f (dnL H q L (i + 1)):=by
 have hb:(bm H i (dnL H q L i)).testBit (dgt (H.kd q) i) = true:=by
  rw [bm_bit hd]
  cases hc:ch H i (dgt (H.kd q) i) (dnL H q L i) with
  | nil=>exact absurd hc hn
  | cons _ _=>rfl
 have h:=kid_at (L:=dnL H q L i) hd hb
 have hl:cnt (bm H i (dnL H q L i)) (dgt (H.kd q) i) < (kidsL H i (dnL H q L i)).length:=(List.getElem?_eq_some_iff.1 h).1
 refine ⟨by rw [List.length_map]; exact hl,?_⟩
 rw [List.getD_eq_getElem?_getD,List.getElem?_map,h]; rfl
theorem xa3x {w:World} {g:Nat} {d:List Nat} {t:TypeId} {fr:Nat × Nat} (h:w.heap[g]? = some (.cells (brow d) t fr)):w.rangeAt g 0 (d.map u8):=xa0o [] (d.map u8) [] (by rw [List.nil_append,List.append_nil]; exact h) rfl
theorem xa3h (B y:Nat):((B:Int) / 2 ^ y).tmod 2 = ((B / 2 ^ y % 2:Nat):Int):=by
 have e:(B:Int) / 2 ^ y = ((B / 2 ^ y:Nat):Int):=by rw [Int.natCast_ediv]; simp
 rw [e]
 generalize B / 2 ^ y = x
 rw [Int.tmod_eq_emod_of_nonneg (by omega)]; omega
theorem RdD.kp {M:List Nat} {w w':World} {v:Value} {ds:List (List Nat)} (h:RdD w v ds) (k:Kept M w w') (hM:∀ x∈M,w.heap.size≤x):RdD w' v ds:=by
 obtain ⟨ao,len,cap,rfl,h1,h2,h3,h4,h5⟩:=h
 refine ⟨ao,len,cap,rfl,h1,h2,h3,h4,fun hp=>?_⟩
 obtain ⟨b,off,rfl,hc⟩:=h5 hp
 exact ⟨b,off,rfl,fun i hi j u hu=>k.cell (hc i hi j u hu) (fun hm=>by have h8:=hM _ hm; have h9:=block_lt_of_cell (hc i hi j u hu); omega)⟩
set_option maxHeartbeats 8000000 in
theorem hamtFolds_walk (z:Int) (pv:Value) (ps:Prs) (kv:Value) (q:List Nat) (w:World) (hz:-9223372036854775808≤z∧z≤9223372036854775807) (hP:RdK w pv ps) (hx:kwt ps≤1048576) (hq:Rd w kv q) (hq2:q.length≤140737488355328) (hT:Tabs w) :
  Calls Tryz.prog 7 #[.int .i64 z,pv,kv] w fun e w'=>e = .returned (.bool true)∧Below w.heap.size w w':=by
 have hpl:=xb5h ps
 have HPL:=hide (show ps.length≤1000000 by omega)
 obtain ⟨S,hS⟩:∃ S:Nat→Prop,S = fun _=>True:=⟨_,rfl⟩
 have HS:=hide (show ∀ (n y:Nat),n≤y→S y from fun _ _ _=>by rw [hS]; trivial)
 have HT:=hide hT
 have HP:=hide hP
 have HQ:=hide hq
 obtain ⟨pa,pn,pc,_,_,rfl,_⟩:=id hP
 obtain ⟨qa,qn,qc,rfl,hqn,_⟩:=id hq
 have HQN:=hide hqn
 clear hT hS hpl hx hP hq hq2 hqn
 go_enter Tryz.func7,Tryz.ntmps7
 go_wp2_with fail
 refine Calls.mono (xa9h w (uh HT)) ?_
 rintro e w1 ⟨rfl,k1⟩
 have HK1:=hide k1
 clear k1
 go_wp2_with fail
 refine Calls.mono (xb2d z w1 hz) ?_
 rintro e w2 ⟨rfl,h2⟩
 rw [h2]
 clear h2
 cases hw:widthB z with
 | false =>
  go_wp2_with fail
  go_ret
  exact ⟨rfl,(uh HK1).below (Nat.le_refl _) (by simp)⟩
 | true =>
  obtain ⟨k,rfl,hk⟩:=xb0w hw
  clear hz
  by_cases hq64:q.length≤64
  ·have hqi:¬ (64:Int) < qn:=by have:=uh HQN; omega
   have HQ64:=hide hq64
   have HW:=hide hw
   clear hw hq64
   go_wp2_with fail
   refine Calls.mono (xb3b S k hk _ ps w1 ((uh HP).old (uh HK1)) (by have:=uh HPL; omega) (uh HS _) ((uh HT).k (uh HK1))) ?_
   rintro e w3 ⟨m3,rfl,hm3,k3⟩
   obtain ⟨g,rfl⟩:=hm3.form
   have HM3:=hide hm3
   have HK3:=hide ((uh HK1).trans k3 (by simp))
   have HLL:=hide (show (insAll (hsZ k) [] (shortP ps)).length≤1000000 by have h1:=xa3u (hsZ k) (shortP ps) []; have h2:=xa7a ps; have h3:=uh HPL; simp at h1; omega)
   clear hm3 k3
   generalize insAll (hsZ k) [] (shortP ps) = L at HM3 HLL
   go_wp2_with fail
   refine Calls.mono (xb5r S k _ _ L q w3 (uh HM3) ((uh HQ).old (uh HK3) (by simp)) (uh HQ64) ((uh HT).k (uh HK3))) ?_
   rintro e w8 ⟨sv,ev,rfl,⟨m,hrs,hrk,hns,hsg⟩,k8⟩
   have hm2k:=xb9b (hsZ_ok hk) hns
   have hm2:m≤2 * k:=hm2k
   have HM8:=hide ((uh HM3).agr (Agr.nil k8))
   have HK8:=hide ((uh HK3).trans k8 (by simp))
   obtain ⟨sa,sn,sc,svs,rfl,hsl,hsc1,hsc2,hsr,hsc⟩:=hrs
   have hsn:m = sn:=by simpa using hsl
   subst hsn
   have HSR:=hide hsr
   have HSC:=hide hsc
   have HNS:=hide hns
   have HSG:=hide hsg
   obtain ⟨ea,en,ec,_,_,rfl,hen,_⟩:=id hrk
   have HRK:=hide hrk
   have HEN:=hide hen
   clear hm2k k8 hsl hsr hsc hns hsg hrk HM3 hen
   go_wp2_with fail
   have hsE:sumE (k:Int) = 0:=by unfold sumE; rw [if_pos (uh HW)]
   have hka:=xb5m (k:Int) (.slice qa qn qc) q w8 (by omega) ((uh HQ).old (uh HK8) (by simp)) (by have:=uh HQ64; omega) ((uh HT).k (uh HK8))
   rw [hsE] at hka
   have HKA:=hide hka
   have HSE:=hide hsE
   clear hka hsE
   refine Calls.mono (uh HKA) ?_
   rintro e w9 ⟨rfl,k9⟩
   have hkl:((hsZ k).kd q).length = 32:=((hsZ_ok hk).dg q).1
   have hkd:(hsZ k).kd q = sumD (k:Int) (2 :: q):=rfl
   rw [← hkd]
   have HDG:=hide (fun i=>show dgt ((hsZ k).kd q) i < 16 from dgk (hsZ_ok hk) q i)
   have HK9:=hide k9
   have HZ9:=hide (heap_alloc_new w9 (.cells (zb 32) 64))
   have HA9:=hide ((Kept.refl [] w9).alloc (.cells (zb 32) 64))
   have HKL:=hide hkl
   clear k9 hkd HKA hkl
   have hm2i:¬ (2 * (k:Int)) < m:=by omega
   have hwk:IntKind.i64.wrap (2 * (k:Int)) = 2 * (k:Int):=by simp [IntKind.wrap,IntKind.signed,IntKind.bits]; omega
   go_upto_region 10 with (refine wpList_store_row rfl 64 (.tmp 11) (.tmp 46) rfl w9.heap.size (brow ((hsZ k).kd q)) rfl rfl _ (zb 32) (uh HZ9) (by rw [xa0a,uh HKL]; exact Tryz.size_dig) (by rw [xa0h,xa0a,uh HKL]) (xa0c _) ?_)
   have HK10:=hide ((uh HK9).trans ((uh HA9).setRow (g:=w9.heap.size) (Or.inr (Nat.le_refl _)) (brow ((hsZ k).kd q))) (by simp))
   have HR10:=hide (show ((w9.alloc (.cells #[.int .u8 0,.int .u8 0,.int .u8 0,.int .u8 0,.int .u8 0,.int .u8 0,.int .u8 0,.int .u8 0,.int .u8 0,.int .u8 0,.int .u8 0,.int .u8 0,.int .u8 0,.int .u8 0,.int .u8 0,.int .u8 0,.int .u8 0,.int .u8 0,.int .u8 0,.int .u8 0,.int .u8 0,.int .u8 0,.int .u8 0,.int .u8 0,.int .u8 0,.int .u8 0,.int .u8 0,.int .u8 0,.int .u8 0,.int .u8 0,.int .u8 0,.int .u8 0] 64)).setRow w9.heap.size (brow ((hsZ k).kd q))).heap[w9.heap.size]? = some (.cells (brow ((hsZ k).kd q)) 64 (0,0)) from setRow_heap _ _ _ _ _ _ (uh HZ9))
   have HK10:=hide (show Kept [] w8 ((w9.alloc (.cells #[.int .u8 0,.int .u8 0,.int .u8 0,.int .u8 0,.int .u8 0,.int .u8 0,.int .u8 0,.int .u8 0,.int .u8 0,.int .u8 0,.int .u8 0,.int .u8 0,.int .u8 0,.int .u8 0,.int .u8 0,.int .u8 0,.int .u8 0,.int .u8 0,.int .u8 0,.int .u8 0,.int .u8 0,.int .u8 0,.int .u8 0,.int .u8 0,.int .u8 0,.int .u8 0,.int .u8 0,.int .u8 0,.int .u8 0,.int .u8 0,.int .u8 0,.int .u8 0] 64)).setRow w9.heap.size (brow ((hsZ k).kd q))) from uh HK10)
   generalize (w9.alloc (.cells #[.int .u8 0,.int .u8 0,.int .u8 0,.int .u8 0,.int .u8 0,.int .u8 0,.int .u8 0,.int .u8 0,.int .u8 0,.int .u8 0,.int .u8 0,.int .u8 0,.int .u8 0,.int .u8 0,.int .u8 0,.int .u8 0,.int .u8 0,.int .u8 0,.int .u8 0,.int .u8 0,.int .u8 0,.int .u8 0,.int .u8 0,.int .u8 0,.int .u8 0,.int .u8 0,.int .u8 0,.int .u8 0,.int .u8 0,.int .u8 0,.int .u8 0,.int .u8 0] 64)).setRow w9.heap.size (brow ((hsZ k).kd q)) = W10 at HR10 HK10 ⊢
   generalize w9.heap.size = g11 at HR10 ⊢
   clear HZ9 HA9 HK9
   have HKX:=hide ((uh HK8).trans (uh HK10) (by simp))
   have HZ13:=hide (show (W10.alloc (.cells #[.int .u8 0,.int .u8 0,.int .u8 0,.int .u8 0,.int .u8 0,.int .u8 0,.int .u8 0,.int .u8 0,.int .u8 0,.int .u8 0,.int .u8 0,.int .u8 0,.int .u8 0,.int .u8 0,.int .u8 0,.int .u8 0,.int .u8 0,.int .u8 0,.int .u8 0,.int .u8 0,.int .u8 0,.int .u8 0,.int .u8 0,.int .u8 0,.int .u8 0,.int .u8 0,.int .u8 0,.int .u8 0,.int .u8 0,.int .u8 0,.int .u8 0,.int .u8 0] 64)).heap[W10.heap.size]? = some (.cells (zb 32) 64 (0,0)) from heap_alloc_new W10 (.cells (zb 32) 64))
   have HK13:=hide ((Kept.refl [] W10).alloc (.cells #[.int .u8 0,.int .u8 0,.int .u8 0,.int .u8 0,.int .u8 0,.int .u8 0,.int .u8 0,.int .u8 0,.int .u8 0,.int .u8 0,.int .u8 0,.int .u8 0,.int .u8 0,.int .u8 0,.int .u8 0,.int .u8 0,.int .u8 0,.int .u8 0,.int .u8 0,.int .u8 0,.int .u8 0,.int .u8 0,.int .u8 0,.int .u8 0,.int .u8 0,.int .u8 0,.int .u8 0,.int .u8 0,.int .u8 0,.int .u8 0,.int .u8 0,.int .u8 0] 64))
   have hlt13:=lt_of_block (uh HZ13)
   have HL13:=hide hlt13
   clear hlt13
   have hwm:IntKind.i64.wrap ((m:Int) - 1) = (m:Int) - 1:=by simp [IntKind.wrap,IntKind.signed,IntKind.bits]; omega
   obtain ⟨g13,hg13⟩:∃ g13,g13 = W10.heap.size:=⟨_,rfl⟩
   have HG13:=hide hg13
   by_cases he0:0 < en
   ·have he1:(0:Int) < en:=by omega
    have HNE:=hide (show L≠[] from fun e=>by
     have h9:=uh HEN
     have h8:=dn_len (H:=hsZ k) (q:=q) (L:=L) m
     rw [e,List.length_nil] at h8; rw [e] at h9; omega)
    have HMN:=hide (show dnL (hsZ k) q L m≠[] from fun e=>by have h9:=uh HEN; rw [e] at h9; simp at h9; omega)
    go_wp2_with fail
    have hbk:=fun w' (kk:Kept [] w8 w')=>xa6b (k:Int) (.slice ea en ec) (dnL (hsZ k) q L m) w' (by omega) ((uh HRK).old kk) (by have h1:=xa2y (L:=dnL (hsZ k) q L m) (fun p hp=>(uh HM8).fit p (dn_sub m p hp)); have h2:=dn_len (H:=hsZ k) (q:=q) (L:=L) m; have h3:=uh HLL; omega) ((uh HT).k ((uh HK8).trans kk (by simp)))
    rw [uh HSE] at hbk
    have hnd:sumD (k:Int) (buckB (dnL (hsZ k) q L m)) = nodP (hsZ k) (64 - m) (dnL (hsZ k) q L m):=(xb0i (H:=hsZ k) (uh HSG)).symm
    rw [hnd] at hbk
    have hl0:(nodP (hsZ k) (64 - m) (dnL (hsZ k) q L m)).length = 32:=(nod_dg k _ _).1
    obtain ⟨D0,hD0⟩:∃ D0,D0 = nodP (hsZ k) (64 - m) (dnL (hsZ k) q L m):=⟨_,rfl⟩
    rw [← hD0] at hbk hl0
    have HBK:=hide hbk
    have HD0:=hide hD0
    have HL0:=hide hl0
    clear hbk hnd hl0 hD0
    refine Calls.mono (uh HBK _ ((uh HK10).trans (uh HK13) (by simp))) ?_
    rintro e w14 ⟨rfl,k14⟩
    have HZ14:=hide (show w14.heap[W10.heap.size]? = some (.cells (zb 32) 64 (0,0)) from (k14.block _ (uh HL13) (by simp)).trans (uh HZ13))
    have HK14:=hide (((uh HK13).trans k14 (by simp)).setRow (g:=W10.heap.size) (Or.inr (Nat.le_refl _)) (brow D0))
    have HR14:=hide (show (w14.setRow W10.heap.size (brow D0)).heap[W10.heap.size]? = some (.cells (brow D0) 64 (0,0)) from setRow_heap _ _ _ _ _ _ (uh HZ14))
    clear k14 HBK HZ13 HK13
    go_wp2_with (refine wpList_store_row rfl 64 (.tmp 13) (.tmp 68) rfl W10.heap.size (brow D0) rfl rfl _ (zb 32) (uh HZ14) (by rw [xa0a,uh HL0]; exact Tryz.size_dig) (by rw [xa0h,xa0a,uh HL0]) (xa0c _) ?_)
    generalize w14.setRow W10.heap.size (brow D0) = W14 at HK14 HR14 ⊢
    go_loopw [10,14,15] (fun t10 t14 t15 wr=>∃ (j:Nat) (hv:Bool) (D:List Nat),t15 = .int .i64 ((j:Int) - 1)∧t10 = .int .i64 0∧t14 = .bool hv∧j≤m∧Hid (hv = !(dnL (hsZ k) q L j).isEmpty)∧Hid (hv = true→D = nodP (hsZ k) (64 - j) (dnL (hsZ k) q L j))∧Hid (D.length = 32)∧Hid (wr.heap[W10.heap.size]? = some (.cells (brow D) 64 (0,0)))∧Hid (Kept [] W10 wr)) (fun _ _ t _=>(intOf t + 1).toNat)
    case atStart=>exact ⟨m,true,D0,by first | rfl | rw [hwm],rfl,rfl,Nat.le_refl _,hide (by cases hc:dnL (hsZ k) q L m with | nil=>exact absurd hc (uh HMN) | cons _ _=>rfl),hide (fun _=>uh HD0),HL0,hide (uh HR14),hide (uh HK14)⟩
    case round =>
     obtain ⟨j,hv,D,rfl,rfl,rfl,hj,HHV,HHD,HDL,H13,HKr⟩:=hrel
     cases j with
     | zero =>
      rw [show (((0:Nat):Int) - 1) = (-1:Int) by omega]
      have hvt:hv = true:=by
       rw [uh HHV]
       show (!L.isEmpty) = true
       cases hL:L with
       | nil=>exact absurd hL (uh HNE)
       | cons _ _=>rfl
      have hDr:D = rootP k L:=by rw [uh HHD hvt,xa8l k (uh HNE)]; rfl
      have H13:Hid (wr.heap[W10.heap.size]? = some (.cells (brow (rootP k L)) 64 (0,0))):=by rw [← hDr]; exact H13
      clear HHV HHD hDr HDL
      go_upto_region 41 with fail
      have hd2:=(Kept.refl [] wr).drew
      have HRR:=hide (show wr.rangeAt W10.heap.size 0 ((rootP k L).map u8) from xa3x (uh H13))
      refine lg_f41 (by kernel_rfl) (by kernel_rfl) rfl (fun W=>Kept [] wr W) hd2 ?_
      refine LinY.ld 64 (.tmp 13) rfl W10.heap.size 0 rfl ((rootP k L).map u8) _ (fun W hW=>hW.rng (uh HRR) (by simp)) Tryz.underlying64 rfl (by rw [List.length_map,xa1b k hk L]; exact Tryz.size_dig) (by simp only [Act.put,sa1,sa2,sa3]; rfl) ?_
      refine LinY.rd (.pointer (some ⟨g,0,none⟩)) (fun W hW=>by go_simp) (by simp only [Act.put,sa1,sa2,sa3]; rfl) ?_
      refine LinY.fin (ChL.call rfl Tryz.call32 [.pointer (some ⟨g,0,none⟩)] rfl (xa5r _ k _ L wr.drew ((uh HM8).agr (Agr.nil (((uh HK10).trans (uh HKr) (by simp)).trans hd2 (by simp)))) ((uh HT).k (((uh HKX).trans (uh HKr) (by simp)).trans hd2 (by simp)))) ?_)
      rintro e w30 ⟨rfl,k30⟩
      have hk30:=hd2.trans k30 (by simp)
      refine ⟨_,rfl,hk30,?_⟩
      simp only [Act.put,sa1,sa2,sa3]
      refine ChL.op (.bool true) (xa4h 64 (.tmp 141) (.tmp 143) 64 rfl (brow (rootP k L)) (brow (rootP k L)) rfl rfl w30 true (by kernel_rfl) (by have h9:=dig_eq w30 (rootP k L) (rootP k L) (xa1b k hk L) (xa1b k hk L); rw [decide_eq_true rfl] at h9; exact h9)) hk30 (by simp only [Act.put,sa1,sa2,sa3]; rfl) ?_
      refine ChL.op (.bool true) (by go_simp) hk30 (by simp only [Act.put,sa1,sa2,sa3]; rfl) (ChL.fin ?_)
      have HKE:=hide (((uh HKX).trans (uh HKr) (by simp)).trans hk30 (by simp))
      clear hk30 k30 hd2
      go_wp2_with fail
      go_ret
      exact ⟨rfl,(uh HKE).below (Nat.le_refl _) (by simp)⟩
     | succ i =>
      rw [show (((i + 1:Nat):Int) - 1) = (i:Int) by omega]
      have hi0:(0:Int)≤i:=by omega
      have him:i < m:=by omega
      have hi64:i < 64:=by omega
      have hwd:IntKind.i64.wrap ((i:Int) - 1) = (i:Int) - 1:=by simp [IntKind.wrap,IntKind.signed,IntKind.bits]; omega
      obtain ⟨b,off,rfl,hcl⟩:=uh HSC (by omega)
      obtain ⟨hx1,hx2⟩:=hcl i him
      obtain ⟨hr1,hr2⟩:=uh HSR i him
      have hst:((List.range m).map (stp k q L)).getD i (0,[]) = stp k q L i:=by simp [List.getD_eq_getElem?_getD,him]
      rw [hst] at hx1 hr1 hr2
      have hx1:w8.cell? ⟨b,off + i * 2,none⟩ = some (.int .u16 ((bm (hsZ k) i (dnL (hsZ k) q L i):Nat):Int)):=hx1
      have hr2:RdD w8 (svs.getD i undef) ((kidsL (hsZ k) i (dnL (hsZ k) q L i)).map (nodP (hsZ k) (63 - i))):=hr2
      have HSGI:=hide (uh HNS i him)
      have HUP:=hide (show sumD (k:Int) (branchB (k:Int) (bm (hsZ k) i (dnL (hsZ k) q L i)) ((kidsL (hsZ k) i (dnL (hsZ k) q L i)).map (nodP (hsZ k) (63 - i)))) = nodP (hsZ k) (64 - i) (dnL (hsZ k) q L i) from nod_up hi64 (uh HSGI))
      have HNDL:=hide (show (nodP (hsZ k) (64 - i) (dnL (hsZ k) q L i)).length = 32 from (nod_dg k _ _).1)
      have HBL:=hide (bm_lt (hsZ k) i (dnL (hsZ k) q L i))
      have hkp:=xa3m (hsZ_ok hk) (d:=i) (xa1u (uh HSGI))
      have HBZ:=hide (show branchE (k:Int) (bm (hsZ k) i (dnL (hsZ k) q L i)) ((kidsL (hsZ k) i (dnL (hsZ k) q L i)).map (nodP (hsZ k) (63 - i))) = 0 from xb1y hk (bm_lt _ _ _) (fun d hd=>by obtain ⟨M,_,rfl⟩:=List.mem_map.1 hd; exact xa7c hk _ _) (by rw [List.length_map,xa1v]) (fun e=>by have h9:=hkp.1; rw [← List.length_map (f:=nodP (hsZ k) (63 - i)),e] at h9; simp at h9))
      have HKL16:=hide (show ((kidsL (hsZ k) i (dnL (hsZ k) q L i)).map (nodP (hsZ k) (63 - i))).length≤16 by rw [List.length_map]; exact hkp.2)
      have HBIT:=hide (show bm (hsZ k) i (dnL (hsZ k) q L i) / 2 ^ dgt ((hsZ k).kd q) i % 2 = if hv = true then 1 else 0 by
       rw [xb1e,bm_bit (uh HDG i),uh HHV]; rfl)
      have HKID:=hide (fun (h:hv = true)=>show cnt (bm (hsZ k) i (dnL (hsZ k) q L i)) (dgt ((hsZ k).kd q) i) < ((kidsL (hsZ k) i (dnL (hsZ k) q L i)).map (nodP (hsZ k) (63 - i))).length∧((kidsL (hsZ k) i (dnL (hsZ k) q L i)).map (nodP (hsZ k) (63 - i))).getD (cnt (bm (hsZ k) i (dnL (hsZ k) q L i)) (dgt ((hsZ k).kd q) i)) [] = D from by
       have hne:dnL (hsZ k) q L (i + 1)≠[]:=fun e=>by have h9:=uh HHV; rw [h,e] at h9; cases h9
       have h9:=kid_dn (f:=63 - i) (uh HDG i) hne
       rw [uh HHD h,show 64 - (i + 1) = 63 - i by omega]
       exact h9)
      clear hkp hst hcl
      generalize bm (hsZ k) i (dnL (hsZ k) q L i) = B at hx1 HUP HBL HBZ HBIT HKID
      generalize (kidsL (hsZ k) i (dnL (hsZ k) q L i)).map (nodP (hsZ k) (63 - i)) = KD at hr2 HUP HBZ HKID HKL16
      obtain ⟨ND,hND⟩:∃ ND,ND = nodP (hsZ k) (64 - i) (dnL (hsZ k) q L i):=⟨_,rfl⟩
      rw [← hND] at HUP HNDL
      have HND:=hide hND
      have HDGI:=hide (uh HDG i)
      have hdigit:=fun (w':World)=>xa4n ((hsZ k).kd q) i w' ((hsZ_ok hk).dg q) hi64
      have HDIG:=hide hdigit
      have HDIG:Hid (∀ w',Calls Tryz.prog 30 #[.agg (brow ((hsZ k).kd q)),.int .i64 (i:Int)] w' fun e w''=>e = .returned (.int .i64 (dgt ((hsZ k).kd q) i:Int))∧Kept [] w' w''):=HDIG
      generalize dgt ((hsZ k).kd q) i = dg at HBIT HKID HDGI HDIG
      generalize svs.getD i undef = kidv at hx2 hr2
      have HRKD:=hide hr2
      obtain ⟨x1,x2,x3,rfl,hkl2,hkc1,hkc2,hkd32,hkcell⟩:=id hr2
      have HX2L:=hide hkl2
      have HKC:=hide hkcell
      have HK8r:=hide ((uh HK10).trans (uh HKr) (by simp))
      have hm1:=(uh HK8r).cell hx1 (by simp)
      have hm2:=(uh HK8r).cell hx2 (by simp)
      have HRG:=hide (show wr.rangeAt b (off + i * 2) [.int .u16 (B:Int),.slice x1 x2 x3] from fun y u hy=>by
       match y,hy with
       | 0,hy=>rw [Nat.add_zero,hm1]; exact hy
       | 1,hy=>rw [hm2]; exact hy)
      have HP2:=hide (heap_alloc_new wr (.cells #[.int .u16 (B:Int),.slice x1 x2 x3] 72))
      have HK2:=hide ((Kept.refl [] wr).alloc (.cells #[.int .u16 (B:Int),.slice x1 x2 x3] 72))
      clear hdigit hND hx1 hx2 hr1 hr2 hm1 hm2 hkl2 hkcell hkd32 HHV HHD
      go_upto_region 26 with (refine wpList_load_mid rfl 72 (.tmp 89) rfl b (off + i * 2) rfl [.int .u16 (B:Int),.slice x1 x2 x3] _ (uh HRG) Tryz.underlying72 rfl Tryz.size_stp ?_)
      try simp only [Act.put]
      have H13b:=hide ((uh HK2).block W10.heap.size (lt_of_block (uh H13)) (by simp))
      generalize wr.alloc (.cells #[.int .u16 (B:Int),.slice x1 x2 x3] 72) = W2 at HP2 HK2 H13b ⊢
      have H13b:=hide ((uh H13b).trans (uh H13))
      obtain ⟨g16,hg16⟩:∃ g16,g16 = wr.heap.size:=⟨_,rfl⟩
      rw [← hg16] at HP2 ⊢
      clear hg16
      have hcp:=xa0o [] [.int .u16 (B:Int),.slice x1 x2 x3] [] (uh HP2) rfl
      have hQ1:=(show W2.cell? ⟨g16,0,none⟩ = some (.int .u16 (B:Int)) from hcp 0 _ rfl)
      have hQ2:=(show W2.cell? ⟨g16,1,none⟩ = some (.slice x1 x2 x3) from hcp 1 _ rfl)
      have HC1:=hide hQ1
      have HC2:=hide hQ2
      have HK102:=hide ((uh HKr).trans (uh HK2) (by simp))
      have HR11:=hide (show W2.heap[g11]? = some (.cells (brow ((hsZ k).kd q)) 64 (0,0)) from ((uh HK102).block g11 (lt_of_block (uh HR10)) (by simp)).trans (uh HR10))
      clear hcp HRG HP2 hQ1 hQ2
      go_wp2_with (refine wpList_load_row rfl 64 (.tmp 11) rfl g11 rfl _ (brow ((hsZ k).kd q)) (0,0) _ (uh HR11) Tryz.underlying64 rfl (by rw [xa0a,uh HKL]; exact Tryz.size_dig) ?_)
      refine Calls.mono (uh HDIG W2) ?_
      rintro e W3 ⟨rfl,k3⟩
      have hQ1:=k3.cell (uh HC1) (by simp)
      have hQ2:=k3.cell (uh HC2) (by simp)
      have HC1:=hide hQ1
      have HC2:=hide hQ2
      have HK3:=hide ((uh HK102).trans k3 (by simp))
      have H13c:=hide ((k3.block W10.heap.size (lt_of_block (uh H13b)) (by simp)).trans (uh H13b))
      have HRK3:=hide ((uh HRKD).kp ((uh HK10).trans (uh HK3) (by simp)) (by simp))
      have hdg:=uh HDGI
      clear k3 HDIG
      cases hv with
      | true =>
       have hb1:B / 2 ^ dg % 2 = 1:=uh HBIT
       have HB1:=hide hb1
       obtain ⟨hkid1,hkid2⟩:=uh HKID rfl
       have HKI1:=hide hkid1
       have HKI2:=hide hkid2
       clear hb1 hkid1 hkid2 HKID HBIT
       have hbt:(((B:Int) / 2 ^ dg).tmod 2 == 1) = true:=by rw [xa3h,uh HB1]; rfl
       go_wp2_with fail
       go_loopw [18,19] (fun t18 t19 wr=>∃ (y c:Nat),t19 = .int .i64 y∧t18 = .int .i64 c∧c = cnt B y∧y≤dg∧wr = W3) (fun _ t _=>dg - (intOf t).toNat)
       case atStart=>exact ⟨0,0,rfl,rfl,rfl,Nat.zero_le _,rfl⟩
       case round =>
        obtain ⟨y,c,rfl,rfl,hc,hy,rfl⟩:=hrel
        by_cases hlt:y < dg
        ·have hlt2:(y:Int) < dg:=by omega
         have HCN:=hide (xa9x B y)
         have hcl:=cnt_le B y
         have HB2:=hide (xa3h B y)
         by_cases hbb:B / 2 ^ y % 2 = 1
         ·have htm:((B:Int) / 2 ^ y).tmod 2 = 1:=by rw [uh HB2,hbb]; rfl
          have hwc:IntKind.i64.wrap ((c:Int) + 1) = (c:Int) + 1:=by simp [IntKind.wrap,IntKind.signed,IntKind.bits]; omega
          have HC5:=hide (show c + 1 = cnt B (y + 1) by rw [uh HCN,hbb,hc])
          clear hbb hc hcl
          go_wp2_with fail
          refine ⟨⟨y + 1,c + 1,by go_num,by go_num,uh HC5,hlt,by first | rfl | trivial⟩,?_⟩
          simp [intOf]; omega
         ·have hb0:B / 2 ^ y % 2 = 0:=by omega
          have htm:((B:Int) / 2 ^ y).tmod 2 = 0:=by rw [uh HB2,hb0]; rfl
          have hwc:IntKind.i64.wrap (c:Int) = (c:Int):=by simp [IntKind.wrap,IntKind.signed,IntKind.bits]; omega
          have HC5:=hide (show c = cnt B (y + 1) by rw [uh HCN,hb0,hc,Nat.add_zero])
          clear hbb hb0 hc hcl
          go_wp2_with fail
          refine ⟨⟨y + 1,c,by go_num,by first | rfl | go_num,uh HC5,hlt,by first | rfl | trivial⟩,?_⟩
          simp [intOf]; omega
        ·have hlt2:¬ (y:Int) < dg:=by omega
         have hye:y = dg:=by omega
         subst hye
         have HRA:=hide (show c < KD.length by rw [hc]; exact uh HKI1)
         have HRB:=hide (show KD.getD c [] = D by rw [hc]; exact uh HKI2)
         clear hc HKI1 HKI2
         have hx2p:0 < x2:=by have h1:=uh HRA; have h2:=uh HX2L; omega
         obtain ⟨kb,ko,rfl,hkc⟩:=uh HKC hx2p
         have hcx:c < x2:=by have h1:=uh HRA; have h2:=uh HX2L; omega
         have hrow:=hkc c hcx
         rw [uh HRB] at hrow
         have HRW:=hide (((uh HK10).trans (uh HK3) (by simp)).rng hrow (by simp))
         have HRD0:=hide (xa3x (uh H13c))
         have hge:¬ (x2:Int)≤c:=by omega
         have hDl:=uh HDL
         clear hrow hkc
         go_upto_region 35 with fail
         have hd2:=(Kept.refl [] wr).drew
         refine lg_f35 (by kernel_rfl) (by kernel_rfl) (fun W=>Kept [] wr W) hd2 ?_
         refine LinG.rd (by rfl) (.int .i64 c) (fun W hW=>by go_simp) (by simp only [Act.put,sa1,sa2,sa3]; rfl) ?_
         refine LinG.rd (by rfl) (.pointer (some ⟨g16,1,none⟩)) (fun W hW=>by go_simp) (by simp only [Act.put,sa1,sa2,sa3]; rfl) ?_
         refine LinG.rd (by rfl) (.slice (some ⟨kb,ko,none⟩) x2 x3) (fun W hW=>by have h9:=hW.cell (uh HC2) (by simp); go_simp) (by simp only [Act.put,sa1,sa2,sa3]; rfl) ?_
         refine LinG.rd (by rfl) (.int .i64 x2) (fun W hW=>by go_simp) (by simp only [Act.put,sa1,sa2,sa3]; rfl) ?_
         refine LinG.rd (by rfl) (.bool false) (fun W hW=>by go_simp) (by simp only [Act.put,sa1,sa2,sa3]; rfl) ?_
         refine LinG.rd (by rfl) (.bool false) (fun W hW=>by go_simp) (by simp only [Act.put,sa1,sa2,sa3]; rfl) ?_
         refine LinG.rd (by rfl) (.pointer (some ⟨g16,1,none⟩)) (fun W hW=>by go_simp) (by simp only [Act.put,sa1,sa2,sa3]; rfl) ?_
         refine LinG.rd (by rfl) (.slice (some ⟨kb,ko,none⟩) x2 x3) (fun W hW=>by have h9:=hW.cell (uh HC2) (by simp); go_simp) (by simp only [Act.put,sa1,sa2,sa3]; rfl) ?_
         refine LinG.rd (by rfl) (.int .i64 c) (fun W hW=>by go_simp) (by simp only [Act.put,sa1,sa2,sa3]; rfl) ?_
         refine LinG.rd (by rfl) (.pointer (some ⟨kb,ko + c * 32,none⟩)) (fun W hW=>by go_simp) (by simp only [Act.put,sa1,sa2,sa3]; rfl) ?_
         refine LinG.ld (by rfl) 64 (.tmp 125) rfl kb (ko + c * 32) rfl (D.map u8) _ (fun W hW=>hW.rng (uh HRW) (by simp)) Tryz.underlying64 rfl (by rw [List.length_map,hDl]; exact Tryz.size_dig) (by simp only [Act.put,sa1,sa2,sa3]; rfl) ?_
         refine LinG.ld (by rfl) 64 (.tmp 13) rfl W10.heap.size 0 rfl (D.map u8) _ (fun W hW=>hW.rng (uh HRD0) (by simp)) Tryz.underlying64 rfl (by rw [List.length_map,hDl]; exact Tryz.size_dig) (by simp only [Act.put,sa1,sa2,sa3]; rfl) ?_
         refine LinG.rd (by rfl) (.bool false) (fun W hW=>xb5d 64 (.tmp 126) (.tmp 127) 64 rfl (brow D) (brow D) rfl rfl W true (by kernel_rfl) (by have h9:=dig_eq W D D hDl hDl; rw [decide_eq_true rfl] at h9; exact h9)) (by simp only [Act.put,sa1,sa2,sa3]; rfl) ?_
         refine LinG.rd (by rfl) (.bool false) (fun W hW=>by go_simp) (by simp only [Act.put,sa1,sa2,sa3]; rfl) ?_
         refine LinG.fin ?_
         have hq1:=hd2.cell (uh HC1) (by simp)
         have hq2:=hd2.cell (uh HC2) (by simp)
         have HC1:=hide hq1
         have HC2:=hide hq2
         have H13c:=hide ((hd2.block W10.heap.size (lt_of_block (uh H13c)) (by simp)).trans (uh H13c))
         have HRK3:=hide ((uh HRK3).old hd2)
         have HK3:=hide ((uh HK3).trans hd2 (by simp))
         obtain ⟨W4,hW4⟩:∃ W4,W4 = wr.drew:=⟨_,rfl⟩
         rw [← hW4] at hq1 hq2 HC1 HC2 H13c HRK3 HK3 ⊢
         clear hd2 hW4
         have hBA:=xa2k (k:Int) B (.slice (some ⟨kb,ko,none⟩) x2 x3) KD W4 (by omega) (uh HBL) (uh HRK3) ((uh HT).k ((uh HKX).trans (uh HK3) (by simp)))
         rw [uh HBZ,show sunE 0 (k:Int) = 0 from uh HSE,show sunD 0 (k:Int) (branchB (k:Int) B KD) = sumD (k:Int) (branchB (k:Int) B KD) from rfl,uh HUP] at hBA
         have HBA:=hide hBA
         clear hBA
         go_wp2_with fail
         refine Calls.mono (uh HBA) ?_
         rintro e w20 ⟨rfl,k20⟩
         have H20:=hide (show w20.heap[W10.heap.size]? = some (.cells (brow D) 64 (0,0)) from (k20.block _ (lt_of_block (uh H13c)) (by simp)).trans (uh H13c))
         have HK20:=hide (((uh HK3).trans k20 (by simp)).setRow (g:=W10.heap.size) (Or.inr (Nat.le_refl _)) (brow ND))
         have HR20:=hide (show (w20.setRow W10.heap.size (brow ND)).heap[W10.heap.size]? = some (.cells (brow ND) 64 (0,0)) from setRow_heap _ _ _ _ _ _ (uh H20))
         clear k20 HBA
         go_wp2_with (refine wpList_store_row rfl 64 (.tmp 13) (.tmp 137) rfl W10.heap.size (brow ND) rfl rfl _ (brow D) (uh H20) (by rw [xa0a,uh HNDL]; exact Tryz.size_dig) (by rw [xa0a,xa0a,uh HNDL,uh HDL]) (xa0c _) ?_)
         generalize w20.setRow W10.heap.size (brow ND) = W21 at HK20 HR20 ⊢
         refine ⟨⟨i,true,ND,by first | rfl | rw [hwd],rfl,rfl,by omega,hide (by cases hc:dnL (hsZ k) q L i with | nil=>exact absurd hc (xa1u (uh HSGI)) | cons _ _=>rfl),hide (fun _=>(uh HND)),HNDL,HR20,HK20⟩,?_⟩
         simp [intOf]; try omega
      | false =>
       have hb1:B / 2 ^ dg % 2 = 0:=uh HBIT
       have HB1:=hide hb1
       have hbt:(((B:Int) / 2 ^ dg).tmod 2 == 1) = false:=by rw [xa3h,uh HB1]; rfl
       clear hb1 HKID HBIT
       have hq1:=uh HC1
       have hq2:=uh HC2
       have hBA:=xa2k (k:Int) B (.slice x1 x2 x3) KD W3 (by omega) (uh HBL) (uh HRK3) ((uh HT).k ((uh HKX).trans (uh HK3) (by simp)))
       rw [uh HBZ,show sunE 0 (k:Int) = 0 from uh HSE,show sunD 0 (k:Int) (branchB (k:Int) B KD) = sumD (k:Int) (branchB (k:Int) B KD) from rfl,uh HUP] at hBA
       have HBA:=hide hBA
       clear hBA
       go_wp2_with fail
       refine Calls.mono (uh HBA) ?_
       rintro e w20 ⟨rfl,k20⟩
       have H20:=hide (show w20.heap[W10.heap.size]? = some (.cells (brow D) 64 (0,0)) from (k20.block _ (lt_of_block (uh H13c)) (by simp)).trans (uh H13c))
       have HK20:=hide (((uh HK3).trans k20 (by simp)).setRow (g:=W10.heap.size) (Or.inr (Nat.le_refl _)) (brow ND))
       have HR20:=hide (show (w20.setRow W10.heap.size (brow ND)).heap[W10.heap.size]? = some (.cells (brow ND) 64 (0,0)) from setRow_heap _ _ _ _ _ _ (uh H20))
       clear k20 HBA
       go_wp2_with (refine wpList_store_row rfl 64 (.tmp 13) (.tmp 137) rfl W10.heap.size (brow ND) rfl rfl _ (brow D) (uh H20) (by rw [xa0a,uh HNDL]; exact Tryz.size_dig) (by rw [xa0a,xa0a,uh HNDL,uh HDL]) (xa0c _) ?_)
       generalize w20.setRow W10.heap.size (brow ND) = W21 at HK20 HR20 ⊢
       refine ⟨⟨i,true,ND,by first | rfl | rw [hwd],rfl,rfl,by omega,hide (by cases hc:dnL (hsZ k) q L i with | nil=>exact absurd hc (xa1u (uh HSGI)) | cons _ _=>rfl),hide (fun _=>(uh HND)),HNDL,HR20,HK20⟩,?_⟩
       simp [intOf]; try omega
   ·have he1:¬ (0:Int) < en:=by omega
    have HMN:=hide (show dnL (hsZ k) q L m = [] from by have h9:=uh HEN; exact List.eq_nil_of_length_eq_zero (by omega))
    by_cases hm0:m = 0
    ·subst hm0
     go_wp2_with fail
     have hnm:=fun w' (kk:Kept [] w8 w')=>xb2u (k:Int) w' (by omega) ((uh HT).k ((uh HK8).trans kk (by simp)))
     rw [uh HSE] at hnm
     have hl0:(sumD (k:Int) [5]).length = 32:=xa0f _ _
     have hrt:sumD (k:Int) [5] = rootP k L:=by
      have h9:L = []:=uh HMN
      rw [h9]
      unfold sumD rootP
      rw [if_pos (uh HW)]; rfl
     rw [hrt] at hnm hl0
     have HBK:=hide hnm
     have HL0:=hide hl0
     clear hnm hrt hl0
     refine Calls.mono (uh HBK _ ((uh HK10).trans (uh HK13) (by simp))) ?_
     rintro e w14 ⟨rfl,k14⟩
     generalize hD0:rootP k L = D0 at HL0 ⊢
     have HD0:=hide hD0
     have HZ14:=hide (show w14.heap[W10.heap.size]? = some (.cells (zb 32) 64 (0,0)) from (k14.block _ (uh HL13) (by simp)).trans (uh HZ13))
     have HK14:=hide (((uh HK13).trans k14 (by simp)).setRow (g:=W10.heap.size) (Or.inr (Nat.le_refl _)) (brow D0))
     have HR14:=hide (show (w14.setRow W10.heap.size (brow D0)).heap[W10.heap.size]? = some (.cells (brow D0) 64 (0,0)) from setRow_heap _ _ _ _ _ _ (uh HZ14))
     clear k14 HBK HZ13 HK13 hD0
     go_wp2_with (refine wpList_store_row rfl 64 (.tmp 13) (.tmp 76) rfl W10.heap.size (brow D0) rfl rfl _ (zb 32) (uh HZ14) (by rw [xa0a,uh HL0]; exact Tryz.size_dig) (by rw [xa0h,xa0a,uh HL0]) (xa0c _) ?_)
     generalize w14.setRow W10.heap.size (brow D0) = W14 at HK14 HR14 ⊢
     go_loopw [15] (fun t15 wr=>t15 = .int .i64 (-1)∧wr = W14) (fun _ _=>0)
     case atStart=>exact ⟨by first | rfl | (simp; done) | go_num,rfl⟩
     case round =>
      obtain ⟨rfl,rfl⟩:=hrel
      have H13:=hide (show wr.heap[W10.heap.size]? = some (.cells (brow (rootP k L)) 64 (0,0)) by rw [uh HD0]; exact uh HR14)
      go_upto_region 41 with fail
      have hd2:=(Kept.refl [] wr).drew
      have HRR:=hide (show wr.rangeAt W10.heap.size 0 ((rootP k L).map u8) from xa3x (uh H13))
      refine lg_f41 (by kernel_rfl) (by kernel_rfl) rfl (fun W=>Kept [] wr W) hd2 ?_
      refine LinY.ld 64 (.tmp 13) rfl W10.heap.size 0 rfl ((rootP k L).map u8) _ (fun W hW=>hW.rng (uh HRR) (by simp)) Tryz.underlying64 rfl (by rw [List.length_map,xa1b k hk L]; exact Tryz.size_dig) (by simp only [Act.put,sa1,sa2,sa3]; rfl) ?_
      refine LinY.rd (.pointer (some ⟨g,0,none⟩)) (fun W hW=>by go_simp) (by simp only [Act.put,sa1,sa2,sa3]; rfl) ?_
      refine LinY.fin (ChL.call rfl Tryz.call32 [.pointer (some ⟨g,0,none⟩)] rfl (xa5r _ k _ L wr.drew ((uh HM8).agr (Agr.nil (((uh HK10).trans (uh HK14) (by simp)).trans hd2 (by simp)))) ((uh HT).k (((uh HKX).trans (uh HK14) (by simp)).trans hd2 (by simp)))) ?_)
      rintro e w30 ⟨rfl,k30⟩
      have hk30:=hd2.trans k30 (by simp)
      refine ⟨_,rfl,hk30,?_⟩
      simp only [Act.put,sa1,sa2,sa3]
      refine ChL.op (.bool true) (xa4h 64 (.tmp 141) (.tmp 143) 64 rfl (brow (rootP k L)) (brow (rootP k L)) rfl rfl w30 true (by kernel_rfl) (by have h9:=dig_eq w30 (rootP k L) (rootP k L) (xa1b k hk L) (xa1b k hk L); rw [decide_eq_true rfl] at h9; exact h9)) hk30 (by simp only [Act.put,sa1,sa2,sa3]; rfl) ?_
      refine ChL.op (.bool true) (by go_simp) hk30 (by simp only [Act.put,sa1,sa2,sa3]; rfl) (ChL.fin ?_)
      have HKE:=hide (((uh HKX).trans (uh HK14) (by simp)).trans hk30 (by simp))
      clear hk30 k30 hd2
      go_wp2_with fail
      go_ret
      exact ⟨rfl,(uh HKE).below (Nat.le_refl _) (by simp)⟩
    ·have hmi:(m:Int)≠0:=by omega
     have hmb:((m:Int) == 0) = false:=by simp; omega
     have HNE:=hide (show L≠[] from xa1u (uh HNS 0 (by omega)))
     have HK14:=HK13
     have HR14:=HZ13
     have HL0:=hide (show (List.replicate 32 0).length = 32 by simp)
     clear HZ13 HK13
     go_wp2_with fail
     go_loopw [10,14,15] (fun t10 t14 t15 wr=>∃ (j:Nat) (hv:Bool) (D:List Nat),t15 = .int .i64 ((j:Int) - 1)∧t10 = .int .i64 0∧t14 = .bool hv∧j≤m∧Hid (hv = !(dnL (hsZ k) q L j).isEmpty)∧Hid (hv = true→D = nodP (hsZ k) (64 - j) (dnL (hsZ k) q L j))∧Hid (D.length = 32)∧Hid (wr.heap[W10.heap.size]? = some (.cells (brow D) 64 (0,0)))∧Hid (Kept [] W10 wr)) (fun _ _ t _=>(intOf t + 1).toNat)
     case atStart=>exact ⟨m,false,List.replicate 32 0,by first | rfl | rw [hwm],rfl,rfl,Nat.le_refl _,hide (by rw [uh HMN]; rfl),hide (fun h=>by cases h),HL0,hide (uh HR14),hide (uh HK14)⟩
     case round =>
      obtain ⟨j,hv,D,rfl,rfl,rfl,hj,HHV,HHD,HDL,H13,HKr⟩:=hrel
      cases j with
      | zero =>
       rw [show (((0:Nat):Int) - 1) = (-1:Int) by omega]
       have hvt:hv = true:=by
        rw [uh HHV]
        show (!L.isEmpty) = true
        cases hL:L with
        | nil=>exact absurd hL (uh HNE)
        | cons _ _=>rfl
       have hDr:D = rootP k L:=by rw [uh HHD hvt,xa8l k (uh HNE)]; rfl
       have H13:Hid (wr.heap[W10.heap.size]? = some (.cells (brow (rootP k L)) 64 (0,0))):=by rw [← hDr]; exact H13
       clear HHV HHD hDr HDL
       go_upto_region 41 with fail
       have hd2:=(Kept.refl [] wr).drew
       have HRR:=hide (show wr.rangeAt W10.heap.size 0 ((rootP k L).map u8) from xa3x (uh H13))
       refine lg_f41 (by kernel_rfl) (by kernel_rfl) rfl (fun W=>Kept [] wr W) hd2 ?_
       refine LinY.ld 64 (.tmp 13) rfl W10.heap.size 0 rfl ((rootP k L).map u8) _ (fun W hW=>hW.rng (uh HRR) (by simp)) Tryz.underlying64 rfl (by rw [List.length_map,xa1b k hk L]; exact Tryz.size_dig) (by simp only [Act.put,sa1,sa2,sa3]; rfl) ?_
       refine LinY.rd (.pointer (some ⟨g,0,none⟩)) (fun W hW=>by go_simp) (by simp only [Act.put,sa1,sa2,sa3]; rfl) ?_
       refine LinY.fin (ChL.call rfl Tryz.call32 [.pointer (some ⟨g,0,none⟩)] rfl (xa5r _ k _ L wr.drew ((uh HM8).agr (Agr.nil (((uh HK10).trans (uh HKr) (by simp)).trans hd2 (by simp)))) ((uh HT).k (((uh HKX).trans (uh HKr) (by simp)).trans hd2 (by simp)))) ?_)
       rintro e w30 ⟨rfl,k30⟩
       have hk30:=hd2.trans k30 (by simp)
       refine ⟨_,rfl,hk30,?_⟩
       simp only [Act.put,sa1,sa2,sa3]
       refine ChL.op (.bool true) (xa4h 64 (.tmp 141) (.tmp 143) 64 rfl (brow (rootP k L)) (brow (rootP k L)) rfl rfl w30 true (by kernel_rfl) (by have h9:=dig_eq w30 (rootP k L) (rootP k L) (xa1b k hk L) (xa1b k hk L); rw [decide_eq_true rfl] at h9; exact h9)) hk30 (by simp only [Act.put,sa1,sa2,sa3]; rfl) ?_
       refine ChL.op (.bool true) (by go_simp) hk30 (by simp only [Act.put,sa1,sa2,sa3]; rfl) (ChL.fin ?_)
       have HKE:=hide (((uh HKX).trans (uh HKr) (by simp)).trans hk30 (by simp))
       clear hk30 k30 hd2
       go_wp2_with fail
       go_ret
       exact ⟨rfl,(uh HKE).below (Nat.le_refl _) (by simp)⟩
      | succ i =>
       rw [show (((i + 1:Nat):Int) - 1) = (i:Int) by omega]
       have hi0:(0:Int)≤i:=by omega
       have him:i < m:=by omega
       have hi64:i < 64:=by omega
       have hwd:IntKind.i64.wrap ((i:Int) - 1) = (i:Int) - 1:=by simp [IntKind.wrap,IntKind.signed,IntKind.bits]; omega
       obtain ⟨b,off,rfl,hcl⟩:=uh HSC (by omega)
       obtain ⟨hx1,hx2⟩:=hcl i him
       obtain ⟨hr1,hr2⟩:=uh HSR i him
       have hst:((List.range m).map (stp k q L)).getD i (0,[]) = stp k q L i:=by simp [List.getD_eq_getElem?_getD,him]
       rw [hst] at hx1 hr1 hr2
       have hx1:w8.cell? ⟨b,off + i * 2,none⟩ = some (.int .u16 ((bm (hsZ k) i (dnL (hsZ k) q L i):Nat):Int)):=hx1
       have hr2:RdD w8 (svs.getD i undef) ((kidsL (hsZ k) i (dnL (hsZ k) q L i)).map (nodP (hsZ k) (63 - i))):=hr2
       have HSGI:=hide (uh HNS i him)
       have HUP:=hide (show sumD (k:Int) (branchB (k:Int) (bm (hsZ k) i (dnL (hsZ k) q L i)) ((kidsL (hsZ k) i (dnL (hsZ k) q L i)).map (nodP (hsZ k) (63 - i)))) = nodP (hsZ k) (64 - i) (dnL (hsZ k) q L i) from nod_up hi64 (uh HSGI))
       have HNDL:=hide (show (nodP (hsZ k) (64 - i) (dnL (hsZ k) q L i)).length = 32 from (nod_dg k _ _).1)
       have HBL:=hide (bm_lt (hsZ k) i (dnL (hsZ k) q L i))
       have hkp:=xa3m (hsZ_ok hk) (d:=i) (xa1u (uh HSGI))
       have HBZ:=hide (show branchE (k:Int) (bm (hsZ k) i (dnL (hsZ k) q L i)) ((kidsL (hsZ k) i (dnL (hsZ k) q L i)).map (nodP (hsZ k) (63 - i))) = 0 from xb1y hk (bm_lt _ _ _) (fun d hd=>by obtain ⟨M,_,rfl⟩:=List.mem_map.1 hd; exact xa7c hk _ _) (by rw [List.length_map,xa1v]) (fun e=>by have h9:=hkp.1; rw [← List.length_map (f:=nodP (hsZ k) (63 - i)),e] at h9; simp at h9))
       have HKL16:=hide (show ((kidsL (hsZ k) i (dnL (hsZ k) q L i)).map (nodP (hsZ k) (63 - i))).length≤16 by rw [List.length_map]; exact hkp.2)
       have HBIT:=hide (show bm (hsZ k) i (dnL (hsZ k) q L i) / 2 ^ dgt ((hsZ k).kd q) i % 2 = if hv = true then 1 else 0 by
        rw [xb1e,bm_bit (uh HDG i),uh HHV]; rfl)
       have HKID:=hide (fun (h:hv = true)=>show cnt (bm (hsZ k) i (dnL (hsZ k) q L i)) (dgt ((hsZ k).kd q) i) < ((kidsL (hsZ k) i (dnL (hsZ k) q L i)).map (nodP (hsZ k) (63 - i))).length∧((kidsL (hsZ k) i (dnL (hsZ k) q L i)).map (nodP (hsZ k) (63 - i))).getD (cnt (bm (hsZ k) i (dnL (hsZ k) q L i)) (dgt ((hsZ k).kd q) i)) [] = D from by
        have hne:dnL (hsZ k) q L (i + 1)≠[]:=fun e=>by have h9:=uh HHV; rw [h,e] at h9; cases h9
        have h9:=kid_dn (f:=63 - i) (uh HDG i) hne
        rw [uh HHD h,show 64 - (i + 1) = 63 - i by omega]
        exact h9)
       clear hkp hst hcl
       generalize bm (hsZ k) i (dnL (hsZ k) q L i) = B at hx1 HUP HBL HBZ HBIT HKID
       generalize (kidsL (hsZ k) i (dnL (hsZ k) q L i)).map (nodP (hsZ k) (63 - i)) = KD at hr2 HUP HBZ HKID HKL16
       obtain ⟨ND,hND⟩:∃ ND,ND = nodP (hsZ k) (64 - i) (dnL (hsZ k) q L i):=⟨_,rfl⟩
       rw [← hND] at HUP HNDL
       have HND:=hide hND
       have HDGI:=hide (uh HDG i)
       have hdigit:=fun (w':World)=>xa4n ((hsZ k).kd q) i w' ((hsZ_ok hk).dg q) hi64
       have HDIG:=hide hdigit
       have HDIG:Hid (∀ w',Calls Tryz.prog 30 #[.agg (brow ((hsZ k).kd q)),.int .i64 (i:Int)] w' fun e w''=>e = .returned (.int .i64 (dgt ((hsZ k).kd q) i:Int))∧Kept [] w' w''):=HDIG
       generalize dgt ((hsZ k).kd q) i = dg at HBIT HKID HDGI HDIG
       generalize svs.getD i undef = kidv at hx2 hr2
       have HRKD:=hide hr2
       obtain ⟨x1,x2,x3,rfl,hkl2,hkc1,hkc2,hkd32,hkcell⟩:=id hr2
       have HX2L:=hide hkl2
       have HKC:=hide hkcell
       have HK8r:=hide ((uh HK10).trans (uh HKr) (by simp))
       have hm1:=(uh HK8r).cell hx1 (by simp)
       have hm2:=(uh HK8r).cell hx2 (by simp)
       have HRG:=hide (show wr.rangeAt b (off + i * 2) [.int .u16 (B:Int),.slice x1 x2 x3] from fun y u hy=>by
        match y,hy with
        | 0,hy=>rw [Nat.add_zero,hm1]; exact hy
        | 1,hy=>rw [hm2]; exact hy)
       have HP2:=hide (heap_alloc_new wr (.cells #[.int .u16 (B:Int),.slice x1 x2 x3] 72))
       have HK2:=hide ((Kept.refl [] wr).alloc (.cells #[.int .u16 (B:Int),.slice x1 x2 x3] 72))
       clear hdigit hND hx1 hx2 hr1 hr2 hm1 hm2 hkl2 hkcell hkd32 HHV HHD
       go_upto_region 26 with (refine wpList_load_mid rfl 72 (.tmp 89) rfl b (off + i * 2) rfl [.int .u16 (B:Int),.slice x1 x2 x3] _ (uh HRG) Tryz.underlying72 rfl Tryz.size_stp ?_)
       try simp only [Act.put]
       have H13b:=hide ((uh HK2).block W10.heap.size (lt_of_block (uh H13)) (by simp))
       generalize wr.alloc (.cells #[.int .u16 (B:Int),.slice x1 x2 x3] 72) = W2 at HP2 HK2 H13b ⊢
       have H13b:=hide ((uh H13b).trans (uh H13))
       obtain ⟨g16,hg16⟩:∃ g16,g16 = wr.heap.size:=⟨_,rfl⟩
       rw [← hg16] at HP2 ⊢
       clear hg16
       have hcp:=xa0o [] [.int .u16 (B:Int),.slice x1 x2 x3] [] (uh HP2) rfl
       have hQ1:=(show W2.cell? ⟨g16,0,none⟩ = some (.int .u16 (B:Int)) from hcp 0 _ rfl)
       have hQ2:=(show W2.cell? ⟨g16,1,none⟩ = some (.slice x1 x2 x3) from hcp 1 _ rfl)
       have HC1:=hide hQ1
       have HC2:=hide hQ2
       have HK102:=hide ((uh HKr).trans (uh HK2) (by simp))
       have HR11:=hide (show W2.heap[g11]? = some (.cells (brow ((hsZ k).kd q)) 64 (0,0)) from ((uh HK102).block g11 (lt_of_block (uh HR10)) (by simp)).trans (uh HR10))
       clear hcp HRG HP2 hQ1 hQ2
       go_wp2_with (refine wpList_load_row rfl 64 (.tmp 11) rfl g11 rfl _ (brow ((hsZ k).kd q)) (0,0) _ (uh HR11) Tryz.underlying64 rfl (by rw [xa0a,uh HKL]; exact Tryz.size_dig) ?_)
       refine Calls.mono (uh HDIG W2) ?_
       rintro e W3 ⟨rfl,k3⟩
       have hQ1:=k3.cell (uh HC1) (by simp)
       have hQ2:=k3.cell (uh HC2) (by simp)
       have HC1:=hide hQ1
       have HC2:=hide hQ2
       have HK3:=hide ((uh HK102).trans k3 (by simp))
       have H13c:=hide ((k3.block W10.heap.size (lt_of_block (uh H13b)) (by simp)).trans (uh H13b))
       have HRK3:=hide ((uh HRKD).kp ((uh HK10).trans (uh HK3) (by simp)) (by simp))
       have hdg:=uh HDGI
       clear k3 HDIG
       cases hv with
       | true =>
        have hb1:B / 2 ^ dg % 2 = 1:=uh HBIT
        have HB1:=hide hb1
        obtain ⟨hkid1,hkid2⟩:=uh HKID rfl
        have HKI1:=hide hkid1
        have HKI2:=hide hkid2
        clear hb1 hkid1 hkid2 HKID HBIT
        have hbt:(((B:Int) / 2 ^ dg).tmod 2 == 1) = true:=by rw [xa3h,uh HB1]; rfl
        go_wp2_with fail
        go_loopw [18,19] (fun t18 t19 wr=>∃ (y c:Nat),t19 = .int .i64 y∧t18 = .int .i64 c∧c = cnt B y∧y≤dg∧wr = W3) (fun _ t _=>dg - (intOf t).toNat)
        case atStart=>exact ⟨0,0,rfl,rfl,rfl,Nat.zero_le _,rfl⟩
        case round =>
         obtain ⟨y,c,rfl,rfl,hc,hy,rfl⟩:=hrel
         by_cases hlt:y < dg
         ·have hlt2:(y:Int) < dg:=by omega
          have HCN:=hide (xa9x B y)
          have hcl:=cnt_le B y
          have HB2:=hide (xa3h B y)
          by_cases hbb:B / 2 ^ y % 2 = 1
          ·have htm:((B:Int) / 2 ^ y).tmod 2 = 1:=by rw [uh HB2,hbb]; rfl
           have hwc:IntKind.i64.wrap ((c:Int) + 1) = (c:Int) + 1:=by simp [IntKind.wrap,IntKind.signed,IntKind.bits]; omega
           have HC5:=hide (show c + 1 = cnt B (y + 1) by rw [uh HCN,hbb,hc])
           clear hbb hc hcl
           go_wp2_with fail
           refine ⟨⟨y + 1,c + 1,by go_num,by go_num,uh HC5,hlt,by first | rfl | trivial⟩,?_⟩
           simp [intOf]; omega
          ·have hb0:B / 2 ^ y % 2 = 0:=by omega
           have htm:((B:Int) / 2 ^ y).tmod 2 = 0:=by rw [uh HB2,hb0]; rfl
           have hwc:IntKind.i64.wrap (c:Int) = (c:Int):=by simp [IntKind.wrap,IntKind.signed,IntKind.bits]; omega
           have HC5:=hide (show c = cnt B (y + 1) by rw [uh HCN,hb0,hc,Nat.add_zero])
           clear hbb hb0 hc hcl
           go_wp2_with fail
           refine ⟨⟨y + 1,c,by go_num,by first | rfl | go_num,uh HC5,hlt,by first | rfl | trivial⟩,?_⟩
           simp [intOf]; omega
         ·have hlt2:¬ (y:Int) < dg:=by omega
          have hye:y = dg:=by omega
          subst hye
          have HRA:=hide (show c < KD.length by rw [hc]; exact uh HKI1)
          have HRB:=hide (show KD.getD c [] = D by rw [hc]; exact uh HKI2)
          clear hc HKI1 HKI2
          have hx2p:0 < x2:=by have h1:=uh HRA; have h2:=uh HX2L; omega
          obtain ⟨kb,ko,rfl,hkc⟩:=uh HKC hx2p
          have hcx:c < x2:=by have h1:=uh HRA; have h2:=uh HX2L; omega
          have hrow:=hkc c hcx
          rw [uh HRB] at hrow
          have HRW:=hide (((uh HK10).trans (uh HK3) (by simp)).rng hrow (by simp))
          have HRD0:=hide (xa3x (uh H13c))
          have hge:¬ (x2:Int)≤c:=by omega
          have hDl:=uh HDL
          clear hrow hkc
          go_upto_region 35 with fail
          have hd2:=(Kept.refl [] wr).drew
          refine lg_f35 (by kernel_rfl) (by kernel_rfl) (fun W=>Kept [] wr W) hd2 ?_
          refine LinG.rd (by rfl) (.int .i64 c) (fun W hW=>by go_simp) (by simp only [Act.put,sa1,sa2,sa3]; rfl) ?_
          refine LinG.rd (by rfl) (.pointer (some ⟨g16,1,none⟩)) (fun W hW=>by go_simp) (by simp only [Act.put,sa1,sa2,sa3]; rfl) ?_
          refine LinG.rd (by rfl) (.slice (some ⟨kb,ko,none⟩) x2 x3) (fun W hW=>by have h9:=hW.cell (uh HC2) (by simp); go_simp) (by simp only [Act.put,sa1,sa2,sa3]; rfl) ?_
          refine LinG.rd (by rfl) (.int .i64 x2) (fun W hW=>by go_simp) (by simp only [Act.put,sa1,sa2,sa3]; rfl) ?_
          refine LinG.rd (by rfl) (.bool false) (fun W hW=>by go_simp) (by simp only [Act.put,sa1,sa2,sa3]; rfl) ?_
          refine LinG.rd (by rfl) (.bool false) (fun W hW=>by go_simp) (by simp only [Act.put,sa1,sa2,sa3]; rfl) ?_
          refine LinG.rd (by rfl) (.pointer (some ⟨g16,1,none⟩)) (fun W hW=>by go_simp) (by simp only [Act.put,sa1,sa2,sa3]; rfl) ?_
          refine LinG.rd (by rfl) (.slice (some ⟨kb,ko,none⟩) x2 x3) (fun W hW=>by have h9:=hW.cell (uh HC2) (by simp); go_simp) (by simp only [Act.put,sa1,sa2,sa3]; rfl) ?_
          refine LinG.rd (by rfl) (.int .i64 c) (fun W hW=>by go_simp) (by simp only [Act.put,sa1,sa2,sa3]; rfl) ?_
          refine LinG.rd (by rfl) (.pointer (some ⟨kb,ko + c * 32,none⟩)) (fun W hW=>by go_simp) (by simp only [Act.put,sa1,sa2,sa3]; rfl) ?_
          refine LinG.ld (by rfl) 64 (.tmp 125) rfl kb (ko + c * 32) rfl (D.map u8) _ (fun W hW=>hW.rng (uh HRW) (by simp)) Tryz.underlying64 rfl (by rw [List.length_map,hDl]; exact Tryz.size_dig) (by simp only [Act.put,sa1,sa2,sa3]; rfl) ?_
          refine LinG.ld (by rfl) 64 (.tmp 13) rfl W10.heap.size 0 rfl (D.map u8) _ (fun W hW=>hW.rng (uh HRD0) (by simp)) Tryz.underlying64 rfl (by rw [List.length_map,hDl]; exact Tryz.size_dig) (by simp only [Act.put,sa1,sa2,sa3]; rfl) ?_
          refine LinG.rd (by rfl) (.bool false) (fun W hW=>xb5d 64 (.tmp 126) (.tmp 127) 64 rfl (brow D) (brow D) rfl rfl W true (by kernel_rfl) (by have h9:=dig_eq W D D hDl hDl; rw [decide_eq_true rfl] at h9; exact h9)) (by simp only [Act.put,sa1,sa2,sa3]; rfl) ?_
          refine LinG.rd (by rfl) (.bool false) (fun W hW=>by go_simp) (by simp only [Act.put,sa1,sa2,sa3]; rfl) ?_
          refine LinG.fin ?_
          have hq1:=hd2.cell (uh HC1) (by simp)
          have hq2:=hd2.cell (uh HC2) (by simp)
          have HC1:=hide hq1
          have HC2:=hide hq2
          have H13c:=hide ((hd2.block W10.heap.size (lt_of_block (uh H13c)) (by simp)).trans (uh H13c))
          have HRK3:=hide ((uh HRK3).old hd2)
          have HK3:=hide ((uh HK3).trans hd2 (by simp))
          obtain ⟨W4,hW4⟩:∃ W4,W4 = wr.drew:=⟨_,rfl⟩
          rw [← hW4] at hq1 hq2 HC1 HC2 H13c HRK3 HK3 ⊢
          clear hd2 hW4
          have hBA:=xa2k (k:Int) B (.slice (some ⟨kb,ko,none⟩) x2 x3) KD W4 (by omega) (uh HBL) (uh HRK3) ((uh HT).k ((uh HKX).trans (uh HK3) (by simp)))
          rw [uh HBZ,show sunE 0 (k:Int) = 0 from uh HSE,show sunD 0 (k:Int) (branchB (k:Int) B KD) = sumD (k:Int) (branchB (k:Int) B KD) from rfl,uh HUP] at hBA
          have HBA:=hide hBA
          clear hBA
          go_wp2_with fail
          refine Calls.mono (uh HBA) ?_
          rintro e w20 ⟨rfl,k20⟩
          have H20:=hide (show w20.heap[W10.heap.size]? = some (.cells (brow D) 64 (0,0)) from (k20.block _ (lt_of_block (uh H13c)) (by simp)).trans (uh H13c))
          have HK20:=hide (((uh HK3).trans k20 (by simp)).setRow (g:=W10.heap.size) (Or.inr (Nat.le_refl _)) (brow ND))
          have HR20:=hide (show (w20.setRow W10.heap.size (brow ND)).heap[W10.heap.size]? = some (.cells (brow ND) 64 (0,0)) from setRow_heap _ _ _ _ _ _ (uh H20))
          clear k20 HBA
          go_wp2_with (refine wpList_store_row rfl 64 (.tmp 13) (.tmp 137) rfl W10.heap.size (brow ND) rfl rfl _ (brow D) (uh H20) (by rw [xa0a,uh HNDL]; exact Tryz.size_dig) (by rw [xa0a,xa0a,uh HNDL,uh HDL]) (xa0c _) ?_)
          generalize w20.setRow W10.heap.size (brow ND) = W21 at HK20 HR20 ⊢
          refine ⟨⟨i,true,ND,by first | rfl | rw [hwd],rfl,rfl,by omega,hide (by cases hc:dnL (hsZ k) q L i with | nil=>exact absurd hc (xa1u (uh HSGI)) | cons _ _=>rfl),hide (fun _=>(uh HND)),HNDL,HR20,HK20⟩,?_⟩
          simp [intOf]; try omega
       | false =>
        have hb1:B / 2 ^ dg % 2 = 0:=uh HBIT
        have HB1:=hide hb1
        have hbt:(((B:Int) / 2 ^ dg).tmod 2 == 1) = false:=by rw [xa3h,uh HB1]; rfl
        clear hb1 HKID HBIT
        have hq1:=uh HC1
        have hq2:=uh HC2
        have hBA:=xa2k (k:Int) B (.slice x1 x2 x3) KD W3 (by omega) (uh HBL) (uh HRK3) ((uh HT).k ((uh HKX).trans (uh HK3) (by simp)))
        rw [uh HBZ,show sunE 0 (k:Int) = 0 from uh HSE,show sunD 0 (k:Int) (branchB (k:Int) B KD) = sumD (k:Int) (branchB (k:Int) B KD) from rfl,uh HUP] at hBA
        have HBA:=hide hBA
        clear hBA
        go_wp2_with fail
        refine Calls.mono (uh HBA) ?_
        rintro e w20 ⟨rfl,k20⟩
        have H20:=hide (show w20.heap[W10.heap.size]? = some (.cells (brow D) 64 (0,0)) from (k20.block _ (lt_of_block (uh H13c)) (by simp)).trans (uh H13c))
        have HK20:=hide (((uh HK3).trans k20 (by simp)).setRow (g:=W10.heap.size) (Or.inr (Nat.le_refl _)) (brow ND))
        have HR20:=hide (show (w20.setRow W10.heap.size (brow ND)).heap[W10.heap.size]? = some (.cells (brow ND) 64 (0,0)) from setRow_heap _ _ _ _ _ _ (uh H20))
        clear k20 HBA
        go_wp2_with (refine wpList_store_row rfl 64 (.tmp 13) (.tmp 137) rfl W10.heap.size (brow ND) rfl rfl _ (brow D) (uh H20) (by rw [xa0a,uh HNDL]; exact Tryz.size_dig) (by rw [xa0a,xa0a,uh HNDL,uh HDL]) (xa0c _) ?_)
        generalize w20.setRow W10.heap.size (brow ND) = W21 at HK20 HR20 ⊢
        refine ⟨⟨i,true,ND,by first | rfl | rw [hwd],rfl,rfl,by omega,hide (by cases hc:dnL (hsZ k) q L i with | nil=>exact absurd hc (xa1u (uh HSGI)) | cons _ _=>rfl),hide (fun _=>(uh HND)),HNDL,HR20,HK20⟩,?_⟩
        simp [intOf]; try omega
  ·have hqi:(64:Int) < qn:=by have:=uh HQN; omega
   clear hw
   go_wp2_with fail
   go_ret
   exact ⟨rfl,(uh HK1).below (Nat.le_refl _) (by simp)⟩
end
section
open Go.ChangeShapes Go.WideShapes Go.ChangeAt Go.RowKit Go.Deep
theorem own:ownKnob Tryz.prog.godebug = none:=by kernel_rfl
theorem laidOut:laidOutB Tryz.prog = true:=by kernel_rfl
theorem xa5w {x:Int} (h:(Lit.int .u8 x).wf = true):0≤x∧x < 256:=by
 simp [Lit.wf,IntKind.min,IntKind.max,IntKind.signed,IntKind.bits] at h
 exact ⟨by omega,by omega⟩
theorem xb4b {x:Int} (h:(Lit.int .i64 x).wf = true):-9223372036854775808≤x∧x≤9223372036854775807:=by
 simp [Lit.wf,IntKind.min,IntKind.max,IntKind.signed,IntKind.bits] at h
 exact ⟨by omega,by omega⟩
theorem xb6n {H:Type} (d:DataW H):1≤Rows.uptoBulk d:=by
 cases d with
 | lit l=>cases l <;> simp [Rows.uptoBulk]
 | nil=>simp [Rows.uptoBulk]
 | ptr d=>simp [Rows.uptoBulk]
 | slice elems spare=>simp [Rows.uptoBulk]
 | agg parts=>simp [Rows.uptoBulk]
 | iface t d=>simp [Rows.uptoBulk]
 | map entries=>simp [Rows.uptoBulk]
 | held h=>simp [Rows.uptoBulk]
theorem xb7h {H:Type} (l:List (DataW H)):l.length≤Rows.uptoBulkAll l:=by
 induction l with
 | nil=>simp [Rows.uptoBulkAll]
 | cons x r ih=>have:=xb6n x; simp only [Rows.uptoBulkAll,List.length_cons]; omega
section
variable {H:Type} {enc:TypeId × Value→H} {W:World}
theorem xa4g {fuel:Nat} {cs:List Value} {x:DataW H × List MemPlace} (h:DataW.trod enc Tryz.prog W 0 (fun _=>true) true fuel 32 cs = some x) :
  ∃ v bs,cs = [v]∧(bs.length≤140737488355328→Rd W v bs)∧((bs = []∧x.1 = .nil)∨∃ elems spare,x.1 = .slice elems spare∧elems.length = bs.length):=by
 rcases open_ints Tryz.underlying32 Tryz.underlying5 (by kernel_rfl) h with ⟨rfl,rfl⟩ | ⟨a,len,cap,zs,rfl,_,hl,hm,hz,rfl,hcell,hwz⟩
 ·exact ⟨_,[],rfl,fun _=>Rd.nil W,.inl ⟨rfl,rfl⟩⟩
 ·have h2:(lits (H:=H) .u8 (zs.take len)).length = len:=by simp only [lits,List.length_map,List.length_take]; simp at hz; omega
  have hbl:((zs.take len).map Int.toNat).length = len:=by simp at hz; simp; omega
  refine ⟨_,(zs.take len).map Int.toNat,rfl,fun hB=>⟨_,_,_,rfl,hbl,hl,⟨by unfold maxLen at hm; omega,by omega⟩,by simp,?_,?_⟩,.inr ⟨_,_,rfl,by rw [h2,hbl]⟩⟩
  ·intro y hy
   obtain ⟨z,hz1,rfl⟩:=List.mem_map.1 hy
   have:=xa5w (hwz z (List.mem_of_mem_take hz1)); omega
  ·intro hp
   simp at hz
   have hc0:=hcell 0 (by omega)
   obtain ⟨b,off,spot⟩:=a
   have hspot:spot = none:=by simpa [Addr.add] using World.cell?_spot hc0
   subst hspot
   refine ⟨b,off,rfl,fun i hi=>?_⟩
   have hc:=hcell i (by omega)
   have hzi:i < zs.length:=by omega
   rw [Addr.add_mid] at hc
   rw [hc]
   have hw:=xa5w (hwz (zs[i]) (List.getElem_mem hzi))
   simp only [List.getD_eq_getElem?_getD,List.getElem?_eq_getElem hzi,Option.getD_some,List.getElem?_map,List.getElem?_take,hi,if_true,Option.map_some]
   simp [u8]; omega
theorem xa4d {d:DataW H} {bs:List Nat} (hx:(bs = []∧d = .nil)∨∃ elems spare,d = .slice elems spare∧elems.length = bs.length):bs.length + 1≤Rows.uptoBulk d:=by
 rcases hx with ⟨rfl,rfl⟩ | ⟨elems,spare,rfl,he⟩
 ·simp [Rows.uptoBulk]
 ·have:=xb7h elems
  simp only [Rows.uptoBulk]; omega
end
section
variable {H:Type} {enc:TypeId × Value→H} {W:World}
theorem xa7o {d:DataW H} {l:List (DataW H)} (h:d∈l):Rows.uptoBulk d≤Rows.uptoBulkAll l:=by
 induction l with
 | nil=>cases h
 | cons x r ih =>
  simp only [Rows.uptoBulkAll]
  cases List.mem_cons.1 h with
  | inl e=>subst e; omega
  | inr e=>have:=ih e; omega
theorem xa7m (f:Nat→List Nat × List Nat) (D0 D1:Nat→DataW H) (l:List Nat) (h:∀ i∈l,(f i).1.length + 1≤Rows.uptoBulk (D0 i)∧(f i).2.length + 1≤Rows.uptoBulk (D1 i)):kwt (l.map f)≤Rows.uptoBulkAll (l.map fun i=>.agg [D0 i,D1 i]):=by
 induction l with
 | nil=>simp [kwt]
 | cons a l ih =>
  have h1:=h a (by simp)
  have h2:=ih (fun i hi=>h i (by simp [hi]))
  simp only [kwt,List.map_cons,List.sum_cons,Rows.uptoBulkAll,Rows.uptoBulk] at h2 ⊢
  omega
theorem xb0d {fuel:Nat} {cs:List Value} {x:DataW H × List MemPlace} (h:DataW.trod enc Tryz.prog W 0 (fun _=>true) true fuel 40 cs = some x) (hB:Rows.uptoBulk x.1≤1048576) :
  ∃ v ps,cs = [v]∧RdK W v ps∧kwt ps≤1048576:=by
 rcases open_slice_pairs Tryz.underlying40 Tryz.underlying46 (by kernel_rfl) rfl rfl (by kernel_rfl) (by kernel_rfl) h with ⟨rfl,rfl⟩ | ⟨a,len,cap,m,n,V0,V1,D0,D1,P0,P1,rfl,_,hl,hm,hmm,rfl,hx⟩
 ·exact ⟨_,[],rfl,⟨none,0,0,[],[],rfl,rfl,Nat.le_refl _,by omega,fun i h=>by omega,fun h=>by omega⟩,by simp [kwt]⟩
 ·simp only [if_true] at hmm
  simp only [Rows.uptoBulk] at hB
  obtain ⟨f,hf⟩:=choose_lt (α:=List Nat × List Nat) (n:=len) (p:=fun i o=>(Rd W (V0 i) o.1∧Rd W (V1 i) o.2)∧o.1.length + 1≤Rows.uptoBulk (D0 i)∧o.2.length + 1≤Rows.uptoBulk (D1 i)) (by
   intro i hi
   obtain ⟨_,_,h0,h1⟩:=hx i (by omega)
   have hDi:Rows.uptoBulk (.agg [D0 i,D1 i])≤Rows.uptoBulkAll ((List.range len).map fun i=>.agg [D0 i,D1 i]):=xa7o (List.mem_map.2 ⟨i,List.mem_range.2 hi,rfl⟩)
   simp only [Rows.uptoBulk,Rows.uptoBulkAll] at hDi
   obtain ⟨v,bs,e0,hr0,hb0⟩:=xa4g h0
   obtain ⟨v',bs',e1,hr1,hb1⟩:=xa4g h1
   simp only [List.cons.injEq,and_true] at e0 e1
   subst e0
   subst e1
   have g0:=xa4d hb0
   have g1:=xa4d hb1
   exact ⟨(bs,bs'),⟨hr0 (by simp only at g0; omega),hr1 (by simp only at g1; omega)⟩,g0,g1⟩)
  refine ⟨_,(List.range len).map f,rfl,⟨some a,len,cap,(List.range len).map V0,(List.range len).map V1,rfl,by simp,hl,by unfold maxLen at hm; omega,?_,?_⟩,?_⟩
  ·intro i hi
   have hc:=(hf i hi).1
   simpa [List.getD_eq_getElem?_getD,hi] using hc
  ·intro hp
   obtain ⟨b,off,spot⟩:=a
   have hc0:=(hx 0 (by omega)).1
   have hspot:spot = none:=by simpa [Addr.add] using World.cell?_spot hc0
   subst hspot
   refine ⟨b,off,rfl,fun i hi=>?_⟩
   have hc:=hx i (by omega)
   rw [Addr.add_mid,Addr.add_mid] at hc
   have:=And.intro hc.1 hc.2.1
   simpa [List.getD_eq_getElem?_getD,hi,Nat.add_assoc] using this
  ·have:=xa7m f D0 D1 (List.range len) (fun i hi=>(hf i (List.mem_range.1 hi)).2)
   omega
end
end
end Go.Proofs.YtfnbmnpkjggiaaaGreatDoor
