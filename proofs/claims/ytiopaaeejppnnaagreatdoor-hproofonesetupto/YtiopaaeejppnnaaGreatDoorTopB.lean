import Derived.Test.YtiopaaeejppnnaaGreatDoorTopA
namespace Go.Proofs.YtiopaaeejppnnaaGreatDoor
set_option linter.unusedVariables false
set_option linter.unusedSimpArgs false
set_option maxRecDepth 100000
section
open Go.RowKit Go.BigFrame
set_option maxHeartbeats 1000000 in
theorem xa3n (k:Nat) (x:Nat) (v:Value) (ds:List (List Nat)) (w:World) (hk':k≤32) (hx:x < 65536) (hv:RdD w v ds) (hn:ds.length≤16) :
  Calls Tryz.prog 146 #[.int .i64 k,.int .u16 x,v] w fun e w'=>∃ v',e = .returned v'∧Rd w' v' (branchB k x ds)∧Kept [] w w':=by
 obtain ⟨ao,len,cap,rfl,h1,h2,h3,h4,h5⟩:=hv
 have H4:=hide h4
 have H5:=hide h5
 clear h4 h5
 subst h1
 have hk:(k:Int)≤32:=by omega
 have HKL:=hide (fun i=>Nat.le_trans (xa9n k (ds.take i)) (Nat.mul_le_mul hk' (by rw [List.length_take]; exact Nat.min_le_right _ _)):∀ i,(kidsB k (ds.take i)).length≤32 * ds.length)
 go_enter Tryz.func146,Tryz.ntmps146
 go_wp2_with fail
 refine Calls.mono (xb1g x 2 _ (by omega) (by decide)) ?_
 rintro e w1 ⟨rfl,k1,g1⟩
 have HR1:=hide (xa3p g1 (xa9p x 2) (by simp [xa1t]))
 rw [xa1t,show (w.alloc (.cells #[.int .u8 4] 5)).heap.size = w.heap.size + 1 from Array.size_push _] at HR1
 have k01:=((Kept.refl [] w).alloc _).trans k1 (by simp)
 have HK1:=hide k01
 have HR0:=hide ((xb3m [4] (heap_alloc_new w (.cells #[.int .u8 4] 5)) rfl (by decide) 1 rfl (by decide)).old k1 (by simp))
 clear g1 k1 k01
 go_wp2_with fail
 refine Calls.mono (xb2h _ _ [4] (wide x 2) _ (uh HR0) (uh HR1) (by simp [xa1t])) ?_
 rintro e w2 ⟨v2,rfl,o2,k2⟩
 have HO2:=hide o2
 have HS2:=hide ((uh HK1).size)
 have HK2:=hide ((uh HK1).trans k2 (by simp))
 obtain ⟨ao2,cap2,hu2⟩:=xa3b o2
 subst hu2
 have hzz:=k2.size
 clear o2 k2
 obtain ⟨B0,hB0⟩:∃ B0,w1.heap.size = B0:=⟨_,rfl⟩
 rw [hB0] at HO2 HS2 hzz
 clear hB0
 go_wp2_with fail
 go_loopw [7,17] (fun t7 t17 wr=>∃ (i:Nat) (cur:List Nat) (ao:Option Addr) (cap:Nat),i≤ds.length∧t17 = .int .i64 i∧t7 = .slice ao cur.length cap∧Hid (cur = 4 :: wide x 2++kidsB k (ds.take i))∧Hid (wr.ownsRow B0 5 1 (.slice ao cur.length cap) cur.length (cur.map u8))∧Hid (∀ z∈cur,z < 256)∧Hid (Kept [] w wr)∧B0≤wr.heap.size) (fun _ t _=>ds.length - (intOf t).toNat)
 case atStart=>exact ⟨0,[4]++wide x 2,ao2,cap2,Nat.zero_le _,rfl,by simp,hide (by simp [kidsB]),hide (by simpa using uh HO2),hide (by intro z hz; rcases List.mem_append.1 hz with h | h; simp at h; omega; exact xa9p _ _ z h),HK2,hzz⟩
 case round =>
  obtain ⟨i,cur,aoc,capc,hi,rfl,rfl,HCUR,HO,HCB,HK,hb0⟩:=hrel
  have HCL:=hide (by have h9:=uh HKL i; rw [uh HCUR]; simp only [List.length_append,List.length_cons,xa1t]; omega:cur.length≤1000)
  by_cases hlt:i < ds.length
  ·have hlt':(i:Int) < ds.length:=by omega
   obtain ⟨b,o',rfl,hcell⟩:=uh H5 (by omega)
   have HD:=hide (uh H4 (ds.getD i []) (by rw [List.getD_eq_getElem?_getD,List.getElem?_eq_getElem hlt]; exact List.getElem_mem hlt))
   have HRG:=hide (fun j v hv=>(uh HK).cell (hcell i hlt j v hv) (by simp):wr.rangeAt b (o' + i * 32) ((ds.getD i []).map u8))
   have HSN:=hide (xa7q k ds i hlt)
   clear hcell
   obtain ⟨d,hd⟩:∃ d,ds.getD i [] = d:=⟨_,rfl⟩
   rw [hd] at HD HRG HSN
   clear hd
   have hdl:=(uh HD).1
   have HSZ:=hide (by rw [xa0a,hdl]; exact Tryz.size_dig:(Tryz.prog.info? 50).map (·.size) = some (brow d).size)
   have k1:=(((Kept.refl [] wr).alloc (.cells (zb 32) 50)).setRow (g:=wr.heap.size) (Or.inr (Nat.le_refl _)) (brow d))
   have HNW:=hide (rd_dig (k:=k) (xa1g (setRow_heap (wr.alloc (.cells (zb 32) 50)) wr.heap.size (zb 32) (brow d) 50 (0,0) (heap_alloc_new _ _))) hdl (uh HD).2 hk')
   have HOW:=hide (k1.owns (uh HO) (by simp))
   have HKW:=hide ((uh HK).trans k1 (by simp))
   have hbW:=Nat.le_trans hb0 k1.size
   clear k1
   have htl:(d.take k).length = k:=by rw [List.length_take,hdl]; omega
   go_wp2_with (first
    | (refine wpList_load_mid rfl 50 (.tmp 19) rfl b (o' + i * 32) rfl (d.map u8) _ (uh HRG) Tryz.underlying50 rfl (by rw [List.length_map,hdl]; exact Tryz.size_dig) ?_)
    | (rw [zb32]; refine wpList_store_row rfl 50 (.tmp 9) _ rfl wr.heap.size (brow d) rfl rfl _ (zb 32) (heap_alloc_new _ _) (uh HSZ) (by rw [xa0l,xa0a,hdl]) (xa0f _) ?_)
    | (at_builtin; go_must (refine xa0c rfl _ _ rfl rfl _ B0 (.slice aoc cur.length capc) cur (d.take k) _ _ _ (by exact uh HOW) (by exact uh HNW) (by have:=uh HCL; rw [htl]; omega) hbW rfl rfl ?_; intro ao6 cap6 w6 HO6 HG6 HA6; have HK6:=hide ((uh HKW).grown (uh HG6) (by intro g hg; right; have:=((uh HO).lt g hg).1; have:=uh HS2; omega)); have hb7:=(uh HG6).size)))
   refine ⟨⟨i + 1,cur++d.take k,ao6,cap6,by omega,by go_num,by simp only [List.length_append,htl],hide (by rw [uh HSN,uh HCUR]; simp only [List.append_assoc]),hide (by have h5:=uh HO6; rw [← List.length_append] at h5; exact h5),hide (by intro z hz; rcases List.mem_append.1 hz with h | h; exact uh HCB z h; exact (uh HD).2 z (List.mem_of_mem_take h)),HK6,Nat.le_trans hbW hb7⟩,?_⟩
   simp [intOf]; omega
  ·have hlt':¬ (i:Int) < ds.length:=by omega
   have hie:i = ds.length:=by omega
   subst hie
   rw [List.take_length] at HCUR
   go_wp2_with fail
   go_ret
   refine ⟨_,rfl,?_,uh HK⟩
   have h5:=xa4d (uh HO) (uh HCB) (by have:=uh HCL; omega)
   rw [show branchB k x ds = cur from by rw [uh HCUR]; rfl]
   exact h5
set_option maxHeartbeats 1000000 in
theorem xa4u (v:Value) (ps:List (List Nat × List Nat)) (w:World) (h:RdK w v ps) (hl:(pairB ps).length≤1000000000000) :
  Calls Tryz.prog 126 #[v] w fun e w'=>∃ v',e = .returned v'∧NewB w w' v' (buckB ps)∧Kept [] w w':=by
 obtain ⟨ao,len,cap,vs,us,rfl,h1,h3,h4,h5,h6⟩:=h
 have H5:=hide h5
 have H6:=hide h6
 clear h5 h6
 subst h1
 go_enter Tryz.func126,Tryz.ntmps126
 have HW0:=hide (Wn.start (Kept.refl [] w))
 go_wp2_with fail
 refine Calls.mono (wn_u8 3 (uh HW0) (by decide) (by simp)) ?_
 rintro e w1 ⟨rfl,v1,h1⟩
 have HW1:=hide h1
 clear h1 HW0
 go_wp2_with fail
 refine Calls.mono (xc1q ps.length (uh HW1) (by omega) (by simp [xa1t])) ?_
 rintro e w2 ⟨rfl,v2,h2⟩
 rw [show []++wide 3 1++uv ps.length = 3 :: uv ps.length by simp [wide]] at h2
 have HW2:=hide h2
 clear h2 HW1
 have HUV:=hide (uv_len ps.length (by omega))
 go_wp2_with fail
 go_loopw [13] (fun t13 wr=>∃ (i:Nat) (v:Value),i≤ps.length∧t13 = .int .i64 i∧Hid (Wn w wr w.heap.size v (3 :: uv ps.length++pairB (ps.take i)))) (fun t _=>ps.length - (intOf t).toNat)
 case atStart=>exact ⟨0,v2,Nat.zero_le _,rfl,by simpa [pairB] using HW2⟩
 case round =>
  obtain ⟨i,vw,hi,rfl,HW⟩:=hrel
  by_cases hlt:i < ps.length
  ·have hlt':(i:Int) < ps.length:=by omega
   obtain ⟨b,off,rfl,hcc⟩:=uh H6 (by omega)
   have q1:=(uh HW).kept.cell (hcc i hlt).1 (by simp)
   have q2:=(uh HW).kept.cell (hcc i hlt).2 (by simp)
   have HA:=hide (uh H5 i hlt)
   have hget:ps.getD i ([],[]) = ps[i]:=by rw [List.getD_eq_getElem?_getD,List.getElem?_eq_getElem hlt]; rfl
   rw [hget] at HA
   have HSN:=hide (xa7o ps i hlt)
   have HLE:=hide (xb3a ps (i + 1))
   clear hcc hget
   generalize vs.getD i undef = vi at q1 HA
   generalize us.getD i undef = ui at q2 HA
   generalize ps[i] = pi at HA HSN
   obtain ⟨pk,pv⟩:=pi
   simp only at HA HSN
   rw [uh HSN] at HLE
   have HLE2:=hide (by have h9:=uh HLE; simp only [List.length_append] at h9; omega:(pairB (ps.take i)).length + (uv pk.length).length + pk.length + (uv pv.length).length + pv.length≤1000000000000)
   have HU2:=hide (uv_pos pk.length)
   obtain ⟨a8,m8,c8,rfl,hm8,_⟩:=id (uh HA).1
   obtain ⟨a9,m9,c9,rfl,hm9,_⟩:=id (uh HA).2
   subst hm8
   subst hm9
   go_wp2_with fail
   have HWW:=hide (⟨(uh HW).at_.alloc (.cells #[.slice a8 pk.length c8,.slice a9 pv.length c9] 32),(uh HW).new,(uh HW).hb,(uh HW).kept.alloc _⟩:Wn w (wr.alloc (.cells #[.slice a8 pk.length c8,.slice a9 pv.length c9] 32)) w.heap.size vw (3 :: uv ps.length++pairB (ps.take i)))
   have HCW:=hide (heap_alloc_new wr (.cells #[.slice a8 pk.length c8,.slice a9 pv.length c9] 32))
   obtain ⟨W,hW⟩:∃ W,wr.alloc (.cells #[.slice a8 pk.length c8,.slice a9 pv.length c9] 32) = W:=⟨_,rfl⟩
   rw [hW] at HWW HCW ⊢
   clear hW
   have d1:W.cell? ⟨wr.heap.size,1,none⟩ = some (.slice a9 pv.length c9):=by rw [cell_of_row _ _ _ _ _ _ (uh HCW)]; rfl
   refine Calls.mono (xb0m _ vw _ _ pk W (uh HWW).at_ (fun w' k=>(uh HWW).rd (uh HA).1 k) (by have:=uh HLE2; have:=uh HUV; simp only [List.length_append,List.length_cons]; omega)) ?_
   rintro e w3 ⟨rfl,v3,h3,g3⟩
   have hn3:wr.heap.size∉w.heap.size :: vw.ownBlock.toList:=by
    intro hx
    rcases List.mem_cons.1 hx with hx | hx
    ·have:=(uh HW).at_.lt; omega
    ·have:=(uh HW).at_.ownlt (g:=wr.heap.size) (by simpa [Option.mem_toList] using hx); omega
   have d2:=g3.kept.cell d1 hn3
   have HW3:=hide ((uh HWW).grew h3 g3)
   clear h3 g3 hn3 d1
   go_wp2_with fail
   refine Calls.mono (xc0m (uh HW3) (uh HA).2 (by have:=uh HLE2; have:=uh HUV; simp only [List.length_append,List.length_cons]; omega)) ?_
   rintro e w4 ⟨rfl,v4,h4⟩
   have HW4:=hide h4
   clear h4
   go_wp2
   refine ⟨⟨i + 1,v4,by omega,by go_num,?_⟩,?_⟩
   ·rw [uh HSN]
    simpa only [List.append_assoc] using HW4
   simp [intOf]; omega
  ·have hlt':¬ (i:Int) < ps.length:=by omega
   have hie:i = ps.length:=by omega
   subst hie
   rw [List.take_length] at HW
   go_wp2_with fail
   refine Calls.mono (xb2i (uh HW) (by have:=uh HUV; simp only [List.length_append,List.length_cons]; omega)) ?_
   rintro e w6 ⟨v6,rfl,h6,k6⟩
   have H6':=hide h6
   have HK6:=hide k6
   clear h6 k6
   go_wp2
   go_ret
   exact ⟨_,rfl,uh H6',uh HK6⟩
set_option maxHeartbeats 1000000 in
theorem xa3l (v:Value) (ps:List (List Nat × List Nat)) (w:World) (h:RdK w v ps) (hl:(pairB ps).length≤1000000000000) :
  Calls Tryz.prog 145 #[v] w fun e w'=>∃ v',e = .returned v'∧Rd w' v' (buckB ps)∧Kept [] w w':=by
 obtain ⟨ao,len,cap,vs,us,rfl,h1,h3,h4,h5,h6⟩:=h
 have H5:=hide h5
 have H6:=hide h6
 clear h5 h6
 subst h1
 go_enter Tryz.func145,Tryz.ntmps145
 have HUV:=hide (uv_len ps.length (by omega))
 go_wp2_with fail
 refine Calls.mono (xa4z ps.length _ (by omega)) ?_
 rintro e w1 ⟨v1,rfl,r1,k1,_⟩
 have HR1:=hide r1
 have k01:=((Kept.refl [] w).alloc _).trans k1 (by simp)
 have HK1:=hide k01
 have HR0:=hide ((xb3m [3] (heap_alloc_new w (.cells #[.int .u8 3] 5)) rfl (by decide) 1 rfl (by decide)).old k1 (by simp))
 clear r1 k1 k01
 go_wp2_with fail
 refine Calls.mono (xb2h _ _ [3] (uv ps.length) _ (uh HR0) (uh HR1) (by have:=uh HUV; simp; omega)) ?_
 rintro e w2 ⟨v2,rfl,o2,k2⟩
 have HO2:=hide o2
 have HS2:=hide ((uh HK1).size)
 have HK2:=hide ((uh HK1).trans k2 (by simp))
 obtain ⟨ao2,cap2,hu2⟩:=xa3b o2
 subst hu2
 have hzz:=k2.size
 clear o2 k2
 obtain ⟨B0,hB0⟩:∃ B0,w1.heap.size = B0:=⟨_,rfl⟩
 rw [hB0] at HO2 HS2 hzz
 clear hB0
 go_wp2_with fail
 go_loopw [3,14] (fun t3 t14 wr=>∃ (i:Nat) (cur:List Nat) (ao:Option Addr) (cap:Nat),i≤ps.length∧t14 = .int .i64 i∧t3 = .slice ao cur.length cap∧Hid (cur = 3 :: uv ps.length++pairB (ps.take i))∧Hid (wr.ownsRow B0 5 1 (.slice ao cur.length cap) cur.length (cur.map u8))∧Hid (∀ z∈cur,z < 256)∧Hid (Kept [] w wr)∧B0≤wr.heap.size) (fun _ t _=>ps.length - (intOf t).toNat)
 case atStart=>exact ⟨0,[3]++uv ps.length,ao2,cap2,Nat.zero_le _,rfl,by simp,hide (by simp [pairB]),hide (by simpa using uh HO2),hide (by intro z hz; rcases List.mem_append.1 hz with h | h; simp at h; omega; exact xb6g _ z h),HK2,hzz⟩
 case round =>
  obtain ⟨i,cur,aoc,capc,hi,rfl,rfl,HCUR,HO,HCB,HK,hb0⟩:=hrel
  by_cases hlt:i < ps.length
  ·have hlt':(i:Int) < ps.length:=by omega
   obtain ⟨b,off,rfl,hcc⟩:=uh H6 (by omega)
   have q1:=(uh HK).cell (hcc i hlt).1 (by simp)
   have q2:=(uh HK).cell (hcc i hlt).2 (by simp)
   have HA:=hide (uh H5 i hlt)
   have hget:ps.getD i ([],[]) = ps[i]:=by rw [List.getD_eq_getElem?_getD,List.getElem?_eq_getElem hlt]; rfl
   rw [hget] at HA
   have HSN:=hide (xa7o ps i hlt)
   have HLE:=hide (xb3a ps (i + 1))
   clear hcc hget
   generalize vs.getD i undef = vi at q1 HA
   generalize us.getD i undef = ui at q2 HA
   generalize ps[i] = pi at HA HSN
   obtain ⟨pk,pv⟩:=pi
   simp only at HA HSN
   rw [uh HSN] at HLE
   have HLE2:=hide (by have h9:=uh HLE; have h8:=uh HUV; rw [uh HCUR]; simp only [List.length_append,List.length_cons] at h9 ⊢; omega:cur.length + (uv pk.length).length + pk.length + (uv pv.length).length + pv.length≤1000000000100)
   obtain ⟨a8,m8,c8,rfl,hm8,_⟩:=id (uh HA).1
   obtain ⟨a9,m9,c9,rfl,hm9,_⟩:=id (uh HA).2
   subst hm8
   subst hm9
   go_wp2_with fail
   have k1:=(Kept.refl [] wr).alloc (.cells #[.slice a8 pk.length c8,.slice a9 pv.length c9] 32)
   have HCW:=hide (heap_alloc_new wr (.cells #[.slice a8 pk.length c8,.slice a9 pv.length c9] 32))
   obtain ⟨W,hW⟩:∃ W,wr.alloc (.cells #[.slice a8 pk.length c8,.slice a9 pv.length c9] 32) = W:=⟨_,rfl⟩
   rw [hW] at k1 HCW ⊢
   clear hW
   have HOW:=hide (k1.owns (uh HO) (by simp))
   have HKW:=hide ((uh HK).trans k1 (by simp))
   have HC1:=hide (by rw [cell_of_row _ _ _ _ _ _ (uh HCW)]; rfl:W.cell? ⟨wr.heap.size,1,none⟩ = some (.slice a9 pv.length c9))
   have hbW:=Nat.le_trans hb0 k1.size
   clear k1
   refine Calls.mono (xa5k _ pk _ ((uh HA).1.old (uh HKW) (by simp)) (by have:=uh HLE2; omega)) ?_
   rintro e w3 ⟨v3,rfl,r3,k3,_⟩
   obtain ⟨a3,m3,c3,hu3,hm3,_⟩:=id r3
   subst hu3
   have HR3:=hide r3
   have HO3:=hide (k3.owns (uh HOW) (by simp))
   have HK3:=hide ((uh HKW).trans k3 (by simp))
   have HK3W:=hide k3
   have hb3:=Nat.le_trans hbW k3.size
   clear r3 k3
   have hnin:wr.heap.size∉(Value.slice aoc cur.length capc).ownBlock.toList:=by
    intro hx
    have:=((uh HO).lt wr.heap.size (by simpa [Option.mem_toList] using hx)).2
    omega
   have HNI:=hide hnin
   have HLU:=hide ((uh HO).lt)
   clear hnin
   go_wp2_with (at_builtin; go_must (refine xa0c rfl _ _ rfl rfl _ B0 (.slice aoc cur.length capc) cur (uv pk.length++pk) _ _ _ (by exact uh HO3) (by exact uh HR3) (by have:=uh HLE2; simp only [List.length_append]; omega) hb3 rfl rfl ?_; intro ao4 cap4 w4 HO4 HG4 HA4; have c4:=(((uh HK3W).mono (M:=(Value.slice aoc cur.length capc).ownBlock.toList) (by simp)).grown (uh HG4) (by intro k hk; left; simpa [Option.mem_toList] using hk)).cell (uh HC1) (uh HNI); have HK4:=hide ((uh HK3).grown (uh HG4) (by intro k hk; right; have:=((uh HO).lt k hk).1; have:=uh HS2; omega)); have hb4:=(uh HG4).size))
   have hm3':m3 = (uv pk.length++pk).length:=by rw [← hm3]
   subst hm3'
   rw [← List.length_append] at HO4 ⊢
   have HC4:=hide (by intro z hz; rcases List.mem_append.1 hz with h | h; exact uh HCB z h; exact (uh HR3).byte z h:∀ z∈cur++(uv pk.length++pk),z < 256)
   obtain ⟨cur4,hcur4⟩:∃ c,cur++(uv pk.length++pk) = c:=⟨_,rfl⟩
   rw [hcur4] at HO4 HC4 ⊢
   have hl4:cur4.length = cur.length + ((uv pk.length).length + pk.length):=by rw [← hcur4]; simp
   have HL4:=hide hl4
   have HQ4:=hide hcur4
   have hb5:=Nat.le_trans hb3 hb4
   clear hl4 hcur4
   go_wp2_with fail
   refine Calls.mono (xa5k _ pv _ ((uh HA).2.old (uh HK4) (by simp)) (by have:=uh HLE2; omega)) ?_
   rintro e w5 ⟨v5,rfl,r5,k5,_⟩
   obtain ⟨a5,m5,c5,hu5,hm5,_⟩:=id r5
   subst hu5
   have HR5:=hide r5
   have HO5:=hide (k5.owns (uh HO4) (by simp))
   have HK5:=hide ((uh HK4).trans k5 (by simp))
   have hb6:=Nat.le_trans hb5 k5.size
   clear r5 k5
   go_wp2_with (at_builtin; go_must (refine xa0c rfl _ _ rfl rfl _ B0 (.slice ao4 cur4.length cap4) cur4 (uv pv.length++pv) _ _ _ (by exact uh HO5) (by exact uh HR5) (by have:=uh HLE2; have:=uh HL4; simp only [List.length_append]; omega) hb6 rfl rfl ?_; intro ao6 cap6 w6 HO6 HG6 HA6; have HK6:=hide ((uh HK5).grown (uh HG6) (by intro k hk; right; have:=((uh HO4).lt k hk).1; have:=uh HS2; omega)); have hb7:=(uh HG6).size))
   have hm5':m5 = (uv pv.length++pv).length:=by rw [← hm5]
   subst hm5'
   refine ⟨⟨i + 1,cur4++(uv pv.length++pv),ao6,cap6,by omega,by go_num,by simp only [List.length_append],hide (by rw [uh HSN,← uh HQ4,uh HCUR]; simp only [List.append_assoc]),hide (by have h5:=uh HO6; rw [← List.length_append] at h5; exact h5),hide (by intro z hz; rcases List.mem_append.1 hz with h | h; exact uh HC4 z h; exact (uh HR5).byte z h),HK6,Nat.le_trans hb6 hb7⟩,?_⟩
   simp [intOf]; omega
  ·have hlt':¬ (i:Int) < ps.length:=by omega
   have hie:i = ps.length:=by omega
   subst hie
   rw [List.take_length] at HCUR
   go_wp2_with fail
   go_ret
   refine ⟨_,rfl,?_,uh HK⟩
   have h5:=xa4d (uh HO) (uh HCB) (by have:=uh HUV; rw [uh HCUR]; simp only [List.length_append,List.length_cons]; omega)
   rw [show buckB ps = cur from by rw [uh HCUR]; rfl]
   exact h5
end

section
open Go.RowKit Go.BigFrame
set_option maxHeartbeats 1000000 in
theorem xb6j (z:Int) (v:Value) (p:List Nat) (w:World) (hz:-9223372036854775808≤z∧z≤9223372036854775807) (h:Rd w v p) (hl:p.length≤140737488351232) (hT:Tabs w) :
  Calls Tryz.prog 38 #[.int .i64 z,v] w fun e w'=>e = .returned (.tuple #[.agg (brow (sumD z (2 :: p))),.int .i64 (sumE z)])∧Kept [] w w':=by
 have H:=hide h
 have HT:=hide hT
 clear h hT
 have hcl:=xa0e z (2 :: p)
 obtain ⟨B,hB⟩:∃ B,2 :: p = B:=⟨_,rfl⟩
 have HB:=hide hB
 rw [hB] at hcl ⊢
 clear hB
 obtain ⟨D,hD⟩:∃ D,sumD z B = D:=⟨_,rfl⟩
 have HD:=hide hD
 rw [hD] at hcl ⊢
 clear hD
 obtain ⟨E,hE⟩:∃ E,sumE z = E:=⟨_,rfl⟩
 have HE:=hide hE
 rw [hE]
 clear hE
 go_enter Tryz.func38,Tryz.ntmps38
 go_wp2_with fail
 rw [zb32]
 refine Calls.mono (xa8h _ p _ ((uh H).old ((Kept.refl [] w).alloc _) (by simp)) hl) ?_
 rintro e w1 ⟨v1,rfl,n1,k1⟩
 rw [uh HB] at n1
 have HR1:=hide n1.1
 obtain ⟨a1,m1,c1,hu1,hm1,_⟩:=id n1.1
 subst hu1
 have HZ1:=hide (k1.heap (heap_alloc_new w (.cells (zb 32) 50)) (by simp))
 have HK1:=hide (((Kept.refl [] w).alloc (.cells (zb 32) 50)).trans k1 (by simp))
 clear n1 k1
 go_wp2_with fail
 refine Calls.mono (xa8q z _ [B] _ hz (RdL.one (heap_alloc_new _ _) ((uh HR1).old ((Kept.refl [] w1).alloc _) (by simp))) (by have h9:=(uh HR1).len; simpa using h9) ((uh HT).k ((uh HK1).alloc _))) ?_
 rintro e w2 ⟨rfl,k2⟩
 rw [show ([B]:List (List Nat)).flatten = B by simp,uh HD,uh HE]
 have HZ2:=hide (k2.heap ((Kept.refl [] w1).alloc (.cells #[.slice a1 m1 c1] 30) |>.heap (uh HZ1) (by simp)) (by simp))
 have HK2:=hide (((uh HK1).alloc _).trans k2 (by simp))
 clear k2
 go_wp2_with (refine wpList_store_row rfl 50 _ _ rfl w.heap.size (brow D) rfl rfl _ (zb 32) (uh HZ2) (by rw [xa0a,hcl]; exact Tryz.size_dig) (by rw [xa0l,xa0a,hcl]) (xa0f _) ?_)
 refine bodyPost_ret (v:=.tuple #[.agg (brow D),.int .i64 E]) ?_ rfl ⟨rfl,(uh HK2).setRow (by simp) _⟩
 exact xa0g rfl _ _ w.heap.size _ (brow D) (0,0) _ rfl (setRow_heap _ _ _ _ _ _ (uh HZ2)) Tryz.underlying50 rfl (by rw [xa0a,hcl]; exact Tryz.size_dig) _ rfl
set_option maxHeartbeats 1000000 in
theorem xb1t (z:Int) (v:Value) (ps:List (List Nat × List Nat)) (w:World) (hz:-9223372036854775808≤z∧z≤9223372036854775807) (h:RdK w v ps) (hl:(pairB ps).length≤1000000000000) (hT:Tabs w) :
  Calls Tryz.prog 104 #[.int .i64 z,v] w fun e w'=>e = .returned (.tuple #[.agg (brow (sumD z (buckB ps))),.int .i64 (sumE z)])∧Kept [] w w':=by
 have H:=hide h
 have HT:=hide hT
 clear h hT
 have hcl:=xa0e z (buckB ps)
 obtain ⟨B,hB⟩:∃ B,buckB ps = B:=⟨_,rfl⟩
 have HB:=hide hB
 rw [hB] at hcl ⊢
 clear hB
 obtain ⟨D,hD⟩:∃ D,sumD z B = D:=⟨_,rfl⟩
 have HD:=hide hD
 rw [hD] at hcl ⊢
 clear hD
 obtain ⟨E,hE⟩:∃ E,sumE z = E:=⟨_,rfl⟩
 have HE:=hide hE
 rw [hE]
 clear hE
 go_enter Tryz.func104,Tryz.ntmps104
 go_wp2_with fail
 rw [zb32]
 refine Calls.mono (xa4u _ ps _ ((uh H).old ((Kept.refl [] w).alloc _)) hl) ?_
 rintro e w1 ⟨v1,rfl,n1,k1⟩
 rw [uh HB] at n1
 have HR1:=hide n1.1
 obtain ⟨a1,m1,c1,hu1,hm1,_⟩:=id n1.1
 subst hu1
 have HZ1:=hide (k1.heap (heap_alloc_new w (.cells (zb 32) 50)) (by simp))
 have HK1:=hide (((Kept.refl [] w).alloc (.cells (zb 32) 50)).trans k1 (by simp))
 clear n1 k1
 go_wp2_with fail
 refine Calls.mono (xa8q z _ [B] _ hz (RdL.one (heap_alloc_new _ _) ((uh HR1).old ((Kept.refl [] w1).alloc _) (by simp))) (by have h9:=(uh HR1).len; simpa using h9) ((uh HT).k ((uh HK1).alloc _))) ?_
 rintro e w2 ⟨rfl,k2⟩
 rw [show ([B]:List (List Nat)).flatten = B by simp,uh HD,uh HE]
 have HZ2:=hide (k2.heap ((Kept.refl [] w1).alloc (.cells #[.slice a1 m1 c1] 30) |>.heap (uh HZ1) (by simp)) (by simp))
 have HK2:=hide (((uh HK1).alloc _).trans k2 (by simp))
 clear k2
 go_wp2_with (refine wpList_store_row rfl 50 _ _ rfl w.heap.size (brow D) rfl rfl _ (zb 32) (uh HZ2) (by rw [xa0a,hcl]; exact Tryz.size_dig) (by rw [xa0l,xa0a,hcl]) (xa0f _) ?_)
 refine bodyPost_ret (v:=.tuple #[.agg (brow D),.int .i64 E]) ?_ rfl ⟨rfl,(uh HK2).setRow (by simp) _⟩
 exact xa0g rfl _ _ w.heap.size _ (brow D) (0,0) _ rfl (setRow_heap _ _ _ _ _ _ (uh HZ2)) Tryz.underlying50 rfl (by rw [xa0a,hcl]; exact Tryz.size_dig) _ rfl
def sunD (e:Nat) (z:Int) (p:List Nat):List Nat:=if e = 0 then sumD z p else List.replicate 32 0
def sunE (e:Nat) (z:Int):Nat:=if e = 0 then sumE z else e
theorem xb2a (e:Nat) (z:Int) (p:List Nat):(sunD e z p).length = 32:=by
 unfold sunD; split
 ·exact xa0e _ _
 ·simp
set_option maxHeartbeats 1000000 in
theorem xa6u (f:Nat) (z:Int) (v:Value) (p:List Nat) (w:World) (hz:-9223372036854775808≤z∧z≤9223372036854775807) (h:Rd w v p) (hT:Tabs w) :
  Calls Tryz.prog 107 #[.int .i64 f,.int .i64 z,v] w fun e w'=>e = .returned (.tuple #[.agg (brow (sunD f z p)),.int .i64 (sunE f z)])∧Kept [] w w':=by
 have H:=hide h
 obtain ⟨a0,m0,c0,hu0,hm0,_⟩:=id h
 subst hu0
 subst hm0
 have HT:=hide hT
 clear h hT
 have hcl:=xb2a f z p
 obtain ⟨D,hD⟩:∃ D,sunD f z p = D:=⟨_,rfl⟩
 have HD:=hide hD
 rw [hD] at hcl ⊢
 clear hD
 obtain ⟨E,hE⟩:∃ E,sunE f z = E:=⟨_,rfl⟩
 have HE:=hide hE
 rw [hE]
 clear hE
 have HL:=hide (uh H).len
 go_enter Tryz.func107,Tryz.ntmps107
 by_cases hf:f = 0
 ·have hb:((f:Int) != 0) = false:=by rw [hf]; rfl
  have HD2:=hide (by rw [← uh HD]; unfold sunD; rw [if_pos hf]:D = sumD z p)
  have HE2:=hide (by rw [← uh HE]; unfold sunE; rw [if_pos hf]:E = sumE z)
  have HF:=hide hf
  clear hf
  go_wp2_with fail
  rw [zb32]
  refine Calls.mono (xa8q z _ [p] _ hz (RdL.one (xa2z _ _ _) ((uh H).old (((Kept.refl [] w).alloc _).alloc _) (by simp))) (by have h9:=uh HL; simpa using h9) ((uh HT).k (((Kept.refl [] w).alloc _).alloc _))) ?_
  rintro e w2 ⟨rfl,k2⟩
  rw [show ([p]:List (List Nat)).flatten = p by simp,← uh HD2,← uh HE2]
  have HZ2:=hide (k2.heap (((Kept.refl [] (w.alloc (.cells (zb 32) 50))).alloc (.cells #[.slice a0 p.length c0] 30)).heap (heap_alloc_new w (.cells (zb 32) 50)) (by simp)) (by simp))
  have HK2:=hide ((((Kept.refl [] w).alloc _).alloc _).trans k2 (by simp))
  clear k2
  go_wp2_with (refine wpList_store_row rfl 50 _ _ rfl w.heap.size (brow D) rfl rfl _ (zb 32) (uh HZ2) (by rw [xa0a,hcl]; exact Tryz.size_dig) (by rw [xa0l,xa0a,hcl]) (xa0f _) ?_)
  refine bodyPost_ret (v:=.tuple #[.agg (brow D),.int .i64 E]) ?_ rfl ⟨rfl,(uh HK2).setRow (by simp) _⟩
  exact xa0g rfl _ _ w.heap.size _ (brow D) (0,0) _ rfl (setRow_heap _ _ _ _ _ _ (uh HZ2)) Tryz.underlying50 rfl (by rw [xa0a,hcl]; exact Tryz.size_dig) _ rfl
 ·have hb:((f:Int) != 0) = true:=by rw [bne_iff_ne]; omega
  have HD2:=hide (by rw [← uh HD]; unfold sunD; rw [if_neg hf]:D = List.replicate 32 0)
  have HE2:=hide (by rw [← uh HE]; unfold sunE; rw [if_neg hf]:E = f)
  have HF:=hide hf
  clear hf
  go_wp2_with (rw [zb32]; refine wpList_store_row rfl 50 _ _ rfl w.heap.size (zb 32) rfl rfl _ (zb 32) (heap_alloc_new _ _) (by rw [xa0l]; exact Tryz.size_dig) rfl (xa0f _) ?_)
  rw [uh HD2,uh HE2]
  refine bodyPost_ret (v:=.tuple #[.agg (zb 32),.int .i64 f]) ?_ rfl ⟨rfl,((Kept.refl [] w).alloc _).setRow (by simp) _⟩
  exact xa0g rfl _ _ w.heap.size _ (zb 32) (0,0) _ rfl (setRow_heap _ _ _ _ _ _ (heap_alloc_new _ _)) Tryz.underlying50 rfl (by rw [xa0l]; exact Tryz.size_dig) _ rfl
set_option maxHeartbeats 1000000 in
theorem xb2y (z:Int) (x:Nat) (v:Value) (ds:List (List Nat)) (w:World) (hz:-9223372036854775808≤z∧z≤9223372036854775807) (hx:x < 65536) (h:RdD w v ds) (hT:Tabs w) :
  Calls Tryz.prog 79 #[.int .i64 z,.int .u16 x,v] w fun e w'=>e = .returned (.tuple #[.agg (brow (sunD (branchE z x ds) z (branchB z x ds))),.int .i64 (sunE (branchE z x ds) z)])∧Kept [] w w':=by
 have HT:=hide hT
 clear hT
 have hcl:=xb2a (branchE z x ds) z (branchB z x ds)
 have HX:=hide (by unfold sunD; by_cases h9:branchE z x ds = 0; rw [if_pos h9,if_pos h9,if_pos h9]; rw [if_neg h9,if_neg h9]:sunD (branchE z x ds) z (if branchE z x ds = 0 then branchB z x ds else []) = sunD (branchE z x ds) z (branchB z x ds))
 obtain ⟨f,hf⟩:∃ f,branchE z x ds = f:=⟨_,rfl⟩
 have HF:=hide hf
 rw [hf] at hcl HX ⊢
 clear hf
 obtain ⟨D,hD⟩:∃ D,sunD f z (branchB z x ds) = D:=⟨_,rfl⟩
 have HD:=hide hD
 rw [hD] at hcl HX ⊢
 clear hD
 obtain ⟨E,hE⟩:∃ E,sunE f z = E:=⟨_,rfl⟩
 have HE:=hide hE
 rw [hE]
 clear hE
 go_enter Tryz.func79,Tryz.ntmps79
 go_wp2_with fail
 rw [zb32]
 refine Calls.mono (xa4v z x _ ds _ hz hx (h.old ((Kept.refl [] w).alloc _))) ?_
 rintro e w1 ⟨v1,rfl,n1,k1⟩
 rw [uh HF] at n1 ⊢
 have HR1:=hide n1.1
 obtain ⟨a1,m1,c1,hu1,hm1,_⟩:=id n1.1
 subst hu1
 have HZ1:=hide (k1.heap (heap_alloc_new w (.cells (zb 32) 50)) (by simp))
 have HK1:=hide (((Kept.refl [] w).alloc (.cells (zb 32) 50)).trans k1 (by simp))
 clear n1 k1 hm1
 go_wp2_with fail
 refine Calls.mono (xa6u f z _ _ w1 hz (uh HR1) ((uh HT).k (uh HK1))) ?_
 rintro e w2 ⟨rfl,k2⟩
 rw [uh HX,uh HE]
 have HZ2:=hide (k2.heap (uh HZ1) (by simp))
 have HK2:=hide ((uh HK1).trans k2 (by simp))
 clear k2
 go_wp2_with (refine wpList_store_row rfl 50 _ _ rfl w.heap.size (brow D) rfl rfl _ (zb 32) (uh HZ2) (by rw [xa0a,hcl]; exact Tryz.size_dig) (by rw [xa0l,xa0a,hcl]) (xa0f _) ?_)
 refine bodyPost_ret (v:=.tuple #[.agg (brow D),.int .i64 E]) ?_ rfl ⟨rfl,(uh HK2).setRow (by simp) _⟩
 exact xa0g rfl _ _ w.heap.size _ (brow D) (0,0) _ rfl (setRow_heap _ _ _ _ _ _ (uh HZ2)) Tryz.underlying50 rfl (by rw [xa0a,hcl]; exact Tryz.size_dig) _ rfl
end
def al (i:Int):Nat:=if 0≤i∧i≤15 then 2 ^ i.toNat else 0
def hasB (b:Nat) (i:Int):Bool:=decide (0≤i) && (decide (i≤15) && b.testBit i.toNat)
def setB (b:Nat):Nat→List Nat
 | 0=>[]
 | k + 1=>if b.testBit k then setB b k++[k] else setB b k
def cnt (b:Nat) (k:Nat):Nat:=(setB b k).length
def rankB (b:Nat) (i:Int):Nat:=if i < 0 then 0 else cnt b (if i≤15 then i.toNat else 16)
def withB (b:Nat) (i:Int):Nat:=if 0≤i∧i≤15∧b.testBit i.toNat = false then b + 2 ^ i.toNat else b
def outB (b:Nat) (i:Int):Nat:=if 0≤i∧i≤15∧b.testBit i.toNat = true then b - 2 ^ i.toNat else b
theorem al_in {i:Nat} (h:i≤15):al (i:Int) = 2 ^ i:=by unfold al; rw [if_pos (by omega),Int.toNat_natCast]
theorem al_out {i:Int} (h:¬ (0≤i∧i≤15)):al i = 0:=by unfold al; rw [if_neg h]
theorem al_lt (i:Int):al i < 65536:=by
 unfold al
 split
 ·have:2 ^ i.toNat≤2 ^ 15:=Nat.pow_le_pow_right (by decide) (by omega)
  omega
 ·decide
theorem xa2w (b k:Nat):cnt b (k + 1) = cnt b k + if b.testBit k then 1 else 0:=by
 unfold cnt; simp only [setB]; split <;> simp
theorem cnt_le (b:Nat):∀ k,cnt b k≤k
 | 0=>Nat.le_refl _
 | k + 1=>by rw [xa2w]; have:=cnt_le b k; split <;> omega
theorem xa5q (b:Nat):∀ (k j:Nat),j∈setB b k↔j < k∧b.testBit j = true
 | 0,j=>by simp [setB]
 | k + 1,j=>by
  unfold setB
  split
  ·rename_i h
   rw [List.mem_append,xa5q b k j]
   simp only [List.mem_singleton]
   constructor
   ·rintro (⟨h1,h2⟩ | rfl)
    ·exact ⟨by omega,h2⟩
    ·exact ⟨by omega,h⟩
   ·rintro ⟨h1,h2⟩
    rcases Nat.lt_or_ge j k with g | g
    ·exact Or.inl ⟨g,h2⟩
    ·exact Or.inr (by omega)
  ·rename_i h
   rw [xa5q b k j]
   constructor
   ·rintro ⟨h1,h2⟩; exact ⟨by omega,h2⟩
   ·rintro ⟨h1,h2⟩
    rcases Nat.lt_or_ge j k with g | g
    ·exact ⟨g,h2⟩
    ·rw [show j = k by omega] at h2; exact absurd h2 h
theorem xa5w {b c:Nat}:∀ k,(∀ j,j < k→b.testBit j = c.testBit j)→cnt b k = cnt c k
 | 0,_=>rfl
 | k + 1,h=>by rw [xa2w,xa2w,xa5w k (fun j hj=>h j (by omega)),h k (by omega)]
theorem xa7h {b:Nat} (k:Nat) (h:∀ j,k≤j→b.testBit j = false):∀ d,cnt b (k + d) = cnt b k
 | 0=>rfl
 | d + 1=>by rw [← Nat.add_assoc,xa2w,xa7h k h d,h (k + d) (by omega)]; simp
theorem xc2o {b k:Nat} (hk:k≤16):cnt (b % 2 ^ k) 16 = cnt b k:=by
 have h1:cnt (b % 2 ^ k) (k + (16 - k)) = cnt (b % 2 ^ k) k:=xa7h k (fun j hj=>by rw [Nat.testBit_mod_two_pow]; simp; omega) _
 rw [show k + (16 - k) = 16 by omega] at h1
 rw [h1]
 exact xa5w k (fun j hj=>by rw [Nat.testBit_mod_two_pow]; simp [hj])
theorem xa9g (b:Nat):cnt b 16 = cnt (b / 256) 8 + cnt (b % 256) 8:=by
 have h1:∀ k,k≤8→cnt b (8 + k) = cnt b 8 + cnt (b / 256) k:=by
  intro k hk
  induction k with
  | zero=>rfl
  | succ k ih =>
   have e:(b / 256).testBit k = b.testBit (8 + k):=by rw [show (256:Nat) = 2 ^ 8 by rfl,Nat.testBit_div_two_pow,Nat.add_comm k 8]
   rw [← Nat.add_assoc,xa2w,ih (by omega),xa2w (b / 256) k,e,Nat.add_assoc]
 rw [h1 8 (by omega),Nat.add_comm]
 congr 1
 exact xa5w 8 (fun j hj=>by rw [show (256:Nat) = 2 ^ 8 by rfl,Nat.testBit_mod_two_pow]; simp [hj])
theorem and_al (b:Nat) (i:Nat):b &&& 2 ^ i = if b.testBit i then 2 ^ i else 0:=by
 apply Nat.eq_of_testBit_eq
 intro j
 rw [Nat.testBit_and,Nat.testBit_two_pow]
 by_cases h:i = j
 ·subst h; cases hb:b.testBit i <;> simp
 ·cases hb:b.testBit i <;> simp [h]
theorem xb3f {b i:Nat} (hb:b.testBit i = false) (j:Nat):(b + 2 ^ i).testBit j = (b.testBit j || decide (i = j)):=by
 have hp:=Nat.two_pow_pos i
 obtain ⟨c,r,hr,rfl⟩:∃ c r,r < 2 ^ i∧b = 2 ^ i * c + r:=⟨b / 2 ^ i,b % 2 ^ i,Nat.mod_lt _ hp,(Nat.div_add_mod _ _).symm⟩
 rw [Nat.testBit_two_pow_mul_add c hr,if_neg (by omega),Nat.sub_self,Nat.testBit_zero] at hb
 have hc:c % 2 = 0:=by simpa using hb
 have e:2 ^ i * c + r + 2 ^ i = 2 ^ i * (c + 1) + r:=by rw [Nat.mul_add]; omega
 rw [e,Nat.testBit_two_pow_mul_add _ hr,Nat.testBit_two_pow_mul_add _ hr]
 by_cases h:j < i
 ·rw [if_pos h,if_pos h]; simp; omega
 ·rw [if_neg h,if_neg h]
  by_cases g:i = j
  ·subst g; rw [Nat.sub_self,Nat.testBit_zero,Nat.testBit_zero]; simp; omega
  ·obtain ⟨k,hk⟩:∃ k,j - i = k + 1:=⟨j - i - 1,by omega⟩
   rw [hk,Nat.testBit_succ,Nat.testBit_succ,show (c + 1) / 2 = c / 2 by omega]; simp [g]
theorem bit_ge {b i:Nat} (h:b.testBit i = true):2 ^ i≤b:=Nat.ge_two_pow_of_testBit h
theorem xb1y {b i:Nat} (hb:b.testBit i = true) (j:Nat):(b - 2 ^ i).testBit j = (b.testBit j && !decide (i = j)):=by
 have h0:=bit_ge hb
 have hp:=Nat.two_pow_pos i
 obtain ⟨c,r,hr,rfl⟩:∃ c r,r < 2 ^ i∧b = 2 ^ i * c + r:=⟨b / 2 ^ i,b % 2 ^ i,Nat.mod_lt _ hp,(Nat.div_add_mod _ _).symm⟩
 rw [Nat.testBit_two_pow_mul_add c hr,if_neg (by omega),Nat.sub_self,Nat.testBit_zero] at hb
 have hc:c % 2 = 1:=by simpa using hb
 obtain ⟨e,rfl⟩:∃ e,c = e + 1:=⟨c - 1,by omega⟩
 have e':2 ^ i * (e + 1) + r - 2 ^ i = 2 ^ i * e + r:=by rw [Nat.mul_add]; omega
 rw [e',Nat.testBit_two_pow_mul_add _ hr,Nat.testBit_two_pow_mul_add _ hr]
 by_cases h:j < i
 ·rw [if_pos h,if_pos h]; simp; omega
 ·rw [if_neg h,if_neg h]
  by_cases g:i = j
  ·subst g; rw [Nat.sub_self,Nat.testBit_zero,Nat.testBit_zero]; simp; omega
  ·obtain ⟨k,hk⟩:∃ k,j - i = k + 1:=⟨j - i - 1,by omega⟩
   rw [hk,Nat.testBit_succ,Nat.testBit_succ,show (e + 1) / 2 = e / 2 by omega]; simp [g]
theorem or_al (b:Nat) (i:Nat):b ||| 2 ^ i = if b.testBit i then b else b + 2 ^ i:=by
 cases hb:b.testBit i with
 | true =>
  rw [if_pos rfl]
  apply Nat.eq_of_testBit_eq
  intro j
  rw [Nat.testBit_or,Nat.testBit_two_pow]
  by_cases h:i = j
  ·subst h; simp [hb]
  ·simp [h]
 | false =>
  rw [if_neg (by simp)]
  apply Nat.eq_of_testBit_eq
  intro j
  rw [Nat.testBit_or,Nat.testBit_two_pow,xb3f hb]
theorem xb3e (b:Nat) (i:Int):(b &&& al i != 0) = hasB b i:=by
 unfold hasB
 by_cases h:0≤i∧i≤15
 ·obtain ⟨k,rfl⟩:∃ k:Nat,i = k:=⟨i.toNat,by omega⟩
  rw [al_in (by omega),and_al,Int.toNat_natCast]
  have hp:=Nat.two_pow_pos k
  have h1:decide ((0:Int)≤k) = true:=by simp
  have h2:decide ((k:Int)≤15) = true:=by simp; omega
  rw [h1,h2]
  cases hb:b.testBit k <;> simp
 ·rw [al_out h,Nat.and_zero]
  by_cases h0:0≤i
  ·have:¬ i≤15:=by omega
   simp [this]
  ·simp [h0]
theorem xa9h (b:Nat) (i:Int):b ||| al i = withB b i:=by
 unfold withB
 by_cases h:0≤i∧i≤15
 ·obtain ⟨k,rfl⟩:∃ k:Nat,i = k:=⟨i.toNat,by omega⟩
  rw [al_in (by omega),or_al,Int.toNat_natCast]
  cases hb:b.testBit k <;> simp <;> omega
 ·rw [al_out h,Nat.or_zero,if_neg (by omega)]
theorem xa9y {b j:Nat} (hb:b < 65536) (hj:16≤j):b.testBit j = false:=Nat.testBit_lt_two_pow (Nat.lt_of_lt_of_le hb (Nat.pow_le_pow_right (by decide) hj:2 ^ 16≤2 ^ j))
theorem xa8d {j:Nat} (hj:j < 16):(65535:Nat).testBit j = true:=by
 rw [show (65535:Nat) = 2 ^ 16 - 1 by rfl,Nat.testBit_two_pow_sub_one]; simp [hj]
theorem xb6c (b:Nat) (i:Nat) (hb:b < 65536) (hi:i≤15):b &&& (65535 - 2 ^ i) = if b.testBit i then b - 2 ^ i else b:=by
 apply Nat.eq_of_testBit_eq
 intro j
 rw [Nat.testBit_and,xb1y (xa8d (by omega))]
 cases hx:b.testBit i with
 | true =>
  rw [if_pos rfl,xb1y hx]
  rcases Nat.lt_or_ge j 16 with g | g
  ·rw [xa8d g,Bool.true_and]
  ·rw [xa9y hb g]; simp
 | false =>
  rw [if_neg (by simp)]
  rcases Nat.lt_or_ge j 16 with g | g
  ·rw [xa8d g,Bool.true_and]
   by_cases h:i = j
   ·subst h; rw [hx]; simp
   ·simp [h]
  ·rw [xa9y hb g]; simp
theorem xa7f (b:Nat) (i:Int) (hb:b < 65536):b &&& (65535 - al i) = outB b i:=by
 unfold outB
 by_cases h:0≤i∧i≤15
 ·obtain ⟨k,rfl⟩:∃ k:Nat,i = k:=⟨i.toNat,by omega⟩
  rw [al_in (by omega),xb6c b k hb (by omega),Int.toNat_natCast]
  cases hb:b.testBit k <;> simp <;> omega
 ·rw [al_out h,Nat.sub_zero,show (65535:Nat) = 2 ^ 16 - 1 by rfl,Nat.and_two_pow_sub_one_eq_mod,Nat.mod_eq_of_lt (by omega),if_neg (by omega)]
theorem xc0y (b:Nat) (i:Int) (hb:b < 65536) (hi:0≤i):cnt (b &&& ((al i + 65535) % 65536)) 16 = rankB b i:=by
 unfold rankB
 rw [if_neg (by omega)]
 by_cases h:i≤15
 ·obtain ⟨k,rfl⟩:∃ k:Nat,i = k:=⟨i.toNat,by omega⟩
  have hp:=Nat.two_pow_pos k
  have hq:2 ^ k≤2 ^ 15:=Nat.pow_le_pow_right (by decide) (by omega)
  rw [al_in (by omega),if_pos h,Int.toNat_natCast,show (2 ^ k + 65535) % 65536 = 2 ^ k - 1 by omega,Nat.and_two_pow_sub_one_eq_mod,xc2o (by omega)]
 ·rw [al_out (by omega),if_neg h,show (0 + 65535) % 65536 = 2 ^ 16 - 1 by rfl,Nat.and_two_pow_sub_one_eq_mod,Nat.mod_eq_of_lt (by omega)]
theorem xa3o (b:Nat) (i:Int) (hb:b < 65536):withB b i < 65536:=by
 rw [← xa9h]; exact Nat.or_lt_two_pow (n:=16) hb (al_lt i)
theorem xb7k (b:Nat) (i:Int) (hb:b < 65536):outB b i < 65536:=by
 unfold outB
 split
 ·exact Nat.lt_of_le_of_lt (Nat.sub_le _ _) hb
 ·exact hb
section
open Go.RowKit Go.BigFrame
theorem xc2l:∀ n:Fin 256,Lib.pop8 (n.val:Int) = (cnt n.val 8:Int):=by decide +kernel
theorem xb2k {b:Nat} (h:b < 256):Lib.pop8 (b:Int) = (cnt b 8:Int):=xc2l ⟨b,h⟩
set_option maxHeartbeats 1000000 in
theorem xa3y (i:Int) (w:World) (hi:-9223372036854775808≤i∧i≤9223372036854775807) :
  Calls Tryz.prog 55 #[.int .i64 i] w fun e w'=>e = .returned (.int .u16 (al i:Int))∧w' = w:=by
 by_cases h1:i < 0
 ·have e:=al_out (i:=i) (by omega)
  rw [e]
  clear e
  go_enter Tryz.func55,Tryz.ntmps55
  go_wp2
  go_ret
  exact ⟨rfl,rfl⟩
 ·by_cases h2:15 < i
  ·have e:=al_out (i:=i) (by omega)
   rw [e]
   clear e
   go_enter Tryz.func55,Tryz.ntmps55
   go_wp2
   go_ret
   exact ⟨rfl,rfl⟩
  ·obtain ⟨k,rfl⟩:∃ k:Nat,i = k:=⟨i.toNat,by omega⟩
   have hk:k≤15:=by omega
   rw [al_in hk]
   have hw:IntKind.u16.wrap (2 ^ k:Int) = ((2 ^ k:Nat):Int):=by
    have h9:2 ^ k≤2 ^ 15:=Nat.pow_le_pow_right (by decide) hk
    have h8:(2 ^ k:Int) = ((2 ^ k:Nat):Int):=by simp
    rw [h8]
    obtain ⟨y,hy⟩:∃ y,2 ^ k = y:=⟨_,rfl⟩
    rw [hy] at h9 ⊢
    simp [IntKind.wrap,IntKind.signed,IntKind.bits]
    omega
   go_enter Tryz.func55,Tryz.ntmps55
   go_wp2
   go_ret
   exact ⟨by simp,rfl⟩
theorem xb6l {P:Program} {o:Oper} {a:Act} (t:TypeId) (x y:Operand) (ho:o.op = .index t x y) (k:IntKind) (b:Nat) (hx:a.eval x = .string Lib.pop8tab) (hy:a.eval y = .int k b) (hu:P.underlying t = some .string) (hb:b < 256) (w:World) :
  (execOp a.eval o).run P w = .ok (.value (.int .u8 (cnt b 8:Int))) w:=by
 unfold execOp
 simp only [ho,hx,hy,Sem.run_bind,Sem.run_pure]
 rw [Lib.run_index_pop8tab w t k (b:Int) hu (by omega) (by omega),xb2k hb]
 rfl
theorem xb4e {P:Program} {o:Oper} {a:Act} (t t2:TypeId) (x y:Operand) (ho:o.op = .binOp .shr t x y t2) (k2:IntKind) (b m:Nat) (hm:m < 16) (hx:a.eval x = .int .u16 b) (hy:a.eval y = .int k2 m) (w:World) :
  (execOp a.eval o).run P w = .ok (.value (.int .u16 ((b / 2 ^ m:Nat):Int))) w:=by
 have e:(Op.shift .shr .u16 (b:Int) k2 (m:Int)).run P w = .ok (.int .u16 ((b / 2 ^ m:Nat):Int)) w:=by
  rw [shift_shr .u16 k2 (b:Int) (m:Int) (by omega) (by simp [IntKind.bits]; omega)]
  have e2:(b:Int) / 2 ^ (m:Int).toNat = ((b / 2 ^ m:Nat):Int):=by
   rw [Int.toNat_natCast,Int.natCast_ediv]; simp
  rw [e2]
  rfl
 unfold execOp
 simp only [ho,hx,hy,binOp,eqGuard,Sem.run_bind,Bool.not_false,if_true,Sem.run_pure,Result.andThen_ok,e]
theorem xb4r {P:Program} {o:Oper} {a:Act} (t t2:TypeId) (x y:Operand) (ho:o.op = .binOp .and t x y t2) (b m:Nat) (hb:b < 65536) (hm:m < 65536) (hx:a.eval x = .int .u16 b) (hy:a.eval y = .int .u16 m) (w:World) :
  (execOp a.eval o).run P w = .ok (.value (.int .u16 ((b &&& m:Nat):Int))) w:=by
 unfold execOp
 simp only [ho,hx,hy,binOp,eqGuard,intBits_and,u16_and_nat b m hb hm,Bool.not_false,if_true,ne_eq,not_true,if_false,Sem.run_bind,Sem.run_pure,Result.andThen_ok]
theorem xc0c {P:Program} {o:Oper} {a:Act} (t t2:TypeId) (x y:Operand) (ho:o.op = .binOp .and t x y t2) (b:Nat) (hb:b < 65536) (hx:a.eval x = .int .u16 b) (hy:a.eval y = .int .u16 255) (w:World) :
  (execOp a.eval o).run P w = .ok (.value (.int .u16 ((b % 256:Nat):Int))) w:=by
 have h:=xb4r t t2 x y ho b 255 hb (by decide) hx hy w (P:=P)
 rw [show (255:Nat) = 2 ^ 8 - 1 by rfl,Nat.and_two_pow_sub_one_eq_mod] at h
 exact h
set_option maxHeartbeats 1000000 in
theorem xb5p (b:Nat) (w:World) (hb:b < 65536) :
  Calls Tryz.prog 54 #[.int .u16 b] w fun e w'=>e = .returned (.int .i64 (cnt b 16:Int))∧Kept [] w w':=by
 have l1:=cnt_le (b / 256) 8
 have l2:=cnt_le (b % 256) 8
 rw [xa9g]
 go_enter Tryz.func54,Tryz.ntmps54
 go_wp2_with fail
 have hne:∀ p:Prop,(∀ w',Kept [] w w'→p) = p:=fun p=>propext ⟨fun h=>h w (Kept.refl [] w),fun h _ _=>h⟩
 refine xa1h (by kernel_rfl) (by kernel_rfl) ?_
 go_big_quiet_step (fail)
 refine xa1v rfl (.int .u16 ((b / 256:Nat):Int)) (fun w' _=>xb4e _ _ (.tmp 3) (.const (.int .u64 8)) rfl .u64 b 8 (by decide) rfl rfl w') ?_
 simp only [Act.put,List.setIfInBounds_toArray,List.set_cons_succ,List.set_cons_zero]
 refine xa1v rfl (.int .u8 (cnt (b / 256) 8:Int)) (fun w' _=>xb6l 9 _ _ rfl .u16 (b / 256) (by kernel_rfl) rfl Tryz.underlying9 (by omega) w') ?_
 simp only [Act.put,List.setIfInBounds_toArray,List.set_cons_succ,List.set_cons_zero]
 go_big_quiet_step (fail)
 refine xa1v rfl (.int .u16 ((b % 256:Nat):Int)) (fun w' _=>xc0c _ _ (.tmp 6) (.const (.int .u16 255)) rfl b hb rfl rfl w') ?_
 simp only [Act.put,List.setIfInBounds_toArray,List.set_cons_succ,List.set_cons_zero]
 refine xa1v rfl (.int .u8 (cnt (b % 256) 8:Int)) (fun w' _=>xb6l 9 _ _ rfl .u16 (b % 256) (by kernel_rfl) rfl Tryz.underlying9 (by omega) w') ?_
 simp only [Act.put,List.setIfInBounds_toArray,List.set_cons_succ,List.set_cons_zero]
 repeat (go_big_quiet_step (fail))
 refine wpQuiet_nil ?_
 intro w5 hw5
 clear hne
 go_wp2
 go_ret
 exact ⟨rfl,hw5⟩
set_option maxHeartbeats 1000000 in
theorem xb3y (b:Nat) (i:Int) (w:World) (hb:b < 65536) (hi:-9223372036854775808≤i∧i≤9223372036854775807) :
  Calls Tryz.prog 27 #[.int .u16 b,.int .i64 i] w fun e w'=>e = .returned (.bool (hasB b i))∧Kept [] w w':=by
 have hl:=al_lt i
 have HE:=hide (xb3e b i)
 have e1:=u16_and_nat b (al i) hb hl
 go_enter Tryz.func27,Tryz.ntmps27
 go_wp2_with fail
 refine Calls.mono (xa3y i _ hi) ?_
 rintro e w1 ⟨rfl,rfl⟩
 generalize al i = A at *
 go_wp2
 go_ret
 have e2:(((b &&& A:Nat):Int) != 0) = (b &&& A != 0):=by cases h:(b &&& A != 0) <;> simp at h ⊢ <;> omega
 exact ⟨by rw [← uh HE,← e2]; rfl,Kept.refl _ _⟩
set_option maxHeartbeats 1000000 in
theorem xa4a (b:Nat) (i:Int) (w:World) (hb:b < 65536) (hi:-9223372036854775808≤i∧i≤9223372036854775807) :
  Calls Tryz.prog 117 #[.int .u16 b,.int .i64 i] w fun e w'=>e = .returned (.int .u16 (withB b i:Int))∧Kept [] w w':=by
 have hl:=al_lt i
 have HE:=hide (xa9h b i)
 have e1:=u16_or_nat b (al i) hb hl
 go_enter Tryz.func117,Tryz.ntmps117
 go_wp2_with fail
 refine Calls.mono (xa3y i _ hi) ?_
 rintro e w1 ⟨rfl,rfl⟩
 generalize al i = A at *
 go_wp2
 go_ret
 exact ⟨by rw [← uh HE]; rfl,Kept.refl _ _⟩
set_option maxHeartbeats 1000000 in
theorem xb0x (b:Nat) (i:Int) (w:World) (hb:b < 65536) (hi:-9223372036854775808≤i∧i≤9223372036854775807) :
  Calls Tryz.prog 115 #[.int .u16 b,.int .i64 i] w fun e w'=>e = .returned (.int .u16 (outB b i:Int))∧Kept [] w w':=by
 have hl:=al_lt i
 have HE:=hide (xa7f b i hb)
 have e1:=u16_andNot_nat b (al i) hb hl
 go_enter Tryz.func115,Tryz.ntmps115
 go_wp2_with fail
 refine Calls.mono (xa3y i _ hi) ?_
 rintro e w1 ⟨rfl,rfl⟩
 generalize al i = A at *
 go_wp2
 go_ret
 exact ⟨by rw [← uh HE]; rfl,Kept.refl _ _⟩
set_option maxHeartbeats 1000000 in
theorem xa6k (b:Nat) (i:Int) (w:World) (hb:b < 65536) (hi:-9223372036854775808≤i∧i≤9223372036854775807) :
  Calls Tryz.prog 26 #[.int .u16 b,.int .i64 i] w fun e w'=>e = .returned (.int .i64 (rankB b i:Int))∧Kept [] w w':=by
 by_cases h0:i < 0
 ·have HE:=hide (by unfold rankB; rw [if_pos h0]:rankB b i = 0)
  go_enter Tryz.func26,Tryz.ntmps26
  go_wp2
  go_ret
  exact ⟨by rw [uh HE]; rfl,Kept.refl _ _⟩
 ·have hl:=al_lt i
  have HE:=hide (xc0y b i hb (by omega))
  have hm:(al i + 65535) % 65536 < 65536:=Nat.mod_lt _ (by decide)
  have e1:=u16_and_nat b ((al i + 65535) % 65536) hb hm
  have e2:IntKind.u16.wrap ((al i:Int) - 1) = (((al i + 65535) % 65536:Nat):Int):=by
   simp [IntKind.wrap,IntKind.signed,IntKind.bits]; omega
  have e3:(((al i:Int) - 1) % 65536) = (((al i + 65535) % 65536:Nat):Int):=by omega
  have hn:b &&& ((al i + 65535) % 65536) < 65536:=Nat.lt_of_le_of_lt Nat.and_le_left hb
  go_enter Tryz.func26,Tryz.ntmps26
  go_wp2_with fail
  refine Calls.mono (xa3y i _ hi) ?_
  rintro e w1 ⟨rfl,rfl⟩
  generalize (al i + 65535) % 65536 = C at *
  generalize al i = A at *
  go_wp2_with fail
  refine Calls.mono (xb5p (b &&& C) _ hn) ?_
  rintro e w2 ⟨rfl,k2⟩
  go_wp2
  go_ret
  exact ⟨by rw [← uh HE]; rfl,k2⟩
def dgt (d:List Nat) (i:Nat):Nat:=if i % 2 = 0 then d.getD (i / 2) 0 / 16 else d.getD (i / 2) 0 % 16
theorem dgt_lt {d:List Nat} (hb:∀ x∈d,x < 256) (i:Nat):dgt d i < 16:=by
 have h:d.getD (i / 2) 0 < 256:=by
  rw [List.getD_eq_getElem?_getD]
  rcases Nat.lt_or_ge (i / 2) d.length with hi | hi
  ·rw [List.getElem?_eq_getElem hi]; exact hb _ (List.getElem_mem hi)
  ·rw [List.getElem?_eq_none hi]; decide
 unfold dgt
 split <;> omega
theorem and15 {x:Nat} (hx:x < 256):bits .and .u8 (x:Int) 15 = ((x % 16:Nat):Int):=by
 have h:=u8_and_nat x 15 hx (by decide)
 rw [show ((15:Nat):Int) = 15 by rfl] at h
 rw [h,show (15:Nat) = 2 ^ 4 - 1 by rfl,Nat.and_two_pow_sub_one_eq_mod]
set_option maxHeartbeats 1000000 in
theorem xa6e (d:List Nat) (i:Nat) (w:World) (hd:d.length = 32) (hb:∀ x∈d,x < 256) (hi:i < 64) :
  Calls Tryz.prog 53 #[.agg (brow d),.int .i64 i] w fun e w'=>e = .returned (.int .i64 (dgt d i:Int))∧Kept [] w w':=by
 have hx:d.getD (i / 2) 0 < 256:=by rw [List.getD_eq_getElem?_getD,List.getElem?_eq_getElem (by omega)]; exact hb _ (List.getElem_mem _)
 have HA:=hide (heap_alloc_new w (.cells (brow d) 50))
 have ci:=xa0o (uh HA) (i / 2) (by omega)
 have HK:=hide ((Kept.refl [] w).alloc (.cells (brow d) 50))
 clear hb
 obtain ⟨x,he⟩:∃ x,d.getD (i / 2) 0 = x:=⟨_,rfl⟩
 obtain ⟨j,hj⟩:∃ j,i / 2 = j:=⟨_,rfl⟩
 rw [he] at hx ci
 have a1:=and15 hx
 have hj2:(i:Int).tdiv 2 = j:=by rw [Int.tdiv_eq_ediv_of_nonneg (by omega)]; omega
 have hj3:(i:Int) / 2 = j:=by omega
 have hj4:(j:Int) < 32:=by omega
 rw [hj] at ci
 by_cases hp:i % 2 = 0
 ·have hp2:(i:Int) % 2 = 0:=by omega
  have hp3:(i:Int).tmod 2 = 0:=by rw [Int.tmod_eq_emod_of_nonneg (by omega)]; omega
  have HR:=hide (by unfold dgt; rw [if_pos hp,he]:dgt d i = x / 16)
  go_enter Tryz.func53,Tryz.ntmps53
  go_wp2
  go_ret
  exact ⟨by rw [uh HR]; rfl,uh HK⟩
 ·have hp2:(i:Int) % 2 = 1:=by omega
  have hp3:(i:Int).tmod 2 = 1:=by rw [Int.tmod_eq_emod_of_nonneg (by omega)]; omega
  have HR:=hide (by unfold dgt; rw [if_neg hp,he]:dgt d i = x % 16)
  go_enter Tryz.func53,Tryz.ntmps53
  go_wp2
  go_ret
  exact ⟨by rw [uh HR]; rfl,uh HK⟩
theorem xb4z {k:Nat} {d:List Nat} (hd:d.length = 32) (h1:1≤k) (hk:k≤32):formB (k:Int) d = true↔∀ i,k≤i→i < 32→d.getD i 0 = 0:=by
 rw [← xb9b k d hd hk]
 unfold formB
 have hw:widthB (k:Int) = true:=by simp [widthB]; omega
 rw [hw,Int.toNat_natCast]
 simp
set_option maxHeartbeats 2000000 in
theorem xa3i (z:Int) (v:Value) (ds:List (List Nat)) (w:World) (hz:-9223372036854775808≤z∧z≤9223372036854775807) (hv:RdD w v ds) :
  Calls Tryz.prog 52 #[.int .i64 z,v] w fun e w'=>e = .returned (.int .i64 (formedE z ds))∧Kept [] w w':=by
 have HV:=hide hv
 obtain ⟨ao,len,cap,rfl,h1,h2,h3,h4,h5⟩:=hv
 have H4:=hide h4
 have H5:=hide h5
 clear h4 h5
 subst h1
 by_cases hw1:z < 1
 ·have HE1:=hide (by unfold formedE widthB; rw [if_pos (by simp; omega)]:formedE z ds = 1)
  go_enter Tryz.func52,Tryz.ntmps52
  go_wp2
  go_ret
  exact ⟨by rw [uh HE1]; rfl,Kept.refl _ _⟩
 ·by_cases hw2:32 < z
  ·have HE1:=hide (by unfold formedE widthB; rw [if_pos (by simp; omega)]:formedE z ds = 1)
   go_enter Tryz.func52,Tryz.ntmps52
   go_wp2
   go_ret
   exact ⟨by rw [uh HE1]; rfl,Kept.refl _ _⟩
  ·obtain ⟨k,rfl⟩:∃ k:Nat,z = k:=⟨z.toNat,by omega⟩
   have HW:=hide (by simp [widthB]; omega:widthB (k:Int) = true)
   go_enter Tryz.func52,Tryz.ntmps52
   go_wp2_with fail
   go_loopw [17] (fun t12 wr=>∃ (i:Nat),i≤ds.length∧t12 = .int .i64 i∧Hid ((ds.take i).all (formB (k:Int)) = true)∧Hid (Kept [] w wr)) (fun t _=>ds.length - (intOf t).toNat)
   case atStart=>exact ⟨0,Nat.zero_le _,rfl,hide (by simp),hide (Kept.refl _ _)⟩
   case round =>
    obtain ⟨i,hi,rfl,HA,HK⟩:=hrel
    by_cases hlt:i < ds.length
    ·have hlt':(i:Int) < ds.length:=by omega
     obtain ⟨b,o,rfl,hcell⟩:=uh H5 (by omega)
     have HD:=hide (uh H4 (ds.getD i []) (by rw [List.getD_eq_getElem?_getD,List.getElem?_eq_getElem hlt]; exact List.getElem_mem hlt))
     have HRG:=hide (fun j v hv=>(uh HK).cell (hcell i hlt j v hv) (by simp):wr.rangeAt b (o + i * 32) ((ds.getD i []).map Go.Proofs.YtiopaaeejppnnaaGreatDoor.u8))
     have HN:=hide (by rw [List.take_succ_eq_append_getElem hlt,List.all_append,uh HA,List.getD_eq_getElem?_getD,List.getElem?_eq_getElem hlt]; simp:(ds.take (i + 1)).all (formB (k:Int)) = formB (k:Int) (ds.getD i []))
     have HM:=hide (fun (h:formB (k:Int) (ds.getD i []) = false)=>by
      have:ds.all (formB (k:Int)) = false:=by
       rw [List.all_eq_false]
       exact ⟨ds.getD i [],by rw [List.getD_eq_getElem?_getD,List.getElem?_eq_getElem hlt]; exact List.getElem_mem hlt,by rw [h]; decide⟩
      simp [formedE,uh HW,this]:formB (k:Int) (ds.getD i []) = false→formedE (k:Int) ds = 3)
     clear hcell
     obtain ⟨d,hd⟩:∃ d,ds.getD i [] = d:=⟨_,rfl⟩
     rw [hd] at HD HRG HN HM
     clear hd
     have hdl:=(uh HD).1
     have HFI:=hide (xb4z (k:=k) hdl (by omega) (by omega))
     have HSZ:=hide (by rw [xa0a,hdl]; exact Tryz.size_dig:(Tryz.prog.info? 50).map (·.size) = some (brow d).size)
     have HNW:=hide (setRow_heap (wr.alloc (.cells (zb 32) 50)) wr.heap.size (zb 32) (brow d) 50 (0,0) (heap_alloc_new _ _))
     have HKN:=hide (((uh HK).alloc (.cells (zb 32) 50)).setRow (g:=wr.heap.size) (Or.inr (uh HK).size) (brow d))
     rcases Nat.lt_or_ge k 32 with hk32 | hk32
     ·have hk32':(k:Int) < 32:=by omega
      go_wp2_with (first
       | (refine wpList_load_mid rfl 50 (.tmp 19) rfl b (o + i * 32) rfl (d.map Go.Proofs.YtiopaaeejppnnaaGreatDoor.u8) _ (uh HRG) Tryz.underlying50 rfl (by rw [List.length_map,hdl]; exact Tryz.size_dig) ?_)
       | (rw [zb32]; refine wpList_store_row rfl 50 (.tmp 6) _ rfl wr.heap.size (brow d) rfl rfl _ (zb 32) (heap_alloc_new _ _) (uh HSZ) (by rw [xa0l,xa0a,hdl]) (xa0f _) ?_))
      generalize ((wr.alloc (Obj.cells (zb 32) 50)).setRow wr.heap.size (brow d)) = W2 at HNW HKN ⊢
      obtain ⟨gq,hgq⟩:∃ gq,wr.heap.size = gq:=⟨_,rfl⟩
      rw [hgq] at HNW ⊢
      clear hgq
      go_loopw [24] (fun t24 wq=>∃ (j:Nat),j≤32 - k∧t24 = .int .i64 j∧Hid (∀ m,k≤m→m < k + j→d.getD m 0 = 0)∧Hid (Kept [] W2 wq)) (fun t _=>32 - k - (intOf t).toNat)
      case atStart=>exact ⟨0,Nat.zero_le _,rfl,hide (fun m q1 q2=>by omega),hide (Kept.refl _ _)⟩
      case round =>
       obtain ⟨j,hj,rfl,HAJ,HKJ⟩:=hrel
       by_cases hjl:j < 32 - k
       ·have hjl':(j:Int) < (32 - k:Nat):=by omega
        have cj:=(uh HKJ).cell (xa0o (uh HNW) (k + j) (by omega)) (by simp)
        obtain ⟨x,hx⟩:∃ x,d.getD (k + j) 0 = x:=⟨_,rfl⟩
        rw [hx] at cj
        by_cases hx0:x = 0
        ·subst hx0
         have HNJ:=hide (fun m q1 q2=>by
          rcases Nat.lt_or_ge m (k + j) with g | g
          ·exact uh HAJ m q1 g
          ·rw [show m = k + j by omega]; exact hx:∀ m,k≤m→m < k + (j + 1)→d.getD m 0 = 0)
         clear hx
         go_wp2
         go_roundw
         case rel=>exact ⟨j + 1,by omega,by go_num,HNJ,HKJ⟩
         case measure=>simp [intOf]; omega
        ·have hx0':((x:Int) != 0) = true:=by rw [bne_iff_ne]; omega
         have HF:=hide (uh HM (by
          cases hq:formB (k:Int) d with
          | false=>rfl
          | true=>exact absurd (by rw [← hx]; exact (uh HFI).1 hq (k + j) (by omega) (by omega)) hx0))
         clear hx hx0
         go_wp2
         go_ret
         exact ⟨by rw [uh HF]; rfl,(uh HKN).trans (uh HKJ) (by simp)⟩
       ·have hjl':¬ (j:Int) < (32 - k:Nat):=by omega
        have HT:=hide ((uh HFI).2 (fun m q1 q2=>uh HAJ m q1 (by omega)))
        rw [uh HT] at HN
        go_wp2
        go_roundw
        case rel=>exact ⟨i + 1,by omega,by go_num,HN,hide ((uh HKN).trans (uh HKJ) (by simp))⟩
        case measure=>simp [intOf]; omega
     ·have hk32':¬ (k:Int) < 32:=by omega
      have hz0:¬ (0:Int) < ((32 - k:Nat):Int):=by omega
      go_wp2_with (first
       | (refine wpList_load_mid rfl 50 (.tmp 19) rfl b (o + i * 32) rfl (d.map Go.Proofs.YtiopaaeejppnnaaGreatDoor.u8) _ (uh HRG) Tryz.underlying50 rfl (by rw [List.length_map,hdl]; exact Tryz.size_dig) ?_)
       | (rw [zb32]; refine wpList_store_row rfl 50 (.tmp 6) _ rfl wr.heap.size (brow d) rfl rfl _ (zb 32) (heap_alloc_new _ _) (uh HSZ) (by rw [xa0l,xa0a,hdl]) (xa0f _) ?_))
      generalize ((wr.alloc (Obj.cells (zb 32) 50)).setRow wr.heap.size (brow d)) = W2 at HNW HKN ⊢
      obtain ⟨gq,hgq⟩:∃ gq,wr.heap.size = gq:=⟨_,rfl⟩
      rw [hgq] at HNW ⊢
      clear hgq
      go_loopw [24] (fun t24 wq=>t24 = .int .i64 0∧Hid (Kept [] W2 wq)) (fun t _=>0)
      case atStart=>exact ⟨rfl,hide (Kept.refl _ _)⟩
      case round =>
       obtain ⟨rfl,HKJ⟩:=hrel
       have HT:=hide ((uh HFI).2 (fun m q1 q2=>by omega))
       rw [uh HT] at HN
       go_wp2
       go_roundw
       case rel=>exact ⟨i + 1,by omega,by go_num,HN,hide ((uh HKN).trans (uh HKJ) (by simp))⟩
       case measure=>simp [intOf]; omega
    ·have hlt':¬ (i:Int) < ds.length:=by omega
     have hie:i = ds.length:=by omega
     subst hie
     rw [List.take_length] at HA
     have HF:=hide (by simp [formedE,uh HW,uh HA]:formedE (k:Int) ds = 0)
     go_wp2
     go_ret
     exact ⟨by rw [uh HF]; rfl,uh HK⟩
def Dg (l:List Nat):Prop:=l.length = 32∧∀ x∈l,x < 256
theorem RdD.one {w:World} {g:Nat} {l:List Nat} {t:TypeId} {fr:Nat × Nat} (h:w.heap[g]? = some (.cells (brow l) t fr)) (hl:Dg l):RdD w (.slice (some ⟨g,0,none⟩) 1 1) [l]:=by
 refine ⟨_,1,1,rfl,rfl,Nat.le_refl _,by omega,fun d hd=>by simp at hd; subst hd; exact hl,fun _=>⟨g,0,rfl,fun i hi=>?_⟩⟩
 obtain rfl:i = 0:=by omega
 exact xa1g h
theorem xc0v (l:List Nat) (hl:l.length = 32):List.foldl (fun cs x=>cs.setIfInBounds x.snd x.fst) (zb 32) (List.map u8 l).zipIdx = brow l:=by
 have h:=xa6f (l.map u8) (zb 32) 0 0 (by rw [xa0l]; simp [hl])
 simp only [Nat.zero_add] at h
 rw [h]
 unfold brow
 rw [List.take_zero,List.nil_append,List.drop_eq_nil_of_le (by rw [List.length_map,hl,Array.length_toList,xa0l]; exact Nat.le_refl _),List.append_nil]
def atE (z:Int) (d:List Nat) (i:Int):Nat:=if widthB z = false∨i < 0∨2 * z≤i then 1 else if formB z d then 0 else 3
def atC (z:Int) (d:List Nat) (i:Int):Nat:=if atE z d i = 0 then dgt d i.toNat else 0
theorem xb1f (z:Int) (d:List Nat):formedE z [d] = if widthB z = false then 1 else if formB z d then 0 else 3:=by simp [formedE]
set_option maxHeartbeats 1000000 in
theorem at_any (z:Int) (d:List Nat) (i:Int) (w:World) (hz:-9223372036854775808≤z∧z≤9223372036854775807) (hi:-9223372036854775808≤i∧i≤9223372036854775807) (hd:Dg d) :
  Calls Tryz.prog 25 #[.int .i64 z,.agg (brow d),.int .i64 i] w fun e w'=>e = .returned (.tuple #[.int .i64 (atC z d i:Int),.int .i64 (atE z d i:Int)])∧Kept [] w w':=by
 have HD:=hide hd
 have hdl:=hd.1
 have HGA:=hide (heap_alloc_new w (.cells (brow d) 50))
 have HK0:=hide ((Kept.refl [] w).alloc (.cells (brow d) 50))
 obtain ⟨Z,hZ⟩:∃ Z,IntKind.i64.wrap (2 * z) = Z:=⟨_,rfl⟩
 have hZ2:(2 * z + 9223372036854775808) % 18446744073709551616 - 9223372036854775808 = Z:=by
  rw [← hZ]; simp [IntKind.wrap,IntKind.signed,IntKind.bits]; omega
 by_cases h0:i < 0
 ·have e1:atE z d i = 1:=by unfold atE; rw [if_pos (by omega)]
  have e2:atC z d i = 0:=by unfold atC; rw [e1]; rfl
  rw [e1,e2]
  clear e1 e2
  go_enter Tryz.func25,Tryz.ntmps25
  go_wp2
  go_ret2
  exact ⟨rfl,uh HK0⟩
 ·by_cases h1:Z≤i
  ·have e1:atE z d i = 1:=by
    unfold atE
    by_cases hw:widthB z = true
    ·rw [if_pos]
     simp [widthB] at hw
     right; right; omega
    ·rw [if_pos (by simp at hw; simp [hw])]
   have e2:atC z d i = 0:=by unfold atC; rw [e1]; rfl
   rw [e1,e2]
   clear e1 e2
   go_enter Tryz.func25,Tryz.ntmps25
   go_wp2
   go_ret2
   exact ⟨rfl,uh HK0⟩
  ·have HF:=hide (xb1f z d)
   have HE:=hide (by
    unfold atE
    rw [uh HF]
    by_cases hw:widthB z = true
    ·have hw2:=hw
     simp [widthB] at hw2
     rw [if_neg (by rw [hw]; simp; omega),hw]; simp
    ·simp at hw; simp [hw]:atE z d i = formedE z [d])
   have HC:=hide (by unfold atC; rw [uh HE]:atC z d i = if formedE z [d] = 0 then dgt d i.toNat else 0)
   have HI:=hide (fun (h:formedE z [d] = 0)=>by
    have hw:widthB z = true:=by
     unfold formedE at h
     cases hw:widthB z with
     | false=>rw [hw] at h; simp at h
     | true=>rfl
    simp [widthB] at hw
    exact ⟨⟨i.toNat,by omega⟩,by omega⟩:formedE z [d] = 0→(∃ k:Nat,i = k)∧i < 64)
   rw [uh HE]
   obtain ⟨f,hf⟩:∃ f,formedE z [d] = f:=⟨_,rfl⟩
   obtain ⟨C,hC⟩:∃ C,atC z d i = C:=⟨_,rfl⟩
   have HFF:=hide hf
   rw [hf,hC] at HC
   rw [hf] at HI
   rw [hf,hC]
   clear hf hC HE HF
   go_enter Tryz.func25,Tryz.ntmps25
   go_wp2_with (refine wpList_load_mid rfl 50 _ rfl w.heap.size 0 rfl (d.map u8) _ (xa1g (uh HGA)) Tryz.underlying50 rfl (by rw [List.length_map,hdl]; exact Tryz.size_dig) ?_)
   rw [zb32,xc0v d hdl]
   refine Calls.mono (xa3i z _ [d] _ hz (RdD.one (xa2z _ _ _) hd)) ?_
   rintro e w1 ⟨rfl,k1⟩
   have k01:=((Kept.refl [] (w.alloc (.cells (brow d) 50))).alloc (.cells (brow d) 50)).trans k1 (by simp)
   have HK1:=hide ((uh HK0).trans k01 (by simp))
   have HG1:=hide (k01.heap (uh HGA) (by simp))
   clear k1 k01 HGA
   rw [uh HFF]
   by_cases hf0:f = 0
   ·subst hf0
    obtain ⟨⟨j,rfl⟩,hj⟩:=uh HI rfl
    rw [if_pos rfl,Int.toNat_natCast] at HC
    clear HI hZ hZ2 h1 h0 HFF
    go_wp2_with (refine wpList_load_row rfl 50 _ rfl w.heap.size rfl _ (brow d) (0,0) _ (uh HG1) Tryz.underlying50 rfl (by rw [xa0a,hdl]; exact Tryz.size_dig) ?_)
    refine Calls.mono (xa6e d j _ hdl hd.2 (by omega)) ?_
    rintro e w2 ⟨rfl,k2⟩
    go_wp2
    go_ret2
    exact ⟨by rw [uh HC]; rfl,(uh HK1).trans k2 (by simp)⟩
   ·have hf0':((f:Int) != 0) = true:=by rw [bne_iff_ne]; omega
    rw [if_neg hf0] at HC
    clear HI hZ hZ2 HFF
    go_wp2
    go_ret2
    exact ⟨by rw [uh HC]; rfl,uh HK1⟩
def comL (a b:List Nat):Nat→Nat→Nat
 | 0,i=>i
 | n + 1,i=>if dgt a i = dgt b i then comL a b n (i + 1) else i
def comC (z:Int) (a b:List Nat):Nat:=if formedE z [a,b] = 0 then comL a b (2 * z.toNat) 0 else 0
set_option maxHeartbeats 1000000 in
theorem xb3t (z:Int) (a b:List Nat) (w:World) (hz:-9223372036854775808≤z∧z≤9223372036854775807) (ha:Dg a) (hb:Dg b) :
  Calls Tryz.prog 103 #[.int .i64 z,.agg (brow a),.agg (brow b)] w fun e w'=>e = .returned (.tuple #[.int .i64 (comC z a b:Int),.int .i64 (formedE z [a,b]:Int)])∧Kept [] w w':=by
 have HA:=hide ha
 have HB:=hide hb
 have hal:=ha.1
 have hbl:=hb.1
 have HGA:=hide (((Kept.refl [] (w.alloc (.cells (brow a) 50))).alloc (.cells (brow b) 50)).heap (heap_alloc_new w (.cells (brow a) 50)) (by simp))
 have HGB:=hide (xa2z w (.cells (brow a) 50) (.cells (brow b) 50))
 have HK0:=hide (((Kept.refl [] w).alloc (.cells (brow a) 50)).alloc (.cells (brow b) 50))
 have HI:=hide (fun (h:formedE z [a,b] = 0)=>by
  have hw:widthB z = true:=by
   unfold formedE at h
   cases hw:widthB z with
   | false=>rw [hw] at h; simp at h
   | true=>rfl
  simp [widthB] at hw
  exact ⟨⟨z.toNat,by omega⟩,hw.2⟩:formedE z [a,b] = 0→(∃ k:Nat,z = k)∧z≤32)
 have HC:=hide (by unfold comC; rfl:comC z a b = if formedE z [a,b] = 0 then comL a b (2 * z.toNat) 0 else 0)
 obtain ⟨f,hf⟩:∃ f,formedE z [a,b] = f:=⟨_,rfl⟩
 obtain ⟨C,hC⟩:∃ C,comC z a b = C:=⟨_,rfl⟩
 have HFF:=hide hf
 rw [hf,hC] at HC
 rw [hf] at HI
 rw [hf,hC]
 clear hf hC
 have hfs:∀ A:Array Value,(List.foldl (fun cs x=>cs.setIfInBounds x.snd x.fst) A (List.map u8 a).zipIdx).size = A.size:=fun A=>xa9v _ A 0
 go_enter Tryz.func103,Tryz.ntmps103
 go_wp2_with (first
  | (refine wpList_load_mid rfl 50 _ rfl w.heap.size 0 rfl (a.map u8) _ (xa1g (uh HGA)) Tryz.underlying50 rfl (by rw [List.length_map,hal]; exact Tryz.size_dig) ?_)
  | (refine wpList_load_mid rfl 50 _ rfl (w.heap.size + 1) 0 rfl (b.map u8) _ (xa1g (uh HGB)) Tryz.underlying50 rfl (by rw [List.length_map,hbl]; exact Tryz.size_dig) ?_))
 rw [zb64,xb2l a b hal hbl]
 clear hfs
 refine Calls.mono (xa3i z _ [a,b] _ hz (RdD.two (xa9d _ _ _ _) hal hbl ha.2 hb.2)) ?_
 rintro e w1 ⟨rfl,k1⟩
 have k01:=((Kept.refl [] ((w.alloc (.cells (brow a) 50)).alloc (.cells (brow b) 50))).alloc (.cells (a.map u8++b.map u8).toArray 50)).trans k1 (by simp)
 have HK1:=hide ((uh HK0).trans k01 (by simp))
 have HG1:=hide (k01.heap (uh HGA) (by simp))
 have HG2:=hide (k01.heap (uh HGB) (by simp))
 clear k1 k01 HGA HGB
 rw [uh HFF]
 by_cases hf0:f = 0
 ·subst hf0
  obtain ⟨⟨k,rfl⟩,hk⟩:=uh HI rfl
  rw [if_pos rfl,Int.toNat_natCast] at HC
  clear HI HFF
  have hk2:IntKind.i64.wrap (2 * (k:Int)) = ((2 * k:Nat):Int):=by simp [IntKind.wrap,IntKind.signed,IntKind.bits]; omega
  go_wp2_with fail
  have HZA:=hide (by rw [xa0a,hal]; exact Tryz.size_dig:(Tryz.prog.info? 50).map (·.size) = some (brow a).size)
  have HZB:=hide (by rw [xa0a,hbl]; exact Tryz.size_dig:(Tryz.prog.info? 50).map (·.size) = some (brow b).size)
  go_loopw [20] (fun t20 wr=>∃ (i n:Nat),t20 = .int .i64 i∧i + n = 2 * k∧Hid (comL a b n i = C)∧Hid (Kept [] w1 wr)) (fun t _=>2 * k - (intOf t).toNat)
  case atStart=>exact ⟨0,2 * k,rfl,by omega,hide (uh HC).symm,hide (Kept.refl _ _)⟩
  case round =>
   obtain ⟨i,n,rfl,hin,HX,HKr⟩:=hrel
   cases n with
   | zero =>
    have hlt':¬ (i:Int) < (2 * k:Nat):=by omega
    have hlt2:¬ (i:Int) < 2 * k:=by omega
    have HX2:=hide (by rw [← uh HX]; unfold comL; omega:(C:Int) = ((2 * k:Nat):Int))
    go_wp2
    go_ret2
    exact ⟨by rw [uh HX2]; rfl,(uh HK1).trans (uh HKr) (by simp)⟩
   | succ n =>
    have hlt':(i:Int) < (2 * k:Nat):=by omega
    have hlt2:(i:Int) < 2 * k:=by omega
    have HGA:=hide ((uh HKr).heap (uh HG1) (by simp))
    have HGB:=hide ((uh HKr).heap (uh HG2) (by simp))
    have hne:∀ p:Prop,(∀ w',Kept [] wr w'→p) = p:=fun p=>propext ⟨fun h=>h wr (Kept.refl [] wr),fun h _ _=>h⟩
    have HC1:=hide (fun w' (hw':Kept [] wr w')=>(xa6e a i w' hal ha.2 (by omega)).mono (fun e w2 (h2:_∧_)=>(⟨h2.1,hw'.trans h2.2 (by simp)⟩:_∧Kept [] wr w2)))
    have HC2:=hide (fun w' (hw':Kept [] wr w')=>(xa6e b i w' hbl hb.2 (by omega)).mono (fun e w2 (h2:_∧_)=>(⟨h2.1,hw'.trans h2.2 (by simp)⟩:_∧Kept [] wr w2)))
    unfold comL at HX
    obtain ⟨x,hx⟩:∃ x,dgt a i = x:=⟨_,rfl⟩
    obtain ⟨y,hy⟩:∃ y,dgt b i = y:=⟨_,rfl⟩
    rw [hx,hy] at HX
    rw [hx] at HC1
    rw [hy] at HC2
    clear hx hy
    go_wp2_with fail
    refine xa1h (by kernel_rfl) (by kernel_rfl) ?_
    refine xa2s rfl 50 (.tmp 4) rfl w.heap.size rfl _ (brow a) (0,0) _ (fun w' hw'=>hw'.heap (uh HGA) (by simp)) Tryz.underlying50 rfl (uh HZA) ?_
    simp only [Act.put,List.setIfInBounds_toArray,List.set_cons_succ,List.set_cons_zero]
    go_big_quiet_step (fail)
    go_big_quiet_want
    go_big_quiet_op
    apply Exists.intro
    refine ⟨fun w' hw'=>?_,?_⟩
    ·exact uh HC1 w' hw'
    go_big_quiet_on
    refine xa2s rfl 50 (.tmp 5) rfl (w.heap.size + 1) rfl _ (brow b) (0,0) _ (fun w' hw'=>hw'.heap (uh HGB) (by simp)) Tryz.underlying50 rfl (uh HZB) ?_
    simp only [Act.put,List.setIfInBounds_toArray,List.set_cons_succ,List.set_cons_zero]
    go_big_quiet_step (fail)
    go_big_quiet_want
    go_big_quiet_op
    apply Exists.intro
    refine ⟨fun w' hw'=>?_,?_⟩
    ·exact uh HC2 w' hw'
    go_big_quiet_on
    repeat (go_big_quiet_step (fail))
    refine wpQuiet_nil ?_
    intro w5 hw5
    have HK5:=hide ((uh HKr).trans hw5 (by simp))
    clear hw5 hne HC1 HC2
    by_cases hxy:x = y
    ·subst hxy
     rw [if_pos rfl] at HX
     go_wp2
     go_roundw
     case rel=>exact ⟨i + 1,n,by go_num,by omega,HX,HK5⟩
     case measure=>simp [intOf]; omega
    ·rw [if_neg hxy] at HX
     have hxy':((x:Int) != y) = true:=by rw [bne_iff_ne]; omega
     go_wp2
     go_ret2
     exact ⟨by rw [← uh HX]; rfl,(uh HK1).trans (uh HK5) (by simp)⟩
 ·have hf0':((f:Int) != 0) = true:=by rw [bne_iff_ne]; omega
  rw [if_neg hf0] at HC
  clear HI HFF
  go_wp2
  go_ret2
  exact ⟨by rw [uh HC]; rfl,uh HK1⟩
def ordL:List Nat→List Nat→Int
 | [],[]=>0
 | [],_ :: _=>-1
 | _ :: _,[]=>1
 | x :: a,y :: b=>if x < y then -1 else if y < x then 1 else ordL a b
def b8 (x:Nat):UInt8:=((x:Int)).toNat.toUInt8
theorem b8_lt {x y:Nat} (hx:x < 256) (hy:y < 256):(b8 x < b8 y)↔x < y:=by
 unfold b8
 rw [Int.toNat_natCast,Int.toNat_natCast,UInt8.lt_iff_toNat_lt,Nat.toUInt8_eq,Nat.toUInt8_eq,UInt8.toNat_ofNat',UInt8.toNat_ofNat']
 rw [Nat.mod_eq_of_lt (by omega),Nat.mod_eq_of_lt (by omega)]
theorem xb2g:∀ (a b:List Nat),(∀ x∈a,x < 256)→(∀ x∈b,x < 256)→Lib.compareBytes (a.map b8) (b.map b8) = ordL a b
 | [],[],_,_=>rfl
 | [],_ :: _,_,_=>rfl
 | _ :: _,[],_,_=>rfl
 | x :: a,y :: b,ha,hb=>by
  have h1:=b8_lt (ha x (by simp)) (hb y (by simp))
  have h2:=b8_lt (hb y (by simp)) (ha x (by simp))
  simp only [List.map_cons,Lib.compareBytes,ordL]
  rw [xb2g a b (fun z hz=>ha z (by simp [hz])) (fun z hz=>hb z (by simp [hz]))]
  by_cases g1:x < y
  ·rw [if_pos (h1.2 g1),if_pos g1]
  ·rw [if_neg (fun h=>g1 (h1.1 h)),if_neg g1]
   by_cases g2:y < x
   ·rw [if_pos (h2.2 g2),if_pos g2]
   ·rw [if_neg (fun h=>g2 (h2.1 h)),if_neg g2]
theorem xa1n {P:Program} {w:World} {g:Nat}:∀ (bs:List Nat) (off:Nat) (acc:ByteArray),(∀ i,i < bs.length→w.cell? ⟨g,off + i,none⟩ = some (u8 (bs.getD i 0))) →
  ∃ r:ByteArray,(Extern.Bytes.loadBytes ⟨g,off,none⟩ bs.length acc).run P w = .ok r w∧r.data.toList = acc.data.toList++bs.map b8
 | [],off,acc,_=>⟨acc,rfl,by simp⟩
 | x :: bs,off,acc,h=>by
  have h0:=h 0 (by simp)
  obtain ⟨r,hr,he⟩:=xa1n (P:=P) bs (off + 1) (acc.push (b8 x)) (fun i hi=>by
   have:=h (i + 1) (by simp; omega)
   rw [show off + 1 + i = off + (i + 1) by omega]
   exact this)
  refine ⟨r,?_,?_⟩
  ·rw [List.length_cons,Extern.Bytes.loadBytes,Sem.run_bind,run_load]
   rw [Nat.add_zero] at h0
   rw [h0]
   exact hr
  ·rw [he]; simp [ByteArray.push]
theorem xc0r {P:Program} {w:World} {g g':Nat} (a b:List Nat) (c c' n n':Nat) (hn:a.length = n) (hn':b.length = n') (ha:∀ x∈a,x < 256) (hb:∀ x∈b,x < 256) (h:∀ i,i < a.length→w.cell? ⟨g,i,none⟩ = some (u8 (a.getD i 0))) (h':∀ i,i < b.length→w.cell? ⟨g',i,none⟩ = some (u8 (b.getD i 0))) :
  (Extern.BytealgCompare.compare #[.slice (some ⟨g,0,none⟩) n c,.slice (some ⟨g',0,none⟩) n' c']).run P w = .ok (.int .i64 (ordL a b)) w:=by
 subst hn; subst hn'
 obtain ⟨r,hr,he⟩:=xa1n (P:=P) (w:=w) (g:=g) a 0 .empty (fun i hi=>by rw [Nat.zero_add]; exact h i hi)
 obtain ⟨r',hr',he'⟩:=xa1n (P:=P) (w:=w) (g:=g') b 0 .empty (fun i hi=>by rw [Nat.zero_add]; exact h' i hi)
 change Sem.run P (do pure (goInt (Extern.BytealgCompare.cmp (← Extern.Bytes.loadBytes ⟨g,0,none⟩ a.length .empty) (← Extern.Bytes.loadBytes ⟨g',0,none⟩ b.length .empty)))) w = _
 simp only [Sem.run_bind,hr,hr',Sem.run_pure,Result.andThen]
 rw [Lib.cmp_eq,he,he']
 show Result.ok (goInt (Lib.compareBytes (a.map b8) (b.map b8))) w = _
 rw [xb2g a b ha hb]
 rfl
set_option maxHeartbeats 1000000 in
theorem xa8k (a b:List Nat) (g g' c c':Nat) (w:World) (ha:Dg a) (hb:Dg b) (h:∀ i,i < a.length→w.cell? ⟨g,i,none⟩ = some (u8 (a.getD i 0))) (h':∀ i,i < b.length→w.cell? ⟨g',i,none⟩ = some (u8 (b.getD i 0))) :
  Calls Tryz.prog 102 #[.slice (some ⟨g,0,none⟩) 32 c,.slice (some ⟨g',0,none⟩) 32 c'] w fun e w'=>e = .returned (.int .i64 (ordL a b))∧w' = w:=by
 have HC:=hide (fun (P:Program)=>xc0r (P:=P) a b c c' 32 32 ha.1 hb.1 ha.2 hb.2 h h')
 clear h h'
 go_enter Tryz.func102,Tryz.ntmps102
 go_wp2
 rw [run_callFunc_extern Tryz.func125 (by kernel_rfl) (by kernel_rfl) (by kernel_rfl) (e:=Extern.BytealgCompare.compare) (by kernel_rfl),uh HC]
 simp only [Result.andThen]
 rw [Oper.upon_value]
 go_wp2
 go_ret
 exact ⟨rfl,rfl⟩
def ordC (z:Int) (a b:List Nat):Int:=if formedE z [a,b] = 0 then ordL a b else 0
set_option maxHeartbeats 1000000 in
theorem xb5o (z:Int) (a b:List Nat) (w:World) (hz:-9223372036854775808≤z∧z≤9223372036854775807) (ha:Dg a) (hb:Dg b) :
  Calls Tryz.prog 119 #[.int .i64 z,.agg (brow a),.agg (brow b)] w fun e w'=>e = .returned (.tuple #[.int .i64 (ordC z a b),.int .i64 (formedE z [a,b]:Int)])∧Kept [] w w':=by
 have HA:=hide ha
 have HB:=hide hb
 have hal:=ha.1
 have hbl:=hb.1
 have HGA:=hide (((Kept.refl [] (w.alloc (.cells (brow a) 50))).alloc (.cells (brow b) 50)).heap (heap_alloc_new w (.cells (brow a) 50)) (by simp))
 have HGB:=hide (xa2z w (.cells (brow a) 50) (.cells (brow b) 50))
 have HK0:=hide (((Kept.refl [] w).alloc (.cells (brow a) 50)).alloc (.cells (brow b) 50))
 have HC:=hide (by unfold ordC; rfl:ordC z a b = if formedE z [a,b] = 0 then ordL a b else 0)
 obtain ⟨f,hf⟩:∃ f,formedE z [a,b] = f:=⟨_,rfl⟩
 obtain ⟨C,hC⟩:∃ C,ordC z a b = C:=⟨_,rfl⟩
 have HFF:=hide hf
 rw [hf,hC] at HC
 rw [hf,hC]
 clear hf hC
 have hfs:∀ A:Array Value,(List.foldl (fun cs x=>cs.setIfInBounds x.snd x.fst) A (List.map u8 a).zipIdx).size = A.size:=fun A=>xa9v _ A 0
 go_enter Tryz.func119,Tryz.ntmps119
 go_wp2_with (first
  | (refine wpList_load_mid rfl 50 _ rfl w.heap.size 0 rfl (a.map u8) _ (xa1g (uh HGA)) Tryz.underlying50 rfl (by rw [List.length_map,hal]; exact Tryz.size_dig) ?_)
  | (refine wpList_load_mid rfl 50 _ rfl (w.heap.size + 1) 0 rfl (b.map u8) _ (xa1g (uh HGB)) Tryz.underlying50 rfl (by rw [List.length_map,hbl]; exact Tryz.size_dig) ?_))
 rw [zb64,xb2l a b hal hbl]
 clear hfs
 refine Calls.mono (xa3i z _ [a,b] _ hz (RdD.two (xa9d _ _ _ _) hal hbl ha.2 hb.2)) ?_
 rintro e w1 ⟨rfl,k1⟩
 have k01:=((Kept.refl [] ((w.alloc (.cells (brow a) 50)).alloc (.cells (brow b) 50))).alloc (.cells (a.map u8++b.map u8).toArray 50)).trans k1 (by simp)
 have HK1:=hide ((uh HK0).trans k01 (by simp))
 have HG1:=hide (k01.heap (uh HGA) (by simp))
 have HG2:=hide (k01.heap (uh HGB) (by simp))
 clear k1 k01 HGA HGB
 rw [uh HFF]
 by_cases hf0:f = 0
 ·subst hf0
  rw [if_pos rfl] at HC
  clear HFF
  go_wp2_with fail
  refine xa0x 2 (by kernel_rfl) (by kernel_rfl) ?_
  simp only [List.take_succ_cons,List.take_zero,List.drop_succ_cons,List.drop_zero]
  repeat (go_big_quiet_step (fail))
  refine wpQuiet_nil ?_
  intro _ hw'
  obtain ⟨n1,hw''⟩:=hw'
  subst hw''
  have HG3:=hide (((Kept.refl [] w1).drewN n1).heap (uh HG1) (by simp))
  have HG4:=hide (((Kept.refl [] w1).drewN n1).heap (uh HG2) (by simp))
  have HK2:=hide ((uh HK1).drewN n1)
  go_wp2_with fail
  refine Calls.mono (xa8k a b _ _ _ _ _ ha hb (fun i hi=>xa0o (uh HG3) i hi) (fun i hi=>xa0o (uh HG4) i hi)) ?_
  rintro e w2 ⟨rfl,rfl⟩
  go_wp2
  go_ret2
  exact ⟨by rw [uh HC]; rfl,uh HK2⟩
 ·have hf0':((f:Int) != 0) = true:=by rw [bne_iff_ne]; omega
  rw [if_neg hf0] at HC
  clear HFF
  go_wp2
  go_ret2
  exact ⟨by rw [uh HC]; rfl,uh HK1⟩
end

section
open Go.RowKit

end
section
open Go Go.RowKit Go.BigFrame

end
section
open Go.RowKit Go.BigFrame
theorem xa2v (z:Int) (p:List Nat):Dg (sumD z p):=⟨xa0e _ _,by
 unfold sumD
 split
 ·exact xb4h _ _ (xb0g _)
 ·intro x hx; simp at hx; omega⟩
theorem xb4s {k:Nat} {d:List Nat} (hk:k≤32) (hd:d.length = 32):cutL k (cutL k d) = cutL k d:=by
 unfold cutL
 rw [List.take_append_of_le_length (by simp; omega),List.take_take,Nat.min_self]
theorem xa3w {z:Int} (hw:widthB z = true) (p:List Nat):formB z (sumD z p) = true:=by
 unfold formB sumD
 have h:=xa6a hw
 rw [hw]
 simp only [if_true,Bool.true_and]
 rw [xb4s (by omega) (xa1s _)]
 simp
theorem xa4q {k:Nat} (hk:1≤k∧k≤32) (p:List Nat):sumD (k:Int) p = cutL k (hash p):=by
 unfold sumD
 rw [if_pos (by simp [widthB]; omega),Int.toNat_natCast]
set_option maxHeartbeats 1000000 in
theorem xa4s (k:Nat) (v:Value) (p:List Nat) (w:World) (hk:1≤k∧k≤32) (h:Rd w v p) (hl:p.length≤140737488351232) :
  Calls Tryz.prog 24 #[.int .i64 k,v] w fun e w'=>e = .returned (.agg (brow (sumD (k:Int) (2 :: p))))∧Kept [] w w':=by
 rw [xa4q hk]
 have hcl:=xa0z k (hash (2 :: p)) hk.2 (xa1s _)
 obtain ⟨C,hC⟩:∃ C,cutL k (hash (2 :: p)) = C:=⟨_,rfl⟩
 rw [hC] at hcl ⊢
 have HC:=hide hC
 clear hC
 have HH:=hide h
 clear h
 have HS2:=hide (by rw [xa0a,hcl]; exact Tryz.size_dig:(Tryz.prog.info? 50).map (·.size) = some (brow C).size)
 go_enter Tryz.func24,Tryz.ntmps24
 go_wp2_with fail
 rw [zb32]
 have k0:=(Kept.refl [] w).alloc (.cells (zb 32) 50)
 refine Calls.mono (xa4w _ p _ ((uh HH).old k0 (by simp)) hl) ?_
 rintro e w1 ⟨v1,rfl,r1,k1⟩
 have HR1:=hide r1
 have HK1:=hide (k0.trans k1 (by simp))
 have HZ1:=hide (k1.heap (heap_alloc_new w (.cells (zb 32) 50)) (by simp))
 clear r1 k1 k0
 go_wp2_with fail
 refine Calls.mono (xa4o k _ _ _ (uh HR1) hk.2) ?_
 rintro e w2 ⟨rfl,k2⟩
 rw [uh HC]
 have HZ2:=hide (k2.heap (uh HZ1) (by simp))
 have HK2:=hide ((uh HK1).trans k2 (by simp))
 clear k2
 go_wp2_with (refine wpList_store_row rfl 50 _ _ rfl w.heap.size (brow C) rfl rfl _ (zb 32) (uh HZ2) (uh HS2) (by rw [xa0l,xa0a,hcl]) (xa0f _) ?_)
 refine bodyPost_ret (v:=.agg (brow C)) ?_ rfl ⟨rfl,(uh HK2).setRow (by simp) _⟩
 exact results_cell_row rfl _ _ w.heap.size _ (brow C) (0,0) _ rfl (setRow_heap _ _ _ _ _ _ (uh HZ2)) Tryz.underlying50 rfl (uh HS2)
set_option maxHeartbeats 1000000 in
theorem xa6y (k:Nat) (v:Value) (ps:List (List Nat × List Nat)) (w:World) (hk:1≤k∧k≤32) (h:RdK w v ps) (hl:(pairB ps).length≤1000000000000) :
  Calls Tryz.prog 136 #[.int .i64 k,v] w fun e w'=>e = .returned (.agg (brow (sumD (k:Int) (buckB ps))))∧Kept [] w w':=by
 rw [xa4q hk]
 have hcl:=xa0z k (hash (buckB ps)) hk.2 (xa1s _)
 obtain ⟨C,hC⟩:∃ C,cutL k (hash (buckB ps)) = C:=⟨_,rfl⟩
 rw [hC] at hcl ⊢
 have HC:=hide hC
 clear hC
 have HH:=hide h
 clear h
 have HS2:=hide (by rw [xa0a,hcl]; exact Tryz.size_dig:(Tryz.prog.info? 50).map (·.size) = some (brow C).size)
 go_enter Tryz.func136,Tryz.ntmps136
 go_wp2_with fail
 rw [zb32]
 have k0:=(Kept.refl [] w).alloc (.cells (zb 32) 50)
 refine Calls.mono (xa3l _ ps _ ((uh HH).old k0) hl) ?_
 rintro e w1 ⟨v1,rfl,r1,k1⟩
 have HR1:=hide r1
 have HK1:=hide (k0.trans k1 (by simp))
 have HZ1:=hide (k1.heap (heap_alloc_new w (.cells (zb 32) 50)) (by simp))
 clear r1 k1 k0
 go_wp2_with fail
 refine Calls.mono (xa4o k _ _ _ (uh HR1) hk.2) ?_
 rintro e w2 ⟨rfl,k2⟩
 rw [uh HC]
 have HZ2:=hide (k2.heap (uh HZ1) (by simp))
 have HK2:=hide ((uh HK1).trans k2 (by simp))
 clear k2
 go_wp2_with (refine wpList_store_row rfl 50 _ _ rfl w.heap.size (brow C) rfl rfl _ (zb 32) (uh HZ2) (uh HS2) (by rw [xa0l,xa0a,hcl]) (xa0f _) ?_)
 refine bodyPost_ret (v:=.agg (brow C)) ?_ rfl ⟨rfl,(uh HK2).setRow (by simp) _⟩
 exact results_cell_row rfl _ _ w.heap.size _ (brow C) (0,0) _ rfl (setRow_heap _ _ _ _ _ _ (uh HZ2)) Tryz.underlying50 rfl (uh HS2)
set_option maxHeartbeats 1000000 in
theorem xa6w (k:Nat) (x:Nat) (v:Value) (ds:List (List Nat)) (w:World) (hk:1≤k∧k≤32) (hx:x < 65536) (h:RdD w v ds) (hl:ds.length≤16) :
  Calls Tryz.prog 137 #[.int .i64 k,.int .u16 x,v] w fun e w'=>e = .returned (.agg (brow (sumD (k:Int) (branchB (k:Int) x ds))))∧Kept [] w w':=by
 rw [xa4q hk]
 have hcl:=xa0z k (hash (branchB (k:Int) x ds)) hk.2 (xa1s _)
 obtain ⟨C,hC⟩:∃ C,cutL k (hash (branchB (k:Int) x ds)) = C:=⟨_,rfl⟩
 rw [hC] at hcl ⊢
 have HC:=hide hC
 clear hC
 have HH:=hide h
 clear h
 have HS2:=hide (by rw [xa0a,hcl]; exact Tryz.size_dig:(Tryz.prog.info? 50).map (·.size) = some (brow C).size)
 go_enter Tryz.func137,Tryz.ntmps137
 go_wp2_with fail
 rw [zb32]
 have k0:=(Kept.refl [] w).alloc (.cells (zb 32) 50)
 refine Calls.mono (xa3n k x _ ds _ hk.2 hx ((uh HH).old k0) hl) ?_
 rintro e w1 ⟨v1,rfl,r1,k1⟩
 have HR1:=hide r1
 have HK1:=hide (k0.trans k1 (by simp))
 have HZ1:=hide (k1.heap (heap_alloc_new w (.cells (zb 32) 50)) (by simp))
 clear r1 k1 k0
 go_wp2_with fail
 refine Calls.mono (xa4o k _ _ _ (uh HR1) hk.2) ?_
 rintro e w2 ⟨rfl,k2⟩
 rw [uh HC]
 have HZ2:=hide (k2.heap (uh HZ1) (by simp))
 have HK2:=hide ((uh HK1).trans k2 (by simp))
 clear k2
 go_wp2_with (refine wpList_store_row rfl 50 _ _ rfl w.heap.size (brow C) rfl rfl _ (zb 32) (uh HZ2) (uh HS2) (by rw [xa0l,xa0a,hcl]) (xa0f _) ?_)
 refine bodyPost_ret (v:=.agg (brow C)) ?_ rfl ⟨rfl,(uh HK2).setRow (by simp) _⟩
 exact results_cell_row rfl _ _ w.heap.size _ (brow C) (0,0) _ rfl (setRow_heap _ _ _ _ _ _ (uh HZ2)) Tryz.underlying50 rfl (uh HS2)
theorem xa5l {P:Program} {w:World} {v:Value} {a:List Nat} (h:Rd w v a):∃ r:ByteArray,(Extern.Bytes.bytesOf v).run P w = .ok r w∧r.data.toList = a.map b8:=by
 obtain ⟨ao,n,c,rfl,h1,h2,h3,h4,_,h5⟩:=h
 subst h1
 cases ao with
 | none =>
  have h0:a = []:=List.eq_nil_of_length_eq_zero (by have:=h4 rfl; omega)
  subst h0
  exact ⟨.empty,rfl,rfl⟩
 | some p =>
  rcases Nat.eq_zero_or_pos a.length with h0 | h0
  ·have h0':a = []:=List.eq_nil_of_length_eq_zero h0
   subst h0'
   exact ⟨.empty,rfl,rfl⟩
  ·obtain ⟨b,off,he,hc⟩:=h5 h0
   cases he
   obtain ⟨r,hr,e⟩:=xa1n (P:=P) (w:=w) (g:=b) a off .empty hc
   exact ⟨r,hr,by rw [e]; simp⟩
theorem xb9x {P:Program} {w:World} {u v:Value} {a b:List Nat} (ha:Rd w u a) (hb:Rd w v b):(Extern.BytealgCompare.compare #[u,v]).run P w = .ok (.int .i64 (ordL a b)) w:=by
 obtain ⟨r,hr,he⟩:=xa5l (P:=P) ha
 obtain ⟨r',hr',he'⟩:=xa5l (P:=P) hb
 change Sem.run P (do pure (goInt (Extern.BytealgCompare.cmp (← Extern.Bytes.bytesOf u) (← Extern.Bytes.bytesOf v)))) w = _
 simp only [Sem.run_bind,hr,hr',Sem.run_pure,Result.andThen]
 rw [Lib.cmp_eq,he,he']
 show Result.ok (goInt (Lib.compareBytes (a.map b8) (b.map b8))) w = _
 rw [xb2g a b ha.byte hb.byte]
 rfl
set_option maxHeartbeats 1000000 in
theorem xb8n (u v:Value) (a b:List Nat) (w:World) (ha:Rd w u a) (hb:Rd w v b) :
  Calls Tryz.prog 102 #[u,v] w fun e w'=>e = .returned (.int .i64 (ordL a b))∧w' = w:=by
 obtain ⟨ao,n,c,rfl,h1,_,_,h4,h5,_⟩:=id ha
 obtain ⟨bo,m,d,rfl,g1,_,_,g4,g5,_⟩:=id hb
 have HC:=hide (fun (P:Program)=>xb9x (P:=P) ha hb)
 clear ha hb h4 g4 h5 g5
 go_enter Tryz.func102,Tryz.ntmps102
 go_wp2
 rw [run_callFunc_extern Tryz.func125 (by kernel_rfl) (by kernel_rfl) (by kernel_rfl) (e:=Extern.BytealgCompare.compare) (by kernel_rfl),uh HC]
 simp only [Result.andThen]
 rw [Oper.upon_value]
 go_wp2
 go_ret
 exact ⟨rfl,rfl⟩
def RdS (w:World) (v:Value) (ss:List (Nat × List (List Nat))):Prop :=
 ∃ (ao:Option Addr) (len cap:Nat) (vs:List Value),v = .slice ao len cap∧ss.length = len∧len≤cap∧cap≤9223372036854775807∧(∀ i,i < len→(ss.getD i (0,[])).1 < 65536∧RdD w (vs.getD i undef) (ss.getD i (0,[])).2) ∧
  (0 < len→∃ b off,ao = some ⟨b,off,none⟩∧∀ i,i < len→w.cell? ⟨b,off + i * 2,none⟩ = some (.int .u16 ((ss.getD i (0,[])).1:Int))∧w.cell? ⟨b,off + i * 2 + 1,none⟩ = some (vs.getD i undef))
theorem RdS.old {w w':World} {v:Value} {ss:List (Nat × List (List Nat))} (h:RdS w v ss) (k:Kept [] w w'):RdS w' v ss:=by
 obtain ⟨ao,len,cap,vs,h1,h2,h4,h5,h6,h7⟩:=h
 refine ⟨ao,len,cap,vs,h1,h2,h4,h5,fun i hi=>⟨(h6 i hi).1,(h6 i hi).2.old k⟩,fun hp=>?_⟩
 obtain ⟨b,off,e,hc⟩:=h7 hp
 exact ⟨b,off,e,fun i hi=>⟨k.cell (hc i hi).1 (by simp),k.cell (hc i hi).2 (by simp)⟩⟩
end

theorem xa5y (a b:List Nat):∀ (n i:Nat),i≤comL a b n i∧comL a b n i≤i + n∧(∀ j,i≤j→j < comL a b n i→dgt a j = dgt b j)∧(comL a b n i < i + n→dgt a (comL a b n i)≠dgt b (comL a b n i))
 | 0,i=>by unfold comL; exact ⟨Nat.le_refl _,Nat.le_refl _,fun j h1 h2=>by omega,fun h=>by omega⟩
 | n + 1,i=>by
  unfold comL
  by_cases h:dgt a i = dgt b i
  ·rw [if_pos h]
   obtain ⟨h1,h2,h3,h4⟩:=xa5y a b n (i + 1)
   refine ⟨by omega,by omega,fun j g1 g2=>?_,fun g=>h4 (by omega)⟩
   rcases Nat.lt_or_ge i j with q | q
   ·exact h3 j (by omega) g2
   ·rw [show j = i by omega]; exact h
  ·rw [if_neg h]
   exact ⟨Nat.le_refl _,by omega,fun j g1 g2=>by omega,fun _=>h⟩
theorem xa0t:∀ a:List Nat,ordL a a = 0
 | []=>rfl
 | x :: a=>by unfold ordL; rw [if_neg (Nat.lt_irrefl x),if_neg (Nat.lt_irrefl x)]; exact xa0t a
theorem xb7t:∀ (a b:List Nat) (j:Nat),a.length = b.length→j < a.length→(∀ i,i < j→a.getD i 0 = b.getD i 0)→a.getD j 0≠b.getD j 0→ordL a b = if a.getD j 0 < b.getD j 0 then -1 else 1
 | [],b,j,_,h,_,_=>by simp at h
 | x :: a,[],j,h,_,_,_=>by simp at h
 | x :: a,y :: b,0,_,_,_,h=>by
  simp only [List.getD_cons_zero] at h ⊢
  unfold ordL
  by_cases g:x < y
  ·rw [if_pos g,if_pos g]
  ·rw [if_neg g,if_pos (by omega),if_neg g]
 | x :: a,y :: b,j + 1,hl,hj,hp,h=>by
  have h0:=hp 0 (by omega)
  simp only [List.getD_cons_zero] at h0
  subst h0
  unfold ordL
  rw [if_neg (Nat.lt_irrefl x),if_neg (Nat.lt_irrefl x)]
  simp only [List.getD_cons_succ] at h ⊢
  exact xb7t a b j (by simpa using hl) (by simpa using hj) (fun i hi=>by have:=hp (i + 1) (by omega); simpa using this) h
theorem xa3j (d:List Nat) (j:Nat):d.getD j 0 = 16 * dgt d (2 * j) + dgt d (2 * j + 1):=by
 unfold dgt
 rw [if_pos (by omega),if_neg (by omega),show 2 * j / 2 = j by omega,show (2 * j + 1) / 2 = j by omega]
 omega
theorem xb6z {a b:List Nat} (ha:Dg a) (hb:Dg b) {c:Nat} (hc:c < 64) (hp:∀ i,i < c→dgt a i = dgt b i) (h:dgt a c≠dgt b c):ordL a b = if dgt a c < dgt b c then -1 else 1:=by
 have hpre:∀ i,i < c / 2→a.getD i 0 = b.getD i 0:=fun i hi=>by
  rw [xa3j a i,xa3j b i,hp (2 * i) (by omega),hp (2 * i + 1) (by omega)]
 have ea:=xa3j a (c / 2)
 have eb:=xa3j b (c / 2)
 have la:=dgt_lt ha.2 (2 * (c / 2) + 1)
 have lb:=dgt_lt hb.2 (2 * (c / 2) + 1)
 have hne:a.getD (c / 2) 0≠b.getD (c / 2) 0∧((a.getD (c / 2) 0 < b.getD (c / 2) 0)↔dgt a c < dgt b c):=by
  rcases (by omega:c = 2 * (c / 2)∨c = 2 * (c / 2) + 1) with e | e
  ·rw [← e] at ea eb la lb
   rw [ea,eb]
   omega
  ·have h1:=hp (2 * (c / 2)) (by omega)
   rw [← e] at ea eb la lb
   rw [ea,eb]
   omega
 rw [xb7t a b (c / 2) (by rw [ha.1,hb.1]) (by rw [ha.1]; omega) hpre hne.1]
 by_cases g:dgt a c < dgt b c
 ·rw [if_pos g,if_pos (hne.2.2 g)]
 ·rw [if_neg g,if_neg (fun q=>g (hne.2.1 q))]
theorem xa3a:∀ a b:List Nat,ordL a b = - ordL b a
 | [],[]=>rfl
 | [],_ :: _=>rfl
 | _ :: _,[]=>rfl
 | x :: a,y :: b=>by
  unfold ordL
  by_cases h1:x < y
  ·rw [if_pos h1,if_neg (by omega),if_pos h1]
  ·by_cases h2:y < x
   ·rw [if_neg h1,if_pos h2,if_pos h2]; rfl
   ·rw [if_neg h1,if_neg h2,if_neg h2,if_neg h1]; exact xa3a a b
theorem xa2r (b i j:Nat) (hi:i≤15):(withB b (i:Int)).testBit j = (b.testBit j || decide (i = j)):=by
 unfold withB
 rw [Int.toNat_natCast]
 cases hb:b.testBit i with
 | true =>
  rw [if_neg (by simp)]
  by_cases h:i = j
  ·subst h; simp [hb]
  ·simp [h]
 | false=>rw [if_pos ⟨by omega,by omega,rfl⟩,xb3f hb]
theorem xb3d (b i j:Nat) (hi:i≤15):(outB b (i:Int)).testBit j = (b.testBit j && !decide (i = j)):=by
 unfold outB
 rw [Int.toNat_natCast]
 cases hb:b.testBit i with
 | false =>
  rw [if_neg (by simp)]
  by_cases h:i = j
  ·subst h; simp [hb]
  ·simp [h]
 | true=>rw [if_pos ⟨by omega,by omega,rfl⟩,xb1y hb]
theorem xb7u (b i:Nat) (hi:i≤15):hasB b (i:Int) = b.testBit i:=by
 unfold hasB
 rw [Int.toNat_natCast,decide_eq_true (by omega:(0:Int)≤i),decide_eq_true (by omega:(i:Int)≤15)]; simp
abbrev Prs:=List (List Nat × List Nat)
structure Hs where
 wd:Nat
 kd:List Nat→List Nat
 hb:Prs→List Nat
 hr:Nat→List (List Nat)→List Nat
structure Hs.Ok (H:Hs):Prop where
 lo:1≤H.wd
 hi:H.wd≤32
 dg:∀ k,Dg (H.kd k)
 far:∀ k j,2 * H.wd≤j→dgt (H.kd k) j = 0
theorem xa1o:∀ {a b:List Nat},ordL a b = 0→a = b
 | [],[],_=>rfl
 | [],_ :: _,h=>by simp [ordL] at h
 | _ :: _,[],h=>by simp [ordL] at h
 | x :: a,y :: b,h=>by
  unfold ordL at h
  by_cases h1:x < y
  ·rw [if_pos h1] at h; omega
  ·by_cases h2:y < x
   ·rw [if_neg h1,if_pos h2] at h; omega
   ·rw [if_neg h1,if_neg h2] at h
    rw [xa1o h,show x = y by omega]
theorem xa5p:∀ {a b c:List Nat},ordL a b < 0→ordL b c < 0→ordL a c < 0
 | [],[],_,p,_=>by simp [ordL] at p
 | [],_ :: _,[],_,q=>by simp [ordL] at q
 | [],_ :: _,_ :: _,_,_=>by simp [ordL]
 | _ :: _,[],_,p,_=>by simp [ordL] at p
 | _ :: _,_ :: _,[],_,q=>by simp [ordL] at q
 | x :: a,y :: b,z :: c,p,q=>by
  unfold ordL at p q ⊢
  by_cases g1:x < y
  ·by_cases g2:y < z
   ·rw [if_pos (by omega)]; decide
   ·rw [if_neg g2] at q
    by_cases g3:z < y
    ·rw [if_pos g3] at q; omega
    ·rw [if_pos (by omega)]; decide
  ·rw [if_neg g1] at p
   by_cases g4:y < x
   ·rw [if_pos g4] at p; omega
   ·rw [if_neg g4] at p
    obtain rfl:x = y:=by omega
    by_cases g2:x < z
    ·rw [if_pos g2]; decide
    ·rw [if_neg g2] at q ⊢
     by_cases g3:z < x
     ·rw [if_pos g3] at q; omega
     ·rw [if_neg g3] at q ⊢
      exact xa5p p q
def kc (H:Hs) (a b:List Nat):Int:=if ordL (H.kd a) (H.kd b) = 0 then ordL a b else ordL (H.kd a) (H.kd b)
theorem xa1x (H:Hs) (a:List Nat):kc H a a = 0:=by unfold kc; rw [xa0t,if_pos rfl,xa0t]
theorem xa7u {H:Hs} {a b:List Nat} (h:kc H a b = 0):a = b:=by
 unfold kc at h
 by_cases g:ordL (H.kd a) (H.kd b) = 0
 ·rw [if_pos g] at h; exact xa1o h
 ·rw [if_neg g] at h; exact absurd h g
theorem xc1y (H:Hs) (a b:List Nat):kc H a b = - kc H b a:=by
 unfold kc
 have h1:=xa3a (H.kd a) (H.kd b)
 have h2:=xa3a a b
 by_cases g:ordL (H.kd a) (H.kd b) = 0
 ·rw [if_pos g,if_pos (by omega),h2]
 ·rw [if_neg g,if_neg (by omega),h1]
theorem xa3m {H:Hs} {a b c:List Nat} (p:kc H a b < 0) (q:kc H b c < 0):kc H a c < 0:=by
 unfold kc at p q ⊢
 by_cases g1:ordL (H.kd a) (H.kd b) = 0
 ·rw [if_pos g1] at p
  have e1:=xa1o g1
  by_cases g2:ordL (H.kd b) (H.kd c) = 0
  ·rw [if_pos g2] at q
   have e2:=xa1o g2
   rw [if_pos (by rw [e1,e2,xa0t])]
   exact xa5p p q
  ·rw [if_neg g2] at q
   rw [if_neg (by rw [e1]; exact g2),e1]
   exact q
 ·rw [if_neg g1] at p
  by_cases g2:ordL (H.kd b) (H.kd c) = 0
  ·have e2:=xa1o g2
   rw [if_neg (by rw [← e2]; exact g1),← e2]
   exact p
  ·rw [if_neg g2] at q
   have:=xa5p p q
   rw [if_neg (by omega)]
   exact this
theorem kc_le {H:Hs} {a b:List Nat} (h:kc H a b < 0):ordL (H.kd a) (H.kd b)≤0:=by
 unfold kc at h
 by_cases g:ordL (H.kd a) (H.kd b) = 0
 ·omega
 ·rw [if_neg g] at h; omega
theorem xb7p {H:Hs} {a b:List Nat} (h:H.kd a = H.kd b):kc H a b = ordL a b:=by unfold kc; rw [h,xa0t,if_pos rfl]
def Srt (H:Hs) (L:Prs):Prop:=L.Pairwise (fun x y=>kc H x.1 y.1 < 0)
def insP (H:Hs) (k v:List Nat):Prs→Prs
 | []=>[(k,v)]
 | y :: L=>if kc H k y.1 < 0 then (k,v) :: y :: L else if kc H k y.1 = 0 then (k,v) :: L else y :: insP H k v L
def delP (k:List Nat) (L:Prs):Prs:=L.filter (fun y=>decide (y.1≠k))
def getP (k:List Nat):Prs→Option (List Nat)
 | []=>none
 | y :: L=>if y.1 = k then some y.2 else getP k L
theorem xa2g (H:Hs) (k v:List Nat) (y:List Nat × List Nat) (L:Prs):insP H k v (y :: L) = if kc H k y.1 < 0 then (k,v) :: y :: L else if kc H k y.1 = 0 then (k,v) :: L else y :: insP H k v L:=rfl
theorem xa4n (k:List Nat) (y:List Nat × List Nat) (L:Prs):getP k (y :: L) = if y.1 = k then some y.2 else getP k L:=rfl
theorem Srt.tail {H:Hs} {y:List Nat × List Nat} {L:Prs} (h:Srt H (y :: L)):Srt H L:=(List.pairwise_cons.1 h).2
theorem Srt.head {H:Hs} {y:List Nat × List Nat} {L:Prs} (h:Srt H (y :: L)):∀ x∈L,kc H y.1 x.1 < 0:=(List.pairwise_cons.1 h).1
theorem Srt.filter {H:Hs} {L:Prs} (h:Srt H L) (p:List Nat × List Nat→Bool):Srt H (L.filter p):=List.Pairwise.filter p h
theorem ins_lt {H:Hs} {k v:List Nat}:∀ {L:Prs},(∀ y∈L,kc H k y.1 < 0)→insP H k v L = (k,v) :: L
 | [],_=>rfl
 | y :: L,h=>by unfold insP; rw [if_pos (h y (by simp))]
theorem xa2l {H:Hs} {k v:List Nat}:∀ {L:Prs},Srt H L→∀ y,y∈insP H k v L↔y = (k,v)∨(y∈L∧y.1≠k)
 | [],_,y=>by simp [insP]
 | x :: L,h,y=>by
  have ht:=h.tail
  have hh:=h.head
  unfold insP
  by_cases g1:kc H k x.1 < 0
  ·rw [if_pos g1]
   have hne:∀ z∈x :: L,z.1≠k:=fun z hz e=>by
    rcases List.mem_cons.1 hz with rfl | hz
    ·rw [← e,xa1x] at g1; omega
    ·have:=xa3m g1 (hh z hz); rw [e,xa1x] at this; omega
   constructor
   ·intro hm; rcases List.mem_cons.1 hm with rfl | hm
    ·exact Or.inl rfl
    ·exact Or.inr ⟨hm,hne y hm⟩
   ·rintro (rfl | ⟨hm,_⟩)
    ·simp
    ·exact List.mem_cons_of_mem _ hm
  ·rw [if_neg g1]
   by_cases g2:kc H k x.1 = 0
   ·rw [if_pos g2]
    have e:=xa7u g2
    constructor
    ·intro hm; rcases List.mem_cons.1 hm with rfl | hm
     ·exact Or.inl rfl
     ·refine Or.inr ⟨List.mem_cons_of_mem _ hm,fun e2=>?_⟩
      have:=hh y hm; rw [e2,e,xa1x] at this; omega
    ·rintro (rfl | ⟨hm,hn⟩)
     ·simp
     ·rcases List.mem_cons.1 hm with rfl | hm
      ·exact absurd e.symm hn
      ·exact List.mem_cons_of_mem _ hm
   ·rw [if_neg g2,List.mem_cons,xa2l ht y]
    constructor
    ·rintro (rfl | rfl | ⟨hm,hn⟩)
     ·exact Or.inr ⟨by simp,fun e=>g2 (by rw [e,xa1x])⟩
     ·exact Or.inl rfl
     ·exact Or.inr ⟨List.mem_cons_of_mem _ hm,hn⟩
    ·rintro (rfl | ⟨hm,hn⟩)
     ·exact Or.inr (Or.inl rfl)
     ·rcases List.mem_cons.1 hm with rfl | hm
      ·exact Or.inl rfl
      ·exact Or.inr (Or.inr ⟨hm,hn⟩)
theorem Srt.ins {H:Hs} (k v:List Nat):∀ {L:Prs},Srt H L→Srt H (insP H k v L)
 | [],_=>by simp [insP,Srt]
 | x :: L,h=>by
  have ht:=h.tail
  have hh:=h.head
  unfold insP
  by_cases g1:kc H k x.1 < 0
  ·rw [if_pos g1]
   refine List.pairwise_cons.2 ⟨fun y hy=>?_,h⟩
   rcases List.mem_cons.1 hy with rfl | hy
   ·exact g1
   ·exact xa3m g1 (hh y hy)
  ·rw [if_neg g1]
   by_cases g2:kc H k x.1 = 0
   ·rw [if_pos g2]
    have e:=xa7u g2
    exact List.pairwise_cons.2 ⟨fun y hy=>by rw [e]; exact hh y hy,ht⟩
   ·rw [if_neg g2]
    refine List.pairwise_cons.2 ⟨fun y hy=>?_,ht.ins k v⟩
    rcases (xa2l ht y).1 hy with rfl | ⟨hm,_⟩
    ·have:=xc1y H x.1 k; show kc H x.1 k < 0; omega
    ·exact hh y hm
theorem Srt.del {H:Hs} (k:List Nat) {L:Prs} (h:Srt H L):Srt H (delP k L):=h.filter _
theorem xa5h {k:List Nat} {L:Prs} (y:List Nat × List Nat):y∈delP k L↔y∈L∧y.1≠k:=by simp [delP]
theorem xa3c {H:Hs} {k v:List Nat}:∀ {L:Prs},Srt H L→(getP k L = some v↔(k,v)∈L)
 | [],_=>by simp [getP]
 | x :: L,h=>by
  unfold getP
  by_cases g:x.1 = k
  ·rw [if_pos g]
   constructor
   ·intro e; have e2:=Option.some.inj e; rw [← g,← e2]; simp
   ·intro hm; rcases List.mem_cons.1 hm with e | hm
    ·rw [← e]
    ·have:=h.head _ hm; rw [g,xa1x] at this; omega
  ·rw [if_neg g,xa3c h.tail]
   constructor
   ·exact fun hm=>List.mem_cons_of_mem _ hm
   ·intro hm; rcases List.mem_cons.1 hm with e | hm
    ·exact absurd (by rw [← e]) g
    ·exact hm
theorem xa2a {k:List Nat}:∀ {L:Prs},getP k L = none↔∀ y∈L,y.1≠k
 | []=>by simp [getP]
 | x :: L=>by
  unfold getP
  by_cases g:x.1 = k
  ·rw [if_pos g]; constructor
   ·intro e; cases e
   ·intro h; exact absurd g (h x (by simp))
  ·rw [if_neg g,xa2a]
   constructor
   ·intro h y hy; rcases List.mem_cons.1 hy with rfl | hy
    ·exact g
    ·exact h y hy
   ·exact fun h y hy=>h y (List.mem_cons_of_mem _ hy)
theorem xb7n {H:Hs}:∀ {L M:Prs},Srt H L→Srt H M→(∀ y,y∈L↔y∈M)→L = M
 | [],[],_,_,_=>rfl
 | [],y :: M,_,_,h=>absurd ((h y).2 (by simp)) (by simp)
 | x :: L,[],_,_,h=>absurd ((h x).1 (by simp)) (by simp)
 | x :: L,y :: M,hL,hM,h=>by
  have e:x = y:=by
   rcases List.mem_cons.1 ((h x).1 (by simp)) with e | h1
   ·exact e
   ·rcases List.mem_cons.1 ((h y).2 (by simp)) with e | h2
    ·exact e.symm
    ·have a:=hM.head x h1; have b:=hL.head y h2
     have:=xa3m a b; rw [xa1x] at this; omega
  subst e
  congr 1
  refine xb7n hL.tail hM.tail (fun z=>?_)
  have hz:=h z
  constructor
  ·intro hm
   rcases List.mem_cons.1 (hz.1 (List.mem_cons_of_mem _ hm)) with rfl | q
   ·have:=hL.head z hm; rw [xa1x] at this; omega
   ·exact q
  ·intro hm
   rcases List.mem_cons.1 (hz.2 (List.mem_cons_of_mem _ hm)) with rfl | q
   ·have:=hM.head z hm; rw [xa1x] at this; omega
   ·exact q
def ch (H:Hs) (d i:Nat) (L:Prs):Prs:=L.filter (fun y=>decide (dgt (H.kd y.1) d = i))
theorem ch_mem {H:Hs} {d i:Nat} {L:Prs} (y:List Nat × List Nat):y∈ch H d i L↔y∈L∧dgt (H.kd y.1) d = i:=by simp [ch]
theorem Srt.ch {H:Hs} {L:Prs} (h:Srt H L) (d i:Nat):Srt H (ch H d i L):=h.filter _
theorem ch_ins {H:Hs} (d i:Nat) (k v:List Nat):∀ {L:Prs},Srt H L→ch H d i (insP H k v L) = if dgt (H.kd k) d = i then insP H k v (ch H d i L) else ch H d i L
 | [],_=>by
  simp only [insP,ch]
  by_cases g:dgt (H.kd k) d = i <;> simp [g,insP]
 | y :: L,h=>by
  have ht:=h.tail
  have hh:=h.head
  have ih:=ch_ins d i k v ht
  rw [xa2g]
  by_cases g1:kc H k y.1 < 0
  ·rw [if_pos g1]
   have hlt:∀ x∈y :: L,kc H k x.1 < 0:=fun x hx=>by
    rcases List.mem_cons.1 hx with rfl | hx
    ·exact g1
    ·exact xa3m g1 (hh x hx)
   by_cases g:dgt (H.kd k) d = i
   ·rw [if_pos g,ins_lt (fun x hx=>hlt x ((ch_mem x).1 hx).1)]
    unfold ch; rw [List.filter_cons]; simp [g]
   ·rw [if_neg g]
    unfold ch; rw [List.filter_cons]; simp [g]
  ·rw [if_neg g1]
   by_cases g2:kc H k y.1 = 0
   ·rw [if_pos g2]
    have e:=xa7u g2
    by_cases g:dgt (H.kd k) d = i
    ·rw [if_pos g]
     have h1:ch H d i (y :: L) = y :: ch H d i L:=by unfold ch; rw [List.filter_cons]; simp [← e,g]
     rw [h1]
     rw [xa2g,if_neg g1,if_pos g2]
     unfold ch; rw [List.filter_cons]; simp [g]
    ·rw [if_neg g]
     unfold ch; rw [List.filter_cons,List.filter_cons]; simp [← e,g]
   ·rw [if_neg g2]
    by_cases g3:dgt (H.kd y.1) d = i
    ·have h1:∀ M:Prs,ch H d i (y :: M) = y :: ch H d i M:=fun M=>by unfold ch; rw [List.filter_cons]; simp [g3]
     rw [h1,h1,ih]
     by_cases g:dgt (H.kd k) d = i
     ·rw [if_pos g,if_pos g,xa2g,if_neg g1,if_neg g2]
     ·rw [if_neg g,if_neg g]
    ·have h1:∀ M:Prs,ch H d i (y :: M) = ch H d i M:=fun M=>by unfold ch; rw [List.filter_cons]; simp [g3]
     rw [h1,h1,ih]
theorem ch_del (H:Hs) (d i:Nat) (k:List Nat) (L:Prs):ch H d i (delP k L) = delP k (ch H d i L):=by
 unfold ch delP
 rw [List.filter_filter,List.filter_filter]
 exact List.filter_congr (fun x _=>Bool.and_comm _ _)
theorem xa9c {k:List Nat} {L:Prs} (h:∀ y∈L,y.1≠k):delP k L = L:=by
 unfold delP; rw [List.filter_eq_self]; intro y hy; simpa using h y hy
theorem xb2c {H:Hs} {d i:Nat} {k:List Nat} (L:Prs) (h:dgt (H.kd k) d≠i):ch H d i (delP k L) = ch H d i L:=by
 rw [ch_del]; exact xa9c (fun y hy e=>h (by rw [← e]; exact ((ch_mem y).1 hy).2))
def bmk (p:Nat→Bool):Nat→Nat
 | 0=>0
 | k + 1=>if p k then bmk p k + 2 ^ k else bmk p k
theorem xb6o (p:Nat→Bool):∀ k j,(bmk p k).testBit j = (decide (j < k) && p j)
 | 0,j=>by simp [bmk]
 | k + 1,j=>by
  have ih:=xb6o p k
  unfold bmk
  by_cases h:p k = true
  ·rw [if_pos h,xb3f (by rw [ih]; simp),ih]
   by_cases e:k = j
   ·subst e; simp [h]
   ·rw [decide_eq_false e,Bool.or_false,show decide (j < k + 1) = decide (j < k) by apply decide_eq_decide.2; omega]
  ·rw [if_neg h,ih]
   by_cases e:k = j
   ·subst e; simp [h]
   ·rw [show decide (j < k + 1) = decide (j < k) by apply decide_eq_decide.2; omega]
theorem bmk_lt (p:Nat→Bool):∀ k,bmk p k < 2 ^ k
 | 0=>by simp [bmk]
 | k + 1=>by
  have ih:=bmk_lt p k
  unfold bmk; rw [Nat.pow_succ]; split <;> omega
theorem xa1i (b:Nat):∀ k,setB b k = (List.range k).filter (fun i=>b.testBit i)
 | 0=>rfl
 | k + 1=>by
  rw [List.range_succ,List.filter_append,← xa1i b k]
  unfold setB
  cases h:b.testBit k <;> simp [h,List.filter_cons]
  all_goals cases k <;> rfl
theorem xc1o {a b:Nat} (h:∀ j,a.testBit j = b.testBit j):a = b:=Nat.eq_of_testBit_eq h
def bm (H:Hs) (d:Nat) (L:Prs):Nat:=bmk (fun i=>!(ch H d i L).isEmpty) 16
def prs (H:Hs) (d:Nat) (L:Prs):List Nat:=setB (bm H d L) 16
theorem bm_lt (H:Hs) (d:Nat) (L:Prs):bm H d L < 65536:=bmk_lt _ 16
theorem bm_bit {H:Hs} {d:Nat} {L:Prs} {i:Nat} (h:i < 16):(bm H d L).testBit i = !(ch H d i L).isEmpty:=by
 unfold bm; rw [xb6o,decide_eq_true h]; rfl
theorem bm_ext {H:Hs} {d:Nat} {L:Prs} {b:Nat} (hb:b < 65536) (h:∀ i,i < 16→b.testBit i = !(ch H d i L).isEmpty):b = bm H d L:=by
 apply xc1o; intro j
 by_cases hj:j < 16
 ·rw [h j hj,bm_bit hj]
 ·rw [xa9y hb (by omega),xa9y (bm_lt _ _ _) (by omega)]
theorem xb6y {H:Hs} {d:Nat} {L:Prs} {i:Nat}:i∈prs H d L↔i < 16∧ch H d i L≠[]:=by
 unfold prs
 rw [xa5q]
 constructor
 ·rintro ⟨h,g⟩; rw [bm_bit h] at g; exact ⟨h,by simpa using g⟩
 ·rintro ⟨h,g⟩; exact ⟨h,by rw [bm_bit h]; simpa using g⟩
theorem prs_le (H:Hs) (d:Nat) (L:Prs):(prs H d L).length≤16:=cnt_le _ _
theorem prs_eq (H:Hs) (d:Nat) (L:Prs):prs H d L = (List.range 16).filter (fun i=>!(ch H d i L).isEmpty):=by
 unfold prs
 rw [xa1i]
 exact List.filter_congr (fun i hi=>bm_bit (by simpa using hi))
def sgl (H:Hs) (L:Prs):Bool:=L.all (fun y=>decide (H.kd y.1 = H.kd (L.headD ([],[])).1))
theorem xa1e {H:Hs} {L:Prs}:sgl H L = true↔∀ x∈L,∀ y∈L,H.kd x.1 = H.kd y.1:=by
 unfold sgl
 rw [List.all_eq_true]
 constructor
 ·intro h x hx y hy
  have h1:=h x hx; have h2:=h y hy
  simp only [decide_eq_true_eq] at h1 h2
  rw [h1,h2]
 ·intro h x hx
  cases L with
  | nil=>simp at hx
  | cons z L=>exact decide_eq_true (h x hx z (by simp))
theorem xb0d (H:Hs):sgl H [] = true:=rfl
theorem sgl_no {H:Hs} {L:Prs} (h:sgl H L = false):∃ x∈L,∃ y∈L,H.kd x.1≠H.kd y.1:=by
 apply Classical.byContradiction
 intro hn
 have:sgl H L = true:=xa1e.2 (fun x hx y hy=>Classical.byContradiction (fun e=>hn ⟨x,hx,y,hy,e⟩))
 rw [h] at this; cases this
def Pre (H:Hs) (d:Nat) (L:Prs):Prop:=∀ x∈L,∀ y∈L,∀ j,j < d→dgt (H.kd x.1) j = dgt (H.kd y.1) j
theorem dg_ext {a b:List Nat} (ha:Dg a) (hb:Dg b) (h:∀ j,j < 64→dgt a j = dgt b j):a = b:=by
 apply List.ext_getElem (by rw [ha.1,hb.1])
 intro i h1 h2
 have:=xa3j a i
 rw [h (2 * i) (by have:=ha.1; omega),h (2 * i + 1) (by have:=ha.1; omega),← xa3j b i] at this
 simpa [List.getD_eq_getElem?_getD,List.getElem?_eq_getElem h1,List.getElem?_eq_getElem h2] using this
theorem kd_ext {H:Hs} (hH:H.Ok) {a b:List Nat} (h:∀ j,j < 2 * H.wd→dgt (H.kd a) j = dgt (H.kd b) j):H.kd a = H.kd b :=
 dg_ext (hH.dg a) (hH.dg b) (fun j _=>by
  rcases Nat.lt_or_ge j (2 * H.wd) with g | g
  ·exact h j g
  ·rw [hH.far a j g,hH.far b j g])
theorem xb6n {H:Hs} (hH:H.Ok) {d:Nat} {L:Prs} (h:Pre H d L) (hd:2 * H.wd≤d):sgl H L = true :=
 xa1e.2 (fun x hx y hy=>kd_ext hH (fun j hj=>h x hx y hy j (by omega)))
theorem deep {H:Hs} (hH:H.Ok) {d:Nat} {L:Prs} (h:Pre H d L) (hs:sgl H L = false):d < 2 * H.wd:=by
 rcases Nat.lt_or_ge d (2 * H.wd) with g | g
 ·exact g
 ·rw [xb6n hH h g] at hs; cases hs
theorem dgk {H:Hs} (hH:H.Ok) (k:List Nat) (d:Nat):dgt (H.kd k) d < 16:=dgt_lt (hH.dg k).2 d
theorem ch_all {H:Hs} {d i:Nat} {L:Prs} (h:∀ y∈L,dgt (H.kd y.1) d = i):ch H d i L = L:=by
 unfold ch; rw [List.filter_eq_self]; intro y hy; simpa using h y hy
theorem xb2j {H:Hs} {d i:Nat} {L:Prs} (h:∀ y∈L,dgt (H.kd y.1) d≠i):ch H d i L = []:=by
 unfold ch; rw [List.filter_eq_nil_iff]; intro y hy; simpa using h y hy
theorem xb6f {H:Hs} (hH:H.Ok) {d i:Nat} {L:Prs} (h:∀ y∈L,dgt (H.kd y.1) d = i) (hn:L≠[]):prs H d L = [i]:=by
 have hi:i < 16:=by
  cases L with
  | nil=>exact absurd rfl hn
  | cons y L=>rw [← h y (by simp)]; exact dgk hH _ _
 rw [prs_eq]
 have e:∀ j∈List.range 16,(!(ch H d j L).isEmpty) = decide (j = i):=fun j _=>by
  by_cases g:j = i
  ·subst g; rw [ch_all h]; cases L <;> simp at hn ⊢
  ·rw [xb2j (fun y hy e=>g (by rw [← e]; exact h y hy)),decide_eq_false g]; rfl
 rw [List.filter_congr e]
 have:∀ i,i < 16→(List.range 16).filter (fun j=>decide (j = i)) = [i]:=by decide
 exact this i hi
theorem prs_ne {H:Hs} (hH:H.Ok) {d:Nat} {L:Prs} (hn:L≠[]):prs H d L≠[]:=by
 cases L with
 | nil=>exact absurd rfl hn
 | cons y L =>
  have:dgt (H.kd y.1) d∈prs H d (y :: L):=xb6y.2 ⟨dgk hH _ _,fun e=>by
   have:y∈ch H d (dgt (H.kd y.1) d) (y :: L):=(ch_mem y).2 ⟨by simp,rfl⟩
   rw [e] at this; simp at this⟩
  intro e; rw [e] at this; simp at this
theorem xb9l {H:Hs} (hH:H.Ok) {d i:Nat} {L:Prs} (h:prs H d L = [i]):∀ y∈L,dgt (H.kd y.1) d = i:=fun y hy=>by
 have:dgt (H.kd y.1) d∈prs H d L:=xb6y.2 ⟨dgk hH _ _,fun e=>by
  have h2:y∈ch H d (dgt (H.kd y.1) d) L:=(ch_mem y).2 ⟨hy,rfl⟩
  rw [e] at h2; simp at h2⟩
 rw [h] at this; simpa using this
theorem xc0k {H:Hs} (hH:H.Ok) {d:Nat} {L:Prs} (hn:L≠[]) (hs:sgl H L = true):∃ i,prs H d L = [i]∧ch H d i L = L:=by
 cases L with
 | nil=>exact absurd rfl hn
 | cons y L =>
  have h:∀ x∈y :: L,dgt (H.kd x.1) d = dgt (H.kd y.1) d:=fun x hx=>by rw [xa1e.1 hs x hx y (by simp)]
  exact ⟨_,xb6f hH h hn,ch_all h⟩
theorem xc2h {H:Hs} (hH:H.Ok) {d:Nat} {L:Prs} (hn:L≠[]) (h:(prs H d L).length≠1):sgl H L = false:=by
 cases hs:sgl H L with
 | false=>rfl
 | true=>obtain ⟨i,e,_⟩:=xc0k hH (d:=d) hn hs; rw [e] at h; exact absurd rfl h
theorem ch_sub {H:Hs} {d i:Nat} {L:Prs}:∀ x∈ch H d i L,x∈L:=fun x hx=>((ch_mem x).1 hx).1
def nodP (H:Hs):Nat→Prs→List Nat
 | 0,L=>H.hb L
 | f + 1,L=>if sgl H L then H.hb L else H.hr (bm H (63 - f) L) ((prs H (63 - f) L).map fun i=>nodP H f (ch H (63 - f) i L))
theorem xb7i {H:Hs} {f:Nat} {L:Prs} (h:sgl H L = true):nodP H f L = H.hb L:=by
 cases f with
 | zero=>rfl
 | succ f=>unfold nodP; rw [if_pos h]
theorem nod_br {H:Hs} {f:Nat} {L:Prs} (h:sgl H L = false):nodP H (f + 1) L = H.hr (bm H (63 - f) L) ((prs H (63 - f) L).map fun i=>nodP H f (ch H (63 - f) i L)):=by
 conv=>lhs; unfold nodP
 rw [if_neg (by rw [h]; decide)]
theorem cut_at {g:List Nat × List Nat→Nat} {n:Nat}:∀ {L:Prs},L.Pairwise (fun x y=>g x≤g y)→L.filter (fun y=>decide (g y < n))++L.filter (fun y=>decide (g y = n)) = L.filter (fun y=>decide (g y < n + 1))
 | [],_=>rfl
 | y :: L,h=>by
  have ih:=cut_at (n:=n) (List.pairwise_cons.1 h).2
  have hh:=(List.pairwise_cons.1 h).1
  simp only [List.filter_cons]
  by_cases g1:g y < n
  ·rw [if_pos (by simpa using g1),if_neg (by simp; omega),if_pos (by simp; omega),List.cons_append,ih]
  ·rw [if_neg (by simpa using g1)]
   have hz:L.filter (fun y=>decide (g y < n)) = []:=by
    rw [List.filter_eq_nil_iff]; intro x hx; have:=hh x hx; simp; omega
   rw [hz] at ih ⊢
   by_cases g2:g y = n
   ·rw [if_pos (by simpa using g2),if_pos (by simp; omega),List.nil_append]
    rw [List.nil_append] at ih; rw [ih]
   ·rw [if_neg (by simpa using g2),if_neg (by simp; omega)]; exact ih
theorem xb6s {g:List Nat × List Nat→Nat} {L:Prs} (h:L.Pairwise (fun x y=>g x≤g y)):∀ n,((List.range n).map fun i=>L.filter (fun y=>decide (g y = i))).flatten = L.filter (fun y=>decide (g y < n))
 | 0=>by simp
 | n + 1=>by rw [List.range_succ,List.map_append,List.flatten_append,xb6s h n]; simp only [List.map_cons,List.map_nil,List.flatten_cons,List.flatten_nil,List.append_nil]; exact cut_at h
theorem xa9l {f:Nat→Prs} {p:Nat→Bool}:∀ {l:List Nat},(∀ i∈l,p i = false→f i = [])→((l.filter p).map f).flatten = (l.map f).flatten
 | [],_=>rfl
 | i :: l,h=>by
  rw [List.filter_cons]
  have ih:=xa9l (f:=f) (p:=p) (l:=l) (fun j hj=>h j (by simp [hj]))
  cases hp:p i with
  | true=>simp only [if_true,List.map_cons,List.flatten_cons,ih]
  | false=>rw [if_neg (by decide),ih]; simp [h i (by simp) hp]
theorem dig_le {H:Hs} (hH:H.Ok) {d:Nat} (hd:d < 64) {a b:List Nat} (hp:∀ j,j < d→dgt (H.kd a) j = dgt (H.kd b) j) (h:kc H a b < 0):dgt (H.kd a) d≤dgt (H.kd b) d:=by
 rcases Nat.lt_or_ge (dgt (H.kd b) d) (dgt (H.kd a) d) with g | g
 ·have h1:=xb6z (hH.dg a) (hH.dg b) hd hp (by omega)
  rw [if_neg (by omega)] at h1
  have:=kc_le h; omega
 ·exact g
theorem xc0o {H:Hs} (hH:H.Ok) {d:Nat} (hd:d < 64) {L:Prs} (h:Srt H L) (hp:Pre H d L):L.Pairwise (fun x y=>dgt (H.kd x.1) d≤dgt (H.kd y.1) d):=by
 unfold Srt at h
 refine List.Pairwise.imp_of_mem (fun {x y} hx hy hlt=>?_) h
 exact dig_le hH hd (fun j hj=>hp x hx y hy j hj) hlt
theorem xc2a {H:Hs} (hH:H.Ok) {d:Nat} (hd:d < 64) {L:Prs} (h:Srt H L) (hp:Pre H d L):((prs H d L).map fun i=>ch H d i L).flatten = L:=by
 rw [prs_eq,xa9l (fun i _ hi=>by simpa using hi)]
 unfold ch
 rw [xb6s (xc0o hH hd h hp) 16,List.filter_eq_self]
 intro y _; simpa using dgk hH y.1 d
theorem xb8f {H:Hs} (hH:H.Ok) {x:List Nat × List Nat} {L:Prs} (h:Srt H (x :: L)) (he:H.kd x.1 = H.kd ((x :: L).getLast (by simp)).1):sgl H (x :: L) = true:=by
 have key:∀ y∈x :: L,H.kd y.1 = H.kd x.1:=by
  intro y hy
  rcases List.mem_cons.1 hy with rfl | hm
  ·rfl
  ·have h1:=kc_le (h.head y hm)
   have hl:y = (x :: L).getLast (by simp)∨kc H y.1 ((x :: L).getLast (by simp)).1 < 0:=by
    have hx:L≠[]:=by intro e; rw [e] at hm; simp at hm
    rw [List.getLast_cons hx]
    have ht:=h.tail
    rw [← List.dropLast_concat_getLast hx] at hm ht
    rcases List.mem_append.1 hm with g | g
    ·right
     unfold Srt at ht
     rw [List.pairwise_append] at ht
     exact ht.2.2 y g _ (by simp)
    ·left; simpa using g
   rcases hl with e | hlt
   ·rw [e]; exact he.symm
   ·have h2:=kc_le hlt
    rw [← he] at h2
    have h3:=xa3a (H.kd y.1) (H.kd x.1)
    exact xa1o (by omega)
 exact xa1e.2 (fun a ha b hb=>by rw [key a ha,key b hb])
def setR (b i:Nat):List Nat:=(List.range' (i + 1) (15 - i)).filter (fun j=>b.testBit j)
theorem xa2o (b:Nat) {i:Nat} (hi:i < 16):setB b 16 = setB b i++((if b.testBit i = true then [i] else [])++setR b i):=by
 rw [xa1i,xa1i,List.range_eq_range',List.range_eq_range',show (16:Nat) = i + (1 + (15 - i)) by omega,← List.range'_append,List.filter_append,← List.range'_append,List.filter_append]
 congr 1
 rw [show (0:Nat) + 1 * i = i by omega,show i + 1 * 1 = i + 1 by omega]
 congr 1
 cases h:b.testBit i <;> simp [List.range',h]
theorem xc1t {b i j:Nat} (h:j∈setB b i):j < i:=((xa5q b i j).1 h).1
theorem xc1u {b i j:Nat} (h:j∈setR b i):i < j:=by
 unfold setR at h; have:=(List.mem_range'.1 (List.mem_filter.1 h).1); obtain ⟨q,_,rfl⟩:=this; omega
theorem cnt_up (b i:Nat):cnt b (i + 1) = cnt b i + (if b.testBit i = true then [i] else []).length:=by
 rw [xa2w]; cases b.testBit i <;> rfl
theorem xb8g (b:Nat) {i:Nat} (hi:i < 16):(setB b 16).take (cnt b i) = setB b i:=by
 rw [xa2o b hi]; exact List.take_left
theorem xc0b (b:Nat) {i:Nat} (hi:i < 16):(setB b 16).drop (cnt b (i + 1)) = setR b i:=by
 rw [xa2o b hi,← List.append_assoc]
 rw [show cnt b (i + 1) = (setB b i++(if b.testBit i = true then [i] else [])).length by rw [List.length_append,cnt_up]; rfl]
 exact List.drop_left
theorem xc1i (b:Nat) {i:Nat} (hi:i < 16):cnt b i≤cnt b 16∧cnt b (i + 1)≤cnt b 16∧cnt b i≤cnt b (i + 1):=by
 have h:cnt b 16 = cnt b i + ((if b.testBit i = true then [i] else []).length + (setR b i).length):=by
  show (setB b 16).length = _
  rw [xa2o b hi,List.length_append,List.length_append]; rfl
 have hu:=cnt_up b i
 omega
theorem set_at (b:Nat) {i:Nat} (hi:i < 16) (h:b.testBit i = true):(setB b 16)[cnt b i]? = some i∧cnt b i < cnt b 16:=by
 have e:setB b 16 = setB b i++(i :: setR b i):=by rw [xa2o b hi,if_pos h]; rfl
 constructor
 ·rw [e,show cnt b i = (setB b i).length from rfl,List.getElem?_append_right (Nat.le_refl _),Nat.sub_self]; rfl
 ·show (setB b i).length < (setB b 16).length
  rw [e]; simp
theorem xb3p {b c:Nat}:∀ k,(∀ j,j < k→b.testBit j = c.testBit j)→setB b k = setB c k:=fun k h=>by
 rw [xa1i,xa1i]; exact List.filter_congr (fun j hj=>h j (by simpa using hj))
theorem xb2w {b c i:Nat} (h:∀ j,i < j→j < 16→b.testBit j = c.testBit j):setR b i = setR c i:=by
 unfold setR
 exact List.filter_congr (fun j hj=>by obtain ⟨q,hq,rfl⟩:=List.mem_range'.1 hj; exact h _ (by omega) (by omega))
theorem xc2m {H:Hs} {d i:Nat} {L L':Prs} (hi:i < 16) (h:∀ j,j < 16→j≠i→ch H d j L' = ch H d j L) :
  bm H d L' = if (ch H d i L').isEmpty then outB (bm H d L) (i:Int) else withB (bm H d L) (i:Int):=by
 symm
 apply bm_ext
 ·split
  ·exact xb7k _ _ (bm_lt _ _ _)
  ·exact xa3o _ _ (bm_lt _ _ _)
 ·intro j hj
  by_cases e:i = j
  ·subst e
   cases hc:(ch H d i L').isEmpty
   ·rw [if_neg (by decide),xa2r _ _ _ (by omega)]; simp
   ·rw [if_pos rfl,xb3d _ _ _ (by omega)]; simp
  ·rw [h j hj (fun g=>e g.symm)]
   cases hc:(ch H d i L').isEmpty
   ·rw [if_neg (by decide),xa2r _ _ _ (by omega),bm_bit hj]; simp [e]
   ·rw [if_pos rfl,xb3d _ _ _ (by omega),bm_bit hj]; simp [e]
def kidsL (H:Hs) (d:Nat) (L:Prs):List Prs:=(prs H d L).map fun j=>ch H d j L
theorem xa1q (H:Hs) (d:Nat) (L:Prs):(kidsL H d L).length = cnt (bm H d L) 16:=by unfold kidsL; rw [List.length_map]; rfl
theorem xb5d {H:Hs} {d i:Nat} {L L':Prs} (hi:i < 16) (h:∀ j,j < 16→j≠i→ch H d j L' = ch H d j L) :
  kidsL H d L' = (kidsL H d L).take (cnt (bm H d L) i)++((if (ch H d i L').isEmpty then [] else [ch H d i L'])++(kidsL H d L).drop (cnt (bm H d L) (i + 1))):=by
 have hb:∀ j,j < 16→j≠i→(bm H d L').testBit j = (bm H d L).testBit j:=fun j hj hn=>by rw [bm_bit hj,bm_bit hj,h j hj hn]
 unfold kidsL
 rw [← List.map_take,← List.map_drop]
 unfold prs
 rw [xb8g _ hi,xc0b _ hi,xa2o (bm H d L') hi,List.map_append,List.map_append]
 rw [xb3p i (fun j hj=>hb j (by omega) (by omega)),xb2w (fun j h1 h2=>hb j h2 (by omega)),bm_bit hi]
 congr 1
 ·exact List.map_congr_left (fun j hj=>by have:=xc1t hj; exact h j (by omega) (by omega))
 congr 1
 ·cases (ch H d i L').isEmpty <;> rfl
 ·exact List.map_congr_left (fun j hj=>by
   have h1:=xc1u hj
   have h2:j < 16:=by unfold setR at hj; obtain ⟨q,hq,rfl⟩:=List.mem_range'.1 (List.mem_filter.1 hj).1; omega
   exact h j h2 (by omega))
theorem kid_at {H:Hs} {d i:Nat} {L:Prs} (hi:i < 16) (h:(bm H d L).testBit i = true):(kidsL H d L)[cnt (bm H d L) i]? = some (ch H d i L):=by
 unfold kidsL prs
 rw [List.getElem?_map,(set_at _ hi h).1]; rfl
def On (H:Hs) (d:Nat) (k:List Nat) (L:Prs):Prop:=∀ x∈L,∀ j,j < d→dgt (H.kd x.1) j = dgt (H.kd k) j
theorem On.zero (H:Hs) (k:List Nat) (L:Prs):On H 0 k L:=fun _ _ j h=>by omega
theorem On.pre {H:Hs} {d:Nat} {k:List Nat} {L:Prs} (h:On H d k L):Pre H d L:=fun x hx y hy j hj=>by rw [h x hx j hj,h y hy j hj]
theorem On.ch {H:Hs} {d:Nat} {k:List Nat} {L:Prs} (h:On H d k L):On H (d + 1) k (ch H d (dgt (H.kd k) d) L):=fun x hx j hj=>by
 obtain ⟨h1,h2⟩:=(ch_mem x).1 hx
 rcases Nat.lt_or_ge j d with g | g
 ·exact h x h1 j g
 ·rw [show j = d by omega,h2]
theorem ins_ne {H:Hs} {k v:List Nat}:∀ {L:Prs},insP H k v L≠[]
 | []=>by simp [insP]
 | y :: L=>by rw [xa2g]; split <;> (try split) <;> simp
theorem get_ch {H:Hs} {d:Nat} {k:List Nat}:∀ (L:Prs),getP k (ch H d (dgt (H.kd k) d) L) = getP k L
 | []=>rfl
 | y :: L=>by
  have ih:=get_ch (H:=H) (d:=d) (k:=k) L
  unfold ch at ih ⊢
  rw [List.filter_cons]
  by_cases g:y.1 = k
  ·rw [if_pos (by simp [g])]; simp [getP,g]
  ·split
   ·simp only [getP,if_neg g]; exact ih
   ·simp only [getP,if_neg g]; exact ih
theorem xb4c {H:Hs} {d:Nat} {k v:List Nat} {L:Prs} (hs:Srt H L):∀ j,j < 16→j≠dgt (H.kd k) d→ch H d j (insP H k v L) = ch H d j L:=fun j _ hn=>by
 rw [ch_ins d j k v hs,if_neg (fun e=>hn e.symm)]
theorem put_in {H:Hs} {d:Nat} {k v:List Nat} {L:Prs} (hs:Srt H L):ch H d (dgt (H.kd k) d) (insP H k v L) = insP H k v (ch H d (dgt (H.kd k) d) L):=by
 rw [ch_ins d _ k v hs,if_pos rfl]
theorem xc0d {H:Hs} {d:Nat} {k:List Nat} {L:Prs}:∀ j,j < 16→j≠dgt (H.kd k) d→ch H d j (delP k L) = ch H d j L:=fun j _ hn=>xb2c L (fun e=>hn e.symm)
theorem del_ne {H:Hs} {k:List Nat} {L:Prs} (h:sgl H L = false):delP k L≠[]:=by
 obtain ⟨x,hx,y,hy,hn⟩:=sgl_no h
 intro e
 have h1:∀ z∈L,z.1 = k:=fun z hz=>Classical.byContradiction (fun g=>by have:=(xa5h (k:=k) z).2 ⟨hz,g⟩; rw [e] at this; simp at this)
 exact hn (by rw [h1 x hx,h1 y hy])
def plc (k:List Nat):Prs→Nat
 | []=>0
 | y :: L=>if ordL y.1 k < 0 then plc k L + 1 else 0
def fnd (k:List Nat) (L:Prs):Bool:=decide ((getP k L).isSome)
theorem plc_le (k:List Nat):∀ L:Prs,plc k L≤L.length
 | []=>Nat.le_refl _
 | y :: L=>by unfold plc; have:=plc_le k L; split <;> simp <;> omega
theorem plc_lt (k:List Nat):∀ (L:Prs) (i:Nat),i < plc k L→ordL (L.getD i ([],[])).1 k < 0
 | [],i,h=>by simp [plc] at h
 | y :: L,i,h=>by
  unfold plc at h
  split at h
  ·rename_i g
   cases i with
   | zero=>exact g
   | succ i=>rw [List.getD_cons_succ]; exact plc_lt k L i (by omega)
  ·omega
def Rise (L:Prs):Prop:=L.Pairwise (fun x y=>ordL x.1 y.1 < 0)
theorem xa5o {H:Hs} {L:Prs} (h:Srt H L) (hs:sgl H L = true):Rise L:=by
 unfold Srt at h
 refine List.Pairwise.imp_of_mem (fun {x y} hx hy hlt=>?_) h
 rwa [xb7p (xa1e.1 hs x hx y hy)] at hlt
theorem plc_ge {k:List Nat}:∀ {L:Prs},Rise L→∀ i,plc k L≤i→i < L.length→0≤ordL (L.getD i ([],[])).1 k
 | [],_,i,_,h=>by simp at h
 | y :: L,hr,i,h,hl=>by
  have hh:=(List.pairwise_cons.1 hr).1
  have ht:Rise L:=(List.pairwise_cons.1 hr).2
  unfold plc at h
  by_cases g:ordL y.1 k < 0
  ·rw [if_pos g] at h
   cases i with
   | zero=>omega
   | succ i=>rw [List.getD_cons_succ]; exact plc_ge ht i (by omega) (by simpa using hl)
  ·cases i with
   | zero=>rw [List.getD_cons_zero]; omega
   | succ i =>
    rw [List.getD_cons_succ]
    have hi:i < L.length:=by simpa using hl
    have h1:=hh _ (List.getElem_mem hi)
    rw [List.getD_eq_getElem?_getD,List.getElem?_eq_getElem hi,Option.getD_some]
    rcases Int.lt_or_le (ordL L[i].1 k) 0 with q | q
    ·have:=xa5p h1 q; omega
    ·exact q
theorem fnd_at {k:List Nat}:∀ {L:Prs},Rise L→(fnd k L = true↔plc k L < L.length∧(L.getD (plc k L) ([],[])).1 = k)
 | [],_=>by simp [fnd,getP,plc]
 | y :: L,hr=>by
  have hh:=(List.pairwise_cons.1 hr).1
  have ih:=fnd_at (k:=k) (L:=L) (List.pairwise_cons.1 hr).2
  unfold fnd at ih ⊢
  by_cases e:y.1 = k
  ·have h0:¬ ordL y.1 k < 0:=by rw [e,xa0t]; omega
   simp [getP,plc,e,xa0t]
  ·unfold getP plc
   rw [if_neg e]
   by_cases g:ordL y.1 k < 0
   ·rw [if_pos g,ih]; simp
   ·rw [if_neg g]
    simp only [List.getD_cons_zero,List.length_cons,Nat.zero_lt_succ,true_and]
    constructor
    ·intro h
     exfalso
     simp only [decide_eq_true_eq] at h
     cases hg:getP k L with
     | none=>rw [hg] at h; cases h
     | some v =>
      have hm:∃ z∈L,z.1 = k:=Classical.byContradiction (fun hn=>by
       rw [xa2a.2 (fun z hz e2=>hn ⟨z,hz,e2⟩)] at hg; cases hg)
      obtain ⟨z,hz,ez⟩:=hm
      have:=hh z hz
      rw [ez] at this
      exact g this
    ·intro h; exact absurd h e
theorem xb6p {H:Hs} {k v:List Nat}:∀ {L:Prs},Rise L→(∀ y∈L,H.kd y.1 = H.kd k)→insP H k v L = L.take (plc k L)++(k,v) :: L.drop (plc k L + if fnd k L = true then 1 else 0)
 | [],_,_=>rfl
 | y :: L,hr,he=>by
  have hh:=(List.pairwise_cons.1 hr).1
  have ht:Rise L:=(List.pairwise_cons.1 hr).2
  have hy:=he y (by simp)
  have ih:=xb6p (v:=v) ht (fun z hz=>he z (by simp [hz]))
  have hf:=fnd_at (k:=k) hr
  rw [xa2g,xb7p hy.symm]
  have ha:=xa3a k y.1
  by_cases g:ordL y.1 k < 0
  ·rw [if_neg (by omega),if_neg (by omega)]
   have hne:¬ y.1 = k:=fun e=>by rw [e,xa0t] at g; omega
   have h1:fnd k (y :: L) = fnd k L:=by unfold fnd; rw [xa4n,if_neg hne]
   have h2:plc k (y :: L) = plc k L + 1:=by (conv=>lhs; unfold plc); rw [if_pos g]
   rw [h1,h2,ih]
   rw [List.take_succ_cons,show plc k L + 1 + (if fnd k L = true then 1 else 0) = (plc k L + if fnd k L = true then 1 else 0) + 1 by omega,List.drop_succ_cons]; rfl
  ·have h2:plc k (y :: L) = 0:=by unfold plc; rw [if_neg g]
   rw [h2] at hf ⊢
   by_cases e:y.1 = k
   ·rw [if_neg (by rw [e,xa0t]; omega),if_pos (by rw [e,xa0t])]
    rw [if_pos (hf.2 ⟨by simp,e⟩)]; rfl
   ·have hz:ordL k y.1≠0:=fun q=>e (xa1o q).symm
    rw [if_pos (by omega)]
    have h3:fnd k (y :: L) = false:=by
     cases hq:fnd k (y :: L) with
     | false=>rfl
     | true=>exact absurd (hf.1 hq).2 e
    rw [h3]; rfl
theorem xb6e {k:List Nat}:∀ {L:Prs},Rise L→fnd k L = true→delP k L = L.take (plc k L)++L.drop (plc k L + 1)
 | [],_,h=>by simp [fnd,getP] at h
 | y :: L,hr,h=>by
  have hh:=(List.pairwise_cons.1 hr).1
  have ht:Rise L:=(List.pairwise_cons.1 hr).2
  obtain ⟨h1,h2⟩:=(fnd_at hr).1 h
  by_cases g:ordL y.1 k < 0
  ·have hne:¬ y.1 = k:=fun e=>by rw [e,xa0t] at g; omega
   have h3:fnd k (y :: L) = fnd k L:=by unfold fnd; rw [xa4n,if_neg hne]
   have h4:plc k (y :: L) = plc k L + 1:=by (conv=>lhs; unfold plc); rw [if_pos g]
   rw [h3] at h
   have ih:=xb6e ht h
   rw [h4]
   have:delP k (y :: L) = y :: delP k L:=by unfold delP; rw [List.filter_cons]; simp [hne]
   rw [this,ih]; rfl
  ·have h4:plc k (y :: L) = 0:=by unfold plc; rw [if_neg g]
   rw [h4] at h2 ⊢
   have e:y.1 = k:=h2
   have:delP k (y :: L) = delP k L:=by unfold delP; rw [List.filter_cons]; simp [e]
   rw [this,xa9c (fun z hz e2=>by have:=hh z hz; rw [e,e2,xa0t] at this; omega)]; rfl
theorem xb7w {k:List Nat} {L:Prs} (h:fnd k L = true):(delP k L).length < L.length:=by
 unfold fnd at h
 have:∃ z∈L,z.1 = k:=Classical.byContradiction (fun hn=>by
  rw [xa2a.2 (fun z hz e2=>hn ⟨z,hz,e2⟩)] at h; simp at h)
 obtain ⟨z,hz,e⟩:=this
 unfold delP
 have hle:=List.length_filter_le (fun y:List Nat × List Nat=>decide (y.1≠k)) L
 refine Nat.lt_of_le_of_ne hle (fun g=>?_)
 have:=List.length_filter_eq_length_iff.1 g z hz
 simp [e] at this
structure Fork (H:Hs) (part:Nat) (k v:List Nat) (A:Prs) (DA:List Nat):Prop where
 srt:Srt H A
 ne:A≠[]
 all:∀ y∈A,H.kd y.1 = DA
 dga:Dg DA
 pre:∀ j,j < part→dgt DA j = dgt (H.kd k) j
 pne:dgt DA part≠dgt (H.kd k) part
 deep:part < 2 * H.wd
theorem Fork.kd {H:Hs} {part:Nat} {k v:List Nat} {A:Prs} {DA:List Nat} (h:Fork H part k v A DA):DA≠H.kd k:=fun e=>h.pne (by rw [e])
theorem Fork.two {H:Hs} {part:Nat} {k v:List Nat} {A:Prs} {DA:List Nat} (h:Fork H part k v A DA):sgl H (insP H k v A) = false:=by
 cases hs:sgl H (insP H k v A) with
 | false=>rfl
 | true =>
  exfalso
  obtain ⟨y,hy⟩:∃ y,y∈A:=by cases hA:A with
   | nil=>exact absurd hA h.ne
   | cons y _=>exact ⟨y,by simp⟩
  have h1:y∈insP H k v A:=(xa2l h.srt y).2 (Or.inr ⟨hy,fun e=>h.kd (by rw [← e]; exact (h.all y hy).symm)⟩)
  have h2:(k,v)∈insP H k v A:=(xa2l h.srt _).2 (Or.inl rfl)
  have:=xa1e.1 hs y h1 (k,v) h2
  exact h.kd (by rw [← h.all y hy]; exact this)
theorem Fork.dig {H:Hs} {part:Nat} {k v:List Nat} {A:Prs} {DA:List Nat} (h:Fork H part k v A DA) {e:Nat} (he:e < part):∀ y∈insP H k v A,dgt (H.kd y.1) e = dgt DA e:=fun y hy=>by
 rcases (xa2l h.srt y).1 hy with rfl | ⟨hm,_⟩
 ·exact (h.pre e he).symm
 ·rw [h.all y hm]
theorem Fork.on {H:Hs} {part:Nat} {k v:List Nat} {A:Prs} {DA:List Nat} (h:Fork H part k v A DA) {e:Nat} (he:e≤part):Pre H e (insP H k v A):=fun x hx y hy j hj=>by
 rw [h.dig (by omega) x hx,h.dig (by omega) y hy]
theorem Fork.chs {H:Hs} {part:Nat} {k v:List Nat} {A:Prs} {DA:List Nat} (h:Fork H part k v A DA) (j:Nat):ch H part j (insP H k v A) = if j = dgt DA part then A else if j = dgt (H.kd k) part then [(k,v)] else []:=by
 rw [ch_ins part j k v h.srt]
 have hp:=h.pne
 by_cases g1:j = dgt DA part
 ·rw [if_pos g1,if_neg (by omega)]
  exact ch_all (fun y hy=>by rw [h.all y hy,g1])
 ·have hn:ch H part j A = []:=xb2j (fun y hy e=>g1 (by rw [← e,h.all y hy]))
  rw [if_neg g1,hn]
  by_cases g2:j = dgt (H.kd k) part
  ·rw [if_pos g2.symm,if_pos g2]; rfl
  ·rw [if_neg (fun e=>g2 e.symm),if_neg g2]
theorem two_of:∀ x,x < 16→∀ y,y < 16→x < y→(List.range 16).filter (fun j=>decide (j = x) || decide (j = y)) = [x,y]:=by decide
theorem Fork.kids {H:Hs} (hH:H.Ok) {part:Nat} {k v:List Nat} {A:Prs} {DA:List Nat} (h:Fork H part k v A DA) :
  kidsL H part (insP H k v A) = if dgt DA part < dgt (H.kd k) part then [A,[(k,v)]] else [[(k,v)],A]:=by
 have hx:dgt DA part < 16:=dgt_lt h.dga.2 _
 have hy:=dgk hH k part
 have hp:=h.pne
 have hne:=h.ne
 have e:prs H part (insP H k v A) = (List.range 16).filter (fun j=>decide (j = dgt DA part) || decide (j = dgt (H.kd k) part)):=by
  rw [prs_eq]
  refine List.filter_congr (fun j _=>?_)
  rw [h.chs]
  by_cases g1:j = dgt DA part
  ·rw [if_pos g1,decide_eq_true g1]; cases A <;> simp at hne ⊢
  ·rw [if_neg g1,decide_eq_false g1]
   by_cases g2:j = dgt (H.kd k) part
   ·rw [if_pos g2,decide_eq_true g2]; rfl
   ·rw [if_neg g2,decide_eq_false g2]; rfl
 unfold kidsL
 rw [e]
 by_cases g:dgt DA part < dgt (H.kd k) part
 ·rw [two_of _ hx _ hy g,if_pos g]
  simp only [List.map_cons,List.map_nil]
  rw [h.chs,h.chs,if_pos rfl,if_neg (by omega),if_pos rfl]
 ·have:(List.range 16).filter (fun j=>decide (j = dgt DA part) || decide (j = dgt (H.kd k) part)) = [dgt (H.kd k) part,dgt DA part]:=by
   rw [← two_of _ hy _ hx (by omega)]
   exact List.filter_congr (fun j _=>Bool.or_comm _ _)
  rw [this,if_neg g]
  simp only [List.map_cons,List.map_nil]
  rw [h.chs,h.chs,if_pos rfl,if_neg (by omega),if_pos rfl]
theorem Fork.bms {H:Hs} (hH:H.Ok) {part:Nat} {k v:List Nat} {A:Prs} {DA:List Nat} (h:Fork H part k v A DA) (x y:Nat) (hxy:(x = dgt DA part∧y = dgt (H.kd k) part)∨(y = dgt DA part∧x = dgt (H.kd k) part)) :
  withB (withB 0 (x:Int)) (y:Int) = bm H part (insP H k v A):=by
 have h1:dgt DA part < 16:=dgt_lt h.dga.2 _
 have h2:=dgk hH k part
 have hne:=h.ne
 apply bm_ext (xa3o _ _ (xa3o _ _ (by decide)))
 intro j hj
 rw [xa2r _ _ _ (by omega),xa2r _ _ _ (by omega),h.chs]
 by_cases g1:j = dgt DA part
 ·rw [if_pos g1]
  rcases hxy with ⟨rfl,rfl⟩ | ⟨rfl,rfl⟩ <;> (cases A <;> simp [g1] at hne ⊢)
 ·rw [if_neg g1]
  by_cases g2:j = dgt (H.kd k) part
  ·rw [if_pos g2]; rcases hxy with ⟨rfl,rfl⟩ | ⟨rfl,rfl⟩ <;> simp [g2]
  ·rw [if_neg g2]; rcases hxy with ⟨rfl,rfl⟩ | ⟨rfl,rfl⟩ <;> simp [Ne.symm g1,Ne.symm g2]
theorem xc2b (x:Nat) (hx:x < 16):(withB 0 (x:Int)).testBit x = true∧∀ j,j < 16→(withB 0 (x:Int)).testBit j = decide (x = j):=by
 constructor
 ·rw [xa2r _ _ _ (by omega)]; simp
 ·intro j _; rw [xa2r _ _ _ (by omega)]; simp
theorem one_bm {H:Hs} {d x:Nat} {L:Prs} (hx:x < 16) (hn:L≠[]) (h:∀ y∈L,dgt (H.kd y.1) d = x):withB 0 (x:Int) = bm H d L:=by
 apply bm_ext (xa3o _ _ (by decide))
 intro j hj
 rw [(xc2b x hx).2 j hj]
 by_cases g:x = j
 ·subst g; rw [ch_all h]; cases L <;> simp at hn ⊢
 ·rw [xb2j (fun y hy e=>g (by rw [← e]; exact (h y hy).symm)),decide_eq_false g]; rfl
theorem xb8s {H:Hs} (hH:H.Ok) {d x:Nat} {L:Prs} (hn:L≠[]) (h:∀ y∈L,dgt (H.kd y.1) d = x):kidsL H d L = [L]:=by
 unfold kidsL; rw [xb6f hH h hn]; simp [ch_all h]
section
open Go.RowKit Go.BigFrame
theorem xb5f {x:Nat} (hx:x < 65536):ones x = cnt x 16:=by
 have h:∀ y,y < 256→ones y = cnt y 8:=fun y hy=>by
  have h1:Lib.pop8 (y:Int) = (ones y:Int):=Lib.pop8_eq ⟨y,hy⟩
  rw [xb2k hy] at h1; omega
 rw [xa3z x hx,xa9g,h _ (by omega),h _ (by omega)]
def hsZ (k:Nat):Hs:=⟨k,fun p=>sumD (k:Int) (2 :: p),fun ps=>sumD (k:Int) (buckB ps),fun x ds=>sumD (k:Int) (branchB (k:Int) x ds)⟩
theorem wide_k {k:Nat} (hk:1≤k∧k≤32):widthB (k:Int) = true:=by unfold widthB; rw [decide_eq_true (by omega)]
theorem hsZ_ok {k:Nat} (hk:1≤k∧k≤32):(hsZ k).Ok:=⟨hk.1,hk.2,fun _=>xa2v _ _,fun p j hj=>by
 show dgt (sumD (k:Int) (2 :: p)) j = 0
 have hj':2 * k≤j:=hj
 rw [xa4q hk]
 have h0:(cutL k (hash (2 :: p))).getD (j / 2) 0 = 0:=by
  unfold cutL
  rw [List.getD_eq_getElem?_getD,List.getElem?_append_right (by simp; omega),List.getElem?_replicate]
  split <;> rfl
 unfold dgt
 rw [h0]; simp⟩
theorem xa9j {k:Nat} (hk:1≤k∧k≤32) (q:List Nat):formB (k:Int) ((hsZ k).kd q) = true:=xa3w (wide_k hk) _
theorem xb8x {k:Nat} (hk:1≤k∧k≤32) (f:Nat) (L:Prs):formB (k:Int) (nodP (hsZ k) f L) = true:=by
 cases f with
 | zero=>exact xa3w (wide_k hk) _
 | succ f=>unfold nodP; split <;> exact xa3w (wide_k hk) _
theorem nod_dg (k f:Nat) (L:Prs):Dg (nodP (hsZ k) f L):=by
 cases f with
 | zero=>exact xa2v _ _
 | succ f=>unfold nodP; split <;> exact xa2v _ _
theorem xb2o {k:Nat} (hk:1≤k∧k≤32) {ds:List (List Nat)} (h:∀ d∈ds,formB (k:Int) d = true):formedE (k:Int) ds = 0:=by
 unfold formedE
 rw [if_neg (by simp [wide_k hk]),if_pos (List.all_eq_true.2 h)]
theorem xc1d {k:Nat} (hk:1≤k∧k≤32) {x:Nat} (hx:x < 65536) {ds:List (List Nat)} (h:∀ d∈ds,formB (k:Int) d = true) (hc:cnt x 16 = ds.length) (hn:ds≠[]):branchE (k:Int) x ds = 0:=by
 unfold branchE
 rw [if_pos (xb2o hk h),xb5f hx,hc,if_neg]
 rintro (h1 | h1)
 ·subst h1
  have h2:cnt 0 16 = 0:=by decide
  rw [h2] at hc
  cases ds with
  | nil=>exact hn rfl
  | cons d ds=>simp at hc
 ·exact h1 rfl
def Agr (S:Nat→Prop) (W W':World):Prop:=W.heap.size≤W'.heap.size∧∀ x,S x→x < W.heap.size→W'.heap[x]? = W.heap[x]?
theorem Agr.refl (S:Nat→Prop) (W:World):Agr S W W:=⟨Nat.le_refl _,fun _ _ _=>rfl⟩
theorem Agr.trans {S:Nat→Prop} {a b c:World} (h:Agr S a b) (k:Agr S b c):Agr S a c :=
 ⟨Nat.le_trans h.1 k.1,fun x hx hl=>(k.2 x hx (Nat.lt_of_lt_of_le hl h.1)).trans (h.2 x hx hl)⟩
theorem Agr.kept {S:Nat→Prop} {M:List Nat} {W W':World} (k:Kept M W W') (h:∀ x∈M,¬ S x):Agr S W W' :=
 ⟨k.size,fun x hx hl=>k.block x hl (fun hm=>h x hm hx)⟩
theorem Agr.nil {S:Nat→Prop} {W W':World} (k:Kept [] W W'):Agr S W W':=Agr.kept k (by simp)
theorem Agr.sub {S T:Nat→Prop} {W W':World} (h:Agr S W W') (hs:∀ x,T x→S x):Agr T W W':=⟨h.1,fun x hx hl=>h.2 x (hs x hx) hl⟩
theorem Agr.heap {S:Nat→Prop} {W W':World} (h:Agr S W W') {b:Nat} {o:Obj} (hb:W.heap[b]? = some o) (hs:S b):W'.heap[b]? = some o :=
 (h.2 b hs (lt_of_block hb)).trans hb
theorem Agr.cell {S:Nat→Prop} {W W':World} (h:Agr S W W') {a:Addr} {v:Value} (hc:W.cell? a = some v) (hs:S a.block):W'.cell? a = some v :=
 (World.cell?_of_block (h.2 a.block hs (block_lt_of_cell hc))).trans hc
def Sty (S:Nat→Prop) (W:World) (P:World→Prop):Prop:=∀ W',Agr S W W'→P W'
theorem Sty.now {S:Nat→Prop} {W:World} {P:World→Prop} (h:Sty S W P):P W:=h W (Agr.refl S W)
theorem Sty.agr {S:Nat→Prop} {W W':World} {P:World→Prop} (h:Sty S W P) (a:Agr S W W'):Sty S W' P:=fun w k=>h w (a.trans k)
theorem Sty.rd {S:Nat→Prop} {W:World} {v:Value} {bs:List Nat} (h:Rd W v bs) (hs:∀ x∈blk v,S x):Sty S W (fun w=>Rd w v bs):=fun w k=>by
 obtain ⟨ao,len,cap,rfl,h1,h2,h3,h4,h5,h6⟩:=h
 refine ⟨ao,len,cap,rfl,h1,h2,h3,h4,h5,fun hp=>?_⟩
 obtain ⟨b,off,rfl,hc⟩:=h6 hp
 exact ⟨b,off,rfl,fun i hi=>k.cell (hc i hi) (hs b (by simp [blk]))⟩
def SRow (S:Nat→Prop) (W:World) (v:Value) (vs:List Value):Prop :=
 ∃ b off cap,v = .slice (some ⟨b,off,none⟩) vs.length cap∧vs.length≤cap∧cap≤9223372036854775807∧S b∧∀ i,i < vs.length→W.cell? ⟨b,off + i,none⟩ = some (vs.getD i undef)
theorem SRow.agr {S:Nat→Prop} {W W':World} {v:Value} {vs:List Value} (h:SRow S W v vs) (a:Agr S W W'):SRow S W' v vs:=by
 obtain ⟨b,off,cap,h1,h2,h3,h4,h5⟩:=h
 exact ⟨b,off,cap,h1,h2,h3,h4,fun i hi=>a.cell (h5 i hi) h4⟩
def KRow (S:Nat→Prop) (W:World) (pv:Value) (L:Prs):Prop :=
 ∃ (b off cap:Nat) (l:List (Value × Value)),pv = .slice (some ⟨b,off,none⟩) l.length cap∧l.length≤cap∧cap≤9223372036854775807∧S b∧l.length = L.length ∧
  (∀ i,i < l.length→W.cell? ⟨b,off + i * 2,none⟩ = some (l.getD i (undef,undef)).1∧W.cell? ⟨b,off + i * 2 + 1,none⟩ = some (l.getD i (undef,undef)).2) ∧
  ∀ i,i < l.length→Sty S W (fun w=>Rd w (l.getD i (undef,undef)).1 (L.getD i ([],[])).1∧Rd w (l.getD i (undef,undef)).2 (L.getD i ([],[])).2)
theorem KRow.agr {S:Nat→Prop} {W W':World} {pv:Value} {L:Prs} (h:KRow S W pv L) (a:Agr S W W'):KRow S W' pv L:=by
 obtain ⟨b,off,cap,l,h1,h2,h3,h4,h5,h6,h7⟩:=h
 exact ⟨b,off,cap,l,h1,h2,h3,h4,h5,fun i hi=>⟨a.cell (h6 i hi).1 h4,a.cell (h6 i hi).2 h4⟩,fun i hi=>(h7 i hi).agr a⟩
theorem KRow.rdK {S:Nat→Prop} {W:World} {pv:Value} {L:Prs} (h:KRow S W pv L):RdK W pv L:=by
 obtain ⟨b,off,cap,l,h1,h2,h3,h4,h5,h6,h7⟩:=h
 have e1:∀ i,i < l.length→(l.map (·.1)).getD i undef = (l.getD i (undef,undef)).1∧(l.map (·.2)).getD i undef = (l.getD i (undef,undef)).2:=fun i hi=>by
  simp [List.getD_eq_getElem?_getD,List.getElem?_eq_getElem hi]
 refine ⟨_,l.length,cap,l.map (·.1),l.map (·.2),h1,h5.symm,h2,h3,fun i hi=>?_,fun _=>⟨b,off,rfl,fun i hi=>?_⟩⟩
 ·rw [(e1 i hi).1,(e1 i hi).2]; exact (h7 i hi).now
 ·rw [(e1 i hi).1,(e1 i hi).2]; exact h6 i hi
def bkC (D:List Nat) (pv:Value) (O:List Nat):List Value:=D.map u8++([pv]++(O.map u8++[]))
def brC (x:Nat) (kv:Value) (O:List Nat):List Value:=[.int .u16 (x:Int),kv]++(O.map u8++[])
def BkAt (S:Nat→Prop) (H:Hs) (W:World) (g:Nat) (L:Prs):Prop :=
 ∃ pv,S g∧W.heap[g]? = some (.cells (bkC (H.kd (L.headD ([],[])).1) pv (H.hb L)).toArray 93 (0,0))∧L≠[]∧KRow S W pv L
abbrev bkV (g:Nat):Value:=.iface 86 (.pointer (some ⟨g,0,none⟩))
abbrev brV (g:Nat):Value:=.iface 104 (.pointer (some ⟨g,0,none⟩))
theorem BkAt.agr {S:Nat→Prop} {H:Hs} {W W':World} {g:Nat} {L:Prs} (h:BkAt S H W g L) (a:Agr S W W'):BkAt S H W' g L:=by
 obtain ⟨pv,h1,h2,h3,h4⟩:=h
 exact ⟨pv,h1,a.heap h2 h1,h3,h4.agr a⟩
def TreeAt (S:Nat→Prop) (H:Hs) (W:World):Nat→Value→Prs→Prop
 | 0,v,L=>sgl H L = true∧∃ g,v = bkV g∧BkAt S H W g L
 | f + 1,v,L=>(sgl H L = true→∃ g,v = bkV g∧BkAt S H W g L)∧(sgl H L = false→∃ g kv vs,v = brV g∧S g∧W.heap[g]? = some (.cells (brC (bm H (63 - f) L) kv (nodP H (f + 1) L)).toArray 107 (0,0)) ∧
   SRow S W kv vs∧vs.length = (kidsL H (63 - f) L).length∧∀ i,i < vs.length→TreeAt S H W f (vs.getD i undef) ((kidsL H (63 - f) L).getD i []))
theorem TreeAt.agr {S:Nat→Prop} {H:Hs} {W W':World} (a:Agr S W W'):∀ {f:Nat} {v:Value} {L:Prs},TreeAt S H W f v L→TreeAt S H W' f v L
 | 0,v,L,h=>by
  obtain ⟨hs,g,h1,h2⟩:=h
  exact ⟨hs,g,h1,h2.agr a⟩
 | f + 1,v,L,h=>by
  refine ⟨fun hs=>?_,fun hs=>?_⟩
  ·obtain ⟨g,h1,h2⟩:=h.1 hs
   exact ⟨g,h1,h2.agr a⟩
  ·obtain ⟨g,kv,vs,h1,h2,h3,h4,h5,h6⟩:=h.2 hs
   exact ⟨g,kv,vs,h1,h2,a.heap h3 h2,h4.agr a,h5,fun i hi=>(h6 i hi).agr a⟩
theorem TreeAt.bk {S:Nat→Prop} {H:Hs} {W:World} {f:Nat} {v:Value} {L:Prs} (h:TreeAt S H W f v L) (hs:sgl H L = true):∃ g,v = bkV g∧BkAt S H W g L:=by
 cases f with
 | zero=>exact h.2
 | succ f=>exact h.1 hs
theorem TreeAt.ofBk {S:Nat→Prop} {H:Hs} {W:World} (f:Nat) {g:Nat} {L:Prs} (h:BkAt S H W g L) (hs:sgl H L = true):TreeAt S H W f (bkV g) L:=by
 cases f with
 | zero=>exact ⟨hs,g,rfl,h⟩
 | succ f=>exact ⟨fun _=>⟨g,rfl,h⟩,fun hn=>by rw [hs] at hn; cases hn⟩
theorem TreeAt.ne {S:Nat→Prop} {H:Hs} {W:World} {f:Nat} {v:Value} {L:Prs} (h:TreeAt S H W f v L):L≠[]:=by
 intro e
 subst e
 obtain ⟨g,_,pv,_,_,hn,_⟩:=h.bk (xb0d H)
 exact hn rfl
def TopAt (S:Nat→Prop) (H:Hs) (W:World) (v:Value) (L:Prs):Prop:=(L = []∧v = .nilIface)∨TreeAt S H W 64 v L
theorem TopAt.agr {S:Nat→Prop} {H:Hs} {W W':World} {v:Value} {L:Prs} (h:TopAt S H W v L) (a:Agr S W W'):TopAt S H W' v L:=by
 rcases h with h | h
 ·exact Or.inl h
 ·exact Or.inr (h.agr a)
def Fit (L:Prs):Prop:=∀ p∈L,p.1.length≤64∧p.2.length≤256
theorem Fit.sub {L M:Prs} (h:Fit L) (hs:∀ x∈M,x∈L):Fit M:=fun p hp=>h p (hs p hp)
structure MapAt (S:Nat→Prop) (k:Nat) (W:World) (v:Value) (L:Prs):Prop where
 ok:1≤k∧k≤32
 srt:Srt (hsZ k) L
 fit:Fit L
 len:L.length≤1000000000
 at_:∃ g tv,v = .pointer (some ⟨g,0,none⟩)∧S g∧W.heap[g]? = some (.cells #[.int .i64 k,.int .i64 (L.length:Nat),tv] 102 (0,0))∧TopAt S (hsZ k) W tv L
theorem MapAt.agr {S:Nat→Prop} {k:Nat} {W W':World} {v:Value} {L:Prs} (h:MapAt S k W v L) (a:Agr S W W'):MapAt S k W' v L:=by
 obtain ⟨h1,h2,h3,h4,g,tv,h5,h6,h7,h8⟩:=h
 exact ⟨h1,h2,h3,h4,g,tv,h5,h6,a.heap h7 h6,h8.agr a⟩
theorem xb9o {place:Nat→Option (Nat × Nat)} {A:Array Value} {i off:Nat} {vs:List Value} {rest:List (Nat × Value)} (hp:place i = some (off,vs.length)) (h:off + vs.length≤A.size) :
  Instr.fill place A ((i,.agg vs.toArray) :: rest) = Instr.fill place (A.toList.take off++(vs++A.toList.drop (off + vs.length))).toArray rest:=by
 conv=>lhs; unfold Instr.fill
 rw [hp]
 have h1:(Value.agg vs.toArray).cells = vs.toArray:=rfl
 simp only [h1,List.size_toArray]
 rw [if_neg (by simp; omega)]
 have h2:=xa6f vs A off 0 (by omega)
 rw [Nat.add_zero] at h2
 have h3:vs.toArray.zipIdx.foldl (fun cs x=>cs.setIfInBounds (off + x.2) x.1) A = (vs.zipIdx 0).foldl (fun cs x=>cs.setIfInBounds (off + x.2) x.1) A:=by simp
 rw [← h2,← h3]
theorem xa1d {place:Nat→Option (Nat × Nat)} {i n:Nat} {rest:List (Nat × Value)} (pre mid post vs:List Value) {X:Value} (hX:X.cells = vs.toArray) (hp:place i = some (pre.length,n)) (hn:vs.length = n) (hm:mid.length = n) :
  Instr.fill place (pre++(mid++post)).toArray ((i,X) :: rest) = Instr.fill place (pre++(vs++post)).toArray rest:=by
 have e:Instr.fill place (pre++(mid++post)).toArray ((i,X) :: rest) = Instr.fill place (pre++(mid++post)).toArray ((i,.agg vs.toArray) :: rest):=by
  have h1:(Value.agg vs.toArray).cells = vs.toArray:=rfl
  conv=>lhs; unfold Instr.fill
  conv=>rhs; unfold Instr.fill
  rw [hX,h1]
 subst hn
 rw [e,xb9o hp (by rw [List.size_toArray,List.length_append,List.length_append,hm]; omega)]
 rw [List.take_left,← List.append_assoc pre mid post,show pre.length + vs.length = (pre++mid).length by rw [List.length_append,hm],List.drop_left]
theorem zbk:(Tryz.prog.info? 93).map (fun i=>(i.zero,i.size)) = some (some (.agg (bkC (List.replicate 32 0) (.slice none 0 0) (List.replicate 32 0)).toArray),65):=by kernel_rfl
theorem zbr:(Tryz.prog.info? 107).map (fun i=>(i.zero,i.size)) = some (some (.agg (brC 0 (.slice none 0 0) (List.replicate 32 0)).toArray),34):=by kernel_rfl
theorem fbk:∀ fs,Tryz.prog.underlying 93 = some (.struct fs)→fs.toList.mapM (fun f=>(Tryz.prog.info? f.type).map fun i=>(f.offset,i.size)) = some [(0,32),(32,1),(33,32)]:=by
 intro fs hfs
 rw [Tryz.underlying93] at hfs
 injection hfs with hfs
 injection hfs with hfs
 subst hfs
 kernel_rfl
theorem fbr:∀ fs,Tryz.prog.underlying 107 = some (.struct fs)→fs.toList.mapM (fun f=>(Tryz.prog.info? f.type).map fun i=>(f.offset,i.size)) = some [(0,1),(1,1),(2,32)]:=by
 intro fs hfs
 rw [Tryz.underlying107] at hfs
 injection hfs with hfs
 injection hfs with hfs
 subst hfs
 kernel_rfl
theorem xb8i (D O:List Nat) (ao:Option Addr) (n c:Nat) (hD:D.length = 32) (hO:O.length = 32):Tryz.prog.built 93 [(0,.agg (brow D)),(1,.slice ao n c),(2,.agg (brow O))] = some (bkC D (.slice ao n c) O).toArray:=by
 have hz:=zbk
 obtain ⟨it,hit⟩:∃ it,Tryz.prog.info? 93 = some it:=by
  cases h:Tryz.prog.info? 93 with
  | none=>rw [h] at hz; cases hz
  | some it=>exact ⟨it,rfl⟩
 rw [hit] at hz
 simp only [Option.map_some,Option.some.injEq,Prod.mk.injEq] at hz
 obtain ⟨fs,hfs⟩:∃ fs,Tryz.prog.underlying 93 = some (.struct fs):=⟨_,Tryz.underlying93⟩
 have hpl:=fbk fs hfs
 unfold Program.built
 rw [hit,hfs]
 simp only [hz.1,hpl,Value.cells]
 have z1:(List.replicate 32 0:List Nat).length = 32:=List.length_replicate
 generalize (List.replicate 32 0:List Nat) = z at z1 ⊢
 unfold bkC
 have s1:=xa1d (place:=([(0,32),(32,1),(33,32)].toArray[·]?)) (i:=0) (n:=32) (rest:=[(1,.slice ao n c),(2,.agg (brow O))]) [] (z.map u8) ([.slice none 0 0]++(z.map u8++[])) (D.map u8) (X:=.agg (brow D)) rfl rfl (by rw [List.length_map,hD]) (by rw [List.length_map,z1])
 have s2:=xa1d (place:=([(0,32),(32,1),(33,32)].toArray[·]?)) (i:=1) (n:=1) (rest:=[(2,.agg (brow O))]) (D.map u8) [.slice none 0 0] (z.map u8++[]) [.slice ao n c] (X:=.slice ao n c) rfl (by rw [List.length_map,hD]; rfl) rfl rfl
 have s3:=xa1d (place:=([(0,32),(32,1),(33,32)].toArray[·]?)) (i:=2) (n:=32) (rest:=[]) (D.map u8++[.slice ao n c]) (z.map u8) [] (O.map u8) (X:=.agg (brow O)) rfl (by rw [List.length_append,List.length_map,hD]; rfl) (by rw [List.length_map,hO]) (by rw [List.length_map,z1])
 rw [List.nil_append] at s1
 rw [List.append_assoc,List.append_assoc] at s3
 rw [s1,List.nil_append,s2,s3]
 rfl
theorem xb8a (x:Nat) (O:List Nat) (ao:Option Addr) (n c:Nat) (hO:O.length = 32):Tryz.prog.built 107 [(0,.int .u16 (x:Int)),(1,.slice ao n c),(2,.agg (brow O))] = some (brC x (.slice ao n c) O).toArray:=by
 have hz:=zbr
 obtain ⟨it,hit⟩:∃ it,Tryz.prog.info? 107 = some it:=by
  cases h:Tryz.prog.info? 107 with
  | none=>rw [h] at hz; cases hz
  | some it=>exact ⟨it,rfl⟩
 rw [hit] at hz
 simp only [Option.map_some,Option.some.injEq,Prod.mk.injEq] at hz
 obtain ⟨fs,hfs⟩:∃ fs,Tryz.prog.underlying 107 = some (.struct fs):=⟨_,Tryz.underlying107⟩
 have hpl:=fbr fs hfs
 unfold Program.built
 rw [hit,hfs]
 simp only [hz.1,hpl,Value.cells]
 have z1:(List.replicate 32 0:List Nat).length = 32:=List.length_replicate
 generalize (List.replicate 32 0:List Nat) = z at z1 ⊢
 unfold brC
 have s1:=xa1d (place:=([(0,1),(1,1),(2,32)].toArray[·]?)) (i:=0) (n:=1) (rest:=[(1,.slice ao n c),(2,.agg (brow O))]) [] [.int .u16 ((0:Nat):Int)] ([.slice none 0 0]++(z.map u8++[])) [.int .u16 (x:Int)] (X:=.int .u16 (x:Int)) rfl rfl rfl rfl
 have s2:=xa1d (place:=([(0,1),(1,1),(2,32)].toArray[·]?)) (i:=1) (n:=1) (rest:=[(2,.agg (brow O))]) [.int .u16 (x:Int)] [.slice none 0 0] (z.map u8++[]) [.slice ao n c] (X:=.slice ao n c) rfl rfl rfl rfl
 have s3:=xa1d (place:=([(0,1),(1,1),(2,32)].toArray[·]?)) (i:=2) (n:=32) (rest:=[]) [.int .u16 (x:Int),.slice ao n c] (z.map u8) [] (O.map u8) (X:=.agg (brow O)) rfl rfl (by rw [List.length_map,hO]) (by rw [List.length_map,z1])
 exact s1.trans (s2.trans s3)
theorem xa0k {w:World} {g n:Nat} {t:TypeId} {fr:Nat × Nat} (a b c:List Value) (h:w.heap[g]? = some (.cells (a++(b++c)).toArray t fr)) (hn:a.length = n):w.rangeAt g n b:=by
 subst hn
 intro j v hv
 have hj:=(List.getElem?_eq_some_iff.1 hv).1
 rw [cell_of_row w g _ _ t fr h,List.getElem?_toArray,List.getElem?_append_right (by omega),Nat.add_sub_cancel_left,List.getElem?_append_left hj,hv]
theorem bk_row {W:World} {g:Nat} {D O:List Nat} {pv:Value} {t:TypeId} (h:W.heap[g]? = some (.cells (bkC D pv O).toArray t (0,0))) (hD:D.length = 32):W.rangeAt g 0 (D.map u8)∧W.cell? ⟨g,32,none⟩ = some pv∧W.rangeAt g 33 (O.map u8):=by
 refine ⟨xa0k [] _ _ (by rw [List.nil_append]; exact h) rfl,?_,?_⟩
 ·rw [cell_of_row _ _ _ _ _ _ h,List.getElem?_toArray]
  unfold bkC
  rw [List.getElem?_append_right (by simp [hD])]
  simp [hD]
 ·have:=xa0k (w:=W) (g:=g) (n:=33) (t:=t) (fr:=(0,0)) (D.map u8++[pv]) (O.map u8) [] (by rw [List.append_assoc]; exact h) (by simp [hD])
  exact this
theorem br_row {W:World} {g:Nat} {x:Nat} {O:List Nat} {kv:Value} {t:TypeId} (h:W.heap[g]? = some (.cells (brC x kv O).toArray t (0,0))):W.cell? ⟨g,0,none⟩ = some (.int .u16 (x:Int))∧W.cell? ⟨g,1,none⟩ = some kv∧W.rangeAt g 2 (O.map u8):=by
 refine ⟨?_,?_,xa0k [.int .u16 (x:Int),kv] _ _ h rfl⟩
 ·rw [cell_of_row _ _ _ _ _ _ h,List.getElem?_toArray]; rfl
 ·rw [cell_of_row _ _ _ _ _ _ h,List.getElem?_toArray]; rfl
def flatD (ds:List (List Nat)):List Value:=(ds.map fun d=>d.map u8).flatten
theorem xa3d {ds:List (List Nat)} (h:∀ d∈ds,d.length = 32):(flatD ds).length = ds.length * 32:=by
 induction ds with
 | nil=>rfl
 | cons d r ih =>
  have:=ih (fun x hx=>h x (by simp [hx]))
  simp only [flatD,List.map_cons,List.flatten_cons,List.length_append,List.length_map,List.length_cons] at this ⊢
  rw [this,h d (by simp)]; omega
theorem xa5v (a b:List (List Nat)):flatD (a++b) = flatD a++flatD b:=by simp [flatD]
theorem xb6a (ds:List (List Nat)):∀ v∈flatD ds,v.oneCell' = true:=by
 intro v hv
 simp only [flatD,List.mem_flatten,List.mem_map] at hv
 obtain ⟨l,⟨d,_,rfl⟩,h⟩:=hv
 exact xa1m d v h
theorem xb3i {ds:List (List Nat)} (h:∀ d∈ds,d.length = 32):∀ (i:Nat),i < ds.length→∀ j,j < 32→(flatD ds)[i * 32 + j]? = ((ds.getD i []).map u8)[j]?:=by
 induction ds with
 | nil=>intro i hi; simp at hi
 | cons d r ih =>
  intro i hi j hj
  have hd:=h d (by simp)
  have e:flatD (d :: r) = d.map u8++flatD r:=by simp [flatD]
  rw [e]
  cases i with
  | zero =>
   rw [Nat.zero_mul,Nat.zero_add,List.getElem?_append_left (by simp [hd]; exact hj)]; rfl
  | succ i =>
   rw [List.getElem?_append_right (by simp [hd]; omega),List.length_map,hd,show (i + 1) * 32 + j - 32 = i * 32 + j by omega,ih (fun x hx=>h x (by simp [hx])) i (by simpa using hi) j hj]
   rfl
theorem xa2m {L:List Nat} {w0:World} (b:Nat) (hb:b∈L∨w0.heap.size≤b):∀ (vs:List Value) (o:Nat) (w:World),Kept L w0 w→Kept L w0 (w.setCells b o vs)
 | [],_,_,h=>h
 | v :: r,o,w,h=>by rw [World.setCells]; exact xa2m b hb r (o + 1) _ (h.setCell hb v)
theorem xb4w {w:World} {b:Nat} {t:TypeId} {cs:List Value} (h:w.heap[b]? = some (.cells cs.toArray t (0,0))) {o n:Nat} (hl:o + n≤cs.length):w.there b o n:=fun j hj =>
 ⟨by rw [cell_of_row _ _ _ _ _ _ h,List.getElem?_toArray,List.getElem?_eq_getElem (by omega)]; rfl,frozen_of_row _ _ _ _ _ h⟩
theorem xa2u (b:Nat) (t:TypeId):∀ (vs pre mid post:List Value) (w:World),mid.length = vs.length→w.heap[b]? = some (.cells (pre++(mid++post)).toArray t (0,0))→(w.setCells b pre.length vs).heap[b]? = some (.cells (pre++(vs++post)).toArray t (0,0))
 | [],pre,mid,post,w,hl,h=>by
  have:mid = []:=List.eq_nil_of_length_eq_zero (by simpa using hl)
  subst this; exact h
 | v :: r,pre,mid,post,w,hl,h=>by
  obtain ⟨x,mid,rfl⟩:∃ x q,mid = x :: q:=by cases mid with | nil=>simp at hl | cons x q=>exact ⟨x,q,rfl⟩
  rw [World.setCells]
  have h1:=heap_setCell_same w b pre.length _ t v h
  have e1:(pre++(x :: mid++post)).toArray.setIfInBounds pre.length v = ((pre++[v])++(mid++post)).toArray:=by simp
  rw [e1] at h1
  have h2:=xa2u b t r (pre++[v]) mid post _ (by simpa using hl) h1
  rw [List.length_append,List.length_cons,List.length_nil,List.append_assoc] at h2
  simpa using h2
theorem xb3q {W:World} {g i n:Nat} {t:TypeId} {ds:List (List Nat)} {O:List Nat} (h:W.heap[g]? = some (.cells (flatD (ds.take i)++List.replicate ((n - i) * 32) (u8 0)).toArray t (0,0))) (hi:i < n) (hn:ds.length = n) (hd:∀ d∈ds,d.length = 32) (hO:ds.getD i [] = O) :
  W.there g (i * 32) 32∧(W.setCells g (i * 32) (O.map u8)).heap[g]? = some (.cells (flatD (ds.take (i + 1))++List.replicate ((n - (i + 1)) * 32) (u8 0)).toArray t (0,0)):=by
 have hpl:(flatD (ds.take i)).length = i * 32:=by
  rw [xa3d (fun d hm=>hd d (List.mem_of_mem_take hm)),List.length_take,Nat.min_eq_left (by omega)]
 have hsp:List.replicate ((n - i) * 32) (u8 0) = List.replicate 32 (u8 0)++List.replicate ((n - (i + 1)) * 32) (u8 0):=by
  rw [List.replicate_append_replicate]; congr 1; omega
 have hOm:O∈ds:=by
  rw [← hO,List.getD_eq_getElem?_getD,List.getElem?_eq_getElem (by omega)]; exact List.getElem_mem _
 have hOl:=hd O hOm
 have hnx:flatD (ds.take (i + 1)) = flatD (ds.take i)++O.map u8:=by
  rw [List.take_succ_eq_append_getElem (by omega),xa5v]
  congr 1
  rw [← hO,List.getD_eq_getElem?_getD,List.getElem?_eq_getElem (by omega)]
  simp [flatD]
 rw [hsp] at h
 refine ⟨xb4w h (by rw [List.length_append,List.length_append,hpl,List.length_replicate]; omega),?_⟩
 have:=xa2u g t (O.map u8) (flatD (ds.take i)) (List.replicate 32 (u8 0)) (List.replicate ((n - (i + 1)) * 32) (u8 0)) W (by rw [List.length_replicate,List.length_map,hOl]) h
 rw [hpl] at this
 rw [this,hnx,List.append_assoc]
theorem Tryz.infoD:(Tryz.prog.info? 50).map (fun i=>(i.zero,i.size,i.bytes)) = some (some (.agg (zb 32)),32,32):=by kernel_rfl
end

section
open Go.RowKit Go.BigFrame
def keyS (z:Int) (key:List Nat):List Nat:=sumD z (2 :: key)







end
section
open Go
section
variable {P:Program} {Q:Exit→Act→World→Prop}
end
end
section
open Go Go.RowKit Go.BigFrame
section
variable {P:Program} {Q:Exit→Act→World→Prop}
end
end
section
open Go.RowKit Go.BigFrame

end
section
open Go Go.RowKit Go.BigFrame
section
variable {P:Program} {Q:Exit→Act→World→Prop}
end
end
section
open Go.RowKit Go.BigFrame



theorem xc1m {z:Int} {d:List Nat} (hw:widthB z = true) (hd:formB z d = true) {i:Nat} (hi:i < 2 * z.toNat):atC z d (i:Int) = dgt d i:=by
 have h9:=xa6a hw
 have h0:atE z d (i:Int) = 0:=by
  unfold atE
  rw [if_neg (by simp [hw]; omega),hd]
  rfl
 unfold atC
 rw [if_pos h0,Int.toNat_natCast]
theorem xb5h {z:Int} (hw:widthB z = true) (key:List Nat):formB z (keyS z key) = true:=xa3w hw _

def RdC (s:Nat) (w:World) (v:Value) (rows:List (List Value)):Prop :=
 ∃ (ao:Option Addr) (len cap:Nat),v = .slice ao len cap∧rows.length = len∧len≤cap∧cap≤9223372036854775807∧(0 < len→∃ b off,ao = some ⟨b,off,none⟩∧∀ i (h:i < rows.length),w.rangeAt b (off + i * s) rows[i])
theorem RdC.nil (s:Nat) (w:World):RdC s w (.slice none 0 0) []:=⟨none,0,0,rfl,rfl,Nat.le_refl _,by omega,fun h=>by omega⟩
theorem RdC.kept {s:Nat} {L:List Nat} {w w':World} {v:Value} {rows:List (List Value)} (h:RdC s w v rows) (k:Kept L w w') (hn:∀ x∈blk v,x∉L):RdC s w' v rows:=by
 obtain ⟨ao,len,cap,rfl,h1,h2,h3,h4⟩:=h
 refine ⟨ao,len,cap,rfl,h1,h2,h3,fun hp=>?_⟩
 obtain ⟨b,off,rfl,hc⟩:=h4 hp
 exact ⟨b,off,rfl,fun i hi j u hu=>k.cell (hc i hi j u hu) (hn b (by simp [blk]))⟩
theorem RdC.old {s:Nat} {w w':World} {v:Value} {rows:List (List Value)} (h:RdC s w v rows) (k:Kept [] w w'):RdC s w' v rows:=h.kept k (by simp)
theorem xb0k {w:World} {b s:Nat}:∀ {rows:List (List Value)} {off:Nat} (hc:∀ i (h:i < rows.length),w.rangeAt b (off + i * s) rows[i]) (hs:∀ r∈rows,r.length = s) (j:Nat) (u:Value),rows.flatten[j]? = some u→w.cell? ⟨b,off + j,none⟩ = some u
 | [],off,hc,hs,j,u,hj=>by simp at hj
 | r :: rs,off,hc,hs,j,u,hj=>by
  have hr:r.length = s:=hs r (by simp)
  rw [List.flatten_cons] at hj
  by_cases h:j < s
  ·rw [List.getElem?_append_left (by omega)] at hj
   have h9:=hc 0 (by simp) j u (by simpa using hj)
   simpa using h9
  ·rw [List.getElem?_append_right (by omega),hr] at hj
   have ih:=xb0k (rows:=rs) (off:=off + s) (fun i hi=>by
    have h9:=hc (i + 1) (by simpa using hi)
    simp only [List.getElem_cons_succ] at h9
    rw [show off + s + i * s = off + (i + 1) * s by rw [Nat.add_mul]; omega]
    exact h9) (fun r hr=>hs r (by simp [hr])) (j - s) u hj
   rw [show off + j = off + s + (j - s) by omega]
   exact ih
theorem xa0h {w:World} {base e s n:Nat} {v:Value} {xs:List Value} (h:w.ownsRow base e s v n xs):∃ ao cap,v = .slice ao n cap:=by
 rcases h.2 with ⟨rfl,rfl⟩ | ⟨g,cap,cur,rfl,_⟩
 ·exact ⟨_,_,rfl⟩
 ·exact ⟨_,_,rfl⟩
theorem xb2u {s:Nat}:∀ {rows:List (List Value)},(∀ r∈rows,r.length = s)→rows.flatten.length = rows.length * s
 | [],_=>by simp
 | r :: rs,h=>by
  have ih:=xb2u (rows:=rs) (fun r hr=>h r (by simp [hr]))
  rw [List.flatten_cons,List.length_append,ih,h r (by simp),List.length_cons,Nat.add_mul]
  omega
theorem xa8n {s:Nat}:∀ {rows:List (List Value)} (hs:∀ r∈rows,r.length = s) {i j:Nat} (hi:i < rows.length) {u:Value},rows[i][j]? = some u→rows.flatten[i * s + j]? = some u
 | r :: rs,hs,0,j,hi,u,hu=>by
  have hj:=(List.getElem?_eq_some_iff.1 hu).1
  rw [List.flatten_cons,Nat.zero_mul,Nat.zero_add,List.getElem?_append_left (by simpa using hj)]
  simpa using hu
 | r :: rs,hs,i + 1,j,hi,u,hu=>by
  have hr:r.length = s:=hs r (by simp)
  have ih:=xa8n (rows:=rs) (fun r hr=>hs r (by simp [hr])) (i:=i) (j:=j) (by simpa using hi) (u:=u) (by simpa using hu)
  rw [List.flatten_cons,List.getElem?_append_right (by rw [hr,Nat.add_mul]; omega),hr,show (i + 1) * s + j - s = i * s + j by rw [Nat.add_mul]; omega]
  exact ih
theorem xa1z {w:World} {base e s:Nat} {v:Value} {rows:List (List Value)} (h:w.ownsRow base e s v rows.length rows.flatten) (hs:∀ r∈rows,r.length = s):RdC s w v rows:=by
 rcases h.2 with ⟨rfl,h0⟩ | ⟨g,cap,cur,rfl,_,hg,hc,hm,hsz,ht⟩
 ·have:rows = []:=List.eq_nil_of_length_eq_zero h0
  subst this
  exact RdC.nil s w
 ·refine ⟨_,_,_,rfl,rfl,hc,by unfold maxLen at hm; omega,fun _=>⟨g,0,rfl,fun i hi j u hu=>?_⟩⟩
  have h9:=h.cells (g:=g) rfl (i * s + j) u (xa8n hs hi hu)
  rw [Addr.add_lit,Nat.zero_add] at h9
  rw [Nat.zero_add]
  exact h9
theorem xa8w {P:Program} {w:World} (base:Nat) (t ty e:TypeId) (i:TypeInfo) (size c:Nat) (ht:P.underlying t = some (.slice e)) (hi:P.info? e = some i)
  (v:Value) (n:Nat) (xs:List Value) (hown:w.ownsRow base e size v n xs) :
  (Builtin.append_ #[t,t] ty #[v,.slice none 0 c]).run P w = .ok v w:=by
 rcases hown.2 with ⟨rfl,rfl⟩ | ⟨g,cap,cur,rfl,_,_,hnc,_⟩
 ·simp [Builtin.append_,run_underlying ht,sizeOf,typeInfo,hi,Builtin.lenOf,Builtin.firstCells]
 ·simp [Builtin.append_,run_underlying ht,sizeOf,typeInfo,hi,Builtin.lenOf,Builtin.firstCells,hnc,storeCells]
theorem appendC (w:World) (base T e:Nat) (z:Value) (s bytes:Nat) (hu:Tryz.prog.underlying T = some (.slice e)) (hinf:(Tryz.prog.info? e).map (fun i=>(i.zero,i.size,i.bytes)) = some (some z,s,bytes)) (hzs:z.cells.size = s) (hs0:0 < s)
  (v:Value) (n:Nat) (xs:List Value) (h:w.ownsRow base e s v n xs) (ao:Option Addr) (m c:Nat) (rows:List (List Value)) (hr:RdC s w (.slice ao m c) rows) (hs:∀ r∈rows,r.length = s) (hone:∀ r∈rows,∀ u∈r,u.oneCell' = true)
  (hl:(n + m) * bytes≤140737488355328) (hl2:n + m≤1000000000000) (hb:base≤w.heap.size) :
  ∃ ao' cap' w1,(Builtin.append_ #[T,T] T #[v,.slice ao m c]).run Tryz.prog w = .ok (.slice ao' (n + m) cap') w1∧w1.ownsRow base e s (.slice ao' (n + m) cap') (n + m) (xs++rows.flatten)∧w.grownBy w1 v.ownBlock∧((Value.slice ao' (n + m) cap').ownBlock = v.ownBlock∨(Value.slice ao' (n + m) cap').ownBlock = some w.heap.size):=by
 obtain ⟨i0,hi,hz0,hz1,hz2⟩:=info_parts hinf
 obtain ⟨ao1,n1,c1,he,h1,h2,h3,h4⟩:=hr
 cases he
 have hf1:∀ u∈rows.flatten,u.oneCell' = true:=by
  intro u hu
  obtain ⟨r,hr,hur⟩:=List.mem_flatten.1 hu
  exact hone r hr u hur
 have hfl:rows.flatten.length = m * s:=by rw [xb2u hs,h1]
 cases ao with
 | none =>
  have hm:m = 0:=by
   rcases Nat.eq_zero_or_pos m with h9 | h9
   ·exact h9
   ·obtain ⟨b,off,e9,_⟩:=h4 h9; cases e9
  subst hm
  have hp:rows = []:=List.eq_nil_of_length_eq_zero h1
  subst hp
  have hrun:=xa8w (P:=Tryz.prog) (w:=w) base T T e i0 s c hu hi v n xs h
  obtain ⟨ao',cap',rfl⟩:=xa0h h
  exact ⟨ao',cap',w,hrun,by simpa using h,World.grownBy.refl _ _,.inl rfl⟩
 | some ad =>
  have hnews:∀ j u,rows.flatten[j]? = some u→w.cell? (ad.add j) = some u:=by
   intro j u hj
   have hm:0 < m:=by
    have:=(List.getElem?_eq_some_iff.1 hj).1
    rw [hfl] at this
    rcases Nat.eq_zero_or_pos m with h9 | h9
    ·subst h9; omega
    ·exact h9
   obtain ⟨b,off,e9,hc⟩:=h4 hm
   cases e9
   rw [Addr.add_mid]
   exact xb0k hc hs j u hj
  obtain ⟨v',w1,hrun,hown,hgrow,_,hat⟩:=run_append_own_at (P:=Tryz.prog) w base T T e i0 z s bytes hu hi hz0 hz1 hz2 hzs hs0 v n xs h ad m c rows.flatten hfl hnews hf1 (by unfold maxLen; omega) hl hb
  obtain ⟨ao',cap',rfl⟩:=xa0h hown
  exact ⟨ao',cap',w1,hrun,hown,hgrow,hat⟩
theorem xa0j {ops:Array Oper} {rest:List Oper} {o:Oper} {a:Act} {Q:Exit→Act→World→Prop} (hgd:o.guard = none) (T e:Nat) (s x:Operand)
  (ho:o.op = .call { callee:=.builtin .append,args:=#[s,x],argTypes:=#[T,T] }) (hty:o.type = T)
  (w:World) (base:Nat) (z:Value) (sz bytes:Nat) (hu:Tryz.prog.underlying T = some (.slice e)) (hinf:(Tryz.prog.info? e).map (fun i=>(i.zero,i.size,i.bytes)) = some (some z,sz,bytes)) (hzs:z.cells.size = sz) (hs0:0 < sz)
  (v:Value) (n:Nat) (xs:List Value) (h:w.ownsRow base e sz v n xs) (ao:Option Addr) (m c:Nat) (rows:List (List Value)) (hr:RdC sz w (.slice ao m c) rows) (hs:∀ r∈rows,r.length = sz) (hone:∀ r∈rows,∀ u∈r,u.oneCell' = true)
  (hl:(n + m) * bytes≤140737488355328) (hl2:n + m≤1000000000000) (hb:base≤w.heap.size) (he:a.eval s = v) (hx:a.eval x = .slice ao m c)
  (hK:∀ ao' cap' w1,Hid (w1.ownsRow base e sz (.slice ao' (n + m) cap') (n + m) (xs++rows.flatten))→Hid (w.grownBy w1 v.ownBlock)→Hid ((Value.slice ao' (n + m) cap').ownBlock = v.ownBlock∨(Value.slice ao' (n + m) cap').ownBlock = some w.heap.size) →
   wpList Tryz.prog ops Q rest (a.put o.dst (.slice ao' (n + m) cap')) w1) :
  wpList Tryz.prog ops Q (o :: rest) a w:=by
 obtain ⟨ao',cap',w1,hrun,h2,h3,h4⟩:=appendC w base T e z sz bytes hu hinf hzs hs0 v n xs h ao m c rows hr hs hone hl hl2 hb
 refine wpList_plain hgd fun K hK'=>?_
 unfold Oper.wp execOp
 simp only [ho,hty,resolve,invoke,builtin,Sem.run_bind,Sem.run_pure,Result.andThen_ok,List.map_toArray,List.map_cons,List.map_nil,he,hx,hrun]
 exact hK' _ _ (hK ao' cap' w1 h2 h3 h4)
end
section
open Go Go.RowKit Go.BigFrame
theorem xb3h {o:Oper} {a:Act} {w:World} {K:Act→World→Prop} {Q:Exit→Act→World→Prop} {f:FuncId} {xs:Array Operand} {ts:Array TypeId} (ho:o.op = .call { callee:=.value (.func f),args:=xs,argTypes:=ts })
  (hcl:∀ args W,(callFunc f args).run Tryz.prog W = .ok (.enter f args) W) (us:List Value) (he:xs.toList.map a.eval = us) {R:Ending→World→Prop}
  (hc:Calls Tryz.prog f us.toArray w R) (h:∀ e w',R e w'→∃ v,e = .returned v∧K (a.put o.dst v) w'):o.wp Tryz.prog a w K Q:=by
 have he2:xs.map a.eval = us.toArray:=by rw [← he]; cases xs; simp only [List.map_toArray]
 unfold Oper.wp execOp
 simp only [ho]
 have hf:a.eval (.func f) = .func (.func f) #[] #[]:=rfl
 simp only [resolve,invoke,hf,he2,Sem.run_bind,Sem.run_pure,Result.andThen_ok,hcl]
 simp [Deferred.ofValue,hcl,go_sem]
 refine hc.mono ?_
 intro e w2 h2
 obtain ⟨v,rfl,h3⟩:=h e w2 h2
 exact h3
section
variable {P:Program} {Q:Exit→Act→World→Prop} {S:World→Prop}
def ChL (P:Program) (Q:Exit→Act→World→Prop) (S:World→Prop) (F:Act→World→Prop):List Oper→Act→World→Prop
 | [],a,w=>F a w
 | o :: r,a,w=>o.wp P a w (fun a' w'=>S w'∧ChL P Q S F r a' w') (NoPanic Q)
def LinY (P:Program) (S:World→Prop) (F:Act→World→Prop):List Oper→Act→World→Prop
 | [],a,w=>F a w
 | o :: r,a,w=>∃ v,(∀ W,S W→(execOp a.eval o).run P W = .ok (.value v) W)∧LinY P S F r (a.put o.dst v) w
def linR (O:Array Oper):List Nat→Array Bool→Bool
 | [],_=>true
 | i :: r,d=>(Region.free .any O d i && (Region.ready .any O d).contains i) && linR O r (d.setIfInBounds i true)
def linC (O:Array Oper):List Nat→Array Bool→Bool
 | [],_=>true
 | i :: r,d=>decide (Region.ready .any O d = [i]) && linC O r (d.setIfInBounds i true)
def linD:List Nat→Array Bool→Array Bool
 | [],d=>d
 | i :: r,d=>linD r (d.setIfInBounds i true)
theorem xa2y {O:Array Oper} {d:Array Bool} (h:decide (Region.ready .any O d = []) = true):∀ a w,Q .normal a w→wpAnyH P .any O (NoPanic Q) S 0 d a w:=fun a w hq=>⟨of_decide_eq_true h,NoPanic.normal hq⟩
theorem xa2q {O:Array Oper} {F:Act→World→Prop} {m:Nat} {D:Array Bool} (hF:∀ a w,F a w→wpAnyH P .any O (NoPanic Q) S m D a w):∀ (C:List Nat) (cs:List Oper) (d:Array Bool) (a:Act) (w:World),C.map (O[·]?) = cs.map some→(∀ o∈cs,o.guard = none)→linC O C d = true→linD C d = D→ChL P Q S F cs a w→wpAnyH P .any O (NoPanic Q) S (C.length + m) d a w
 | [],[],d,a,w,_,_,_,hD,h=>by rw [List.length_nil,Nat.zero_add]; have e:d = D:=hD; rw [e]; exact hF a w h
 | [],_ :: _,_,_,_,he,_,_,_,_=>by simp at he
 | i :: C,[],_,_,_,he,_,_,_,_=>by simp at he
 | i :: C,o :: cs,d,a,w,he,hg,hb,hD,h=>by
  simp only [List.map_cons,List.cons.injEq] at he
  simp only [linC,Bool.and_eq_true,decide_eq_true_eq] at hb
  rw [List.length_cons,show C.length + 1 + m = (C.length + m) + 1 by omega]
  refine wpAnyH_all (rs:=[i]) hb.1 (by simp) (fun j hj=>?_)
  rw [List.mem_singleton] at hj
  subst hj
  unfold wpOp
  simp only [he.1]
  have hw:∀ y,Region.wanted o y = true:=fun y=>by unfold Region.wanted; rw [hg o (by simp)]
  rw [if_pos (hw _)]
  refine Or.inl (Oper.wp_mono (fun a' w' h2=>⟨h2.1,?_⟩) h)
  exact xa2q hF C cs _ a' w' he.2 (fun x hx=>hg x (by simp [hx])) hb.2 hD h2.2
theorem xa3e {O:Array Oper} {F:Act→World→Prop} {m:Nat} {D:Array Bool} (hs:Region.noSelect O = true) (hF:∀ a w,F a w→wpAnyH P .any O (NoPanic Q) S m D a w) :
  ∀ (R:List Nat) (rs:List Oper) (d:Array Bool) (a:Act) (w:World),R.map (O[·]?) = rs.map some→(∀ o∈rs,o.guard = none)→linR O R d = true→linD R d = D→S w→LinY P S F rs a w→wpAnyH P .any O (NoPanic Q) S (R.length + m) d a w
 | [],[],d,a,w,_,_,_,hc,_,h=>by rw [List.length_nil,Nat.zero_add]; have e:d = D:=hc; rw [e]; exact hF a w h
 | [],_ :: _,_,_,_,he,_,_,_,_,_=>by simp at he
 | i :: R,[],_,_,_,he,_,_,_,_,_=>by simp at he
 | i :: R,o :: rs,d,a,w,he,hg,hr,hc,hS,h=>by
  simp only [List.map_cons,List.cons.injEq] at he
  simp only [linR,Bool.and_eq_true] at hr
  obtain ⟨v,hv,h2⟩:=h
  have hw:∀ y,Region.wanted o y = true:=fun y=>by unfold Region.wanted; rw [hg o (by simp)]
  rw [List.length_cons,show R.length + 1 + m = (R.length + m) + 1 by omega]
  refine wpAnyH_take (i:=i) (oi:=o) he.1 hs hr.1.1 hr.1.2 (fun _ _ _ h=>h) (Or.inl ⟨hw _,hv⟩) hS ?_
  exact xa3e hs hF R rs _ _ w he.2 (fun x hx=>hg x (by simp [hx])) hr.2 hc hS h2
def linS (O:Array Oper):Array Bool:=Array.replicate O.size false
def linB (O:Array Oper) (R C T:List Nat):Bool :=
 (Region.noSelect O && decide (O.size = R.length + (C.length + (T.length + 0)))) && (linR O R (linS O) && (linC O C (linD R (linS O)) && (linR O T (linD C (linD R (linS O))) && decide (Region.ready .any O (linD T (linD C (linD R (linS O)))) = []))))
theorem wp_lin {id:Nat} {O:Array Oper} {a:Act} {w:World} {R C T:List Nat} {rs cs ts:List Oper} (hm:P.follows .mixedOrders = true) (hb:linB O R C T = true) (hR:R.map (O[·]?) = rs.map some) (hC:C.map (O[·]?) = cs.map some) (hT:T.map (O[·]?) = ts.map some) (hg:(rs++(cs++ts)).all (fun o=>o.guard.isNone) = true)
  (hS:S w.drew) (h:LinY P S (ChL P Q S (fun a w=>S w∧LinY P S (Q .normal) ts a w) cs) rs a w.drew):(Code.region id O true).wp P Q a w:=by
 unfold linB at hb
 simp only [Bool.and_eq_true,decide_eq_true_eq] at hb
 obtain ⟨⟨b1,b2⟩,b3,b4,b5,b6⟩:=hb
 rw [List.all_append,List.all_append,Bool.and_eq_true,Bool.and_eq_true,List.all_eq_true,List.all_eq_true,List.all_eq_true] at hg
 refine wp_region_noPanic ?_
 refine wp_region_held_drew (S:=S) hm hS (fun _=>?_)
 rw [b2]
 have h3:∀ a w,(S w∧LinY P S (Q .normal) ts a w)→wpAnyH P .any O (NoPanic Q) S (T.length + 0) (linD C (linD R (linS O))) a w:=fun a w h=>xa3e b1 (xa2y (decide_eq_true b6)) T ts _ a w hT (fun o ho=>by simpa using hg.2.2 o ho) b5 rfl h.1 h.2
 have h2:=fun a w h=>xa2q (P:=P) (Q:=Q) (S:=S) h3 C cs (linD R (linS O)) a w hC (fun o ho=>by simpa using hg.2.1 o ho) b4 rfl h
 have:=xa3e (P:=P) (Q:=Q) (S:=S) b1 h2 R rs (linS O) a w.drew hR (fun o ho=>by simpa using hg.1 o ho) b3 rfl hS h
 unfold linS at this
 rw [b2] at this
 exact this
theorem xa0u {id:Nat} {O:Array Oper} {a:Act} {w:World} {R C:List Nat} {rs cs:List Oper} (hm:P.follows .mixedOrders = true) (hb:linB O R C [] = true) (hR:R.map (O[·]?) = rs.map some) (hC:C.map (O[·]?) = cs.map some) (hg:(rs++(cs++[])).all (fun o=>o.guard.isNone) = true)
  (hS:S w.drew) (h:LinY P S (ChL P Q S (Q .normal) cs) rs a w.drew):(Code.region id O true).wp P Q a w:=by
 unfold linB at hb
 simp only [Bool.and_eq_true,decide_eq_true_eq] at hb
 obtain ⟨⟨b1,b2⟩,b3,b4,b5,b6⟩:=hb
 rw [List.append_nil,List.all_append,Bool.and_eq_true,List.all_eq_true,List.all_eq_true] at hg
 refine wp_region_noPanic ?_
 refine wp_region_held_drew (S:=S) hm hS (fun _=>?_)
 rw [b2]
 have h2:=fun a w h=>xa2q (P:=P) (Q:=Q) (S:=S) (xa2y (decide_eq_true b6)) C cs (linD R (linS O)) a w hC (fun o ho=>by simpa using hg.2 o ho) b4 rfl h
 have:=xa3e (P:=P) (Q:=Q) (S:=S) b1 h2 R rs (linS O) a w.drew hR (fun o ho=>by simpa using hg.1 o ho) b3 rfl hS h
 unfold linS at this
 rw [show R.length + (C.length + (([]:List Nat).length + 0)) = R.length + (C.length + 0) from rfl]
 rw [b2] at this
 exact this
def linB2 (O:Array Oper) (R:List Nat) (i j:Nat) (C:List Nat):Bool :=
 (Region.noSelect O && decide (O.size = R.length + (C.length + 2))) && (linR O R (linS O) && (decide (Region.ready .any O (linD R (linS O)) = [i,j]) && ((linC O (j :: C) ((linD R (linS O)).setIfInBounds i true) && linC O (i :: C) ((linD R (linS O)).setIfInBounds j true)) && (decide (Region.ready .any O (linD (j :: C) ((linD R (linS O)).setIfInBounds i true)) = []) && decide (Region.ready .any O (linD (i :: C) ((linD R (linS O)).setIfInBounds j true)) = [])))))
theorem xc1h {id:Nat} {O:Array Oper} {a:Act} {w:World} {R C:List Nat} {i j:Nat} {oi oj:Oper} {rs cs:List Oper} (hm:P.follows .mixedOrders = true) (hb:linB2 O R i j C = true) (hR:R.map (O[·]?) = rs.map some) (hi:O[i]? = some oi) (hj:O[j]? = some oj) (hC:C.map (O[·]?) = cs.map some) (hg:(rs++(oi :: oj :: cs)).all (fun o=>o.guard.isNone) = true)
  (hS:S w.drew) (h:LinY P S (fun a w=>ChL P Q S (Q .normal) (oi :: oj :: cs) a w∧ChL P Q S (Q .normal) (oj :: oi :: cs) a w) rs a w.drew):(Code.region id O true).wp P Q a w:=by
 unfold linB2 at hb
 simp only [Bool.and_eq_true,decide_eq_true_eq] at hb
 obtain ⟨⟨b1,b2⟩,b3,b4,⟨b5,b6⟩,b7,b8⟩:=hb
 rw [List.all_append,Bool.and_eq_true,List.all_eq_true,List.all_eq_true] at hg
 have hgi:∀ o∈oi :: oj :: cs,o.guard = none:=fun o ho=>by simpa using hg.2 o ho
 refine wp_region_noPanic ?_
 refine wp_region_held_drew (S:=S) hm hS (fun _=>?_)
 rw [b2]
 have hF:∀ a w,(ChL P Q S (Q .normal) (oi :: oj :: cs) a w∧ChL P Q S (Q .normal) (oj :: oi :: cs) a w)→wpAnyH P .any O (NoPanic Q) S (C.length + 2) (linD R (linS O)) a w:=fun a w h=>by
  refine wpAnyH_all (rs:=[i,j]) b4 (by simp) (fun x hx=>?_)
  simp only [List.mem_cons,List.not_mem_nil,or_false] at hx
  rcases hx with rfl | rfl
  ·unfold wpOp
   simp only [hi]
   have hw:∀ y,Region.wanted oi y = true:=fun y=>by unfold Region.wanted; rw [hgi oi (by simp)]
   rw [if_pos (hw _)]
   exact Or.inl (Oper.wp_mono (fun a' w' h2=>⟨h2.1,xa2q (xa2y (decide_eq_true b7)) (j :: C) (oj :: cs) _ a' w' (by rw [List.map_cons,List.map_cons,hj,hC]) (fun o ho=>hgi o (List.mem_cons_of_mem _ ho)) b5 rfl h2.2⟩) h.1)
  ·unfold wpOp
   simp only [hj]
   have hw:∀ y,Region.wanted oj y = true:=fun y=>by unfold Region.wanted; rw [hgi oj (by simp)]
   rw [if_pos (hw _)]
   exact Or.inl (Oper.wp_mono (fun a' w' h2=>⟨h2.1,xa2q (xa2y (decide_eq_true b8)) (i :: C) (oi :: cs) _ a' w' (by rw [List.map_cons,List.map_cons,hi,hC]) (fun o ho=>hgi o (by rcases List.mem_cons.1 ho with rfl | ho; simp; simp [ho])) b6 rfl h2.2⟩) h.2)
 have:=xa3e (P:=P) (Q:=Q) (S:=S) b1 hF R rs (linS O) a w.drew hR (fun o ho=>by simpa using hg.1 o ho) b3 rfl hS h
 unfold linS at this
 rw [b2] at this
 exact this
def LinG (P:Program) (O:Array Oper) (S:World→Prop) (F:Act→World→Prop):List Oper→Act→World→Prop
 | [],a,w=>F a w
 | o :: r,a,w=>∃ v,YieldsIf P O S o v a∧LinG P O S F r (a.put o.dst v) w
theorem xa2k {O:Array Oper} {F:Act→World→Prop} {m:Nat} {D:Array Bool} (hs:Region.noSelect O = true) (hF:∀ a w,F a w→wpAnyH P .any O (NoPanic Q) S m D a w) :
  ∀ (R:List Nat) (rs:List Oper) (d:Array Bool) (a:Act) (w:World),R.map (O[·]?) = rs.map some→linR O R d = true→linD R d = D→S w→LinG P O S F rs a w→wpAnyH P .any O (NoPanic Q) S (R.length + m) d a w
 | [],[],d,a,w,_,_,hc,_,h=>by rw [List.length_nil,Nat.zero_add]; have e:d = D:=hc; rw [e]; exact hF a w h
 | [],_ :: _,_,_,_,he,_,_,_,_=>by simp at he
 | i :: R,[],_,_,_,he,_,_,_,_=>by simp at he
 | i :: R,o :: rs,d,a,w,he,hr,hc,hS,h=>by
  simp only [List.map_cons,List.cons.injEq] at he
  simp only [linR,Bool.and_eq_true] at hr
  obtain ⟨v,hv,h2⟩:=h
  rw [List.length_cons,show R.length + 1 + m = (R.length + m) + 1 by omega]
  refine wpAnyH_take (i:=i) (oi:=o) he.1 hs hr.1.1 hr.1.2 (fun _ _ _ h=>h) hv hS ?_
  exact xa2k hs hF R rs _ _ w he.2 hr.2 hc hS h2
theorem xb6i {id:Nat} {O:Array Oper} {a:Act} {w:World} {R:List Nat} {rs:List Oper} (hm:P.follows .mixedOrders = true) (hb:linB O R [] [] = true) (hR:R.map (O[·]?) = rs.map some)
  (hS:S w.drew) (h:LinG P O S (Q .normal) rs a w.drew):(Code.region id O true).wp P Q a w:=by
 unfold linB at hb
 simp only [Bool.and_eq_true,decide_eq_true_eq] at hb
 obtain ⟨⟨b1,b2⟩,b3,b4,b5,b6⟩:=hb
 refine wp_region_noPanic ?_
 refine wp_region_held_drew (S:=S) hm hS (fun _=>?_)
 rw [b2]
 have:=xa2k (P:=P) (Q:=Q) (S:=S) b1 (xa2y (decide_eq_true b6)) R rs (linS O) a w.drew hR b3 rfl hS h
 unfold linS at this
 rw [show R.length + (([]:List Nat).length + (([]:List Nat).length + 0)) = R.length + 0 from rfl]
 rw [show R.length + (([]:List Nat).length + (([]:List Nat).length + 0)) = R.length + 0 from rfl] at b2
 rw [b2] at this
 exact this
theorem LinG.rd {O:Array Oper} {F:Act→World→Prop} {rs:List Oper} {o:Oper} {a A:Act} {w:World} (hw:Region.wanted o (yielded O a.tmps) = true) (v:Value) (hv:∀ W,S W→(execOp a.eval o).run P W = .ok (.value v) W) (p:a.put o.dst v = A) (h:LinG P O S F rs A w):LinG P O S F (o :: rs) a w :=
 ⟨v,Or.inl ⟨hw,hv⟩,by rw [p]; exact h⟩
theorem LinG.no {O:Array Oper} {F:Act→World→Prop} {rs:List Oper} {o:Oper} {a A:Act} {w:World} (hw:Region.wanted o (yielded O a.tmps) = false) (p:a.put o.dst undef = A) (h:LinG P O S F rs A w):LinG P O S F (o :: rs) a w :=
 ⟨undef,Or.inr ⟨hw,rfl⟩,by rw [p]; exact h⟩
theorem LinG.ld {O:Array Oper} {F:Act→World→Prop} {rs:List Oper} {o:Oper} {a A:Act} {w:World} (hw:Region.wanted o (yielded O a.tmps) = true) (ty:TypeId) (x:Operand) (ho:o.op = .load ty x) (b off:Nat) (hx:a.eval x = .pointer (some ⟨b,off,none⟩)) (cs:List Value) (d:TypeDesc) (hc:∀ W,S W→W.rangeAt b off cs)
  (hu:P.underlying ty = some d) (hd:d.isRow = true) (hi:(P.info? ty).map (·.size) = some cs.length) (p:a.put o.dst (.agg cs.toArray) = A) (h:LinG P O S F rs A w):LinG P O S F (o :: rs) a w :=
 LinG.rd hw _ (fun W hW=>by unfold execOp; simp only [ho,hx,Instr.loadAt,Instr.sureAddr,Sem.run_bind,Sem.run_pure,Result.andThen_ok,run_loadVar_mid W b off ty cs d (hc W hW) hu hd hi]) p h
theorem LinG.fin {O:Array Oper} {F:Act→World→Prop} {a:Act} {w:World} (h:F a w):LinG P O S F [] a w:=h
theorem LinY.rd {F:Act→World→Prop} {rs:List Oper} {o:Oper} {a A:Act} {w:World} (v:Value) (hv:∀ W,S W→(execOp a.eval o).run P W = .ok (.value v) W) (p:a.put o.dst v = A) (h:LinY P S F rs A w):LinY P S F (o :: rs) a w :=
 ⟨v,hv,by rw [p]; exact h⟩
theorem LinY.mv {F:Act→World→Prop} {rs:List Oper} {o:Oper} {a A:Act} {w:World} {x:Operand} (ho:o.op = .move x) (v:Value) (hv:a.eval x = v) (p:a.put o.dst v = A) (h:LinY P S F rs A w):LinY P S F (o :: rs) a w :=
 LinY.rd v (fun W _=>by unfold execOp; simp only [ho]; rw [hv]; rfl) p h
theorem LinY.ld {F:Act→World→Prop} {rs:List Oper} {o:Oper} {a A:Act} {w:World} (ty:TypeId) (x:Operand) (ho:o.op = .load ty x) (b off:Nat) (hx:a.eval x = .pointer (some ⟨b,off,none⟩)) (cs:List Value) (d:TypeDesc) (hc:∀ W,S W→W.rangeAt b off cs)
  (hu:P.underlying ty = some d) (hd:d.isRow = true) (hi:(P.info? ty).map (·.size) = some cs.length) (p:a.put o.dst (.agg cs.toArray) = A) (h:LinY P S F rs A w):LinY P S F (o :: rs) a w :=
 LinY.rd _ (fun W hW=>by unfold execOp; simp only [ho,hx,Instr.loadAt,Instr.sureAddr,Sem.run_bind,Sem.run_pure,Result.andThen_ok,run_loadVar_mid W b off ty cs d (hc W hW) hu hd hi]) p h
theorem Kept.rng {L:List Nat} {w w':World} (k:Kept L w w') {b o:Nat} {cs:List Value} (h:w.rangeAt b o cs) (hb:b∉L):w'.rangeAt b o cs:=fun j v hv=>k.cell (h j v hv) hb
theorem ChL.op {F:Act→World→Prop} {cs:List Oper} {o:Oper} {a A:Act} {w w':World} (v:Value) (hv:(execOp a.eval o).run P w = .ok (.value v) w') (hS:S w') (p:a.put o.dst v = A) (h:ChL P Q S F cs A w'):ChL P Q S F (o :: cs) a w:=by
 unfold ChL Oper.wp
 rw [hv]
 rw [← p] at h
 exact ⟨hS,h⟩
theorem ChL.fin {F:Act→World→Prop} {a:Act} {w:World} (h:F a w):ChL P Q S F [] a w:=h
theorem LinY.fin {F:Act→World→Prop} {a:Act} {w:World} (h:F a w):LinY P S F [] a w:=h
end
theorem ChL.call {Q:Exit→Act→World→Prop} {S:World→Prop} {F:Act→World→Prop} {cs:List Oper} {o:Oper} {a:Act} {w:World} {f:FuncId} {xs:Array Operand} {ts:Array TypeId} (ho:o.op = .call { callee:=.value (.func f),args:=xs,argTypes:=ts })
  (hcl:∀ args W,(callFunc f args).run Tryz.prog W = .ok (.enter f args) W) (us:List Value) (he:xs.toList.map a.eval = us) {R:Ending→World→Prop}
  (hc:Calls Tryz.prog f us.toArray w R) (h:∀ e w',R e w'→∃ v,e = .returned v∧S w'∧ChL Tryz.prog Q S F cs (a.put o.dst v) w'):ChL Tryz.prog Q S F (o :: cs) a w:=by
 unfold ChL
 exact xb3h ho hcl us he hc h
end
section
open Go.RowKit Go.BigFrame
def RdMC (s:Nat) (w:World) (v:Value) (L:List (List (List Value))):Prop :=
 ∃ (ao:Option Addr) (len cap:Nat) (vs:List Value),v = .slice ao len cap∧L.length = len∧len≤cap∧cap≤9223372036854775807∧(∀ i,i < len→RdC s w (vs.getD i undef) (L.getD i [])) ∧
  (0 < len→∃ b off,ao = some ⟨b,off,none⟩∧∀ i,i < len→w.cell? ⟨b,off + i,none⟩ = some (vs.getD i undef))
def OwC (T s base:Nat) (w:World) (v:Value) (L:List (List (List Value))):Prop:=w.ownsRow base T s v L.flatten.length L.flatten.flatten
theorem RdMC.cells {s:Nat} {w:World} {ao:Option Addr} {len cap:Nat} {L:List (List (List Value))} (h:RdMC s w (.slice ao len cap) L):L.length = len∧len≤cap∧cap≤9223372036854775807 ∧
  ∀ i,i < len→∃ b off u,ao = some ⟨b,off,none⟩∧w.cell? ⟨b,off + i,none⟩ = some u∧RdC s w u (L.getD i []):=by
 obtain ⟨ao',len',cap',vs,he,h1,h2,h3,h4,h5⟩:=h
 cases he
 refine ⟨h1,h2,h3,fun i hi=>?_⟩
 obtain ⟨b,off,rfl,hc⟩:=h5 (by omega)
 exact ⟨b,off,_,rfl,hc i hi,h4 i hi⟩
theorem xa3f (L:List (List (List Value))) (i:Nat) (h:i < L.length):(L.take (i + 1)).flatten = (L.take i).flatten++L.getD i []:=by
 rw [List.take_succ_eq_append_getElem h,List.flatten_append,List.getD_eq_getElem?_getD,List.getElem?_eq_getElem h]
 simp
theorem xa6n (L:List (List (List Value))) (i:Nat):(L.take i).flatten.length≤L.flatten.length:=by
 have h:=congrArg List.length (congrArg List.flatten (List.take_append_drop i L))
 rw [List.flatten_append,List.length_append] at h
 omega
theorem Tryz.infoN:(Tryz.prog.info? 100).map (fun i=>(i.zero,i.size,i.bytes)) = some (some (.nilIface),1,16):=by kernel_rfl
set_option maxHeartbeats 1000000 in
theorem xb5v (n:Nat) (w:World) (hn:n≤1000000000000) :
  Calls Tryz.prog 143 #[.slice none 0 0,.int .i64 n] w fun e w'=>∃ v',e = .returned v'∧w'.ownsRow w.heap.size 100 1 v' 0 []∧Kept [] w w':=by
 go_enter Tryz.func143,Tryz.ntmps143
 by_cases h0:n = 0
 ·subst h0
  go_wp2
  go_ret
  exact ⟨_,rfl,⟨rfl,Or.inl ⟨rfl,rfl⟩⟩,Kept.refl _ _⟩
 ·have h0':(0:Int) < n:=by omega
  have hbt:Tryz.t100.bytes = 16:=rfl
  have hns:¬ 281474976710656 < Builtin.nextslicecap n 0 * Tryz.t100.bytes:=by
   rw [hbt]; unfold Builtin.nextslicecap; rw [if_pos (by omega)]; omega
  have hmul:(n:Int) * ((Tryz.t100.bytes:Nat):Int)≤281474976710656:=by rw [hbt]; omega
  have hm0:¬ n = 0:=by omega
  clear hbt
  go_wp2_with fail
  have hg1:=grownCap_ge w n 0 100
  have hg2:=grownCap_le_maxLen w n 0 100 (by unfold maxLen; omega)
  unfold grownCap at hg1 hg2
  generalize (Question.appendCap n 0 100).cut (w.tape w.drawn (Question.appendCap n 0 100)) = cap at hg1 hg2 ⊢
  go_ret
  refine ⟨_,rfl,World.ownsRow_made w _ cap (Nat.le_refl _) hg2 ?_,((Kept.refl [] w).alloc _).drew⟩
  rw [Array.size_append,size_zeroCells,size_zeroCells]
  simp
  omega
set_option maxHeartbeats 1000000 in
theorem xb0y (v:Value) (L:List (List (List Value))) (w:World) (h:RdMC 1 w v L) (hs:∀ rows∈L,∀ r∈rows,r.length = 1) (hone:∀ rows∈L,∀ r∈rows,∀ u∈r,u.oneCell' = true) (hl:L.flatten.length≤100000000000) :
  Calls Tryz.prog 134 #[v] w fun e w'=>∃ v',e = .returned v'∧OwC 100 1 w.heap.size w' v' L∧Kept [] w w':=by
 obtain ⟨ao,n,c,_,rfl,_⟩:=id h
 obtain ⟨h1,h2,h3,h4⟩:=h.cells
 have H4:=hide h4
 have HS:=hide hs
 have HO1:=hide hone
 clear h4 h hs hone
 subst h1
 go_enter Tryz.func134,Tryz.ntmps134
 go_wp2_with fail
 go_loopw [3,11] (fun t3 t11 wr=>∃ (i:Nat),i≤L.length∧t11 = .int .i64 i∧t3 = .int .i64 (((L.take i).flatten.length:Nat):Int)∧Hid (wr = w)) (fun _ t _=>L.length - (intOf t).toNat)
 case atStart=>exact ⟨0,Nat.zero_le _,rfl,rfl,hide rfl⟩
 case round =>
  obtain ⟨i,hi,rfl,rfl,HWR⟩:=hrel
  by_cases hlt:i < L.length
  ·have hlt':(i:Int) < L.length:=by omega
   obtain ⟨b,o,u,rfl,c1,r1⟩:=uh H4 i hlt
   have q1:wr.cell? ⟨b,o + i,none⟩ = some u:=by rw [uh HWR]; exact c1
   have HFT:=hide (xa3f L i hlt)
   have HLE:=hide (xa6n L (i + 1))
   rw [uh HFT] at HLE
   clear c1
   generalize L.getD i [] = li at r1 HFT HLE
   obtain ⟨a8,m8,c8,rfl,hm8,_⟩:=id r1
   subst hm8
   clear r1
   obtain ⟨S,hS⟩:∃ S,(L.take i).flatten.length = S:=⟨_,rfl⟩
   have HNX:=hide (by rw [uh HFT,List.length_append,hS]:(L.take (i + 1)).flatten.length = S + li.length)
   have hsb:S + li.length≤100000000000:=by have h9:=uh HLE; rw [List.length_append,hS] at h9; omega
   rw [hS]
   clear hS HLE HFT
   have hs0:¬ ((S:Int) + li.length) < 0:=by omega
   go_wp2
   refine ⟨⟨i + 1,hlt,by go_num,by rw [uh HNX]; go_num,HWR⟩,?_⟩
   simp [intOf]; omega
  ·have hi':i = L.length:=by omega
   have hlt':¬ (i:Int) < L.length:=by omega
   have HTL:=hide (by rw [hi',List.take_length]:(L.take i).flatten.length = L.flatten.length)
   obtain ⟨M,hM⟩:∃ M,L.flatten.length = M:=⟨_,rfl⟩
   rw [uh HTL,hM]
   have hl2:M≤100000000000:=by rw [← hM]; exact hl
   have HL:=hide hl
   have HM:=hide hM
   clear hi' HTL hM hl
   go_wp2_with fail
   rw [uh HWR]
   refine Calls.mono (xb5v M _ (by omega)) ?_
   rintro e w1 ⟨v1,rfl,ho,k1⟩
   have HO1':=hide ho
   have HK1:=hide k1
   clear ho k1
   go_wp2_with fail
   go_loopw [6,27] (fun t6 t27 wz=>∃ (j:Nat),j≤L.length∧t27 = .int .i64 j∧Hid (wz.ownsRow w.heap.size 100 1 t6 (L.take j).flatten.length (L.take j).flatten.flatten)∧Hid (Kept [] w wz)) (fun _ t _=>L.length - (intOf t).toNat)
   case atStart=>exact ⟨0,Nat.zero_le _,rfl,by simpa using HO1',HK1⟩
   case round =>
    obtain ⟨j,hj,rfl,HO,HK⟩:=hrel
    by_cases hjt:j < L.length
    ·have hjt':(j:Int) < L.length:=by omega
     obtain ⟨b,o,u,rfl,c1,r1⟩:=uh H4 j hjt
     have q1:=(uh HK).cell c1 (by simp)
     have HR:=hide (r1.old (uh HK))
     have HFT:=hide (xa3f L j hjt)
     have HLE:=hide (xa6n L (j + 1))
     rw [uh HFT] at HLE
     have hmem:L.getD j []∈L:=by rw [List.getD_eq_getElem?_getD,List.getElem?_eq_getElem hjt]; exact List.getElem_mem _
     have HS1:=hide (uh HS _ hmem)
     have HS2:=hide (uh HO1 _ hmem)
     clear c1 r1 hmem
     generalize L.getD j [] = li at HR HFT HLE HS1 HS2
     obtain ⟨a8,m8,c8,rfl,hm8,_⟩:=id (uh HR)
     subst hm8
     obtain ⟨D,hD⟩:∃ D,(L.take j).flatten = D:=⟨_,rfl⟩
     rw [hD] at HO HFT HLE
     clear hD
     have hsb:D.length + li.length≤100000000000:=by have h9:=uh HLE; have h8:=uh HL; rw [List.length_append] at h9; omega
     have hbz:=(uh HK).size
     obtain ⟨a6,c6,rfl⟩:=xa0h (uh HO)
     go_wp2_with (at_builtin; refine xa0j rfl 105 100 (.tmp 31) (.tmp 32) rfl rfl _ w.heap.size (.nilIface) 1 16 Tryz.underlying105 Tryz.infoN rfl (by decide) (.slice a6 D.length c6) D.length D.flatten (uh HO) a8 li.length c8 li (uh HR) (uh HS1) (uh HS2) (by omega) (by omega) hbz rfl rfl ?_; intro ao1 cap1 w2 HO2 HG2 HA2; have HK2:=hide ((uh HK).grown (uh HG2) (by intro k hk; right; exact ((uh HO).lt k hk).1)); clear HG2)
     refine ⟨⟨j + 1,hjt,by go_num,by rw [uh HFT,List.length_append,List.flatten_append]; exact HO2,HK2⟩,?_⟩
     simp [intOf]; omega
    ·have hj':j = L.length:=by omega
     have hjt':¬ (j:Int) < L.length:=by omega
     have HO2:=hide (by have h9:=uh HO; rw [hj',List.take_length] at h9; exact h9)
     clear hj' HO
     go_wp2
     go_ret
     exact ⟨_,rfl,uh HO2,uh HK⟩
theorem Tryz.infoQ:(Tryz.prog.info? 32).map (fun i=>(i.zero,i.size,i.bytes)) = some (some (.agg #[.slice none 0 0,.slice none 0 0]),2,48):=by kernel_rfl
set_option maxHeartbeats 1000000 in
theorem xb4q (n:Nat) (w:World) (hn:n≤1000000000000) :
  Calls Tryz.prog 144 #[.slice none 0 0,.int .i64 n] w fun e w'=>∃ v',e = .returned v'∧w'.ownsRow w.heap.size 32 2 v' 0 []∧Kept [] w w':=by
 go_enter Tryz.func144,Tryz.ntmps144
 by_cases h0:n = 0
 ·subst h0
  go_wp2
  go_ret
  exact ⟨_,rfl,⟨rfl,Or.inl ⟨rfl,rfl⟩⟩,Kept.refl _ _⟩
 ·have h0':(0:Int) < n:=by omega
  have hbt:Tryz.t32.bytes = 48:=rfl
  have hns:¬ 281474976710656 < Builtin.nextslicecap n 0 * Tryz.t32.bytes:=by
   rw [hbt]; unfold Builtin.nextslicecap; rw [if_pos (by omega)]; omega
  have hmul:(n:Int) * ((Tryz.t32.bytes:Nat):Int)≤281474976710656:=by rw [hbt]; omega
  have hm0:¬ n * 2 = 0:=by omega
  clear hbt
  go_wp2_with fail
  have hg1:=grownCap_ge w n 0 32
  have hg2:=grownCap_le_maxLen w n 0 32 (by unfold maxLen; omega)
  unfold grownCap at hg1 hg2
  generalize (Question.appendCap n 0 32).cut (w.tape w.drawn (Question.appendCap n 0 32)) = cap at hg1 hg2 ⊢
  go_ret
  refine ⟨_,rfl,World.ownsRow_made w _ cap (Nat.le_refl _) hg2 ?_,((Kept.refl [] w).alloc _).drew⟩
  rw [Array.size_append,size_zeroCells,size_zeroCells]
  simp
  omega
set_option maxHeartbeats 1000000 in
theorem xb0p (v:Value) (L:List (List (List Value))) (w:World) (h:RdMC 2 w v L) (hs:∀ rows∈L,∀ r∈rows,r.length = 2) (hone:∀ rows∈L,∀ r∈rows,∀ u∈r,u.oneCell' = true) (hl:L.flatten.length≤100000000000) :
  Calls Tryz.prog 135 #[v] w fun e w'=>∃ v',e = .returned v'∧OwC 32 2 w.heap.size w' v' L∧Kept [] w w':=by
 obtain ⟨ao,n,c,_,rfl,_⟩:=id h
 obtain ⟨h1,h2,h3,h4⟩:=h.cells
 have H4:=hide h4
 have HS:=hide hs
 have HO1:=hide hone
 clear h4 h hs hone
 subst h1
 go_enter Tryz.func135,Tryz.ntmps135
 go_wp2_with fail
 go_loopw [3,11] (fun t3 t11 wr=>∃ (i:Nat),i≤L.length∧t11 = .int .i64 i∧t3 = .int .i64 (((L.take i).flatten.length:Nat):Int)∧Hid (wr = w)) (fun _ t _=>L.length - (intOf t).toNat)
 case atStart=>exact ⟨0,Nat.zero_le _,rfl,rfl,hide rfl⟩
 case round =>
  obtain ⟨i,hi,rfl,rfl,HWR⟩:=hrel
  by_cases hlt:i < L.length
  ·have hlt':(i:Int) < L.length:=by omega
   obtain ⟨b,o,u,rfl,c1,r1⟩:=uh H4 i hlt
   have q1:wr.cell? ⟨b,o + i,none⟩ = some u:=by rw [uh HWR]; exact c1
   have HFT:=hide (xa3f L i hlt)
   have HLE:=hide (xa6n L (i + 1))
   rw [uh HFT] at HLE
   clear c1
   generalize L.getD i [] = li at r1 HFT HLE
   obtain ⟨a8,m8,c8,rfl,hm8,_⟩:=id r1
   subst hm8
   clear r1
   obtain ⟨S,hS⟩:∃ S,(L.take i).flatten.length = S:=⟨_,rfl⟩
   have HNX:=hide (by rw [uh HFT,List.length_append,hS]:(L.take (i + 1)).flatten.length = S + li.length)
   have hsb:S + li.length≤100000000000:=by have h9:=uh HLE; rw [List.length_append,hS] at h9; omega
   rw [hS]
   clear hS HLE HFT
   have hs0:¬ ((S:Int) + li.length) < 0:=by omega
   go_wp2
   refine ⟨⟨i + 1,hlt,by go_num,by rw [uh HNX]; go_num,HWR⟩,?_⟩
   simp [intOf]; omega
  ·have hi':i = L.length:=by omega
   have hlt':¬ (i:Int) < L.length:=by omega
   have HTL:=hide (by rw [hi',List.take_length]:(L.take i).flatten.length = L.flatten.length)
   obtain ⟨M,hM⟩:∃ M,L.flatten.length = M:=⟨_,rfl⟩
   rw [uh HTL,hM]
   have hl2:M≤100000000000:=by rw [← hM]; exact hl
   have HL:=hide hl
   have HM:=hide hM
   clear hi' HTL hM hl
   go_wp2_with fail
   rw [uh HWR]
   refine Calls.mono (xb4q M _ (by omega)) ?_
   rintro e w1 ⟨v1,rfl,ho,k1⟩
   have HO1':=hide ho
   have HK1:=hide k1
   clear ho k1
   go_wp2_with fail
   go_loopw [6,27] (fun t6 t27 wz=>∃ (j:Nat),j≤L.length∧t27 = .int .i64 j∧Hid (wz.ownsRow w.heap.size 32 2 t6 (L.take j).flatten.length (L.take j).flatten.flatten)∧Hid (Kept [] w wz)) (fun _ t _=>L.length - (intOf t).toNat)
   case atStart=>exact ⟨0,Nat.zero_le _,rfl,by simpa using HO1',HK1⟩
   case round =>
    obtain ⟨j,hj,rfl,HO,HK⟩:=hrel
    by_cases hjt:j < L.length
    ·have hjt':(j:Int) < L.length:=by omega
     obtain ⟨b,o,u,rfl,c1,r1⟩:=uh H4 j hjt
     have q1:=(uh HK).cell c1 (by simp)
     have HR:=hide (r1.old (uh HK))
     have HFT:=hide (xa3f L j hjt)
     have HLE:=hide (xa6n L (j + 1))
     rw [uh HFT] at HLE
     have hmem:L.getD j []∈L:=by rw [List.getD_eq_getElem?_getD,List.getElem?_eq_getElem hjt]; exact List.getElem_mem _
     have HS1:=hide (uh HS _ hmem)
     have HS2:=hide (uh HO1 _ hmem)
     clear c1 r1 hmem
     generalize L.getD j [] = li at HR HFT HLE HS1 HS2
     obtain ⟨a8,m8,c8,rfl,hm8,_⟩:=id (uh HR)
     subst hm8
     obtain ⟨D,hD⟩:∃ D,(L.take j).flatten = D:=⟨_,rfl⟩
     rw [hD] at HO HFT HLE
     clear hD
     have hsb:D.length + li.length≤100000000000:=by have h9:=uh HLE; have h8:=uh HL; rw [List.length_append] at h9; omega
     have hbz:=(uh HK).size
     obtain ⟨a6,c6,rfl⟩:=xa0h (uh HO)
     go_wp2_with (at_builtin; refine xa0j rfl 22 32 (.tmp 31) (.tmp 32) rfl rfl _ w.heap.size (.agg #[.slice none 0 0,.slice none 0 0]) 2 48 Tryz.underlying22 Tryz.infoQ rfl (by decide) (.slice a6 D.length c6) D.length D.flatten (uh HO) a8 li.length c8 li (uh HR) (uh HS1) (uh HS2) (by omega) (by omega) hbz rfl rfl ?_; intro ao1 cap1 w2 HO2 HG2 HA2; have HK2:=hide ((uh HK).grown (uh HG2) (by intro k hk; right; exact ((uh HO).lt k hk).1)); clear HG2)
     refine ⟨⟨j + 1,hjt,by go_num,by rw [uh HFT,List.length_append,List.flatten_append]; exact HO2,HK2⟩,?_⟩
     simp [intOf]; omega
    ·have hj':j = L.length:=by omega
     have hjt':¬ (j:Int) < L.length:=by omega
     have HO2:=hide (by have h9:=uh HO; rw [hj',List.take_length] at h9; exact h9)
     clear hj' HO
     go_wp2
     go_ret
     exact ⟨_,rfl,uh HO2,uh HK⟩
set_option maxHeartbeats 1000000 in
theorem xa2i (k:Nat) (d:List Nat) (i:Nat) (w:World) (hk:1≤k∧k≤32) (hd:Dg d) (hf:formB (k:Int) d = true) (hi:i < 2 * k) :
  Calls Tryz.prog 84 #[.int .i64 k,.agg (brow d),.int .i64 i] w fun e w'=>e = .returned (.int .i64 (dgt d i:Nat))∧Kept [] w w':=by
 have hdl:=hd.1
 have HE:=hide (by unfold atE; rw [wide_k hk,if_neg (by simp; omega),if_pos hf]:atE (k:Int) d (i:Int) = 0)
 have HC:=hide (by unfold atC; rw [uh HE,if_pos rfl,Int.toNat_natCast]:atC (k:Int) d (i:Int) = dgt d i)
 have HGA:=hide (heap_alloc_new w (.cells (brow d) 50))
 have HK0:=hide ((Kept.refl [] w).alloc (.cells (brow d) 50))
 go_enter Tryz.func84,Tryz.ntmps84
 go_wp2_with (refine wpList_load_mid rfl 50 _ rfl w.heap.size 0 rfl (d.map u8) _ (xa1g (uh HGA)) Tryz.underlying50 rfl (by rw [List.length_map,hdl]; exact Tryz.size_dig) ?_)
 refine Calls.mono (at_any k d i _ (by omega) (by omega) hd) ?_
 rintro e w1 ⟨rfl,k1⟩
 rw [uh HC,uh HE]
 have HK1:=hide ((uh HK0).trans k1 (by simp))
 clear k1
 go_wp2
 go_ret
 exact ⟨rfl,uh HK1⟩
set_option maxHeartbeats 1000000 in
theorem xb1m (g:Nat) (D O:List Nat) (pv:Value) (w:World) (h:w.heap[g]? = some (.cells (bkC D pv O).toArray 93 (0,0))) (hD:D.length = 32) (hO:O.length = 32) :
  Calls Tryz.prog 167 #[.pointer (some ⟨g,0,none⟩)] w fun e w'=>e = .returned (.agg (brow O))∧Kept [] w w':=by
 have HS2:=hide (by rw [xa0a,hO]; exact Tryz.size_dig:(Tryz.prog.info? 50).map (·.size) = some (brow O).size)
 have HG:=hide (((Kept.refl [] w).alloc (.cells (zb 32) 50)).heap h (by simp))
 have HZ:=hide (heap_alloc_new w (.cells (zb 32) 50))
 have HK:=hide ((Kept.refl [] w).alloc (.cells (zb 32) 50))
 have HR:=hide (bk_row (uh HG) hD).2.2
 clear h
 go_enter Tryz.func167,Tryz.ntmps167
 go_wp2_with (rw [zb32]; refine wpList_load_mid rfl 50 _ rfl g 33 rfl (O.map u8) _ (uh HR) Tryz.underlying50 rfl (by rw [List.length_map,hO]; exact Tryz.size_dig) ?_; refine wpList_store_row rfl 50 _ _ rfl w.heap.size (brow O) rfl rfl _ (zb 32) (uh HZ) (uh HS2) (by rw [xa0l,xa0a,hO]) (xa0f _) ?_)
 refine bodyPost_ret (v:=.agg (brow O)) ?_ rfl ⟨rfl,(uh HK).setRow (by simp) _⟩
 exact results_cell_row rfl _ _ w.heap.size _ (brow O) (0,0) _ rfl (setRow_heap _ _ _ _ _ _ (uh HZ)) Tryz.underlying50 rfl (uh HS2)
set_option maxHeartbeats 1000000 in
theorem xb2f (g x:Nat) (O:List Nat) (kv:Value) (w:World) (h:w.heap[g]? = some (.cells (brC x kv O).toArray 107 (0,0))) (hO:O.length = 32) :
  Calls Tryz.prog 169 #[.pointer (some ⟨g,0,none⟩)] w fun e w'=>e = .returned (.agg (brow O))∧Kept [] w w':=by
 have HS2:=hide (by rw [xa0a,hO]; exact Tryz.size_dig:(Tryz.prog.info? 50).map (·.size) = some (brow O).size)
 have HG:=hide (((Kept.refl [] w).alloc (.cells (zb 32) 50)).heap h (by simp))
 have HZ:=hide (heap_alloc_new w (.cells (zb 32) 50))
 have HK:=hide ((Kept.refl [] w).alloc (.cells (zb 32) 50))
 have HR:=hide (br_row (uh HG)).2.2
 clear h
 go_enter Tryz.func169,Tryz.ntmps169
 go_wp2_with (rw [zb32]; refine wpList_load_mid rfl 50 _ rfl g 2 rfl (O.map u8) _ (uh HR) Tryz.underlying50 rfl (by rw [List.length_map,hO]; exact Tryz.size_dig) ?_; refine wpList_store_row rfl 50 _ _ rfl w.heap.size (brow O) rfl rfl _ (zb 32) (uh HZ) (uh HS2) (by rw [xa0l,xa0a,hO]) (xa0f _) ?_)
 refine bodyPost_ret (v:=.agg (brow O)) ?_ rfl ⟨rfl,(uh HK).setRow (by simp) _⟩
 exact results_cell_row rfl _ _ w.heap.size _ (brow O) (0,0) _ rfl (setRow_heap _ _ _ _ _ _ (uh HZ)) Tryz.underlying50 rfl (uh HS2)
set_option maxHeartbeats 1000000 in
theorem xa2c (k:Nat) (D:List Nat) (ao:Option Addr) (n c:Nat) (ps:Prs) (w:World) (hk:1≤k∧k≤32) (hD:D.length = 32) (h:RdK w (.slice ao n c) ps) (hl:(pairB ps).length≤1000000000000) (hT:Tabs w) :
  Calls Tryz.prog 85 #[.int .i64 k,.agg (brow D),.slice ao n c] w fun e w'=>∃ g,e = .returned (.pointer (some ⟨g,0,none⟩))∧w.heap.size≤g∧w'.heap[g]? = some (.cells (bkC D (.slice ao n c) ((hsZ k).hb ps)).toArray 93 (0,0))∧Kept [] w w':=by
 obtain ⟨O,hO⟩:∃ O,sumD (k:Int) (buckB ps) = O:=⟨_,rfl⟩
 have hOl:O.length = 32:=by rw [← hO]; exact xa0e _ _
 have HO:=hide hO
 have HOg:=hide (show (hsZ k).hb ps = O from hO)
 rw [uh HOg]
 clear hO
 have HB:=hide (xb8i D O ao n c hD hOl)
 have HK0:=hide ((Kept.refl [] w).alloc (.cells (brow D) 50))
 have HG0:=hide (heap_alloc_new w (.cells (brow D) 50))
 go_enter Tryz.func85,Tryz.ntmps85
 go_wp2_with fail
 refine Calls.mono (xb1t k _ ps _ (by omega) (h.old (uh HK0)) hl (hT.k (uh HK0))) ?_
 rintro e w1 ⟨rfl,k1⟩
 rw [uh HO]
 have HK1:=hide ((uh HK0).trans k1 (by simp))
 have HG1:=hide (k1.heap (uh HG0) (by simp))
 clear k1 h hT
 have HZ:=hide (heap_alloc_new w1 (.cells (zb 32) 50))
 have HG2:=hide (((Kept.refl [] w1).alloc (.cells (zb 32) 50)).heap (uh HG1) (by simp))
 have hsz:=(uh HK1).size
 have hs1:w.heap.size < w1.heap.size:=lt_of_block (uh HG1)
 have HG3:=hide (((Kept.refl [w1.heap.size] (w1.alloc (.cells (zb 32) 50))).setRow (g:=w1.heap.size) (Or.inl (by simp)) (brow O)).heap (uh HG2) (by simp; omega))
 have HR3:=hide (setRow_heap _ _ _ (brow O) _ _ (uh HZ))
 have HK3:=hide ((((uh HK1).alloc (.cells (zb 32) 50))).setRow (g:=w1.heap.size) (Or.inr (by omega)) (brow O))
 have hs3:((w1.alloc (.cells (zb 32) 50)).setRow w1.heap.size (brow O)).heap.size = w1.heap.size + 1:=by simp [World.setRow]
 go_wp2_with (first
  | (rw [zb32]; refine wpList_store_row rfl 50 _ _ rfl w1.heap.size (brow O) rfl rfl _ (zb 32) (uh HZ) (by rw [xa0a,hOl]; exact Tryz.size_dig) (by rw [xa0l,xa0a,hOl]) (xa0f _) ?_)
  | (refine wpList_load_row rfl 50 (.tmp 4) rfl w.heap.size rfl 50 (brow D) (0,0) _ (uh HG3) Tryz.underlying50 rfl (by rw [xa0a,hD]; exact Tryz.size_dig) ?_)
  | (refine wpList_load_row rfl 50 (.tmp 7) rfl w1.heap.size rfl 50 (brow O) (0,0) _ (uh HR3) Tryz.underlying50 rfl (by rw [xa0a,hOl]; exact Tryz.size_dig) ?_)
  | (refine xa0p rfl 93 _ rfl (bkC D (.slice ao n c) O).toArray (by simp only [List.map_toArray,List.map_cons,List.map_nil]; exact uh HB) ?_))
 go_ret
 exact ⟨_,rfl,by omega,by rw [← hs3]; exact heap_alloc_new _ _,(uh HK3).alloc _⟩
theorem Tryz.infoDg:(Tryz.prog.info? 50).map (fun i=>(i.zero,i.size,i.bytes)) = some (some (.agg (zb 32)),32,32):=by kernel_rfl
theorem xc2n (m:Nat):madeCells (zb 32) m = (List.replicate m (u8 0)).toArray:=by
 apply Array.ext
 ·simp [size_madeCells]
 ·intro i h1 h2
  have hz:(zb 32).size = 32:=xa0l 32
  have hi:i % 32 < (zb 32).size:=by rw [hz]; omega
  have hall:∀ j (h:j < (zb 32).size),(zb 32)[j] = u8 0:=by
   have e:zb 32 = (List.replicate 32 (u8 0)).toArray:=rfl
   rw [e]
   intro j h
   simp only [List.getElem_toArray,List.getElem_replicate]
  simp only [madeCells,Array.getElem_map,Array.getElem_range,List.getElem_toArray,List.getElem_replicate]
  rw [hz,getElem!_pos (zb 32) (i % 32) hi]
  exact hall _ hi
theorem xb4d (n:Nat) (W:World) (hn:n≤1000000):(Instr.makeSlice 62 (.int .i64 n) (.int .i64 n)).run Tryz.prog W = .ok (.slice (some ⟨W.heap.size,0,none⟩) n n) (W.alloc (.cells (List.replicate (n * 32) (u8 0)).toArray 50)):=by
 have hz:=Tryz.infoDg
 obtain ⟨i0,hi⟩:∃ it,Tryz.prog.info? 50 = some it:=by
  cases h:Tryz.prog.info? 50 with
  | none=>rw [h] at hz; cases hz
  | some it=>exact ⟨it,rfl⟩
 rw [hi] at hz
 simp only [Option.map_some,Option.some.injEq,Prod.mk.injEq] at hz
 have h:=run_make (P:=Tryz.prog) W 62 50 i0 (.agg (zb 32)) Tryz.underlying62 hi hz.1 .i64 .i64 n n (by omega) (by omega) (by rw [hz.2.2]; omega) (by omega)
 rw [h,hz.2.1,Int.toNat_natCast,show (Value.agg (zb 32)).cells = zb 32 from rfl,xc2n]
theorem xc1l (a : Addr) (w : World) : (method 326 86 (.pointer (some a)) "notary/hamt.sum").run Tryz.prog w = .ok (167, .pointer (some a)) w := by kernel_rfl
theorem xc0i (a : Addr) (w : World) : (method 326 104 (.pointer (some a)) "notary/hamt.sum").run Tryz.prog w = .ok (169, .pointer (some a)) w := by kernel_rfl
theorem TreeAt.own {S:Nat→Prop} {k f:Nat} {W:World} {v:Value} {L:Prs} (h:TreeAt S (hsZ k) W f v L) :
  (∃ g D pv,sgl (hsZ k) L = true∧v = bkV g∧D.length = 32∧W.heap[g]? = some (.cells (bkC D pv (nodP (hsZ k) f L)).toArray 93 (0,0))) ∨
  (∃ g x kv,sgl (hsZ k) L = false∧v = brV g∧W.heap[g]? = some (.cells (brC x kv (nodP (hsZ k) f L)).toArray 107 (0,0))):=by
 cases hs:sgl (hsZ k) L with
 | true =>
  obtain ⟨g,h1,pv,h2,h3,_,_⟩:=h.bk hs
  exact Or.inl ⟨g,_,pv,rfl,h1,(xa2v _ _).1,by rw [xb7i hs]; exact h3⟩
 | false =>
  cases f with
  | zero =>
   have:=h.1
   rw [hs] at this; cases this
  | succ f =>
   obtain ⟨g,kv,vs,h1,h2,h3,_⟩:=h.2 hs
   exact Or.inr ⟨g,_,kv,rfl,h1,h3⟩
set_option maxHeartbeats 2000000 in
theorem xa9m (S:Nat→Prop) (k f:Nat) (kv:Value) (vs:List Value) (Ls:List Prs) (w:World) (hS:SRow S w kv vs) (hl:vs.length = Ls.length) (hn:0 < vs.length∧vs.length≤16) (ht:∀ i,i < vs.length→TreeAt S (hsZ k) w f (vs.getD i undef) (Ls.getD i [])) :
  Calls Tryz.prog 47 #[kv] w fun e w'=>∃ g n,e = .returned (.slice (some ⟨g,0,none⟩) n n)∧n = vs.length∧w.heap.size≤g∧w'.heap[g]? = some (.cells (flatD (Ls.map (nodP (hsZ k) f))).toArray 50 (0,0))∧Kept [] w w':=by
 obtain ⟨b,off,cap,rfl,hc1,hc2,_,hc3⟩:=hS
 have HC:=hide hc3
 have HT:=hide ht
 clear hc3 ht
 obtain ⟨n,hnn⟩:∃ n,vs.length = n:=⟨_,rfl⟩
 rw [hnn] at hl hn hc1 HC HT ⊢
 have HN:=hide hnn
 have HDG:=hide (fun i (hi:i < n)=>by rw [List.getD_eq_getElem?_getD,List.getElem?_map,List.getD_eq_getElem?_getD,List.getElem?_eq_getElem (by omega)]; rfl:∀ i,i < n→(Ls.map (nodP (hsZ k) f)).getD i [] = nodP (hsZ k) f (Ls.getD i []))
 have HDL:=hide (by rw [List.length_map]; exact hl.symm:(Ls.map (nodP (hsZ k) f)).length = n)
 have HD32:=hide (fun d hd=>by obtain ⟨L,_,rfl⟩:=List.mem_map.1 hd; exact (nod_dg k f L).1:∀ d∈Ls.map (nodP (hsZ k) f),d.length = 32)
 generalize Ls.map (nodP (hsZ k) f) = ds at HDG HDL HD32 ⊢
 have hmk:=xb4d n w (by omega)
 clear hnn hl
 have hm1:=xc1l
 have hm2:=xc0i
 go_enter Tryz.func47,Tryz.ntmps47
 go_wp2
 go_loopw [11] (fun t11 wr=>∃ (i:Nat),i≤n∧t11 = .int .i64 i∧Hid (wr.heap[w.heap.size]? = some (.cells (flatD (ds.take i)++List.replicate ((n - i) * 32) (u8 0)).toArray 50 (0,0)))∧Hid (Kept [] w wr)) (fun t _=>n - (intOf t).toNat)
 case atStart=>exact ⟨0,Nat.zero_le _,rfl,hide (by simp only [List.take_zero,flatD,List.map_nil,List.flatten_nil,List.nil_append,Nat.sub_zero]; exact heap_alloc_new _ _),hide ((Kept.refl [] w).alloc _)⟩
 case round =>
  obtain ⟨i,hi,rfl,HG,HK⟩:=hrel
  by_cases hlt:i < n
  ·have hlt':(i:Int) < n:=by omega
   have hcl:=(uh HK).cell (uh HC i hlt) (by simp)
   have ht:=(uh HT i hlt).agr (Agr.nil (uh HK))
   have hO:=uh HDG i hlt
   generalize Ls.getD i [] = Li at ht hO
   generalize vs.getD i undef = v at hcl ht
   have hO2:=(nod_dg k f Li).1
   have hown:=ht.own
   generalize nodP (hsZ k) f Li = O at hown hO hO2
   have HO:=hide hO
   have hszw:w.heap.size < wr.heap.size:=lt_of_block (uh HG)
   clear ht hO
   rcases hown with ⟨g,D,pv,hs,rfl,hD,hh⟩ | ⟨g,x,kv,hs,rfl,hh⟩
   ·clear hs
    go_wp2_with fail
    refine Calls.mono (xb1m g D O pv wr hh hD hO2) ?_
    rintro e w1 ⟨rfl,k1⟩
    clear hh
    obtain ⟨q1,q2⟩:=xb3q (k1.heap (uh HG) (by simp)) hlt (uh HDL) (uh HD32) (uh HO)
    have Q1:=hide q1
    have Q2:=hide q2
    have HK1:=hide (xa2m (L:=[]) w.heap.size (Or.inr (Nat.le_refl _)) (O.map u8) (i * 32) w1 ((uh HK).trans k1 (by simp)))
    clear q1 q2 k1
    go_wp2_with (refine wpList_store_mid rfl 50 (.tmp 20) (.tmp 19) rfl w.heap.size (i * 32) (brow O) rfl rfl (by rw [xa0a,hO2]; exact uh Q1) (by rw [xa0a,hO2]; exact Tryz.size_dig) (xa0f _) ?_)
    refine ⟨⟨i + 1,hlt,by go_num,Q2,HK1⟩,?_⟩
    simp [intOf]; omega
   ·clear hs
    go_wp2_with fail
    refine Calls.mono (xb2f g x O kv wr hh hO2) ?_
    rintro e w1 ⟨rfl,k1⟩
    clear hh
    obtain ⟨q1,q2⟩:=xb3q (k1.heap (uh HG) (by simp)) hlt (uh HDL) (uh HD32) (uh HO)
    have Q1:=hide q1
    have Q2:=hide q2
    have HK1:=hide (xa2m (L:=[]) w.heap.size (Or.inr (Nat.le_refl _)) (O.map u8) (i * 32) w1 ((uh HK).trans k1 (by simp)))
    clear q1 q2 k1
    go_wp2_with (refine wpList_store_mid rfl 50 (.tmp 20) (.tmp 19) rfl w.heap.size (i * 32) (brow O) rfl rfl (by rw [xa0a,hO2]; exact uh Q1) (by rw [xa0a,hO2]; exact Tryz.size_dig) (xa0f _) ?_)
    refine ⟨⟨i + 1,hlt,by go_num,Q2,HK1⟩,?_⟩
    simp [intOf]; omega
  ·have hie:i = n:=by omega
   subst hie
   have hlt':¬ (i:Int) < i:=by omega
   have HF:=hide (by have h9:=uh HG; rw [List.take_of_length_le (by rw [uh HDL]; exact Nat.le_refl _),Nat.sub_self,Nat.zero_mul,List.replicate_zero,List.append_nil] at h9; exact h9:wr.heap[w.heap.size]? = some (.cells (flatD ds).toArray 50 (0,0)))
   go_wp2
   go_ret
   exact ⟨_,_,rfl,rfl,Nat.le_refl _,uh HF,uh HK⟩
theorem ta_bk (g:Nat) (w:World):(Instr.typeAssert (bkV g) 100 86 true).run Tryz.prog w = .ok (.tuple #[.pointer (some ⟨g,0,none⟩),.bool true]) w:=by kernel_rfl
theorem ta_br (g:Nat) (w:World):(Instr.typeAssert (brV g) 100 86 true).run Tryz.prog w = .ok (.tuple #[.pointer none,.bool false]) w:=by kernel_rfl
theorem tb_bk (g:Nat) (w:World):(Instr.typeAssert (bkV g) 100 104 true).run Tryz.prog w = .ok (.tuple #[.pointer none,.bool false]) w:=by kernel_rfl
theorem tb_br (g:Nat) (w:World):(Instr.typeAssert (brV g) 100 104 true).run Tryz.prog w = .ok (.tuple #[.pointer (some ⟨g,0,none⟩),.bool true]) w:=by kernel_rfl
theorem ta_nil (w:World):(Instr.typeAssert .nilIface 100 86 true).run Tryz.prog w = .ok (.tuple #[.pointer none,.bool false]) w:=by kernel_rfl
theorem tb_nil (w:World):(Instr.typeAssert .nilIface 100 104 true).run Tryz.prog w = .ok (.tuple #[.pointer none,.bool false]) w:=by kernel_rfl
theorem xb8d {H:Hs} (hH:H.Ok) {d:Nat} {L:Prs} (h:(kidsL H d L).length = 1):kidsL H d L = [L]:=by
 unfold kidsL at h ⊢
 rw [List.length_map] at h
 match hp:prs H d L,h with
 | [i],_=>rw [List.map_cons,List.map_nil,ch_all (xb9l hH hp)]
theorem xb4g {H:Hs} (hH:H.Ok) {d:Nat} {L:Prs} (hn:L≠[]) (h:(kidsL H d L).length≠1):sgl H L = false :=
 xc2h hH (d:=d) hn (by unfold kidsL at h; rwa [List.length_map] at h)
theorem xa5t {H:Hs} (hH:H.Ok) {d:Nat} {L:Prs} (hn:L≠[]):0 < (kidsL H d L).length∧(kidsL H d L).length≤16:=by
 unfold kidsL
 rw [List.length_map]
 refine ⟨?_,prs_le _ _ _⟩
 have:=prs_ne hH (d:=d) hn
 cases h:prs H d L with
 | nil=>exact absurd h this
 | cons _ _=>simp
theorem xb7l {w:World} {g:Nat} {t:TypeId} {fr:Nat × Nat} {ds:List (List Nat)} (h:w.heap[g]? = some (.cells (flatD ds).toArray t fr)) (hd:∀ d∈ds,Dg d) (hl:ds.length≤1000000):RdD w (.slice (some ⟨g,0,none⟩) ds.length ds.length) ds:=by
 refine ⟨_,ds.length,ds.length,rfl,rfl,Nat.le_refl _,by omega,hd,fun _=>⟨g,0,rfl,fun i hi j v hj=>?_⟩⟩
 have hdl:∀ d∈ds,d.length = 32:=fun d hm=>(hd d hm).1
 have hj2:j < 32:=by
  have:=(List.getElem?_eq_some_iff.1 hj).1
  rw [List.length_map] at this
  have h9:(ds.getD i []).length = 32:=by rw [List.getD_eq_getElem?_getD,List.getElem?_eq_getElem hi]; exact hdl _ (List.getElem_mem _)
  omega
 rw [cell_of_row _ _ _ _ _ _ h,List.getElem?_toArray,Nat.zero_add,xb3i hdl i hi j hj2]
 exact hj
set_option maxHeartbeats 2000000 in
theorem xa2n (S:Nat→Prop) (k f x:Nat) (kv:Value) (vs:List Value) (L:Prs) (w:World) (hk:1≤k∧k≤32) (hS:∀ y,w.heap.size≤y→S y) (hn:L≠[]) (hx:x = bm (hsZ k) (63 - f) L)
  (hrow:SRow S w kv vs) (hlen:vs.length = (kidsL (hsZ k) (63 - f) L).length) (ht:∀ i,i < vs.length→TreeAt S (hsZ k) w f (vs.getD i undef) ((kidsL (hsZ k) (63 - f) L).getD i [])) (hT:Tabs w) :
  Calls Tryz.prog 114 #[.int .i64 k,.int .u16 (x:Int),kv] w fun e w'=>∃ v,e = .returned v∧TreeAt S (hsZ k) w' (f + 1) v L∧Kept [] w w':=by
 have hH:=hsZ_ok hk
 have hpos:=xa5t hH (d:=63 - f) hn
 rw [← hlen] at hpos
 have hcnt:=xa1q (hsZ k) (63 - f) L
 rw [← hx,← hlen] at hcnt
 have hxl:x < 65536:=by rw [hx]; exact bm_lt _ _ _
 have HRow:=hide hrow
 have HT:=hide ht
 have HTb:=hide hT
 obtain ⟨b,off,cap,rfl,hc1,hc2,hSb,hc3⟩:=hrow
 have c0:=hc3 0 hpos.1
 rw [Nat.add_zero] at c0
 have HC:=hide hc3
 have ht0:=ht 0 hpos.1
 clear hc3 ht hT
 obtain ⟨n,hnn⟩:∃ n,vs.length = n:=⟨_,rfl⟩
 rw [hnn] at hpos hcnt hc1 hlen ⊢
 have hp0:(0:Int) < n:=by omega
 obtain ⟨v0,hv0⟩:∃ v,vs.getD 0 undef = v:=⟨_,rfl⟩
 rw [hv0] at c0 ht0
 have HX:=hide hx
 have HN:=hide hnn
 have HCn:=hide hcnt
 have HLn:=hide hlen
 have HV0:=hide hv0
 have HH:=hide hH
 clear hv0 hx hnn hcnt hlen hH
 have hm1:=ta_bk
 have hm2:=ta_br
 have key:(∃ g,v0 = bkV g∧n = 1∧TreeAt S (hsZ k) w (f + 1) v0 L)∨(sgl (hsZ k) L = false∧((∃ g,v0 = bkV g∧n≠1)∨∃ g,v0 = brV g)):=by
  by_cases h1:n = 1
  ·have hko:=xb8d (uh HH) (d:=63 - f) (L:=L) (by rw [← uh HLn,h1])
   rw [hko] at ht0
   have ht0':TreeAt S (hsZ k) w f v0 L:=ht0
   rcases ht0'.own with ⟨g,D,pv,hs0,e,hD,hh⟩ | ⟨g,y,kv,hs0,e,hh⟩
   ·obtain ⟨g',e,hb⟩:=ht0'.bk hs0
    exact Or.inl ⟨g',e,h1,by rw [e]; exact TreeAt.ofBk (f + 1) hb hs0⟩
   ·exact Or.inr ⟨hs0,Or.inr ⟨g,e⟩⟩
  ·refine Or.inr ⟨xb4g (uh HH) (d:=63 - f) hn (by rw [← uh HLn]; exact h1),?_⟩
   rcases ht0.own with ⟨g,D,pv,hs0,e,hD,hh⟩ | ⟨g,y,kv,hs0,e,hh⟩
   ·exact Or.inl ⟨g,e,h1⟩
   ·exact Or.inr ⟨g,e⟩
 clear ht0
 rcases key with ⟨g,rfl,h1,hB⟩ | ⟨hs,hor⟩
 ·have HB:=hide hB
  clear hB
  subst h1
  go_enter Tryz.func114,Tryz.ntmps114
  go_wp2
  go_ret
  exact ⟨_,rfl,uh HB,Kept.refl _ _⟩
 ·obtain ⟨ds,hds⟩:∃ ds,(kidsL (hsZ k) (63 - f) L).map (nodP (hsZ k) f) = ds:=⟨_,rfl⟩
  have HDS:=hide hds
  have HDl:=hide (by rw [← hds,List.length_map,← uh HLn]:ds.length = n)
  have HDg:=hide (fun d hd=>by rw [← hds] at hd; obtain ⟨M,_,rfl⟩:=List.mem_map.1 hd; exact ⟨nod_dg k f M,xb8x hk f M⟩:∀ d∈ds,Dg d∧formB (k:Int) d = true)
  clear hds
  have HE0:=hide (xc1d hk hxl (fun d hd=>(uh HDg d hd).2) (by rw [← uh HCn,uh HDl]) (by intro e; have:=uh HDl; rw [e] at this; simp at this; omega):branchE (k:Int) x ds = 0)
  obtain ⟨O,hO⟩:∃ O,nodP (hsZ k) (f + 1) L = O:=⟨_,rfl⟩
  have HO:=hide (by rw [← hO,nod_br hs,← uh HX]; unfold kidsL at HDS; rw [← uh HDS,List.map_map]; rfl:sumD (k:Int) (branchB (k:Int) x ds) = O)
  have hOl:O.length = 32:=by rw [← hO]; exact (nod_dg k _ L).1
  have HOO:=hide hO
  clear hO
  have HB:=hide (xb8a x O (some ⟨b,off,none⟩) n cap hOl)
  go_enter Tryz.func114,Tryz.ntmps114
  rcases hor with ⟨g,rfl,h1⟩ | ⟨g,rfl⟩
  case' inl=>have h1':¬ (n:Int) = 1:=by omega
  all_goals
   go_wp2_with fail
   refine Calls.mono (xa9m S k f _ vs _ w (by rw [← uh HN]; exact uh HRow) (by rw [uh HN]; exact uh HLn) (by rw [uh HN]; exact hpos) (uh HT)) ?_
   rintro e w1 ⟨g1,n1,rfl,rfl,hg1,hr1,k1⟩
   rw [uh HDS] at hr1
   have hrd:=xb7l hr1 (fun d hd=>(uh HDg d hd).1) (by rw [uh HDl]; omega)
   rw [uh HDl] at hrd
   have HR1:=hide hrd
   have HK1:=hide k1
   clear hr1 hrd k1
   rw [uh HN]
   go_wp2_with fail
   refine Calls.mono (xb2y k x _ ds w1 (by omega) hxl (uh HR1) ((uh HTb).k (uh HK1))) ?_
   rintro e w2 ⟨rfl,k2⟩
   rw [uh HE0,show sunD 0 (k:Int) (branchB (k:Int) x ds) = sumD (k:Int) (branchB (k:Int) x ds) from rfl,uh HO]
   have HK2:=hide ((uh HK1).trans k2 (by simp))
   clear k2 HR1
   have HZ:=hide (heap_alloc_new w2 (.cells (zb 32) 50))
   have HR3:=hide (setRow_heap _ _ _ (brow O) _ _ (uh HZ))
   have hs2:=(uh HK2).size
   have HK3:=hide ((((uh HK2).alloc (.cells (zb 32) 50))).setRow (g:=w2.heap.size) (Or.inr (by omega)) (brow O))
   have hs3:((w2.alloc (.cells (zb 32) 50)).setRow w2.heap.size (brow O)).heap.size = w2.heap.size + 1:=by simp
   go_wp2_with (first
    | (rw [zb32]; refine wpList_store_row rfl 50 _ _ rfl w2.heap.size (brow O) rfl rfl _ (zb 32) (uh HZ) (by rw [xa0a,hOl]; exact Tryz.size_dig) (by rw [xa0l,xa0a,hOl]) (xa0f _) ?_)
    | (refine wpList_load_row rfl 50 (.tmp 9) rfl w2.heap.size rfl 50 (brow O) (0,0) _ (uh HR3) Tryz.underlying50 rfl (by rw [xa0a,hOl]; exact Tryz.size_dig) ?_)
    | (refine xa0p rfl 107 _ rfl (brC x (.slice (some ⟨b,off,none⟩) n cap) O).toArray (by simp only [List.map_toArray,List.map_cons,List.map_nil]; exact uh HB) ?_))
   have hkf:=(uh HK3).alloc (.cells (brC x (.slice (some ⟨b,off,none⟩) n cap) O).toArray 107)
   have HA:=hide (Agr.nil (S:=S) hkf)
   go_ret
   refine ⟨_,rfl,⟨fun h9=>absurd h9 (by rw [hs]; decide),fun _=>⟨w2.heap.size + 1,.slice (some ⟨b,off,none⟩) n cap,vs,rfl,hS _ (by omega),?_,?_,by rw [uh HN]; exact uh HLn,fun i hi=>(uh HT i hi).agr (uh HA)⟩⟩,hkf⟩
   ·rw [← uh HX,uh HOO,← hs3]; exact heap_alloc_new _ _
   ·have h9:=(uh HRow).agr (uh HA); rw [uh HN] at h9; exact h9
end
section
open Go Go.RowKit Go.BigFrame
theorem ln_sp {P:Program} {Q:Exit→Act→World→Prop} {id:Nat} {o0 o1 o2 o3 o4 o5 o6 o7 o8 o9:Oper} {a:Act} {w:World} (hm:P.follows .mixedOrders = true) (hb:linB #[o0,o1,o2,o3,o4,o5,o6,o7,o8,o9] [0,1,2,3,4,5,6] [7,8,9] [] = true) (hg:([o0,o1,o2,o3,o4,o5,o6]++([o7,o8,o9]++[])).all (fun o=>o.guard.isNone) = true) (S:World→Prop) (hS:S w.drew)
  (h:LinY P S (ChL P Q S (Q .normal) [o7,o8,o9]) [o0,o1,o2,o3,o4,o5,o6] a w.drew):(Code.region id #[o0,o1,o2,o3,o4,o5,o6,o7,o8,o9] true).wp P Q a w:=xa0u (R:=[0,1,2,3,4,5,6]) (C:=[7,8,9]) (rs:=[o0,o1,o2,o3,o4,o5,o6]) (cs:=[o7,o8,o9]) hm hb rfl rfl hg hS h
theorem ln_kid {P:Program} {Q:Exit→Act→World→Prop} {id:Nat} {o0 o1 o2 o3 o4 o5 o6 o7 o8 o9 o10 o11 o12:Oper} {a:Act} {w:World} (hm:P.follows .mixedOrders = true) (hb:linB #[o0,o1,o2,o3,o4,o5,o6,o7,o8,o9,o10,o11,o12] [0,1,2,3,4,5,6,7,8] [9,10,11,12] [] = true) (hg:([o0,o1,o2,o3,o4,o5,o6,o7,o8]++([o9,o10,o11,o12]++[])).all (fun o=>o.guard.isNone) = true) (S:World→Prop) (hS:S w.drew)
  (h:LinY P S (ChL P Q S (Q .normal) [o9,o10,o11,o12]) [o0,o1,o2,o3,o4,o5,o6,o7,o8] a w.drew):(Code.region id #[o0,o1,o2,o3,o4,o5,o6,o7,o8,o9,o10,o11,o12] true).wp P Q a w:=xa0u (R:=[0,1,2,3,4,5,6,7,8]) (C:=[9,10,11,12]) (rs:=[o0,o1,o2,o3,o4,o5,o6,o7,o8]) (cs:=[o9,o10,o11,o12]) hm hb rfl rfl hg hS h
theorem ln_fk {P:Program} {Q:Exit→Act→World→Prop} {id:Nat} {o0 o1 o2 o3 o4 o5 o6 o7 o8 o9 o10 o11 o12 o13 o14:Oper} {a:Act} {w:World} (hm:P.follows .mixedOrders = true) (hb:linB #[o0,o1,o2,o3,o4,o5,o6,o7,o8,o9,o10,o11,o12,o13,o14] [0,1,2,3,4,5,6,7,8] [9] [10,11,12,13,14] = true) (hg:([o0,o1,o2,o3,o4,o5,o6,o7,o8]++([o9]++[o10,o11,o12,o13,o14])).all (fun o=>o.guard.isNone) = true) (S:World→Prop) (hS:S w.drew)
  (h:LinY P S (ChL P Q S (fun a w=>S w∧LinY P S (Q .normal) [o10,o11,o12,o13,o14] a w) [o9]) [o0,o1,o2,o3,o4,o5,o6,o7,o8] a w.drew):(Code.region id #[o0,o1,o2,o3,o4,o5,o6,o7,o8,o9,o10,o11,o12,o13,o14] true).wp P Q a w:=wp_lin (R:=[0,1,2,3,4,5,6,7,8]) (C:=[9]) (T:=[10,11,12,13,14]) (rs:=[o0,o1,o2,o3,o4,o5,o6,o7,o8]) (cs:=[o9]) (ts:=[o10,o11,o12,o13,o14]) hm hb rfl rfl rfl hg hS h
theorem ln_wk {P:Program} {Q:Exit→Act→World→Prop} {id:Nat} {o0 o1 o2 o3 o4 o5 o6 o7 o8 o9 o10 o11 o12 o13 o14:Oper} {a:Act} {w:World} (hm:P.follows .mixedOrders = true) (hb:linB #[o0,o1,o2,o3,o4,o5,o6,o7,o8,o9,o10,o11,o12,o13,o14] [0,1,2,3,4,6,7,8,9,10,11] [5,12,13,14] [] = true) (hg:([o0,o1,o2,o3,o4,o6,o7,o8,o9,o10,o11]++([o5,o12,o13,o14]++[])).all (fun o=>o.guard.isNone) = true) (S:World→Prop) (hS:S w.drew)
  (h:LinY P S (ChL P Q S (Q .normal) [o5,o12,o13,o14]) [o0,o1,o2,o3,o4,o6,o7,o8,o9,o10,o11] a w.drew):(Code.region id #[o0,o1,o2,o3,o4,o5,o6,o7,o8,o9,o10,o11,o12,o13,o14] true).wp P Q a w:=xa0u (R:=[0,1,2,3,4,6,7,8,9,10,11]) (C:=[5,12,13,14]) (rs:=[o0,o1,o2,o3,o4,o6,o7,o8,o9,o10,o11]) (cs:=[o5,o12,o13,o14]) hm hb rfl rfl hg hS h
theorem ln_wo {P:Program} {Q:Exit→Act→World→Prop} {id:Nat} {o0 o1 o2 o3 o4 o5 o6 o7 o8 o9 o10 o11 o12 o13 o14 o15:Oper} {a:Act} {w:World} (hm:P.follows .mixedOrders = true) (hb:linB #[o0,o1,o2,o3,o4,o5,o6,o7,o8,o9,o10,o11,o12,o13,o14,o15] [0,1,2,3,4,5,7,8,9,10,11,12] [6,13,14,15] [] = true) (hg:([o0,o1,o2,o3,o4,o5,o7,o8,o9,o10,o11,o12]++([o6,o13,o14,o15]++[])).all (fun o=>o.guard.isNone) = true) (S:World→Prop) (hS:S w.drew)
  (h:LinY P S (ChL P Q S (Q .normal) [o6,o13,o14,o15]) [o0,o1,o2,o3,o4,o5,o7,o8,o9,o10,o11,o12] a w.drew):(Code.region id #[o0,o1,o2,o3,o4,o5,o6,o7,o8,o9,o10,o11,o12,o13,o14,o15] true).wp P Q a w:=xa0u (R:=[0,1,2,3,4,5,7,8,9,10,11,12]) (C:=[6,13,14,15]) (rs:=[o0,o1,o2,o3,o4,o5,o7,o8,o9,o10,o11,o12]) (cs:=[o6,o13,o14,o15]) hm hb rfl rfl hg hS h
theorem ln_wn {P:Program} {Q:Exit→Act→World→Prop} {id:Nat} {o0 o1 o2 o3 o4 o5 o6 o7 o8 o9 o10 o11 o12 o13 o14 o15 o16 o17:Oper} {a:Act} {w:World} (hm:P.follows .mixedOrders = true) (hb:linB2 #[o0,o1,o2,o3,o4,o5,o6,o7,o8,o9,o10,o11,o12,o13,o14,o15,o16,o17] [0,1,2,3,4,5,7,8,9,10,11,12,13] 6 14 [15,16,17] = true) (hg:([o0,o1,o2,o3,o4,o5,o7,o8,o9,o10,o11,o12,o13]++(o6 :: o14 :: [o15,o16,o17])).all (fun o=>o.guard.isNone) = true) (S:World→Prop) (hS:S w.drew)
  (h:LinY P S (fun a w=>ChL P Q S (Q .normal) (o6 :: o14 :: [o15,o16,o17]) a w∧ChL P Q S (Q .normal) (o14 :: o6 :: [o15,o16,o17]) a w) [o0,o1,o2,o3,o4,o5,o7,o8,o9,o10,o11,o12,o13] a w.drew):(Code.region id #[o0,o1,o2,o3,o4,o5,o6,o7,o8,o9,o10,o11,o12,o13,o14,o15,o16,o17] true).wp P Q a w:=xc1h (R:=[0,1,2,3,4,5,7,8,9,10,11,12,13]) (i:=6) (j:=14) (C:=[15,16,17]) (rs:=[o0,o1,o2,o3,o4,o5,o7,o8,o9,o10,o11,o12,o13]) (cs:=[o15,o16,o17]) hm hb rfl rfl rfl rfl hg hS h
theorem ln_ar {P:Program} {Q:Exit→Act→World→Prop} {id:Nat} {o0 o1 o2 o3 o4 o5 o6 o7 o8 o9 o10:Oper} {a:Act} {w:World} (hm:P.follows .mixedOrders = true) (hb:linB #[o0,o1,o2,o3,o4,o5,o6,o7,o8,o9,o10] [0,1,2,3,4,5,6,7,8] [9,10] [] = true) (hg:([o0,o1,o2,o3,o4,o5,o6,o7,o8]++([o9,o10]++[])).all (fun o=>o.guard.isNone) = true) (S:World→Prop) (hS:S w.drew)
  (h:LinY P S (ChL P Q S (Q .normal) [o9,o10]) [o0,o1,o2,o3,o4,o5,o6,o7,o8] a w.drew):(Code.region id #[o0,o1,o2,o3,o4,o5,o6,o7,o8,o9,o10] true).wp P Q a w:=xa0u (R:=[0,1,2,3,4,5,6,7,8]) (C:=[9,10]) (rs:=[o0,o1,o2,o3,o4,o5,o6,o7,o8]) (cs:=[o9,o10]) hm hb rfl rfl hg hS h
theorem ln_eg {P:Program} {Q:Exit→Act→World→Prop} {id:Nat} {o0 o1 o2 o3 o4 o5 o6 o7 o8 o9 o10 o11 o12:Oper} {a:Act} {w:World} (hm:P.follows .mixedOrders = true) (hb:linB #[o0,o1,o2,o3,o4,o5,o6,o7,o8,o9,o10,o11,o12] [0,1,2,3,4,5,6,7,8,9,10,11,12] [] [] = true) (S:World→Prop) (hS:S w.drew)
  (h:LinG P #[o0,o1,o2,o3,o4,o5,o6,o7,o8,o9,o10,o11,o12] S (Q .normal) [o0,o1,o2,o3,o4,o5,o6,o7,o8,o9,o10,o11,o12] a w.drew):(Code.region id #[o0,o1,o2,o3,o4,o5,o6,o7,o8,o9,o10,o11,o12] true).wp P Q a w:=xb6i (R:=[0,1,2,3,4,5,6,7,8,9,10,11,12]) (rs:=[o0,o1,o2,o3,o4,o5,o6,o7,o8,o9,o10,o11,o12]) hm hb rfl hS h
theorem ln_ew {P:Program} {Q:Exit→Act→World→Prop} {id:Nat} {o0 o1 o2 o3 o4 o5 o6 o7 o8 o9 o10:Oper} {a:Act} {w:World} (hm:P.follows .mixedOrders = true) (hb:linB #[o0,o1,o2,o3,o4,o5,o6,o7,o8,o9,o10] [0,1,2,3,4,5] [6,7,8,9,10] [] = true) (hg:([o0,o1,o2,o3,o4,o5]++([o6,o7,o8,o9,o10]++[])).all (fun o=>o.guard.isNone) = true) (S:World→Prop) (hS:S w.drew)
  (h:LinY P S (ChL P Q S (Q .normal) [o6,o7,o8,o9,o10]) [o0,o1,o2,o3,o4,o5] a w.drew):(Code.region id #[o0,o1,o2,o3,o4,o5,o6,o7,o8,o9,o10] true).wp P Q a w:=xa0u (R:=[0,1,2,3,4,5]) (C:=[6,7,8,9,10]) (rs:=[o0,o1,o2,o3,o4,o5]) (cs:=[o6,o7,o8,o9,o10]) hm hb rfl rfl hg hS h
theorem ln_eo {P:Program} {Q:Exit→Act→World→Prop} {id:Nat} {o0 o1 o2 o3 o4 o5 o6 o7 o8:Oper} {a:Act} {w:World} (hm:P.follows .mixedOrders = true) (hb:linB #[o0,o1,o2,o3,o4,o5,o6,o7,o8] [0,1,2,3,4] [5,6,7,8] [] = true) (hg:([o0,o1,o2,o3,o4]++([o5,o6,o7,o8]++[])).all (fun o=>o.guard.isNone) = true) (S:World→Prop) (hS:S w.drew)
  (h:LinY P S (ChL P Q S (Q .normal) [o5,o6,o7,o8]) [o0,o1,o2,o3,o4] a w.drew):(Code.region id #[o0,o1,o2,o3,o4,o5,o6,o7,o8] true).wp P Q a w:=xa0u (R:=[0,1,2,3,4]) (C:=[5,6,7,8]) (rs:=[o0,o1,o2,o3,o4]) (cs:=[o5,o6,o7,o8]) hm hb rfl rfl hg hS h
theorem ln_li {P:Program} {Q:Exit→Act→World→Prop} {id:Nat} {o0 o1 o2 o3 o4 o5 o6 o7 o8 o9 o10 o11 o12 o13 o14 o15:Oper} {a:Act} {w:World} (hm:P.follows .mixedOrders = true) (hb:linB #[o0,o1,o2,o3,o4,o5,o6,o7,o8,o9,o10,o11,o12,o13,o14,o15] [0,1,2,3,4,5,6,7,8,9,10,11,13] [12,14,15] [] = true) (hg:([o0,o1,o2,o3,o4,o5,o6,o7,o8,o9,o10,o11,o13]++([o12,o14,o15]++[])).all (fun o=>o.guard.isNone) = true) (S:World→Prop) (hS:S w.drew)
  (h:LinY P S (ChL P Q S (Q .normal) [o12,o14,o15]) [o0,o1,o2,o3,o4,o5,o6,o7,o8,o9,o10,o11,o13] a w.drew):(Code.region id #[o0,o1,o2,o3,o4,o5,o6,o7,o8,o9,o10,o11,o12,o13,o14,o15] true).wp P Q a w:=xa0u (R:=[0,1,2,3,4,5,6,7,8,9,10,11,13]) (C:=[12,14,15]) (rs:=[o0,o1,o2,o3,o4,o5,o6,o7,o8,o9,o10,o11,o13]) (cs:=[o12,o14,o15]) hm hb rfl rfl hg hS h
end
section
open Go.RowKit Go.BigFrame
theorem RdC.tk {s:Nat} {w:World} {ao:Option Addr} {n c:Nat} {rows:List (List Value)} (h:RdC s w (.slice ao n c) rows) {m:Nat} (hm:m≤n):RdC s w (.slice ao m c) (rows.take m):=by
 obtain ⟨ao',len,cap,e,h1,h2,h3,h4⟩:=h
 cases e
 refine ⟨ao,m,c,rfl,by rw [List.length_take]; omega,by omega,h3,fun hp=>?_⟩
 obtain ⟨b,off,rfl,hc⟩:=h4 (by omega)
 exact ⟨b,off,rfl,fun i hi=>by rw [List.getElem_take]; exact hc i (by rw [List.length_take] at hi; omega)⟩
theorem RdC.dp {s:Nat} {w:World} {b off n c:Nat} {rows:List (List Value)} (h:RdC s w (.slice (some ⟨b,off,none⟩) n c) rows) {m:Nat} (hm:m≤n):RdC s w (.slice (some ⟨b,off + m * s,none⟩) (n - m) (c - m)) (rows.drop m):=by
 obtain ⟨ao',len,cap,e,h1,h2,h3,h4⟩:=h
 cases e
 refine ⟨_,n - m,c - m,rfl,by rw [List.length_drop]; omega,by omega,by omega,fun hp=>?_⟩
 obtain ⟨b',off',e,hc⟩:=h4 (by omega)
 cases e
 refine ⟨b,off + m * s,rfl,fun i hi=>?_⟩
 rw [List.getElem_drop,show off + m * s + i * s = off + (m + i) * s by rw [Nat.add_mul]; omega]
 exact hc (m + i) (by rw [List.length_drop] at hi; omega)
theorem ownsBase {w:World} {T s B C:Nat} {v:Value} {L:List (List (List Value))} (h:OwC T s B w v L) (hBC:C≤B):OwC T s C w v L:=by
 obtain ⟨h1,h2⟩:=h
 refine ⟨h1,?_⟩
 rcases h2 with h2 | ⟨g,cap,cur,hv,hg,r⟩
 ·exact Or.inl h2
 ·exact Or.inr ⟨g,cap,cur,hv,Nat.le_trans hBC hg,r⟩
set_option maxHeartbeats 1000000 in
theorem xa4h (b off n c fr to:Nat) (iv:Value) (rows its:List (List Value)) (w:World) (h:RdC 2 w (.slice (some ⟨b,off,none⟩) n c) rows) (hi:RdC 2 w iv its) (h1:fr≤n) (h2:to≤n) (hl:n≤10000000000) (hl2:its.length≤10000000000)
  (hs:∀ r∈rows,r.length = 2) (hone:∀ r∈rows,∀ u∈r,u.oneCell' = true) (hsi:∀ r∈its,r.length = 2) (honei:∀ r∈its,∀ u∈r,u.oneCell' = true) :
  Calls Tryz.prog 118 #[.slice (some ⟨b,off,none⟩) n c,.int .i64 fr,.int .i64 to,iv] w fun e w'=>∃ v',e = .returned v'∧OwC 32 2 w.heap.size w' v' [rows.take fr,its,rows.drop to]∧Kept [] w w':=by
 obtain ⟨ai,ni,ci,rfl,hi1,_⟩:=id hi
 subst hi1
 obtain ⟨_,_,_,e0,hr1,hr2,hr3,_⟩:=id h
 cases e0
 have q1:¬ c < fr:=by omega
 have q2:¬ n < to:=by omega
 have q3:fr≤c:=by omega
 have HR:=hide h
 have HI:=hide hi
 obtain ⟨o2,hcase⟩:∃ o2,(c = to∧o2 = off)∨(¬ c = to∧o2 = off + to * 2):=by
  by_cases hct:c = to
  ·exact ⟨off,Or.inl ⟨hct,rfl⟩⟩
  ·exact ⟨_,Or.inr ⟨hct,rfl⟩⟩
 have HD:=hide (by
  rcases hcase with ⟨hct,rfl⟩ | ⟨hct,rfl⟩
  ·exact ⟨_,n - to,c - to,rfl,by rw [List.length_drop]; omega,by omega,by omega,fun hp=>by omega⟩
  ·first | exact h.dp h2 | (have h9:=h.dp h2; rw [Nat.mul_one] at h9; exact h9):RdC 2 w (.slice (some ⟨b,o2,none⟩) (n - to) (c - to)) (rows.drop to))
 have HT:=hide (h.tk h1)
 have HCA:=hide hcase
 have HRL:=hide hr1
 clear h hi hcase hr1
 go_enter Tryz.func118,Tryz.ntmps118
 go_wp2
 refine ln_sp (by kernel_rfl) (by kernel_rfl) rfl (fun W=>Kept [] w W) (Kept.refl [] w).drew ?_
 refine LinY.mv (x:=.tmp 0) rfl (.slice (some ⟨b,off,none⟩) n c) rfl (by simp only [Act.put,sa1,sa2,sa3]; rfl) ?_
 refine LinY.mv (x:=.tmp 1) rfl (.int .i64 fr) rfl (by simp only [Act.put,sa1,sa2,sa3]; rfl) ?_
 refine LinY.rd (.slice (some ⟨b,off,none⟩) fr c) (fun W hW=>by go_simp) (by simp only [Act.put,sa1,sa2,sa3]; rfl) ?_
 refine LinY.mv (x:=.tmp 3) rfl (.slice ai its.length ci) rfl (by simp only [Act.put,sa1,sa2,sa3]; rfl) ?_
 refine LinY.mv (x:=.tmp 0) rfl (.slice (some ⟨b,off,none⟩) n c) rfl (by simp only [Act.put,sa1,sa2,sa3]; rfl) ?_
 refine LinY.mv (x:=.tmp 2) rfl (.int .i64 to) rfl (by simp only [Act.put,sa1,sa2,sa3]; rfl) ?_
 refine LinY.rd (.slice (some ⟨b,o2,none⟩) (n - to) (c - to)) (fun W hW=>by rcases uh HCA with ⟨h8,h9⟩ | ⟨h8,h9⟩ <;> (subst h9; go_simp)) (by simp only [Act.put,sa1,sa2,sa3]; rfl) ?_
 have hbs:Tryz.prog.underlying 207 = some (.slice 22):=Tryz.underlying207
 refine ChL.op (w':=w.drew.alloc (.cells #[.slice (some ⟨b,off,none⟩) fr c,.slice ai its.length ci,.slice (some ⟨b,o2,none⟩) (n - to) (c - to)] 22)) (.slice (some ⟨w.heap.size,0,none⟩) 3 3) (by go_simp; skip) (((Kept.refl [] w).drew).alloc _) (by simp only [Act.put,sa1,sa2,sa3]; rfl) ?_
 have HW1:=hide (((Kept.refl [] w).drew).alloc (.cells #[.slice (some ⟨b,off,none⟩) fr c,.slice ai its.length ci,.slice (some ⟨b,o2,none⟩) (n - to) (c - to)] 22))
 have HG1:=hide (show ∀ X,(w.drew.alloc X).heap[w.heap.size]? = some X from fun X=>heap_alloc_new w.drew X); have HG1:=hide (uh HG1 (.cells #[.slice (some ⟨b,off,none⟩) fr c,.slice ai its.length ci,.slice (some ⟨b,o2,none⟩) (n - to) (c - to)] 22))
 generalize w.drew.alloc (.cells #[.slice (some ⟨b,off,none⟩) fr c,.slice ai its.length ci,.slice (some ⟨b,o2,none⟩) (n - to) (c - to)] 22) = W1 at HW1 HG1 ⊢
 have hrm:RdMC 2 W1 (.slice (some ⟨w.heap.size,0,none⟩) 3 3) [rows.take fr,its,rows.drop to]:=by
  refine ⟨_,3,3,[.slice (some ⟨b,off,none⟩) fr c,.slice ai its.length ci,.slice (some ⟨b,o2,none⟩) (n - to) (c - to)],rfl,rfl,Nat.le_refl _,by omega,fun i hi=>?_,fun _=>⟨w.heap.size,0,rfl,fun i hi=>?_⟩⟩
  ·match i,hi with
   | 0,_=>exact (uh HT).old (uh HW1)
   | 1,_=>exact (uh HI).old (uh HW1)
   | 2,_=>exact (uh HD).old (uh HW1)
  ·rw [cell_of_row _ _ _ _ _ _ (uh HG1)]
   match i,hi with
   | 0,_=>rfl
   | 1,_=>rfl
   | 2,_=>rfl
 have hsz:∀ l∈[rows.take fr,its,rows.drop to],(∀ r∈l,r.length = 2)∧∀ r∈l,∀ u∈r,u.oneCell' = true:=by
  intro l hl
  simp only [List.mem_cons,List.not_mem_nil,or_false] at hl
  rcases hl with rfl | rfl | rfl
  ·exact ⟨fun r hr=>hs r (List.mem_of_mem_take hr),fun r hr=>hone r (List.mem_of_mem_take hr)⟩
  ·exact ⟨hsi,honei⟩
  ·exact ⟨fun r hr=>hs r (List.mem_of_mem_drop hr),fun r hr=>hone r (List.mem_of_mem_drop hr)⟩
 refine ChL.call rfl Tryz.call135 [.slice (some ⟨w.heap.size,0,none⟩) 3 3] rfl (xb0p _ _ W1 hrm (fun l hl=>(hsz l hl).1) (fun l hl=>(hsz l hl).2) (by have:=uh HRL; simp; omega)) ?_
 rintro e w2 ⟨v',rfl,ho,k2⟩
 have hk2:=(uh HW1).trans k2 (by simp)
 have hsz1:=(uh HW1).size
 refine ⟨v',rfl,hk2,?_⟩
 simp only [Act.put,sa1,sa2,sa3]
 refine ChL.op v' (by go_simp) hk2 (by simp only [Act.put,sa1,sa2,sa3]; rfl) (ChL.fin ?_)
 go_wp2
 go_ret
 exact ⟨_,rfl,ownsBase ho hsz1,hk2⟩
set_option maxHeartbeats 1000000 in
theorem xa2x (b off n c fr to:Nat) (iv:Value) (rows its:List (List Value)) (w:World) (h:RdC 1 w (.slice (some ⟨b,off,none⟩) n c) rows) (hi:RdC 1 w iv its) (h1:fr≤n) (h2:to≤n) (hl:n≤10000000000) (hl2:its.length≤10000000000)
  (hs:∀ r∈rows,r.length = 1) (hone:∀ r∈rows,∀ u∈r,u.oneCell' = true) (hsi:∀ r∈its,r.length = 1) (honei:∀ r∈its,∀ u∈r,u.oneCell' = true) :
  Calls Tryz.prog 116 #[.slice (some ⟨b,off,none⟩) n c,.int .i64 fr,.int .i64 to,iv] w fun e w'=>∃ v',e = .returned v'∧OwC 100 1 w.heap.size w' v' [rows.take fr,its,rows.drop to]∧Kept [] w w':=by
 obtain ⟨ai,ni,ci,rfl,hi1,_⟩:=id hi
 subst hi1
 obtain ⟨_,_,_,e0,hr1,hr2,hr3,_⟩:=id h
 cases e0
 have q1:¬ c < fr:=by omega
 have q2:¬ n < to:=by omega
 have q3:fr≤c:=by omega
 have HR:=hide h
 have HI:=hide hi
 obtain ⟨o2,hcase⟩:∃ o2,(c = to∧o2 = off)∨(¬ c = to∧o2 = off + to ):=by
  by_cases hct:c = to
  ·exact ⟨off,Or.inl ⟨hct,rfl⟩⟩
  ·exact ⟨_,Or.inr ⟨hct,rfl⟩⟩
 have HD:=hide (by
  rcases hcase with ⟨hct,rfl⟩ | ⟨hct,rfl⟩
  ·exact ⟨_,n - to,c - to,rfl,by rw [List.length_drop]; omega,by omega,by omega,fun hp=>by omega⟩
  ·first | exact h.dp h2 | (have h9:=h.dp h2; rw [Nat.mul_one] at h9; exact h9):RdC 1 w (.slice (some ⟨b,o2,none⟩) (n - to) (c - to)) (rows.drop to))
 have HT:=hide (h.tk h1)
 have HCA:=hide hcase
 have HRL:=hide hr1
 clear h hi hcase hr1
 go_enter Tryz.func116,Tryz.ntmps116
 go_wp2
 refine ln_sp (by kernel_rfl) (by kernel_rfl) rfl (fun W=>Kept [] w W) (Kept.refl [] w).drew ?_
 refine LinY.mv (x:=.tmp 0) rfl (.slice (some ⟨b,off,none⟩) n c) rfl (by simp only [Act.put,sa1,sa2,sa3]; rfl) ?_
 refine LinY.mv (x:=.tmp 1) rfl (.int .i64 fr) rfl (by simp only [Act.put,sa1,sa2,sa3]; rfl) ?_
 refine LinY.rd (.slice (some ⟨b,off,none⟩) fr c) (fun W hW=>by go_simp) (by simp only [Act.put,sa1,sa2,sa3]; rfl) ?_
 refine LinY.mv (x:=.tmp 3) rfl (.slice ai its.length ci) rfl (by simp only [Act.put,sa1,sa2,sa3]; rfl) ?_
 refine LinY.mv (x:=.tmp 0) rfl (.slice (some ⟨b,off,none⟩) n c) rfl (by simp only [Act.put,sa1,sa2,sa3]; rfl) ?_
 refine LinY.mv (x:=.tmp 2) rfl (.int .i64 to) rfl (by simp only [Act.put,sa1,sa2,sa3]; rfl) ?_
 refine LinY.rd (.slice (some ⟨b,o2,none⟩) (n - to) (c - to)) (fun W hW=>by rcases uh HCA with ⟨h8,h9⟩ | ⟨h8,h9⟩ <;> (subst h9; go_simp)) (by simp only [Act.put,sa1,sa2,sa3]; rfl) ?_
 have hbs:Tryz.prog.underlying 205 = some (.slice 105):=Tryz.underlying205
 refine ChL.op (w':=w.drew.alloc (.cells #[.slice (some ⟨b,off,none⟩) fr c,.slice ai its.length ci,.slice (some ⟨b,o2,none⟩) (n - to) (c - to)] 105)) (.slice (some ⟨w.heap.size,0,none⟩) 3 3) (by go_simp; skip) (((Kept.refl [] w).drew).alloc _) (by simp only [Act.put,sa1,sa2,sa3]; rfl) ?_
 have HW1:=hide (((Kept.refl [] w).drew).alloc (.cells #[.slice (some ⟨b,off,none⟩) fr c,.slice ai its.length ci,.slice (some ⟨b,o2,none⟩) (n - to) (c - to)] 105))
 have HG1:=hide (show ∀ X,(w.drew.alloc X).heap[w.heap.size]? = some X from fun X=>heap_alloc_new w.drew X); have HG1:=hide (uh HG1 (.cells #[.slice (some ⟨b,off,none⟩) fr c,.slice ai its.length ci,.slice (some ⟨b,o2,none⟩) (n - to) (c - to)] 105))
 generalize w.drew.alloc (.cells #[.slice (some ⟨b,off,none⟩) fr c,.slice ai its.length ci,.slice (some ⟨b,o2,none⟩) (n - to) (c - to)] 105) = W1 at HW1 HG1 ⊢
 have hrm:RdMC 1 W1 (.slice (some ⟨w.heap.size,0,none⟩) 3 3) [rows.take fr,its,rows.drop to]:=by
  refine ⟨_,3,3,[.slice (some ⟨b,off,none⟩) fr c,.slice ai its.length ci,.slice (some ⟨b,o2,none⟩) (n - to) (c - to)],rfl,rfl,Nat.le_refl _,by omega,fun i hi=>?_,fun _=>⟨w.heap.size,0,rfl,fun i hi=>?_⟩⟩
  ·match i,hi with
   | 0,_=>exact (uh HT).old (uh HW1)
   | 1,_=>exact (uh HI).old (uh HW1)
   | 2,_=>exact (uh HD).old (uh HW1)
  ·rw [cell_of_row _ _ _ _ _ _ (uh HG1)]
   match i,hi with
   | 0,_=>rfl
   | 1,_=>rfl
   | 2,_=>rfl
 have hsz:∀ l∈[rows.take fr,its,rows.drop to],(∀ r∈l,r.length = 1)∧∀ r∈l,∀ u∈r,u.oneCell' = true:=by
  intro l hl
  simp only [List.mem_cons,List.not_mem_nil,or_false] at hl
  rcases hl with rfl | rfl | rfl
  ·exact ⟨fun r hr=>hs r (List.mem_of_mem_take hr),fun r hr=>hone r (List.mem_of_mem_take hr)⟩
  ·exact ⟨hsi,honei⟩
  ·exact ⟨fun r hr=>hs r (List.mem_of_mem_drop hr),fun r hr=>hone r (List.mem_of_mem_drop hr)⟩
 refine ChL.call rfl Tryz.call134 [.slice (some ⟨w.heap.size,0,none⟩) 3 3] rfl (xb0y _ _ W1 hrm (fun l hl=>(hsz l hl).1) (fun l hl=>(hsz l hl).2) (by have:=uh HRL; simp; omega)) ?_
 rintro e w2 ⟨v',rfl,ho,k2⟩
 have hk2:=(uh HW1).trans k2 (by simp)
 have hsz1:=(uh HW1).size
 refine ⟨v',rfl,hk2,?_⟩
 simp only [Act.put,sa1,sa2,sa3]
 refine ChL.op v' (by go_simp) hk2 (by simp only [Act.put,sa1,sa2,sa3]; rfl) (ChL.fin ?_)
 go_wp2
 go_ret
 exact ⟨_,rfl,ownsBase ho hsz1,hk2⟩
def KidAt (S:Nat→Prop) (H:Hs) (W:World) (f:Nat) (v:Value) (L:Prs):Prop:=(L = []∧v = .nilIface)∨TreeAt S H W f v L
theorem KidAt.agr {S:Nat→Prop} {H:Hs} {W W':World} {f:Nat} {v:Value} {L:Prs} (h:KidAt S H W f v L) (a:Agr S W W'):KidAt S H W' f v L:=by
 rcases h with h | h
 ·exact Or.inl h
 ·exact Or.inr (h.agr a)
theorem xa8s {b i:Nat} (h:i≤16):rankB b (i:Int) = cnt b i:=by
 unfold rankB
 rw [if_neg (by omega)]
 by_cases h1:i≤15
 ·rw [if_pos (by omega),Int.toNat_natCast]
 ·rw [if_neg (by omega),show i = 16 by omega]
set_option maxHeartbeats 2000000 in
theorem xc2e (S:Nat→Prop) (H:Hs) (f g i:Nat) (L:Prs) (w:World) (h:TreeAt S H w (f + 1) (brV g) L) (hs:sgl H L = false) (hi:i < 16) :
  Calls Tryz.prog 99 #[.pointer (some ⟨g,0,none⟩),.int .i64 i] w fun e w'=>∃ v,e = .returned v∧KidAt S H w' f v (ch H (63 - f) i L)∧Kept [] w w':=by
 obtain ⟨g',kv,vs,e,hS,hh,hrow,hlen,hk⟩:=h.2 hs
 have eg:g' = g:=by injection e with _ e2; injection e2 with e3; injection e3 with e4; injection e4 with e5; exact e5.symm
 subst eg
 clear e
 obtain ⟨b0,b1,_⟩:=br_row hh
 have hbl:=bm_lt H (63 - f) L
 have hbit:=bm_bit (H:=H) (d:=63 - f) (L:=L) hi
 have hcl:=xa1q H (63 - f) L
 have hka:=kid_at (H:=H) (d:=63 - f) (L:=L) hi
 have hsa:=set_at (bm H (63 - f) L) hi
 generalize bm H (63 - f) L = x at b0 hbl hbit hcl hka hsa
 have HB0:=hide b0
 have HB1:=hide b1
 have hrk:=xa8s (b:=x) (i:=i) (by omega)
 have hhas:=xb7u x i (by omega)
 clear hh
 cases ht:x.testBit i with
 | false =>
  rw [ht] at hhas hbit
  have hne:ch H (63 - f) i L = []:=by simpa using hbit.symm
  rw [hne]
  clear hne hka hsa hbit hcl hk hrow hlen h hS b1
  go_enter Tryz.func99,Tryz.ntmps99
  go_wp2_with fail
  refine Calls.mono (xb3y x i w hbl (by omega)) ?_
  rintro e w1 ⟨rfl,k1⟩
  rw [hhas]
  go_wp2
  go_ret
  exact ⟨_,rfl,Or.inl ⟨rfl,rfl⟩,k1⟩
 | true =>
  rw [ht] at hhas
  have hk2:=hka ht
  have hcn:=(hsa ht).2
  rw [← hcl,← hlen] at hcn
  have hkc:=hk _ hcn
  have hch:(kidsL H (63 - f) L).getD (cnt x i) [] = ch H (63 - f) i L:=by rw [List.getD_eq_getElem?_getD,hk2]; rfl
  rw [hch] at hkc
  obtain ⟨b,off,cap,rfl,hc1,hc2,hSb,hc3⟩:=hrow
  have hcc:=hc3 _ hcn
  generalize vs.getD (cnt x i) undef = v at hkc hcc
  obtain ⟨c,hc⟩:∃ c,cnt x i = c:=⟨_,rfl⟩
  rw [hc] at hcn hcc hrk
  obtain ⟨n,hn⟩:∃ n,vs.length = n:=⟨_,rfl⟩
  rw [hn] at hcn hc1 HB1 b1
  have HCC:=hide hcc
  have HKC:=hide hkc
  have hcn':(c:Int) < n:=by omega
  clear hka hsa hbit hcl hk hc3 hk2 hch hc hn hlen hkc hcc
  go_enter Tryz.func99,Tryz.ntmps99
  go_wp2_with fail
  refine Calls.mono (xb3y x i w hbl (by omega)) ?_
  rintro e w1 ⟨rfl,k1⟩
  rw [hhas]
  have HK1:=hide k1
  clear k1 b0 b1
  go_upto_region 3 with fail
  refine ln_kid (by kernel_rfl) (by kernel_rfl) rfl (fun W=>Kept [] w W) (uh HK1).drew ?_
  refine LinY.mv (x:=.tmp 0) rfl (.pointer (some ⟨g',0,none⟩)) rfl (by simp only [Act.put,sa1,sa2,sa3]; rfl) ?_
  refine LinY.rd (.pointer (some ⟨g',0,none⟩)) (fun W hW=>by go_simp) (by simp only [Act.put,sa1,sa2,sa3]; rfl) ?_
  refine LinY.rd (.pointer (some ⟨g',1,none⟩)) (fun W hW=>by go_simp) (by simp only [Act.put,sa1,sa2,sa3]; rfl) ?_
  refine LinY.rd (.slice (some ⟨b,off,none⟩) n cap) (fun W hW=>by have h9:=hW.cell (uh HB1) (by simp); go_simp) (by simp only [Act.put,sa1,sa2,sa3]; rfl) ?_
  refine LinY.mv (x:=.tmp 0) rfl (.pointer (some ⟨g',0,none⟩)) rfl (by simp only [Act.put,sa1,sa2,sa3]; rfl) ?_
  refine LinY.rd (.pointer (some ⟨g',0,none⟩)) (fun W hW=>by go_simp) (by simp only [Act.put,sa1,sa2,sa3]; rfl) ?_
  refine LinY.rd (.pointer (some ⟨g',0,none⟩)) (fun W hW=>by go_simp) (by simp only [Act.put,sa1,sa2,sa3]; rfl) ?_
  refine LinY.rd (.int .u16 x) (fun W hW=>by have h9:=hW.cell (uh HB0) (by simp); go_simp) (by simp only [Act.put,sa1,sa2,sa3]; rfl) ?_
  refine LinY.mv (x:=.tmp 1) rfl (.int .i64 i) rfl (by simp only [Act.put,sa1,sa2,sa3]; rfl) ?_
  refine ChL.call rfl Tryz.call26 [.int .u16 x,.int .i64 i] rfl (xa6k x i _ hbl (by omega)) ?_
  rintro e w2 ⟨rfl,k2⟩
  have hk2:=((uh HK1).drew).trans k2 (by simp)
  refine ⟨_,rfl,hk2,?_⟩
  rw [hrk]
  simp only [Act.put,sa1,sa2,sa3]
  have h8:=hk2.cell (uh HCC) (by simp)
  refine ChL.op (.pointer (some ⟨b,off + c,none⟩)) (by go_simp) hk2 (by simp only [Act.put,sa1,sa2,sa3]; rfl) ?_
  refine ChL.op v (by go_simp) hk2 (by simp only [Act.put,sa1,sa2,sa3]; rfl) ?_
  refine ChL.op v (by go_simp) hk2 (by simp only [Act.put,sa1,sa2,sa3]; rfl) (ChL.fin ?_)
  go_wp2
  go_ret
  exact ⟨_,rfl,Or.inr ((uh HKC).agr (Agr.nil hk2)),hk2⟩
def A2 (R:Value→Prs→Prop) (vs:List Value) (Ls:List Prs):Prop:=vs.length = Ls.length∧∀ i,i < vs.length→R (vs.getD i undef) (Ls.getD i [])
theorem A2.nil (R:Value→Prs→Prop):A2 R [] []:=⟨rfl,fun i h=>by simp at h⟩
theorem A2.one {R:Value→Prs→Prop} {v:Value} {L:Prs} (h:R v L):A2 R [v] [L]:=⟨rfl,fun i hi=>by
 have:i = 0:=by simp at hi; omega
 subst this; exact h⟩
theorem A2.app {R:Value→Prs→Prop} {a b:List Value} {A B:List Prs} (h:A2 R a A) (k:A2 R b B):A2 R (a++b) (A++B):=by
 refine ⟨by rw [List.length_append,List.length_append,h.1,k.1],fun i hi=>?_⟩
 rw [List.length_append] at hi
 by_cases hlt:i < a.length
 ·have h1:=h.2 i hlt
  rw [List.getD_eq_getElem?_getD,List.getElem?_append_left hlt,List.getD_eq_getElem?_getD,List.getElem?_append_left (by rw [← h.1]; exact hlt),← List.getD_eq_getElem?_getD,← List.getD_eq_getElem?_getD]
  exact h1
 ·have h1:=k.2 (i - a.length) (by omega)
  rw [List.getD_eq_getElem?_getD,List.getElem?_append_right (by omega),List.getD_eq_getElem?_getD,List.getElem?_append_right (by rw [← h.1]; omega),← h.1,← List.getD_eq_getElem?_getD,← List.getD_eq_getElem?_getD]
  exact h1
theorem A2.tk {R:Value→Prs→Prop} {a:List Value} {A:List Prs} (h:A2 R a A) (m:Nat):A2 R (a.take m) (A.take m):=by
 refine ⟨by rw [List.length_take,List.length_take,h.1],fun i hi=>?_⟩
 rw [List.length_take] at hi
 have h1:=h.2 i (by omega)
 rw [List.getD_eq_getElem?_getD,List.getElem?_take_of_lt (by omega),List.getD_eq_getElem?_getD,List.getElem?_take_of_lt (by omega),← List.getD_eq_getElem?_getD,← List.getD_eq_getElem?_getD]
 exact h1
theorem A2.dp {R:Value→Prs→Prop} {a:List Value} {A:List Prs} (h:A2 R a A) (m:Nat):A2 R (a.drop m) (A.drop m):=by
 refine ⟨by rw [List.length_drop,List.length_drop,h.1],fun i hi=>?_⟩
 rw [List.length_drop] at hi
 have h1:=h.2 (m + i) (by omega)
 rw [List.getD_eq_getElem?_getD,List.getElem?_drop,List.getD_eq_getElem?_getD,List.getElem?_drop,← List.getD_eq_getElem?_getD,← List.getD_eq_getElem?_getD]
 exact h1
theorem A2.imp {R R':Value→Prs→Prop} {a:List Value} {A:List Prs} (h:A2 R a A) (hi:∀ v L,R v L→R' v L):A2 R' a A:=⟨h.1,fun i hl=>hi _ _ (h.2 i hl)⟩
def sing (v:Value):List Value:=[v]
theorem xb4j (l:List Value):(l.map sing).flatten = l:=by
 induction l with
 | nil=>rfl
 | cons v l ih=>rw [List.map_cons,List.flatten_cons,ih]; rfl
theorem SRow.rdC {S:Nat→Prop} {w:World} {v:Value} {vs:List Value} (h:SRow S w v vs):RdC 1 w v (vs.map sing):=by
 obtain ⟨b,off,cap,rfl,h1,h2,_,h4⟩:=h
 refine ⟨_,_,_,rfl,by rw [List.length_map],h1,h2,fun _=>⟨b,off,rfl,fun i hi j u hj=>?_⟩⟩
 rw [List.length_map] at hi
 rw [List.getElem_map] at hj
 have hj0:j = 0:=by
  have:=(List.getElem?_eq_some_iff.1 hj).1
  simp [sing] at this; omega
 subst hj0
 have h5:=h4 i hi
 rw [List.getD_eq_getElem?_getD,List.getElem?_eq_getElem hi,Option.getD_some] at h5
 rw [Nat.mul_one,Nat.add_zero,h5]
 exact hj
theorem xa8z {S:Nat→Prop} {w:World} {v:Value} {B:Nat} {a b c:List Value} (h:OwC 100 1 B w v [a.map sing,b.map sing,c.map sing]) (hn:0 < (a++(b++c)).length) (hl:(a++(b++c)).length≤1000000) (hS:∀ y,B≤y→S y):SRow S w v (a++(b++c)):=by
 unfold OwC at h
 have e1:[a.map sing,b.map sing,c.map sing].flatten.length = (a++(b++c)).length:=by simp
 have e2:[a.map sing,b.map sing,c.map sing].flatten.flatten = a++(b++c):=by
  simp only [List.flatten_cons,List.flatten_nil,List.append_nil,List.flatten_append,xb4j]
 rw [e1,e2] at h
 have h0:=h
 rcases h.2 with ⟨_,h9⟩ | ⟨g,cap,cur,rfl,hg,hh,hc,hm,_⟩
 ·omega
 ·refine ⟨g,0,cap,rfl,hc,by unfold maxLen at hm; omega,hS g hg,fun i hi=>?_⟩
  have h9:=h0.cells (g:=g) rfl i ((a++(b++c)).getD i undef) (by rw [List.getD_eq_getElem?_getD,List.getElem?_eq_getElem hi]; rfl)
  rw [Addr.add_lit] at h9
  exact h9
theorem xa9e {S:Nat→Prop} {k f:Nat} {W:World} {v:Value} {L:Prs} (h:TreeAt S (hsZ k) W f v L):v.oneCell' = true:=by
 rcases h.own with ⟨g,_,_,_,rfl,_⟩ | ⟨g,_,_,_,rfl,_⟩ <;> rfl
theorem xc2k {S:Nat→Prop} {k f:Nat} {W:World} {vs:List Value} {Ls:List Prs} (h:A2 (TreeAt S (hsZ k) W f) vs Ls):(∀ r∈vs.map sing,r.length = 1)∧∀ r∈vs.map sing,∀ u∈r,u.oneCell' = true:=by
 constructor
 ·intro r hr
  obtain ⟨v,_,rfl⟩:=List.mem_map.1 hr
  rfl
 ·intro r hr u hu
  obtain ⟨v,hv,rfl⟩:=List.mem_map.1 hr
  have:u = v:=by simpa [sing] using hu
  subst this
  obtain ⟨i,hi,rfl⟩:=List.getElem_of_mem hv
  have h1:=h.2 i hi
  rw [List.getD_eq_getElem?_getD,List.getElem?_eq_getElem hi,Option.getD_some] at h1
  exact xa9e h1
theorem en_bk (g:Nat) (w:World):(binOp .eql 100 (bkV g) .nilIface).run Tryz.prog w = .ok (.bool false) w:=by kernel_rfl
theorem en_br (g:Nat) (w:World):(binOp .eql 100 (brV g) .nilIface).run Tryz.prog w = .ok (.bool false) w:=by kernel_rfl
theorem eg_bk (g:Nat) (x y:Operand) (w:World):(eqGuard .eql 100 x y (bkV g) .nilIface).run Tryz.prog w = .ok () w:=by kernel_rfl
theorem eg_br (g:Nat) (x y:Operand) (w:World):(eqGuard .eql 100 x y (brV g) .nilIface).run Tryz.prog w = .ok () w:=by kernel_rfl
theorem en_nil (w:World):(binOp .eql 100 .nilIface .nilIface).run Tryz.prog w = .ok (.bool true) w:=by kernel_rfl
set_option maxHeartbeats 2000000 in
theorem xb1b (S:Nat→Prop) (k f g i:Nat) (L L':Prs) (nv:Value) (w:World) (hk:1≤k∧k≤32) (hS:∀ y,w.heap.size≤y→S y) (h:TreeAt S (hsZ k) w (f + 1) (brV g) L) (hs:sgl (hsZ k) L = false) (hi:i < 16)
  (hn:KidAt S (hsZ k) w f nv (ch (hsZ k) (63 - f) i L')) (hsw:∀ j,j < 16→j≠i→ch (hsZ k) (63 - f) j L' = ch (hsZ k) (63 - f) j L) (hne:L'≠[]) (hT:Tabs w) :
  Calls Tryz.prog 83 #[.pointer (some ⟨g,0,none⟩),.int .i64 k,.int .i64 i,nv] w fun e w'=>∃ v,e = .returned v∧TreeAt S (hsZ k) w' (f + 1) v L'∧Kept [] w w':=by
 obtain ⟨g',kv,vs,e,hSg,hh,hrow,hlen,hkd⟩:=h.2 hs
 have eg:g' = g:=by injection e with _ e2; injection e2 with e3; injection e3 with e4; injection e4 with e5; exact e5.symm
 subst eg
 clear e
 obtain ⟨b0,b1,_⟩:=br_row hh
 have hbs:=xc2m (H:=hsZ k) (d:=63 - f) hi hsw
 have hks:=xb5d (H:=hsZ k) (d:=63 - f) hi hsw
 have hbl:=bm_lt (hsZ k) (63 - f) L
 have hbd:=xc1i (bm (hsZ k) (63 - f) L) hi
 have hcl:=xa1q (hsZ k) (63 - f) L
 have hkp:=xa5t (hsZ_ok hk) (d:=63 - f) hne
 have hrk0:=xa8s (b:=bm (hsZ k) (63 - f) L) (i:=i) (by omega)
 have hrk1:=xa8s (b:=bm (hsZ k) (63 - f) L) (i:=i + 1) (by omega)
 rw [show ((i + 1:Nat):Int) = (i:Int) + 1 by omega] at hrk1
 have hA:A2 (TreeAt S (hsZ k) w f) vs (kidsL (hsZ k) (63 - f) L):=⟨hlen,hkd⟩
 rw [← hlen] at hcl
 have hwi:IntKind.i64.wrap ((i:Int) + 1) = (i:Int) + 1:=by simp [IntKind.wrap,IntKind.signed,IntKind.bits]; omega
 generalize bm (hsZ k) (63 - f) L = x at *
 generalize kidsL (hsZ k) (63 - f) L = Ks at *
 rw [← hcl] at hbd
 obtain ⟨c0,hc0⟩:∃ c,cnt x i = c:=⟨_,rfl⟩
 obtain ⟨c1,hc1⟩:∃ c,cnt x (i + 1) = c:=⟨_,rfl⟩
 rw [hc0] at hbd hks hrk0
 rw [hc1] at hbd hks hrk1
 have HB0:=hide b0
 have HB1:=hide b1
 have HBS:=hide hbs
 have HKS:=hide hks
 have HA:=hide hA
 have HRow:=hide hrow
 have HKP:=hide hkp
 have HTb:=hide hT
 have hcell:=xc2k hA
 have hrd:=hrow.rdC
 obtain ⟨b,off,cap,rfl,hcap1,hcap2,hSb,_⟩:=hrow
 obtain ⟨n,hnn⟩:∃ n,vs.length = n:=⟨_,rfl⟩
 rw [hnn] at hbd hcap1 HB1 hrd
 have HRD:=hide hrd
 have HN:=hide hnn
 have HCE:=hide hcell
 have hn16:n≤16:=by rw [← hnn,hcl]; exact cnt_le _ _
 clear hh hlen hkd hA hc0 hc1 hcl hbs hks b0 b1 hkp hT hrd hnn hcell h hs hsw
 go_enter Tryz.func83,Tryz.ntmps83
 go_wp2
 refine ln_wk (by kernel_rfl) (by kernel_rfl) rfl (fun W=>Kept [] w W) (Kept.refl [] w).drew ?_
 refine LinY.mv (x:=.tmp 0) rfl (.pointer (some ⟨g',0,none⟩)) rfl (by simp only [Act.put,sa1,sa2,sa3]; rfl) ?_
 refine LinY.rd (.pointer (some ⟨g',0,none⟩)) (fun W hW=>by go_simp) (by simp only [Act.put,sa1,sa2,sa3]; rfl) ?_
 refine LinY.rd (.pointer (some ⟨g',0,none⟩)) (fun W hW=>by go_simp) (by simp only [Act.put,sa1,sa2,sa3]; rfl) ?_
 refine LinY.rd (.int .u16 x) (fun W hW=>by have h9:=hW.cell (uh HB0) (by simp); go_simp) (by simp only [Act.put,sa1,sa2,sa3]; rfl) ?_
 refine LinY.mv (x:=.tmp 2) rfl (.int .i64 i) rfl (by simp only [Act.put,sa1,sa2,sa3]; rfl) ?_
 refine LinY.mv (x:=.tmp 0) rfl (.pointer (some ⟨g',0,none⟩)) rfl (by simp only [Act.put,sa1,sa2,sa3]; rfl) ?_
 refine LinY.rd (.pointer (some ⟨g',0,none⟩)) (fun W hW=>by go_simp) (by simp only [Act.put,sa1,sa2,sa3]; rfl) ?_
 refine LinY.rd (.pointer (some ⟨g',0,none⟩)) (fun W hW=>by go_simp) (by simp only [Act.put,sa1,sa2,sa3]; rfl) ?_
 refine LinY.rd (.int .u16 x) (fun W hW=>by have h9:=hW.cell (uh HB0) (by simp); go_simp) (by simp only [Act.put,sa1,sa2,sa3]; rfl) ?_
 refine LinY.mv (x:=.tmp 2) rfl (.int .i64 i) rfl (by simp only [Act.put,sa1,sa2,sa3]; rfl) ?_
 refine LinY.rd (.int .i64 ((i:Int) + 1)) (fun W hW=>by go_simp) (by simp only [Act.put,sa1,sa2,sa3]; rfl) ?_
 refine ChL.call rfl Tryz.call26 [.int .u16 x,.int .i64 i] rfl (xa6k x i _ hbl (by omega)) ?_
 rintro e w2 ⟨rfl,k2⟩
 have hk2:=((Kept.refl [] w).drew).trans k2 (by simp)
 refine ⟨_,rfl,hk2,?_⟩
 rw [hrk0]
 simp only [Act.put,sa1,sa2,sa3]
 refine ChL.call rfl Tryz.call26 [.int .u16 x,.int .i64 ((i:Int) + 1)] rfl (xa6k x ((i:Int) + 1) w2 hbl (by omega)) ?_
 rintro e w3 ⟨rfl,k3⟩
 have hk3:=hk2.trans k3 (by simp)
 refine ⟨_,rfl,hk3,?_⟩
 rw [hrk1]
 simp only [Act.put,sa1,sa2,sa3]
 refine ChL.op (.int .i64 c0) (by go_simp) hk3 (by simp only [Act.put,sa1,sa2,sa3]; rfl) ?_
 refine ChL.op (.int .i64 c1) (by go_simp) hk3 (by simp only [Act.put,sa1,sa2,sa3]; rfl) (ChL.fin ?_)
 have HK3:=hide hk3
 clear hk2 hk3 k2 k3
 have he1:=en_bk
 have he2:=en_br
 have he3:=en_nil
 rcases hn with ⟨hnil,rfl⟩ | hn
 ·rw [hnil] at HBS HKS
  have hbo:=xb7k x (i:Int) hbl
  have HBO:=hide (by have h9:=uh HBS; simpa using h9:bm (hsZ k) (63 - f) L' = outB x (i:Int))
  have HKO:=hide (by have h9:=uh HKS; simpa using h9:kidsL (hsZ k) (63 - f) L' = Ks.take c0++([]++Ks.drop c1))
  have HAO:=hide (((uh HA).tk c0).app ((A2.nil _).app ((uh HA).dp c1)))
  clear HBS HKS
  go_upto_region 3 with fail
  refine ln_wo (by kernel_rfl) (by kernel_rfl) (by rfl) (fun W=>Kept [] w W) (uh HK3).drew ?_
  refine LinY.mv (x:=.tmp 1) rfl (.int .i64 k) rfl (by simp only [Act.put,sa1,sa2,sa3]; rfl) ?_
  refine LinY.mv (x:=.tmp 0) rfl (.pointer (some ⟨g',0,none⟩)) rfl (by simp only [Act.put,sa1,sa2,sa3]; rfl) ?_
  refine LinY.rd (.pointer (some ⟨g',0,none⟩)) (fun W hW=>by go_simp) (by simp only [Act.put,sa1,sa2,sa3]; rfl) ?_
  refine LinY.rd (.pointer (some ⟨g',0,none⟩)) (fun W hW=>by go_simp) (by simp only [Act.put,sa1,sa2,sa3]; rfl) ?_
  refine LinY.rd (.int .u16 x) (fun W hW=>by have h9:=hW.cell (uh HB0) (by simp); go_simp) (by simp only [Act.put,sa1,sa2,sa3]; rfl) ?_
  refine LinY.mv (x:=.tmp 2) rfl (.int .i64 i) rfl (by simp only [Act.put,sa1,sa2,sa3]; rfl) ?_
  refine LinY.mv (x:=.tmp 0) rfl (.pointer (some ⟨g',0,none⟩)) rfl (by simp only [Act.put,sa1,sa2,sa3]; rfl) ?_
  refine LinY.rd (.pointer (some ⟨g',0,none⟩)) (fun W hW=>by go_simp) (by simp only [Act.put,sa1,sa2,sa3]; rfl) ?_
  refine LinY.rd (.pointer (some ⟨g',1,none⟩)) (fun W hW=>by go_simp) (by simp only [Act.put,sa1,sa2,sa3]; rfl) ?_
  refine LinY.rd (.slice (some ⟨b,off,none⟩) n cap) (fun W hW=>by have h9:=hW.cell (uh HB1) (by simp); go_simp) (by simp only [Act.put,sa1,sa2,sa3]; rfl) ?_
  refine LinY.mv (x:=.tmp 9) rfl (.int .i64 c0) rfl (by simp only [Act.put,sa1,sa2,sa3]; rfl) ?_
  refine LinY.mv (x:=.tmp 10) rfl (.int .i64 c1) rfl (by simp only [Act.put,sa1,sa2,sa3]; rfl) ?_
  refine ChL.call rfl Tryz.call115 [.int .u16 x,.int .i64 i] rfl (xb0x x i _ hbl (by omega)) ?_
  rintro e w4 ⟨rfl,k4⟩
  have hk4:=((uh HK3).drew).trans k4 (by simp)
  refine ⟨_,rfl,hk4,?_⟩
  simp only [Act.put,sa1,sa2,sa3]
  refine ChL.call rfl Tryz.call116 [.slice (some ⟨b,off,none⟩) n cap,.int .i64 c0,.int .i64 c1,.slice none 0 0] rfl (xa2x b off n cap c0 c1 _ (vs.map sing) ([].map sing) w4 ((uh HRD).old hk4) (RdC.nil 1 w4) (by omega) (by omega) (by omega) (by simp) (uh HCE).1 (uh HCE).2 (by simp) (by simp)) ?_
  rintro e w5 ⟨v5,rfl,ho5,k5⟩
  have hk5:=hk4.trans k5 (by simp)
  refine ⟨v5,rfl,hk5,?_⟩
  rw [← List.map_take,← List.map_drop] at ho5
  have hl5:(vs.take c0++([]++vs.drop c1)).length = (kidsL (hsZ k) (63 - f) L').length:=by rw [uh HKO]; exact (uh HAO).1
  have hr5:=xa8z ho5 (by rw [hl5]; exact (uh HKP).1) (by rw [hl5]; have:=(uh HKP).2; omega) (fun y hy=>hS y (by have:=hk4.size; omega))
  simp only [Act.put,sa1,sa2,sa3]
  refine ChL.call rfl Tryz.call114 [.int .i64 k,.int .u16 (outB x (i:Int):Nat),v5] rfl (xa2n S k f (outB x (i:Int)) v5 _ L' w5 hk (fun y hy=>hS y (by have:=hk5.size; omega)) hne (uh HBO).symm hr5 hl5 (by rw [uh HKO]; exact ((uh HAO).imp (fun v L h=>h.agr (Agr.nil hk5))).2) ((uh HTb).k hk5)) ?_
  rintro e w6 ⟨v6,rfl,ht6,k6⟩
  have hk6:=hk5.trans k6 (by simp)
  refine ⟨v6,rfl,hk6,?_⟩
  simp only [Act.put,sa1,sa2,sa3]
  refine ChL.op v6 (by go_simp) hk6 (by simp only [Act.put,sa1,sa2,sa3]; rfl) (ChL.fin ?_)
  go_wp2
  go_ret
  exact ⟨_,rfl,ht6,hk6⟩
 ·have hnn2:=hn.ne
  have hie:(ch (hsZ k) (63 - f) i L').isEmpty = false:=by simpa using hnn2
  have hbo:=xa3o x (i:Int) hbl
  have HBO:=hide (by have h9:=uh HBS; rw [hie] at h9; simpa using h9:bm (hsZ k) (63 - f) L' = withB x (i:Int))
  have HKO:=hide (by have h9:=uh HKS; rw [hie] at h9; simpa using h9:kidsL (hsZ k) (63 - f) L' = Ks.take c0++([ch (hsZ k) (63 - f) i L']++Ks.drop c1))
  have HAO:=hide (((uh HA).tk c0).app ((A2.one hn).app ((uh HA).dp c1)))
  have hnc:=xa9e hn
  clear HBS HKS hnn2 hie
  have hty:(∃ q,nv = bkV q)∨∃ q,nv = brV q:=by
   rcases hn.own with ⟨q,_,_,_,e,_⟩ | ⟨q,_,_,_,e,_⟩
   ·exact Or.inl ⟨q,e⟩
   ·exact Or.inr ⟨q,e⟩
  clear hn
  have hee:∀ W,(binOp .eql 100 nv .nilIface).run Tryz.prog W = .ok (.bool false) W:=by
   rcases hty with ⟨q,rfl⟩ | ⟨q,rfl⟩
   ·exact he1 q
   ·exact he2 q
  have heg:∀ W,(eqGuard .eql 100 (.tmp 24) (.const .nilIface) nv .nilIface).run Tryz.prog W = .ok () W:=by
   rcases hty with ⟨q,rfl⟩ | ⟨q,rfl⟩
   ·exact eg_bk q _ _
   ·exact eg_br q _ _
  have hif:∃ t p,nv = .iface t p:=by
   rcases hty with ⟨q,rfl⟩ | ⟨q,rfl⟩ <;> exact ⟨_,_,rfl⟩
  clear hty
  obtain ⟨ti,tp,rfl⟩:=hif
  go_upto_region 4 with fail
  refine ln_wn (by kernel_rfl) (by kernel_rfl) (by rfl) (fun W=>Kept [] w W) (uh HK3).drew ?_
  refine LinY.mv (x:=.tmp 1) rfl (.int .i64 k) rfl (by simp only [Act.put,sa1,sa2,sa3]; rfl) ?_
  refine LinY.mv (x:=.tmp 0) rfl (.pointer (some ⟨g',0,none⟩)) rfl (by simp only [Act.put,sa1,sa2,sa3]; rfl) ?_
  refine LinY.rd (.pointer (some ⟨g',0,none⟩)) (fun W hW=>by go_simp) (by simp only [Act.put,sa1,sa2,sa3]; rfl) ?_
  refine LinY.rd (.pointer (some ⟨g',0,none⟩)) (fun W hW=>by go_simp) (by simp only [Act.put,sa1,sa2,sa3]; rfl) ?_
  refine LinY.rd (.int .u16 x) (fun W hW=>by have h9:=hW.cell (uh HB0) (by simp); go_simp) (by simp only [Act.put,sa1,sa2,sa3]; rfl) ?_
  refine LinY.mv (x:=.tmp 2) rfl (.int .i64 i) rfl (by simp only [Act.put,sa1,sa2,sa3]; rfl) ?_
  refine LinY.mv (x:=.tmp 0) rfl (.pointer (some ⟨g',0,none⟩)) rfl (by simp only [Act.put,sa1,sa2,sa3]; rfl) ?_
  refine LinY.rd (.pointer (some ⟨g',0,none⟩)) (fun W hW=>by go_simp) (by simp only [Act.put,sa1,sa2,sa3]; rfl) ?_
  refine LinY.rd (.pointer (some ⟨g',1,none⟩)) (fun W hW=>by go_simp) (by simp only [Act.put,sa1,sa2,sa3]; rfl) ?_
  refine LinY.rd (.slice (some ⟨b,off,none⟩) n cap) (fun W hW=>by have h9:=hW.cell (uh HB1) (by simp); go_simp) (by simp only [Act.put,sa1,sa2,sa3]; rfl) ?_
  refine LinY.mv (x:=.tmp 9) rfl (.int .i64 c0) rfl (by simp only [Act.put,sa1,sa2,sa3]; rfl) ?_
  refine LinY.mv (x:=.tmp 10) rfl (.int .i64 c1) rfl (by simp only [Act.put,sa1,sa2,sa3]; rfl) ?_
  refine LinY.mv (x:=.tmp 3) rfl (.iface ti tp) rfl (by simp only [Act.put,sa1,sa2,sa3]; rfl) ?_
  have key:∀ X,Kept [] w X→∀ q,X.heap[q]? = some (.cells #[(.iface ti tp)] 100 (0,0))→RdC 1 X (.slice (some ⟨q,0,none⟩) 1 1) ([Value.iface ti tp].map sing):=fun X hX q hq=>by
   refine ⟨_,1,1,rfl,rfl,Nat.le_refl _,by omega,fun _=>⟨q,0,rfl,fun j hj t u hu=>?_⟩⟩
   have hj0:j = 0:=by simp at hj; exact hj
   subst hj0
   have ht0:t = 0:=by
    have:=(List.getElem?_eq_some_iff.1 hu).1
    simp [sing] at this; omega
   subst ht0
   rw [cell_of_row _ _ _ _ _ _ hq]
   simpa [sing] using hu
  refine ⟨?_,?_⟩
  ·refine ChL.call rfl Tryz.call117 [.int .u16 x,.int .i64 i] rfl (xa4a x i _ hbl (by omega)) ?_
   rintro e w4 ⟨rfl,k4⟩
   have hk4:=((uh HK3).drew).trans k4 (by simp)
   refine ⟨_,rfl,hk4,?_⟩
   simp only [Act.put,sa1,sa2,sa3]
   refine ChL.op (w':=w4.alloc (.cells #[(.iface ti tp)] 100)) (.slice (some ⟨w4.heap.size,0,none⟩) 1 1) (by go_simp) (hk4.alloc _) (by simp only [Act.put,sa1,sa2,sa3]; rfl) ?_
   have HKX:=hide (hk4.alloc (.cells #[(.iface ti tp)] 100))
   have HQ:=hide (key _ (uh HKX) _ (heap_alloc_new w4 (.cells #[(.iface ti tp)] 100)))
   clear key hk4 k4
   generalize w4.alloc (.cells #[(.iface ti tp)] 100) = X at HKX HQ ⊢
   generalize w4.heap.size = q at HQ ⊢
   try simp only [Act.put,sa1,sa2,sa3]
   refine ChL.call rfl Tryz.call116 [.slice (some ⟨b,off,none⟩) n cap,.int .i64 c0,.int .i64 c1,.slice (some ⟨q,0,none⟩) 1 1] rfl (xa2x b off n cap c0 c1 _ (vs.map sing) ([Value.iface ti tp].map sing) X ((uh HRD).old (uh HKX)) (uh HQ) (by omega) (by omega) (by omega) (by simp) (uh HCE).1 (uh HCE).2 (by simp [sing]) (by simp [sing,hnc])) ?_
   rintro e w5 ⟨v5,rfl,ho5,k5⟩
   have hk5:=(uh HKX).trans k5 (by simp)
   refine ⟨v5,rfl,hk5,?_⟩
   rw [← List.map_take,← List.map_drop] at ho5
   have hl5:(vs.take c0++([Value.iface ti tp]++vs.drop c1)).length = (kidsL (hsZ k) (63 - f) L').length:=by rw [uh HKO]; exact (uh HAO).1
   have hr5:=xa8z ho5 (by rw [hl5]; exact (uh HKP).1) (by rw [hl5]; have:=(uh HKP).2; omega) (fun y hy=>hS y (by have:=(uh HKX).size; omega))
   simp only [Act.put,sa1,sa2,sa3]
   refine ChL.call rfl Tryz.call114 [.int .i64 k,.int .u16 (withB x (i:Int):Nat),v5] rfl (xa2n S k f (withB x (i:Int)) v5 _ L' w5 hk (fun y hy=>hS y (by have:=hk5.size; omega)) hne (uh HBO).symm hr5 hl5 (by rw [uh HKO]; exact ((uh HAO).imp (fun v L h=>h.agr (Agr.nil hk5))).2) ((uh HTb).k hk5)) ?_
   rintro e w6 ⟨v6,rfl,ht6,k6⟩
   have hk6:=hk5.trans k6 (by simp)
   refine ⟨v6,rfl,hk6,?_⟩
   simp only [Act.put,sa1,sa2,sa3]
   refine ChL.op v6 (by go_simp) hk6 (by simp only [Act.put,sa1,sa2,sa3]; rfl) (ChL.fin ?_)
   go_wp2
   go_ret
   exact ⟨_,rfl,ht6,hk6⟩
  ·refine ChL.op (w':=w3.drew.alloc (.cells #[(.iface ti tp)] 100)) (.slice (some ⟨w3.heap.size,0,none⟩) 1 1) (by go_simp) (((uh HK3).drew).alloc _) (by simp only [Act.put,sa1,sa2,sa3]; rfl) ?_
   have hka:=((uh HK3).drew).alloc (.cells #[(.iface ti tp)] 100)
   have hqa:(w3.drew.alloc (.cells #[(.iface ti tp)] 100)).heap[w3.heap.size]? = some (.cells #[(.iface ti tp)] 100 (0,0)):=heap_alloc_new w3.drew _
   generalize w3.drew.alloc (.cells #[(.iface ti tp)] 100) = X0 at hka hqa ⊢
   refine ChL.call rfl Tryz.call117 [.int .u16 x,.int .i64 i] rfl (xa4a x i _ hbl (by omega)) ?_
   rintro e X ⟨rfl,k4⟩
   have HKX:=hide (hka.trans k4 (by simp))
   have HQ:=hide (key _ (uh HKX) _ (k4.heap hqa (by simp)))
   refine ⟨_,rfl,uh HKX,?_⟩
   clear key hka hqa k4
   generalize w3.heap.size = q at HQ ⊢
   try simp only [Act.put,sa1,sa2,sa3]
   refine ChL.call rfl Tryz.call116 [.slice (some ⟨b,off,none⟩) n cap,.int .i64 c0,.int .i64 c1,.slice (some ⟨q,0,none⟩) 1 1] rfl (xa2x b off n cap c0 c1 _ (vs.map sing) ([Value.iface ti tp].map sing) X ((uh HRD).old (uh HKX)) (uh HQ) (by omega) (by omega) (by omega) (by simp) (uh HCE).1 (uh HCE).2 (by simp [sing]) (by simp [sing,hnc])) ?_
   rintro e w5 ⟨v5,rfl,ho5,k5⟩
   have hk5:=(uh HKX).trans k5 (by simp)
   refine ⟨v5,rfl,hk5,?_⟩
   rw [← List.map_take,← List.map_drop] at ho5
   have hl5:(vs.take c0++([Value.iface ti tp]++vs.drop c1)).length = (kidsL (hsZ k) (63 - f) L').length:=by rw [uh HKO]; exact (uh HAO).1
   have hr5:=xa8z ho5 (by rw [hl5]; exact (uh HKP).1) (by rw [hl5]; have:=(uh HKP).2; omega) (fun y hy=>hS y (by have:=(uh HKX).size; omega))
   simp only [Act.put,sa1,sa2,sa3]
   refine ChL.call rfl Tryz.call114 [.int .i64 k,.int .u16 (withB x (i:Int):Nat),v5] rfl (xa2n S k f (withB x (i:Int)) v5 _ L' w5 hk (fun y hy=>hS y (by have:=hk5.size; omega)) hne (uh HBO).symm hr5 hl5 (by rw [uh HKO]; exact ((uh HAO).imp (fun v L h=>h.agr (Agr.nil hk5))).2) ((uh HTb).k hk5)) ?_
   rintro e w6 ⟨v6,rfl,ht6,k6⟩
   have hk6:=hk5.trans k6 (by simp)
   refine ⟨v6,rfl,hk6,?_⟩
   simp only [Act.put,sa1,sa2,sa3]
   refine ChL.op v6 (by go_simp) hk6 (by simp only [Act.put,sa1,sa2,sa3]; rfl) (ChL.fin ?_)
   go_wp2
   go_ret
   exact ⟨_,rfl,ht6,hk6⟩
set_option maxHeartbeats 1000000 in
theorem xb1u (kv vv uv:Value) (a b:List Nat) (w:World) (ha:Rd w kv a) (hb:Rd w uv b) :
  Calls Tryz.prog 124 #[.agg #[kv,vv],uv] w fun e w'=>e = .returned (.int .i64 (ordL a b))∧Kept [] w w':=by
 have HK:=hide ((Kept.refl [] w).alloc (.cells #[kv,vv] 32))
 have HG:=hide (heap_alloc_new w (.cells #[kv,vv] 32))
 have c0:=cell_of_row _ _ 0 _ _ _ (uh HG)
 go_enter Tryz.func124,Tryz.ntmps124
 go_wp2_with fail
 refine Calls.mono (xb8n kv uv a b _ (ha.old (uh HK) (by simp)) (hb.old (uh HK) (by simp))) ?_
 rintro e w1 ⟨rfl,rfl⟩
 go_wp2
 go_ret
 exact ⟨rfl,uh HK⟩
theorem RdK.at {w:World} {ao:Option Addr} {n c:Nat} {L:Prs} (h:RdK w (.slice ao n c) L) {i:Nat} (hi:i < n):∃ b off x y,ao = some ⟨b,off,none⟩∧Rd w x (L.getD i ([],[])).1∧Rd w y (L.getD i ([],[])).2∧w.cell? ⟨b,off + i * 2,none⟩ = some x∧w.cell? ⟨b,off + i * 2 + 1,none⟩ = some y:=by
 obtain ⟨ao',len,cap,vs,us,e,h1,h2,h3,h4,h5⟩:=h
 cases e
 obtain ⟨b,off,rfl,hc⟩:=h5 (by omega)
 exact ⟨b,off,_,_,rfl,(h4 i hi).1,(h4 i hi).2,(hc i hi).1,(hc i hi).2⟩
set_option maxHeartbeats 2000000 in
theorem xb0n (ao:Option Addr) (n c:Nat) (L:Prs) (uv:Value) (key:List Nat) (w:World) (h:RdK w (.slice ao n c) L) (hu:Rd w uv key) (hr:Rise L) (hn:n≤1000000000) :
  Calls Tryz.prog 123 #[.slice ao n c,uv,.func (.func 124) #[] #[]] w fun e w'=>e = .returned (.tuple #[.int .i64 (plc key L),.bool (fnd key L)])∧Kept [] w w':=by
 obtain ⟨_,_,_,_,_,e0,hlen,_⟩:=id h
 cases e0
 have hple:=plc_le key L
 have hlt:∀ i,i < plc key L→ordL (L.getD i ([],[])).1 key < 0:=plc_lt key L
 have hge:∀ i,plc key L≤i→i < n→0≤ordL (L.getD i ([],[])).1 key:=fun i h1 h2=>plc_ge hr i h1 (by omega)
 have hfn:=fnd_at (k:=key) hr
 rw [hlen] at hple hfn
 generalize plc key L = p at *
 generalize fnd key L = fd at *
 have HL:=hide hlen
 have HLT:=hide hlt
 have HGE:=hide hge
 have HFN:=hide hfn
 have HR:=hide h
 have HU:=hide hu
 clear hlen hlt hge hfn h hu hr
 obtain ⟨ua,un,uc,rfl,_⟩:=id (uh HU)
 go_enter Tryz.func123,Tryz.ntmps123
 go_wp2
 go_loopw [9,10] (fun t9 t10 wr=>∃ (i j:Nat),t9 = .int .i64 i∧t10 = .int .i64 j∧i≤p∧p≤j∧j≤n∧Hid (Kept [] w wr)) (fun t9 t10 _=>(intOf t10).toNat - (intOf t9).toNat)
 case atStart=>exact ⟨0,n,rfl,rfl,Nat.zero_le _,hple,Nat.le_refl _,hide (Kept.refl [] w)⟩
 case round =>
  obtain ⟨i,j,rfl,rfl,h1,h2,h3,HK⟩:=hrel
  by_cases hlt:i < j
  ·have hlt':(i:Int) < j:=by omega
   obtain ⟨m,hm⟩:∃ m,m = (i + j) / 2:=⟨_,rfl⟩
   have hmm:((i:Int) + (j:Int)) / 2 = (m:Int):=by omega
   have him:i≤m:=by omega
   have hmj:m < j:=by omega
   clear hm
   have hmn:(m:Int) < n:=by omega
   obtain ⟨b,off,x,y,rfl,rx,ry,cx,cy⟩:=((uh HR).old (uh HK)).at (i:=m) (by omega)
   have HX:=hide rx
   have hcm:=uh HLT m
   have hcg:=uh HGE m
   have HU1:=hide ((uh HU).old (uh HK) (by simp))
   generalize (L.getD m ([],[])).1 = Lm at hcm hcg HX
   clear rx ry
   go_wp2_with fail
   refine Calls.mono (xb1u x y _ Lm key wr (uh HX) (uh HU1)) ?_
   rintro e w1 ⟨rfl,k1⟩
   have HK1:=hide ((uh HK).trans k1 (by simp))
   clear k1 HX HU1
   generalize ordL Lm key = q at hcm hcg ⊢
   by_cases hq:q < 0
   ·have hmp:m < p:=by
     rcases Nat.lt_or_ge m p with h9 | h9
     ·exact h9
     ·have:=hcg h9 (by omega); omega
    clear hcm hcg
    go_wp2
    refine ⟨⟨m + 1,j,by go_num,rfl,hmp,h2,h3,HK1⟩,?_⟩
    simp [intOf]; omega
   ·have hmp:p≤m:=by
     rcases Nat.lt_or_ge m p with h9 | h9
     ·have:=hcm h9; omega
     ·exact h9
    clear hcm hcg
    go_wp2
    refine ⟨⟨i,m,rfl,by go_num,h1,hmp,by omega,HK1⟩,?_⟩
    simp [intOf]; omega
  ·have hlt':¬ (i:Int) < j:=by omega
   have hip:i = p:=by omega
   subst hip
   by_cases hpn:i < n
   ·have hpn':(i:Int) < n:=by omega
    obtain ⟨b,off,x,y,rfl,rx,ry,cx,cy⟩:=((uh HR).old (uh HK)).at (i:=i) hpn
    have HX:=hide rx
    have HU1:=hide ((uh HU).old (uh HK) (by simp))
    have hfd:(ordL (L.getD i ([],[])).1 key == 0) = fd:=by
     have h9:=uh HFN
     rw [Bool.eq_iff_iff,h9,beq_iff_eq]
     constructor
     ·intro e; exact ⟨hpn,xa1o e⟩
     ·rintro ⟨_,e⟩; rw [e,xa0t]
    have HFD:=hide hfd
    generalize (L.getD i ([],[])).1 = Lm at HX HFD
    clear rx ry hfd
    go_wp2_with fail
    refine Calls.mono (xb1u x y _ Lm key wr (uh HX) (uh HU1)) ?_
    rintro e w1 ⟨rfl,k1⟩
    have HK1:=hide ((uh HK).trans k1 (by simp))
    clear k1 HX HU1
    go_wp2
    go_ret2
    exact ⟨by rw [← uh HFD]; first | rfl | (simp; done),uh HK1⟩
   ·have hpn':¬ (i:Int) < n:=by omega
    have hfd:fd = false:=by
     cases h9:fd with
     | false=>rfl
     | true=>have:=(uh HFN).1 h9; omega
    subst hfd
    go_wp2
    go_ret2
    exact ⟨rfl,uh HK⟩
set_option maxHeartbeats 1000000 in
theorem xb4x (S:Nat→Prop) (H:Hs) (g:Nat) (L:Prs) (uv:Value) (key:List Nat) (w:World) (h:BkAt S H w g L) (hD:(H.kd (L.headD ([],[])).1).length = 32) (hu:Rd w uv key) (hr:Rise L) (hn:L.length≤1000000000) :
  Calls Tryz.prog 100 #[.pointer (some ⟨g,0,none⟩),uv] w fun e w'=>e = .returned (.tuple #[.int .i64 (plc key L),.bool (fnd key L)])∧Kept [] w w':=by
 obtain ⟨pv,_,hh,_,hst⟩:=h
 have hk:=hst.rdK
 have c1:=(bk_row hh hD).2.1
 obtain ⟨ao,n,c,vs,us,rfl,hl,_⟩:=id hk
 have HK:=hide hk
 have HL:=hide hl
 clear hst hh hk hl
 go_enter Tryz.func100,Tryz.ntmps100
 go_wp2_with fail
 refine Calls.mono (xb0n ao n c L uv key w (uh HK) hu hr (by rw [← uh HL]; exact hn)) ?_
 rintro e w1 ⟨rfl,k1⟩
 go_wp2
 go_ret2
 exact ⟨rfl,k1⟩
theorem xb8u {w:World} {g:Nat} {t:TypeId} {l:List Value} (h:w.heap[g]? = some (.cells l.toArray t (0,0))) (hl:l.length≤1000000):RdC 1 w (.slice (some ⟨g,0,none⟩) l.length l.length) (l.map sing):=by
 refine ⟨_,_,_,rfl,by rw [List.length_map],Nat.le_refl _,by omega,fun _=>⟨g,0,rfl,fun i hi j u hj=>?_⟩⟩
 rw [List.length_map] at hi
 rw [List.getElem_map] at hj
 have hj0:j = 0:=by
  have:=(List.getElem?_eq_some_iff.1 hj).1
  simp [sing] at this; omega
 subst hj0
 rw [cell_of_row _ _ _ _ _ _ h,List.getElem?_toArray]
 rw [Nat.mul_one,Nat.add_zero,Nat.zero_add,List.getElem?_eq_getElem hi]
 simpa [sing] using hj
theorem xb2r {S:Nat→Prop} {w:World} {g:Nat} {t:TypeId} {l:List Value} (h:w.heap[g]? = some (.cells l.toArray t (0,0))) (hl:l.length≤1000000) (hS:S g):SRow S w (.slice (some ⟨g,0,none⟩) l.length l.length) l :=
 ⟨g,0,l.length,rfl,Nat.le_refl _,by omega,hS,fun i hi=>by
  rw [cell_of_row _ _ _ _ _ _ h,List.getElem?_toArray,Nat.zero_add,List.getElem?_eq_getElem hi,List.getD_eq_getElem?_getD,List.getElem?_eq_getElem hi]; rfl⟩
structure Fk (H:Hs) (part:Nat) (M P1 P2:Prs) (D1 D2:List Nat):Prop where
 kids:kidsL H part M = [P1,P2]
 bm:withB (withB 0 (dgt D1 part:Int)) (dgt D2 part:Int) = bm H part M
 dig:∀ e,e < part→∀ y∈M,dgt (H.kd y.1) e = dgt D1 e
theorem Fork.fst {H:Hs} (hH:H.Ok) {part:Nat} {k v:List Nat} {A:Prs} {DA:List Nat} (h:Fork H part k v A DA) (g:dgt DA part < dgt (H.kd k) part):Fk H part (insP H k v A) A [(k,v)] DA (H.kd k) :=
 ⟨by rw [h.kids hH,if_pos g],h.bms hH _ _ (Or.inl ⟨rfl,rfl⟩),fun e he y hy=>h.dig he y hy⟩
theorem Fork.snd {H:Hs} (hH:H.Ok) {part:Nat} {k v:List Nat} {A:Prs} {DA:List Nat} (h:Fork H part k v A DA) (g:¬ dgt DA part < dgt (H.kd k) part):Fk H part (insP H k v A) [(k,v)] A (H.kd k) DA :=
 ⟨by rw [h.kids hH,if_neg g],h.bms hH _ _ (Or.inr ⟨rfl,rfl⟩),fun e he y hy=>by rw [h.dig he y hy,h.pre e he]⟩
set_option maxHeartbeats 4000000 in
theorem xb3g (S:Nat→Prop) (k dep part ga gb:Nat) (A:Prs) (q v DA:List Nat) (w:World) (hk:1≤k∧k≤32) (hS:∀ y,w.heap.size≤y→S y) (hF:Fork (hsZ k) part q v A DA) (hdp:dep≤part)
  (ha:BkAt S (hsZ k) w ga A) (hb:BkAt S (hsZ k) w gb [(q,v)]) (hT:Tabs w) :
  Calls Tryz.prog 87 #[.int .i64 k,.int .i64 dep,.pointer (some ⟨ga,0,none⟩),.pointer (some ⟨gb,0,none⟩)] w fun e w'=>∃ t,e = .returned t∧TreeAt S (hsZ k) w' (64 - dep) t (insP (hsZ k) q v A)∧Kept [] w w':=by
 have hH:=hsZ_ok hk
 obtain ⟨DB,hDB⟩:∃ DB,(hsZ k).kd q = DB:=⟨_,rfl⟩
 have hDBg:Dg DB:=by rw [← hDB]; exact hH.dg q
 have hDAg:=hF.dga
 have hfA:formB (k:Int) DA = true:=by
  cases hA:A with
  | nil=>exact absurd hA hF.ne
  | cons y _=>rw [← hF.all y (by rw [hA]; simp)]; exact xa9j hk _
 have hfB:formB (k:Int) DB = true:=by rw [← hDB]; exact xa9j hk _
 have hdeep:=hF.deep
 have hdeep2:part < 2 * k:=hdeep
 have hpre:=hF.pre
 have hpne:=hF.pne
 rw [hDB] at hpre hpne
 have hcom:comL DA DB (2 * k) 0 = part:=by
  obtain ⟨_,s2,s3,s4⟩:=xa5y DA DB (2 * k) 0
  rcases Nat.lt_trichotomy (comL DA DB (2 * k) 0) part with g | g | g
  ·exact absurd (hpre _ g) (s4 (by omega))
  ·exact g
  ·exact absurd (s3 part (by omega) g) hpne
 have hfe:formedE (k:Int) [DA,DB] = 0:=xb2o hk (by simp [hfA,hfB])
 have hcC:comC (k:Int) DA DB = part:=by unfold comC; rw [if_pos hfe,Int.toNat_natCast,hcom]
 have hoC:ordC (k:Int) DA DB = ordL DA DB:=by unfold ordC; rw [if_pos hfe]
 have hord:=xb6z hDAg hDBg (c:=part) (by omega) hpre hpne
 have hdA:=dgt_lt hDAg.2 part
 have hdB:=dgt_lt hDBg.2 part
 have hsM:=hF.two
 have hnM:insP (hsZ k) q v A≠[]:=ins_ne
 have hpreM:∀ e,e≤part→Pre (hsZ k) e (insP (hsZ k) q v A):=fun e he=>hF.on he
 have hsA:sgl (hsZ k) A = true:=xa1e.2 (fun x hx y hy=>by rw [hF.all x hx,hF.all y hy])
 have hsB:sgl (hsZ k) [(q,v)] = true:=xa1e.2 (fun x hx y hy=>by simp at hx hy; rw [hx,hy])
 have hkA:(hsZ k).kd (A.headD ([],[])).1 = DA:=by
  cases hA:A with
  | nil=>exact absurd hA hF.ne
  | cons y _=>exact hF.all y (by rw [hA]; simp)
 have hfst:=hF.fst hH
 have hsnd:=hF.snd hH
 rw [hDB] at hfst hsnd
 have HBA:=hide ha
 have HBB:=hide hb
 obtain ⟨pva,_,hha,_,_⟩:=ha
 obtain ⟨pvb,_,hhb,_,_⟩:=hb
 rw [hkA] at hha
 have hkB:(hsZ k).kd (([(q,v)]:Prs).headD ([],[])).1 = DB:=hDB
 rw [hkB] at hhb
 have HRA:=hide (bk_row hha hDAg.1).1
 have HRB:=hide (bk_row hhb hDBg.1).1
 have HTb:=hide hT
 generalize insP (hsZ k) q v A = M at *
 have HCc:=hide hcC
 have HOc:=hide hoC
 have HFe:=hide hfe
 clear hcC hoC hfe hcom hpre hpne hF hha hhb hkA hkB hDB hT
 have hal:=hDAg.1
 have hbl:=hDBg.1
 go_enter Tryz.func87,Tryz.ntmps87
 go_wp2
 refine ln_fk (by kernel_rfl) (by kernel_rfl) rfl (fun W=>Kept [] w W) (Kept.refl [] w).drew ?_
 refine LinY.mv (x:=.tmp 0) rfl (.int .i64 k) rfl (by simp only [Act.put,sa1,sa2,sa3]; rfl) ?_
 refine LinY.mv (x:=.tmp 2) rfl (.pointer (some ⟨ga,0,none⟩)) rfl (by simp only [Act.put,sa1,sa2,sa3]; rfl) ?_
 refine LinY.rd (.pointer (some ⟨ga,0,none⟩)) (fun W hW=>by go_simp) (by simp only [Act.put,sa1,sa2,sa3]; rfl) ?_
 refine LinY.rd (.pointer (some ⟨ga,0,none⟩)) (fun W hW=>by go_simp) (by simp only [Act.put,sa1,sa2,sa3]; rfl) ?_
 refine LinY.ld 50 (.tmp 19) rfl ga 0 rfl (DA.map u8) _ (fun W hW=>hW.rng (uh HRA) (by simp)) Tryz.underlying50 rfl (by rw [List.length_map,hal]; exact Tryz.size_dig) (by simp only [Act.put,sa1,sa2,sa3]; rfl) ?_
 refine LinY.mv (x:=.tmp 3) rfl (.pointer (some ⟨gb,0,none⟩)) rfl (by simp only [Act.put,sa1,sa2,sa3]; rfl) ?_
 refine LinY.rd (.pointer (some ⟨gb,0,none⟩)) (fun W hW=>by go_simp) (by simp only [Act.put,sa1,sa2,sa3]; rfl) ?_
 refine LinY.rd (.pointer (some ⟨gb,0,none⟩)) (fun W hW=>by go_simp) (by simp only [Act.put,sa1,sa2,sa3]; rfl) ?_
 refine LinY.ld 50 (.tmp 23) rfl gb 0 rfl (DB.map u8) _ (fun W hW=>hW.rng (uh HRB) (by simp)) Tryz.underlying50 rfl (by rw [List.length_map,hbl]; exact Tryz.size_dig) (by simp only [Act.put,sa1,sa2,sa3]; rfl) ?_
 refine ChL.call rfl Tryz.call103 [.int .i64 k,.agg (brow DA),.agg (brow DB)] rfl (xb3t k DA DB _ (by omega) hDAg hDBg) ?_
 rintro e w1 ⟨rfl,k1⟩
 have hk1:=((Kept.refl [] w).drew).trans k1 (by simp)
 refine ⟨_,rfl,hk1,?_⟩
 rw [uh HCc,uh HFe]
 simp only [Act.put,sa1,sa2,sa3]
 refine ChL.fin ⟨hk1,?_⟩
 refine LinY.rd (.tuple #[.int .i64 part,.int .i64 ((0:Nat):Int)]) (fun W hW=>by go_simp) (by simp only [Act.put,sa1,sa2,sa3]; rfl) ?_
 refine LinY.rd (.int .i64 part) (fun W hW=>by go_simp) (by simp only [Act.put,sa1,sa2,sa3]; rfl) ?_
 refine LinY.rd (.int .i64 ((0:Nat):Int)) (fun W hW=>by go_simp) (by simp only [Act.put,sa1,sa2,sa3]; rfl) ?_
 refine LinY.rd (.int .i64 part) (fun W hW=>by go_simp) (by simp only [Act.put,sa1,sa2,sa3]; rfl) ?_
 refine LinY.rd (.int .i64 ((0:Nat):Int)) (fun W hW=>by go_simp) (by simp only [Act.put,sa1,sa2,sa3]; rfl) (LinY.fin ?_)
 have HK1:=hide hk1
 clear hk1 k1
 go_upto_region 2 with fail
 refine ln_fk (by kernel_rfl) (by kernel_rfl) rfl (fun W=>Kept [] w W) (uh HK1).drew ?_
 refine LinY.mv (x:=.tmp 0) rfl (.int .i64 k) rfl (by simp only [Act.put,sa1,sa2,sa3]; rfl) ?_
 refine LinY.mv (x:=.tmp 2) rfl (.pointer (some ⟨ga,0,none⟩)) rfl (by simp only [Act.put,sa1,sa2,sa3]; rfl) ?_
 refine LinY.rd (.pointer (some ⟨ga,0,none⟩)) (fun W hW=>by go_simp) (by simp only [Act.put,sa1,sa2,sa3]; rfl) ?_
 refine LinY.rd (.pointer (some ⟨ga,0,none⟩)) (fun W hW=>by go_simp) (by simp only [Act.put,sa1,sa2,sa3]; rfl) ?_
 refine LinY.ld 50 (.tmp 32) rfl ga 0 rfl (DA.map u8) _ (fun W hW=>hW.rng (uh HRA) (by simp)) Tryz.underlying50 rfl (by rw [List.length_map,hal]; exact Tryz.size_dig) (by simp only [Act.put,sa1,sa2,sa3]; rfl) ?_
 refine LinY.mv (x:=.tmp 3) rfl (.pointer (some ⟨gb,0,none⟩)) rfl (by simp only [Act.put,sa1,sa2,sa3]; rfl) ?_
 refine LinY.rd (.pointer (some ⟨gb,0,none⟩)) (fun W hW=>by go_simp) (by simp only [Act.put,sa1,sa2,sa3]; rfl) ?_
 refine LinY.rd (.pointer (some ⟨gb,0,none⟩)) (fun W hW=>by go_simp) (by simp only [Act.put,sa1,sa2,sa3]; rfl) ?_
 refine LinY.ld 50 (.tmp 36) rfl gb 0 rfl (DB.map u8) _ (fun W hW=>hW.rng (uh HRB) (by simp)) Tryz.underlying50 rfl (by rw [List.length_map,hbl]; exact Tryz.size_dig) (by simp only [Act.put,sa1,sa2,sa3]; rfl) ?_
 refine ChL.call rfl Tryz.call119 [.int .i64 k,.agg (brow DA),.agg (brow DB)] rfl (xb5o k DA DB _ (by omega) hDAg hDBg) ?_
 rintro e w2 ⟨rfl,k2⟩
 have hk2:=((uh HK1).drew).trans k2 (by simp)
 refine ⟨_,rfl,hk2,?_⟩
 rw [uh HOc,uh HFe]
 simp only [Act.put,sa1,sa2,sa3]
 have HOr:=hide hord
 clear hord
 generalize ordL DA DB = od at HOr ⊢
 refine ChL.fin ⟨hk2,?_⟩
 refine LinY.rd (.tuple #[.int .i64 od,.int .i64 ((0:Nat):Int)]) (fun W hW=>by go_simp) (by simp only [Act.put,sa1,sa2,sa3]; rfl) ?_
 refine LinY.rd (.int .i64 od) (fun W hW=>by go_simp) (by simp only [Act.put,sa1,sa2,sa3]; rfl) ?_
 refine LinY.rd (.int .i64 ((0:Nat):Int)) (fun W hW=>by go_simp) (by simp only [Act.put,sa1,sa2,sa3]; rfl) ?_
 refine LinY.rd (.int .i64 od) (fun W hW=>by go_simp) (by simp only [Act.put,sa1,sa2,sa3]; rfl) ?_
 refine LinY.rd (.int .i64 ((0:Nat):Int)) (fun W hW=>by go_simp) (by simp only [Act.put,sa1,sa2,sa3]; rfl) (LinY.fin ?_)
 have HK2:=hide hk2
 clear hk2 k2 HK1
 have hw16:∀ D:List Nat,Dg D→∀ e,(dgt D e:Nat) < 16:=fun D hD e=>dgt_lt hD.2 e
 by_cases hlt:dgt DA part < dgt DB part
 case' pos =>
  have hod:¬ (0 < od):=by have:=uh HOr; rw [if_pos hlt] at this; omega
  have hfk:=hide (hfst hlt)
  have HT1:=hide (fun f=>TreeAt.ofBk f (uh HBA) hsA)
  have HT2:=hide (fun f=>TreeAt.ofBk f (uh HBB) hsB)
  have HR1:=HRA
  have HR2:=HRB
  clear hfst hsnd hlt HOr HBA HBB HRA HRB hsA hsB HCc HOc HFe
  generalize ([(q,v)]:Prs) = P2 at hfk HT2
  obtain ⟨P1,rfl⟩:∃ P,P = A:=⟨_,rfl⟩
  obtain ⟨g1,rfl⟩:∃ g,g = ga:=⟨_,rfl⟩
  obtain ⟨g2,rfl⟩:∃ g,g = gb:=⟨_,rfl⟩
  obtain ⟨D1,rfl⟩:∃ D,D = DA:=⟨_,rfl⟩
  obtain ⟨D2,rfl⟩:∃ D,D = DB:=⟨_,rfl⟩
  have hD1:=hDAg
  have hD2:=hDBg
  have hf1:=hfA
  have hf2:=hfB
  have hl1:=hal
  have hl2:=hbl
  clear hDAg hDBg hfA hfB hal hbl
 case' neg =>
  have hod:(0 < od):=by have:=uh HOr; rw [if_neg hlt] at this; omega
  have hfk:=hide (hsnd hlt)
  have HT2:=hide (fun f=>TreeAt.ofBk f (uh HBA) hsA)
  have HT1:=hide (fun f=>TreeAt.ofBk f (uh HBB) hsB)
  have HR2:=HRA
  have HR1:=HRB
  clear hfst hsnd hlt HOr HBA HBB HRA HRB hsA hsB HCc HOc HFe
  generalize ([(q,v)]:Prs) = P1 at hfk HT1
  obtain ⟨P2,rfl⟩:∃ P,P = A:=⟨_,rfl⟩
  obtain ⟨g2,rfl⟩:∃ g,g = ga:=⟨_,rfl⟩
  obtain ⟨g1,rfl⟩:∃ g,g = gb:=⟨_,rfl⟩
  obtain ⟨D2,rfl⟩:∃ D,D = DA:=⟨_,rfl⟩
  obtain ⟨D1,rfl⟩:∃ D,D = DB:=⟨_,rfl⟩
  have hD2:=hDAg
  have hD1:=hDBg
  have hf2:=hfA
  have hf1:=hfB
  have hl2:=hal
  have hl1:=hbl
  clear hDAg hDBg hfA hfB hal hbl
 all_goals
  go_upto_region 5 with fail
  go_wp2_with (refine wpList_load_mid rfl 50 (.tmp 48) rfl g1 0 rfl (D1.map u8) _ ((uh HK2).rng (uh HR1) (by simp)) Tryz.underlying50 rfl (by rw [List.length_map,hl1]; exact Tryz.size_dig) ?_)
  refine Calls.mono (xa2i k D1 part _ hk hD1 hf1 hdeep2) ?_
  rintro e w3 ⟨rfl,k3⟩
  have HK3:=hide ((uh HK2).trans k3 (by simp))
  clear k3
  have hx1:=hw16 D1 hD1 part
  have hx2:=hw16 D2 hD2 part
  have hbm:=(uh hfk).bm
  have hkd:=(uh hfk).kids
  have hdg:=hide (uh hfk).dig
  generalize dgt D1 part = x1 at hx1 hbm ⊢
  obtain ⟨x2,he2⟩:∃ x,dgt D2 part = x:=⟨_,rfl⟩
  rw [he2] at hx2 hbm
  have HE2:=hide he2
  clear he2
  clear hfk
  go_wp2_with fail
  refine Calls.mono (xa4a 0 x1 _ (by decide) (by omega)) ?_
  rintro e w4 ⟨rfl,k4⟩
  have HK4:=hide ((uh HK3).trans k4 (by simp))
  clear k4 HK3 HK2
  have hb1:=xa3o 0 (x1:Int) (by decide)
  generalize withB 0 (x1:Int) = b1 at hbm hb1 ⊢
  go_wp2_with (refine wpList_load_mid rfl 50 (.tmp 58) rfl g2 0 rfl (D2.map u8) _ ((uh HK4).rng (uh HR2) (by simp)) Tryz.underlying50 rfl (by rw [List.length_map,hl2]; exact Tryz.size_dig) ?_)
  refine Calls.mono (xa2i k D2 part _ hk hD2 hf2 hdeep2) ?_
  rintro e w5 ⟨rfl,k5⟩
  have HK5:=hide ((uh HK4).trans k5 (by simp))
  clear k5 HK4
  rw [uh HE2]
  go_wp2_with fail
  refine Calls.mono (xa4a b1 x2 _ hb1 (by omega)) ?_
  rintro e w6 ⟨rfl,k6⟩
  have HK6:=hide ((uh HK5).trans k6 (by simp))
  clear k6 HK5
  rw [hbm]
  have hbx:=bm_lt (hsZ k) part M
  have HKd:=hide hkd
  have hsz6:=(uh HK6).size
  clear hbm hkd HE2 hx1 hx2 hb1
  have hag:=(uh HK6).alloc (.cells #[bkV g1,bkV g2] 100)
  have hrow:=xb2r (S:=S) (l:=[bkV g1,bkV g2]) (heap_alloc_new w6 (.cells #[bkV g1,bkV g2] 100)) (by simp) (hS _ hsz6)
  have HRow:=hide hrow
  have HAg:=hide hag
  clear hrow hag
  go_wp2_with fail
  refine Calls.mono (xa2n S k (63 - part) (bm (hsZ k) part M) _ [bkV g1,bkV g2] M _ hk (fun y hy=>hS y (Nat.le_trans (uh HAg).size hy)) hnM (by rw [show 63 - (63 - part) = part by omega]) (uh HRow) (by rw [show 63 - (63 - part) = part by omega,uh HKd]; rfl) (fun i hi=>by
   rw [show 63 - (63 - part) = part by omega,uh HKd]
   match i,hi with
   | 0,_=>exact (uh HT1 _).agr (Agr.nil (uh HAg))
   | 1,_=>exact (uh HT2 _).agr (Agr.nil (uh HAg))) ((uh HTb).k (uh HAg))) ?_
  rintro e w7 ⟨tv,rfl,ht7,k7⟩
  rw [show 63 - part + 1 = 64 - part by omega] at ht7
  have HT7:=hide ht7
  have HK7:=hide ((uh HAg).trans k7 (by simp))
  clear ht7 k7 HRow HAg HK6 HT1 HT2 hbx
  go_wp2
  go_loopw [9,14] (fun t9 t14 wr=>∃ (e:Nat) (tv:Value),t9 = .int .i64 e∧t14 = tv∧dep≤e∧e≤part∧Hid (TreeAt S (hsZ k) wr (64 - e) tv M)∧Hid (Kept [] w wr)) (fun t9 _ _=>(intOf t9).toNat)
  case atStart=>exact ⟨part,tv,rfl,rfl,hdp,Nat.le_refl _,HT7,HK7⟩
  case round =>
   obtain ⟨e,tw,rfl,rfl,h1,h2,HTe,HKe⟩:=hrel
   by_cases hgt:dep < e
   ·obtain ⟨e',rfl⟩:∃ e',e = e' + 1:=⟨e - 1,by omega⟩
    have hgt':(dep:Int) < ((e' + 1:Nat):Int):=by omega
    have hty:∃ t p,u14 = Value.iface t p:=by
     rcases (uh HTe).own with ⟨g,_,_,_,e9,_⟩ | ⟨g,_,_,_,e9,_⟩ <;> exact ⟨_,_,e9⟩
    obtain ⟨ti,tp,rfl⟩:=hty
    have hdge:=uh hdg e' (by omega)
    have hx:=hw16 D1 hD1 e'
    have hbm:=one_bm (H:=hsZ k) (d:=e') hx hnM hdge
    have hko:=xb8s (hsZ_ok hk) (d:=e') hnM hdge
    have HKo:=hide hko
    clear hdge hko
    have hed:e' < 2 * k:=by omega
    go_wp2_with (refine wpList_load_mid rfl 50 (.tmp 78) rfl g1 0 rfl (D1.map u8) _ ((uh HKe).rng (uh HR1) (by simp)) Tryz.underlying50 rfl (by rw [List.length_map,hl1]; exact Tryz.size_dig) ?_)
    refine Calls.mono (xa2i k D1 e' _ hk hD1 hf1 hed) ?_
    rintro e w8 ⟨rfl,k8⟩
    have HK8:=hide ((uh HKe).trans k8 (by simp))
    have HT8:=hide ((uh HTe).agr (Agr.nil k8))
    clear k8 HKe HTe
    generalize dgt D1 e' = x at hx hbm ⊢
    go_wp2_with fail
    refine Calls.mono (xa4a 0 x _ (by decide) (by omega)) ?_
    rintro e w9 ⟨rfl,k9⟩
    have HK9:=hide ((uh HK8).trans k9 (by simp))
    have hag:=k9.alloc (.cells #[Value.iface ti tp] 100)
    have HT9:=hide ((uh HT8).agr (Agr.nil hag))
    rw [hbm]
    have hbx:=bm_lt (hsZ k) e' M
    have hrow:=xb2r (S:=S) (l:=[Value.iface ti tp]) (heap_alloc_new w9 (.cells #[Value.iface ti tp] 100)) (by simp) (hS _ (uh HK9).size)
    have HRow:=hide hrow
    have HAg:=hide ((uh HK9).alloc (.cells #[Value.iface ti tp] 100))
    clear k9 HK8 HT8 hag hrow hbm hx
    go_wp2_with fail
    refine Calls.mono (xa2n S k (63 - e') (bm (hsZ k) e' M) _ [Value.iface ti tp] M _ hk (fun y hy=>hS y (Nat.le_trans (uh HAg).size hy)) hnM (by rw [show 63 - (63 - e') = e' by omega]) (uh HRow) (by rw [show 63 - (63 - e') = e' by omega,uh HKo]; rfl) (fun i hi=>by
     rw [show 63 - (63 - e') = e' by omega,uh HKo]
     match i,hi with
     | 0,_=>have h9:=uh HT9; rw [show 64 - (e' + 1) = 63 - e' by omega] at h9; exact h9) ((uh HTb).k (uh HAg))) ?_
    rintro e w10 ⟨tz,rfl,ht10,k10⟩
    rw [show 63 - e' + 1 = 64 - e' by omega] at ht10
    have HT10:=hide ht10
    have HK10:=hide ((uh HAg).trans k10 (by simp))
    clear ht10 k10 HRow HAg HK9 HT9 HKo
    go_wp2
    refine ⟨⟨e',tz,by go_num,rfl,by omega,by omega,HT10,HK10⟩,?_⟩
    simp [intOf]
   ·have hee:e = dep:=by omega
    subst hee
    have hgt':¬ (e:Int) < e:=by omega
    go_wp2
    go_ret
    exact ⟨_,rfl,uh HTe,uh HKe⟩
def dnL (H:Hs) (q:List Nat) (L:Prs):Nat→Prs
 | 0=>L
 | i + 1=>ch H i (dgt (H.kd q) i) (dnL H q L i)
theorem dn_on {H:Hs} {q:List Nat} {L:Prs}:∀ i,On H i q (dnL H q L i)
 | 0=>On.zero H q L
 | i + 1=>(dn_on i).ch
theorem dn_srt {H:Hs} {q:List Nat} {L:Prs} (h:Srt H L):∀ i,Srt H (dnL H q L i)
 | 0=>h
 | i + 1=>(dn_srt h i).ch _ _
theorem dn_sub {H:Hs} {q:List Nat} {L:Prs}:∀ i,∀ x∈dnL H q L i,x∈L
 | 0,x,hx=>hx
 | i + 1,x,hx=>dn_sub i x (ch_sub x hx)
theorem dn_len {H:Hs} {q:List Nat} {L:Prs}:∀ i,(dnL H q L i).length≤L.length
 | 0=>Nat.le_refl _
 | i + 1=>Nat.le_trans (List.length_filter_le _ _) (dn_len i)
theorem dn_get {H:Hs} {q:List Nat} {L:Prs}:∀ i,getP q (dnL H q L i) = getP q L
 | 0=>rfl
 | i + 1=>(get_ch _).trans (dn_get i)
def wayC (k:Nat) (D:List Nat) (cr en:Value) (pl:Nat) (fd:Bool):List Value:=.int .i64 k :: (D.map u8++([cr,en,.int .i64 pl,.bool fd]++[]))
theorem xa0w {k:Nat} {D:List Nat} (hD:D.length = 32) (cr en:Value) (pl:Nat) (fd:Bool):(wayC k D cr en pl fd).length = 37:=by simp [wayC,hD]
theorem xa0s {W:World} {g k:Nat} {D:List Nat} {cr en:Value} {pl:Nat} {fd:Bool} {t:TypeId} (h:W.heap[g]? = some (.cells (wayC k D cr en pl fd).toArray t (0,0))) (hD:D.length = 32) :
  W.cell? ⟨g,0,none⟩ = some (.int .i64 k)∧W.rangeAt g 1 (D.map u8)∧W.cell? ⟨g,33,none⟩ = some cr∧W.cell? ⟨g,34,none⟩ = some en∧W.cell? ⟨g,35,none⟩ = some (.int .i64 pl)∧W.cell? ⟨g,36,none⟩ = some (.bool fd):=by
 have key:∀ j,W.cell? ⟨g,33 + j,none⟩ = ([cr,en,.int .i64 pl,.bool fd]:List Value)[j]?:=fun j=>by
  rw [cell_of_row _ _ _ _ _ _ h,List.getElem?_toArray]
  unfold wayC
  rw [show 33 + j = (32 + j) + 1 by omega,List.getElem?_cons_succ,List.getElem?_append_right (by simp [hD])]
  simp [hD]
 refine ⟨?_,xa0k [.int .i64 (k:Int)] (D.map u8) _ h rfl,key 0,key 1,key 2,key 3⟩
 rw [cell_of_row _ _ _ _ _ _ h,List.getElem?_toArray]; rfl
theorem xa9x {W:World} {g k:Nat} {D:List Nat} {cr en:Value} {pl:Nat} {fd:Bool} {t:TypeId} (h:W.heap[g]? = some (.cells (wayC k D cr en pl fd).toArray t (0,0))) (hD:D.length = 32) :
  (∀ cr',(W.setCell ⟨g,33,none⟩ cr').heap[g]? = some (.cells (wayC k D cr' en pl fd).toArray t (0,0)))∧(∀ en',(W.setCell ⟨g,34,none⟩ en').heap[g]? = some (.cells (wayC k D cr en' pl fd).toArray t (0,0))) ∧
  (∀ pl':Nat,(W.setCell ⟨g,35,none⟩ (.int .i64 pl')).heap[g]? = some (.cells (wayC k D cr en pl' fd).toArray t (0,0)))∧(∀ fd',(W.setCell ⟨g,36,none⟩ (.bool fd')).heap[g]? = some (.cells (wayC k D cr en pl fd').toArray t (0,0))):=by
 have key:∀ (j:Nat) (x:Value),j < 4→∀ l:List Value,([cr,en,.int .i64 pl,.bool fd]:List Value).set j x = l→(W.setCell ⟨g,33 + j,none⟩ x).heap[g]? = some (.cells (.int .i64 (k:Int) :: (D.map u8++(l++[]))).toArray t (0,0)):=fun j x hj l hl=>by
  rw [heap_setCell_same W g (33 + j) _ t x h]
  congr 2
  unfold wayC
  rw [List.setIfInBounds_toArray,show 33 + j = (32 + j) + 1 by omega,List.set_cons_succ,List.set_append_right _ _ (by simp [hD])]
  rw [← hl]
  simp [hD]
 exact ⟨fun x=>key 0 x (by omega) _ rfl,fun x=>key 1 x (by omega) _ rfl,fun x=>key 2 _ (by omega) _ rfl,fun x=>key 3 _ (by omega) _ rfl⟩
theorem zway:(Tryz.prog.info? 88).map (fun i=>(i.zero,i.size)) = some (some (.agg (wayC 0 (List.replicate 32 0) (.slice none 0 0) (.pointer none) 0 false).toArray),37):=by kernel_rfl
theorem fway:∀ fs,Tryz.prog.underlying 88 = some (.struct fs)→fs.toList.mapM (fun f=>(Tryz.prog.info? f.type).map fun i=>(f.offset,i.size)) = some [(0,1),(1,32),(33,1),(34,1),(35,1),(36,1)]:=by
 intro fs hfs
 rw [Tryz.underlying88] at hfs
 injection hfs with hfs
 injection hfs with hfs
 subst hfs
 kernel_rfl
theorem xb5k (k:Nat) (D:List Nat) (hD:D.length = 32):Tryz.prog.built 88 [(0,.int .i64 k),(1,.agg (brow D))] = some (wayC k D (.slice none 0 0) (.pointer none) 0 false).toArray:=by
 have hz:=zway
 obtain ⟨it,hit⟩:∃ it,Tryz.prog.info? 88 = some it:=by
  cases h:Tryz.prog.info? 88 with
  | none=>rw [h] at hz; cases hz
  | some it=>exact ⟨it,rfl⟩
 rw [hit] at hz
 simp only [Option.map_some,Option.some.injEq,Prod.mk.injEq] at hz
 obtain ⟨fs,hfs⟩:∃ fs,Tryz.prog.underlying 88 = some (.struct fs):=⟨_,Tryz.underlying88⟩
 have hpl:=fway fs hfs
 unfold Program.built
 rw [hit,hfs]
 simp only [hz.1,hpl,Value.cells]
 have z1:(List.replicate 32 0:List Nat).length = 32:=List.length_replicate
 generalize (List.replicate 32 0:List Nat) = z at z1 ⊢
 unfold wayC
 have s1:=xa1d (place:=([(0,1),(1,32),(33,1),(34,1),(35,1),(36,1)].toArray[·]?)) (i:=0) (n:=1) (rest:=[(1,.agg (brow D))]) [] [.int .i64 ((0:Nat):Int)] (z.map u8++([.slice none 0 0,.pointer none,.int .i64 ((0:Nat):Int),.bool false]++[])) [.int .i64 (k:Int)] (X:=.int .i64 (k:Int)) rfl rfl rfl rfl
 have s2:=xa1d (place:=([(0,1),(1,32),(33,1),(34,1),(35,1),(36,1)].toArray[·]?)) (i:=1) (n:=32) (rest:=[]) [.int .i64 (k:Int)] (z.map u8) ([.slice none 0 0,.pointer none,.int .i64 ((0:Nat):Int),.bool false]++[]) (D.map u8) (X:=.agg (brow D)) rfl rfl (by rw [List.length_map,hD]) (by rw [List.length_map,z1])
 exact s1.trans s2
def ptrs (gs:List Nat):List (List Value):=gs.map fun g=>[.pointer (some ⟨g,0,none⟩)]
structure WayAt (S:Nat→Prop) (k:Nat) (W:World) (q:List Nat) (L:Prs) (m:Nat) (cr en:Value) (pl:Nat) (fd:Bool):Prop where
 cr:∃ gs:List Nat,gs.length = m∧RdC 1 W cr (ptrs gs)∧∀ i,i < m→TreeAt S (hsZ k) W (64 - i) (brV (gs.getD i 0)) (dnL (hsZ k) q L i)∧sgl (hsZ k) (dnL (hsZ k) q L i) = false
 en:(dnL (hsZ k) q L m = []∧en = .pointer none∧pl = 0∧fd = false)∨(sgl (hsZ k) (dnL (hsZ k) q L m) = true∧∃ g,en = .pointer (some ⟨g,0,none⟩)∧BkAt S (hsZ k) W g (dnL (hsZ k) q L m)∧pl = plc q (dnL (hsZ k) q L m)∧fd = fnd q (dnL (hsZ k) q L m))
 deep:m≤2 * k
theorem WayAt.old {S:Nat→Prop} {k:Nat} {W W':World} {q:List Nat} {L:Prs} {m:Nat} {cr en:Value} {pl:Nat} {fd:Bool} (h:WayAt S k W q L m cr en pl fd) (kk:Kept [] W W'):WayAt S k W' q L m cr en pl fd:=by
 obtain ⟨⟨gs,h1,h2,h3⟩,h4,h5⟩:=h
 refine ⟨⟨gs,h1,h2.old kk,fun i hi=>⟨(h3 i hi).1.agr (Agr.nil kk),(h3 i hi).2⟩⟩,?_,h5⟩
 rcases h4 with h4 | ⟨h4,g,h6,h7,h8⟩
 ·exact Or.inl h4
 ·exact Or.inr ⟨h4,g,h6,h7.agr (Agr.nil kk),h8⟩
theorem Sty.mono {S T:Nat→Prop} {W:World} {P:World→Prop} (hs:∀ x,T x→S x) (h:Sty T W P):Sty S W P:=fun w k=>h w (k.sub hs)
theorem KRow.mono {S T:Nat→Prop} {W:World} {pv:Value} {L:Prs} (hs:∀ x,T x→S x) (h:KRow T W pv L):KRow S W pv L:=by
 obtain ⟨b,off,cap,l,h1,h2,h3,h4,h5,h6,h7⟩:=h
 exact ⟨b,off,cap,l,h1,h2,h3,hs _ h4,h5,h6,fun i hi=>(h7 i hi).mono hs⟩
theorem BkAt.mono {S T:Nat→Prop} {H:Hs} {W:World} {g:Nat} {L:Prs} (hs:∀ x,T x→S x) (h:BkAt T H W g L):BkAt S H W g L:=by
 obtain ⟨pv,h1,h2,h3,h4⟩:=h
 exact ⟨pv,hs _ h1,h2,h3,h4.mono hs⟩
theorem SRow.mono {S T:Nat→Prop} {W:World} {v:Value} {vs:List Value} (hs:∀ x,T x→S x) (h:SRow T W v vs):SRow S W v vs:=by
 obtain ⟨b,off,cap,h1,h2,h3,h4,h5⟩:=h
 exact ⟨b,off,cap,h1,h2,h3,hs _ h4,h5⟩
theorem TreeAt.mono {S T:Nat→Prop} {H:Hs} {W:World} (hs:∀ x,T x→S x):∀ {f:Nat} {v:Value} {L:Prs},TreeAt T H W f v L→TreeAt S H W f v L
 | 0,v,L,h=>by
  obtain ⟨h0,g,h1,h2⟩:=h
  exact ⟨h0,g,h1,h2.mono hs⟩
 | f + 1,v,L,h=>by
  refine ⟨fun h0=>?_,fun h0=>?_⟩
  ·obtain ⟨g,h1,h2⟩:=h.1 h0
   exact ⟨g,h1,h2.mono hs⟩
  ·obtain ⟨g,kv,vs,h1,h2,h3,h4,h5,h6⟩:=h.2 h0
   exact ⟨g,kv,vs,h1,hs _ h2,h3,h4.mono hs,h5,fun i hi=>(h6 i hi).mono hs⟩
def lowS (S:Nat→Prop) (w:World):Nat→Prop:=fun x=>S x∧x < w.heap.size
theorem xb2v (S:Nat→Prop) (w:World):∀ x,lowS S w x→S x:=fun _ h=>h.1
theorem Sty.shrink {S:Nat→Prop} {W:World} {P:World→Prop} (h:Sty S W P):Sty (lowS S W) W P:=fun w k=>h w ⟨k.1,fun x hx hl=>k.2 x ⟨hx,hl⟩ hl⟩
theorem KRow.shrink {S:Nat→Prop} {W:World} {pv:Value} {L:Prs} (hn:L≠[]) (h:KRow S W pv L):KRow (lowS S W) W pv L:=by
 obtain ⟨b,off,cap,l,h1,h2,h3,h4,h5,h6,h7⟩:=h
 have h0:0 < l.length:=by rw [h5]; cases L with
  | nil=>exact absurd rfl hn
  | cons _ _=>simp
 exact ⟨b,off,cap,l,h1,h2,h3,⟨h4,block_lt_of_cell (h6 0 h0).1⟩,h5,h6,fun i hi=>(h7 i hi).shrink⟩
theorem BkAt.shrink {S:Nat→Prop} {H:Hs} {W:World} {g:Nat} {L:Prs} (h:BkAt S H W g L):BkAt (lowS S W) H W g L:=by
 obtain ⟨pv,h1,h2,h3,h4⟩:=h
 exact ⟨pv,⟨h1,lt_of_block h2⟩,h2,h3,h4.shrink h3⟩
theorem TreeAt.shrink {S:Nat→Prop} {H:Hs} (hH:H.Ok) {W:World}:∀ {f:Nat} {v:Value} {L:Prs},TreeAt S H W f v L→TreeAt (lowS S W) H W f v L
 | 0,v,L,h=>by
  obtain ⟨h0,g,h1,h2⟩:=h
  exact ⟨h0,g,h1,h2.shrink⟩
 | f + 1,v,L,h=>by
  refine ⟨fun h0=>?_,fun h0=>?_⟩
  ·obtain ⟨g,h1,h2⟩:=h.1 h0
   exact ⟨g,h1,h2.shrink⟩
  ·obtain ⟨g,kv,vs,h1,h2,h3,⟨b,off,cap,r1,r2,r3,r4,r5⟩,h5,h6⟩:=h.2 h0
   have hn:L≠[]:=by intro e; rw [e,xb0d] at h0; cases h0
   have hp:=(xa5t hH (d:=63 - f) hn).1
   have hb:=block_lt_of_cell (r5 0 (by omega))
   exact ⟨g,kv,vs,h1,⟨h2,lt_of_block h3⟩,h3,⟨b,off,cap,r1,r2,r3,⟨r4,hb⟩,r5⟩,h5,fun i hi=>(h6 i hi).shrink hH⟩
theorem KidAt.shrink {S:Nat→Prop} {H:Hs} (hH:H.Ok) {W:World} {f:Nat} {v:Value} {L:Prs} (h:KidAt S H W f v L):KidAt (lowS S W) H W f v L:=by
 rcases h with h | h
 ·exact Or.inl h
 ·exact Or.inr (h.shrink hH)
theorem xc2g {S:Nat→Prop} {w A B:World} (hA:Kept [] w A) (hB:Kept [] w B) (h:A.heap.size≤B.heap.size):Agr (lowS S w) A B :=
 ⟨h,fun x hx _=>(hB.block x hx.2 (by simp)).trans (hA.block x hx.2 (by simp)).symm⟩
end
end Go.Proofs.YtiopaaeejppnnaaGreatDoor
