import Derived.Test.YtiopaaeejppnnaaGreatDoorTopA
namespace Go.Proofs.YtiopaaeejppnnaaGreatDoor
set_option linter.unusedVariables false
set_option linter.unusedSimpArgs false
set_option maxRecDepth 100000
section
open Go.RowKit Go.BigFrame
def branchE (z:Int) (x:Nat) (ds:List (List Nat)):Nat:=if formedE z ds = 0 then (if x = 0∨ones x≠ds.length then 3 else 0) else formedE z ds
def kidsB (k:Nat) (ds:List (List Nat)):List Nat:=(ds.map fun d=>d.take k).flatten
theorem Wn.over {w0 w w':World} {b:Nat} {v:Value} {bs:List Nat} (h:Wn w0 w b v bs) (k:Kept [] w w'):Wn w0 w' b v bs :=
  ⟨h.at_.kept k (by simp) (by simp),h.new,h.hb,h.kept.trans k (by simp)⟩
def branchB (z:Int) (x:Nat) (ds:List (List Nat)):List Nat:=4 :: (wide x 2++kidsB z.toNat ds)
theorem xa7l (k:Nat) (ds:List (List Nat)) (i:Nat) (h:i < ds.length):kidsB k (ds.take (i + 1)) = kidsB k (ds.take i)++(ds.getD i []).take k:=by
  unfold kidsB
  rw [List.take_succ_eq_append_getElem h,List.map_append,List.flatten_append,List.getD_eq_getElem?_getD,List.getElem?_eq_getElem h]
  simp
theorem xb0x (k:Nat) (ds:List (List Nat)):(kidsB k ds).length≤k * ds.length:=by
  induction ds with
  | nil=>simp [kidsB]
  | cons d r ih =>
    have e:kidsB k (d :: r) = d.take k++kidsB k r:=by simp [kidsB]
    rw [e,List.length_append,List.length_cons,Nat.mul_succ,List.length_take]
    omega
theorem xc1v (x:Nat) (h:x < 65536):ones x≤16:=by
  have l1:ones (x / 256)≤8:=Lib.onesCount_le8 ⟨x / 256,by omega⟩
  have l2:ones (x % 256)≤8:=Lib.onesCount_le8 ⟨x % 256,by omega⟩
  rw [xa4s x h]; omega
set_option maxHeartbeats 1000000 in
theorem xa4y (z:Int) (x:Nat) (v:Value) (ds:List (List Nat)) (w:World) (hz:-9223372036854775808≤z∧z≤9223372036854775807) (hx:x < 65536) (hv:RdD w v ds) :
    Calls Tryz.prog 106 #[.int .i64 z,.int .u16 x,v] w fun e w'=>∃ v',e = .returned (.tuple #[v',.int .i64 (branchE z x ds)])∧NewB w w' v' (if branchE z x ds = 0 then branchB z x ds else [])∧Kept [] w w':=by
  have HV:=hide hv
  obtain ⟨ao,len,cap,rfl,h1,h2,h3,h4,h5⟩:=hv
  have H4:=hide h4
  have H5:=hide h5
  clear h4 h5
  subst h1
  have HE:=hide (show branchE z x ds = if formedE z ds = 0 then (if x = 0∨ones x≠ds.length then 3 else 0) else formedE z ds from rfl)
  have HF:=hide (show formedE z ds = if widthB z = false then 1 else if ds.all (formB z) then 0 else 3 from rfl)
  obtain ⟨R,hR⟩:∃ R,branchE z x ds = R:=⟨_,rfl⟩
  rw [hR] at HE ⊢
  clear hR
  obtain ⟨B,hB⟩:∃ B,(if R = 0 then branchB z x ds else []) = B:=⟨_,rfl⟩
  rw [hB]
  have HBB:=hide hB
  clear hB
  go_enter Tryz.func106,Tryz.ntmps106
  go_wp2_with fail
  refine Calls.mono (xa1x z _ hz) ?_
  rintro e w1 ⟨rfl,rfl⟩
  cases hw:widthB z with
  | false =>
    have HR:=hide (by rw [uh HE,uh HF,hw]; simp:R = 1)
    clear hw
    go_wp2
    go_ret2
    refine ⟨_,by rw [uh HR]; rfl,?_,Kept.refl _ _⟩
    rw [← uh HBB,uh HR]; exact NewB.nil _ _
  | true =>
    rw [hw] at HF
    have HW:=hide hw
    clear hw
    by_cases hx0:x = 0
    · have HR:=hide (by rw [uh HE]; by_cases h9:formedE z ds = 0; rw [if_pos h9,if_pos (Or.inl hx0)]; rw [if_neg h9]; have h8:=uh HF; simp at h8; rw [h8] at h9 ⊢; split at h9 <;> simp_all:R = 3)
      have hx0':((x:Int) == 0) = true:=by rw [beq_iff_eq]; omega
      have HX0:=hide hx0
      clear hx0
      go_wp2
      go_ret2
      refine ⟨_,by rw [uh HR]; rfl,?_,Kept.refl _ _⟩
      rw [← uh HBB,uh HR]; exact NewB.nil _ _
    · have hx0':((x:Int) == 0) = false:=by rw [beq_eq_false_iff_ne]; omega
      have HX0:=hide hx0
      clear hx0
      go_wp2_with fail
      have HO16:=hide (xc1v x hx)
      refine Calls.mono (xb5e x _ hx) ?_
      rintro e w2 ⟨rfl,k2⟩
      have HK2:=hide k2
      clear k2
      obtain ⟨o,ho⟩:∃ o,ones x = o:=⟨_,rfl⟩
      rw [ho] at HE HO16 ⊢
      clear ho
      by_cases hol:o = ds.length
      · have hb:((o:Int) != (ds.length:Int)) = false:=by rw [hol]; simp
        have HOL:=hide hol
        clear hol
        go_wp2_with fail
        refine Calls.mono (xb2h z _ ds _ hz ((uh HV).old (uh HK2))) ?_
        rintro e w3 ⟨rfl,k3⟩
        have HK3:=hide ((uh HK2).trans k3 (by simp))
        clear k3
        obtain ⟨f,hf⟩:∃ f,formedE z ds = f:=⟨_,rfl⟩
        rw [hf] at HE ⊢
        clear hf
        by_cases hf0:f = 0
        · have HR:=hide (by rw [uh HE,if_pos hf0,if_neg (by intro h; rcases h with h | h; exact uh HX0 h; exact h (uh HOL))]:R = 0)
          have hfb:((f:Int) != 0) = false:=by rw [hf0]; rfl
          have HF0:=hide hf0
          clear hf0
          have hwd:=xa2g (uh HW)
          obtain ⟨k,rfl⟩:∃ k:Nat,z = k:=⟨z.toNat,by omega⟩
          have hk:(k:Int)≤32:=hwd.2
          have hk':k≤32:=by omega
          have HW0:=hide (Wn.start (uh HK3))
          go_wp2_with fail
          refine Calls.mono (wn_u8 4 (uh HW0) (by decide) (by simp)) ?_
          rintro e w4 ⟨rfl,v4,h4⟩
          have HW4:=hide h4
          clear h4 HW0
          go_wp2_with fail
          refine Calls.mono (wn_u16 x (uh HW4) hx (by simp [xa1v])) ?_
          rintro e w5 ⟨rfl,v5,h5⟩
          rw [show []++wide 4 1++wide x 2 = 4 :: wide x 2 by simp [wide]] at h5
          have HW5:=hide h5
          clear h5 HW4
          go_wp2_with fail
          have HKL:=hide (fun i=>Nat.le_trans (xb0x k (ds.take i)) (Nat.mul_le_mul hk' (by rw [List.length_take]; exact Nat.min_le_right _ _)):∀ i,(kidsB k (ds.take i)).length≤32 * ds.length)
          have hdl16:ds.length≤16:=by have:=uh HO16; have:=uh HOL; omega
          go_loopw [35] (fun t35 wr=>∃ (i:Nat) (v:Value),i≤ds.length∧t35 = .int .i64 i∧Hid (Wn w1 wr w3.heap.size v (4 :: wide x 2++kidsB k (ds.take i)))) (fun t _=>ds.length - (intOf t).toNat)
          case atStart=>exact ⟨0,v5,Nat.zero_le _,rfl,by simpa [kidsB] using HW5⟩
          case round =>
            obtain ⟨i,vw,hi,rfl,HWR⟩:=hrel
            by_cases hlt:i < ds.length
            · have hlt':(i:Int) < ds.length:=by omega
              obtain ⟨b,o',rfl,hcell⟩:=uh H5 (by omega)
              have HD:=hide (uh H4 (ds.getD i []) (by rw [List.getD_eq_getElem?_getD,List.getElem?_eq_getElem hlt]; exact List.getElem_mem hlt))
              have HRG:=hide (fun j v hv=>(uh HWR).kept.cell (hcell i hlt j v hv) (by simp):wr.rangeAt b (o' + i * 32) ((ds.getD i []).map u8))
              have HSN:=hide (xa7l k ds i hlt)
              clear hcell
              obtain ⟨d,hd⟩:∃ d,ds.getD i [] = d:=⟨_,rfl⟩
              rw [hd] at HD HRG HSN
              clear hd
              have hdl:=(uh HD).1
              have HSZ:=hide (by rw [xa0a,hdl]; exact Tryz.size_dig:(Tryz.prog.info? 50).map (·.size) = some (brow d).size)
              have HNW:=hide (setRow_heap (wr.alloc (.cells (zb 32) 50)) wr.heap.size (zb 32) (brow d) 50 (0,0) (heap_alloc_new _ _))
              have HWN:=hide ((uh HWR).over (((Kept.refl [] wr).alloc (.cells (zb 32) 50)).setRow (g:=wr.heap.size) (Or.inr (Nat.le_refl _)) (brow d)))
              go_wp2_with (first
                | (refine wpList_load_mid rfl 50 (.tmp 37) rfl b (o' + i * 32) rfl (d.map u8) _ (uh HRG) Tryz.underlying50 rfl (by rw [List.length_map,hdl]; exact Tryz.size_dig) ?_)
                | (rw [zb32]; refine wpList_store_row rfl 50 (.tmp 11) _ rfl wr.heap.size (brow d) rfl rfl _ (zb 32) (heap_alloc_new _ _) (uh HSZ) (by rw [xa0d,xa0a,hdl]) (xa0c _) ?_))
              refine Calls.mono (wn_raw (uh HWN) (rd_dig (k:=k) (xa0v (uh HNW)) hdl (uh HD).2 hk') (by have h9:=uh HKL i; simp only [List.length_append,List.length_cons,xa1v,List.length_take]; omega)) ?_
              rintro e w6 ⟨rfl,v6,h6⟩
              rw [List.append_assoc,← uh HSN] at h6
              have HW6:=hide h6
              clear h6
              go_wp2
              refine ⟨⟨i + 1,v6,by omega,by go_num,HW6⟩,?_⟩
              simp [intOf]; omega
            · have hlt':¬ (i:Int) < ds.length:=by omega
              have hie:i = ds.length:=by omega
              subst hie
              have h9:=uh HKL ds.length
              rw [List.take_length] at HWR h9
              have HK9:=hide h9
              clear h9
              go_wp2_with fail
              refine Calls.mono (xb5q (uh HWR) (by have h9:=uh HK9; simp only [List.length_append,List.length_cons,xa1v]; omega)) ?_
              rintro e w7 ⟨v7,rfl,h7,k7⟩
              have H7:=hide h7
              have HK7:=hide k7
              clear h7 k7
              go_wp2
              go_ret2
              refine ⟨_,by rw [uh HR]; rfl,?_,uh HK7⟩
              have e9:B = 4 :: wide x 2++kidsB k ds:=by
                rw [← uh HBB,uh HR]; rfl
              rw [e9]; exact uh H7
        · have HR:=hide (by rw [uh HE,if_neg hf0]:R = f)
          have hfb:((f:Int) != 0) = true:=by rw [bne_iff_ne]; omega
          have HF0:=hide hf0
          clear hf0
          go_wp2
          go_ret2
          refine ⟨_,by rw [uh HR]; rfl,?_,uh HK3⟩
          rw [← uh HBB,uh HR,if_neg (uh HF0)]; exact NewB.nil _ _
      · have HR:=hide (by rw [uh HE]; by_cases h9:formedE z ds = 0; rw [if_pos h9,if_pos (Or.inr hol)]; rw [if_neg h9]; have h8:=uh HF; simp at h8; rw [h8] at h9 ⊢; split at h9 <;> simp_all:R = 3)
        have hb:((o:Int) != (ds.length:Int)) = true:=by rw [bne_iff_ne]; omega
        have HOL:=hide hol
        clear hol
        go_wp2
        go_ret2
        refine ⟨_,by rw [uh HR]; rfl,?_,uh HK2⟩
        rw [← uh HBB,uh HR]; exact NewB.nil _ _
set_option maxHeartbeats 1000000 in
theorem xa3h (k:Nat) (x:Nat) (v:Value) (ds:List (List Nat)) (w:World) (hk':k≤32) (hx:x < 65536) (hv:RdD w v ds) (hn:ds.length≤16) :
    Calls Tryz.prog 146 #[.int .i64 k,.int .u16 x,v] w fun e w'=>∃ v',e = .returned v'∧Rd w' v' (branchB k x ds)∧Kept [] w w':=by
  obtain ⟨ao,len,cap,rfl,h1,h2,h3,h4,h5⟩:=hv
  have H4:=hide h4
  have H5:=hide h5
  clear h4 h5
  subst h1
  have hk:(k:Int)≤32:=by omega
  have HKL:=hide (fun i=>Nat.le_trans (xb0x k (ds.take i)) (Nat.mul_le_mul hk' (by rw [List.length_take]; exact Nat.min_le_right _ _)):∀ i,(kidsB k (ds.take i)).length≤32 * ds.length)
  go_enter Tryz.func146,Tryz.ntmps146
  go_wp2_with fail
  refine Calls.mono (xb1k x 2 _ (by omega) (by decide)) ?_
  rintro e w1 ⟨rfl,k1,g1⟩
  have HR1:=hide (xa3o g1 (xb1c x 2) (by simp [xa1v]))
  rw [xa1v,show (w.alloc (.cells #[.int .u8 4] 5)).heap.size = w.heap.size + 1 from Array.size_push _] at HR1
  have k01:=((Kept.refl [] w).alloc _).trans k1 (by simp)
  have HK1:=hide k01
  have HR0:=hide ((xb4g [4] (heap_alloc_new w (.cells #[.int .u8 4] 5)) rfl (by decide) 1 rfl (by decide)).old k1 (by simp))
  clear g1 k1 k01
  go_wp2_with fail
  refine Calls.mono (xb2v _ _ [4] (wide x 2) _ (uh HR0) (uh HR1) (by simp [xa1v])) ?_
  rintro e w2 ⟨v2,rfl,o2,k2⟩
  have HO2:=hide o2
  have HS2:=hide ((uh HK1).size)
  have HK2:=hide ((uh HK1).trans k2 (by simp))
  obtain ⟨ao2,cap2,hu2⟩:=xa3c o2
  subst hu2
  have hzz:=k2.size
  clear o2 k2
  obtain ⟨B0,hB0⟩:∃ B0,w1.heap.size = B0:=⟨_,rfl⟩
  rw [hB0] at HO2 HS2 hzz
  clear hB0
  go_wp2_with fail
  go_loopw [7,17] (fun t7 t17 wr=>∃ (i:Nat) (cur:List Nat) (ao:Option Addr) (cap:Nat),i≤ds.length∧t17 = .int .i64 i∧t7 = .slice ao cur.length cap∧Hid (cur = 4 :: wide x 2++kidsB k (ds.take i))∧Hid (wr.ownsRow B0 5 1 (.slice ao cur.length cap) cur.length (cur.map u8))∧Hid (∀ z∈cur,z < 256)∧Hid (Kept [] w wr)∧B0≤wr.heap.size) (fun _ t _=>ds.length - (intOf t).toNat)
  case atStart=>exact ⟨0,[4]++wide x 2,ao2,cap2,Nat.zero_le _,rfl,by simp,hide (by simp [kidsB]),hide (by simpa using uh HO2),hide (by intro z hz; rcases List.mem_append.1 hz with h | h; simp at h; omega; exact xb1c _ _ z h),HK2,hzz⟩
  case round =>
    obtain ⟨i,cur,aoc,capc,hi,rfl,rfl,HCUR,HO,HCB,HK,hb0⟩:=hrel
    have HCL:=hide (by have h9:=uh HKL i; rw [uh HCUR]; simp only [List.length_append,List.length_cons,xa1v]; omega:cur.length≤1000)
    by_cases hlt:i < ds.length
    · have hlt':(i:Int) < ds.length:=by omega
      obtain ⟨b,o',rfl,hcell⟩:=uh H5 (by omega)
      have HD:=hide (uh H4 (ds.getD i []) (by rw [List.getD_eq_getElem?_getD,List.getElem?_eq_getElem hlt]; exact List.getElem_mem hlt))
      have HRG:=hide (fun j v hv=>(uh HK).cell (hcell i hlt j v hv) (by simp):wr.rangeAt b (o' + i * 32) ((ds.getD i []).map u8))
      have HSN:=hide (xa7l k ds i hlt)
      clear hcell
      obtain ⟨d,hd⟩:∃ d,ds.getD i [] = d:=⟨_,rfl⟩
      rw [hd] at HD HRG HSN
      clear hd
      have hdl:=(uh HD).1
      have HSZ:=hide (by rw [xa0a,hdl]; exact Tryz.size_dig:(Tryz.prog.info? 50).map (·.size) = some (brow d).size)
      have k1:=(((Kept.refl [] wr).alloc (.cells (zb 32) 50)).setRow (g:=wr.heap.size) (Or.inr (Nat.le_refl _)) (brow d))
      have HNW:=hide (rd_dig (k:=k) (xa0v (setRow_heap (wr.alloc (.cells (zb 32) 50)) wr.heap.size (zb 32) (brow d) 50 (0,0) (heap_alloc_new _ _))) hdl (uh HD).2 hk')
      have HOW:=hide (k1.owns (uh HO) (by simp))
      have HKW:=hide ((uh HK).trans k1 (by simp))
      have hbW:=Nat.le_trans hb0 k1.size
      clear k1
      have htl:(d.take k).length = k:=by rw [List.length_take,hdl]; omega
      go_wp2_with (first
        | (refine wpList_load_mid rfl 50 (.tmp 19) rfl b (o' + i * 32) rfl (d.map u8) _ (uh HRG) Tryz.underlying50 rfl (by rw [List.length_map,hdl]; exact Tryz.size_dig) ?_)
        | (rw [zb32]; refine wpList_store_row rfl 50 (.tmp 9) _ rfl wr.heap.size (brow d) rfl rfl _ (zb 32) (heap_alloc_new _ _) (uh HSZ) (by rw [xa0d,xa0a,hdl]) (xa0c _) ?_)
        | (at_builtin; go_must (refine xa0f rfl _ _ rfl rfl _ B0 (.slice aoc cur.length capc) cur (d.take k) _ _ _ (by exact uh HOW) (by exact uh HNW) (by have:=uh HCL; rw [htl]; omega) hbW rfl rfl ?_; intro ao6 cap6 w6 HO6 HG6 HA6; have HK6:=hide ((uh HKW).grown (uh HG6) (by intro g hg; right; have:=((uh HO).lt g hg).1; have:=uh HS2; omega)); have hb7:=(uh HG6).size)))
      refine ⟨⟨i + 1,cur++d.take k,ao6,cap6,by omega,by go_num,by simp only [List.length_append,htl],hide (by rw [uh HSN,uh HCUR]; simp only [List.append_assoc]),hide (by have h5:=uh HO6; rw [← List.length_append] at h5; exact h5),hide (by intro z hz; rcases List.mem_append.1 hz with h | h; exact uh HCB z h; exact (uh HD).2 z (List.mem_of_mem_take h)),HK6,Nat.le_trans hbW hb7⟩,?_⟩
      simp [intOf]; omega
    · have hlt':¬ (i:Int) < ds.length:=by omega
      have hie:i = ds.length:=by omega
      subst hie
      rw [List.take_length] at HCUR
      go_wp2_with fail
      go_ret
      refine ⟨_,rfl,?_,uh HK⟩
      have h5:=xa3r (uh HO) (uh HCB) (by have:=uh HCL; omega)
      rw [show branchB k x ds = cur from by rw [uh HCUR]; rfl]
      exact h5
set_option maxHeartbeats 1000000 in
theorem xa4z (v:Value) (ps:List (List Nat × List Nat)) (w:World) (h:RdK w v ps) (hl:(pairB ps).length≤1000000000000) :
    Calls Tryz.prog 126 #[v] w fun e w'=>∃ v',e = .returned v'∧NewB w w' v' (buckB ps)∧Kept [] w w':=by
  obtain ⟨ao,len,cap,vs,us,rfl,h1,h3,h4,h5,h6⟩:=h
  have H5:=hide h5
  have H6:=hide h6
  clear h5 h6
  subst h1
  go_enter Tryz.func126,Tryz.ntmps126
  have HW0:=hide (Wn.start (Kept.refl [] w))
  go_wp2_with fail
  refine Calls.mono (wn_u8 3 (uh HW0) (by decide) (by simp)) ?_
  rintro e w1 ⟨rfl,v1,h1⟩
  have HW1:=hide h1
  clear h1 HW0
  go_wp2_with fail
  refine Calls.mono (xc3k ps.length (uh HW1) (by omega) (by simp [xa1v])) ?_
  rintro e w2 ⟨rfl,v2,h2⟩
  rw [show []++wide 3 1++uv ps.length = 3 :: uv ps.length by simp [wide]] at h2
  have HW2:=hide h2
  clear h2 HW1
  have HUV:=hide (uv_len ps.length (by omega))
  go_wp2_with fail
  go_loopw [13] (fun t13 wr=>∃ (i:Nat) (v:Value),i≤ps.length∧t13 = .int .i64 i∧Hid (Wn w wr w.heap.size v (3 :: uv ps.length++pairB (ps.take i)))) (fun t _=>ps.length - (intOf t).toNat)
  case atStart=>exact ⟨0,v2,Nat.zero_le _,rfl,by simpa [pairB] using HW2⟩
  case round =>
    obtain ⟨i,vw,hi,rfl,HW⟩:=hrel
    by_cases hlt:i < ps.length
    · have hlt':(i:Int) < ps.length:=by omega
      obtain ⟨b,off,rfl,hcc⟩:=uh H6 (by omega)
      have q1:=(uh HW).kept.cell (hcc i hlt).1 (by simp)
      have q2:=(uh HW).kept.cell (hcc i hlt).2 (by simp)
      have HA:=hide (uh H5 i hlt)
      have hget:ps.getD i ([],[]) = ps[i]:=by rw [List.getD_eq_getElem?_getD,List.getElem?_eq_getElem hlt]; rfl
      rw [hget] at HA
      have HSN:=hide (xa7q ps i hlt)
      have HLE:=hide (xb2s ps (i + 1))
      clear hcc hget
      generalize vs.getD i undef = vi at q1 HA
      generalize us.getD i undef = ui at q2 HA
      generalize ps[i] = pi at HA HSN
      obtain ⟨pk,pv⟩:=pi
      simp only at HA HSN
      rw [uh HSN] at HLE
      have HLE2:=hide (by have h9:=uh HLE; simp only [List.length_append] at h9; omega:(pairB (ps.take i)).length + (uv pk.length).length + pk.length + (uv pv.length).length + pv.length≤1000000000000)
      have HU2:=hide (uv_pos pk.length)
      obtain ⟨a8,m8,c8,rfl,hm8,_⟩:=id (uh HA).1
      obtain ⟨a9,m9,c9,rfl,hm9,_⟩:=id (uh HA).2
      subst hm8
      subst hm9
      go_wp2_with fail
      have HWW:=hide (⟨(uh HW).at_.alloc (.cells #[.slice a8 pk.length c8,.slice a9 pv.length c9] 32),(uh HW).new,(uh HW).hb,(uh HW).kept.alloc _⟩:Wn w (wr.alloc (.cells #[.slice a8 pk.length c8,.slice a9 pv.length c9] 32)) w.heap.size vw (3 :: uv ps.length++pairB (ps.take i)))
      have HCW:=hide (heap_alloc_new wr (.cells #[.slice a8 pk.length c8,.slice a9 pv.length c9] 32))
      obtain ⟨W,hW⟩:∃ W,wr.alloc (.cells #[.slice a8 pk.length c8,.slice a9 pv.length c9] 32) = W:=⟨_,rfl⟩
      rw [hW] at HWW HCW ⊢
      clear hW
      have d1:W.cell? ⟨wr.heap.size,1,none⟩ = some (.slice a9 pv.length c9):=by rw [cell_of_row _ _ _ _ _ _ (uh HCW)]; rfl
      refine Calls.mono (xb0t _ vw _ _ pk W (uh HWW).at_ (fun w' k=>(uh HWW).rd (uh HA).1 k) (by have:=uh HLE2; have:=uh HUV; simp only [List.length_append,List.length_cons]; omega)) ?_
      rintro e w3 ⟨rfl,v3,h3,g3⟩
      have hn3:wr.heap.size∉w.heap.size :: vw.ownBlock.toList:=by
        intro hx
        rcases List.mem_cons.1 hx with hx | hx
        · have:=(uh HW).at_.lt; omega
        · have:=(uh HW).at_.ownlt (g:=wr.heap.size) (by simpa [Option.mem_toList] using hx); omega
      have d2:=g3.kept.cell d1 hn3
      have HW3:=hide ((uh HWW).grew h3 g3)
      clear h3 g3 hn3 d1
      go_wp2_with fail
      refine Calls.mono (xc1r (uh HW3) (uh HA).2 (by have:=uh HLE2; have:=uh HUV; simp only [List.length_append,List.length_cons]; omega)) ?_
      rintro e w4 ⟨rfl,v4,h4⟩
      have HW4:=hide h4
      clear h4
      go_wp2
      refine ⟨⟨i + 1,v4,by omega,by go_num,?_⟩,?_⟩
      · rw [uh HSN]
        simpa only [List.append_assoc] using HW4
      simp [intOf]; omega
    · have hlt':¬ (i:Int) < ps.length:=by omega
      have hie:i = ps.length:=by omega
      subst hie
      rw [List.take_length] at HW
      go_wp2_with fail
      refine Calls.mono (xb5q (uh HW) (by have:=uh HUV; simp only [List.length_append,List.length_cons]; omega)) ?_
      rintro e w6 ⟨v6,rfl,h6,k6⟩
      have H6':=hide h6
      have HK6:=hide k6
      clear h6 k6
      go_wp2
      go_ret
      exact ⟨_,rfl,uh H6',uh HK6⟩
set_option maxHeartbeats 1000000 in
theorem xa3n (v:Value) (ps:List (List Nat × List Nat)) (w:World) (h:RdK w v ps) (hl:(pairB ps).length≤1000000000000) :
    Calls Tryz.prog 145 #[v] w fun e w'=>∃ v',e = .returned v'∧Rd w' v' (buckB ps)∧Kept [] w w':=by
  obtain ⟨ao,len,cap,vs,us,rfl,h1,h3,h4,h5,h6⟩:=h
  have H5:=hide h5
  have H6:=hide h6
  clear h5 h6
  subst h1
  go_enter Tryz.func145,Tryz.ntmps145
  have HUV:=hide (uv_len ps.length (by omega))
  go_wp2_with fail
  refine Calls.mono (xa5g ps.length _ (by omega)) ?_
  rintro e w1 ⟨v1,rfl,r1,k1,_⟩
  have HR1:=hide r1
  have k01:=((Kept.refl [] w).alloc _).trans k1 (by simp)
  have HK1:=hide k01
  have HR0:=hide ((xb4g [3] (heap_alloc_new w (.cells #[.int .u8 3] 5)) rfl (by decide) 1 rfl (by decide)).old k1 (by simp))
  clear r1 k1 k01
  go_wp2_with fail
  refine Calls.mono (xb2v _ _ [3] (uv ps.length) _ (uh HR0) (uh HR1) (by have:=uh HUV; simp; omega)) ?_
  rintro e w2 ⟨v2,rfl,o2,k2⟩
  have HO2:=hide o2
  have HS2:=hide ((uh HK1).size)
  have HK2:=hide ((uh HK1).trans k2 (by simp))
  obtain ⟨ao2,cap2,hu2⟩:=xa3c o2
  subst hu2
  have hzz:=k2.size
  clear o2 k2
  obtain ⟨B0,hB0⟩:∃ B0,w1.heap.size = B0:=⟨_,rfl⟩
  rw [hB0] at HO2 HS2 hzz
  clear hB0
  go_wp2_with fail
  go_loopw [3,14] (fun t3 t14 wr=>∃ (i:Nat) (cur:List Nat) (ao:Option Addr) (cap:Nat),i≤ps.length∧t14 = .int .i64 i∧t3 = .slice ao cur.length cap∧Hid (cur = 3 :: uv ps.length++pairB (ps.take i))∧Hid (wr.ownsRow B0 5 1 (.slice ao cur.length cap) cur.length (cur.map u8))∧Hid (∀ z∈cur,z < 256)∧Hid (Kept [] w wr)∧B0≤wr.heap.size) (fun _ t _=>ps.length - (intOf t).toNat)
  case atStart=>exact ⟨0,[3]++uv ps.length,ao2,cap2,Nat.zero_le _,rfl,by simp,hide (by simp [pairB]),hide (by simpa using uh HO2),hide (by intro z hz; rcases List.mem_append.1 hz with h | h; simp at h; omega; exact xb8q _ z h),HK2,hzz⟩
  case round =>
    obtain ⟨i,cur,aoc,capc,hi,rfl,rfl,HCUR,HO,HCB,HK,hb0⟩:=hrel
    by_cases hlt:i < ps.length
    · have hlt':(i:Int) < ps.length:=by omega
      obtain ⟨b,off,rfl,hcc⟩:=uh H6 (by omega)
      have q1:=(uh HK).cell (hcc i hlt).1 (by simp)
      have q2:=(uh HK).cell (hcc i hlt).2 (by simp)
      have HA:=hide (uh H5 i hlt)
      have hget:ps.getD i ([],[]) = ps[i]:=by rw [List.getD_eq_getElem?_getD,List.getElem?_eq_getElem hlt]; rfl
      rw [hget] at HA
      have HSN:=hide (xa7q ps i hlt)
      have HLE:=hide (xb2s ps (i + 1))
      clear hcc hget
      generalize vs.getD i undef = vi at q1 HA
      generalize us.getD i undef = ui at q2 HA
      generalize ps[i] = pi at HA HSN
      obtain ⟨pk,pv⟩:=pi
      simp only at HA HSN
      rw [uh HSN] at HLE
      have HLE2:=hide (by have h9:=uh HLE; have h8:=uh HUV; rw [uh HCUR]; simp only [List.length_append,List.length_cons] at h9 ⊢; omega:cur.length + (uv pk.length).length + pk.length + (uv pv.length).length + pv.length≤1000000000100)
      obtain ⟨a8,m8,c8,rfl,hm8,_⟩:=id (uh HA).1
      obtain ⟨a9,m9,c9,rfl,hm9,_⟩:=id (uh HA).2
      subst hm8
      subst hm9
      go_wp2_with fail
      have k1:=(Kept.refl [] wr).alloc (.cells #[.slice a8 pk.length c8,.slice a9 pv.length c9] 32)
      have HCW:=hide (heap_alloc_new wr (.cells #[.slice a8 pk.length c8,.slice a9 pv.length c9] 32))
      obtain ⟨W,hW⟩:∃ W,wr.alloc (.cells #[.slice a8 pk.length c8,.slice a9 pv.length c9] 32) = W:=⟨_,rfl⟩
      rw [hW] at k1 HCW ⊢
      clear hW
      have HOW:=hide (k1.owns (uh HO) (by simp))
      have HKW:=hide ((uh HK).trans k1 (by simp))
      have HC1:=hide (by rw [cell_of_row _ _ _ _ _ _ (uh HCW)]; rfl:W.cell? ⟨wr.heap.size,1,none⟩ = some (.slice a9 pv.length c9))
      have hbW:=Nat.le_trans hb0 k1.size
      clear k1
      refine Calls.mono (xa5f _ pk _ ((uh HA).1.old (uh HKW) (by simp)) (by have:=uh HLE2; omega)) ?_
      rintro e w3 ⟨v3,rfl,r3,k3,_⟩
      obtain ⟨a3,m3,c3,hu3,hm3,_⟩:=id r3
      subst hu3
      have HR3:=hide r3
      have HO3:=hide (k3.owns (uh HOW) (by simp))
      have HK3:=hide ((uh HKW).trans k3 (by simp))
      have HK3W:=hide k3
      have hb3:=Nat.le_trans hbW k3.size
      clear r3 k3
      have hnin:wr.heap.size∉(Value.slice aoc cur.length capc).ownBlock.toList:=by
        intro hx
        have:=((uh HO).lt wr.heap.size (by simpa [Option.mem_toList] using hx)).2
        omega
      have HNI:=hide hnin
      have HLU:=hide ((uh HO).lt)
      clear hnin
      go_wp2_with (at_builtin; go_must (refine xa0f rfl _ _ rfl rfl _ B0 (.slice aoc cur.length capc) cur (uv pk.length++pk) _ _ _ (by exact uh HO3) (by exact uh HR3) (by have:=uh HLE2; simp only [List.length_append]; omega) hb3 rfl rfl ?_; intro ao4 cap4 w4 HO4 HG4 HA4; have c4:=(((uh HK3W).mono (M:=(Value.slice aoc cur.length capc).ownBlock.toList) (by simp)).grown (uh HG4) (by intro k hk; left; simpa [Option.mem_toList] using hk)).cell (uh HC1) (uh HNI); have HK4:=hide ((uh HK3).grown (uh HG4) (by intro k hk; right; have:=((uh HO).lt k hk).1; have:=uh HS2; omega)); have hb4:=(uh HG4).size))
      have hm3':m3 = (uv pk.length++pk).length:=by rw [← hm3]
      subst hm3'
      rw [← List.length_append] at HO4 ⊢
      have HC4:=hide (by intro z hz; rcases List.mem_append.1 hz with h | h; exact uh HCB z h; exact (uh HR3).byte z h:∀ z∈cur++(uv pk.length++pk),z < 256)
      obtain ⟨cur4,hcur4⟩:∃ c,cur++(uv pk.length++pk) = c:=⟨_,rfl⟩
      rw [hcur4] at HO4 HC4 ⊢
      have hl4:cur4.length = cur.length + ((uv pk.length).length + pk.length):=by rw [← hcur4]; simp
      have HL4:=hide hl4
      have HQ4:=hide hcur4
      have hb5:=Nat.le_trans hb3 hb4
      clear hl4 hcur4
      go_wp2_with fail
      refine Calls.mono (xa5f _ pv _ ((uh HA).2.old (uh HK4) (by simp)) (by have:=uh HLE2; omega)) ?_
      rintro e w5 ⟨v5,rfl,r5,k5,_⟩
      obtain ⟨a5,m5,c5,hu5,hm5,_⟩:=id r5
      subst hu5
      have HR5:=hide r5
      have HO5:=hide (k5.owns (uh HO4) (by simp))
      have HK5:=hide ((uh HK4).trans k5 (by simp))
      have hb6:=Nat.le_trans hb5 k5.size
      clear r5 k5
      go_wp2_with (at_builtin; go_must (refine xa0f rfl _ _ rfl rfl _ B0 (.slice ao4 cur4.length cap4) cur4 (uv pv.length++pv) _ _ _ (by exact uh HO5) (by exact uh HR5) (by have:=uh HLE2; have:=uh HL4; simp only [List.length_append]; omega) hb6 rfl rfl ?_; intro ao6 cap6 w6 HO6 HG6 HA6; have HK6:=hide ((uh HK5).grown (uh HG6) (by intro k hk; right; have:=((uh HO4).lt k hk).1; have:=uh HS2; omega)); have hb7:=(uh HG6).size))
      have hm5':m5 = (uv pv.length++pv).length:=by rw [← hm5]
      subst hm5'
      refine ⟨⟨i + 1,cur4++(uv pv.length++pv),ao6,cap6,by omega,by go_num,by simp only [List.length_append],hide (by rw [uh HSN,← uh HQ4,uh HCUR]; simp only [List.append_assoc]),hide (by have h5:=uh HO6; rw [← List.length_append] at h5; exact h5),hide (by intro z hz; rcases List.mem_append.1 hz with h | h; exact uh HC4 z h; exact (uh HR5).byte z h),HK6,Nat.le_trans hb6 hb7⟩,?_⟩
      simp [intOf]; omega
    · have hlt':¬ (i:Int) < ps.length:=by omega
      have hie:i = ps.length:=by omega
      subst hie
      rw [List.take_length] at HCUR
      go_wp2_with fail
      go_ret
      refine ⟨_,rfl,?_,uh HK⟩
      have h5:=xa3r (uh HO) (uh HCB) (by have:=uh HUV; rw [uh HCUR]; simp only [List.length_append,List.length_cons]; omega)
      rw [show buckB ps = cur from by rw [uh HCUR]; rfl]
      exact h5
end

section
open Go.RowKit Go.BigFrame
set_option maxHeartbeats 1000000 in
theorem xa7e (z:Int) (v:Value) (p:List Nat) (w:World) (hz:-9223372036854775808≤z∧z≤9223372036854775807) (h:Rd w v p) (hl:p.length≤140737488351232) (hT:Tabs w) :
    Calls Tryz.prog 38 #[.int .i64 z,v] w fun e w'=>e = .returned (.tuple #[.agg (brow (sumD z (2 :: p))),.int .i64 (sumE z)])∧Kept [] w w':=by
  have H:=hide h
  have HT:=hide hT
  clear h hT
  have hcl:=xa0h z (2 :: p)
  obtain ⟨B,hB⟩:∃ B,2 :: p = B:=⟨_,rfl⟩
  have HB:=hide hB
  rw [hB] at hcl ⊢
  clear hB
  obtain ⟨D,hD⟩:∃ D,sumD z B = D:=⟨_,rfl⟩
  have HD:=hide hD
  rw [hD] at hcl ⊢
  clear hD
  obtain ⟨E,hE⟩:∃ E,sumE z = E:=⟨_,rfl⟩
  have HE:=hide hE
  rw [hE]
  clear hE
  go_enter Tryz.func38,Tryz.ntmps38
  go_wp2_with fail
  rw [zb32]
  refine Calls.mono (xa8l _ p _ ((uh H).old ((Kept.refl [] w).alloc _) (by simp)) hl) ?_
  rintro e w1 ⟨v1,rfl,n1,k1⟩
  rw [uh HB] at n1
  have HR1:=hide n1.1
  obtain ⟨a1,m1,c1,hu1,hm1,_⟩:=id n1.1
  subst hu1
  have HZ1:=hide (k1.heap (heap_alloc_new w (.cells (zb 32) 50)) (by simp))
  have HK1:=hide (((Kept.refl [] w).alloc (.cells (zb 32) 50)).trans k1 (by simp))
  clear n1 k1
  go_wp2_with fail
  refine Calls.mono (xa9e z _ [B] _ hz (RdL.one (heap_alloc_new _ _) ((uh HR1).old ((Kept.refl [] w1).alloc _) (by simp))) (by have h9:=(uh HR1).len; simpa using h9) ((uh HT).k ((uh HK1).alloc _))) ?_
  rintro e w2 ⟨rfl,k2⟩
  rw [show ([B]:List (List Nat)).flatten = B by simp,uh HD,uh HE]
  have HZ2:=hide (k2.heap ((Kept.refl [] w1).alloc (.cells #[.slice a1 m1 c1] 30) |>.heap (uh HZ1) (by simp)) (by simp))
  have HK2:=hide (((uh HK1).alloc _).trans k2 (by simp))
  clear k2
  go_wp2_with (refine wpList_store_row rfl 50 _ _ rfl w.heap.size (brow D) rfl rfl _ (zb 32) (uh HZ2) (by rw [xa0a,hcl]; exact Tryz.size_dig) (by rw [xa0d,xa0a,hcl]) (xa0c _) ?_)
  refine bodyPost_ret (v:=.tuple #[.agg (brow D),.int .i64 E]) ?_ rfl ⟨rfl,(uh HK2).setRow (by simp) _⟩
  exact xa0e rfl _ _ w.heap.size _ (brow D) (0,0) _ rfl (setRow_heap _ _ _ _ _ _ (uh HZ2)) Tryz.underlying50 rfl (by rw [xa0a,hcl]; exact Tryz.size_dig) _ rfl
set_option maxHeartbeats 1000000 in
theorem xa8b (z:Int) (v:Value) (ps:List (List Nat × List Nat)) (w:World) (hz:-9223372036854775808≤z∧z≤9223372036854775807) (h:RdK w v ps) (hl:(pairB ps).length≤1000000000000) (hT:Tabs w) :
    Calls Tryz.prog 104 #[.int .i64 z,v] w fun e w'=>e = .returned (.tuple #[.agg (brow (sumD z (buckB ps))),.int .i64 (sumE z)])∧Kept [] w w':=by
  have H:=hide h
  have HT:=hide hT
  clear h hT
  have hcl:=xa0h z (buckB ps)
  obtain ⟨B,hB⟩:∃ B,buckB ps = B:=⟨_,rfl⟩
  have HB:=hide hB
  rw [hB] at hcl ⊢
  clear hB
  obtain ⟨D,hD⟩:∃ D,sumD z B = D:=⟨_,rfl⟩
  have HD:=hide hD
  rw [hD] at hcl ⊢
  clear hD
  obtain ⟨E,hE⟩:∃ E,sumE z = E:=⟨_,rfl⟩
  have HE:=hide hE
  rw [hE]
  clear hE
  go_enter Tryz.func104,Tryz.ntmps104
  go_wp2_with fail
  rw [zb32]
  refine Calls.mono (xa4z _ ps _ ((uh H).old ((Kept.refl [] w).alloc _)) hl) ?_
  rintro e w1 ⟨v1,rfl,n1,k1⟩
  rw [uh HB] at n1
  have HR1:=hide n1.1
  obtain ⟨a1,m1,c1,hu1,hm1,_⟩:=id n1.1
  subst hu1
  have HZ1:=hide (k1.heap (heap_alloc_new w (.cells (zb 32) 50)) (by simp))
  have HK1:=hide (((Kept.refl [] w).alloc (.cells (zb 32) 50)).trans k1 (by simp))
  clear n1 k1
  go_wp2_with fail
  refine Calls.mono (xa9e z _ [B] _ hz (RdL.one (heap_alloc_new _ _) ((uh HR1).old ((Kept.refl [] w1).alloc _) (by simp))) (by have h9:=(uh HR1).len; simpa using h9) ((uh HT).k ((uh HK1).alloc _))) ?_
  rintro e w2 ⟨rfl,k2⟩
  rw [show ([B]:List (List Nat)).flatten = B by simp,uh HD,uh HE]
  have HZ2:=hide (k2.heap ((Kept.refl [] w1).alloc (.cells #[.slice a1 m1 c1] 30) |>.heap (uh HZ1) (by simp)) (by simp))
  have HK2:=hide (((uh HK1).alloc _).trans k2 (by simp))
  clear k2
  go_wp2_with (refine wpList_store_row rfl 50 _ _ rfl w.heap.size (brow D) rfl rfl _ (zb 32) (uh HZ2) (by rw [xa0a,hcl]; exact Tryz.size_dig) (by rw [xa0d,xa0a,hcl]) (xa0c _) ?_)
  refine bodyPost_ret (v:=.tuple #[.agg (brow D),.int .i64 E]) ?_ rfl ⟨rfl,(uh HK2).setRow (by simp) _⟩
  exact xa0e rfl _ _ w.heap.size _ (brow D) (0,0) _ rfl (setRow_heap _ _ _ _ _ _ (uh HZ2)) Tryz.underlying50 rfl (by rw [xa0a,hcl]; exact Tryz.size_dig) _ rfl
def sunD (e:Nat) (z:Int) (p:List Nat):List Nat:=if e = 0 then sumD z p else List.replicate 32 0
def sunE (e:Nat) (z:Int):Nat:=if e = 0 then sumE z else e
theorem xa9j (e:Nat) (z:Int) (p:List Nat):(sunD e z p).length = 32:=by
  unfold sunD; split
  · exact xa0h _ _
  · simp
set_option maxHeartbeats 1000000 in
theorem xa7o (f:Nat) (z:Int) (v:Value) (p:List Nat) (w:World) (hz:-9223372036854775808≤z∧z≤9223372036854775807) (h:Rd w v p) (hT:Tabs w) :
    Calls Tryz.prog 107 #[.int .i64 f,.int .i64 z,v] w fun e w'=>e = .returned (.tuple #[.agg (brow (sunD f z p)),.int .i64 (sunE f z)])∧Kept [] w w':=by
  have H:=hide h
  obtain ⟨a0,m0,c0,hu0,hm0,_⟩:=id h
  subst hu0
  subst hm0
  have HT:=hide hT
  clear h hT
  have hcl:=xa9j f z p
  obtain ⟨D,hD⟩:∃ D,sunD f z p = D:=⟨_,rfl⟩
  have HD:=hide hD
  rw [hD] at hcl ⊢
  clear hD
  obtain ⟨E,hE⟩:∃ E,sunE f z = E:=⟨_,rfl⟩
  have HE:=hide hE
  rw [hE]
  clear hE
  have HL:=hide (uh H).len
  go_enter Tryz.func107,Tryz.ntmps107
  by_cases hf:f = 0
  · have hb:((f:Int) != 0) = false:=by rw [hf]; rfl
    have HD2:=hide (by rw [← uh HD]; unfold sunD; rw [if_pos hf]:D = sumD z p)
    have HE2:=hide (by rw [← uh HE]; unfold sunE; rw [if_pos hf]:E = sumE z)
    have HF:=hide hf
    clear hf
    go_wp2_with fail
    rw [zb32]
    refine Calls.mono (xa9e z _ [p] _ hz (RdL.one (xa2w _ _ _) ((uh H).old (((Kept.refl [] w).alloc _).alloc _) (by simp))) (by have h9:=uh HL; simpa using h9) ((uh HT).k (((Kept.refl [] w).alloc _).alloc _))) ?_
    rintro e w2 ⟨rfl,k2⟩
    rw [show ([p]:List (List Nat)).flatten = p by simp,← uh HD2,← uh HE2]
    have HZ2:=hide (k2.heap (((Kept.refl [] (w.alloc (.cells (zb 32) 50))).alloc (.cells #[.slice a0 p.length c0] 30)).heap (heap_alloc_new w (.cells (zb 32) 50)) (by simp)) (by simp))
    have HK2:=hide ((((Kept.refl [] w).alloc _).alloc _).trans k2 (by simp))
    clear k2
    go_wp2_with (refine wpList_store_row rfl 50 _ _ rfl w.heap.size (brow D) rfl rfl _ (zb 32) (uh HZ2) (by rw [xa0a,hcl]; exact Tryz.size_dig) (by rw [xa0d,xa0a,hcl]) (xa0c _) ?_)
    refine bodyPost_ret (v:=.tuple #[.agg (brow D),.int .i64 E]) ?_ rfl ⟨rfl,(uh HK2).setRow (by simp) _⟩
    exact xa0e rfl _ _ w.heap.size _ (brow D) (0,0) _ rfl (setRow_heap _ _ _ _ _ _ (uh HZ2)) Tryz.underlying50 rfl (by rw [xa0a,hcl]; exact Tryz.size_dig) _ rfl
  · have hb:((f:Int) != 0) = true:=by rw [bne_iff_ne]; omega
    have HD2:=hide (by rw [← uh HD]; unfold sunD; rw [if_neg hf]:D = List.replicate 32 0)
    have HE2:=hide (by rw [← uh HE]; unfold sunE; rw [if_neg hf]:E = f)
    have HF:=hide hf
    clear hf
    go_wp2_with (rw [zb32]; refine wpList_store_row rfl 50 _ _ rfl w.heap.size (zb 32) rfl rfl _ (zb 32) (heap_alloc_new _ _) (by rw [xa0d]; exact Tryz.size_dig) rfl (xa0c _) ?_)
    rw [uh HD2,uh HE2]
    refine bodyPost_ret (v:=.tuple #[.agg (zb 32),.int .i64 f]) ?_ rfl ⟨rfl,((Kept.refl [] w).alloc _).setRow (by simp) _⟩
    exact xa0e rfl _ _ w.heap.size _ (zb 32) (0,0) _ rfl (setRow_heap _ _ _ _ _ _ (heap_alloc_new _ _)) Tryz.underlying50 rfl (by rw [xa0d]; exact Tryz.size_dig) _ rfl
set_option maxHeartbeats 1000000 in
theorem xa4i (z:Int) (x:Nat) (v:Value) (ds:List (List Nat)) (w:World) (hz:-9223372036854775808≤z∧z≤9223372036854775807) (hx:x < 65536) (h:RdD w v ds) (hT:Tabs w) :
    Calls Tryz.prog 79 #[.int .i64 z,.int .u16 x,v] w fun e w'=>e = .returned (.tuple #[.agg (brow (sunD (branchE z x ds) z (branchB z x ds))),.int .i64 (sunE (branchE z x ds) z)])∧Kept [] w w':=by
  have HT:=hide hT
  clear hT
  have hcl:=xa9j (branchE z x ds) z (branchB z x ds)
  have HX:=hide (by unfold sunD; by_cases h9:branchE z x ds = 0; rw [if_pos h9,if_pos h9,if_pos h9]; rw [if_neg h9,if_neg h9]:sunD (branchE z x ds) z (if branchE z x ds = 0 then branchB z x ds else []) = sunD (branchE z x ds) z (branchB z x ds))
  obtain ⟨f,hf⟩:∃ f,branchE z x ds = f:=⟨_,rfl⟩
  have HF:=hide hf
  rw [hf] at hcl HX ⊢
  clear hf
  obtain ⟨D,hD⟩:∃ D,sunD f z (branchB z x ds) = D:=⟨_,rfl⟩
  have HD:=hide hD
  rw [hD] at hcl HX ⊢
  clear hD
  obtain ⟨E,hE⟩:∃ E,sunE f z = E:=⟨_,rfl⟩
  have HE:=hide hE
  rw [hE]
  clear hE
  go_enter Tryz.func79,Tryz.ntmps79
  go_wp2_with fail
  rw [zb32]
  refine Calls.mono (xa4y z x _ ds _ hz hx (h.old ((Kept.refl [] w).alloc _))) ?_
  rintro e w1 ⟨v1,rfl,n1,k1⟩
  rw [uh HF] at n1 ⊢
  have HR1:=hide n1.1
  obtain ⟨a1,m1,c1,hu1,hm1,_⟩:=id n1.1
  subst hu1
  have HZ1:=hide (k1.heap (heap_alloc_new w (.cells (zb 32) 50)) (by simp))
  have HK1:=hide (((Kept.refl [] w).alloc (.cells (zb 32) 50)).trans k1 (by simp))
  clear n1 k1 hm1
  go_wp2_with fail
  refine Calls.mono (xa7o f z _ _ w1 hz (uh HR1) ((uh HT).k (uh HK1))) ?_
  rintro e w2 ⟨rfl,k2⟩
  rw [uh HX,uh HE]
  have HZ2:=hide (k2.heap (uh HZ1) (by simp))
  have HK2:=hide ((uh HK1).trans k2 (by simp))
  clear k2
  go_wp2_with (refine wpList_store_row rfl 50 _ _ rfl w.heap.size (brow D) rfl rfl _ (zb 32) (uh HZ2) (by rw [xa0a,hcl]; exact Tryz.size_dig) (by rw [xa0d,xa0a,hcl]) (xa0c _) ?_)
  refine bodyPost_ret (v:=.tuple #[.agg (brow D),.int .i64 E]) ?_ rfl ⟨rfl,(uh HK2).setRow (by simp) _⟩
  exact xa0e rfl _ _ w.heap.size _ (brow D) (0,0) _ rfl (setRow_heap _ _ _ _ _ _ (uh HZ2)) Tryz.underlying50 rfl (by rw [xa0a,hcl]; exact Tryz.size_dig) _ rfl
end
def al (i:Int):Nat:=if 0≤i∧i≤15 then 2 ^ i.toNat else 0
def hasB (b:Nat) (i:Int):Bool:=decide (0≤i) && (decide (i≤15) && b.testBit i.toNat)
def setB (b:Nat):Nat→List Nat
  | 0=>[]
  | k + 1=>if b.testBit k then setB b k++[k] else setB b k
def cnt (b:Nat) (k:Nat):Nat:=(setB b k).length
def rankB (b:Nat) (i:Int):Nat:=if i < 0 then 0 else cnt b (if i≤15 then i.toNat else 16)
def withB (b:Nat) (i:Int):Nat:=if 0≤i∧i≤15∧b.testBit i.toNat = false then b + 2 ^ i.toNat else b
def outB (b:Nat) (i:Int):Nat:=if 0≤i∧i≤15∧b.testBit i.toNat = true then b - 2 ^ i.toNat else b
theorem al_in {i:Nat} (h:i≤15):al (i:Int) = 2 ^ i:=by unfold al; rw [if_pos (by omega),Int.toNat_natCast]
theorem al_out {i:Int} (h:¬ (0≤i∧i≤15)):al i = 0:=by unfold al; rw [if_neg h]
theorem al_lt (i:Int):al i < 65536:=by
  unfold al
  split
  · have:2 ^ i.toNat≤2 ^ 15:=Nat.pow_le_pow_right (by decide) (by omega)
    omega
  · decide
theorem xa2v (b k:Nat):cnt b (k + 1) = cnt b k + if b.testBit k then 1 else 0:=by
  unfold cnt; simp only [setB]; split <;> simp
theorem cnt_le (b:Nat):∀ k,cnt b k≤k
  | 0=>Nat.le_refl _
  | k + 1=>by rw [xa2v]; have:=cnt_le b k; split <;> omega
theorem xa5q (b:Nat):∀ (k j:Nat),j∈setB b k↔j < k∧b.testBit j = true
  | 0,j=>by simp [setB]
  | k + 1,j=>by
    unfold setB
    split
    · rename_i h
      rw [List.mem_append,xa5q b k j]
      simp only [List.mem_singleton]
      constructor
      · rintro (⟨h1,h2⟩ | rfl)
        · exact ⟨by omega,h2⟩
        · exact ⟨by omega,h⟩
      · rintro ⟨h1,h2⟩
        rcases Nat.lt_or_ge j k with g | g
        · exact Or.inl ⟨g,h2⟩
        · exact Or.inr (by omega)
    · rename_i h
      rw [xa5q b k j]
      constructor
      · rintro ⟨h1,h2⟩; exact ⟨by omega,h2⟩
      · rintro ⟨h1,h2⟩
        rcases Nat.lt_or_ge j k with g | g
        · exact ⟨g,h2⟩
        · rw [show j = k by omega] at h2; exact absurd h2 h
theorem xa5y {b c:Nat}:∀ k,(∀ j,j < k→b.testBit j = c.testBit j)→cnt b k = cnt c k
  | 0,_=>rfl
  | k + 1,h=>by rw [xa2v,xa2v,xa5y k (fun j hj=>h j (by omega)),h k (by omega)]
theorem xa7j {b:Nat} (k:Nat) (h:∀ j,k≤j→b.testBit j = false):∀ d,cnt b (k + d) = cnt b k
  | 0=>rfl
  | d + 1=>by rw [← Nat.add_assoc,xa2v,xa7j k h d,h (k + d) (by omega)]; simp
theorem xc2j {b k:Nat} (hk:k≤16):cnt (b % 2 ^ k) 16 = cnt b k:=by
  have h1:cnt (b % 2 ^ k) (k + (16 - k)) = cnt (b % 2 ^ k) k:=xa7j k (fun j hj=>by rw [Nat.testBit_mod_two_pow]; simp; omega) _
  rw [show k + (16 - k) = 16 by omega] at h1
  rw [h1]
  exact xa5y k (fun j hj=>by rw [Nat.testBit_mod_two_pow]; simp [hj])
theorem xb0r (b:Nat):cnt b 16 = cnt (b / 256) 8 + cnt (b % 256) 8:=by
  have h1:∀ k,k≤8→cnt b (8 + k) = cnt b 8 + cnt (b / 256) k:=by
    intro k hk
    induction k with
    | zero=>rfl
    | succ k ih =>
      have e:(b / 256).testBit k = b.testBit (8 + k):=by rw [show (256:Nat) = 2 ^ 8 by rfl,Nat.testBit_div_two_pow,Nat.add_comm k 8]
      rw [← Nat.add_assoc,xa2v,ih (by omega),xa2v (b / 256) k,e,Nat.add_assoc]
  rw [h1 8 (by omega),Nat.add_comm]
  congr 1
  exact xa5y 8 (fun j hj=>by rw [show (256:Nat) = 2 ^ 8 by rfl,Nat.testBit_mod_two_pow]; simp [hj])
theorem and_al (b:Nat) (i:Nat):b &&& 2 ^ i = if b.testBit i then 2 ^ i else 0:=by
  apply Nat.eq_of_testBit_eq
  intro j
  rw [Nat.testBit_and,Nat.testBit_two_pow]
  by_cases h:i = j
  · subst h; cases hb:b.testBit i <;> simp
  · cases hb:b.testBit i <;> simp [h]
theorem xb3q {b i:Nat} (hb:b.testBit i = false) (j:Nat):(b + 2 ^ i).testBit j = (b.testBit j || decide (i = j)):=by
  have hp:=Nat.two_pow_pos i
  obtain ⟨c,r,hr,rfl⟩:∃ c r,r < 2 ^ i∧b = 2 ^ i * c + r:=⟨b / 2 ^ i,b % 2 ^ i,Nat.mod_lt _ hp,(Nat.div_add_mod _ _).symm⟩
  rw [Nat.testBit_two_pow_mul_add c hr,if_neg (by omega),Nat.sub_self,Nat.testBit_zero] at hb
  have hc:c % 2 = 0:=by simpa using hb
  have e:2 ^ i * c + r + 2 ^ i = 2 ^ i * (c + 1) + r:=by rw [Nat.mul_add]; omega
  rw [e,Nat.testBit_two_pow_mul_add _ hr,Nat.testBit_two_pow_mul_add _ hr]
  by_cases h:j < i
  · rw [if_pos h,if_pos h]; simp; omega
  · rw [if_neg h,if_neg h]
    by_cases g:i = j
    · subst g; rw [Nat.sub_self,Nat.testBit_zero,Nat.testBit_zero]; simp; omega
    · obtain ⟨k,hk⟩:∃ k,j - i = k + 1:=⟨j - i - 1,by omega⟩
      rw [hk,Nat.testBit_succ,Nat.testBit_succ,show (c + 1) / 2 = c / 2 by omega]; simp [g]
theorem bit_ge {b i:Nat} (h:b.testBit i = true):2 ^ i≤b:=Nat.ge_two_pow_of_testBit h
theorem xb5b {b i:Nat} (hb:b.testBit i = true) (j:Nat):(b - 2 ^ i).testBit j = (b.testBit j && !decide (i = j)):=by
  have h0:=bit_ge hb
  have hp:=Nat.two_pow_pos i
  obtain ⟨c,r,hr,rfl⟩:∃ c r,r < 2 ^ i∧b = 2 ^ i * c + r:=⟨b / 2 ^ i,b % 2 ^ i,Nat.mod_lt _ hp,(Nat.div_add_mod _ _).symm⟩
  rw [Nat.testBit_two_pow_mul_add c hr,if_neg (by omega),Nat.sub_self,Nat.testBit_zero] at hb
  have hc:c % 2 = 1:=by simpa using hb
  obtain ⟨e,rfl⟩:∃ e,c = e + 1:=⟨c - 1,by omega⟩
  have e':2 ^ i * (e + 1) + r - 2 ^ i = 2 ^ i * e + r:=by rw [Nat.mul_add]; omega
  rw [e',Nat.testBit_two_pow_mul_add _ hr,Nat.testBit_two_pow_mul_add _ hr]
  by_cases h:j < i
  · rw [if_pos h,if_pos h]; simp; omega
  · rw [if_neg h,if_neg h]
    by_cases g:i = j
    · subst g; rw [Nat.sub_self,Nat.testBit_zero,Nat.testBit_zero]; simp; omega
    · obtain ⟨k,hk⟩:∃ k,j - i = k + 1:=⟨j - i - 1,by omega⟩
      rw [hk,Nat.testBit_succ,Nat.testBit_succ,show (e + 1) / 2 = e / 2 by omega]; simp [g]
theorem or_al (b:Nat) (i:Nat):b ||| 2 ^ i = if b.testBit i then b else b + 2 ^ i:=by
  cases hb:b.testBit i with
  | true =>
    rw [if_pos rfl]
    apply Nat.eq_of_testBit_eq
    intro j
    rw [Nat.testBit_or,Nat.testBit_two_pow]
    by_cases h:i = j
    · subst h; simp [hb]
    · simp [h]
  | false =>
    rw [if_neg (by simp)]
    apply Nat.eq_of_testBit_eq
    intro j
    rw [Nat.testBit_or,Nat.testBit_two_pow,xb3q hb]
theorem xb5t (b:Nat) (i:Int):(b &&& al i != 0) = hasB b i:=by
  unfold hasB
  by_cases h:0≤i∧i≤15
  · obtain ⟨k,rfl⟩:∃ k:Nat,i = k:=⟨i.toNat,by omega⟩
    rw [al_in (by omega),and_al,Int.toNat_natCast]
    have hp:=Nat.two_pow_pos k
    have h1:decide ((0:Int)≤k) = true:=by simp
    have h2:decide ((k:Int)≤15) = true:=by simp; omega
    rw [h1,h2]
    cases hb:b.testBit k <;> simp
  · rw [al_out h,Nat.and_zero]
    by_cases h0:0≤i
    · have:¬ i≤15:=by omega
      simp [this]
    · simp [h0]
theorem xb0f (b:Nat) (i:Int):b ||| al i = withB b i:=by
  unfold withB
  by_cases h:0≤i∧i≤15
  · obtain ⟨k,rfl⟩:∃ k:Nat,i = k:=⟨i.toNat,by omega⟩
    rw [al_in (by omega),or_al,Int.toNat_natCast]
    cases hb:b.testBit k <;> simp <;> omega
  · rw [al_out h,Nat.or_zero,if_neg (by omega)]
theorem xb0m {b j:Nat} (hb:b < 65536) (hj:16≤j):b.testBit j = false:=Nat.testBit_lt_two_pow (Nat.lt_of_lt_of_le hb (Nat.pow_le_pow_right (by decide) hj:2 ^ 16≤2 ^ j))
theorem xa8e {j:Nat} (hj:j < 16):(65535:Nat).testBit j = true:=by
  rw [show (65535:Nat) = 2 ^ 16 - 1 by rfl,Nat.testBit_two_pow_sub_one]; simp [hj]
theorem xb6r (b:Nat) (i:Nat) (hb:b < 65536) (hi:i≤15):b &&& (65535 - 2 ^ i) = if b.testBit i then b - 2 ^ i else b:=by
  apply Nat.eq_of_testBit_eq
  intro j
  rw [Nat.testBit_and,xb5b (xa8e (by omega))]
  cases hx:b.testBit i with
  | true =>
    rw [if_pos rfl,xb5b hx]
    rcases Nat.lt_or_ge j 16 with g | g
    · rw [xa8e g,Bool.true_and]
    · rw [xb0m hb g]; simp
  | false =>
    rw [if_neg (by simp)]
    rcases Nat.lt_or_ge j 16 with g | g
    · rw [xa8e g,Bool.true_and]
      by_cases h:i = j
      · subst h; rw [hx]; simp
      · simp [h]
    · rw [xb0m hb g]; simp
theorem xa6s (b:Nat) (i:Int) (hb:b < 65536):b &&& (65535 - al i) = outB b i:=by
  unfold outB
  by_cases h:0≤i∧i≤15
  · obtain ⟨k,rfl⟩:∃ k:Nat,i = k:=⟨i.toNat,by omega⟩
    rw [al_in (by omega),xb6r b k hb (by omega),Int.toNat_natCast]
    cases hb:b.testBit k <;> simp <;> omega
  · rw [al_out h,Nat.sub_zero,show (65535:Nat) = 2 ^ 16 - 1 by rfl,Nat.and_two_pow_sub_one_eq_mod,Nat.mod_eq_of_lt (by omega),if_neg (by omega)]
theorem xc2a (b:Nat) (i:Int) (hb:b < 65536) (hi:0≤i):cnt (b &&& ((al i + 65535) % 65536)) 16 = rankB b i:=by
  unfold rankB
  rw [if_neg (by omega)]
  by_cases h:i≤15
  · obtain ⟨k,rfl⟩:∃ k:Nat,i = k:=⟨i.toNat,by omega⟩
    have hp:=Nat.two_pow_pos k
    have hq:2 ^ k≤2 ^ 15:=Nat.pow_le_pow_right (by decide) (by omega)
    rw [al_in (by omega),if_pos h,Int.toNat_natCast,show (2 ^ k + 65535) % 65536 = 2 ^ k - 1 by omega,Nat.and_two_pow_sub_one_eq_mod,xc2j (by omega)]
  · rw [al_out (by omega),if_neg h,show (0 + 65535) % 65536 = 2 ^ 16 - 1 by rfl,Nat.and_two_pow_sub_one_eq_mod,Nat.mod_eq_of_lt (by omega)]
theorem xa3g (b:Nat) (i:Int) (hb:b < 65536):withB b i < 65536:=by
  rw [← xb0f]; exact Nat.or_lt_two_pow (n:=16) hb (al_lt i)
theorem xb8j (b:Nat) (i:Int) (hb:b < 65536):outB b i < 65536:=by
  unfold outB
  split
  · exact Nat.lt_of_le_of_lt (Nat.sub_le _ _) hb
  · exact hb
section
open Go.RowKit Go.BigFrame
theorem xc1u:∀ n:Fin 256,Lib.pop8 (n.val:Int) = (cnt n.val 8:Int):=by decide +kernel
theorem xb4n {b:Nat} (h:b < 256):Lib.pop8 (b:Int) = (cnt b 8:Int):=xc1u ⟨b,h⟩
set_option maxHeartbeats 1000000 in
theorem xa3x (i:Int) (w:World) (hi:-9223372036854775808≤i∧i≤9223372036854775807) :
    Calls Tryz.prog 55 #[.int .i64 i] w fun e w'=>e = .returned (.int .u16 (al i:Int))∧w' = w:=by
  by_cases h1:i < 0
  · have e:=al_out (i:=i) (by omega)
    rw [e]
    clear e
    go_enter Tryz.func55,Tryz.ntmps55
    go_wp2
    go_ret
    exact ⟨rfl,rfl⟩
  · by_cases h2:15 < i
    · have e:=al_out (i:=i) (by omega)
      rw [e]
      clear e
      go_enter Tryz.func55,Tryz.ntmps55
      go_wp2
      go_ret
      exact ⟨rfl,rfl⟩
    · obtain ⟨k,rfl⟩:∃ k:Nat,i = k:=⟨i.toNat,by omega⟩
      have hk:k≤15:=by omega
      rw [al_in hk]
      have hw:IntKind.u16.wrap (2 ^ k:Int) = ((2 ^ k:Nat):Int):=by
        have h9:2 ^ k≤2 ^ 15:=Nat.pow_le_pow_right (by decide) hk
        have h8:(2 ^ k:Int) = ((2 ^ k:Nat):Int):=by simp
        rw [h8]
        obtain ⟨y,hy⟩:∃ y,2 ^ k = y:=⟨_,rfl⟩
        rw [hy] at h9 ⊢
        simp [IntKind.wrap,IntKind.signed,IntKind.bits]
        omega
      go_enter Tryz.func55,Tryz.ntmps55
      go_wp2
      go_ret
      exact ⟨by simp,rfl⟩
theorem xb8l {P:Program} {o:Oper} {a:Act} (t:TypeId) (x y:Operand) (ho:o.op = .index t x y) (k:IntKind) (b:Nat) (hx:a.eval x = .string Lib.pop8tab) (hy:a.eval y = .int k b) (hu:P.underlying t = some .string) (hb:b < 256) (w:World) :
    (execOp a.eval o).run P w = .ok (.value (.int .u8 (cnt b 8:Int))) w:=by
  unfold execOp
  simp only [ho,hx,hy,Sem.run_bind,Sem.run_pure]
  rw [Lib.run_index_pop8tab w t k (b:Int) hu (by omega) (by omega),xb4n hb]
  rfl
theorem xb6y {P:Program} {o:Oper} {a:Act} (t t2:TypeId) (x y:Operand) (ho:o.op = .binOp .shr t x y t2) (k2:IntKind) (b m:Nat) (hm:m < 16) (hx:a.eval x = .int .u16 b) (hy:a.eval y = .int k2 m) (w:World) :
    (execOp a.eval o).run P w = .ok (.value (.int .u16 ((b / 2 ^ m:Nat):Int))) w:=by
  have e:(Op.shift .shr .u16 (b:Int) k2 (m:Int)).run P w = .ok (.int .u16 ((b / 2 ^ m:Nat):Int)) w:=by
    rw [shift_shr .u16 k2 (b:Int) (m:Int) (by omega) (by simp [IntKind.bits]; omega)]
    have e2:(b:Int) / 2 ^ (m:Int).toNat = ((b / 2 ^ m:Nat):Int):=by
      rw [Int.toNat_natCast,Int.natCast_ediv]; simp
    rw [e2]
    rfl
  unfold execOp
  simp only [ho,hx,hy,binOp,eqGuard,Sem.run_bind,Bool.not_false,if_true,Sem.run_pure,Result.andThen_ok,e]
theorem xb6t {P:Program} {o:Oper} {a:Act} (t t2:TypeId) (x y:Operand) (ho:o.op = .binOp .and t x y t2) (b m:Nat) (hb:b < 65536) (hm:m < 65536) (hx:a.eval x = .int .u16 b) (hy:a.eval y = .int .u16 m) (w:World) :
    (execOp a.eval o).run P w = .ok (.value (.int .u16 ((b &&& m:Nat):Int))) w:=by
  unfold execOp
  simp only [ho,hx,hy,binOp,eqGuard,intBits_and,u16_and_nat b m hb hm,Bool.not_false,if_true,ne_eq,not_true,if_false,Sem.run_bind,Sem.run_pure,Result.andThen_ok]
theorem xc1o {P:Program} {o:Oper} {a:Act} (t t2:TypeId) (x y:Operand) (ho:o.op = .binOp .and t x y t2) (b:Nat) (hb:b < 65536) (hx:a.eval x = .int .u16 b) (hy:a.eval y = .int .u16 255) (w:World) :
    (execOp a.eval o).run P w = .ok (.value (.int .u16 ((b % 256:Nat):Int))) w:=by
  have h:=xb6t t t2 x y ho b 255 hb (by decide) hx hy w (P:=P)
  rw [show (255:Nat) = 2 ^ 8 - 1 by rfl,Nat.and_two_pow_sub_one_eq_mod] at h
  exact h
set_option maxHeartbeats 1000000 in
theorem xb0p (b:Nat) (w:World) (hb:b < 65536) :
    Calls Tryz.prog 54 #[.int .u16 b] w fun e w'=>e = .returned (.int .i64 (cnt b 16:Int))∧Kept [] w w':=by
  have l1:=cnt_le (b / 256) 8
  have l2:=cnt_le (b % 256) 8
  rw [xb0r]
  go_enter Tryz.func54,Tryz.ntmps54
  go_wp2_with fail
  have hne:∀ p:Prop,(∀ w',Kept [] w w'→p) = p:=fun p=>propext ⟨fun h=>h w (Kept.refl [] w),fun h _ _=>h⟩
  refine xa0u (by kernel_rfl) (by kernel_rfl) ?_
  go_big_quiet_step (fail)
  refine xa0m rfl (.int .u16 ((b / 256:Nat):Int)) (fun w' _=>xb6y _ _ (.tmp 3) (.const (.int .u64 8)) rfl .u64 b 8 (by decide) rfl rfl w') ?_
  simp only [Act.put,List.setIfInBounds_toArray,List.set_cons_succ,List.set_cons_zero]
  refine xa0m rfl (.int .u8 (cnt (b / 256) 8:Int)) (fun w' _=>xb8l 9 _ _ rfl .u16 (b / 256) (by kernel_rfl) rfl Tryz.underlying9 (by omega) w') ?_
  simp only [Act.put,List.setIfInBounds_toArray,List.set_cons_succ,List.set_cons_zero]
  go_big_quiet_step (fail)
  refine xa0m rfl (.int .u16 ((b % 256:Nat):Int)) (fun w' _=>xc1o _ _ (.tmp 6) (.const (.int .u16 255)) rfl b hb rfl rfl w') ?_
  simp only [Act.put,List.setIfInBounds_toArray,List.set_cons_succ,List.set_cons_zero]
  refine xa0m rfl (.int .u8 (cnt (b % 256) 8:Int)) (fun w' _=>xb8l 9 _ _ rfl .u16 (b % 256) (by kernel_rfl) rfl Tryz.underlying9 (by omega) w') ?_
  simp only [Act.put,List.setIfInBounds_toArray,List.set_cons_succ,List.set_cons_zero]
  repeat (go_big_quiet_step (fail))
  refine wpQuiet_nil ?_
  intro w5 hw5
  clear hne
  go_wp2
  go_ret
  exact ⟨rfl,hw5⟩
set_option maxHeartbeats 1000000 in
theorem xa7y (b:Nat) (i:Int) (w:World) (hb:b < 65536) (hi:-9223372036854775808≤i∧i≤9223372036854775807) :
    Calls Tryz.prog 27 #[.int .u16 b,.int .i64 i] w fun e w'=>e = .returned (.bool (hasB b i))∧Kept [] w w':=by
  have hl:=al_lt i
  have HE:=hide (xb5t b i)
  have e1:=u16_and_nat b (al i) hb hl
  go_enter Tryz.func27,Tryz.ntmps27
  go_wp2_with fail
  refine Calls.mono (xa3x i _ hi) ?_
  rintro e w1 ⟨rfl,rfl⟩
  generalize al i = A at *
  go_wp2
  go_ret
  have e2:(((b &&& A:Nat):Int) != 0) = (b &&& A != 0):=by cases h:(b &&& A != 0) <;> simp at h ⊢ <;> omega
  exact ⟨by rw [← uh HE,← e2]; rfl,Kept.refl _ _⟩
set_option maxHeartbeats 1000000 in
theorem xa4o (b:Nat) (i:Int) (w:World) (hb:b < 65536) (hi:-9223372036854775808≤i∧i≤9223372036854775807) :
    Calls Tryz.prog 117 #[.int .u16 b,.int .i64 i] w fun e w'=>e = .returned (.int .u16 (withB b i:Int))∧Kept [] w w':=by
  have hl:=al_lt i
  have HE:=hide (xb0f b i)
  have e1:=u16_or_nat b (al i) hb hl
  go_enter Tryz.func117,Tryz.ntmps117
  go_wp2_with fail
  refine Calls.mono (xa3x i _ hi) ?_
  rintro e w1 ⟨rfl,rfl⟩
  generalize al i = A at *
  go_wp2
  go_ret
  exact ⟨by rw [← uh HE]; rfl,Kept.refl _ _⟩
set_option maxHeartbeats 1000000 in
theorem xb1j (b:Nat) (i:Int) (w:World) (hb:b < 65536) (hi:-9223372036854775808≤i∧i≤9223372036854775807) :
    Calls Tryz.prog 115 #[.int .u16 b,.int .i64 i] w fun e w'=>e = .returned (.int .u16 (outB b i:Int))∧Kept [] w w':=by
  have hl:=al_lt i
  have HE:=hide (xa6s b i hb)
  have e1:=u16_andNot_nat b (al i) hb hl
  go_enter Tryz.func115,Tryz.ntmps115
  go_wp2_with fail
  refine Calls.mono (xa3x i _ hi) ?_
  rintro e w1 ⟨rfl,rfl⟩
  generalize al i = A at *
  go_wp2
  go_ret
  exact ⟨by rw [← uh HE]; rfl,Kept.refl _ _⟩
set_option maxHeartbeats 1000000 in
theorem xa4k (b:Nat) (i:Int) (w:World) (hb:b < 65536) (hi:-9223372036854775808≤i∧i≤9223372036854775807) :
    Calls Tryz.prog 26 #[.int .u16 b,.int .i64 i] w fun e w'=>e = .returned (.int .i64 (rankB b i:Int))∧Kept [] w w':=by
  by_cases h0:i < 0
  · have HE:=hide (by unfold rankB; rw [if_pos h0]:rankB b i = 0)
    go_enter Tryz.func26,Tryz.ntmps26
    go_wp2
    go_ret
    exact ⟨by rw [uh HE]; rfl,Kept.refl _ _⟩
  · have hl:=al_lt i
    have HE:=hide (xc2a b i hb (by omega))
    have hm:(al i + 65535) % 65536 < 65536:=Nat.mod_lt _ (by decide)
    have e1:=u16_and_nat b ((al i + 65535) % 65536) hb hm
    have e2:IntKind.u16.wrap ((al i:Int) - 1) = (((al i + 65535) % 65536:Nat):Int):=by
      simp [IntKind.wrap,IntKind.signed,IntKind.bits]; omega
    have e3:(((al i:Int) - 1) % 65536) = (((al i + 65535) % 65536:Nat):Int):=by omega
    have hn:b &&& ((al i + 65535) % 65536) < 65536:=Nat.lt_of_le_of_lt Nat.and_le_left hb
    go_enter Tryz.func26,Tryz.ntmps26
    go_wp2_with fail
    refine Calls.mono (xa3x i _ hi) ?_
    rintro e w1 ⟨rfl,rfl⟩
    generalize (al i + 65535) % 65536 = C at *
    generalize al i = A at *
    go_wp2_with fail
    refine Calls.mono (xb0p (b &&& C) _ hn) ?_
    rintro e w2 ⟨rfl,k2⟩
    go_wp2
    go_ret
    exact ⟨by rw [← uh HE]; rfl,k2⟩
set_option maxHeartbeats 1000000 in
theorem xa5x (b:Nat) (w:World) (hb:b < 65536) :
    Calls Tryz.prog 73 #[.int .u16 b] w fun e w'=>e = .returned (.int .i64 (cnt b 16:Int))∧Kept [] w w':=by
  go_enter Tryz.func73,Tryz.ntmps73
  go_wp2_with fail
  refine Calls.mono (xb0p b _ hb) ?_
  rintro e w1 ⟨rfl,k1⟩
  go_wp2
  go_ret
  exact ⟨rfl,k1⟩
def dgt (d:List Nat) (i:Nat):Nat:=if i % 2 = 0 then d.getD (i / 2) 0 / 16 else d.getD (i / 2) 0 % 16
theorem dgt_lt {d:List Nat} (hb:∀ x∈d,x < 256) (i:Nat):dgt d i < 16:=by
  have h:d.getD (i / 2) 0 < 256:=by
    rw [List.getD_eq_getElem?_getD]
    rcases Nat.lt_or_ge (i / 2) d.length with hi | hi
    · rw [List.getElem?_eq_getElem hi]; exact hb _ (List.getElem_mem hi)
    · rw [List.getElem?_eq_none hi]; decide
  unfold dgt
  split <;> omega
theorem and15 {x:Nat} (hx:x < 256):bits .and .u8 (x:Int) 15 = ((x % 16:Nat):Int):=by
  have h:=u8_and_nat x 15 hx (by decide)
  rw [show ((15:Nat):Int) = 15 by rfl] at h
  rw [h,show (15:Nat) = 2 ^ 4 - 1 by rfl,Nat.and_two_pow_sub_one_eq_mod]
set_option maxHeartbeats 1000000 in
theorem xa5v (d:List Nat) (i:Nat) (w:World) (hd:d.length = 32) (hb:∀ x∈d,x < 256) (hi:i < 64) :
    Calls Tryz.prog 53 #[.agg (brow d),.int .i64 i] w fun e w'=>e = .returned (.int .i64 (dgt d i:Int))∧Kept [] w w':=by
  have hx:d.getD (i / 2) 0 < 256:=by rw [List.getD_eq_getElem?_getD,List.getElem?_eq_getElem (by omega)]; exact hb _ (List.getElem_mem _)
  have HA:=hide (heap_alloc_new w (.cells (brow d) 50))
  have ci:=xa0q (uh HA) (i / 2) (by omega)
  have HK:=hide ((Kept.refl [] w).alloc (.cells (brow d) 50))
  clear hb
  obtain ⟨x,he⟩:∃ x,d.getD (i / 2) 0 = x:=⟨_,rfl⟩
  obtain ⟨j,hj⟩:∃ j,i / 2 = j:=⟨_,rfl⟩
  rw [he] at hx ci
  have a1:=and15 hx
  have hj2:(i:Int).tdiv 2 = j:=by rw [Int.tdiv_eq_ediv_of_nonneg (by omega)]; omega
  have hj3:(i:Int) / 2 = j:=by omega
  have hj4:(j:Int) < 32:=by omega
  rw [hj] at ci
  by_cases hp:i % 2 = 0
  · have hp2:(i:Int) % 2 = 0:=by omega
    have hp3:(i:Int).tmod 2 = 0:=by rw [Int.tmod_eq_emod_of_nonneg (by omega)]; omega
    have HR:=hide (by unfold dgt; rw [if_pos hp,he]:dgt d i = x / 16)
    go_enter Tryz.func53,Tryz.ntmps53
    go_wp2
    go_ret
    exact ⟨by rw [uh HR]; rfl,uh HK⟩
  · have hp2:(i:Int) % 2 = 1:=by omega
    have hp3:(i:Int).tmod 2 = 1:=by rw [Int.tmod_eq_emod_of_nonneg (by omega)]; omega
    have HR:=hide (by unfold dgt; rw [if_neg hp,he]:dgt d i = x % 16)
    go_enter Tryz.func53,Tryz.ntmps53
    go_wp2
    go_ret
    exact ⟨by rw [uh HR]; rfl,uh HK⟩
theorem xb5z {k:Nat} {d:List Nat} (hd:d.length = 32) (h1:1≤k) (hk:k≤32):formB (k:Int) d = true↔∀ i,k≤i→i < 32→d.getD i 0 = 0:=by
  rw [← xc1n k d hd hk]
  unfold formB
  have hw:widthB (k:Int) = true:=by simp [widthB]; omega
  rw [hw,Int.toNat_natCast]
  simp
set_option maxHeartbeats 2000000 in
theorem xa3m (z:Int) (v:Value) (ds:List (List Nat)) (w:World) (hz:-9223372036854775808≤z∧z≤9223372036854775807) (hv:RdD w v ds) :
    Calls Tryz.prog 52 #[.int .i64 z,v] w fun e w'=>e = .returned (.int .i64 (formedE z ds))∧Kept [] w w':=by
  have HV:=hide hv
  obtain ⟨ao,len,cap,rfl,h1,h2,h3,h4,h5⟩:=hv
  have H4:=hide h4
  have H5:=hide h5
  clear h4 h5
  subst h1
  by_cases hw1:z < 1
  · have HE1:=hide (by unfold formedE widthB; rw [if_pos (by simp; omega)]:formedE z ds = 1)
    go_enter Tryz.func52,Tryz.ntmps52
    go_wp2
    go_ret
    exact ⟨by rw [uh HE1]; rfl,Kept.refl _ _⟩
  · by_cases hw2:32 < z
    · have HE1:=hide (by unfold formedE widthB; rw [if_pos (by simp; omega)]:formedE z ds = 1)
      go_enter Tryz.func52,Tryz.ntmps52
      go_wp2
      go_ret
      exact ⟨by rw [uh HE1]; rfl,Kept.refl _ _⟩
    · obtain ⟨k,rfl⟩:∃ k:Nat,z = k:=⟨z.toNat,by omega⟩
      have HW:=hide (by simp [widthB]; omega:widthB (k:Int) = true)
      go_enter Tryz.func52,Tryz.ntmps52
      go_wp2_with fail
      go_loopw [17] (fun t12 wr=>∃ (i:Nat),i≤ds.length∧t12 = .int .i64 i∧Hid ((ds.take i).all (formB (k:Int)) = true)∧Hid (Kept [] w wr)) (fun t _=>ds.length - (intOf t).toNat)
      case atStart=>exact ⟨0,Nat.zero_le _,rfl,hide (by simp),hide (Kept.refl _ _)⟩
      case round =>
        obtain ⟨i,hi,rfl,HA,HK⟩:=hrel
        by_cases hlt:i < ds.length
        · have hlt':(i:Int) < ds.length:=by omega
          obtain ⟨b,o,rfl,hcell⟩:=uh H5 (by omega)
          have HD:=hide (uh H4 (ds.getD i []) (by rw [List.getD_eq_getElem?_getD,List.getElem?_eq_getElem hlt]; exact List.getElem_mem hlt))
          have HRG:=hide (fun j v hv=>(uh HK).cell (hcell i hlt j v hv) (by simp):wr.rangeAt b (o + i * 32) ((ds.getD i []).map Go.Proofs.YtiopaaeejppnnaaGreatDoor.u8))
          have HN:=hide (by rw [List.take_succ_eq_append_getElem hlt,List.all_append,uh HA,List.getD_eq_getElem?_getD,List.getElem?_eq_getElem hlt]; simp:(ds.take (i + 1)).all (formB (k:Int)) = formB (k:Int) (ds.getD i []))
          have HM:=hide (fun (h:formB (k:Int) (ds.getD i []) = false)=>by
            have:ds.all (formB (k:Int)) = false:=by
              rw [List.all_eq_false]
              exact ⟨ds.getD i [],by rw [List.getD_eq_getElem?_getD,List.getElem?_eq_getElem hlt]; exact List.getElem_mem hlt,by rw [h]; decide⟩
            simp [formedE,uh HW,this]:formB (k:Int) (ds.getD i []) = false→formedE (k:Int) ds = 3)
          clear hcell
          obtain ⟨d,hd⟩:∃ d,ds.getD i [] = d:=⟨_,rfl⟩
          rw [hd] at HD HRG HN HM
          clear hd
          have hdl:=(uh HD).1
          have HFI:=hide (xb5z (k:=k) hdl (by omega) (by omega))
          have HSZ:=hide (by rw [xa0a,hdl]; exact Tryz.size_dig:(Tryz.prog.info? 50).map (·.size) = some (brow d).size)
          have HNW:=hide (setRow_heap (wr.alloc (.cells (zb 32) 50)) wr.heap.size (zb 32) (brow d) 50 (0,0) (heap_alloc_new _ _))
          have HKN:=hide (((uh HK).alloc (.cells (zb 32) 50)).setRow (g:=wr.heap.size) (Or.inr (uh HK).size) (brow d))
          rcases Nat.lt_or_ge k 32 with hk32 | hk32
          · have hk32':(k:Int) < 32:=by omega
            go_wp2_with (first
              | (refine wpList_load_mid rfl 50 (.tmp 19) rfl b (o + i * 32) rfl (d.map Go.Proofs.YtiopaaeejppnnaaGreatDoor.u8) _ (uh HRG) Tryz.underlying50 rfl (by rw [List.length_map,hdl]; exact Tryz.size_dig) ?_)
              | (rw [zb32]; refine wpList_store_row rfl 50 (.tmp 6) _ rfl wr.heap.size (brow d) rfl rfl _ (zb 32) (heap_alloc_new _ _) (uh HSZ) (by rw [xa0d,xa0a,hdl]) (xa0c _) ?_))
            generalize ((wr.alloc (Obj.cells (zb 32) 50)).setRow wr.heap.size (brow d)) = W2 at HNW HKN ⊢
            obtain ⟨gq,hgq⟩:∃ gq,wr.heap.size = gq:=⟨_,rfl⟩
            rw [hgq] at HNW ⊢
            clear hgq
            go_loopw [24] (fun t24 wq=>∃ (j:Nat),j≤32 - k∧t24 = .int .i64 j∧Hid (∀ m,k≤m→m < k + j→d.getD m 0 = 0)∧Hid (Kept [] W2 wq)) (fun t _=>32 - k - (intOf t).toNat)
            case atStart=>exact ⟨0,Nat.zero_le _,rfl,hide (fun m q1 q2=>by omega),hide (Kept.refl _ _)⟩
            case round =>
              obtain ⟨j,hj,rfl,HAJ,HKJ⟩:=hrel
              by_cases hjl:j < 32 - k
              · have hjl':(j:Int) < (32 - k:Nat):=by omega
                have cj:=(uh HKJ).cell (xa0q (uh HNW) (k + j) (by omega)) (by simp)
                obtain ⟨x,hx⟩:∃ x,d.getD (k + j) 0 = x:=⟨_,rfl⟩
                rw [hx] at cj
                by_cases hx0:x = 0
                · subst hx0
                  have HNJ:=hide (fun m q1 q2=>by
                    rcases Nat.lt_or_ge m (k + j) with g | g
                    · exact uh HAJ m q1 g
                    · rw [show m = k + j by omega]; exact hx:∀ m,k≤m→m < k + (j + 1)→d.getD m 0 = 0)
                  clear hx
                  go_wp2
                  go_roundw
                  case rel=>exact ⟨j + 1,by omega,by go_num,HNJ,HKJ⟩
                  case measure=>simp [intOf]; omega
                · have hx0':((x:Int) != 0) = true:=by rw [bne_iff_ne]; omega
                  have HF:=hide (uh HM (by
                    cases hq:formB (k:Int) d with
                    | false=>rfl
                    | true=>exact absurd (by rw [← hx]; exact (uh HFI).1 hq (k + j) (by omega) (by omega)) hx0))
                  clear hx hx0
                  go_wp2
                  go_ret
                  exact ⟨by rw [uh HF]; rfl,(uh HKN).trans (uh HKJ) (by simp)⟩
              · have hjl':¬ (j:Int) < (32 - k:Nat):=by omega
                have HT:=hide ((uh HFI).2 (fun m q1 q2=>uh HAJ m q1 (by omega)))
                rw [uh HT] at HN
                go_wp2
                go_roundw
                case rel=>exact ⟨i + 1,by omega,by go_num,HN,hide ((uh HKN).trans (uh HKJ) (by simp))⟩
                case measure=>simp [intOf]; omega
          · have hk32':¬ (k:Int) < 32:=by omega
            have hz0:¬ (0:Int) < ((32 - k:Nat):Int):=by omega
            go_wp2_with (first
              | (refine wpList_load_mid rfl 50 (.tmp 19) rfl b (o + i * 32) rfl (d.map Go.Proofs.YtiopaaeejppnnaaGreatDoor.u8) _ (uh HRG) Tryz.underlying50 rfl (by rw [List.length_map,hdl]; exact Tryz.size_dig) ?_)
              | (rw [zb32]; refine wpList_store_row rfl 50 (.tmp 6) _ rfl wr.heap.size (brow d) rfl rfl _ (zb 32) (heap_alloc_new _ _) (uh HSZ) (by rw [xa0d,xa0a,hdl]) (xa0c _) ?_))
            generalize ((wr.alloc (Obj.cells (zb 32) 50)).setRow wr.heap.size (brow d)) = W2 at HNW HKN ⊢
            obtain ⟨gq,hgq⟩:∃ gq,wr.heap.size = gq:=⟨_,rfl⟩
            rw [hgq] at HNW ⊢
            clear hgq
            go_loopw [24] (fun t24 wq=>t24 = .int .i64 0∧Hid (Kept [] W2 wq)) (fun t _=>0)
            case atStart=>exact ⟨rfl,hide (Kept.refl _ _)⟩
            case round =>
              obtain ⟨rfl,HKJ⟩:=hrel
              have HT:=hide ((uh HFI).2 (fun m q1 q2=>by omega))
              rw [uh HT] at HN
              go_wp2
              go_roundw
              case rel=>exact ⟨i + 1,by omega,by go_num,HN,hide ((uh HKN).trans (uh HKJ) (by simp))⟩
              case measure=>simp [intOf]; omega
        · have hlt':¬ (i:Int) < ds.length:=by omega
          have hie:i = ds.length:=by omega
          subst hie
          rw [List.take_length] at HA
          have HF:=hide (by simp [formedE,uh HW,uh HA]:formedE (k:Int) ds = 0)
          go_wp2
          go_ret
          exact ⟨by rw [uh HF]; rfl,uh HK⟩
def Dg (l:List Nat):Prop:=l.length = 32∧∀ x∈l,x < 256
theorem RdD.one {w:World} {g:Nat} {l:List Nat} {t:TypeId} {fr:Nat × Nat} (h:w.heap[g]? = some (.cells (brow l) t fr)) (hl:Dg l):RdD w (.slice (some ⟨g,0,none⟩) 1 1) [l]:=by
  refine ⟨_,1,1,rfl,rfl,Nat.le_refl _,by omega,fun d hd=>by simp at hd; subst hd; exact hl,fun _=>⟨g,0,rfl,fun i hi=>?_⟩⟩
  obtain rfl:i = 0:=by omega
  exact xa0v h
theorem xb3v (l:List Nat) (hl:l.length = 32):List.foldl (fun cs x=>cs.setIfInBounds x.snd x.fst) (zb 32) (List.map u8 l).zipIdx = brow l:=by
  have h:=xa5s (l.map u8) (zb 32) 0 0 (by rw [xa0d]; simp [hl])
  simp only [Nat.zero_add] at h
  rw [h]
  unfold brow
  rw [List.take_zero,List.nil_append,List.drop_eq_nil_of_le (by rw [List.length_map,hl,Array.length_toList,xa0d]; exact Nat.le_refl _),List.append_nil]
def atE (z:Int) (d:List Nat) (i:Int):Nat:=if widthB z = false∨i < 0∨2 * z≤i then 1 else if formB z d then 0 else 3
def atC (z:Int) (d:List Nat) (i:Int):Nat:=if atE z d i = 0 then dgt d i.toNat else 0
theorem xb1o (z:Int) (d:List Nat):formedE z [d] = if widthB z = false then 1 else if formB z d then 0 else 3:=by simp [formedE]
set_option maxHeartbeats 1000000 in
theorem at_any (z:Int) (d:List Nat) (i:Int) (w:World) (hz:-9223372036854775808≤z∧z≤9223372036854775807) (hi:-9223372036854775808≤i∧i≤9223372036854775807) (hd:Dg d) :
    Calls Tryz.prog 25 #[.int .i64 z,.agg (brow d),.int .i64 i] w fun e w'=>e = .returned (.tuple #[.int .i64 (atC z d i:Int),.int .i64 (atE z d i:Int)])∧Kept [] w w':=by
  have HD:=hide hd
  have hdl:=hd.1
  have HGA:=hide (heap_alloc_new w (.cells (brow d) 50))
  have HK0:=hide ((Kept.refl [] w).alloc (.cells (brow d) 50))
  obtain ⟨Z,hZ⟩:∃ Z,IntKind.i64.wrap (2 * z) = Z:=⟨_,rfl⟩
  have hZ2:(2 * z + 9223372036854775808) % 18446744073709551616 - 9223372036854775808 = Z:=by
    rw [← hZ]; simp [IntKind.wrap,IntKind.signed,IntKind.bits]; omega
  by_cases h0:i < 0
  · have e1:atE z d i = 1:=by unfold atE; rw [if_pos (by omega)]
    have e2:atC z d i = 0:=by unfold atC; rw [e1]; rfl
    rw [e1,e2]
    clear e1 e2
    go_enter Tryz.func25,Tryz.ntmps25
    go_wp2
    go_ret2
    exact ⟨rfl,uh HK0⟩
  · by_cases h1:Z≤i
    · have e1:atE z d i = 1:=by
        unfold atE
        by_cases hw:widthB z = true
        · rw [if_pos]
          simp [widthB] at hw
          right; right; omega
        · rw [if_pos (by simp at hw; simp [hw])]
      have e2:atC z d i = 0:=by unfold atC; rw [e1]; rfl
      rw [e1,e2]
      clear e1 e2
      go_enter Tryz.func25,Tryz.ntmps25
      go_wp2
      go_ret2
      exact ⟨rfl,uh HK0⟩
    · have HF:=hide (xb1o z d)
      have HE:=hide (by
        unfold atE
        rw [uh HF]
        by_cases hw:widthB z = true
        · have hw2:=hw
          simp [widthB] at hw2
          rw [if_neg (by rw [hw]; simp; omega),hw]; simp
        · simp at hw; simp [hw]:atE z d i = formedE z [d])
      have HC:=hide (by unfold atC; rw [uh HE]:atC z d i = if formedE z [d] = 0 then dgt d i.toNat else 0)
      have HI:=hide (fun (h:formedE z [d] = 0)=>by
        have hw:widthB z = true:=by
          unfold formedE at h
          cases hw:widthB z with
          | false=>rw [hw] at h; simp at h
          | true=>rfl
        simp [widthB] at hw
        exact ⟨⟨i.toNat,by omega⟩,by omega⟩:formedE z [d] = 0→(∃ k:Nat,i = k)∧i < 64)
      rw [uh HE]
      obtain ⟨f,hf⟩:∃ f,formedE z [d] = f:=⟨_,rfl⟩
      obtain ⟨C,hC⟩:∃ C,atC z d i = C:=⟨_,rfl⟩
      have HFF:=hide hf
      rw [hf,hC] at HC
      rw [hf] at HI
      rw [hf,hC]
      clear hf hC HE HF
      go_enter Tryz.func25,Tryz.ntmps25
      go_wp2_with (refine wpList_load_mid rfl 50 _ rfl w.heap.size 0 rfl (d.map u8) _ (xa0v (uh HGA)) Tryz.underlying50 rfl (by rw [List.length_map,hdl]; exact Tryz.size_dig) ?_)
      rw [zb32,xb3v d hdl]
      refine Calls.mono (xa3m z _ [d] _ hz (RdD.one (xa2w _ _ _) hd)) ?_
      rintro e w1 ⟨rfl,k1⟩
      have k01:=((Kept.refl [] (w.alloc (.cells (brow d) 50))).alloc (.cells (brow d) 50)).trans k1 (by simp)
      have HK1:=hide ((uh HK0).trans k01 (by simp))
      have HG1:=hide (k01.heap (uh HGA) (by simp))
      clear k1 k01 HGA
      rw [uh HFF]
      by_cases hf0:f = 0
      · subst hf0
        obtain ⟨⟨j,rfl⟩,hj⟩:=uh HI rfl
        rw [if_pos rfl,Int.toNat_natCast] at HC
        clear HI hZ hZ2 h1 h0 HFF
        go_wp2_with (refine wpList_load_row rfl 50 _ rfl w.heap.size rfl _ (brow d) (0,0) _ (uh HG1) Tryz.underlying50 rfl (by rw [xa0a,hdl]; exact Tryz.size_dig) ?_)
        refine Calls.mono (xa5v d j _ hdl hd.2 (by omega)) ?_
        rintro e w2 ⟨rfl,k2⟩
        go_wp2
        go_ret2
        exact ⟨by rw [uh HC]; rfl,(uh HK1).trans k2 (by simp)⟩
      · have hf0':((f:Int) != 0) = true:=by rw [bne_iff_ne]; omega
        rw [if_neg hf0] at HC
        clear HI hZ hZ2 HFF
        go_wp2
        go_ret2
        exact ⟨by rw [uh HC]; rfl,uh HK1⟩
def comL (a b:List Nat):Nat→Nat→Nat
  | 0,i=>i
  | n + 1,i=>if dgt a i = dgt b i then comL a b n (i + 1) else i
def comC (z:Int) (a b:List Nat):Nat:=if formedE z [a,b] = 0 then comL a b (2 * z.toNat) 0 else 0
set_option maxHeartbeats 1000000 in
theorem xa6v (z:Int) (a b:List Nat) (w:World) (hz:-9223372036854775808≤z∧z≤9223372036854775807) (ha:Dg a) (hb:Dg b) :
    Calls Tryz.prog 103 #[.int .i64 z,.agg (brow a),.agg (brow b)] w fun e w'=>e = .returned (.tuple #[.int .i64 (comC z a b:Int),.int .i64 (formedE z [a,b]:Int)])∧Kept [] w w':=by
  have HA:=hide ha
  have HB:=hide hb
  have hal:=ha.1
  have hbl:=hb.1
  have HGA:=hide (((Kept.refl [] (w.alloc (.cells (brow a) 50))).alloc (.cells (brow b) 50)).heap (heap_alloc_new w (.cells (brow a) 50)) (by simp))
  have HGB:=hide (xa2w w (.cells (brow a) 50) (.cells (brow b) 50))
  have HK0:=hide (((Kept.refl [] w).alloc (.cells (brow a) 50)).alloc (.cells (brow b) 50))
  have HI:=hide (fun (h:formedE z [a,b] = 0)=>by
    have hw:widthB z = true:=by
      unfold formedE at h
      cases hw:widthB z with
      | false=>rw [hw] at h; simp at h
      | true=>rfl
    simp [widthB] at hw
    exact ⟨⟨z.toNat,by omega⟩,hw.2⟩:formedE z [a,b] = 0→(∃ k:Nat,z = k)∧z≤32)
  have HC:=hide (by unfold comC; rfl:comC z a b = if formedE z [a,b] = 0 then comL a b (2 * z.toNat) 0 else 0)
  obtain ⟨f,hf⟩:∃ f,formedE z [a,b] = f:=⟨_,rfl⟩
  obtain ⟨C,hC⟩:∃ C,comC z a b = C:=⟨_,rfl⟩
  have HFF:=hide hf
  rw [hf,hC] at HC
  rw [hf] at HI
  rw [hf,hC]
  clear hf hC
  have hfs:∀ A:Array Value,(List.foldl (fun cs x=>cs.setIfInBounds x.snd x.fst) A (List.map u8 a).zipIdx).size = A.size:=fun A=>xa5r _ A 0
  go_enter Tryz.func103,Tryz.ntmps103
  go_wp2_with (first
    | (refine wpList_load_mid rfl 50 _ rfl w.heap.size 0 rfl (a.map u8) _ (xa0v (uh HGA)) Tryz.underlying50 rfl (by rw [List.length_map,hal]; exact Tryz.size_dig) ?_)
    | (refine wpList_load_mid rfl 50 _ rfl (w.heap.size + 1) 0 rfl (b.map u8) _ (xa0v (uh HGB)) Tryz.underlying50 rfl (by rw [List.length_map,hbl]; exact Tryz.size_dig) ?_))
  rw [zb64,xb5i a b hal hbl]
  clear hfs
  refine Calls.mono (xa3m z _ [a,b] _ hz (RdD.two (xa6d _ _ _ _) hal hbl ha.2 hb.2)) ?_
  rintro e w1 ⟨rfl,k1⟩
  have k01:=((Kept.refl [] ((w.alloc (.cells (brow a) 50)).alloc (.cells (brow b) 50))).alloc (.cells (a.map u8++b.map u8).toArray 50)).trans k1 (by simp)
  have HK1:=hide ((uh HK0).trans k01 (by simp))
  have HG1:=hide (k01.heap (uh HGA) (by simp))
  have HG2:=hide (k01.heap (uh HGB) (by simp))
  clear k1 k01 HGA HGB
  rw [uh HFF]
  by_cases hf0:f = 0
  · subst hf0
    obtain ⟨⟨k,rfl⟩,hk⟩:=uh HI rfl
    rw [if_pos rfl,Int.toNat_natCast] at HC
    clear HI HFF
    have hk2:IntKind.i64.wrap (2 * (k:Int)) = ((2 * k:Nat):Int):=by simp [IntKind.wrap,IntKind.signed,IntKind.bits]; omega
    go_wp2_with fail
    have HZA:=hide (by rw [xa0a,hal]; exact Tryz.size_dig:(Tryz.prog.info? 50).map (·.size) = some (brow a).size)
    have HZB:=hide (by rw [xa0a,hbl]; exact Tryz.size_dig:(Tryz.prog.info? 50).map (·.size) = some (brow b).size)
    go_loopw [20] (fun t20 wr=>∃ (i n:Nat),t20 = .int .i64 i∧i + n = 2 * k∧Hid (comL a b n i = C)∧Hid (Kept [] w1 wr)) (fun t _=>2 * k - (intOf t).toNat)
    case atStart=>exact ⟨0,2 * k,rfl,by omega,hide (uh HC).symm,hide (Kept.refl _ _)⟩
    case round =>
      obtain ⟨i,n,rfl,hin,HX,HKr⟩:=hrel
      cases n with
      | zero =>
        have hlt':¬ (i:Int) < (2 * k:Nat):=by omega
        have hlt2:¬ (i:Int) < 2 * k:=by omega
        have HX2:=hide (by rw [← uh HX]; unfold comL; omega:(C:Int) = ((2 * k:Nat):Int))
        go_wp2
        go_ret2
        exact ⟨by rw [uh HX2]; rfl,(uh HK1).trans (uh HKr) (by simp)⟩
      | succ n =>
        have hlt':(i:Int) < (2 * k:Nat):=by omega
        have hlt2:(i:Int) < 2 * k:=by omega
        have HGA:=hide ((uh HKr).heap (uh HG1) (by simp))
        have HGB:=hide ((uh HKr).heap (uh HG2) (by simp))
        have hne:∀ p:Prop,(∀ w',Kept [] wr w'→p) = p:=fun p=>propext ⟨fun h=>h wr (Kept.refl [] wr),fun h _ _=>h⟩
        have HC1:=hide (fun w' (hw':Kept [] wr w')=>(xa5v a i w' hal ha.2 (by omega)).mono (fun e w2 (h2:_∧_)=>(⟨h2.1,hw'.trans h2.2 (by simp)⟩:_∧Kept [] wr w2)))
        have HC2:=hide (fun w' (hw':Kept [] wr w')=>(xa5v b i w' hbl hb.2 (by omega)).mono (fun e w2 (h2:_∧_)=>(⟨h2.1,hw'.trans h2.2 (by simp)⟩:_∧Kept [] wr w2)))
        unfold comL at HX
        obtain ⟨x,hx⟩:∃ x,dgt a i = x:=⟨_,rfl⟩
        obtain ⟨y,hy⟩:∃ y,dgt b i = y:=⟨_,rfl⟩
        rw [hx,hy] at HX
        rw [hx] at HC1
        rw [hy] at HC2
        clear hx hy
        go_wp2_with fail
        refine xa0u (by kernel_rfl) (by kernel_rfl) ?_
        refine xa0z rfl 50 (.tmp 4) rfl w.heap.size rfl _ (brow a) (0,0) _ (fun w' hw'=>hw'.heap (uh HGA) (by simp)) Tryz.underlying50 rfl (uh HZA) ?_
        simp only [Act.put,List.setIfInBounds_toArray,List.set_cons_succ,List.set_cons_zero]
        go_big_quiet_step (fail)
        go_big_quiet_want
        go_big_quiet_op
        apply Exists.intro
        refine ⟨fun w' hw'=>?_,?_⟩
        · exact uh HC1 w' hw'
        go_big_quiet_on
        refine xa0z rfl 50 (.tmp 5) rfl (w.heap.size + 1) rfl _ (brow b) (0,0) _ (fun w' hw'=>hw'.heap (uh HGB) (by simp)) Tryz.underlying50 rfl (uh HZB) ?_
        simp only [Act.put,List.setIfInBounds_toArray,List.set_cons_succ,List.set_cons_zero]
        go_big_quiet_step (fail)
        go_big_quiet_want
        go_big_quiet_op
        apply Exists.intro
        refine ⟨fun w' hw'=>?_,?_⟩
        · exact uh HC2 w' hw'
        go_big_quiet_on
        repeat (go_big_quiet_step (fail))
        refine wpQuiet_nil ?_
        intro w5 hw5
        have HK5:=hide ((uh HKr).trans hw5 (by simp))
        clear hw5 hne HC1 HC2
        by_cases hxy:x = y
        · subst hxy
          rw [if_pos rfl] at HX
          go_wp2
          go_roundw
          case rel=>exact ⟨i + 1,n,by go_num,by omega,HX,HK5⟩
          case measure=>simp [intOf]; omega
        · rw [if_neg hxy] at HX
          have hxy':((x:Int) != y) = true:=by rw [bne_iff_ne]; omega
          go_wp2
          go_ret2
          exact ⟨by rw [← uh HX]; rfl,(uh HK1).trans (uh HK5) (by simp)⟩
  · have hf0':((f:Int) != 0) = true:=by rw [bne_iff_ne]; omega
    rw [if_neg hf0] at HC
    clear HI HFF
    go_wp2
    go_ret2
    exact ⟨by rw [uh HC]; rfl,uh HK1⟩
def ordL:List Nat→List Nat→Int
  | [],[]=>0
  | [],_ :: _=>-1
  | _ :: _,[]=>1
  | x :: a,y :: b=>if x < y then -1 else if y < x then 1 else ordL a b
def b8 (x:Nat):UInt8:=((x:Int)).toNat.toUInt8
theorem b8_lt {x y:Nat} (hx:x < 256) (hy:y < 256):(b8 x < b8 y)↔x < y:=by
  unfold b8
  rw [Int.toNat_natCast,Int.toNat_natCast,UInt8.lt_iff_toNat_lt,Nat.toUInt8_eq,Nat.toUInt8_eq,UInt8.toNat_ofNat',UInt8.toNat_ofNat']
  rw [Nat.mod_eq_of_lt (by omega),Nat.mod_eq_of_lt (by omega)]
theorem xb5s:∀ (a b:List Nat),(∀ x∈a,x < 256)→(∀ x∈b,x < 256)→Lib.compareBytes (a.map b8) (b.map b8) = ordL a b
  | [],[],_,_=>rfl
  | [],_ :: _,_,_=>rfl
  | _ :: _,[],_,_=>rfl
  | x :: a,y :: b,ha,hb=>by
    have h1:=b8_lt (ha x (by simp)) (hb y (by simp))
    have h2:=b8_lt (hb y (by simp)) (ha x (by simp))
    simp only [List.map_cons,Lib.compareBytes,ordL]
    rw [xb5s a b (fun z hz=>ha z (by simp [hz])) (fun z hz=>hb z (by simp [hz]))]
    by_cases g1:x < y
    · rw [if_pos (h1.2 g1),if_pos g1]
    · rw [if_neg (fun h=>g1 (h1.1 h)),if_neg g1]
      by_cases g2:y < x
      · rw [if_pos (h2.2 g2),if_pos g2]
      · rw [if_neg (fun h=>g2 (h2.1 h)),if_neg g2]
theorem xa1q {P:Program} {w:World} {g:Nat}:∀ (bs:List Nat) (off:Nat) (acc:ByteArray),(∀ i,i < bs.length→w.cell? ⟨g,off + i,none⟩ = some (u8 (bs.getD i 0))) →
    ∃ r:ByteArray,(Extern.Bytes.loadBytes ⟨g,off,none⟩ bs.length acc).run P w = .ok r w∧r.data.toList = acc.data.toList++bs.map b8
  | [],off,acc,_=>⟨acc,rfl,by simp⟩
  | x :: bs,off,acc,h=>by
    have h0:=h 0 (by simp)
    obtain ⟨r,hr,he⟩:=xa1q (P:=P) bs (off + 1) (acc.push (b8 x)) (fun i hi=>by
      have:=h (i + 1) (by simp; omega)
      rw [show off + 1 + i = off + (i + 1) by omega]
      exact this)
    refine ⟨r,?_,?_⟩
    · rw [List.length_cons,Extern.Bytes.loadBytes,Sem.run_bind,run_load]
      rw [Nat.add_zero] at h0
      rw [h0]
      exact hr
    · rw [he]; simp [ByteArray.push]
theorem xc1y {P:Program} {w:World} {g g':Nat} (a b:List Nat) (c c' n n':Nat) (hn:a.length = n) (hn':b.length = n') (ha:∀ x∈a,x < 256) (hb:∀ x∈b,x < 256) (h:∀ i,i < a.length→w.cell? ⟨g,i,none⟩ = some (u8 (a.getD i 0))) (h':∀ i,i < b.length→w.cell? ⟨g',i,none⟩ = some (u8 (b.getD i 0))) :
    (Extern.BytealgCompare.compare #[.slice (some ⟨g,0,none⟩) n c,.slice (some ⟨g',0,none⟩) n' c']).run P w = .ok (.int .i64 (ordL a b)) w:=by
  subst hn; subst hn'
  obtain ⟨r,hr,he⟩:=xa1q (P:=P) (w:=w) (g:=g) a 0 .empty (fun i hi=>by rw [Nat.zero_add]; exact h i hi)
  obtain ⟨r',hr',he'⟩:=xa1q (P:=P) (w:=w) (g:=g') b 0 .empty (fun i hi=>by rw [Nat.zero_add]; exact h' i hi)
  change Sem.run P (do pure (goInt (Extern.BytealgCompare.cmp (← Extern.Bytes.loadBytes ⟨g,0,none⟩ a.length .empty) (← Extern.Bytes.loadBytes ⟨g',0,none⟩ b.length .empty)))) w = _
  simp only [Sem.run_bind,hr,hr',Sem.run_pure,Result.andThen]
  rw [Lib.cmp_eq,he,he']
  show Result.ok (goInt (Lib.compareBytes (a.map b8) (b.map b8))) w = _
  rw [xb5s a b ha hb]
  rfl
set_option maxHeartbeats 1000000 in
theorem xa9i (a b:List Nat) (g g' c c':Nat) (w:World) (ha:Dg a) (hb:Dg b) (h:∀ i,i < a.length→w.cell? ⟨g,i,none⟩ = some (u8 (a.getD i 0))) (h':∀ i,i < b.length→w.cell? ⟨g',i,none⟩ = some (u8 (b.getD i 0))) :
    Calls Tryz.prog 102 #[.slice (some ⟨g,0,none⟩) 32 c,.slice (some ⟨g',0,none⟩) 32 c'] w fun e w'=>e = .returned (.int .i64 (ordL a b))∧w' = w:=by
  have HC:=hide (fun (P:Program)=>xc1y (P:=P) a b c c' 32 32 ha.1 hb.1 ha.2 hb.2 h h')
  clear h h'
  go_enter Tryz.func102,Tryz.ntmps102
  go_wp2
  rw [run_callFunc_extern Tryz.func125 (by kernel_rfl) (by kernel_rfl) (by kernel_rfl) (e:=Extern.BytealgCompare.compare) (by kernel_rfl),uh HC]
  simp only [Result.andThen]
  rw [Oper.upon_value]
  go_wp2
  go_ret
  exact ⟨rfl,rfl⟩
def ordC (z:Int) (a b:List Nat):Int:=if formedE z [a,b] = 0 then ordL a b else 0
set_option maxHeartbeats 1000000 in
theorem xb7m (z:Int) (a b:List Nat) (w:World) (hz:-9223372036854775808≤z∧z≤9223372036854775807) (ha:Dg a) (hb:Dg b) :
    Calls Tryz.prog 119 #[.int .i64 z,.agg (brow a),.agg (brow b)] w fun e w'=>e = .returned (.tuple #[.int .i64 (ordC z a b),.int .i64 (formedE z [a,b]:Int)])∧Kept [] w w':=by
  have HA:=hide ha
  have HB:=hide hb
  have hal:=ha.1
  have hbl:=hb.1
  have HGA:=hide (((Kept.refl [] (w.alloc (.cells (brow a) 50))).alloc (.cells (brow b) 50)).heap (heap_alloc_new w (.cells (brow a) 50)) (by simp))
  have HGB:=hide (xa2w w (.cells (brow a) 50) (.cells (brow b) 50))
  have HK0:=hide (((Kept.refl [] w).alloc (.cells (brow a) 50)).alloc (.cells (brow b) 50))
  have HC:=hide (by unfold ordC; rfl:ordC z a b = if formedE z [a,b] = 0 then ordL a b else 0)
  obtain ⟨f,hf⟩:∃ f,formedE z [a,b] = f:=⟨_,rfl⟩
  obtain ⟨C,hC⟩:∃ C,ordC z a b = C:=⟨_,rfl⟩
  have HFF:=hide hf
  rw [hf,hC] at HC
  rw [hf,hC]
  clear hf hC
  have hfs:∀ A:Array Value,(List.foldl (fun cs x=>cs.setIfInBounds x.snd x.fst) A (List.map u8 a).zipIdx).size = A.size:=fun A=>xa5r _ A 0
  go_enter Tryz.func119,Tryz.ntmps119
  go_wp2_with (first
    | (refine wpList_load_mid rfl 50 _ rfl w.heap.size 0 rfl (a.map u8) _ (xa0v (uh HGA)) Tryz.underlying50 rfl (by rw [List.length_map,hal]; exact Tryz.size_dig) ?_)
    | (refine wpList_load_mid rfl 50 _ rfl (w.heap.size + 1) 0 rfl (b.map u8) _ (xa0v (uh HGB)) Tryz.underlying50 rfl (by rw [List.length_map,hbl]; exact Tryz.size_dig) ?_))
  rw [zb64,xb5i a b hal hbl]
  clear hfs
  refine Calls.mono (xa3m z _ [a,b] _ hz (RdD.two (xa6d _ _ _ _) hal hbl ha.2 hb.2)) ?_
  rintro e w1 ⟨rfl,k1⟩
  have k01:=((Kept.refl [] ((w.alloc (.cells (brow a) 50)).alloc (.cells (brow b) 50))).alloc (.cells (a.map u8++b.map u8).toArray 50)).trans k1 (by simp)
  have HK1:=hide ((uh HK0).trans k01 (by simp))
  have HG1:=hide (k01.heap (uh HGA) (by simp))
  have HG2:=hide (k01.heap (uh HGB) (by simp))
  clear k1 k01 HGA HGB
  rw [uh HFF]
  by_cases hf0:f = 0
  · subst hf0
    rw [if_pos rfl] at HC
    clear HFF
    go_wp2_with fail
    refine xa0s 2 (by kernel_rfl) (by kernel_rfl) ?_
    simp only [List.take_succ_cons,List.take_zero,List.drop_succ_cons,List.drop_zero]
    repeat (go_big_quiet_step (fail))
    refine wpQuiet_nil ?_
    intro _ hw'
    obtain ⟨n1,hw''⟩:=hw'
    subst hw''
    have HG3:=hide (((Kept.refl [] w1).drewN n1).heap (uh HG1) (by simp))
    have HG4:=hide (((Kept.refl [] w1).drewN n1).heap (uh HG2) (by simp))
    have HK2:=hide ((uh HK1).drewN n1)
    go_wp2_with fail
    refine Calls.mono (xa9i a b _ _ _ _ _ ha hb (fun i hi=>xa0q (uh HG3) i hi) (fun i hi=>xa0q (uh HG4) i hi)) ?_
    rintro e w2 ⟨rfl,rfl⟩
    go_wp2
    go_ret2
    exact ⟨by rw [uh HC]; rfl,uh HK2⟩
  · have hf0':((f:Int) != 0) = true:=by rw [bne_iff_ne]; omega
    rw [if_neg hf0] at HC
    clear HFF
    go_wp2
    go_ret2
    exact ⟨by rw [uh HC]; rfl,uh HK1⟩
end

section
open Go.RowKit
def strOf (p:List Nat):ByteArray:=⟨(p.map UInt8.ofNat).toArray⟩
theorem xc3s (s:ByteArray):∀ n i r,s.size - i = n→ByteArray.toList.loop s i r = r.reverse++s.data.toList.drop i:=by
  intro n
  induction n with
  | zero =>
    intro i r h
    rw [ByteArray.toList.loop]
    have h1:s.size = s.data.toList.length:=(Array.length_toList).symm
    rw [if_neg (by omega),List.drop_eq_nil_of_le (by omega),List.append_nil]
  | succ n ih =>
    intro i r h
    rw [ByteArray.toList.loop]
    have h1:s.size = s.data.toList.length:=(Array.length_toList).symm
    have h2:i < s.data.toList.length:=by omega
    rw [if_pos (by omega),ih (i + 1) _ (by omega),List.drop_eq_getElem_cons h2]
    have h3:s.get! i = s.data.toList[i]:=by
      have h4:i < s.data.size:=by simpa using h2
      rw [Array.getElem_toList]
      exact getElem!_pos s.data i h4
    simp [h3]
theorem xa9t (s:ByteArray):s.toList = s.data.toList:=by
  unfold ByteArray.toList
  rw [xc3s s _ 0 [] rfl]
  simp
theorem xb7a {p q:List Nat} (hp:∀ x∈p,x < 256) (hq:∀ x∈q,x < 256) (h:strOf p = strOf q):p = q:=by
  have h1:p.map UInt8.ofNat = q.map UInt8.ofNat:=by
    have:=congrArg (fun b=>b.data.toList) h
    simpa [strOf] using this
  have h2:=congrArg (List.map UInt8.toNat) h1
  simp only [List.map_map] at h2
  have e:∀ l:List Nat,(∀ x∈l,x < 256)→l.map (UInt8.toNat ∘ UInt8.ofNat) = l:=by
    intro l hl
    conv=>rhs; rw [← List.map_id l]
    apply List.map_congr_left
    intro x hx
    have:=hl x hx
    simp [UInt8.toNat_ofNat]; omega
  rw [e p hp,e q hq] at h2
  exact h2
theorem xb2i (v:Value) (p:List Nat) (w:World) (h:Rd w v p) (hu5:Tryz.prog.underlying 5 = some (.int .u8)) (hu9:Tryz.prog.underlying 9 = some .string) :
    (convert 30 9 v).run Tryz.prog w = .ok (.string (strOf p)) w:=by
  obtain ⟨ao,len,cap,rfl,rfl,h2,h3,h4,h5,h6⟩:=h
  have hl:p.length = (p.map UInt8.ofNat).length:=by simp
  cases ao with
  | none =>
    have hz:=h4 rfl
    have hp0:p = []:=List.eq_nil_of_length_eq_zero (by omega)
    subst hp0
    rw [run_convert_bytes_string w 30 9 5 none _ cap Tryz.underlying30 hu5 hu9]
    simp [Conv.bytesToString,strOf]
    rfl
  | some a =>
    rw [hl]
    refine run_convert_bytes_back w 30 9 5 a cap (p.map UInt8.ofNat) Tryz.underlying30 hu5 hu9 (fun j hj=>?_)
    simp at hj
    obtain ⟨b,off,he,hc⟩:=h6 (by omega)
    cases he
    have:=hc j hj
    rw [Addr.add_mid,this]
    have hb:=h5 (p[j]) (List.getElem_mem hj)
    simp [u8,List.getD_eq_getElem?_getD,List.getElem?_eq_getElem hj,UInt8.toNat_ofNat]
    omega
end
section
open Go Go.RowKit Go.BigFrame

end
section
open Go.RowKit Go.BigFrame
theorem xa1h (z:Int) (p:List Nat):Dg (sumD z p):=⟨xa0h _ _,by
  unfold sumD
  split
  · exact xa6b _ _ (xa3y _)
  · intro x hx; simp at hx; omega⟩
theorem xb6q {k:Nat} {d:List Nat} (hk:k≤32) (hd:d.length = 32):cutL k (cutL k d) = cutL k d:=by
  unfold cutL
  rw [List.take_append_of_le_length (by simp; omega),List.take_take,Nat.min_self]
theorem xa2d {z:Int} (hw:widthB z = true) (p:List Nat):formB z (sumD z p) = true:=by
  unfold formB sumD
  have h:=xa2g hw
  rw [hw]
  simp only [if_true,Bool.true_and]
  rw [xb6q (by omega) (xa2c _)]
  simp
theorem xa3a {k:Nat} (hk:1≤k∧k≤32) (p:List Nat):sumD (k:Int) p = cutL k (hash p):=by
  unfold sumD
  rw [if_pos (by simp [widthB]; omega),Int.toNat_natCast]
set_option maxHeartbeats 1000000 in
theorem xa4d (k:Nat) (v:Value) (p:List Nat) (w:World) (hk:1≤k∧k≤32) (h:Rd w v p) (hl:p.length≤140737488351232) :
    Calls Tryz.prog 24 #[.int .i64 k,v] w fun e w'=>e = .returned (.agg (brow (sumD (k:Int) (2 :: p))))∧Kept [] w w':=by
  rw [xa3a hk]
  have hcl:=xa1f k (hash (2 :: p)) hk.2 (xa2c _)
  obtain ⟨C,hC⟩:∃ C,cutL k (hash (2 :: p)) = C:=⟨_,rfl⟩
  rw [hC] at hcl ⊢
  have HC:=hide hC
  clear hC
  have HH:=hide h
  clear h
  have HS2:=hide (by rw [xa0a,hcl]; exact Tryz.size_dig:(Tryz.prog.info? 50).map (·.size) = some (brow C).size)
  go_enter Tryz.func24,Tryz.ntmps24
  go_wp2_with fail
  rw [zb32]
  have k0:=(Kept.refl [] w).alloc (.cells (zb 32) 50)
  refine Calls.mono (xa4x _ p _ ((uh HH).old k0 (by simp)) hl) ?_
  rintro e w1 ⟨v1,rfl,r1,k1⟩
  have HR1:=hide r1
  have HK1:=hide (k0.trans k1 (by simp))
  have HZ1:=hide (k1.heap (heap_alloc_new w (.cells (zb 32) 50)) (by simp))
  clear r1 k1 k0
  go_wp2_with fail
  refine Calls.mono (xa4g k _ _ _ (uh HR1) hk.2) ?_
  rintro e w2 ⟨rfl,k2⟩
  rw [uh HC]
  have HZ2:=hide (k2.heap (uh HZ1) (by simp))
  have HK2:=hide ((uh HK1).trans k2 (by simp))
  clear k2
  go_wp2_with (refine wpList_store_row rfl 50 _ _ rfl w.heap.size (brow C) rfl rfl _ (zb 32) (uh HZ2) (uh HS2) (by rw [xa0d,xa0a,hcl]) (xa0c _) ?_)
  refine bodyPost_ret (v:=.agg (brow C)) ?_ rfl ⟨rfl,(uh HK2).setRow (by simp) _⟩
  exact results_cell_row rfl _ _ w.heap.size _ (brow C) (0,0) _ rfl (setRow_heap _ _ _ _ _ _ (uh HZ2)) Tryz.underlying50 rfl (uh HS2)
set_option maxHeartbeats 1000000 in
theorem xa7c (k:Nat) (v:Value) (ps:List (List Nat × List Nat)) (w:World) (hk:1≤k∧k≤32) (h:RdK w v ps) (hl:(pairB ps).length≤1000000000000) :
    Calls Tryz.prog 136 #[.int .i64 k,v] w fun e w'=>e = .returned (.agg (brow (sumD (k:Int) (buckB ps))))∧Kept [] w w':=by
  rw [xa3a hk]
  have hcl:=xa1f k (hash (buckB ps)) hk.2 (xa2c _)
  obtain ⟨C,hC⟩:∃ C,cutL k (hash (buckB ps)) = C:=⟨_,rfl⟩
  rw [hC] at hcl ⊢
  have HC:=hide hC
  clear hC
  have HH:=hide h
  clear h
  have HS2:=hide (by rw [xa0a,hcl]; exact Tryz.size_dig:(Tryz.prog.info? 50).map (·.size) = some (brow C).size)
  go_enter Tryz.func136,Tryz.ntmps136
  go_wp2_with fail
  rw [zb32]
  have k0:=(Kept.refl [] w).alloc (.cells (zb 32) 50)
  refine Calls.mono (xa3n _ ps _ ((uh HH).old k0) hl) ?_
  rintro e w1 ⟨v1,rfl,r1,k1⟩
  have HR1:=hide r1
  have HK1:=hide (k0.trans k1 (by simp))
  have HZ1:=hide (k1.heap (heap_alloc_new w (.cells (zb 32) 50)) (by simp))
  clear r1 k1 k0
  go_wp2_with fail
  refine Calls.mono (xa4g k _ _ _ (uh HR1) hk.2) ?_
  rintro e w2 ⟨rfl,k2⟩
  rw [uh HC]
  have HZ2:=hide (k2.heap (uh HZ1) (by simp))
  have HK2:=hide ((uh HK1).trans k2 (by simp))
  clear k2
  go_wp2_with (refine wpList_store_row rfl 50 _ _ rfl w.heap.size (brow C) rfl rfl _ (zb 32) (uh HZ2) (uh HS2) (by rw [xa0d,xa0a,hcl]) (xa0c _) ?_)
  refine bodyPost_ret (v:=.agg (brow C)) ?_ rfl ⟨rfl,(uh HK2).setRow (by simp) _⟩
  exact results_cell_row rfl _ _ w.heap.size _ (brow C) (0,0) _ rfl (setRow_heap _ _ _ _ _ _ (uh HZ2)) Tryz.underlying50 rfl (uh HS2)
set_option maxHeartbeats 1000000 in
theorem xa6u (k:Nat) (x:Nat) (v:Value) (ds:List (List Nat)) (w:World) (hk:1≤k∧k≤32) (hx:x < 65536) (h:RdD w v ds) (hl:ds.length≤16) :
    Calls Tryz.prog 137 #[.int .i64 k,.int .u16 x,v] w fun e w'=>e = .returned (.agg (brow (sumD (k:Int) (branchB (k:Int) x ds))))∧Kept [] w w':=by
  rw [xa3a hk]
  have hcl:=xa1f k (hash (branchB (k:Int) x ds)) hk.2 (xa2c _)
  obtain ⟨C,hC⟩:∃ C,cutL k (hash (branchB (k:Int) x ds)) = C:=⟨_,rfl⟩
  rw [hC] at hcl ⊢
  have HC:=hide hC
  clear hC
  have HH:=hide h
  clear h
  have HS2:=hide (by rw [xa0a,hcl]; exact Tryz.size_dig:(Tryz.prog.info? 50).map (·.size) = some (brow C).size)
  go_enter Tryz.func137,Tryz.ntmps137
  go_wp2_with fail
  rw [zb32]
  have k0:=(Kept.refl [] w).alloc (.cells (zb 32) 50)
  refine Calls.mono (xa3h k x _ ds _ hk.2 hx ((uh HH).old k0) hl) ?_
  rintro e w1 ⟨v1,rfl,r1,k1⟩
  have HR1:=hide r1
  have HK1:=hide (k0.trans k1 (by simp))
  have HZ1:=hide (k1.heap (heap_alloc_new w (.cells (zb 32) 50)) (by simp))
  clear r1 k1 k0
  go_wp2_with fail
  refine Calls.mono (xa4g k _ _ _ (uh HR1) hk.2) ?_
  rintro e w2 ⟨rfl,k2⟩
  rw [uh HC]
  have HZ2:=hide (k2.heap (uh HZ1) (by simp))
  have HK2:=hide ((uh HK1).trans k2 (by simp))
  clear k2
  go_wp2_with (refine wpList_store_row rfl 50 _ _ rfl w.heap.size (brow C) rfl rfl _ (zb 32) (uh HZ2) (uh HS2) (by rw [xa0d,xa0a,hcl]) (xa0c _) ?_)
  refine bodyPost_ret (v:=.agg (brow C)) ?_ rfl ⟨rfl,(uh HK2).setRow (by simp) _⟩
  exact results_cell_row rfl _ _ w.heap.size _ (brow C) (0,0) _ rfl (setRow_heap _ _ _ _ _ _ (uh HZ2)) Tryz.underlying50 rfl (uh HS2)
theorem xa5d {P:Program} {w:World} {v:Value} {a:List Nat} (h:Rd w v a):∃ r:ByteArray,(Extern.Bytes.bytesOf v).run P w = .ok r w∧r.data.toList = a.map b8:=by
  obtain ⟨ao,n,c,rfl,h1,h2,h3,h4,_,h5⟩:=h
  subst h1
  cases ao with
  | none =>
    have h0:a = []:=List.eq_nil_of_length_eq_zero (by have:=h4 rfl; omega)
    subst h0
    exact ⟨.empty,rfl,rfl⟩
  | some p =>
    rcases Nat.eq_zero_or_pos a.length with h0 | h0
    · have h0':a = []:=List.eq_nil_of_length_eq_zero h0
      subst h0'
      exact ⟨.empty,rfl,rfl⟩
    · obtain ⟨b,off,he,hc⟩:=h5 h0
      cases he
      obtain ⟨r,hr,e⟩:=xa1q (P:=P) (w:=w) (g:=b) a off .empty hc
      exact ⟨r,hr,by rw [e]; simp⟩
theorem xc1a {P:Program} {w:World} {u v:Value} {a b:List Nat} (ha:Rd w u a) (hb:Rd w v b):(Extern.BytealgCompare.compare #[u,v]).run P w = .ok (.int .i64 (ordL a b)) w:=by
  obtain ⟨r,hr,he⟩:=xa5d (P:=P) ha
  obtain ⟨r',hr',he'⟩:=xa5d (P:=P) hb
  change Sem.run P (do pure (goInt (Extern.BytealgCompare.cmp (← Extern.Bytes.bytesOf u) (← Extern.Bytes.bytesOf v)))) w = _
  simp only [Sem.run_bind,hr,hr',Sem.run_pure,Result.andThen]
  rw [Lib.cmp_eq,he,he']
  show Result.ok (goInt (Lib.compareBytes (a.map b8) (b.map b8))) w = _
  rw [xb5s a b ha.byte hb.byte]
  rfl
set_option maxHeartbeats 1000000 in
theorem xb3i (u v:Value) (a b:List Nat) (w:World) (ha:Rd w u a) (hb:Rd w v b) :
    Calls Tryz.prog 102 #[u,v] w fun e w'=>e = .returned (.int .i64 (ordL a b))∧w' = w:=by
  obtain ⟨ao,n,c,rfl,h1,_,_,h4,h5,_⟩:=id ha
  obtain ⟨bo,m,d,rfl,g1,_,_,g4,g5,_⟩:=id hb
  have HC:=hide (fun (P:Program)=>xc1a (P:=P) ha hb)
  clear ha hb h4 g4 h5 g5
  go_enter Tryz.func102,Tryz.ntmps102
  go_wp2
  rw [run_callFunc_extern Tryz.func125 (by kernel_rfl) (by kernel_rfl) (by kernel_rfl) (e:=Extern.BytealgCompare.compare) (by kernel_rfl),uh HC]
  simp only [Result.andThen]
  rw [Oper.upon_value]
  go_wp2
  go_ret
  exact ⟨rfl,rfl⟩
def RdS (w:World) (v:Value) (ss:List (Nat × List (List Nat))):Prop :=
  ∃ (ao:Option Addr) (len cap:Nat) (vs:List Value),v = .slice ao len cap∧ss.length = len∧len≤cap∧cap≤9223372036854775807∧(∀ i,i < len→(ss.getD i (0,[])).1 < 65536∧RdD w (vs.getD i undef) (ss.getD i (0,[])).2) ∧
    (0 < len→∃ b off,ao = some ⟨b,off,none⟩∧∀ i,i < len→w.cell? ⟨b,off + i * 2,none⟩ = some (.int .u16 ((ss.getD i (0,[])).1:Int))∧w.cell? ⟨b,off + i * 2 + 1,none⟩ = some (vs.getD i undef))
theorem RdS.old {w w':World} {v:Value} {ss:List (Nat × List (List Nat))} (h:RdS w v ss) (k:Kept [] w w'):RdS w' v ss:=by
  obtain ⟨ao,len,cap,vs,h1,h2,h4,h5,h6,h7⟩:=h
  refine ⟨ao,len,cap,vs,h1,h2,h4,h5,fun i hi=>⟨(h6 i hi).1,(h6 i hi).2.old k⟩,fun hp=>?_⟩
  obtain ⟨b,off,e,hc⟩:=h7 hp
  exact ⟨b,off,e,fun i hi=>⟨k.cell (hc i hi).1 (by simp),k.cell (hc i hi).2 (by simp)⟩⟩
end
theorem RdD.dg {w:World} {v:Value} {ds:List (List Nat)} (h:RdD w v ds) {d:List Nat} (hd:d∈ds):Dg d:=by
  obtain ⟨ao',len',cap',e,h1,h2,h3,h4,h5⟩:=h
  exact h4 d hd
theorem xa6n (a b:List Nat):∀ (n i:Nat),i≤comL a b n i∧comL a b n i≤i + n∧(∀ j,i≤j→j < comL a b n i→dgt a j = dgt b j)∧(comL a b n i < i + n→dgt a (comL a b n i)≠dgt b (comL a b n i))
  | 0,i=>by unfold comL; exact ⟨Nat.le_refl _,Nat.le_refl _,fun j h1 h2=>by omega,fun h=>by omega⟩
  | n + 1,i=>by
    unfold comL
    by_cases h:dgt a i = dgt b i
    · rw [if_pos h]
      obtain ⟨h1,h2,h3,h4⟩:=xa6n a b n (i + 1)
      refine ⟨by omega,by omega,fun j g1 g2=>?_,fun g=>h4 (by omega)⟩
      rcases Nat.lt_or_ge i j with q | q
      · exact h3 j (by omega) g2
      · rw [show j = i by omega]; exact h
    · rw [if_neg h]
      exact ⟨Nat.le_refl _,by omega,fun j g1 g2=>by omega,fun _=>h⟩
theorem xa1b:∀ a:List Nat,ordL a a = 0
  | []=>rfl
  | x :: a=>by unfold ordL; rw [if_neg (Nat.lt_irrefl x),if_neg (Nat.lt_irrefl x)]; exact xa1b a
theorem xb8o:∀ (a b:List Nat) (j:Nat),a.length = b.length→j < a.length→(∀ i,i < j→a.getD i 0 = b.getD i 0)→a.getD j 0≠b.getD j 0→ordL a b = if a.getD j 0 < b.getD j 0 then -1 else 1
  | [],b,j,_,h,_,_=>by simp at h
  | x :: a,[],j,h,_,_,_=>by simp at h
  | x :: a,y :: b,0,_,_,_,h=>by
    simp only [List.getD_cons_zero] at h ⊢
    unfold ordL
    by_cases g:x < y
    · rw [if_pos g,if_pos g]
    · rw [if_neg g,if_pos (by omega),if_neg g]
  | x :: a,y :: b,j + 1,hl,hj,hp,h=>by
    have h0:=hp 0 (by omega)
    simp only [List.getD_cons_zero] at h0
    subst h0
    unfold ordL
    rw [if_neg (Nat.lt_irrefl x),if_neg (Nat.lt_irrefl x)]
    simp only [List.getD_cons_succ] at h ⊢
    exact xb8o a b j (by simpa using hl) (by simpa using hj) (fun i hi=>by have:=hp (i + 1) (by omega); simpa using this) h
theorem xa3l (d:List Nat) (j:Nat):d.getD j 0 = 16 * dgt d (2 * j) + dgt d (2 * j + 1):=by
  unfold dgt
  rw [if_pos (by omega),if_neg (by omega),show 2 * j / 2 = j by omega,show (2 * j + 1) / 2 = j by omega]
  omega
theorem xc3l {a b:List Nat} (ha:Dg a) (hb:Dg b) {c:Nat} (hc:c < 64) (hp:∀ i,i < c→dgt a i = dgt b i) (h:dgt a c≠dgt b c):ordL a b = if dgt a c < dgt b c then -1 else 1:=by
  have hpre:∀ i,i < c / 2→a.getD i 0 = b.getD i 0:=fun i hi=>by
    rw [xa3l a i,xa3l b i,hp (2 * i) (by omega),hp (2 * i + 1) (by omega)]
  have ea:=xa3l a (c / 2)
  have eb:=xa3l b (c / 2)
  have la:=dgt_lt ha.2 (2 * (c / 2) + 1)
  have lb:=dgt_lt hb.2 (2 * (c / 2) + 1)
  have hne:a.getD (c / 2) 0≠b.getD (c / 2) 0∧((a.getD (c / 2) 0 < b.getD (c / 2) 0)↔dgt a c < dgt b c):=by
    rcases (by omega:c = 2 * (c / 2)∨c = 2 * (c / 2) + 1) with e | e
    · rw [← e] at ea eb la lb
      rw [ea,eb]
      omega
    · have h1:=hp (2 * (c / 2)) (by omega)
      rw [← e] at ea eb la lb
      rw [ea,eb]
      omega
  rw [xb8o a b (c / 2) (by rw [ha.1,hb.1]) (by rw [ha.1]; omega) hpre hne.1]
  by_cases g:dgt a c < dgt b c
  · rw [if_pos g,if_pos (hne.2.2 g)]
  · rw [if_neg g,if_neg (fun q=>g (hne.2.1 q))]
theorem xa3b:∀ a b:List Nat,ordL a b = - ordL b a
  | [],[]=>rfl
  | [],_ :: _=>rfl
  | _ :: _,[]=>rfl
  | x :: a,y :: b=>by
    unfold ordL
    by_cases h1:x < y
    · rw [if_pos h1,if_neg (by omega),if_pos h1]
    · by_cases h2:y < x
      · rw [if_neg h1,if_pos h2,if_pos h2]; rfl
      · rw [if_neg h1,if_neg h2,if_neg h2,if_neg h1]; exact xa3b a b
theorem xa2r (b i j:Nat) (hi:i≤15):(withB b (i:Int)).testBit j = (b.testBit j || decide (i = j)):=by
  unfold withB
  rw [Int.toNat_natCast]
  cases hb:b.testBit i with
  | true =>
    rw [if_neg (by simp)]
    by_cases h:i = j
    · subst h; simp [hb]
    · simp [h]
  | false=>rw [if_pos ⟨by omega,by omega,rfl⟩,xb3q hb]
theorem xb5u (b i j:Nat) (hi:i≤15):(outB b (i:Int)).testBit j = (b.testBit j && !decide (i = j)):=by
  unfold outB
  rw [Int.toNat_natCast]
  cases hb:b.testBit i with
  | false =>
    rw [if_neg (by simp)]
    by_cases h:i = j
    · subst h; simp [hb]
    · simp [h]
  | true=>rw [if_pos ⟨by omega,by omega,rfl⟩,xb5b hb]
theorem xb3d (b i:Nat) (hi:i≤15):hasB b (i:Int) = b.testBit i:=by
  unfold hasB
  rw [Int.toNat_natCast,decide_eq_true (by omega:(0:Int)≤i),decide_eq_true (by omega:(i:Int)≤15)]; simp
abbrev Prs:=List (List Nat × List Nat)
structure Hs where
  wd:Nat
  kd:List Nat→List Nat
  hb:Prs→List Nat
  hr:Nat→List (List Nat)→List Nat
structure Hs.Ok (H:Hs):Prop where
  lo:1≤H.wd
  hi:H.wd≤32
  dg:∀ k,Dg (H.kd k)
  far:∀ k j,2 * H.wd≤j→dgt (H.kd k) j = 0
theorem xa1u:∀ {a b:List Nat},ordL a b = 0→a = b
  | [],[],_=>rfl
  | [],_ :: _,h=>by simp [ordL] at h
  | _ :: _,[],h=>by simp [ordL] at h
  | x :: a,y :: b,h=>by
    unfold ordL at h
    by_cases h1:x < y
    · rw [if_pos h1] at h; omega
    · by_cases h2:y < x
      · rw [if_neg h1,if_pos h2] at h; omega
      · rw [if_neg h1,if_neg h2] at h
        rw [xa1u h,show x = y by omega]
theorem xa5w:∀ {a b c:List Nat},ordL a b < 0→ordL b c < 0→ordL a c < 0
  | [],[],_,p,_=>by simp [ordL] at p
  | [],_ :: _,[],_,q=>by simp [ordL] at q
  | [],_ :: _,_ :: _,_,_=>by simp [ordL]
  | _ :: _,[],_,p,_=>by simp [ordL] at p
  | _ :: _,_ :: _,[],_,q=>by simp [ordL] at q
  | x :: a,y :: b,z :: c,p,q=>by
    unfold ordL at p q ⊢
    by_cases g1:x < y
    · by_cases g2:y < z
      · rw [if_pos (by omega)]; decide
      · rw [if_neg g2] at q
        by_cases g3:z < y
        · rw [if_pos g3] at q; omega
        · rw [if_pos (by omega)]; decide
    · rw [if_neg g1] at p
      by_cases g4:y < x
      · rw [if_pos g4] at p; omega
      · rw [if_neg g4] at p
        obtain rfl:x = y:=by omega
        by_cases g2:x < z
        · rw [if_pos g2]; decide
        · rw [if_neg g2] at q ⊢
          by_cases g3:z < x
          · rw [if_pos g3] at q; omega
          · rw [if_neg g3] at q ⊢
            exact xa5w p q
def kc (H:Hs) (a b:List Nat):Int:=if ordL (H.kd a) (H.kd b) = 0 then ordL a b else ordL (H.kd a) (H.kd b)
theorem xa3q (H:Hs) (a:List Nat):kc H a a = 0:=by unfold kc; rw [xa1b,if_pos rfl,xa1b]
theorem xa7z {H:Hs} {a b:List Nat} (h:kc H a b = 0):a = b:=by
  unfold kc at h
  by_cases g:ordL (H.kd a) (H.kd b) = 0
  · rw [if_pos g] at h; exact xa1u h
  · rw [if_neg g] at h; exact absurd h g
theorem xc2e (H:Hs) (a b:List Nat):kc H a b = - kc H b a:=by
  unfold kc
  have h1:=xa3b (H.kd a) (H.kd b)
  have h2:=xa3b a b
  by_cases g:ordL (H.kd a) (H.kd b) = 0
  · rw [if_pos g,if_pos (by omega),h2]
  · rw [if_neg g,if_neg (by omega),h1]
theorem xa4h {H:Hs} {a b c:List Nat} (p:kc H a b < 0) (q:kc H b c < 0):kc H a c < 0:=by
  unfold kc at p q ⊢
  by_cases g1:ordL (H.kd a) (H.kd b) = 0
  · rw [if_pos g1] at p
    have e1:=xa1u g1
    by_cases g2:ordL (H.kd b) (H.kd c) = 0
    · rw [if_pos g2] at q
      have e2:=xa1u g2
      rw [if_pos (by rw [e1,e2,xa1b])]
      exact xa5w p q
    · rw [if_neg g2] at q
      rw [if_neg (by rw [e1]; exact g2),e1]
      exact q
  · rw [if_neg g1] at p
    by_cases g2:ordL (H.kd b) (H.kd c) = 0
    · have e2:=xa1u g2
      rw [if_neg (by rw [← e2]; exact g1),← e2]
      exact p
    · rw [if_neg g2] at q
      have:=xa5w p q
      rw [if_neg (by omega)]
      exact this
theorem kc_le {H:Hs} {a b:List Nat} (h:kc H a b < 0):ordL (H.kd a) (H.kd b)≤0:=by
  unfold kc at h
  by_cases g:ordL (H.kd a) (H.kd b) = 0
  · omega
  · rw [if_neg g] at h; omega
theorem xb9c {H:Hs} {a b:List Nat} (h:H.kd a = H.kd b):kc H a b = ordL a b:=by unfold kc; rw [h,xa1b,if_pos rfl]
def Srt (H:Hs) (L:Prs):Prop:=L.Pairwise (fun x y=>kc H x.1 y.1 < 0)
def insP (H:Hs) (k v:List Nat):Prs→Prs
  | []=>[(k,v)]
  | y :: L=>if kc H k y.1 < 0 then (k,v) :: y :: L else if kc H k y.1 = 0 then (k,v) :: L else y :: insP H k v L
def getP (k:List Nat):Prs→Option (List Nat)
  | []=>none
  | y :: L=>if y.1 = k then some y.2 else getP k L
theorem xa2p (H:Hs) (k v:List Nat) (y:List Nat × List Nat) (L:Prs):insP H k v (y :: L) = if kc H k y.1 < 0 then (k,v) :: y :: L else if kc H k y.1 = 0 then (k,v) :: L else y :: insP H k v L:=rfl
theorem xa6r (k:List Nat) (y:List Nat × List Nat) (L:Prs):getP k (y :: L) = if y.1 = k then some y.2 else getP k L:=rfl
theorem Srt.tail {H:Hs} {y:List Nat × List Nat} {L:Prs} (h:Srt H (y :: L)):Srt H L:=(List.pairwise_cons.1 h).2
theorem Srt.head {H:Hs} {y:List Nat × List Nat} {L:Prs} (h:Srt H (y :: L)):∀ x∈L,kc H y.1 x.1 < 0:=(List.pairwise_cons.1 h).1
theorem Srt.filter {H:Hs} {L:Prs} (h:Srt H L) (p:List Nat × List Nat→Bool):Srt H (L.filter p):=List.Pairwise.filter p h
theorem ins_lt {H:Hs} {k v:List Nat}:∀ {L:Prs},(∀ y∈L,kc H k y.1 < 0)→insP H k v L = (k,v) :: L
  | [],_=>rfl
  | y :: L,h=>by unfold insP; rw [if_pos (h y (by simp))]
theorem xa3v {H:Hs} {k v:List Nat}:∀ {L:Prs},Srt H L→∀ y,y∈insP H k v L↔y = (k,v)∨(y∈L∧y.1≠k)
  | [],_,y=>by simp [insP]
  | x :: L,h,y=>by
    have ht:=h.tail
    have hh:=h.head
    unfold insP
    by_cases g1:kc H k x.1 < 0
    · rw [if_pos g1]
      have hne:∀ z∈x :: L,z.1≠k:=fun z hz e=>by
        rcases List.mem_cons.1 hz with rfl | hz
        · rw [← e,xa3q] at g1; omega
        · have:=xa4h g1 (hh z hz); rw [e,xa3q] at this; omega
      constructor
      · intro hm; rcases List.mem_cons.1 hm with rfl | hm
        · exact Or.inl rfl
        · exact Or.inr ⟨hm,hne y hm⟩
      · rintro (rfl | ⟨hm,_⟩)
        · simp
        · exact List.mem_cons_of_mem _ hm
    · rw [if_neg g1]
      by_cases g2:kc H k x.1 = 0
      · rw [if_pos g2]
        have e:=xa7z g2
        constructor
        · intro hm; rcases List.mem_cons.1 hm with rfl | hm
          · exact Or.inl rfl
          · refine Or.inr ⟨List.mem_cons_of_mem _ hm,fun e2=>?_⟩
            have:=hh y hm; rw [e2,e,xa3q] at this; omega
        · rintro (rfl | ⟨hm,hn⟩)
          · simp
          · rcases List.mem_cons.1 hm with rfl | hm
            · exact absurd e.symm hn
            · exact List.mem_cons_of_mem _ hm
      · rw [if_neg g2,List.mem_cons,xa3v ht y]
        constructor
        · rintro (rfl | rfl | ⟨hm,hn⟩)
          · exact Or.inr ⟨by simp,fun e=>g2 (by rw [e,xa3q])⟩
          · exact Or.inl rfl
          · exact Or.inr ⟨List.mem_cons_of_mem _ hm,hn⟩
        · rintro (rfl | ⟨hm,hn⟩)
          · exact Or.inr (Or.inl rfl)
          · rcases List.mem_cons.1 hm with rfl | hm
            · exact Or.inl rfl
            · exact Or.inr (Or.inr ⟨hm,hn⟩)
theorem Srt.ins {H:Hs} (k v:List Nat):∀ {L:Prs},Srt H L→Srt H (insP H k v L)
  | [],_=>by simp [insP,Srt]
  | x :: L,h=>by
    have ht:=h.tail
    have hh:=h.head
    unfold insP
    by_cases g1:kc H k x.1 < 0
    · rw [if_pos g1]
      refine List.pairwise_cons.2 ⟨fun y hy=>?_,h⟩
      rcases List.mem_cons.1 hy with rfl | hy
      · exact g1
      · exact xa4h g1 (hh y hy)
    · rw [if_neg g1]
      by_cases g2:kc H k x.1 = 0
      · rw [if_pos g2]
        have e:=xa7z g2
        exact List.pairwise_cons.2 ⟨fun y hy=>by rw [e]; exact hh y hy,ht⟩
      · rw [if_neg g2]
        refine List.pairwise_cons.2 ⟨fun y hy=>?_,ht.ins k v⟩
        rcases (xa3v ht y).1 hy with rfl | ⟨hm,_⟩
        · have:=xc2e H x.1 k; show kc H x.1 k < 0; omega
        · exact hh y hm
theorem xb8e {H:Hs} {k v:List Nat}:∀ {L:Prs},Srt H L→(getP k L = some v↔(k,v)∈L)
  | [],_=>by simp [getP]
  | x :: L,h=>by
    unfold getP
    by_cases g:x.1 = k
    · rw [if_pos g]
      constructor
      · intro e; have e2:=Option.some.inj e; rw [← g,← e2]; simp
      · intro hm; rcases List.mem_cons.1 hm with e | hm
        · rw [← e]
        · have:=h.head _ hm; rw [g,xa3q] at this; omega
    · rw [if_neg g,xb8e h.tail]
      constructor
      · exact fun hm=>List.mem_cons_of_mem _ hm
      · intro hm; rcases List.mem_cons.1 hm with e | hm
        · exact absurd (by rw [← e]) g
        · exact hm
theorem xa9b {k:List Nat}:∀ {L:Prs},getP k L = none↔∀ y∈L,y.1≠k
  | []=>by simp [getP]
  | x :: L=>by
    unfold getP
    by_cases g:x.1 = k
    · rw [if_pos g]; constructor
      · intro e; cases e
      · intro h; exact absurd g (h x (by simp))
    · rw [if_neg g,xa9b]
      constructor
      · intro h y hy; rcases List.mem_cons.1 hy with rfl | hy
        · exact g
        · exact h y hy
      · exact fun h y hy=>h y (List.mem_cons_of_mem _ hy)
def ch (H:Hs) (d i:Nat) (L:Prs):Prs:=L.filter (fun y=>decide (dgt (H.kd y.1) d = i))
theorem ch_mem {H:Hs} {d i:Nat} {L:Prs} (y:List Nat × List Nat):y∈ch H d i L↔y∈L∧dgt (H.kd y.1) d = i:=by simp [ch]
theorem Srt.ch {H:Hs} {L:Prs} (h:Srt H L) (d i:Nat):Srt H (ch H d i L):=h.filter _
theorem ch_ins {H:Hs} (d i:Nat) (k v:List Nat):∀ {L:Prs},Srt H L→ch H d i (insP H k v L) = if dgt (H.kd k) d = i then insP H k v (ch H d i L) else ch H d i L
  | [],_=>by
    simp only [insP,ch]
    by_cases g:dgt (H.kd k) d = i <;> simp [g,insP]
  | y :: L,h=>by
    have ht:=h.tail
    have hh:=h.head
    have ih:=ch_ins d i k v ht
    rw [xa2p]
    by_cases g1:kc H k y.1 < 0
    · rw [if_pos g1]
      have hlt:∀ x∈y :: L,kc H k x.1 < 0:=fun x hx=>by
        rcases List.mem_cons.1 hx with rfl | hx
        · exact g1
        · exact xa4h g1 (hh x hx)
      by_cases g:dgt (H.kd k) d = i
      · rw [if_pos g,ins_lt (fun x hx=>hlt x ((ch_mem x).1 hx).1)]
        unfold ch; rw [List.filter_cons]; simp [g]
      · rw [if_neg g]
        unfold ch; rw [List.filter_cons]; simp [g]
    · rw [if_neg g1]
      by_cases g2:kc H k y.1 = 0
      · rw [if_pos g2]
        have e:=xa7z g2
        by_cases g:dgt (H.kd k) d = i
        · rw [if_pos g]
          have h1:ch H d i (y :: L) = y :: ch H d i L:=by unfold ch; rw [List.filter_cons]; simp [← e,g]
          rw [h1]
          rw [xa2p,if_neg g1,if_pos g2]
          unfold ch; rw [List.filter_cons]; simp [g]
        · rw [if_neg g]
          unfold ch; rw [List.filter_cons,List.filter_cons]; simp [← e,g]
      · rw [if_neg g2]
        by_cases g3:dgt (H.kd y.1) d = i
        · have h1:∀ M:Prs,ch H d i (y :: M) = y :: ch H d i M:=fun M=>by unfold ch; rw [List.filter_cons]; simp [g3]
          rw [h1,h1,ih]
          by_cases g:dgt (H.kd k) d = i
          · rw [if_pos g,if_pos g,xa2p,if_neg g1,if_neg g2]
          · rw [if_neg g,if_neg g]
        · have h1:∀ M:Prs,ch H d i (y :: M) = ch H d i M:=fun M=>by unfold ch; rw [List.filter_cons]; simp [g3]
          rw [h1,h1,ih]
def bmk (p:Nat→Bool):Nat→Nat
  | 0=>0
  | k + 1=>if p k then bmk p k + 2 ^ k else bmk p k
theorem xb7z (p:Nat→Bool):∀ k j,(bmk p k).testBit j = (decide (j < k) && p j)
  | 0,j=>by simp [bmk]
  | k + 1,j=>by
    have ih:=xb7z p k
    unfold bmk
    by_cases h:p k = true
    · rw [if_pos h,xb3q (by rw [ih]; simp),ih]
      by_cases e:k = j
      · subst e; simp [h]
      · rw [decide_eq_false e,Bool.or_false,show decide (j < k + 1) = decide (j < k) by apply decide_eq_decide.2; omega]
    · rw [if_neg h,ih]
      by_cases e:k = j
      · subst e; simp [h]
      · rw [show decide (j < k + 1) = decide (j < k) by apply decide_eq_decide.2; omega]
theorem bmk_lt (p:Nat→Bool):∀ k,bmk p k < 2 ^ k
  | 0=>by simp [bmk]
  | k + 1=>by
    have ih:=bmk_lt p k
    unfold bmk; rw [Nat.pow_succ]; split <;> omega
theorem xa1k (b:Nat):∀ k,setB b k = (List.range k).filter (fun i=>b.testBit i)
  | 0=>rfl
  | k + 1=>by
    rw [List.range_succ,List.filter_append,← xa1k b k]
    unfold setB
    cases h:b.testBit k <;> simp [h,List.filter_cons]
    all_goals cases k <;> rfl
theorem xc2v {a b:Nat} (h:∀ j,a.testBit j = b.testBit j):a = b:=Nat.eq_of_testBit_eq h
def bm (H:Hs) (d:Nat) (L:Prs):Nat:=bmk (fun i=>!(ch H d i L).isEmpty) 16
def prs (H:Hs) (d:Nat) (L:Prs):List Nat:=setB (bm H d L) 16
theorem bm_lt (H:Hs) (d:Nat) (L:Prs):bm H d L < 65536:=bmk_lt _ 16
theorem bm_bit {H:Hs} {d:Nat} {L:Prs} {i:Nat} (h:i < 16):(bm H d L).testBit i = !(ch H d i L).isEmpty:=by
  unfold bm; rw [xb7z,decide_eq_true h]; rfl
theorem bm_ext {H:Hs} {d:Nat} {L:Prs} {b:Nat} (hb:b < 65536) (h:∀ i,i < 16→b.testBit i = !(ch H d i L).isEmpty):b = bm H d L:=by
  apply xc2v; intro j
  by_cases hj:j < 16
  · rw [h j hj,bm_bit hj]
  · rw [xb0m hb (by omega),xb0m (bm_lt _ _ _) (by omega)]
theorem xb8v {H:Hs} {d:Nat} {L:Prs} {i:Nat}:i∈prs H d L↔i < 16∧ch H d i L≠[]:=by
  unfold prs
  rw [xa5q]
  constructor
  · rintro ⟨h,g⟩; rw [bm_bit h] at g; exact ⟨h,by simpa using g⟩
  · rintro ⟨h,g⟩; exact ⟨h,by rw [bm_bit h]; simpa using g⟩
theorem prs_le (H:Hs) (d:Nat) (L:Prs):(prs H d L).length≤16:=cnt_le _ _
theorem prs_eq (H:Hs) (d:Nat) (L:Prs):prs H d L = (List.range 16).filter (fun i=>!(ch H d i L).isEmpty):=by
  unfold prs
  rw [xa1k]
  exact List.filter_congr (fun i hi=>bm_bit (by simpa using hi))
def sgl (H:Hs) (L:Prs):Bool:=L.all (fun y=>decide (H.kd y.1 = H.kd (L.headD ([],[])).1))
theorem xa1t {H:Hs} {L:Prs}:sgl H L = true↔∀ x∈L,∀ y∈L,H.kd x.1 = H.kd y.1:=by
  unfold sgl
  rw [List.all_eq_true]
  constructor
  · intro h x hx y hy
    have h1:=h x hx; have h2:=h y hy
    simp only [decide_eq_true_eq] at h1 h2
    rw [h1,h2]
  · intro h x hx
    cases L with
    | nil=>simp at hx
    | cons z L=>exact decide_eq_true (h x hx z (by simp))
theorem xb0k (H:Hs):sgl H [] = true:=rfl
def Pre (H:Hs) (d:Nat) (L:Prs):Prop:=∀ x∈L,∀ y∈L,∀ j,j < d→dgt (H.kd x.1) j = dgt (H.kd y.1) j
theorem dg_ext {a b:List Nat} (ha:Dg a) (hb:Dg b) (h:∀ j,j < 64→dgt a j = dgt b j):a = b:=by
  apply List.ext_getElem (by rw [ha.1,hb.1])
  intro i h1 h2
  have:=xa3l a i
  rw [h (2 * i) (by have:=ha.1; omega),h (2 * i + 1) (by have:=ha.1; omega),← xa3l b i] at this
  simpa [List.getD_eq_getElem?_getD,List.getElem?_eq_getElem h1,List.getElem?_eq_getElem h2] using this
theorem kd_ext {H:Hs} (hH:H.Ok) {a b:List Nat} (h:∀ j,j < 2 * H.wd→dgt (H.kd a) j = dgt (H.kd b) j):H.kd a = H.kd b :=
  dg_ext (hH.dg a) (hH.dg b) (fun j _=>by
    rcases Nat.lt_or_ge j (2 * H.wd) with g | g
    · exact h j g
    · rw [hH.far a j g,hH.far b j g])
theorem xb8a {H:Hs} (hH:H.Ok) {d:Nat} {L:Prs} (h:Pre H d L) (hd:2 * H.wd≤d):sgl H L = true :=
  xa1t.2 (fun x hx y hy=>kd_ext hH (fun j hj=>h x hx y hy j (by omega)))
theorem deep {H:Hs} (hH:H.Ok) {d:Nat} {L:Prs} (h:Pre H d L) (hs:sgl H L = false):d < 2 * H.wd:=by
  rcases Nat.lt_or_ge d (2 * H.wd) with g | g
  · exact g
  · rw [xb8a hH h g] at hs; cases hs
theorem dgk {H:Hs} (hH:H.Ok) (k:List Nat) (d:Nat):dgt (H.kd k) d < 16:=dgt_lt (hH.dg k).2 d
theorem ch_all {H:Hs} {d i:Nat} {L:Prs} (h:∀ y∈L,dgt (H.kd y.1) d = i):ch H d i L = L:=by
  unfold ch; rw [List.filter_eq_self]; intro y hy; simpa using h y hy
theorem xb2u {H:Hs} {d i:Nat} {L:Prs} (h:∀ y∈L,dgt (H.kd y.1) d≠i):ch H d i L = []:=by
  unfold ch; rw [List.filter_eq_nil_iff]; intro y hy; simpa using h y hy
theorem xb8s {H:Hs} (hH:H.Ok) {d i:Nat} {L:Prs} (h:∀ y∈L,dgt (H.kd y.1) d = i) (hn:L≠[]):prs H d L = [i]:=by
  have hi:i < 16:=by
    cases L with
    | nil=>exact absurd rfl hn
    | cons y L=>rw [← h y (by simp)]; exact dgk hH _ _
  rw [prs_eq]
  have e:∀ j∈List.range 16,(!(ch H d j L).isEmpty) = decide (j = i):=fun j _=>by
    by_cases g:j = i
    · subst g; rw [ch_all h]; cases L <;> simp at hn ⊢
    · rw [xb2u (fun y hy e=>g (by rw [← e]; exact h y hy)),decide_eq_false g]; rfl
  rw [List.filter_congr e]
  have:∀ i,i < 16→(List.range 16).filter (fun j=>decide (j = i)) = [i]:=by decide
  exact this i hi
theorem prs_ne {H:Hs} (hH:H.Ok) {d:Nat} {L:Prs} (hn:L≠[]):prs H d L≠[]:=by
  cases L with
  | nil=>exact absurd rfl hn
  | cons y L =>
    have:dgt (H.kd y.1) d∈prs H d (y :: L):=xb8v.2 ⟨dgk hH _ _,fun e=>by
      have:y∈ch H d (dgt (H.kd y.1) d) (y :: L):=(ch_mem y).2 ⟨by simp,rfl⟩
      rw [e] at this; simp at this⟩
    intro e; rw [e] at this; simp at this
theorem xc1g {H:Hs} (hH:H.Ok) {d i:Nat} {L:Prs} (h:prs H d L = [i]):∀ y∈L,dgt (H.kd y.1) d = i:=fun y hy=>by
  have:dgt (H.kd y.1) d∈prs H d L:=xb8v.2 ⟨dgk hH _ _,fun e=>by
    have h2:y∈ch H d (dgt (H.kd y.1) d) L:=(ch_mem y).2 ⟨hy,rfl⟩
    rw [e] at h2; simp at h2⟩
  rw [h] at this; simpa using this
theorem xc3q {H:Hs} (hH:H.Ok) {d:Nat} {L:Prs} (hn:L≠[]) (hs:sgl H L = true):∃ i,prs H d L = [i]∧ch H d i L = L:=by
  cases L with
  | nil=>exact absurd rfl hn
  | cons y L =>
    have h:∀ x∈y :: L,dgt (H.kd x.1) d = dgt (H.kd y.1) d:=fun x hx=>by rw [xa1t.1 hs x hx y (by simp)]
    exact ⟨_,xb8s hH h hn,ch_all h⟩
theorem xc3h {H:Hs} (hH:H.Ok) {d:Nat} {L:Prs} (hn:L≠[]) (h:(prs H d L).length≠1):sgl H L = false:=by
  cases hs:sgl H L with
  | false=>rfl
  | true=>obtain ⟨i,e,_⟩:=xc3q hH (d:=d) hn hs; rw [e] at h; exact absurd rfl h
theorem ch_sub {H:Hs} {d i:Nat} {L:Prs}:∀ x∈ch H d i L,x∈L:=fun x hx=>((ch_mem x).1 hx).1
def nodP (H:Hs):Nat→Prs→List Nat
  | 0,L=>H.hb L
  | f + 1,L=>if sgl H L then H.hb L else H.hr (bm H (63 - f) L) ((prs H (63 - f) L).map fun i=>nodP H f (ch H (63 - f) i L))
theorem xb4e {H:Hs} {f:Nat} {L:Prs} (h:sgl H L = true):nodP H f L = H.hb L:=by
  cases f with
  | zero=>rfl
  | succ f=>unfold nodP; rw [if_pos h]
theorem nod_br {H:Hs} {f:Nat} {L:Prs} (h:sgl H L = false):nodP H (f + 1) L = H.hr (bm H (63 - f) L) ((prs H (63 - f) L).map fun i=>nodP H f (ch H (63 - f) i L)):=by
  conv=>lhs; unfold nodP
  rw [if_neg (by rw [h]; decide)]
theorem xc0b {H:Hs} (hH:H.Ok) {x:List Nat × List Nat} {L:Prs} (h:Srt H (x :: L)) (he:H.kd x.1 = H.kd ((x :: L).getLast (by simp)).1):sgl H (x :: L) = true:=by
  have key:∀ y∈x :: L,H.kd y.1 = H.kd x.1:=by
    intro y hy
    rcases List.mem_cons.1 hy with rfl | hm
    · rfl
    · have h1:=kc_le (h.head y hm)
      have hl:y = (x :: L).getLast (by simp)∨kc H y.1 ((x :: L).getLast (by simp)).1 < 0:=by
        have hx:L≠[]:=by intro e; rw [e] at hm; simp at hm
        rw [List.getLast_cons hx]
        have ht:=h.tail
        rw [← List.dropLast_concat_getLast hx] at hm ht
        rcases List.mem_append.1 hm with g | g
        · right
          unfold Srt at ht
          rw [List.pairwise_append] at ht
          exact ht.2.2 y g _ (by simp)
        · left; simpa using g
      rcases hl with e | hlt
      · rw [e]; exact he.symm
      · have h2:=kc_le hlt
        rw [← he] at h2
        have h3:=xa3b (H.kd y.1) (H.kd x.1)
        exact xa1u (by omega)
  exact xa1t.2 (fun a ha b hb=>by rw [key a ha,key b hb])
def setR (b i:Nat):List Nat:=(List.range' (i + 1) (15 - i)).filter (fun j=>b.testBit j)
theorem xa2f (b:Nat) {i:Nat} (hi:i < 16):setB b 16 = setB b i++((if b.testBit i = true then [i] else [])++setR b i):=by
  rw [xa1k,xa1k,List.range_eq_range',List.range_eq_range',show (16:Nat) = i + (1 + (15 - i)) by omega,← List.range'_append,List.filter_append,← List.range'_append,List.filter_append]
  congr 1
  rw [show (0:Nat) + 1 * i = i by omega,show i + 1 * 1 = i + 1 by omega]
  congr 1
  cases h:b.testBit i <;> simp [List.range',h]
theorem xc2s {b i j:Nat} (h:j∈setB b i):j < i:=((xa5q b i j).1 h).1
theorem xc2w {b i j:Nat} (h:j∈setR b i):i < j:=by
  unfold setR at h; have:=(List.mem_range'.1 (List.mem_filter.1 h).1); obtain ⟨q,_,rfl⟩:=this; omega
theorem cnt_up (b i:Nat):cnt b (i + 1) = cnt b i + (if b.testBit i = true then [i] else []).length:=by
  rw [xa2v]; cases b.testBit i <;> rfl
theorem xc0d (b:Nat) {i:Nat} (hi:i < 16):(setB b 16).take (cnt b i) = setB b i:=by
  rw [xa2f b hi]; exact List.take_left
theorem xc0n (b:Nat) {i:Nat} (hi:i < 16):(setB b 16).drop (cnt b (i + 1)) = setR b i:=by
  rw [xa2f b hi,← List.append_assoc]
  rw [show cnt b (i + 1) = (setB b i++(if b.testBit i = true then [i] else [])).length by rw [List.length_append,cnt_up]; rfl]
  exact List.drop_left
theorem xc2f (b:Nat) {i:Nat} (hi:i < 16):cnt b i≤cnt b 16∧cnt b (i + 1)≤cnt b 16∧cnt b i≤cnt b (i + 1):=by
  have h:cnt b 16 = cnt b i + ((if b.testBit i = true then [i] else []).length + (setR b i).length):=by
    show (setB b 16).length = _
    rw [xa2f b hi,List.length_append,List.length_append]; rfl
  have hu:=cnt_up b i
  omega
theorem set_at (b:Nat) {i:Nat} (hi:i < 16) (h:b.testBit i = true):(setB b 16)[cnt b i]? = some i∧cnt b i < cnt b 16:=by
  have e:setB b 16 = setB b i++(i :: setR b i):=by rw [xa2f b hi,if_pos h]; rfl
  constructor
  · rw [e,show cnt b i = (setB b i).length from rfl,List.getElem?_append_right (Nat.le_refl _),Nat.sub_self]; rfl
  · show (setB b i).length < (setB b 16).length
    rw [e]; simp
theorem xb2z {b c:Nat}:∀ k,(∀ j,j < k→b.testBit j = c.testBit j)→setB b k = setB c k:=fun k h=>by
  rw [xa1k,xa1k]; exact List.filter_congr (fun j hj=>h j (by simpa using hj))
theorem xb3c {b c i:Nat} (h:∀ j,i < j→j < 16→b.testBit j = c.testBit j):setR b i = setR c i:=by
  unfold setR
  exact List.filter_congr (fun j hj=>by obtain ⟨q,hq,rfl⟩:=List.mem_range'.1 hj; exact h _ (by omega) (by omega))
theorem xc3i {H:Hs} {d i:Nat} {L L':Prs} (hi:i < 16) (h:∀ j,j < 16→j≠i→ch H d j L' = ch H d j L) :
    bm H d L' = if (ch H d i L').isEmpty then outB (bm H d L) (i:Int) else withB (bm H d L) (i:Int):=by
  symm
  apply bm_ext
  · split
    · exact xb8j _ _ (bm_lt _ _ _)
    · exact xa3g _ _ (bm_lt _ _ _)
  · intro j hj
    by_cases e:i = j
    · subst e
      cases hc:(ch H d i L').isEmpty
      · rw [if_neg (by decide),xa2r _ _ _ (by omega)]; simp
      · rw [if_pos rfl,xb5u _ _ _ (by omega)]; simp
    · rw [h j hj (fun g=>e g.symm)]
      cases hc:(ch H d i L').isEmpty
      · rw [if_neg (by decide),xa2r _ _ _ (by omega),bm_bit hj]; simp [e]
      · rw [if_pos rfl,xb5u _ _ _ (by omega),bm_bit hj]; simp [e]
def kidsL (H:Hs) (d:Nat) (L:Prs):List Prs:=(prs H d L).map fun j=>ch H d j L
theorem xa1a (H:Hs) (d:Nat) (L:Prs):(kidsL H d L).length = cnt (bm H d L) 16:=by unfold kidsL; rw [List.length_map]; rfl
theorem xb6p {H:Hs} {d i:Nat} {L L':Prs} (hi:i < 16) (h:∀ j,j < 16→j≠i→ch H d j L' = ch H d j L) :
    kidsL H d L' = (kidsL H d L).take (cnt (bm H d L) i)++((if (ch H d i L').isEmpty then [] else [ch H d i L'])++(kidsL H d L).drop (cnt (bm H d L) (i + 1))):=by
  have hb:∀ j,j < 16→j≠i→(bm H d L').testBit j = (bm H d L).testBit j:=fun j hj hn=>by rw [bm_bit hj,bm_bit hj,h j hj hn]
  unfold kidsL
  rw [← List.map_take,← List.map_drop]
  unfold prs
  rw [xc0d _ hi,xc0n _ hi,xa2f (bm H d L') hi,List.map_append,List.map_append]
  rw [xb2z i (fun j hj=>hb j (by omega) (by omega)),xb3c (fun j h1 h2=>hb j h2 (by omega)),bm_bit hi]
  congr 1
  · exact List.map_congr_left (fun j hj=>by have:=xc2s hj; exact h j (by omega) (by omega))
  congr 1
  · cases (ch H d i L').isEmpty <;> rfl
  · exact List.map_congr_left (fun j hj=>by
      have h1:=xc2w hj
      have h2:j < 16:=by unfold setR at hj; obtain ⟨q,hq,rfl⟩:=List.mem_range'.1 (List.mem_filter.1 hj).1; omega
      exact h j h2 (by omega))
theorem kid_at {H:Hs} {d i:Nat} {L:Prs} (hi:i < 16) (h:(bm H d L).testBit i = true):(kidsL H d L)[cnt (bm H d L) i]? = some (ch H d i L):=by
  unfold kidsL prs
  rw [List.getElem?_map,(set_at _ hi h).1]; rfl
def On (H:Hs) (d:Nat) (k:List Nat) (L:Prs):Prop:=∀ x∈L,∀ j,j < d→dgt (H.kd x.1) j = dgt (H.kd k) j
theorem On.zero (H:Hs) (k:List Nat) (L:Prs):On H 0 k L:=fun _ _ j h=>by omega
theorem On.pre {H:Hs} {d:Nat} {k:List Nat} {L:Prs} (h:On H d k L):Pre H d L:=fun x hx y hy j hj=>by rw [h x hx j hj,h y hy j hj]
theorem On.ch {H:Hs} {d:Nat} {k:List Nat} {L:Prs} (h:On H d k L):On H (d + 1) k (ch H d (dgt (H.kd k) d) L):=fun x hx j hj=>by
  obtain ⟨h1,h2⟩:=(ch_mem x).1 hx
  rcases Nat.lt_or_ge j d with g | g
  · exact h x h1 j g
  · rw [show j = d by omega,h2]
theorem ins_ne {H:Hs} {k v:List Nat}:∀ {L:Prs},insP H k v L≠[]
  | []=>by simp [insP]
  | y :: L=>by rw [xa2p]; split <;> (try split) <;> simp
theorem get_ch {H:Hs} {d:Nat} {k:List Nat}:∀ (L:Prs),getP k (ch H d (dgt (H.kd k) d) L) = getP k L
  | []=>rfl
  | y :: L=>by
    have ih:=get_ch (H:=H) (d:=d) (k:=k) L
    unfold ch at ih ⊢
    rw [List.filter_cons]
    by_cases g:y.1 = k
    · rw [if_pos (by simp [g])]; simp [getP,g]
    · split
      · simp only [getP,if_neg g]; exact ih
      · simp only [getP,if_neg g]; exact ih
theorem xb3w {H:Hs} {d:Nat} {k v:List Nat} {L:Prs} (hs:Srt H L):∀ j,j < 16→j≠dgt (H.kd k) d→ch H d j (insP H k v L) = ch H d j L:=fun j _ hn=>by
  rw [ch_ins d j k v hs,if_neg (fun e=>hn e.symm)]
theorem put_in {H:Hs} {d:Nat} {k v:List Nat} {L:Prs} (hs:Srt H L):ch H d (dgt (H.kd k) d) (insP H k v L) = insP H k v (ch H d (dgt (H.kd k) d) L):=by
  rw [ch_ins d _ k v hs,if_pos rfl]
def plc (k:List Nat):Prs→Nat
  | []=>0
  | y :: L=>if ordL y.1 k < 0 then plc k L + 1 else 0
def fnd (k:List Nat) (L:Prs):Bool:=decide ((getP k L).isSome)
theorem plc_le (k:List Nat):∀ L:Prs,plc k L≤L.length
  | []=>Nat.le_refl _
  | y :: L=>by unfold plc; have:=plc_le k L; split <;> simp <;> omega
theorem plc_lt (k:List Nat):∀ (L:Prs) (i:Nat),i < plc k L→ordL (L.getD i ([],[])).1 k < 0
  | [],i,h=>by simp [plc] at h
  | y :: L,i,h=>by
    unfold plc at h
    split at h
    · rename_i g
      cases i with
      | zero=>exact g
      | succ i=>rw [List.getD_cons_succ]; exact plc_lt k L i (by omega)
    · omega
def Rise (L:Prs):Prop:=L.Pairwise (fun x y=>ordL x.1 y.1 < 0)
theorem xa6p {H:Hs} {L:Prs} (h:Srt H L) (hs:sgl H L = true):Rise L:=by
  unfold Srt at h
  refine List.Pairwise.imp_of_mem (fun {x y} hx hy hlt=>?_) h
  rwa [xb9c (xa1t.1 hs x hx y hy)] at hlt
theorem plc_ge {k:List Nat}:∀ {L:Prs},Rise L→∀ i,plc k L≤i→i < L.length→0≤ordL (L.getD i ([],[])).1 k
  | [],_,i,_,h=>by simp at h
  | y :: L,hr,i,h,hl=>by
    have hh:=(List.pairwise_cons.1 hr).1
    have ht:Rise L:=(List.pairwise_cons.1 hr).2
    unfold plc at h
    by_cases g:ordL y.1 k < 0
    · rw [if_pos g] at h
      cases i with
      | zero=>omega
      | succ i=>rw [List.getD_cons_succ]; exact plc_ge ht i (by omega) (by simpa using hl)
    · cases i with
      | zero=>rw [List.getD_cons_zero]; omega
      | succ i =>
        rw [List.getD_cons_succ]
        have hi:i < L.length:=by simpa using hl
        have h1:=hh _ (List.getElem_mem hi)
        rw [List.getD_eq_getElem?_getD,List.getElem?_eq_getElem hi,Option.getD_some]
        rcases Int.lt_or_le (ordL L[i].1 k) 0 with q | q
        · have:=xa5w h1 q; omega
        · exact q
theorem fnd_at {k:List Nat}:∀ {L:Prs},Rise L→(fnd k L = true↔plc k L < L.length∧(L.getD (plc k L) ([],[])).1 = k)
  | [],_=>by simp [fnd,getP,plc]
  | y :: L,hr=>by
    have hh:=(List.pairwise_cons.1 hr).1
    have ih:=fnd_at (k:=k) (L:=L) (List.pairwise_cons.1 hr).2
    unfold fnd at ih ⊢
    by_cases e:y.1 = k
    · have h0:¬ ordL y.1 k < 0:=by rw [e,xa1b]; omega
      simp [getP,plc,e,xa1b]
    · unfold getP plc
      rw [if_neg e]
      by_cases g:ordL y.1 k < 0
      · rw [if_pos g,ih]; simp
      · rw [if_neg g]
        simp only [List.getD_cons_zero,List.length_cons,Nat.zero_lt_succ,true_and]
        constructor
        · intro h
          exfalso
          simp only [decide_eq_true_eq] at h
          cases hg:getP k L with
          | none=>rw [hg] at h; cases h
          | some v =>
            have hm:∃ z∈L,z.1 = k:=Classical.byContradiction (fun hn=>by
              rw [xa9b.2 (fun z hz e2=>hn ⟨z,hz,e2⟩)] at hg; cases hg)
            obtain ⟨z,hz,ez⟩:=hm
            have:=hh z hz
            rw [ez] at this
            exact g this
        · intro h; exact absurd h e
theorem xb8m {H:Hs} {k v:List Nat}:∀ {L:Prs},Rise L→(∀ y∈L,H.kd y.1 = H.kd k)→insP H k v L = L.take (plc k L)++(k,v) :: L.drop (plc k L + if fnd k L = true then 1 else 0)
  | [],_,_=>rfl
  | y :: L,hr,he=>by
    have hh:=(List.pairwise_cons.1 hr).1
    have ht:Rise L:=(List.pairwise_cons.1 hr).2
    have hy:=he y (by simp)
    have ih:=xb8m (v:=v) ht (fun z hz=>he z (by simp [hz]))
    have hf:=fnd_at (k:=k) hr
    rw [xa2p,xb9c hy.symm]
    have ha:=xa3b k y.1
    by_cases g:ordL y.1 k < 0
    · rw [if_neg (by omega),if_neg (by omega)]
      have hne:¬ y.1 = k:=fun e=>by rw [e,xa1b] at g; omega
      have h1:fnd k (y :: L) = fnd k L:=by unfold fnd; rw [xa6r,if_neg hne]
      have h2:plc k (y :: L) = plc k L + 1:=by (conv=>lhs; unfold plc); rw [if_pos g]
      rw [h1,h2,ih]
      rw [List.take_succ_cons,show plc k L + 1 + (if fnd k L = true then 1 else 0) = (plc k L + if fnd k L = true then 1 else 0) + 1 by omega,List.drop_succ_cons]; rfl
    · have h2:plc k (y :: L) = 0:=by unfold plc; rw [if_neg g]
      rw [h2] at hf ⊢
      by_cases e:y.1 = k
      · rw [if_neg (by rw [e,xa1b]; omega),if_pos (by rw [e,xa1b])]
        rw [if_pos (hf.2 ⟨by simp,e⟩)]; rfl
      · have hz:ordL k y.1≠0:=fun q=>e (xa1u q).symm
        rw [if_pos (by omega)]
        have h3:fnd k (y :: L) = false:=by
          cases hq:fnd k (y :: L) with
          | false=>rfl
          | true=>exact absurd (hf.1 hq).2 e
        rw [h3]; rfl
structure Fork (H:Hs) (part:Nat) (k v:List Nat) (A:Prs) (DA:List Nat):Prop where
  srt:Srt H A
  ne:A≠[]
  all:∀ y∈A,H.kd y.1 = DA
  dga:Dg DA
  pre:∀ j,j < part→dgt DA j = dgt (H.kd k) j
  pne:dgt DA part≠dgt (H.kd k) part
  deep:part < 2 * H.wd
theorem Fork.kd {H:Hs} {part:Nat} {k v:List Nat} {A:Prs} {DA:List Nat} (h:Fork H part k v A DA):DA≠H.kd k:=fun e=>h.pne (by rw [e])
theorem Fork.two {H:Hs} {part:Nat} {k v:List Nat} {A:Prs} {DA:List Nat} (h:Fork H part k v A DA):sgl H (insP H k v A) = false:=by
  cases hs:sgl H (insP H k v A) with
  | false=>rfl
  | true =>
    exfalso
    obtain ⟨y,hy⟩:∃ y,y∈A:=by cases hA:A with
      | nil=>exact absurd hA h.ne
      | cons y _=>exact ⟨y,by simp⟩
    have h1:y∈insP H k v A:=(xa3v h.srt y).2 (Or.inr ⟨hy,fun e=>h.kd (by rw [← e]; exact (h.all y hy).symm)⟩)
    have h2:(k,v)∈insP H k v A:=(xa3v h.srt _).2 (Or.inl rfl)
    have:=xa1t.1 hs y h1 (k,v) h2
    exact h.kd (by rw [← h.all y hy]; exact this)
theorem Fork.dig {H:Hs} {part:Nat} {k v:List Nat} {A:Prs} {DA:List Nat} (h:Fork H part k v A DA) {e:Nat} (he:e < part):∀ y∈insP H k v A,dgt (H.kd y.1) e = dgt DA e:=fun y hy=>by
  rcases (xa3v h.srt y).1 hy with rfl | ⟨hm,_⟩
  · exact (h.pre e he).symm
  · rw [h.all y hm]
theorem Fork.on {H:Hs} {part:Nat} {k v:List Nat} {A:Prs} {DA:List Nat} (h:Fork H part k v A DA) {e:Nat} (he:e≤part):Pre H e (insP H k v A):=fun x hx y hy j hj=>by
  rw [h.dig (by omega) x hx,h.dig (by omega) y hy]
theorem Fork.chs {H:Hs} {part:Nat} {k v:List Nat} {A:Prs} {DA:List Nat} (h:Fork H part k v A DA) (j:Nat):ch H part j (insP H k v A) = if j = dgt DA part then A else if j = dgt (H.kd k) part then [(k,v)] else []:=by
  rw [ch_ins part j k v h.srt]
  have hp:=h.pne
  by_cases g1:j = dgt DA part
  · rw [if_pos g1,if_neg (by omega)]
    exact ch_all (fun y hy=>by rw [h.all y hy,g1])
  · have hn:ch H part j A = []:=xb2u (fun y hy e=>g1 (by rw [← e,h.all y hy]))
    rw [if_neg g1,hn]
    by_cases g2:j = dgt (H.kd k) part
    · rw [if_pos g2.symm,if_pos g2]; rfl
    · rw [if_neg (fun e=>g2 e.symm),if_neg g2]
theorem two_of:∀ x,x < 16→∀ y,y < 16→x < y→(List.range 16).filter (fun j=>decide (j = x) || decide (j = y)) = [x,y]:=by decide
theorem Fork.kids {H:Hs} (hH:H.Ok) {part:Nat} {k v:List Nat} {A:Prs} {DA:List Nat} (h:Fork H part k v A DA) :
    kidsL H part (insP H k v A) = if dgt DA part < dgt (H.kd k) part then [A,[(k,v)]] else [[(k,v)],A]:=by
  have hx:dgt DA part < 16:=dgt_lt h.dga.2 _
  have hy:=dgk hH k part
  have hp:=h.pne
  have hne:=h.ne
  have e:prs H part (insP H k v A) = (List.range 16).filter (fun j=>decide (j = dgt DA part) || decide (j = dgt (H.kd k) part)):=by
    rw [prs_eq]
    refine List.filter_congr (fun j _=>?_)
    rw [h.chs]
    by_cases g1:j = dgt DA part
    · rw [if_pos g1,decide_eq_true g1]; cases A <;> simp at hne ⊢
    · rw [if_neg g1,decide_eq_false g1]
      by_cases g2:j = dgt (H.kd k) part
      · rw [if_pos g2,decide_eq_true g2]; rfl
      · rw [if_neg g2,decide_eq_false g2]; rfl
  unfold kidsL
  rw [e]
  by_cases g:dgt DA part < dgt (H.kd k) part
  · rw [two_of _ hx _ hy g,if_pos g]
    simp only [List.map_cons,List.map_nil]
    rw [h.chs,h.chs,if_pos rfl,if_neg (by omega),if_pos rfl]
  · have:(List.range 16).filter (fun j=>decide (j = dgt DA part) || decide (j = dgt (H.kd k) part)) = [dgt (H.kd k) part,dgt DA part]:=by
      rw [← two_of _ hy _ hx (by omega)]
      exact List.filter_congr (fun j _=>Bool.or_comm _ _)
    rw [this,if_neg g]
    simp only [List.map_cons,List.map_nil]
    rw [h.chs,h.chs,if_pos rfl,if_neg (by omega),if_pos rfl]
theorem Fork.bms {H:Hs} (hH:H.Ok) {part:Nat} {k v:List Nat} {A:Prs} {DA:List Nat} (h:Fork H part k v A DA) (x y:Nat) (hxy:(x = dgt DA part∧y = dgt (H.kd k) part)∨(y = dgt DA part∧x = dgt (H.kd k) part)) :
    withB (withB 0 (x:Int)) (y:Int) = bm H part (insP H k v A):=by
  have h1:dgt DA part < 16:=dgt_lt h.dga.2 _
  have h2:=dgk hH k part
  have hne:=h.ne
  apply bm_ext (xa3g _ _ (xa3g _ _ (by decide)))
  intro j hj
  rw [xa2r _ _ _ (by omega),xa2r _ _ _ (by omega),h.chs]
  by_cases g1:j = dgt DA part
  · rw [if_pos g1]
    rcases hxy with ⟨rfl,rfl⟩ | ⟨rfl,rfl⟩ <;> (cases A <;> simp [g1] at hne ⊢)
  · rw [if_neg g1]
    by_cases g2:j = dgt (H.kd k) part
    · rw [if_pos g2]; rcases hxy with ⟨rfl,rfl⟩ | ⟨rfl,rfl⟩ <;> simp [g2]
    · rw [if_neg g2]; rcases hxy with ⟨rfl,rfl⟩ | ⟨rfl,rfl⟩ <;> simp [Ne.symm g1,Ne.symm g2]
theorem xc2d (x:Nat) (hx:x < 16):(withB 0 (x:Int)).testBit x = true∧∀ j,j < 16→(withB 0 (x:Int)).testBit j = decide (x = j):=by
  constructor
  · rw [xa2r _ _ _ (by omega)]; simp
  · intro j _; rw [xa2r _ _ _ (by omega)]; simp
theorem one_bm {H:Hs} {d x:Nat} {L:Prs} (hx:x < 16) (hn:L≠[]) (h:∀ y∈L,dgt (H.kd y.1) d = x):withB 0 (x:Int) = bm H d L:=by
  apply bm_ext (xa3g _ _ (by decide))
  intro j hj
  rw [(xc2d x hx).2 j hj]
  by_cases g:x = j
  · subst g; rw [ch_all h]; cases L <;> simp at hn ⊢
  · rw [xb2u (fun y hy e=>g (by rw [← e]; exact (h y hy).symm)),decide_eq_false g]; rfl
theorem xc1c {H:Hs} (hH:H.Ok) {d x:Nat} {L:Prs} (hn:L≠[]) (h:∀ y∈L,dgt (H.kd y.1) d = x):kidsL H d L = [L]:=by
  unfold kidsL; rw [xb8s hH h hn]; simp [ch_all h]
section
open Go.RowKit Go.BigFrame
theorem xb7j {x:Nat} (hx:x < 65536):ones x = cnt x 16:=by
  have h:∀ y,y < 256→ones y = cnt y 8:=fun y hy=>by
    have h1:Lib.pop8 (y:Int) = (ones y:Int):=Lib.pop8_eq ⟨y,hy⟩
    rw [xb4n hy] at h1; omega
  rw [xa4s x hx,xb0r,h _ (by omega),h _ (by omega)]
def hsZ (k:Nat):Hs:=⟨k,fun p=>sumD (k:Int) (2 :: p),fun ps=>sumD (k:Int) (buckB ps),fun x ds=>sumD (k:Int) (branchB (k:Int) x ds)⟩
theorem wide_k {k:Nat} (hk:1≤k∧k≤32):widthB (k:Int) = true:=by unfold widthB; rw [decide_eq_true (by omega)]
theorem hsZ_ok {k:Nat} (hk:1≤k∧k≤32):(hsZ k).Ok:=⟨hk.1,hk.2,fun _=>xa1h _ _,fun p j hj=>by
  show dgt (sumD (k:Int) (2 :: p)) j = 0
  have hj':2 * k≤j:=hj
  rw [xa3a hk]
  have h0:(cutL k (hash (2 :: p))).getD (j / 2) 0 = 0:=by
    unfold cutL
    rw [List.getD_eq_getElem?_getD,List.getElem?_append_right (by simp; omega),List.getElem?_replicate]
    split <;> rfl
  unfold dgt
  rw [h0]; simp⟩
theorem xb0b {k:Nat} (hk:1≤k∧k≤32) (q:List Nat):formB (k:Int) ((hsZ k).kd q) = true:=xa2d (wide_k hk) _
theorem xa8r {k:Nat} (hk:1≤k∧k≤32) (f:Nat) (L:Prs):formB (k:Int) (nodP (hsZ k) f L) = true:=by
  cases f with
  | zero=>exact xa2d (wide_k hk) _
  | succ f=>unfold nodP; split <;> exact xa2d (wide_k hk) _
theorem nod_dg (k f:Nat) (L:Prs):Dg (nodP (hsZ k) f L):=by
  cases f with
  | zero=>exact xa1h _ _
  | succ f=>unfold nodP; split <;> exact xa1h _ _
theorem xb3y {k:Nat} (hk:1≤k∧k≤32) {ds:List (List Nat)} (h:∀ d∈ds,formB (k:Int) d = true):formedE (k:Int) ds = 0:=by
  unfold formedE
  rw [if_neg (by simp [wide_k hk]),if_pos (List.all_eq_true.2 h)]
theorem xb8u {k:Nat} (hk:1≤k∧k≤32) {x:Nat} (hx:x < 65536) {ds:List (List Nat)} (h:∀ d∈ds,formB (k:Int) d = true) (hc:cnt x 16 = ds.length) (hn:ds≠[]):branchE (k:Int) x ds = 0:=by
  unfold branchE
  rw [if_pos (xb3y hk h),xb7j hx,hc,if_neg]
  rintro (h1 | h1)
  · subst h1
    have h2:cnt 0 16 = 0:=by decide
    rw [h2] at hc
    cases ds with
    | nil=>exact hn rfl
    | cons d ds=>simp at hc
  · exact h1 rfl
def Agr (S:Nat→Prop) (W W':World):Prop:=W.heap.size≤W'.heap.size∧∀ x,S x→x < W.heap.size→W'.heap[x]? = W.heap[x]?
theorem Agr.refl (S:Nat→Prop) (W:World):Agr S W W:=⟨Nat.le_refl _,fun _ _ _=>rfl⟩
theorem Agr.trans {S:Nat→Prop} {a b c:World} (h:Agr S a b) (k:Agr S b c):Agr S a c :=
  ⟨Nat.le_trans h.1 k.1,fun x hx hl=>(k.2 x hx (Nat.lt_of_lt_of_le hl h.1)).trans (h.2 x hx hl)⟩
theorem Agr.kept {S:Nat→Prop} {M:List Nat} {W W':World} (k:Kept M W W') (h:∀ x∈M,¬ S x):Agr S W W' :=
  ⟨k.size,fun x hx hl=>k.block x hl (fun hm=>h x hm hx)⟩
theorem Agr.nil {S:Nat→Prop} {W W':World} (k:Kept [] W W'):Agr S W W':=Agr.kept k (by simp)
theorem Agr.sub {S T:Nat→Prop} {W W':World} (h:Agr S W W') (hs:∀ x,T x→S x):Agr T W W':=⟨h.1,fun x hx hl=>h.2 x (hs x hx) hl⟩
theorem Agr.heap {S:Nat→Prop} {W W':World} (h:Agr S W W') {b:Nat} {o:Obj} (hb:W.heap[b]? = some o) (hs:S b):W'.heap[b]? = some o :=
  (h.2 b hs (lt_of_block hb)).trans hb
theorem Agr.cell {S:Nat→Prop} {W W':World} (h:Agr S W W') {a:Addr} {v:Value} (hc:W.cell? a = some v) (hs:S a.block):W'.cell? a = some v :=
  (World.cell?_of_block (h.2 a.block hs (block_lt_of_cell hc))).trans hc
def Sty (S:Nat→Prop) (W:World) (P:World→Prop):Prop:=∀ W',Agr S W W'→P W'
theorem Sty.now {S:Nat→Prop} {W:World} {P:World→Prop} (h:Sty S W P):P W:=h W (Agr.refl S W)
theorem Sty.agr {S:Nat→Prop} {W W':World} {P:World→Prop} (h:Sty S W P) (a:Agr S W W'):Sty S W' P:=fun w k=>h w (a.trans k)
theorem Sty.rd {S:Nat→Prop} {W:World} {v:Value} {bs:List Nat} (h:Rd W v bs) (hs:∀ x∈blk v,S x):Sty S W (fun w=>Rd w v bs):=fun w k=>by
  obtain ⟨ao,len,cap,rfl,h1,h2,h3,h4,h5,h6⟩:=h
  refine ⟨ao,len,cap,rfl,h1,h2,h3,h4,h5,fun hp=>?_⟩
  obtain ⟨b,off,rfl,hc⟩:=h6 hp
  exact ⟨b,off,rfl,fun i hi=>k.cell (hc i hi) (hs b (by simp [blk]))⟩
def SRow (S:Nat→Prop) (W:World) (v:Value) (vs:List Value):Prop :=
  ∃ b off cap,v = .slice (some ⟨b,off,none⟩) vs.length cap∧vs.length≤cap∧cap≤9223372036854775807∧S b∧∀ i,i < vs.length→W.cell? ⟨b,off + i,none⟩ = some (vs.getD i undef)
theorem SRow.agr {S:Nat→Prop} {W W':World} {v:Value} {vs:List Value} (h:SRow S W v vs) (a:Agr S W W'):SRow S W' v vs:=by
  obtain ⟨b,off,cap,h1,h2,h3,h4,h5⟩:=h
  exact ⟨b,off,cap,h1,h2,h3,h4,fun i hi=>a.cell (h5 i hi) h4⟩
def KRow (S:Nat→Prop) (W:World) (pv:Value) (L:Prs):Prop :=
  ∃ (b off cap:Nat) (l:List (Value × Value)),pv = .slice (some ⟨b,off,none⟩) l.length cap∧l.length≤cap∧cap≤9223372036854775807∧S b∧l.length = L.length ∧
    (∀ i,i < l.length→W.cell? ⟨b,off + i * 2,none⟩ = some (l.getD i (undef,undef)).1∧W.cell? ⟨b,off + i * 2 + 1,none⟩ = some (l.getD i (undef,undef)).2) ∧
    ∀ i,i < l.length→Sty S W (fun w=>Rd w (l.getD i (undef,undef)).1 (L.getD i ([],[])).1∧Rd w (l.getD i (undef,undef)).2 (L.getD i ([],[])).2)
theorem KRow.agr {S:Nat→Prop} {W W':World} {pv:Value} {L:Prs} (h:KRow S W pv L) (a:Agr S W W'):KRow S W' pv L:=by
  obtain ⟨b,off,cap,l,h1,h2,h3,h4,h5,h6,h7⟩:=h
  exact ⟨b,off,cap,l,h1,h2,h3,h4,h5,fun i hi=>⟨a.cell (h6 i hi).1 h4,a.cell (h6 i hi).2 h4⟩,fun i hi=>(h7 i hi).agr a⟩
theorem KRow.rdK {S:Nat→Prop} {W:World} {pv:Value} {L:Prs} (h:KRow S W pv L):RdK W pv L:=by
  obtain ⟨b,off,cap,l,h1,h2,h3,h4,h5,h6,h7⟩:=h
  have e1:∀ i,i < l.length→(l.map (·.1)).getD i undef = (l.getD i (undef,undef)).1∧(l.map (·.2)).getD i undef = (l.getD i (undef,undef)).2:=fun i hi=>by
    simp [List.getD_eq_getElem?_getD,List.getElem?_eq_getElem hi]
  refine ⟨_,l.length,cap,l.map (·.1),l.map (·.2),h1,h5.symm,h2,h3,fun i hi=>?_,fun _=>⟨b,off,rfl,fun i hi=>?_⟩⟩
  · rw [(e1 i hi).1,(e1 i hi).2]; exact (h7 i hi).now
  · rw [(e1 i hi).1,(e1 i hi).2]; exact h6 i hi
def bkC (D:List Nat) (pv:Value) (O:List Nat):List Value:=D.map u8++([pv]++(O.map u8++[]))
def brC (x:Nat) (kv:Value) (O:List Nat):List Value:=[.int .u16 (x:Int),kv]++(O.map u8++[])
def BkAt (S:Nat→Prop) (H:Hs) (W:World) (g:Nat) (L:Prs):Prop :=
  ∃ pv,S g∧W.heap[g]? = some (.cells (bkC (H.kd (L.headD ([],[])).1) pv (H.hb L)).toArray 93 (0,0))∧L≠[]∧KRow S W pv L
abbrev bkV (g:Nat):Value:=.iface 86 (.pointer (some ⟨g,0,none⟩))
abbrev brV (g:Nat):Value:=.iface 104 (.pointer (some ⟨g,0,none⟩))
theorem BkAt.agr {S:Nat→Prop} {H:Hs} {W W':World} {g:Nat} {L:Prs} (h:BkAt S H W g L) (a:Agr S W W'):BkAt S H W' g L:=by
  obtain ⟨pv,h1,h2,h3,h4⟩:=h
  exact ⟨pv,h1,a.heap h2 h1,h3,h4.agr a⟩
def TreeAt (S:Nat→Prop) (H:Hs) (W:World):Nat→Value→Prs→Prop
  | 0,v,L=>sgl H L = true∧∃ g,v = bkV g∧BkAt S H W g L
  | f + 1,v,L=>(sgl H L = true→∃ g,v = bkV g∧BkAt S H W g L)∧(sgl H L = false→∃ g kv vs,v = brV g∧S g∧W.heap[g]? = some (.cells (brC (bm H (63 - f) L) kv (nodP H (f + 1) L)).toArray 107 (0,0)) ∧
      SRow S W kv vs∧vs.length = (kidsL H (63 - f) L).length∧∀ i,i < vs.length→TreeAt S H W f (vs.getD i undef) ((kidsL H (63 - f) L).getD i []))
theorem TreeAt.agr {S:Nat→Prop} {H:Hs} {W W':World} (a:Agr S W W'):∀ {f:Nat} {v:Value} {L:Prs},TreeAt S H W f v L→TreeAt S H W' f v L
  | 0,v,L,h=>by
    obtain ⟨hs,g,h1,h2⟩:=h
    exact ⟨hs,g,h1,h2.agr a⟩
  | f + 1,v,L,h=>by
    refine ⟨fun hs=>?_,fun hs=>?_⟩
    · obtain ⟨g,h1,h2⟩:=h.1 hs
      exact ⟨g,h1,h2.agr a⟩
    · obtain ⟨g,kv,vs,h1,h2,h3,h4,h5,h6⟩:=h.2 hs
      exact ⟨g,kv,vs,h1,h2,a.heap h3 h2,h4.agr a,h5,fun i hi=>(h6 i hi).agr a⟩
theorem TreeAt.bk {S:Nat→Prop} {H:Hs} {W:World} {f:Nat} {v:Value} {L:Prs} (h:TreeAt S H W f v L) (hs:sgl H L = true):∃ g,v = bkV g∧BkAt S H W g L:=by
  cases f with
  | zero=>exact h.2
  | succ f=>exact h.1 hs
theorem TreeAt.ofBk {S:Nat→Prop} {H:Hs} {W:World} (f:Nat) {g:Nat} {L:Prs} (h:BkAt S H W g L) (hs:sgl H L = true):TreeAt S H W f (bkV g) L:=by
  cases f with
  | zero=>exact ⟨hs,g,rfl,h⟩
  | succ f=>exact ⟨fun _=>⟨g,rfl,h⟩,fun hn=>by rw [hs] at hn; cases hn⟩
theorem TreeAt.ne {S:Nat→Prop} {H:Hs} {W:World} {f:Nat} {v:Value} {L:Prs} (h:TreeAt S H W f v L):L≠[]:=by
  intro e
  subst e
  obtain ⟨g,_,pv,_,_,hn,_⟩:=h.bk (xb0k H)
  exact hn rfl
def TopAt (S:Nat→Prop) (H:Hs) (W:World) (v:Value) (L:Prs):Prop:=(L = []∧v = .nilIface)∨TreeAt S H W 64 v L
theorem TopAt.agr {S:Nat→Prop} {H:Hs} {W W':World} {v:Value} {L:Prs} (h:TopAt S H W v L) (a:Agr S W W'):TopAt S H W' v L:=by
  rcases h with h | h
  · exact Or.inl h
  · exact Or.inr (h.agr a)
def Fit (L:Prs):Prop:=∀ p∈L,p.1.length≤64∧p.2.length≤256
theorem Fit.sub {L M:Prs} (h:Fit L) (hs:∀ x∈M,x∈L):Fit M:=fun p hp=>h p (hs p hp)
structure MapAt (S:Nat→Prop) (k:Nat) (W:World) (v:Value) (L:Prs):Prop where
  ok:1≤k∧k≤32
  srt:Srt (hsZ k) L
  fit:Fit L
  len:L.length≤1000000000
  at_:∃ g tv,v = .pointer (some ⟨g,0,none⟩)∧S g∧W.heap[g]? = some (.cells #[.int .i64 k,.int .i64 (L.length:Nat),tv] 102 (0,0))∧TopAt S (hsZ k) W tv L
theorem MapAt.agr {S:Nat→Prop} {k:Nat} {W W':World} {v:Value} {L:Prs} (h:MapAt S k W v L) (a:Agr S W W'):MapAt S k W' v L:=by
  obtain ⟨h1,h2,h3,h4,g,tv,h5,h6,h7,h8⟩:=h
  exact ⟨h1,h2,h3,h4,g,tv,h5,h6,a.heap h7 h6,h8.agr a⟩
theorem xc0x {place:Nat→Option (Nat × Nat)} {A:Array Value} {i off:Nat} {vs:List Value} {rest:List (Nat × Value)} (hp:place i = some (off,vs.length)) (h:off + vs.length≤A.size) :
    Instr.fill place A ((i,.agg vs.toArray) :: rest) = Instr.fill place (A.toList.take off++(vs++A.toList.drop (off + vs.length))).toArray rest:=by
  conv=>lhs; unfold Instr.fill
  rw [hp]
  have h1:(Value.agg vs.toArray).cells = vs.toArray:=rfl
  simp only [h1,List.size_toArray]
  rw [if_neg (by simp; omega)]
  have h2:=xa5s vs A off 0 (by omega)
  rw [Nat.add_zero] at h2
  have h3:vs.toArray.zipIdx.foldl (fun cs x=>cs.setIfInBounds (off + x.2) x.1) A = (vs.zipIdx 0).foldl (fun cs x=>cs.setIfInBounds (off + x.2) x.1) A:=by simp
  rw [← h2,← h3]
theorem xa1e {place:Nat→Option (Nat × Nat)} {i n:Nat} {rest:List (Nat × Value)} (pre mid post vs:List Value) {X:Value} (hX:X.cells = vs.toArray) (hp:place i = some (pre.length,n)) (hn:vs.length = n) (hm:mid.length = n) :
    Instr.fill place (pre++(mid++post)).toArray ((i,X) :: rest) = Instr.fill place (pre++(vs++post)).toArray rest:=by
  have e:Instr.fill place (pre++(mid++post)).toArray ((i,X) :: rest) = Instr.fill place (pre++(mid++post)).toArray ((i,.agg vs.toArray) :: rest):=by
    have h1:(Value.agg vs.toArray).cells = vs.toArray:=rfl
    conv=>lhs; unfold Instr.fill
    conv=>rhs; unfold Instr.fill
    rw [hX,h1]
  subst hn
  rw [e,xc0x hp (by rw [List.size_toArray,List.length_append,List.length_append,hm]; omega)]
  rw [List.take_left,← List.append_assoc pre mid post,show pre.length + vs.length = (pre++mid).length by rw [List.length_append,hm],List.drop_left]
theorem zbk:(Tryz.prog.info? 93).map (fun i=>(i.zero,i.size)) = some (some (.agg (bkC (List.replicate 32 0) (.slice none 0 0) (List.replicate 32 0)).toArray),65):=by kernel_rfl
theorem zbr:(Tryz.prog.info? 107).map (fun i=>(i.zero,i.size)) = some (some (.agg (brC 0 (.slice none 0 0) (List.replicate 32 0)).toArray),34):=by kernel_rfl
theorem fbk:∀ fs,Tryz.prog.underlying 93 = some (.struct fs)→fs.toList.mapM (fun f=>(Tryz.prog.info? f.type).map fun i=>(f.offset,i.size)) = some [(0,32),(32,1),(33,32)]:=by
  intro fs hfs
  rw [Tryz.underlying93] at hfs
  injection hfs with hfs
  injection hfs with hfs
  subst hfs
  kernel_rfl
theorem fbr:∀ fs,Tryz.prog.underlying 107 = some (.struct fs)→fs.toList.mapM (fun f=>(Tryz.prog.info? f.type).map fun i=>(f.offset,i.size)) = some [(0,1),(1,1),(2,32)]:=by
  intro fs hfs
  rw [Tryz.underlying107] at hfs
  injection hfs with hfs
  injection hfs with hfs
  subst hfs
  kernel_rfl
theorem xb9l (D O:List Nat) (ao:Option Addr) (n c:Nat) (hD:D.length = 32) (hO:O.length = 32):Tryz.prog.built 93 [(0,.agg (brow D)),(1,.slice ao n c),(2,.agg (brow O))] = some (bkC D (.slice ao n c) O).toArray:=by
  have hz:=zbk
  obtain ⟨it,hit⟩:∃ it,Tryz.prog.info? 93 = some it:=by
    cases h:Tryz.prog.info? 93 with
    | none=>rw [h] at hz; cases hz
    | some it=>exact ⟨it,rfl⟩
  rw [hit] at hz
  simp only [Option.map_some,Option.some.injEq,Prod.mk.injEq] at hz
  obtain ⟨fs,hfs⟩:∃ fs,Tryz.prog.underlying 93 = some (.struct fs):=⟨_,Tryz.underlying93⟩
  have hpl:=fbk fs hfs
  unfold Program.built
  rw [hit,hfs]
  simp only [hz.1,hpl,Value.cells]
  have z1:(List.replicate 32 0:List Nat).length = 32:=List.length_replicate
  generalize (List.replicate 32 0:List Nat) = z at z1 ⊢
  unfold bkC
  have s1:=xa1e (place:=([(0,32),(32,1),(33,32)].toArray[·]?)) (i:=0) (n:=32) (rest:=[(1,.slice ao n c),(2,.agg (brow O))]) [] (z.map u8) ([.slice none 0 0]++(z.map u8++[])) (D.map u8) (X:=.agg (brow D)) rfl rfl (by rw [List.length_map,hD]) (by rw [List.length_map,z1])
  have s2:=xa1e (place:=([(0,32),(32,1),(33,32)].toArray[·]?)) (i:=1) (n:=1) (rest:=[(2,.agg (brow O))]) (D.map u8) [.slice none 0 0] (z.map u8++[]) [.slice ao n c] (X:=.slice ao n c) rfl (by rw [List.length_map,hD]; rfl) rfl rfl
  have s3:=xa1e (place:=([(0,32),(32,1),(33,32)].toArray[·]?)) (i:=2) (n:=32) (rest:=[]) (D.map u8++[.slice ao n c]) (z.map u8) [] (O.map u8) (X:=.agg (brow O)) rfl (by rw [List.length_append,List.length_map,hD]; rfl) (by rw [List.length_map,hO]) (by rw [List.length_map,z1])
  rw [List.nil_append] at s1
  rw [List.append_assoc,List.append_assoc] at s3
  rw [s1,List.nil_append,s2,s3]
  rfl
theorem xc0l (x:Nat) (O:List Nat) (ao:Option Addr) (n c:Nat) (hO:O.length = 32):Tryz.prog.built 107 [(0,.int .u16 (x:Int)),(1,.slice ao n c),(2,.agg (brow O))] = some (brC x (.slice ao n c) O).toArray:=by
  have hz:=zbr
  obtain ⟨it,hit⟩:∃ it,Tryz.prog.info? 107 = some it:=by
    cases h:Tryz.prog.info? 107 with
    | none=>rw [h] at hz; cases hz
    | some it=>exact ⟨it,rfl⟩
  rw [hit] at hz
  simp only [Option.map_some,Option.some.injEq,Prod.mk.injEq] at hz
  obtain ⟨fs,hfs⟩:∃ fs,Tryz.prog.underlying 107 = some (.struct fs):=⟨_,Tryz.underlying107⟩
  have hpl:=fbr fs hfs
  unfold Program.built
  rw [hit,hfs]
  simp only [hz.1,hpl,Value.cells]
  have z1:(List.replicate 32 0:List Nat).length = 32:=List.length_replicate
  generalize (List.replicate 32 0:List Nat) = z at z1 ⊢
  unfold brC
  have s1:=xa1e (place:=([(0,1),(1,1),(2,32)].toArray[·]?)) (i:=0) (n:=1) (rest:=[(1,.slice ao n c),(2,.agg (brow O))]) [] [.int .u16 ((0:Nat):Int)] ([.slice none 0 0]++(z.map u8++[])) [.int .u16 (x:Int)] (X:=.int .u16 (x:Int)) rfl rfl rfl rfl
  have s2:=xa1e (place:=([(0,1),(1,1),(2,32)].toArray[·]?)) (i:=1) (n:=1) (rest:=[(2,.agg (brow O))]) [.int .u16 (x:Int)] [.slice none 0 0] (z.map u8++[]) [.slice ao n c] (X:=.slice ao n c) rfl rfl rfl rfl
  have s3:=xa1e (place:=([(0,1),(1,1),(2,32)].toArray[·]?)) (i:=2) (n:=32) (rest:=[]) [.int .u16 (x:Int),.slice ao n c] (z.map u8) [] (O.map u8) (X:=.agg (brow O)) rfl rfl (by rw [List.length_map,hO]) (by rw [List.length_map,z1])
  exact s1.trans (s2.trans s3)
theorem xa0l {w:World} {g n:Nat} {t:TypeId} {fr:Nat × Nat} (a b c:List Value) (h:w.heap[g]? = some (.cells (a++(b++c)).toArray t fr)) (hn:a.length = n):w.rangeAt g n b:=by
  subst hn
  intro j v hv
  have hj:=(List.getElem?_eq_some_iff.1 hv).1
  rw [cell_of_row w g _ _ t fr h,List.getElem?_toArray,List.getElem?_append_right (by omega),Nat.add_sub_cancel_left,List.getElem?_append_left hj,hv]
theorem bk_row {W:World} {g:Nat} {D O:List Nat} {pv:Value} {t:TypeId} (h:W.heap[g]? = some (.cells (bkC D pv O).toArray t (0,0))) (hD:D.length = 32):W.rangeAt g 0 (D.map u8)∧W.cell? ⟨g,32,none⟩ = some pv∧W.rangeAt g 33 (O.map u8):=by
  refine ⟨xa0l [] _ _ (by rw [List.nil_append]; exact h) rfl,?_,?_⟩
  · rw [cell_of_row _ _ _ _ _ _ h,List.getElem?_toArray]
    unfold bkC
    rw [List.getElem?_append_right (by simp [hD])]
    simp [hD]
  · have:=xa0l (w:=W) (g:=g) (n:=33) (t:=t) (fr:=(0,0)) (D.map u8++[pv]) (O.map u8) [] (by rw [List.append_assoc]; exact h) (by simp [hD])
    exact this
theorem br_row {W:World} {g:Nat} {x:Nat} {O:List Nat} {kv:Value} {t:TypeId} (h:W.heap[g]? = some (.cells (brC x kv O).toArray t (0,0))):W.cell? ⟨g,0,none⟩ = some (.int .u16 (x:Int))∧W.cell? ⟨g,1,none⟩ = some kv∧W.rangeAt g 2 (O.map u8):=by
  refine ⟨?_,?_,xa0l [.int .u16 (x:Int),kv] _ _ h rfl⟩
  · rw [cell_of_row _ _ _ _ _ _ h,List.getElem?_toArray]; rfl
  · rw [cell_of_row _ _ _ _ _ _ h,List.getElem?_toArray]; rfl
def flatD (ds:List (List Nat)):List Value:=(ds.map fun d=>d.map u8).flatten
theorem xa2a {ds:List (List Nat)} (h:∀ d∈ds,d.length = 32):(flatD ds).length = ds.length * 32:=by
  induction ds with
  | nil=>rfl
  | cons d r ih =>
    have:=ih (fun x hx=>h x (by simp [hx]))
    simp only [flatD,List.map_cons,List.flatten_cons,List.length_append,List.length_map,List.length_cons] at this ⊢
    rw [this,h d (by simp)]; omega
theorem xa4a (a b:List (List Nat)):flatD (a++b) = flatD a++flatD b:=by simp [flatD]
theorem xa6k (ds:List (List Nat)):∀ v∈flatD ds,v.oneCell' = true:=by
  intro v hv
  simp only [flatD,List.mem_flatten,List.mem_map] at hv
  obtain ⟨l,⟨d,_,rfl⟩,h⟩:=hv
  exact xa1m d v h
theorem xa6e {ds:List (List Nat)} (h:∀ d∈ds,d.length = 32):∀ (i:Nat),i < ds.length→∀ j,j < 32→(flatD ds)[i * 32 + j]? = ((ds.getD i []).map u8)[j]?:=by
  induction ds with
  | nil=>intro i hi; simp at hi
  | cons d r ih =>
    intro i hi j hj
    have hd:=h d (by simp)
    have e:flatD (d :: r) = d.map u8++flatD r:=by simp [flatD]
    rw [e]
    cases i with
    | zero =>
      rw [Nat.zero_mul,Nat.zero_add,List.getElem?_append_left (by simp [hd]; exact hj)]; rfl
    | succ i =>
      rw [List.getElem?_append_right (by simp [hd]; omega),List.length_map,hd,show (i + 1) * 32 + j - 32 = i * 32 + j by omega,ih (fun x hx=>h x (by simp [hx])) i (by simpa using hi) j hj]
      rfl
theorem xa2i {L:List Nat} {w0:World} (b:Nat) (hb:b∈L∨w0.heap.size≤b):∀ (vs:List Value) (o:Nat) (w:World),Kept L w0 w→Kept L w0 (w.setCells b o vs)
  | [],_,_,h=>h
  | v :: r,o,w,h=>by rw [World.setCells]; exact xa2i b hb r (o + 1) _ (h.setCell hb v)
theorem xb6l {w:World} {b:Nat} {t:TypeId} {cs:List Value} (h:w.heap[b]? = some (.cells cs.toArray t (0,0))) {o n:Nat} (hl:o + n≤cs.length):w.there b o n:=fun j hj =>
  ⟨by rw [cell_of_row _ _ _ _ _ _ h,List.getElem?_toArray,List.getElem?_eq_getElem (by omega)]; rfl,frozen_of_row _ _ _ _ _ h⟩
theorem xa2u (b:Nat) (t:TypeId):∀ (vs pre mid post:List Value) (w:World),mid.length = vs.length→w.heap[b]? = some (.cells (pre++(mid++post)).toArray t (0,0))→(w.setCells b pre.length vs).heap[b]? = some (.cells (pre++(vs++post)).toArray t (0,0))
  | [],pre,mid,post,w,hl,h=>by
    have:mid = []:=List.eq_nil_of_length_eq_zero (by simpa using hl)
    subst this; exact h
  | v :: r,pre,mid,post,w,hl,h=>by
    obtain ⟨x,mid,rfl⟩:∃ x q,mid = x :: q:=by cases mid with | nil=>simp at hl | cons x q=>exact ⟨x,q,rfl⟩
    rw [World.setCells]
    have h1:=heap_setCell_same w b pre.length _ t v h
    have e1:(pre++(x :: mid++post)).toArray.setIfInBounds pre.length v = ((pre++[v])++(mid++post)).toArray:=by simp
    rw [e1] at h1
    have h2:=xa2u b t r (pre++[v]) mid post _ (by simpa using hl) h1
    rw [List.length_append,List.length_cons,List.length_nil,List.append_assoc] at h2
    simpa using h2
theorem xb5o {W:World} {g i n:Nat} {t:TypeId} {ds:List (List Nat)} {O:List Nat} (h:W.heap[g]? = some (.cells (flatD (ds.take i)++List.replicate ((n - i) * 32) (u8 0)).toArray t (0,0))) (hi:i < n) (hn:ds.length = n) (hd:∀ d∈ds,d.length = 32) (hO:ds.getD i [] = O) :
    W.there g (i * 32) 32∧(W.setCells g (i * 32) (O.map u8)).heap[g]? = some (.cells (flatD (ds.take (i + 1))++List.replicate ((n - (i + 1)) * 32) (u8 0)).toArray t (0,0)):=by
  have hpl:(flatD (ds.take i)).length = i * 32:=by
    rw [xa2a (fun d hm=>hd d (List.mem_of_mem_take hm)),List.length_take,Nat.min_eq_left (by omega)]
  have hsp:List.replicate ((n - i) * 32) (u8 0) = List.replicate 32 (u8 0)++List.replicate ((n - (i + 1)) * 32) (u8 0):=by
    rw [List.replicate_append_replicate]; congr 1; omega
  have hOm:O∈ds:=by
    rw [← hO,List.getD_eq_getElem?_getD,List.getElem?_eq_getElem (by omega)]; exact List.getElem_mem _
  have hOl:=hd O hOm
  have hnx:flatD (ds.take (i + 1)) = flatD (ds.take i)++O.map u8:=by
    rw [List.take_succ_eq_append_getElem (by omega),xa4a]
    congr 1
    rw [← hO,List.getD_eq_getElem?_getD,List.getElem?_eq_getElem (by omega)]
    simp [flatD]
  rw [hsp] at h
  refine ⟨xb6l h (by rw [List.length_append,List.length_append,hpl,List.length_replicate]; omega),?_⟩
  have:=xa2u g t (O.map u8) (flatD (ds.take i)) (List.replicate 32 (u8 0)) (List.replicate ((n - (i + 1)) * 32) (u8 0)) W (by rw [List.length_replicate,List.length_map,hOl]) h
  rw [hpl] at this
  rw [this,hnx,List.append_assoc]
theorem RdD.nlP {w:World} {ao:Option Addr} {len cap:Nat} {ds:List (List Nat)} (h:RdD w (.slice ao len cap) ds):ds.length = len:=by
  obtain ⟨_,_,_,e,h1,_⟩:=h
  cases e; exact h1
theorem RdD.news {w:World} {b off n c:Nat} {ds:List (List Nat)} (h:RdD w (.slice (some ⟨b,off,none⟩) n c) ds):∀ j u,(flatD ds)[j]? = some u→w.cell? ((⟨b,off,none⟩:Addr).add j) = some u:=by
  obtain ⟨ao',len',cap',e,h1,h2,h3,h4,h5⟩:=h
  cases e
  intro j u hu
  have hl:=xa2a (fun d hd=>(h4 d hd).1)
  have hj:=(List.getElem?_eq_some_iff.1 hu).1
  have hp:0 < n:=by
    rcases Nat.eq_zero_or_pos n with h0 | h0
    · rw [hl,h1,h0] at hj; omega
    · exact h0
  obtain ⟨b',off',e,hc⟩:=h5 hp
  cases e
  have hi:j / 32 < ds.length:=by omega
  have hq:=xa6e (fun d hd=>(h4 d hd).1) (j / 32) hi (j % 32) (Nat.mod_lt _ (by decide))
  rw [show j / 32 * 32 + j % 32 = j by omega,hu] at hq
  have:=hc (j / 32) (by omega) (j % 32) u hq.symm
  rw [Addr.add_mid]
  rw [show off + j / 32 * 32 + j % 32 = off + j by omega] at this
  exact this
theorem xc1e {w:World} {base:Nat} {v:Value} {ds:List (List Nat)} (h:w.ownsRow base 50 32 v ds.length (flatD ds)) (hd:∀ d∈ds,Dg d):RdD w v ds:=by
  rcases h.2 with ⟨rfl,h0⟩ | ⟨g,cap,cur,rfl,_,hg,h1,h2,h3,h4⟩
  · exact ⟨none,0,0,rfl,h0,Nat.le_refl _,by omega,hd,fun h=>by omega⟩
  · refine ⟨_,ds.length,cap,rfl,rfl,h1,by unfold maxLen at h2; omega,hd,fun hp=>⟨g,0,rfl,fun i hi j v hv=>?_⟩⟩
    have hj:j < 32:=by
      have:=(List.getElem?_eq_some_iff.1 hv).1
      rw [List.length_map,List.getD_eq_getElem?_getD,List.getElem?_eq_getElem hi] at this
      rw [← (hd ds[i] (List.getElem_mem hi)).1]; exact this
    have hq:=xa6e (fun d hd'=>(hd d hd').1) i hi j hj
    rw [Nat.zero_add,cell_of_row _ _ _ _ _ _ hg,← hv,← hq,← h4,List.getElem?_take_of_lt (by omega),Array.getElem?_toList]
theorem Tryz.infoD:(Tryz.prog.info? 50).map (fun i=>(i.zero,i.size,i.bytes)) = some (some (.agg (zb 32)),32,32):=by kernel_rfl
theorem xa3z {w:World} {base:Nat} {e:TypeId} {size n:Nat} {v:Value} {xs:List Value} (h:w.ownsRow base e size v n xs):∃ ao cap,v = .slice ao n cap:=by
  rcases h.2 with ⟨rfl,rfl⟩ | ⟨g,cap,cur,rfl,_⟩
  · exact ⟨none,0,rfl⟩
  · exact ⟨_,cap,rfl⟩
theorem xb1n {P:Program} {w:World} (base:Nat) (t ty e:TypeId) (i:TypeInfo) (size c:Nat) (ht:P.underlying t = some (.slice e)) (hi:P.info? e = some i)
    (v:Value) (n:Nat) (xs:List Value) (hown:w.ownsRow base e size v n xs) :
    (Builtin.append_ #[t,t] ty #[v,.slice none 0 c]).run P w = .ok v w:=by
  rcases hown.2 with ⟨rfl,rfl⟩ | ⟨g,cap,cur,rfl,_,_,hnc,_⟩
  · simp [Builtin.append_,run_underlying ht,sizeOf,typeInfo,hi,Builtin.lenOf,Builtin.firstCells]
  · simp [Builtin.append_,run_underlying ht,sizeOf,typeInfo,hi,Builtin.lenOf,Builtin.firstCells,hnc,storeCells]
theorem appendD (w:World) (base:Nat) (v:Value) (ds ps:List (List Nat)) (ao:Option Addr) (n c:Nat) (h:w.ownsRow base 50 32 v ds.length (flatD ds)) (hr:RdD w (.slice ao n c) ps) (hl:ds.length + ps.length≤1000000000000) (hb:base≤w.heap.size) :
    ∃ ao' cap' w1,(Builtin.append_ #[62,62] 62 #[v,.slice ao n c]).run Tryz.prog w = .ok (.slice ao' (ds.length + ps.length) cap') w1 ∧
      w1.ownsRow base 50 32 (.slice ao' (ds.length + ps.length) cap') (ds++ps).length (flatD (ds++ps))∧w.grownBy w1 v.ownBlock:=by
  obtain ⟨i0,hi,hz0,hz1,hz2⟩:=info_parts Tryz.infoD
  have hn:=hr.nlP
  have hdg:∀ d∈ps,d.length = 32:=fun d hd=>(hr.dg hd).1
  rw [xa4a,List.length_append]
  by_cases h0:n = 0
  · subst h0
    have hp:ps = []:=List.eq_nil_of_length_eq_zero hn
    subst hp
    cases ao with
    | none =>
      have hrun:=xb1n (P:=Tryz.prog) (w:=w) base 62 62 50 i0 32 c Tryz.underlying62 hi v ds.length (flatD ds) h
      obtain ⟨ao',cap',rfl⟩:=xa3z h
      exact ⟨ao',cap',w,hrun,by simpa [flatD] using h,World.grownBy.refl _ _⟩
    | some ad =>
      obtain ⟨v',w1,hrun,hown,hgrow,_,hat⟩:=run_append_own_at (P:=Tryz.prog) w base 62 62 50 i0 (.agg (zb 32)) 32 32 Tryz.underlying62 hi hz0 hz1 hz2 (by show (zb 32).size = 32; exact xa0d 32) (by decide)
        v ds.length (flatD ds) h ad 0 c (flatD []) (by simp [flatD]) (by intro j u hj; simp [flatD] at hj) (xa6k _) (by unfold maxLen; omega) (by omega) hb
      obtain ⟨ao',cap',rfl⟩:=xa3z hown
      exact ⟨ao',cap',w1,hrun,hown,hgrow⟩
  · have hr':=hr
    obtain ⟨ao1,n1,c1,he,h1,h2,h3,h4,h5⟩:=hr'
    cases he
    obtain ⟨b,off,rfl,hc⟩:=h5 (by omega)
    obtain ⟨v',w1,hrun,hown,hgrow,_,hat⟩:=run_append_own_at (P:=Tryz.prog) w base 62 62 50 i0 (.agg (zb 32)) 32 32 Tryz.underlying62 hi hz0 hz1 hz2 (by show (zb 32).size = 32; exact xa0d 32) (by decide)
      v ds.length (flatD ds) h ⟨b,off,none⟩ n c (flatD ps) (by rw [xa2a hdg,hn]) hr.news (xa6k _) (by unfold maxLen; omega) (by omega) hb
    subst h1
    obtain ⟨ao',cap',rfl⟩:=xa3z hown
    exact ⟨ao',cap',w1,hrun,hown,hgrow⟩
theorem xa6o {ops:Array Oper} {rest:List Oper} {o:Oper} {a:Act} {Q:Exit→Act→World→Prop} (hgd:o.guard = none) (s x:Operand)
    (ho:o.op = .call { callee:=.builtin .append,args:=#[s,x],argTypes:=#[62,62] }) (hty:o.type = 62)
    (w:World) (base:Nat) (v:Value) (ds ps:List (List Nat)) (ao:Option Addr) (n c:Nat) (h:w.ownsRow base 50 32 v ds.length (flatD ds)) (hr:RdD w (.slice ao n c) ps) (hl:ds.length + ps.length≤1000000000000) (hb:base≤w.heap.size)
    (hs:a.eval s = v) (hx:a.eval x = .slice ao n c)
    (hK:∀ ao' cap' w1,Hid (w1.ownsRow base 50 32 (.slice ao' (ds.length + ps.length) cap') (ds++ps).length (flatD (ds++ps)))→Hid (w.grownBy w1 v.ownBlock) →
      wpList Tryz.prog ops Q rest (a.put o.dst (.slice ao' (ds.length + ps.length) cap')) w1) :
    wpList Tryz.prog ops Q (o :: rest) a w:=by
  obtain ⟨ao',cap',w1,hrun,h2,h3⟩:=appendD w base v ds ps ao n c h hr hl hb
  refine wpList_plain hgd fun K hK'=>?_
  unfold Oper.wp execOp
  simp only [ho,hty,resolve,invoke,builtin,Sem.run_bind,Sem.run_pure,Result.andThen_ok,List.map_toArray,List.map_cons,List.map_nil,hs,hx,hrun]
  exact hK' _ _ (hK ao' cap' w1 h2 h3)
end

section
open Go.RowKit Go.BigFrame
def keyS (z:Int) (key:List Nat):List Nat:=sumD z (2 :: key)
def hfE (z:Int) (key:List Nat) (known:List (List Nat)) (ss:List (Nat × List (List Nat))):Nat :=
  if widthB z = false then 1 else if 64 < key.length then 2 else if known.all (formB z) && ss.all (fun s=>s.2.all (formB z)) then 0 else 3
def fitS (b n:Nat) (c:Int) (t:Bool):Bool:=decide (b≠0) && ((hasB b c == t) && decide (cnt b 16 = n + (if t then 1 else 0)))
def risB (ps:List (List Nat × List Nat)):Nat→Bool
  | 0=>true
  | i + 1=>risB ps i && (decide ((ps.getD i ([],[])).1.length≤64) && (decide ((ps.getD i ([],[])).2.length≤256) && (decide (i = 0) || decide (ordL (ps.getD (i - 1) ([],[])).1 (ps.getD i ([],[])).1 < 0))))
def hanB (z:Int) (ks:List Nat) (n:Nat) (ps:List (List Nat × List Nat)):Bool :=
  (ps.drop 1).all (fun p=>decide (keyS z p.1 = keyS z (ps.getD 0 ([],[])).1)) && decide (n≤comC z (keyS z (ps.getD 0 ([],[])).1) ks)
def fitsB (z:Int) (ks:List Nat) (ss:List (Nat × List (List Nat))) (m:Nat):Nat→Bool
  | 0=>true
  | i + 1=>fitsB z ks ss m i && fitS (ss.getD i (0,[])).1 (ss.getD i (0,[])).2.length (atC z ks i) (decide (i + 1 < ss.length) || decide (0 < m))
def provB (z:Int) (ks:List Nat) (ss:List (Nat × List (List Nat))) (ps:List (List Nat × List Nat)):Bool :=
  decide (ss.length≤2 * z.toNat) && (fitsB z ks ss ps.length ss.length &&
    (decide (ps.length = 0) || ((decide (ss.length = 0) || decide (cnt (ss.getD (ss.length - 1) (0,[])).1 16≠1)) && (risB ps ps.length && hanB z ks ss.length ps))))
def valH (key:List Nat):List (List Nat × List Nat)→Option (List Nat)
  | []=>none
  | p :: r=>if p.1 = key then some p.2 else valH key r
def brD (z:Int) (x:Nat) (ds:List (List Nat)):List Nat:=sunD (branchE z x ds) z (branchB z x ds)
def cliD (z:Int) (ks:List Nat) (ss:List (Nat × List (List Nat))):Nat→List Nat→List Nat
  | 0,d=>d
  | k + 1,d=>cliD z ks ss k (brD z (ss.getD k (0,[])).1 ((ss.getD k (0,[])).2.take (rankB (ss.getD k (0,[])).1 (atC z ks k))++d :: (ss.getD k (0,[])).2.drop (rankB (ss.getD k (0,[])).1 (atC z ks k))))
def footD (z:Int) (ss:List (Nat × List (List Nat))) (ps:List (List Nat × List Nat)):List Nat :=
  if 0 < ps.length then sumD z (buckB ps) else if ss.length = 0 then sumD z [5] else brD z (ss.getD (ss.length - 1) (0,[])).1 (ss.getD (ss.length - 1) (0,[])).2
def footN (ss:List (Nat × List (List Nat))) (ps:List (List Nat × List Nat)):Nat:=if 0 < ps.length then ss.length else ss.length - 1
def rooD (z:Int) (key:List Nat) (ss:List (Nat × List (List Nat))) (ps:List (List Nat × List Nat)):List Nat:=cliD z (keyS z key) ss (footN ss ps) (footD z ss ps)
theorem xb4w (z:Int) (key:List Nat):Dg (keyS z key):=⟨xa0h _ _,by
  unfold keyS sumD
  split
  · exact xa6b _ _ (xa3y _)
  · intro x hx; simp at hx; omega⟩
set_option maxHeartbeats 1000000 in
theorem xc0h (n:Nat) (w:World) (hn:n≤1000000000000) :
    Calls Tryz.prog 105 #[.slice none 0 0,.int .i64 n] w fun e w'=>∃ v',e = .returned v'∧w'.ownsRow w.heap.size 50 32 v' 0 []∧Kept [] w w':=by
  go_enter Tryz.func105,Tryz.ntmps105
  by_cases h0:n = 0
  · subst h0
    go_wp2
    go_ret
    exact ⟨_,rfl,⟨rfl,Or.inl ⟨rfl,rfl⟩⟩,Kept.refl _ _⟩
  · have h0':(0:Int) < n:=by omega
    have hbt:Tryz.t50.bytes = 32:=rfl
    have hns:¬ 281474976710656 < Builtin.nextslicecap n 0 * Tryz.t50.bytes:=by
      rw [hbt]; unfold Builtin.nextslicecap; rw [if_pos (by omega)]; omega
    have hmul:(n:Int) * ((Tryz.t50.bytes:Nat):Int)≤281474976710656:=by rw [hbt]; omega
    have hm0:¬ n * 32 = 0:=by omega
    clear hbt
    go_wp2_with fail
    have hg1:=grownCap_ge w n 0 50
    have hg2:=grownCap_le_maxLen w n 0 50 (by unfold maxLen; omega)
    unfold grownCap at hg1 hg2
    generalize (Question.appendCap n 0 50).cut (w.tape w.drawn (Question.appendCap n 0 50)) = cap at hg1 hg2 ⊢
    go_ret
    refine ⟨_,rfl,World.ownsRow_made w _ cap (Nat.le_refl _) hg2 ?_,((Kept.refl [] w).alloc _).drew⟩
    rw [Array.size_append,size_zeroCells,size_zeroCells]
    simp
    omega
def RdM (w:World) (v:Value) (L:List (List (List Nat))):Prop :=
  ∃ (ao:Option Addr) (len cap:Nat) (vs:List Value),v = .slice ao len cap∧L.length = len∧len≤cap∧cap≤9223372036854775807∧(∀ i,i < len→RdD w (vs.getD i undef) (L.getD i [])) ∧
    (0 < len→∃ b off,ao = some ⟨b,off,none⟩∧∀ i,i < len→w.cell? ⟨b,off + i,none⟩ = some (vs.getD i undef))
theorem RdM.cells {w:World} {ao:Option Addr} {len cap:Nat} {L:List (List (List Nat))} (h:RdM w (.slice ao len cap) L):L.length = len∧len≤cap∧cap≤9223372036854775807 ∧
    ∀ i,i < len→∃ b off u,ao = some ⟨b,off,none⟩∧w.cell? ⟨b,off + i,none⟩ = some u∧RdD w u (L.getD i []):=by
  obtain ⟨ao',len',cap',vs,he,h1,h2,h3,h4,h5⟩:=h
  cases he
  refine ⟨h1,h2,h3,fun i hi=>?_⟩
  obtain ⟨b,off,rfl,hc⟩:=h5 (by omega)
  exact ⟨b,off,_,rfl,hc i hi,h4 i hi⟩
theorem xb0j (L:List (List (List Nat))) (i:Nat) (h:i < L.length):(L.take (i + 1)).flatten = (L.take i).flatten++L.getD i []:=by
  rw [List.take_succ_eq_append_getElem h,List.flatten_append,List.getD_eq_getElem?_getD,List.getElem?_eq_getElem h]
  simp
theorem xb4l (L:List (List (List Nat))) (i:Nat):(L.take i).flatten.length≤L.flatten.length:=by
  have h:=congrArg List.length (congrArg List.flatten (List.take_append_drop i L))
  rw [List.flatten_append,List.length_append] at h
  omega
theorem xc2u {L:List (List (List Nat))} (h:∀ l∈L,∀ d∈l,Dg d):∀ d∈L.flatten,Dg d:=by
  intro d hd
  obtain ⟨l,hl,hdl⟩:=List.mem_flatten.1 hd
  exact h l hl d hdl
set_option maxHeartbeats 1000000 in
theorem xb4h (v:Value) (L:List (List (List Nat))) (w:World) (h:RdM w v L) (hl:L.flatten.length≤1000000000000) :
    Calls Tryz.prog 78 #[v] w fun e w'=>∃ v',e = .returned v'∧RdD w' v' L.flatten∧Kept [] w w':=by
  obtain ⟨ao,n,c,_,rfl,_⟩:=id h
  obtain ⟨h1,h2,h3,h4⟩:=h.cells
  have HDG:=hide (by
    intro l hl' d hd
    obtain ⟨j,hj,rfl⟩:=List.getElem_of_mem hl'
    obtain ⟨_,_,u,_,_,r⟩:=h4 j (by omega)
    rw [List.getD_eq_getElem?_getD,List.getElem?_eq_getElem hj] at r
    exact r.dg hd:∀ l∈L,∀ d∈l,Dg d)
  have H4:=hide h4
  clear h4 h
  subst h1
  go_enter Tryz.func78,Tryz.ntmps78
  go_wp2_with fail
  go_loopw [3,11] (fun t3 t11 wr=>∃ (i:Nat),i≤L.length∧t11 = .int .i64 i∧t3 = .int .i64 (((L.take i).flatten.length:Nat):Int)∧Hid (wr = w)) (fun _ t _=>L.length - (intOf t).toNat)
  case atStart=>exact ⟨0,Nat.zero_le _,rfl,rfl,hide rfl⟩
  case round =>
    obtain ⟨i,hi,rfl,rfl,HWR⟩:=hrel
    by_cases hlt:i < L.length
    · have hlt':(i:Int) < L.length:=by omega
      obtain ⟨b,o,u,rfl,c1,r1⟩:=uh H4 i hlt
      have q1:wr.cell? ⟨b,o + i,none⟩ = some u:=by rw [uh HWR]; exact c1
      have HFT:=hide (xb0j L i hlt)
      have HLE:=hide (xb4l L (i + 1))
      rw [uh HFT] at HLE
      clear c1
      generalize L.getD i [] = li at r1 HFT HLE
      obtain ⟨a8,m8,c8,rfl,hm8,_⟩:=id r1
      subst hm8
      clear r1
      obtain ⟨S,hS⟩:∃ S,(L.take i).flatten.length = S:=⟨_,rfl⟩
      have HNX:=hide (by rw [uh HFT,List.length_append,hS]:(L.take (i + 1)).flatten.length = S + li.length)
      have hsb:S + li.length≤1000000000000:=by have h9:=uh HLE; rw [List.length_append,hS] at h9; omega
      rw [hS]
      clear hS HLE HFT
      have hs0:¬ ((S:Int) + li.length) < 0:=by omega
      go_wp2
      refine ⟨⟨i + 1,hlt,by go_num,by rw [uh HNX]; go_num,HWR⟩,?_⟩
      simp [intOf]; omega
    · have hi':i = L.length:=by omega
      have hlt':¬ (i:Int) < L.length:=by omega
      have HTL:=hide (by rw [hi',List.take_length]:(L.take i).flatten.length = L.flatten.length)
      obtain ⟨M,hM⟩:∃ M,L.flatten.length = M:=⟨_,rfl⟩
      rw [uh HTL,hM]
      have hl2:M≤1000000000000:=by rw [← hM]; exact hl
      have HL:=hide hl
      clear hi' HTL hM hl
      go_wp2_with fail
      rw [uh HWR]
      refine Calls.mono (xc0h M _ hl2) ?_
      rintro e w1 ⟨v1,rfl,ho,k1⟩
      have HO1:=hide ho
      have HK1:=hide k1
      clear ho k1
      go_wp2_with fail
      go_loopw [6,27] (fun t6 t27 wz=>∃ (j:Nat),j≤L.length∧t27 = .int .i64 j∧Hid (wz.ownsRow w.heap.size 50 32 t6 (L.take j).flatten.length (flatD (L.take j).flatten))∧Hid (Kept [] w wz)) (fun _ t _=>L.length - (intOf t).toNat)
      case atStart=>exact ⟨0,Nat.zero_le _,rfl,by simpa [flatD] using HO1,HK1⟩
      case round =>
        obtain ⟨j,hj,rfl,HO,HK⟩:=hrel
        by_cases hjt:j < L.length
        · have hjt':(j:Int) < L.length:=by omega
          obtain ⟨b,o,u,rfl,c1,r1⟩:=uh H4 j hjt
          have q1:=(uh HK).cell c1 (by simp)
          have HR:=hide (r1.old (uh HK))
          have HFT:=hide (xb0j L j hjt)
          have HLE:=hide (xb4l L (j + 1))
          rw [uh HFT] at HLE
          clear c1 r1
          generalize L.getD j [] = li at HR HFT HLE
          obtain ⟨a8,m8,c8,rfl,hm8,_⟩:=id (uh HR)
          subst hm8
          obtain ⟨D,hD⟩:∃ D,(L.take j).flatten = D:=⟨_,rfl⟩
          rw [hD] at HO HFT HLE
          clear hD
          have hsb:D.length + li.length≤1000000000000:=by have h9:=uh HLE; have h8:=uh HL; rw [List.length_append] at h9; omega
          have hbz:=(uh HK).size
          obtain ⟨a6,c6,rfl⟩:=xa3z (uh HO)
          go_wp2_with (at_builtin; refine xa6o rfl (.tmp 31) (.tmp 32) rfl rfl _ w.heap.size (.slice a6 D.length c6) D li a8 li.length c8 (uh HO) (uh HR) hsb hbz rfl rfl ?_; intro ao1 cap1 w2 HO2 HG2; have HK2:=hide ((uh HK).grown (uh HG2) (by intro k hk; right; exact ((uh HO).lt k hk).1)); clear HG2)
          refine ⟨⟨j + 1,hjt,by go_num,by rw [uh HFT]; exact by simpa using HO2,HK2⟩,?_⟩
          simp [intOf]; omega
        · have hj':j = L.length:=by omega
          have hjt':¬ (j:Int) < L.length:=by omega
          have HO2:=hide (by have h9:=uh HO; rw [hj',List.take_length] at h9; exact h9)
          clear hj' HO
          go_wp2
          go_ret
          exact ⟨_,rfl,xc1e (uh HO2) (xc2u (uh HDG)),uh HK⟩
set_option maxHeartbeats 1000000 in
theorem xb3h (z:Int) (g:Nat) (d:List Nat) (w:World) (hz:-9223372036854775808≤z∧z≤9223372036854775807) (hd:Dg d) (hg:w.heap[g]? = some (.cells #[.int .i64 z] 3 (0,0))) :
    Calls Tryz.prog 68 #[.agg (brow d),.pointer (some ⟨g,0,none⟩)] w fun e w'=>e = .returned (.bool (!formB z d))∧Kept [] w w':=by
  have hdl:=hd.1
  have HSZ:=hide (Tryz.szD hdl)
  have HK0:=hide ((Kept.refl [] w).alloc (.cells (brow d) 50))
  have HGA:=hide (heap_alloc_new w (.cells (brow d) 50))
  have c0:(w.alloc (.cells (brow d) 50)).cell? ⟨g,0,none⟩ = some (.int .i64 z):=cell_of_row _ g 0 _ _ _ ((uh HK0).heap hg (by simp))
  go_enter Tryz.func68,Tryz.ntmps68
  go_wp2_with (refine wpList_load_row rfl 50 _ rfl w.heap.size rfl _ (brow d) (0,0) _ (uh HGA) Tryz.underlying50 rfl (uh HSZ) ?_)
  refine Calls.mono (xb4r z d _ hz hdl hd.2) ?_
  rintro e w1 ⟨rfl,k1⟩
  have HK1:=hide ((uh HK0).trans k1 (by simp))
  clear k1 c0
  cases hF:formB z d with
  | true=>go_wp2; go_ret; exact ⟨by rw [hF]; rfl,uh HK1⟩
  | false=>go_wp2; go_ret; exact ⟨by rw [hF]; rfl,uh HK1⟩
set_option maxHeartbeats 1000000 in
theorem xa6w (z:Int) (g:Nat) (v:Value) (ds:List (List Nat)) (w:World) (hz:-9223372036854775808≤z∧z≤9223372036854775807) (hv:RdD w v ds) (hg:w.heap[g]? = some (.cells #[.int .i64 z] 3 (0,0))) :
    Calls Tryz.prog 101 #[v,.func (.func 68) #[] #[.pointer (some ⟨g,0,none⟩)]] w fun e w'=>(∃ r:Int,e = .returned (.int .i64 r)∧-1≤r∧r≤9223372036854775807∧(0≤r↔ds.all (formB z) = false))∧Kept [] w w':=by
  obtain ⟨ao,len,cap,rfl,h1,h2,h3,h4,h5⟩:=hv
  have H4:=hide h4
  have H5:=hide h5
  clear h4 h5
  subst h1
  go_enter Tryz.func101,Tryz.ntmps101
  go_wp2_with fail
  go_loopw [8] (fun t8 wr=>∃ (i:Nat),i≤ds.length∧t8 = .int .i64 i∧Hid ((ds.take i).all (formB z) = true)∧Hid (Kept [] w wr)) (fun t _=>ds.length - (intOf t).toNat)
  case atStart=>exact ⟨0,Nat.zero_le _,rfl,hide (by simp),hide (Kept.refl _ _)⟩
  case round =>
    obtain ⟨i,hi,rfl,HA,HK⟩:=hrel
    by_cases hlt:i < ds.length
    · have hlt':(i:Int) < ds.length:=by omega
      obtain ⟨b,o,rfl,hcell⟩:=uh H5 (by omega)
      have HD:=hide (uh H4 (ds.getD i []) (by rw [List.getD_eq_getElem?_getD,List.getElem?_eq_getElem hlt]; exact List.getElem_mem hlt))
      have HRG:=hide (fun j v hv=>(uh HK).cell (hcell i hlt j v hv) (by simp):wr.rangeAt b (o + i * 32) ((ds.getD i []).map u8))
      have HN:=hide (by rw [List.take_succ_eq_append_getElem hlt,List.all_append,uh HA,List.getD_eq_getElem?_getD,List.getElem?_eq_getElem hlt]; simp:(ds.take (i + 1)).all (formB z) = formB z (ds.getD i []))
      have HM:=hide (fun (h:formB z (ds.getD i []) = false)=>by
        rw [List.all_eq_false]
        exact ⟨ds.getD i [],by rw [List.getD_eq_getElem?_getD,List.getElem?_eq_getElem hlt]; exact List.getElem_mem hlt,by rw [h]; decide⟩:formB z (ds.getD i []) = false→ds.all (formB z) = false)
      clear hcell
      obtain ⟨d,hd⟩:∃ d,ds.getD i [] = d:=⟨_,rfl⟩
      rw [hd] at HD HRG HN HM
      clear hd
      have hdl:=(uh HD).1
      have HSZ:=hide (by rw [List.length_map,hdl]; exact Tryz.size_dig:(Tryz.prog.info? 50).map (·.size) = some (d.map u8).length)
      go_wp2_with (refine wpList_load_mid rfl 50 _ rfl b (o + i * 32) rfl (d.map u8) _ (uh HRG) Tryz.underlying50 rfl (uh HSZ) ?_)
      refine Calls.mono (xb3h z g d _ hz (uh HD) ((uh HK).heap hg (by simp))) ?_
      rintro e w1 ⟨rfl,k1⟩
      have HK1:=hide ((uh HK).trans k1 (by simp))
      clear k1
      generalize formB z d = F at HN HM ⊢
      cases F with
      | true =>
        go_wp2
        refine ⟨⟨i + 1,hlt,by go_num,HN,HK1⟩,?_⟩
        simp [intOf]; omega
      | false =>
        go_wp2
        go_ret
        exact ⟨⟨i,rfl,by omega,by omega,⟨fun _=>uh HM (by simp),fun _=>by omega⟩⟩,uh HK1⟩
    · have hi':i = ds.length:=by omega
      subst hi'
      have HA2:=hide (by have h9:=uh HA; rw [List.take_length] at h9; exact h9:ds.all (formB z) = true)
      go_wp2
      go_ret
      exact ⟨⟨-1,rfl,by omega,by omega,by rw [uh HA2]; simp⟩,uh HK⟩
set_option maxHeartbeats 1000000 in
theorem xa2l (z:Int) (g:Nat) (v:Value) (ds:List (List Nat)) (w:World) (hz:-9223372036854775808≤z∧z≤9223372036854775807) (hv:RdD w v ds) (hg:w.heap[g]? = some (.cells #[.int .i64 z] 3 (0,0))) :
    Calls Tryz.prog 70 #[v,.func (.func 68) #[] #[.pointer (some ⟨g,0,none⟩)]] w fun e w'=>e = .returned (.bool (!ds.all (formB z)))∧Kept [] w w':=by
  go_enter Tryz.func70,Tryz.ntmps70
  go_wp2_with fail
  refine Calls.mono (xa6w z g v ds _ hz hv hg) ?_
  rintro e w1 ⟨⟨r,rfl,h1,h2,h3⟩,k1⟩
  have HK1:=hide k1
  clear k1
  cases hA:ds.all (formB z) with
  | true =>
    have hr:¬ (0:Int)≤r:=by rw [h3,hA]; simp
    have hr':r < 0:=by omega
    have HA:=hide hA
    clear h3 hA
    go_wp2; go_ret; exact ⟨by rw [uh HA]; simp [hr],uh HK1⟩
  | false =>
    have hr:(0:Int)≤r:=h3.2 hA
    have HA:=hide hA
    clear h3 hA
    go_wp2; go_ret; exact ⟨by rw [uh HA]; simp [hr],uh HK1⟩
set_option maxHeartbeats 1000000 in
theorem xa5m (z:Int) (kv:Value) (key:List Nat) (sv:Value) (ss:List (Nat × List (List Nat))) (nv:Value) (known:List (List Nat)) (w:World) (hz:-9223372036854775808≤z∧z≤9223372036854775807) (hk:Rd w kv key) (hs:RdS w sv ss) (hn:RdD w nv known) :
    Calls Tryz.prog 42 #[.int .i64 z,kv,sv,nv] w fun e w'=>e = .returned (.int .i64 (hfE z key known ss:Int))∧Kept [] w w':=by
  obtain ⟨ao,len,cap,rfl,h1,h2,h3,h4⟩:=hk
  obtain ⟨sa,ls,sc,vs,rfl,s1,s2,s3,s4,s5⟩:=hs
  have HN:=hide hn
  have S4:=hide s4
  have S5:=hide s5
  have HK0:=hide ((Kept.refl [] w).alloc (.cells #[.int .i64 z] 3))
  have HG0:=hide (heap_alloc_new w (.cells #[.int .i64 z] 3))
  clear h4 s4 s5 hn
  subst h1
  subst s1
  go_enter Tryz.func42,Tryz.ntmps42
  by_cases hz1:z < 1
  · have HF:=hide (by unfold hfE; rw [if_pos (by unfold widthB; simp; omega)]:hfE z key known ss = 1)
    go_wp2
    go_ret
    exact ⟨by rw [uh HF]; rfl,uh HK0⟩
  · by_cases hz2:32 < z
    · have HF:=hide (by unfold hfE; rw [if_pos (by unfold widthB; simp; omega)]:hfE z key known ss = 1)
      go_wp2
      go_ret
      exact ⟨by rw [uh HF]; rfl,uh HK0⟩
    · have hzw:¬ widthB z = false:=by unfold widthB; simp; omega
      by_cases hk:64 < key.length
      · have hk':(64:Int) < key.length:=by omega
        have HF:=hide (by unfold hfE; rw [if_neg hzw,if_pos hk]:hfE z key known ss = 2)
        go_wp2
        go_ret
        exact ⟨by rw [uh HF]; rfl,uh HK0⟩
      · have hk':¬ (64:Int) < key.length:=by omega
        have HF:=hide (by unfold hfE; rw [if_neg hzw,if_neg hk]:hfE z key known ss = if known.all (formB z) && ss.all (fun s=>s.2.all (formB z)) then 0 else 3)
        clear hzw
        go_wp2_with fail
        refine Calls.mono (xa2l z w.heap.size nv known _ hz ((uh HN).old (uh HK0)) (uh HG0)) ?_
        rintro e w1 ⟨rfl,k1⟩
        have HK1:=hide ((uh HK0).trans k1 (by simp))
        have HG1:=hide (k1.heap (uh HG0) (by simp))
        clear k1
        cases hA:known.all (formB z) with
        | false =>
          have HF2:=hide (by rw [uh HF,hA]; rfl:hfE z key known ss = 3)
          clear hA HF
          go_wp2
          go_ret
          exact ⟨by rw [uh HF2]; rfl,uh HK1⟩
        | true =>
          have HF2:=hide (by rw [uh HF,hA,Bool.true_and]:hfE z key known ss = if ss.all (fun s=>s.2.all (formB z)) then 0 else 3)
          clear hA HF
          go_wp2_with fail
          go_loopw [27] (fun t27 wr=>∃ (i:Nat),i≤ss.length∧t27 = .int .i64 i∧Hid ((ss.take i).all (fun s=>s.2.all (formB z)) = true)∧Hid (Kept [] w wr)∧Hid (wr.heap[w.heap.size]? = some (.cells #[.int .i64 z] 3 (0,0)))) (fun t _=>ss.length - (intOf t).toNat)
          case atStart=>exact ⟨0,Nat.zero_le _,rfl,hide (by simp),HK1,HG1⟩
          case round =>
            obtain ⟨i,hi,rfl,HA,HK,HG⟩:=hrel
            by_cases hlt:i < ss.length
            · have hlt':(i:Int) < ss.length:=by omega
              obtain ⟨b,o,rfl,hcell⟩:=uh S5 (by omega)
              have q1:=(uh HK).cell (hcell i hlt).1 (by simp)
              have q2:=(uh HK).cell (hcell i hlt).2 (by simp)
              have HD:=hide (uh S4 i hlt)
              have HN:=hide (by rw [List.take_succ_eq_append_getElem hlt,List.all_append,uh HA,List.getD_eq_getElem?_getD,List.getElem?_eq_getElem hlt]; simp:(ss.take (i + 1)).all (fun s=>s.2.all (formB z)) = (ss.getD i (0,[])).2.all (formB z))
              have HM:=hide (fun (h:(ss.getD i (0,[])).2.all (formB z) = false)=>by
                have h9:ss.all (fun s=>s.2.all (formB z)) = false:=by
                  rw [List.all_eq_false]
                  exact ⟨ss.getD i (0,[]),by rw [List.getD_eq_getElem?_getD,List.getElem?_eq_getElem hlt]; exact List.getElem_mem hlt,by rw [h]; decide⟩
                rw [uh HF2,h9]; rfl:(ss.getD i (0,[])).2.all (formB z) = false→hfE z key known ss = 3)
              clear hcell
              generalize ss.getD i (0,[]) = s at q1 HD HN HM
              generalize vs.getD i undef = vi at q2 HD
              obtain ⟨sb,sk⟩:=s
              simp only at q1 HD HN HM
              obtain ⟨a8,m8,c8,rfl,hm8,_⟩:=id (uh HD).2
              subst hm8
              have HKa:=hide ((uh HK).alloc (.cells #[.int .u16 sb,.slice a8 sk.length c8] 64))
              have HGa:=hide (((Kept.refl [] wr).alloc (.cells #[.int .u16 sb,.slice a8 sk.length c8] 64)).heap (uh HG) (by simp))
              go_wp2_with fail
              refine Calls.mono (xa2l z w.heap.size _ sk _ hz ((uh HD).2.old (uh HKa)) (uh HGa)) ?_
              rintro e w2 ⟨rfl,k2⟩
              have HK2:=hide ((uh HKa).trans k2 (by simp))
              have HG2:=hide (k2.heap (uh HGa) (by simp))
              clear k2 q1 q2
              cases hA:sk.all (formB z) with
              | true =>
                rw [hA] at HN
                clear hA
                go_wp2
                refine ⟨⟨i + 1,hlt,by go_num,HN,HK2,HG2⟩,?_⟩
                simp [intOf]; omega
              | false =>
                have HX:=hide (uh HM hA)
                clear hA
                go_wp2
                go_ret
                exact ⟨by rw [uh HX]; rfl,uh HK2⟩
            · have hi':i = ss.length:=by omega
              subst hi'
              have HA2:=hide (by have h9:=uh HA; rw [List.take_length] at h9; exact h9:ss.all (fun s=>s.2.all (formB z)) = true)
              go_wp2
              go_ret
              exact ⟨by rw [uh HF2,uh HA2]; rfl,uh HK⟩
theorem RdK.cells {w:World} {ao:Option Addr} {len cap:Nat} {ps:List (List Nat × List Nat)} (h:RdK w (.slice ao len cap) ps):ps.length = len∧len≤cap∧cap≤9223372036854775807 ∧
    ∀ i,i < len→∃ b off u v,ao = some ⟨b,off,none⟩∧w.cell? ⟨b,off + i * 2,none⟩ = some u∧w.cell? ⟨b,off + i * 2 + 1,none⟩ = some v∧Rd w u (ps.getD i ([],[])).1∧Rd w v (ps.getD i ([],[])).2:=by
  obtain ⟨ao',len',cap',vs,us,he,h1,h2,h3,h4,h5⟩:=h
  cases he
  refine ⟨h1,h2,h3,fun i hi=>?_⟩
  obtain ⟨b,off,rfl,hc⟩:=h5 (by omega)
  exact ⟨b,off,_,_,rfl,(hc i hi).1,(hc i hi).2,(h4 i hi).1,(h4 i hi).2⟩
theorem xa6l {key:List Nat}:∀ (ps:List (List Nat × List Nat)) (i:Nat),i≤ps.length→(∀ j,j < i→(ps.getD j ([],[])).1≠key)→valH key ps = valH key (ps.drop i)
  | ps,0,_,_=>by simp
  | [],i + 1,h,_=>by simp at h
  | p :: r,i + 1,h,hn=>by
    have h0:=hn 0 (by omega)
    simp only [List.getD_cons_zero] at h0
    rw [valH,if_neg h0,List.drop_succ_cons]
    exact xa6l r i (by simpa using h) (fun j hj=>by have:=hn (j + 1) (by omega); simpa using this)
set_option maxHeartbeats 2000000 in
theorem xb5w (u v:Value) (p q:List Nat) (w:World) (hu:Rd w u p) (hv:Rd w v q) :
    Calls Tryz.prog 76 #[u,v] w fun e w'=>e = .returned (.bool (decide (p = q)))∧w' = w:=by
  have hu5:Tryz.prog.underlying 5 = some (.int .u8):=by kernel_rfl
  have hu9:Tryz.prog.underlying 9 = some .string:=by kernel_rfl
  have c1:=xb2i u p w hu hu5 hu9
  have c2:=xb2i v q w hv hu5 hu9
  have hd:((strOf p).toList == (strOf q).toList) = decide (p = q):=by
    rw [xa9t,xa9t]
    by_cases h:p = q
    · subst h; simp
    · have h2:¬ (strOf p).data.toList = (strOf q).data.toList:=fun e=>h (xb7a hu.byte hv.byte (by
        have e2:=congrArg List.toArray e
        simp only [Array.toArray_toList] at e2
        cases hp:strOf p; cases hq:strOf q
        rw [hp,hq] at e2
        simp only at e2
        rw [e2]))
      rw [decide_eq_false h]
      exact beq_eq_false_iff_ne.2 h2
  have Hd:=hide hd
  generalize strOf p = s1 at *
  generalize strOf q = s2 at *
  clear hu hv hu5 hu9 hd
  go_enter Tryz.func76,Tryz.ntmps76
  go_wp2
  go_ret
  exact ⟨by rw [uh Hd]; rfl,rfl⟩
set_option maxHeartbeats 1000000 in
theorem xb2m (v:Value) (p:List Nat) (w:World) (h:Rd w v p) :
    Calls Tryz.prog 41 #[v] w fun e w'=>(∃ v',e = .returned v'∧Rd w' v' p∧∀ x∈blk v',w.heap.size≤x)∧Kept [] w w':=by
  have H:=hide h
  obtain ⟨a1,n1,c1,rfl,hn1,hc1,⟨hc2,hc3⟩,hc4,hc5,hc6⟩:=id h
  subst hn1
  clear h hc6 hc5
  cases a1 with
  | none =>
    have h0:p.length = 0:=by have:=hc4 rfl; omega
    have hp:p = []:=List.eq_nil_of_length_eq_zero h0
    clear hc4
    subst hp
    simp only [List.length_nil]
    have hq:∀ W:World,(binOp .eql 30 (.slice none 0 c1) (.slice none 0 0)).run Tryz.prog W = .ok (.bool true) W:=by
      intro W
      simp only [binOp]
      simp [run_equal_slice_nil W 30 5 none 0 c1 Tryz.underlying30]
    go_enter Tryz.func41,Tryz.ntmps41
    go_wp2
    go_ret
    exact ⟨⟨_,rfl,Rd.nil _,by simp [blk]⟩,Kept.refl _ _⟩
  | some ad =>
    clear hc4
    have HO:=hide (World.ownsRow_made (base:=w.heap.size) (e:=5) (size:=1) w #[] 0 (Nat.le_refl _) (by unfold maxLen; omega) (by simp))
    have hq:∀ W:World,(binOp .eql 30 (.slice (some ad) p.length c1) (.slice none 0 0)).run Tryz.prog W = .ok (.bool false) W:=by
      intro W
      simp only [binOp]
      simp [run_equal_slice_nil W 30 5 (some ad) p.length c1 Tryz.underlying30]
    go_enter Tryz.func41,Tryz.ntmps41
    go_wp2_with (at_builtin; refine xa0f rfl (.tmp 5) (.tmp 6) rfl rfl _ w.heap.size (.slice (some ⟨w.heap.size,0,none⟩) 0 0) [] p (some ad) p.length c1 (uh HO) ((uh H).old ((Kept.refl [] w).alloc _) (by simp)) (by simp; omega) (by simp) rfl rfl ?_; intro ao1 cap1 w1 HO1 HG1 HA1; simp only [List.nil_append,List.length_nil,Nat.zero_add] at HO1 HA1; have HK1:=hide (((Kept.refl [] w).alloc _).grown (uh HG1) (by intro k hk; right; simp [Value.ownBlock] at hk; omega)); clear HG1)
    go_ret
    refine ⟨⟨_,rfl,xa3r (uh HO1) (uh H).byte hc3,?_⟩,uh HK1⟩
    intro x hx
    cases ao1 with
    | none=>simp [blk] at hx
    | some a=>simp [blk] at hx; subst hx; exact ((uh HO1).lt a.block rfl).1
set_option maxHeartbeats 1000000 in
theorem xb1h (kv pv:Value) (key:List Nat) (ps:List (List Nat × List Nat)) (w:World) (hk:Rd w kv key) (hp:RdK w pv ps) :
    Calls Tryz.prog 44 #[kv,pv] w fun e w'=>(∃ v',e = .returned (.tuple #[v',.bool (valH key ps).isSome])∧Rd w' v' ((valH key ps).getD [])∧∀ x∈blk v',w.heap.size≤x)∧Kept [] w w':=by
  have HKY:=hide hk
  obtain ⟨ao,n,c,_,_,rfl,_⟩:=id hp
  obtain ⟨h1,h2,h3,h4⟩:=hp.cells
  have H4:=hide h4
  clear h4 hp hk
  subst h1
  go_enter Tryz.func44,Tryz.ntmps44
  go_wp2_with fail
  go_loopw [10] (fun t10 wr=>∃ (i:Nat),i≤ps.length∧t10 = .int .i64 i∧Hid (∀ j,j < i→(ps.getD j ([],[])).1≠key)∧Hid (Kept [] w wr)) (fun t _=>ps.length - (intOf t).toNat)
  case atStart=>exact ⟨0,Nat.zero_le _,rfl,hide (by intro j hj; omega),hide (Kept.refl _ _)⟩
  case round =>
    obtain ⟨i,hi,rfl,HA,HK⟩:=hrel
    by_cases hlt:i < ps.length
    · have hlt':(i:Int) < ps.length:=by omega
      obtain ⟨b,o,x,y,rfl,c1,c2,r1,r2⟩:=uh H4 i hlt
      have q1:=(uh HK).cell c1 (by simp)
      have q2:=(uh HK).cell c2 (by simp)
      have HX:=hide (r1.old (uh HK) (by simp))
      have HY:=hide (r2.old (uh HK) (by simp))
      have HS:=hide (xa6l (key:=key) ps i hi (uh HA))
      rw [List.drop_eq_getElem_cons hlt] at HS
      have hget:ps.getD i ([],[]) = ps[i]:=by rw [List.getD_eq_getElem?_getD,List.getElem?_eq_getElem hlt]; rfl
      have HI:=hide hget
      rw [hget] at HX HY
      clear c1 c2 r1 r2 hget
      generalize hpi:ps[i] = pi at HX HY HS HI
      clear hpi
      obtain ⟨pk,pw⟩:=pi
      simp only at HX HY
      obtain ⟨a8,m8,c8,rfl,hm8,_⟩:=id (uh HX)
      obtain ⟨a9,m9,c9,rfl,hm9,_⟩:=id (uh HY)
      subst hm8
      subst hm9
      have HKa:=hide ((Kept.refl [] wr).alloc (.cells #[.slice a8 pk.length c8,.slice a9 pw.length c9] 32))
      have HCW:=hide (heap_alloc_new wr (.cells #[.slice a8 pk.length c8,.slice a9 pw.length c9] 32))
      go_wp2_with fail
      refine Calls.mono (xb5w _ _ pk key _ ((uh HX).old (uh HKa) (by simp)) ((uh HKY).old ((uh HK).trans (uh HKa) (by simp)) (by simp))) ?_
      rintro e w1 ⟨rfl,rfl⟩
      have c0:=cell_of_row _ wr.heap.size 1 _ _ _ (uh HCW)
      by_cases hE:pk = key
      · rw [decide_eq_true hE]
        have HV:=hide (by rw [uh HS,valH,if_pos hE]:valH key ps = some pw)
        clear hE q1 q2
        go_wp2_with fail
        refine Calls.mono (xb2m _ pw _ ((uh HY).old (uh HKa) (by simp))) ?_
        rintro e w2 ⟨⟨v',rfl,hv',hb'⟩,k2⟩
        have HB2:=hide (fun x hx=>Nat.le_trans ((uh HK).trans (uh HKa) (by simp)).size (hb' x hx):∀ x∈blk v',w.heap.size≤x)
        clear hb'
        have HK2:=hide (((uh HK).trans (uh HKa) (by simp)).trans k2 (by simp))
        have HV2:=hide hv'
        clear k2 hv' c0
        go_wp2
        go_ret2
        exact ⟨⟨_,by rw [uh HV]; rfl,by rw [uh HV]; exact uh HV2,uh HB2⟩,uh HK2⟩
      · rw [decide_eq_false hE]
        have HA2:=hide (fun j (hj:j < i + 1)=>by
          rcases Nat.lt_or_ge j i with h9 | h9
          · exact uh HA j h9
          · obtain rfl:j = i:=by omega
            rw [uh HI]; exact hE:∀ j,j < i + 1→(ps.getD j ([],[])).1≠key)
        clear hE q1 q2 c0
        go_wp2
        refine ⟨⟨i + 1,hlt,by go_num,HA2,hide ((uh HK).trans (uh HKa) (by simp))⟩,?_⟩
        simp [intOf]; omega
    · have hi':i = ps.length:=by omega
      subst hi'
      have HV:=hide (by rw [xa6l (key:=key) ps ps.length (Nat.le_refl _) (uh HA),List.drop_length]; rfl:valH key ps = none)
      go_wp2
      go_ret2
      exact ⟨⟨_,by rw [uh HV]; rfl,by rw [uh HV]; exact Rd.nil _,by simp [blk]⟩,uh HK⟩
theorem xb1b {ps:List (List Nat × List Nat)} {i:Nat}:∀ (n:Nat),i≤n→risB ps i = false→risB ps n = false
  | 0,h,hi=>by obtain rfl:i = 0:=(by omega); exact hi
  | n + 1,h,hi=>by
    rcases Nat.lt_or_ge n i with h9 | h9
    · obtain rfl:i = n + 1:=by omega
      exact hi
    · rw [risB,xb1b n h9 hi]; rfl
theorem xb2p:∀ a b:List Nat,-1≤ordL a b∧ordL a b≤1
  | [],[]=>by simp [ordL]
  | [],_ :: _=>by simp [ordL]
  | _ :: _,[]=>by simp [ordL]
  | x :: a,y :: b=>by
    have:=xb2p a b
    simp only [ordL]
    split
    · omega
    · split
      · omega
      · exact this
set_option maxHeartbeats 1000000 in
theorem xb5f (pv:Value) (ps:List (List Nat × List Nat)) (w:World) (hp:RdK w pv ps) :
    Calls Tryz.prog 74 #[pv] w fun e w'=>e = .returned (.bool (risB ps ps.length))∧Kept [] w w':=by
  obtain ⟨ao,n,c,_,_,rfl,_⟩:=id hp
  obtain ⟨h1,h2,h3,h4⟩:=hp.cells
  have H4:=hide h4
  clear h4 hp
  subst h1
  go_enter Tryz.func74,Tryz.ntmps74
  go_wp2_with fail
  go_loopw [7] (fun t7 wr=>∃ (i:Nat),i≤ps.length∧t7 = .int .i64 i∧Hid (risB ps i = true)∧Hid (Kept [] w wr)) (fun t _=>ps.length - (intOf t).toNat)
  case atStart=>exact ⟨0,Nat.zero_le _,rfl,hide rfl,hide (Kept.refl _ _)⟩
  case round =>
    obtain ⟨i,hi,rfl,HA,HK⟩:=hrel
    by_cases hlt:i < ps.length
    · have hlt':(i:Int) < ps.length:=by omega
      obtain ⟨b,o,x,y,rfl,c1,c2,r1,r2⟩:=uh H4 i hlt
      have HPR:=hide (fun (h:0 < i)=>uh H4 (i - 1) (by omega))
      have q1:=(uh HK).cell c1 (by simp)
      have q2:=(uh HK).cell c2 (by simp)
      have HX:=hide (r1.old (uh HK) (by simp))
      have HY:=hide (r2.old (uh HK) (by simp))
      have HST:=hide (by rw [risB,uh HA,Bool.true_and]:risB ps (i + 1) = (decide ((ps.getD i ([],[])).1.length≤64) && (decide ((ps.getD i ([],[])).2.length≤256) && (decide (i = 0) || decide (ordL (ps.getD (i - 1) ([],[])).1 (ps.getD i ([],[])).1 < 0)))))
      clear c1 c2 r1 r2
      generalize ps.getD i ([],[]) = pi at HX HY HST
      obtain ⟨pk,pw⟩:=pi
      simp only at HX HY HST
      have HBAD:=hide (fun (h:risB ps (i + 1) = false)=>xb1b (ps:=ps) ps.length hlt h)
      obtain ⟨a8,m8,c8,rfl,hm8,_⟩:=id (uh HX)
      obtain ⟨a9,m9,c9,rfl,hm9,_⟩:=id (uh HY)
      subst hm8
      subst hm9
      have HKa:=hide ((Kept.refl [] wr).alloc (.cells #[.slice a8 pk.length c8,.slice a9 pw.length c9] 32))
      have HKb:=hide ((uh HK).trans (uh HKa) (by simp))
      by_cases hk:64 < pk.length
      · have hk':(64:Int) < pk.length:=by omega
        have HB:=hide (uh HBAD (by rw [uh HST,decide_eq_false (by omega)]; rfl))
        go_wp2
        go_ret
        exact ⟨by rw [uh HB]; rfl,uh HKb⟩
      · have hk':¬ (64:Int) < pk.length:=by omega
        by_cases hv:256 < pw.length
        · have hv':(256:Int) < pw.length:=by omega
          have HB:=hide (uh HBAD (by rw [uh HST,decide_eq_true (by omega),decide_eq_false (by omega)]; rfl))
          go_wp2
          go_ret
          exact ⟨by rw [uh HB]; rfl,uh HKb⟩
        · have hv':¬ (256:Int) < pw.length:=by omega
          have HST2:=hide (by rw [uh HST,decide_eq_true (by omega),decide_eq_true (by omega)]; rfl:risB ps (i + 1) = (decide (i = 0) || decide (ordL (ps.getD (i - 1) ([],[])).1 pk < 0)))
          clear HST
          by_cases h0:i = 0
          · have h0':¬ (0:Int) < i:=by omega
            have hi0:¬ 0 < i:=by omega
            have HN:=hide (by rw [uh HST2,decide_eq_true h0]; rfl:risB ps (i + 1) = true)
            clear HST2 HBAD HPR h0
            go_wp2_with fail
            refine xa0s 11 (by kernel_rfl) (by kernel_rfl) ?_
            simp only [List.take_succ_cons,List.take_zero,List.drop_succ_cons,List.drop_zero]
            repeat (go_big_quiet_step (fail))
            refine wpQuiet_nil ?_
            rintro _ ⟨n1,rfl⟩
            go_wp2
            refine ⟨⟨i + 1,hlt,by go_num,HN,hide ((uh HKb).drewN n1)⟩,?_⟩
            simp [intOf]; omega
          · have h0':(0:Int) < i:=by omega
            have hi0:0 < i:=by omega
            obtain ⟨_,_,x',y',he,c1,c2,r1,r2⟩:=uh HPR (by omega)
            cases he
            have HST3:=hide (by rw [uh HST2,decide_eq_false h0]; rfl:risB ps (i + 1) = decide (ordL (ps.getD (i - 1) ([],[])).1 pk < 0))
            have q3:=((uh HKb)).cell c1 (by simp)
            have HX':=hide (r1.old (uh HKb) (by simp))
            clear HST2 HPR c1 c2 r1 r2
            generalize (ps.getD (i - 1) ([],[])).1 = pp at HST3 HX'
            have hsub:((i:Int) - 1) = ((i - 1:Nat):Int):=by omega
            obtain ⟨k,hk9⟩:∃ k,i - 1 = k:=⟨_,rfl⟩
            rw [hk9] at q3 hsub
            have hkl:(k:Int) < ps.length:=by omega
            obtain ⟨a7,m7,c7,rfl,hm7,_⟩:=id (uh HX')
            subst hm7
            have HI:=hide (by omega:¬ i = 0)
            clear h0 hk9
            have c8':=cell_of_row _ wr.heap.size 0 _ _ _ (heap_alloc_new wr (.cells #[.slice a8 pk.length c8,.slice a9 pw.length c9] 32))
            go_wp2_with fail
            refine xa0s 11 (by kernel_rfl) (by kernel_rfl) ?_
            simp only [List.take_succ_cons,List.take_zero,List.drop_succ_cons,List.drop_zero]
            repeat (go_big_quiet_step (fail))
            refine wpQuiet_nil ?_
            rintro _ ⟨n1,rfl⟩
            go_wp2_with fail
            refine Calls.mono (xb3i _ _ pp pk _ ((uh HX').old ((Kept.refl [] _).drewN n1) (by simp)) ((uh HX).old ((uh HKa).drewN n1) (by simp))) ?_
            rintro e w1 ⟨rfl,rfl⟩
            have hob:=xb2p pp pk
            generalize ordL pp pk = C at HST3 hob ⊢
            clear q1 q2 q3 hsub hkl c8'
            by_cases hC:C < 0
            · have hC':¬ (0:Int)≤C:=by omega
              have HN:=hide (by rw [uh HST3,decide_eq_true hC]:risB ps (i + 1) = true)
              clear hC
              go_wp2
              refine ⟨⟨i + 1,hlt,by go_num,HN,hide ((uh HKb).drewN n1)⟩,?_⟩
              simp [intOf]; omega
            · have hC':(0:Int)≤C:=by omega
              have HB:=hide (uh HBAD (by rw [uh HST3,decide_eq_false hC]))
              clear hC
              go_wp2
              go_ret
              exact ⟨by rw [uh HB]; rfl,(uh HKb).drewN n1⟩
    · have hi':i = ps.length:=by omega
      subst hi'
      go_wp2
      go_ret
      exact ⟨by rw [uh HA]; rfl,uh HK⟩
theorem RdK.tail {w:World} {b off n c:Nat} {ps:List (List Nat × List Nat)} (h:RdK w (.slice (some ⟨b,off,none⟩) n c) ps) (hp:0 < n):RdK w (.slice (some ⟨b,off + 2,none⟩) (n - 1) (c - 1)) (ps.drop 1):=by
  obtain ⟨_,_,_,vs,us,he,h1,h2,h3,h4,h5⟩:=h
  cases he
  refine ⟨_,n - 1,c - 1,vs.drop 1,us.drop 1,rfl,by simp [h1],by omega,by omega,fun i hi=>?_,fun _=>⟨b,off + 2,rfl,fun i hi=>?_⟩⟩
  · have:=h4 (i + 1) (by omega)
    simpa [List.getD_eq_getElem?_getD,Nat.add_comm] using this
  · obtain ⟨b',o',e,hc⟩:=h5 hp
    cases e
    have:=hc (i + 1) (by omega)
    rw [show off + (i + 1) * 2 = off + 2 + i * 2 by omega] at this
    simpa [List.getD_eq_getElem?_getD,Nat.add_comm] using this
set_option maxHeartbeats 1000000 in
theorem xb9m (z:Int) (ks:List Nat) (n:Nat) (pv:Value) (ps:List (List Nat × List Nat)) (w:World) (hz:-9223372036854775808≤z∧z≤9223372036854775807) (hks:Dg ks) (hn:n≤1000000000000) (hp:RdK w pv ps) (hp0:0 < ps.length) (hT:Tabs w) (hl:∀ p∈ps,p.1.length≤64) :
    Calls Tryz.prog 75 #[.int .i64 z,.agg (brow ks),.int .i64 n,pv] w fun e w'=>e = .returned (.bool (hanB z ks n ps))∧Kept [] w w':=by
  obtain ⟨ao,m,c,_,_,rfl,_⟩:=id hp
  obtain ⟨h1,h2,h3,h4⟩:=hp.cells
  obtain ⟨b,o,x,y,rfl,c1,c2,r1,r2⟩:=h4 0 (by omega)
  have HTL:Hid (RdK w (if c = 1 then .slice (some ⟨b,o,none⟩) (m - 1) 0 else .slice (some ⟨b,o + 2,none⟩) (m - 1) (c - 1)) (ps.drop 1)):=hide (by
    by_cases hc9:c = 1
    · rw [if_pos hc9]
      have h9:ps.drop 1 = []:=by rw [List.drop_eq_nil_iff]; omega
      rw [h9,show m - 1 = 0 by omega]
      exact ⟨_,0,0,[],[],rfl,rfl,Nat.le_refl _,by omega,fun i hi=>by omega,fun hh=>by omega⟩
    · rw [if_neg hc9]; exact hp.tail (by omega))
  have HX:=hide r1
  have HT:=hide hT
  have HKS:=hide hks
  have hkl:=hks.1
  have HL0:=hide (hl _ (by rw [List.getD_eq_getElem?_getD,List.getElem?_eq_getElem hp0]; exact List.getElem_mem hp0):(ps.getD 0 ([],[])).1.length≤64)
  have HLT:=hide (fun p (h:p∈ps.drop 1)=>hl p (List.mem_of_mem_drop h))
  have HF:=hide (by unfold hanB; rfl:hanB z ks n ps = ((ps.drop 1).all (fun p=>decide (keyS z p.1 = keyS z (ps.getD 0 ([],[])).1)) && decide (n≤comC z (keyS z (ps.getD 0 ([],[])).1) ks)))
  have HK0:=hide ((Kept.refl [] w).alloc (.cells (brow ks) 50))
  have HG0:=hide (heap_alloc_new w (.cells (brow ks) 50))
  have q1:=(uh HK0).cell c1 (by simp)
  rw [Nat.zero_mul,Nat.add_zero] at q1
  clear h4 hp c1 c2 r1 r2 hT hks hl
  subst h1
  have hp0':(0:Int) < ps.length:=by omega
  have hp1:(1:Int)≤ps.length:=by omega
  have hp2:1≤ps.length:=by omega
  have hc1:(1:Int)≤c:=by omega
  generalize (ps.getD 0 ([],[])).1 = k0 at HX HL0 HF
  obtain ⟨a8,m8,c8,rfl,hm8,_⟩:=id (uh HX)
  subst hm8
  go_enter Tryz.func75,Tryz.ntmps75
  go_wp2_with fail
  refine Calls.mono (xa7e z _ k0 _ hz ((uh HX).old (uh HK0) (by simp)) (by have:=uh HL0; omega) ((uh HT).k (uh HK0))) ?_
  rintro e w1 ⟨rfl,k1⟩
  have HD0:=hide (xb4w z k0)
  have HDE:keyS z k0 = sumD z (2 :: k0):=rfl
  rw [← HDE]
  clear HDE
  generalize keyS z k0 = D0 at HD0 HF ⊢
  have hd0:=(uh HD0).1
  have kN:=(k1.alloc (.cells (zb 32) 50)).setRow (g:=w1.heap.size) (Or.inr k1.size) (brow D0)
  have HN1:=hide (setRow_heap (w1.alloc (.cells (zb 32) 50)) w1.heap.size (zb 32) (brow D0) 50 (0,0) (heap_alloc_new _ _))
  have HK1:=hide ((uh HK0).trans kN (by simp))
  have HG1:=hide (kN.heap (uh HG0) (by simp))
  have HS0:=hide (Tryz.szD hd0)
  have HSK:=hide (Tryz.szD hkl)
  clear kN k1 q1 HK0 HG0
  generalize ps.drop 1 = tl at HTL HLT HF
  obtain hc9 | hc9:c = 1∨¬ c = 1:=by omega
  case' inl =>
    rw [if_pos hc9] at HTL
    subst hc9
    go_wp2_with (rw [zb32]; refine wpList_store_row rfl 50 _ _ rfl w1.heap.size (brow D0) rfl rfl _ (zb 32) (heap_alloc_new _ _) (uh HS0) (by rw [xa0d,xa0a,hd0]) (xa0c _) ?_)
    have t0:tl.length = 0:=by have:=(uh HTL).cells.1; omega
    have htb:tl.length≤9223372036854775806:=by omega
    have H4:Hid (∀ i,i < tl.length→∃ b' off u v,(some (⟨b,o,none⟩:Addr)) = some ⟨b',off,none⟩∧w.cell? ⟨b',off + i * 2,none⟩ = some u∧w.cell? ⟨b',off + i * 2 + 1,none⟩ = some v∧Rd w u (tl.getD i ([],[])).1∧Rd w v (tl.getD i ([],[])).2):=hide (fun i hi=>by omega)
    clear HTL hc1 hp1 hp2 hp0' hp0
  case' inr =>
    rw [if_neg hc9] at HTL
    go_wp2_with (rw [zb32]; refine wpList_store_row rfl 50 _ _ rfl w1.heap.size (brow D0) rfl rfl _ (zb 32) (heap_alloc_new _ _) (uh HS0) (by rw [xa0d,xa0a,hd0]) (xa0c _) ?_)
    obtain ⟨t1,t2,t3,t4⟩:=(uh HTL).cells
    have H4:=hide t4
    have htb:tl.length≤9223372036854775806:=by omega
    clear t4 HTL hc1 hp1 hp2 hp0' hp0 t2 t3 hc9
    generalize ps.length - 1 = N9 at t1 H4 ⊢
    subst t1
  all_goals
    obtain ⟨W,hW⟩:∃ W,(w1.alloc (.cells (zb 32) 50)).setRow w1.heap.size (brow D0) = W:=⟨_,rfl⟩
    rw [hW] at HN1 HK1 HG1 ⊢
    clear hW
    go_loopw [29] (fun t29 wr=>∃ (i:Nat),i≤tl.length∧t29 = .int .i64 i∧Hid ((tl.take i).all (fun p=>decide (keyS z p.1 = D0)) = true)∧Hid (Kept [] w wr)∧Hid (wr.heap[w1.heap.size]? = some (.cells (brow D0) 50 (0,0)))∧Hid (wr.heap[w.heap.size]? = some (.cells (brow ks) 50 (0,0)))) (fun t _=>tl.length - (intOf t).toNat)
    case atStart=>exact ⟨0,Nat.zero_le _,rfl,hide (by simp),HK1,HN1,HG1⟩
    case round =>
      obtain ⟨i,hi,rfl,HA,HK,HN,HG⟩:=hrel
      by_cases hlt:i < tl.length
      · first
        | (exfalso; omega)
        | (have hlt':(i:Int) < tl.length:=by omega
           obtain ⟨b',o',x',y',he,c1,c2,r1,r2⟩:=uh H4 i hlt
           cases he
           have q1:=(uh HK).cell c1 (by simp)
           have q2:=(uh HK).cell c2 (by simp)
           have HX1:=hide (r1.old (uh HK) (by simp))
           have HY1:=hide (r2.old (uh HK) (by simp))
           have HLI:=hide (uh HLT (tl.getD i ([],[])) (by rw [List.getD_eq_getElem?_getD,List.getElem?_eq_getElem hlt]; exact List.getElem_mem hlt))
           have HNX:=hide (by rw [List.take_succ_eq_append_getElem hlt,List.all_append,uh HA,List.getD_eq_getElem?_getD,List.getElem?_eq_getElem hlt]; simp:(tl.take (i + 1)).all (fun p=>decide (keyS z p.1 = D0)) = decide (keyS z (tl.getD i ([],[])).1 = D0))
           have HM:=hide (fun (h:¬ keyS z (tl.getD i ([],[])).1 = D0)=>by
             have h9:tl.all (fun p=>decide (keyS z p.1 = D0)) = false:=by
               rw [List.all_eq_false]
               exact ⟨tl.getD i ([],[]),by rw [List.getD_eq_getElem?_getD,List.getElem?_eq_getElem hlt]; exact List.getElem_mem hlt,by rw [decide_eq_false h]; decide⟩
             rw [uh HF,h9]; rfl:¬ keyS z (tl.getD i ([],[])).1 = D0→hanB z ks n ps = false)
           clear c1 c2 r1 r2
           generalize tl.getD i ([],[]) = pi at HX1 HY1 HLI HNX HM
           obtain ⟨pk,pw⟩:=pi
           simp only at HX1 HY1 HLI HNX HM
           obtain ⟨a7,m7,c7,rfl,hm7,_⟩:=id (uh HX1)
           obtain ⟨a9,m9,c9,rfl,hm9,_⟩:=id (uh HY1)
           subst hm7
           subst hm9
           have HKa:=hide ((Kept.refl [] wr).alloc (.cells #[.slice a7 pk.length c7,.slice a9 pw.length c9] 32))
           go_wp2_with fail
           refine Calls.mono (xa7e z _ pk _ hz ((uh HX1).old (uh HKa) (by simp)) (by have:=uh HLI; omega) ((uh HT).k ((uh HK).trans (uh HKa) (by simp)))) ?_
           rintro e w2 ⟨rfl,k2⟩
           have HDK:=hide (xb4w z pk)
           have HDE:keyS z pk = sumD z (2 :: pk):=rfl
           rw [← HDE]
           clear HDE
           generalize keyS z pk = DK at HDK HNX HM ⊢
           have hdk:=(uh HDK).1
           have kN:=(((uh HKa).trans k2 (by simp)).alloc (.cells (zb 32) 50)).setRow (g:=w2.heap.size) (Or.inr ((uh HKa).trans k2 (by simp)).size) (brow DK)
           have HN2:=hide (setRow_heap (w2.alloc (.cells (zb 32) 50)) w2.heap.size (zb 32) (brow DK) 50 (0,0) (heap_alloc_new _ _))
           have HK2:=hide ((uh HK).trans kN (by simp))
           have HD2:=hide (kN.heap (uh HN) (by simp))
           have HG2:=hide (kN.heap (uh HG) (by simp))
           have HSD:=hide (Tryz.szD hdk)
           clear kN k2 q1 q2
           have heq:=fun W=>dig_eq W DK D0 hdk hd0
           by_cases hE:DK = D0
           · rw [decide_eq_true hE] at heq HNX
             clear hE
             go_wp2_with (first
               | (rw [zb32]; refine wpList_store_row rfl 50 _ _ rfl w2.heap.size (brow DK) rfl rfl _ (zb 32) (heap_alloc_new _ _) (uh HSD) (by rw [xa0d,xa0a,hdk]) (xa0c _) ?_)
               | (refine wpList_load_row rfl 50 _ rfl w2.heap.size rfl _ (brow DK) (0,0) _ (uh HN2) Tryz.underlying50 rfl (uh HSD) ?_)
               | (refine wpList_load_row rfl 50 _ rfl w1.heap.size rfl _ (brow D0) (0,0) _ (uh HD2) Tryz.underlying50 rfl (uh HS0) ?_))
             refine ⟨⟨i + 1,hlt,by go_num,HNX,HK2,HD2,HG2⟩,?_⟩
             simp [intOf]; omega
           · have HB:=hide (uh HM hE)
             rw [decide_eq_false hE] at heq
             clear hE
             go_wp2_with (first
               | (rw [zb32]; refine wpList_store_row rfl 50 _ _ rfl w2.heap.size (brow DK) rfl rfl _ (zb 32) (heap_alloc_new _ _) (uh HSD) (by rw [xa0d,xa0a,hdk]) (xa0c _) ?_)
               | (refine wpList_load_row rfl 50 _ rfl w2.heap.size rfl _ (brow DK) (0,0) _ (uh HN2) Tryz.underlying50 rfl (uh HSD) ?_)
               | (refine wpList_load_row rfl 50 _ rfl w1.heap.size rfl _ (brow D0) (0,0) _ (uh HD2) Tryz.underlying50 rfl (uh HS0) ?_))
             go_ret
             exact ⟨by rw [uh HB]; rfl,uh HK2⟩)
      · have hi':i = tl.length:=by omega
        have HF2:=hide (by have h9:=uh HA; rw [hi',List.take_length] at h9; rw [uh HF,h9,Bool.true_and]:hanB z ks n ps = decide (n≤comC z D0 ks))
        have hlt':¬ (i:Int) < tl.length:=by omega
        clear hi'
        go_wp2_with (first
          | (refine wpList_load_row rfl 50 _ rfl w1.heap.size rfl _ (brow D0) (0,0) _ (uh HN) Tryz.underlying50 rfl (uh HS0) ?_)
          | (refine wpList_load_row rfl 50 _ rfl w.heap.size rfl _ (brow ks) (0,0) _ (uh HG) Tryz.underlying50 rfl (uh HSK) ?_))
        refine Calls.mono (xa6v z D0 ks _ hz (uh HD0) (uh HKS)) ?_
        rintro e w3 ⟨rfl,k3⟩
        have HK3:=hide ((uh HK).trans k3 (by simp))
        clear k3
        generalize comC z D0 ks = CC at HF2 ⊢
        by_cases hcc:n≤CC
        · have hcc':(n:Int)≤CC:=by omega
          go_wp2
          go_ret
          exact ⟨by rw [uh HF2,decide_eq_true hcc]; simp [hcc],uh HK3⟩
        · have hcc':¬ (n:Int)≤CC:=by omega
          go_wp2
          go_ret
          exact ⟨by rw [uh HF2,decide_eq_false hcc]; simp [hcc],uh HK3⟩
set_option maxHeartbeats 1000000 in
theorem xa9q (z:Int) (d:List Nat) (i:Int) (w:World) (hz:-9223372036854775808≤z∧z≤9223372036854775807) (hi:-9223372036854775808≤i∧i≤9223372036854775807) (hd:Dg d) :
    Calls Tryz.prog 72 #[.int .i64 z,.agg (brow d),.int .i64 i] w fun e w'=>e = .returned (.int .i64 (atC z d i:Int))∧Kept [] w w':=by
  have hdl:=hd.1
  have HGA:=hide (heap_alloc_new w (.cells (brow d) 50))
  have HK0:=hide ((Kept.refl [] w).alloc (.cells (brow d) 50))
  have HSZ:=hide (Tryz.szD hdl)
  go_enter Tryz.func72,Tryz.ntmps72
  go_wp2_with (refine wpList_load_row rfl 50 _ rfl w.heap.size rfl _ (brow d) (0,0) _ (uh HGA) Tryz.underlying50 rfl (uh HSZ) ?_)
  refine Calls.mono (at_any z d i _ hz hi hd) ?_
  rintro e w1 ⟨rfl,k1⟩
  have HK1:=hide ((uh HK0).trans k1 (by simp))
  clear k1
  go_wp2
  go_ret
  exact ⟨rfl,uh HK1⟩
set_option maxHeartbeats 1000000 in
theorem xa8q (b:Nat) (ao:Option Addr) (n cap:Nat) (c:Int) (t:Bool) (w:World) (hb:b < 65536) (hn:n≤1000000000000) (hc:-9223372036854775808≤c∧c≤9223372036854775807) :
    Calls Tryz.prog 71 #[.agg #[.int .u16 b,.slice ao n cap],.int .i64 c,.bool t] w fun e w'=>e = .returned (.bool (fitS b n c t))∧Kept [] w w':=by
  have HK0:=hide ((Kept.refl [] w).alloc (.cells #[.int .u16 b,.slice ao n cap] 64))
  have HG0:=hide (heap_alloc_new w (.cells #[.int .u16 b,.slice ao n cap] 64))
  go_enter Tryz.func71,Tryz.ntmps71
  by_cases h0:b = 0
  · have hF:fitS b n c t = false:=by unfold fitS; rw [h0]; simp
    rw [hF]
    clear hF HG0
    subst h0
    cases t with
    | true =>
      go_wp2_with fail
      go_ret
      exact ⟨rfl,uh HK0⟩
    | false =>
      go_wp2_with fail
      go_ret
      exact ⟨rfl,uh HK0⟩
  · have h0':¬ (b:Int) = 0:=by omega
    have HF:=hide (by unfold fitS; rw [decide_eq_true h0,Bool.true_and]:fitS b n c t = ((hasB b c == t) && decide (cnt b 16 = n + (if t then 1 else 0))))
    generalize fitS b n c t = F at HF ⊢
    have H0:=hide h0
    clear h0
    cases t with
    | true =>
      go_wp2_with fail
      refine Calls.mono (xa7y b c _ hb hc) ?_
      rintro e w1 ⟨rfl,k1⟩
      have HK1:=hide ((uh HK0).trans k1 (by simp))
      have c0:w1.cell? ⟨w.heap.size,0,none⟩ = some (.int .u16 b):=cell_of_row w1 w.heap.size _ _ _ _ (k1.heap (uh HG0) (by simp))
      clear k1
      generalize hasB b c = G at HF ⊢
      cases G with
      | true =>
        go_wp2_with fail
        refine Calls.mono (xa5x b _ hb) ?_
        rintro e w2 ⟨rfl,k2⟩
        have HK2:=hide ((uh HK1).trans k2 (by simp))
        clear k2 c0
        generalize cnt b 16 = C at HF ⊢
        by_cases hC:C = n + 1
        · have hC':(C:Int) = (n:Int) + 1:=by omega
          go_wp2
          go_ret
          exact ⟨by have h0:=uh H0; rw [uh HF,hC]; simp [h0],uh HK2⟩
        · have hC':¬ (C:Int) = (n:Int) + 1:=by omega
          go_wp2
          go_ret
          exact ⟨by have h0:=uh H0; rw [uh HF]; simp [hC,h0,hC'],uh HK2⟩
      | false =>
        go_wp2
        go_ret
        exact ⟨by have h0:=uh H0; rw [uh HF]; simp [h0],uh HK1⟩
    | false =>
      go_wp2_with fail
      refine Calls.mono (xa7y b c _ hb hc) ?_
      rintro e w1 ⟨rfl,k1⟩
      have HK1:=hide ((uh HK0).trans k1 (by simp))
      have c0:w1.cell? ⟨w.heap.size,0,none⟩ = some (.int .u16 b):=cell_of_row w1 w.heap.size _ _ _ _ (k1.heap (uh HG0) (by simp))
      clear k1
      generalize hasB b c = G at HF ⊢
      cases G with
      | false =>
        go_wp2_with fail
        refine Calls.mono (xa5x b _ hb) ?_
        rintro e w2 ⟨rfl,k2⟩
        have HK2:=hide ((uh HK1).trans k2 (by simp))
        clear k2 c0
        generalize cnt b 16 = C at HF ⊢
        by_cases hC:C = n
        · have hC':(C:Int) = (n:Int):=by omega
          go_wp2
          go_ret
          exact ⟨by have h0:=uh H0; rw [uh HF,hC]; simp [h0],uh HK2⟩
        · have hC':¬ (C:Int) = (n:Int):=by omega
          go_wp2
          go_ret
          exact ⟨by have h0:=uh H0; rw [uh HF]; simp [hC,h0,hC'],uh HK2⟩
      | true =>
        go_wp2
        go_ret
        exact ⟨by have h0:=uh H0; rw [uh HF]; simp [h0],uh HK1⟩
theorem RdS.cells {w:World} {ao:Option Addr} {len cap:Nat} {ss:List (Nat × List (List Nat))} (h:RdS w (.slice ao len cap) ss):ss.length = len∧len≤cap∧cap≤9223372036854775807 ∧
    ∀ i,i < len→∃ b off v,ao = some ⟨b,off,none⟩∧w.cell? ⟨b,off + i * 2,none⟩ = some (.int .u16 ((ss.getD i (0,[])).1:Int))∧w.cell? ⟨b,off + i * 2 + 1,none⟩ = some v∧(ss.getD i (0,[])).1 < 65536∧RdD w v (ss.getD i (0,[])).2:=by
  obtain ⟨ao',len',cap',vs,he,h1,h2,h3,h4,h5⟩:=h
  cases he
  refine ⟨h1,h2,h3,fun i hi=>?_⟩
  obtain ⟨b,off,rfl,hc⟩:=h5 (by omega)
  exact ⟨b,off,_,rfl,(hc i hi).1,(hc i hi).2,(h4 i hi).1,(h4 i hi).2⟩
theorem xa7f {z:Int} {ks:List Nat} {ss:List (Nat × List (List Nat))} {m i:Nat}:∀ (n:Nat),i≤n→fitsB z ks ss m i = false→fitsB z ks ss m n = false
  | 0,h,hi=>by obtain rfl:i = 0:=(by omega); exact hi
  | n + 1,h,hi=>by
    rcases Nat.lt_or_ge n i with h9 | h9
    · obtain rfl:i = n + 1:=by omega
      exact hi
    · rw [fitsB,xa7f n h9 hi]; rfl
theorem xb4y {ps:List (List Nat × List Nat)}:∀ (n:Nat),risB ps n = true→∀ i,i < n→(ps.getD i ([],[])).1.length≤64
  | 0,_,i,hi=>by omega
  | n + 1,h,i,hi=>by
    rw [risB] at h
    simp only [Bool.and_eq_true,decide_eq_true_eq] at h
    rcases Nat.lt_or_ge i n with h9 | h9
    · exact xb4y n h.1 i h9
    · obtain rfl:i = n:=by omega
      exact h.2.1
theorem atC_lt (z:Int) (d:List Nat) (i:Int) (h:Dg d):atC z d i < 16:=by
  unfold atC
  split
  · exact dgt_lt h.2 _
  · omega
set_option maxHeartbeats 2000000 in
theorem xb5j (z:Int) (ks:List Nat) (sv pv:Value) (ss:List (Nat × List (List Nat))) (ps:List (List Nat × List Nat)) (w:World) (hw:widthB z = true) (hks:Dg ks) (hs:RdS w sv ss) (hp:RdK w pv ps) (hT:Tabs w) (hsl:ss.length≤1000000000000) (hpl:ps.length≤1000000000000) (hkl:∀ s∈ss,s.2.length≤1000000000000) :
    Calls Tryz.prog 43 #[.int .i64 z,.agg (brow ks),.agg #[sv,pv]] w fun e w'=>e = .returned (.bool (provB z ks ss ps))∧Kept [] w w':=by
  obtain ⟨sa,sn,sc,vs0,rfl,_⟩:=id hs
  obtain ⟨pa,pn,pc,_,_,rfl,_⟩:=id hp
  obtain ⟨h1,h2,h3,h4⟩:=hs.cells
  obtain ⟨g1,g2,g3,g4⟩:=hp.cells
  have H4:=hide h4
  have HP:=hide hp
  have HT:=hide hT
  have HKS:=hide hks
  have HKL:=hide hkl
  have hk32:=hks.1
  have HSK:=hide (Tryz.szD hk32)
  have hz:1≤z∧z≤32:=xa2g hw
  clear h4 g4 hp hs hT hks hkl
  subst h1
  subst g1
  have HK0:=hide (((Kept.refl [] w).alloc (.cells (brow ks) 50)).alloc (.cells #[.slice sa ss.length sc,.slice pa ps.length pc] 35))
  have HG0:=hide (heap_alloc2_old w (.cells (brow ks) 50) (.cells #[.slice sa ss.length sc,.slice pa ps.length pc] 35))
  have HG1:=hide (heap_alloc2_new w (.cells (brow ks) 50) (.cells #[.slice sa ss.length sc,.slice pa ps.length pc] 35))
  go_enter Tryz.func43,Tryz.ntmps43
  obtain ⟨W,hW⟩:∃ W,(w.alloc (.cells (brow ks) 50)).alloc (.cells #[.slice sa ss.length sc,.slice pa ps.length pc] 35) = W:=⟨_,rfl⟩
  rw [hW] at HK0 HG0 HG1
  have c0:W.cell? ⟨w.heap.size + 1,0,none⟩ = some (.slice sa ss.length sc):=cell_of_row W (w.heap.size + 1) 0 _ _ _ (uh HG1)
  have hm2:IntKind.i64.wrap (2 * z) = 2 * z:=by simp [IntKind.wrap,IntKind.signed,IntKind.bits]; omega
  have hw2:RowKit.wrap64 (2 * z) = 2 * z:=by unfold RowKit.wrap64; omega
  by_cases hlen:ss.length≤2 * z.toNat
  · have hl':¬ (2 * z) < ss.length:=by omega
    have HF:=hide (by unfold provB; rw [decide_eq_true hlen,Bool.true_and]:provB z ks ss ps = (fitsB z ks ss ps.length ss.length &&
      (decide (ps.length = 0) || ((decide (ss.length = 0) || decide (cnt (ss.getD (ss.length - 1) (0,[])).1 16≠1)) && (risB ps ps.length && hanB z ks ss.length ps)))))
    clear hlen
    go_wp2_with fail
    clear hW c0 hm2 hw2
    go_loopw [24] (fun t24 wr=>∃ (i:Nat),i≤ss.length∧t24 = .int .i64 i∧Hid (fitsB z ks ss ps.length i = true)∧Hid (Kept [] W wr)) (fun t _=>ss.length - (intOf t).toNat)
    case atStart=>exact ⟨0,Nat.zero_le _,rfl,hide rfl,hide (Kept.refl _ _)⟩
    case round =>
      obtain ⟨i,hi,rfl,HA,HK⟩:=hrel
      by_cases hlt:i < ss.length
      · have hlt':(i:Int) < ss.length:=by omega
        obtain ⟨b,o,v,rfl,c1,c2,hsb,r2⟩:=uh H4 i hlt
        have HKw:=hide ((uh HK0).trans (uh HK) (by simp))
        have q1:=(uh HKw).cell c1 (by simp)
        have q2:=(uh HKw).cell c2 (by simp)
        have HX:=hide (r2.old (uh HKw))
        have hsk:=uh HKL (ss.getD i (0,[])) (by rw [List.getD_eq_getElem?_getD,List.getElem?_eq_getElem hlt]; exact List.getElem_mem hlt)
        have HST:=hide (by rw [fitsB,uh HA,Bool.true_and]:fitsB z ks ss ps.length (i + 1) = fitS (ss.getD i (0,[])).1 (ss.getD i (0,[])).2.length (atC z ks i) (decide (i + 1 < ss.length) || decide (0 < ps.length)))
        have HBAD:=hide (fun (h:fitsB z ks ss ps.length (i + 1) = false)=>(by rw [uh HF,xa7f ss.length hlt h]; rfl:provB z ks ss ps = false))
        have HAC:=hide (by have h9:=atC_lt z ks i (uh HKS); omega:-9223372036854775808≤((atC z ks i:Nat):Int)∧((atC z ks i:Nat):Int)≤9223372036854775807)
        clear c1 c2 r2
        generalize ss.getD i (0,[]) = s at q1 HX HST hsb hsk
        obtain ⟨sb,sk⟩:=s
        simp only at q1 HX HST hsb hsk
        obtain ⟨a8,m8,c8,rfl,hm8,_⟩:=id (uh HX)
        subst hm8
        have HKa:=hide ((Kept.refl [] wr).alloc (.cells #[.int .u16 sb,.slice a8 sk.length c8] 64))
        have HNW:=hide (heap_alloc_new wr (.cells #[.int .u16 sb,.slice a8 sk.length c8] 64))
        have HGK:=hide ((uh HKa).heap ((uh HK).heap (uh HG0) (by simp)) (by simp))
        have cp1:(wr.alloc (.cells #[.int .u16 sb,.slice a8 sk.length c8] 64)).cell? ⟨w.heap.size + 1,1,none⟩ = some (.slice pa ps.length pc):=cell_of_row _ (w.heap.size + 1) 1 _ _ _ ((uh HKa).heap ((uh HK).heap (uh HG1) (by simp)) (by simp))
        have HDG:=hide (fun w' (hw':Kept [] (wr.alloc (.cells #[.int .u16 sb,.slice a8 sk.length c8] 64)) w')=>(xa9q z ks i w' (by omega) (by omega) (uh HKS)).mono (fun e w2 (h2:_∧_)=>(⟨h2.1,hw'.trans h2.2 (by simp)⟩:_∧Kept [] (wr.alloc (.cells #[.int .u16 sb,.slice a8 sk.length c8] 64)) w2)))
        have hne:∀ p:Prop,(∀ w',Kept [] (wr.alloc (.cells #[.int .u16 sb,.slice a8 sk.length c8] 64)) w'→p) = p:=fun p=>propext ⟨fun h=>h _ (Kept.refl [] _),fun h _ _=>h⟩
        obtain hc | hc | hc:i + 1 < ss.length∨(¬ i + 1 < ss.length∧0 < ps.length)∨(¬ i + 1 < ss.length∧¬ 0 < ps.length):=by omega
        case' inl =>
          have hc':(i:Int) < ss.length - 1:=by omega
          go_wp2_with fail
          have HV:=hide (by rw [uh HST,decide_eq_true hc,Bool.true_or]:fitsB z ks ss ps.length (i + 1) = fitS sb sk.length (atC z ks i:Nat) true)
          have HFT:=hide (fun w' (hw':Kept [] (wr.alloc (.cells #[.int .u16 sb,.slice a8 sk.length c8] 64)) w')=>(xa8q sb a8 sk.length c8 (atC z ks i:Nat) true w' hsb hsk (uh HAC)).mono (fun e w2 (h2:_∧_)=>(⟨h2.1,hw'.trans h2.2 (by simp)⟩:_∧Kept [] (wr.alloc (.cells #[.int .u16 sb,.slice a8 sk.length c8] 64)) w2)))
          obtain ⟨F,hF⟩:∃ F,fitS sb sk.length (atC z ks i:Nat) true = F:=⟨_,rfl⟩
          rw [hF] at HV HFT
          clear hF
        case' inr.inl =>
          have hc':¬ (i:Int) < ss.length - 1:=by omega
          have hc2:(0:Int) < ps.length:=by omega
          go_wp2_with fail
          have HV:=hide (by rw [uh HST,decide_eq_true hc.2,Bool.or_true]:fitsB z ks ss ps.length (i + 1) = fitS sb sk.length (atC z ks i:Nat) true)
          have HFT:=hide (fun w' (hw':Kept [] (wr.alloc (.cells #[.int .u16 sb,.slice a8 sk.length c8] 64)) w')=>(xa8q sb a8 sk.length c8 (atC z ks i:Nat) true w' hsb hsk (uh HAC)).mono (fun e w2 (h2:_∧_)=>(⟨h2.1,hw'.trans h2.2 (by simp)⟩:_∧Kept [] (wr.alloc (.cells #[.int .u16 sb,.slice a8 sk.length c8] 64)) w2)))
          obtain ⟨F,hF⟩:∃ F,fitS sb sk.length (atC z ks i:Nat) true = F:=⟨_,rfl⟩
          rw [hF] at HV HFT
          clear hF
        case' inr.inr =>
          have hc':¬ (i:Int) < ss.length - 1:=by omega
          have hc2:¬ (0:Int) < ps.length:=by omega
          go_wp2_with fail
          have HV:=hide (by rw [uh HST,decide_eq_false hc.1,decide_eq_false hc.2,Bool.false_or]:fitsB z ks ss ps.length (i + 1) = fitS sb sk.length (atC z ks i:Nat) false)
          have HFT:=hide (fun w' (hw':Kept [] (wr.alloc (.cells #[.int .u16 sb,.slice a8 sk.length c8] 64)) w')=>(xa8q sb a8 sk.length c8 (atC z ks i:Nat) false w' hsb hsk (uh HAC)).mono (fun e w2 (h2:_∧_)=>(⟨h2.1,hw'.trans h2.2 (by simp)⟩:_∧Kept [] (wr.alloc (.cells #[.int .u16 sb,.slice a8 sk.length c8] 64)) w2)))
          obtain ⟨F,hF⟩:∃ F,fitS sb sk.length (atC z ks i:Nat) false = F:=⟨_,rfl⟩
          rw [hF] at HV HFT
          clear hF
        all_goals
          clear hc hc' q1 q2 HST cp1
          refine xa0u (by kernel_rfl) (by kernel_rfl) ?_
          refine xa0z rfl 64 (.tmp 9) rfl wr.heap.size rfl _ #[.int .u16 sb,.slice a8 sk.length c8] (0,0) _ (fun w' hw'=>hw'.heap (uh HNW) (by simp)) Tryz.underlying64 rfl (by kernel_rfl) ?_
          simp only [Act.put,List.setIfInBounds_toArray,List.set_cons_succ,List.set_cons_zero]
          go_big_quiet_step (fail)
          refine xa0z rfl 50 (.tmp 4) rfl w.heap.size rfl _ (brow ks) (0,0) _ (fun w' hw'=>hw'.heap (uh HGK) (by simp)) Tryz.underlying50 rfl (uh HSK) ?_
          simp only [Act.put,List.setIfInBounds_toArray,List.set_cons_succ,List.set_cons_zero]
          go_big_quiet_step (fail)
          go_big_quiet_want
          go_big_quiet_op
          apply Exists.intro
          refine ⟨fun w' hw'=>?_,?_⟩
          · exact uh HDG w' hw'
          go_big_quiet_on
          go_big_quiet_step (fail)
          go_big_quiet_want
          go_big_quiet_op
          apply Exists.intro
          refine ⟨fun w' hw'=>?_,?_⟩
          · exact uh HFT w' hw'
          go_big_quiet_on
          cases F with
          | true =>
            repeat (go_big_quiet_step (fail))
            refine wpQuiet_nil ?_
            intro w5 hw5
            have HK5:=hide (((uh HK).trans (uh HKa) (by simp)).trans hw5 (by simp))
            clear hw5 hne
            go_wp2
            refine ⟨⟨i + 1,hlt,by go_num,HV,HK5⟩,?_⟩
            simp [intOf]; omega
          | false =>
            have HB:=hide (uh HBAD (uh HV))
            repeat (go_big_quiet_step (fail))
            refine wpQuiet_nil ?_
            intro w5 hw5
            have HK5:=hide (((uh HK).trans (uh HKa) (by simp)).trans hw5 (by simp))
            clear hw5 hne
            go_wp2
            go_ret
            exact ⟨by rw [uh HB]; rfl,(uh HK0).trans (uh HK5) (by simp)⟩
      · have hi':i = ss.length:=by omega
        have hlt':¬ (i:Int) < ss.length:=by omega
        have HF2:=hide (by rw [uh HF,← hi',uh HA,Bool.true_and]:provB z ks ss ps = (decide (ps.length = 0) || ((decide (ss.length = 0) || decide (cnt (ss.getD (ss.length - 1) (0,[])).1 16≠1)) && (risB ps ps.length && hanB z ks ss.length ps))))
        have HKw:=hide ((uh HK0).trans (uh HK) (by simp))
        have HGr:=hide ((uh HK).heap (uh HG1) (by simp))
        have HGk:=hide ((uh HK).heap (uh HG0) (by simp))
        have cp0:wr.cell? ⟨w.heap.size + 1,0,none⟩ = some (.slice sa ss.length sc):=cell_of_row _ (w.heap.size + 1) 0 _ _ _ (uh HGr)
        have cp1:wr.cell? ⟨w.heap.size + 1,1,none⟩ = some (.slice pa ps.length pc):=cell_of_row _ (w.heap.size + 1) 1 _ _ _ (uh HGr)
        clear hi' HA HF
        by_cases hp0:ps.length = 0
        · have hp0':(ps.length:Int) = 0:=by omega
          have HB:=hide (by rw [uh HF2,decide_eq_true hp0]; rfl:provB z ks ss ps = true)
          clear hp0
          go_wp2
          go_ret
          exact ⟨by rw [uh HB]; rfl,uh HKw⟩
        · have hp0':¬ (ps.length:Int) = 0:=by omega
          have HB:=hide (by rw [uh HF2,decide_eq_false hp0,Bool.false_or]:provB z ks ss ps = ((decide (ss.length = 0) || decide (cnt (ss.getD (ss.length - 1) (0,[])).1 16≠1)) && (risB ps ps.length && hanB z ks ss.length ps)))
          clear HF2
          obtain hs0 | hs0:ss.length = 0∨¬ ss.length = 0:=by omega
          case' inl =>
            have hs0':¬ (0:Int)≤(ss.length:Int) - 1:=by omega
            have HB2:=hide (by rw [uh HB,decide_eq_true hs0,Bool.true_or,Bool.true_and]:provB z ks ss ps = (risB ps ps.length && hanB z ks ss.length ps))
            clear hs0 HB
            go_wp2_with fail
            obtain ⟨w5,hw5,HK5⟩:∃ w5,w5 = wr∧Hid (Kept [] wr w5):=⟨wr,rfl,hide (Kept.refl _ _)⟩
            rw [← hw5]
            clear hw5
          case' inr =>
            have hs0':(0:Int)≤(ss.length:Int) - 1:=by omega
            obtain ⟨L,hL⟩:∃ L,ss.length - 1 = L:=⟨_,rfl⟩
            have hsub:(ss.length:Int) - 1 = (L:Int):=by omega
            have hLlt:L < ss.length:=by omega
            have hLl:(L:Int) < ss.length:=by omega
            obtain ⟨b,o,v,rfl,c1,c2,hsb,r2⟩:=uh H4 L hLlt
            have q1:=(uh HKw).cell c1 (by simp)
            have HB2:=hide (by rw [uh HB,decide_eq_false hs0,Bool.false_or,hL]:provB z ks ss ps = (decide (cnt (ss.getD L (0,[])).1 16≠1) && (risB ps ps.length && hanB z ks ss.length ps)))
            clear c1 c2 r2 hL hs0 HB hLlt
            generalize (ss.getD L (0,[])).1 = sb at q1 hsb HB2
            go_wp2_with fail
            refine Calls.mono (xa5x sb _ hsb) ?_
            rintro e w5 ⟨rfl,k5⟩
            have HK5:=hide k5
            clear k5 q1 hsub hLl
            generalize cnt sb 16 = C at HB2 ⊢
            have cp2:w5.cell? ⟨w.heap.size + 1,1,none⟩ = some (.slice pa ps.length pc):=(uh HK5).cell cp1 (by simp)
            by_cases hC:C = 1
            · have hC':(C:Int) = 1:=by omega
              have HB3:=hide (by rw [uh HB2,decide_eq_false (by omega)]; rfl:provB z ks ss ps = false)
              clear hC
              go_wp2
              go_ret
              exact ⟨by rw [uh HB3]; rfl,(uh HKw).trans (uh HK5) (by simp)⟩
            have hC':¬ (C:Int) = 1:=by omega
            have HB3:=hide (by rw [uh HB2,decide_eq_true hC,Bool.true_and]:provB z ks ss ps = (risB ps ps.length && hanB z ks ss.length ps))
            clear hC HB2
            have HB2:=HB3
            clear HB3 cp0 cp1
            go_wp2_with fail
          all_goals
            have HKx:=hide ((uh HKw).trans (uh HK5) (by simp))
            refine Calls.mono (xb5f _ ps _ ((uh HP).old (uh HKx))) ?_
            rintro e w6 ⟨rfl,k6⟩
            have HK6:=hide ((uh HK5).trans k6 (by simp))
            have HK6w:=hide ((uh HKx).trans k6 (by simp))
            have HG6:=hide ((uh HK6).heap (uh HGr) (by simp))
            have HGk6:=hide ((uh HK6).heap (uh HGk) (by simp))
            have d0:=cell_of_row _ (w.heap.size + 1) 0 _ _ _ (uh HG6)
            have d1:=cell_of_row _ (w.heap.size + 1) 1 _ _ _ (uh HG6)
            clear k6 HK5 HKx
            cases hR:risB ps ps.length with
            | false =>
              have HB3:=hide (by rw [uh HB2,hR]; rfl:provB z ks ss ps = false)
              clear hR
              go_wp2
              go_ret
              exact ⟨by rw [uh HB3]; rfl,uh HK6w⟩
            | true =>
              have HB3:=hide (by rw [uh HB2,hR,Bool.true_and]:provB z ks ss ps = hanB z ks ss.length ps)
              have HLN:=hide (fun p (h:p∈ps)=>by
                obtain ⟨j,hj,rfl⟩:=List.getElem_of_mem h
                have h9:=xb4y ps.length hR j hj
                rw [List.getD_eq_getElem?_getD,List.getElem?_eq_getElem hj] at h9
                exact h9:∀ p∈ps,p.1.length≤64)
              clear hR
              go_wp2_with (refine xa4w rfl 50 _ rfl w.heap.size rfl _ (brow ks) (0,0) _ (uh HGk6) Tryz.underlying50 rfl (uh HSK) ?_)
              refine Calls.mono (xb9m z ks ss.length _ ps _ (by omega) (uh HKS) hsl ((uh HP).old (uh HK6w)) (by omega) ((uh HT).k (uh HK6w)) (uh HLN)) ?_
              rintro e w7 ⟨rfl,k7⟩
              have HK7:=hide ((uh HK6w).trans k7 (by simp))
              clear k7 d0 d1
              cases hH:hanB z ks ss.length ps with
              | true =>
                have HB4:=hide (by rw [uh HB3,hH]:provB z ks ss ps = true)
                clear hH
                go_wp2
                go_ret
                exact ⟨by rw [uh HB4]; rfl,uh HK7⟩
              | false =>
                have HB4:=hide (by rw [uh HB3,hH]:provB z ks ss ps = false)
                clear hH
                go_wp2
                go_ret
                exact ⟨by rw [uh HB4]; rfl,uh HK7⟩
  · have hl':(2 * z) < ss.length:=by omega
    have HF:=hide (by unfold provB; rw [decide_eq_false hlen]; rfl:provB z ks ss ps = false)
    clear hlen
    go_wp2
    go_ret
    exact ⟨by rw [uh HF]; rfl,uh HK0⟩
end
section
open Go
section
variable {P:Program} {Q:Exit→Act→World→Prop}
theorem wp_rs5 {id:Nat} {o0 o1 o2 o3 o4:Oper} {a:Act} {w:World} (S:World→Prop) (hm:P.follows .mixedOrders = true) (hs:Region.noSelect #[o0,o1,o2,o3,o4] = true)
    (f0:Region.free .any #[o0,o1,o2,o3,o4] #[false,false,false,false,false] 0 = true) (r0:(Region.ready .any #[o0,o1,o2,o3,o4] #[false,false,false,false,false]).contains 0 = true)
    (f1:Region.free .any #[o0,o1,o2,o3,o4] #[true,false,false,false,false] 1 = true) (r1:(Region.ready .any #[o0,o1,o2,o3,o4] #[true,false,false,false,false]).contains 1 = true)
    (f2:Region.free .any #[o0,o1,o2,o3,o4] #[true,true,false,false,false] 2 = true) (r2:(Region.ready .any #[o0,o1,o2,o3,o4] #[true,true,false,false,false]).contains 2 = true)
    (r3:Region.ready .any #[o0,o1,o2,o3,o4] #[true,true,true,false,false] = [3]) (f4:Region.free .any #[o0,o1,o2,o3,o4] #[true,true,true,true,false] 4 = true) (r4:(Region.ready .any #[o0,o1,o2,o3,o4] #[true,true,true,true,false]).contains 4 = true) (rr:Region.ready .any #[o0,o1,o2,o3,o4] #[true,true,true,true,true] = []) (g3:o3.guard = none) (hS:S w.drew)
    (v0 v1 v2 v4:Value) (A0 A1 A2 A4:Act)
    (p0:a.put o0.dst v0 = A0) (p1:A0.put o1.dst v1 = A1) (p2:A1.put o2.dst v2 = A2) (p4:A2.put o4.dst v4 = A4) 
    (hy0:YieldsIf P #[o0,o1,o2,o3,o4] S o0 v0 a)
    (hy1:YieldsIf P #[o0,o1,o2,o3,o4] S o1 v1 A0)
    (hy2:YieldsIf P #[o0,o1,o2,o3,o4] S o2 v2 A1)
    (hy4:YieldsIf P #[o0,o1,o2,o3,o4] S o4 v4 A2)
    (W1:World) (s3:∀ K:Act→World→Prop,K A2 W1→o3.wp P A2 w.drew K (NoPanic Q)) (k3:S W1) (h:Q .normal A4 W1) :
    (Code.region id #[o0,o1,o2,o3,o4] true).wp P Q a w:=by
  subst p0 p1 p2 p4
  refine wp_region_noPanic ?_
  refine wp_region_held_drew (S:=S) hm hS (fun hH=>?_)
  show wpAnyH P .any #[o0,o1,o2,o3,o4] (NoPanic Q) S 5 #[false,false,false,false,false] a w.drew
  refine wpAnyH_take (i:=0) (oi:=o0) rfl hs f0 r0 (fun _ _ _ h=>h) hy0 hS ?_
  refine wpAnyH_take (i:=1) (oi:=o1) rfl hs f1 r1 (fun _ _ _ h=>h) hy1 hS ?_
  refine wpAnyH_take (i:=2) (oi:=o2) rfl hs f2 r2 (fun _ _ _ h=>h) hy2 hS ?_
  refine wpAnyH_ready (rs:=[3]) r3 (by simp) (AllReadyH.cons (o:=o3) rfl (fun K hK=>?_) AllReadyH.nil)
  have wa:∀ y,Region.wanted o3 y = true:=fun y=>by unfold Region.wanted; rw [g3]
  rw [if_pos (wa _)]
  refine s3 K (hK.out _ _ k3 (fun _=>?_))
  refine wpAnyH_take (i:=4) (oi:=o4) rfl hs f4 r4 (fun _ _ _ h=>h) hy4 k3 ?_
  exact ⟨rr,NoPanic.normal h⟩
theorem wp_rs7 {id:Nat} {o0 o1 o2 o3 o4 o5 o6:Oper} {a:Act} {w:World} (S:World→Prop) (hm:P.follows .mixedOrders = true) (hs:Region.noSelect #[o0,o1,o2,o3,o4,o5,o6] = true)
    (f0:Region.free .any #[o0,o1,o2,o3,o4,o5,o6] #[false,false,false,false,false,false,false] 0 = true) (r0:(Region.ready .any #[o0,o1,o2,o3,o4,o5,o6] #[false,false,false,false,false,false,false]).contains 0 = true)
    (f1:Region.free .any #[o0,o1,o2,o3,o4,o5,o6] #[true,false,false,false,false,false,false] 1 = true) (r1:(Region.ready .any #[o0,o1,o2,o3,o4,o5,o6] #[true,false,false,false,false,false,false]).contains 1 = true)
    (f2:Region.free .any #[o0,o1,o2,o3,o4,o5,o6] #[true,true,false,false,false,false,false] 2 = true) (r2:(Region.ready .any #[o0,o1,o2,o3,o4,o5,o6] #[true,true,false,false,false,false,false]).contains 2 = true)
    (f3:Region.free .any #[o0,o1,o2,o3,o4,o5,o6] #[true,true,true,false,false,false,false] 3 = true) (r3:(Region.ready .any #[o0,o1,o2,o3,o4,o5,o6] #[true,true,true,false,false,false,false]).contains 3 = true)
    (f4:Region.free .any #[o0,o1,o2,o3,o4,o5,o6] #[true,true,true,true,false,false,false] 4 = true) (r4:(Region.ready .any #[o0,o1,o2,o3,o4,o5,o6] #[true,true,true,true,false,false,false]).contains 4 = true)
    (r5:Region.ready .any #[o0,o1,o2,o3,o4,o5,o6] #[true,true,true,true,true,false,false] = [5]) (f6:Region.free .any #[o0,o1,o2,o3,o4,o5,o6] #[true,true,true,true,true,true,false] 6 = true) (r6:(Region.ready .any #[o0,o1,o2,o3,o4,o5,o6] #[true,true,true,true,true,true,false]).contains 6 = true) (rr:Region.ready .any #[o0,o1,o2,o3,o4,o5,o6] #[true,true,true,true,true,true,true] = []) (g5:o5.guard = none) (hS:S w.drew)
    (v0 v1 v2 v3 v4 v6:Value) (A0 A1 A2 A3 A4 A6:Act)
    (p0:a.put o0.dst v0 = A0) (p1:A0.put o1.dst v1 = A1) (p2:A1.put o2.dst v2 = A2) (p3:A2.put o3.dst v3 = A3) (p4:A3.put o4.dst v4 = A4) (p6:A4.put o6.dst v6 = A6) 
    (hy0:YieldsIf P #[o0,o1,o2,o3,o4,o5,o6] S o0 v0 a)
    (hy1:YieldsIf P #[o0,o1,o2,o3,o4,o5,o6] S o1 v1 A0)
    (hy2:YieldsIf P #[o0,o1,o2,o3,o4,o5,o6] S o2 v2 A1)
    (hy3:YieldsIf P #[o0,o1,o2,o3,o4,o5,o6] S o3 v3 A2)
    (hy4:YieldsIf P #[o0,o1,o2,o3,o4,o5,o6] S o4 v4 A3)
    (hy6:YieldsIf P #[o0,o1,o2,o3,o4,o5,o6] S o6 v6 A4)
    (W1:World) (s5:∀ K:Act→World→Prop,K A4 W1→o5.wp P A4 w.drew K (NoPanic Q)) (k5:S W1) (h:Q .normal A6 W1) :
    (Code.region id #[o0,o1,o2,o3,o4,o5,o6] true).wp P Q a w:=by
  subst p0 p1 p2 p3 p4 p6
  refine wp_region_noPanic ?_
  refine wp_region_held_drew (S:=S) hm hS (fun hH=>?_)
  show wpAnyH P .any #[o0,o1,o2,o3,o4,o5,o6] (NoPanic Q) S 7 #[false,false,false,false,false,false,false] a w.drew
  refine wpAnyH_take (i:=0) (oi:=o0) rfl hs f0 r0 (fun _ _ _ h=>h) hy0 hS ?_
  refine wpAnyH_take (i:=1) (oi:=o1) rfl hs f1 r1 (fun _ _ _ h=>h) hy1 hS ?_
  refine wpAnyH_take (i:=2) (oi:=o2) rfl hs f2 r2 (fun _ _ _ h=>h) hy2 hS ?_
  refine wpAnyH_take (i:=3) (oi:=o3) rfl hs f3 r3 (fun _ _ _ h=>h) hy3 hS ?_
  refine wpAnyH_take (i:=4) (oi:=o4) rfl hs f4 r4 (fun _ _ _ h=>h) hy4 hS ?_
  refine wpAnyH_ready (rs:=[5]) r5 (by simp) (AllReadyH.cons (o:=o5) rfl (fun K hK=>?_) AllReadyH.nil)
  have wa:∀ y,Region.wanted o5 y = true:=fun y=>by unfold Region.wanted; rw [g5]
  rw [if_pos (wa _)]
  refine s5 K (hK.out _ _ k5 (fun _=>?_))
  refine wpAnyH_take (i:=6) (oi:=o6) rfl hs f6 r6 (fun _ _ _ h=>h) hy6 k5 ?_
  exact ⟨rr,NoPanic.normal h⟩
end
end
section
open Go Go.RowKit Go.BigFrame
section
variable {P:Program} {Q:Exit→Act→World→Prop}
theorem xb7w {id:Nat} {o0 o1 o2 o3 o4 o5 o6 o7 o8 o9 o10 o11 o12 o13 o14 o15 o16 o17 o18 o19:Oper} {a:Act} {w:World} (hm:P.follows .mixedOrders = true) (hs:Region.noSelect #[o0,o1,o2,o3,o4,o5,o6,o7,o8,o9,o10,o11,o12,o13,o14,o15,o16,o17,o18,o19] = true)
    (f0:Region.free .any #[o0,o1,o2,o3,o4,o5,o6,o7,o8,o9,o10,o11,o12,o13,o14,o15,o16,o17,o18,o19] #[false,false,false,false,false,false,false,false,false,false,false,false,false,false,false,false,false,false,false,false] 0 = true) (r0:(Region.ready .any #[o0,o1,o2,o3,o4,o5,o6,o7,o8,o9,o10,o11,o12,o13,o14,o15,o16,o17,o18,o19] #[false,false,false,false,false,false,false,false,false,false,false,false,false,false,false,false,false,false,false,false]).contains 0 = true)
    (f1:Region.free .any #[o0,o1,o2,o3,o4,o5,o6,o7,o8,o9,o10,o11,o12,o13,o14,o15,o16,o17,o18,o19] #[true,false,false,false,false,false,false,false,false,false,false,false,false,false,false,false,false,false,false,false] 1 = true) (r1:(Region.ready .any #[o0,o1,o2,o3,o4,o5,o6,o7,o8,o9,o10,o11,o12,o13,o14,o15,o16,o17,o18,o19] #[true,false,false,false,false,false,false,false,false,false,false,false,false,false,false,false,false,false,false,false]).contains 1 = true)
    (f2:Region.free .any #[o0,o1,o2,o3,o4,o5,o6,o7,o8,o9,o10,o11,o12,o13,o14,o15,o16,o17,o18,o19] #[true,true,false,false,false,false,false,false,false,false,false,false,false,false,false,false,false,false,false,false] 2 = true) (r2:(Region.ready .any #[o0,o1,o2,o3,o4,o5,o6,o7,o8,o9,o10,o11,o12,o13,o14,o15,o16,o17,o18,o19] #[true,true,false,false,false,false,false,false,false,false,false,false,false,false,false,false,false,false,false,false]).contains 2 = true)
    (f3:Region.free .any #[o0,o1,o2,o3,o4,o5,o6,o7,o8,o9,o10,o11,o12,o13,o14,o15,o16,o17,o18,o19] #[true,true,true,false,false,false,false,false,false,false,false,false,false,false,false,false,false,false,false,false] 3 = true) (r3:(Region.ready .any #[o0,o1,o2,o3,o4,o5,o6,o7,o8,o9,o10,o11,o12,o13,o14,o15,o16,o17,o18,o19] #[true,true,true,false,false,false,false,false,false,false,false,false,false,false,false,false,false,false,false,false]).contains 3 = true)
    (f4:Region.free .any #[o0,o1,o2,o3,o4,o5,o6,o7,o8,o9,o10,o11,o12,o13,o14,o15,o16,o17,o18,o19] #[true,true,true,true,false,false,false,false,false,false,false,false,false,false,false,false,false,false,false,false] 4 = true) (r4:(Region.ready .any #[o0,o1,o2,o3,o4,o5,o6,o7,o8,o9,o10,o11,o12,o13,o14,o15,o16,o17,o18,o19] #[true,true,true,true,false,false,false,false,false,false,false,false,false,false,false,false,false,false,false,false]).contains 4 = true)
    (f5:Region.free .any #[o0,o1,o2,o3,o4,o5,o6,o7,o8,o9,o10,o11,o12,o13,o14,o15,o16,o17,o18,o19] #[true,true,true,true,true,false,false,false,false,false,false,false,false,false,false,false,false,false,false,false] 5 = true) (r5:(Region.ready .any #[o0,o1,o2,o3,o4,o5,o6,o7,o8,o9,o10,o11,o12,o13,o14,o15,o16,o17,o18,o19] #[true,true,true,true,true,false,false,false,false,false,false,false,false,false,false,false,false,false,false,false]).contains 5 = true)
    (f6:Region.free .any #[o0,o1,o2,o3,o4,o5,o6,o7,o8,o9,o10,o11,o12,o13,o14,o15,o16,o17,o18,o19] #[true,true,true,true,true,true,false,false,false,false,false,false,false,false,false,false,false,false,false,false] 6 = true) (r6:(Region.ready .any #[o0,o1,o2,o3,o4,o5,o6,o7,o8,o9,o10,o11,o12,o13,o14,o15,o16,o17,o18,o19] #[true,true,true,true,true,true,false,false,false,false,false,false,false,false,false,false,false,false,false,false]).contains 6 = true)
    (f7:Region.free .any #[o0,o1,o2,o3,o4,o5,o6,o7,o8,o9,o10,o11,o12,o13,o14,o15,o16,o17,o18,o19] #[true,true,true,true,true,true,true,false,false,false,false,false,false,false,false,false,false,false,false,false] 7 = true) (r7:(Region.ready .any #[o0,o1,o2,o3,o4,o5,o6,o7,o8,o9,o10,o11,o12,o13,o14,o15,o16,o17,o18,o19] #[true,true,true,true,true,true,true,false,false,false,false,false,false,false,false,false,false,false,false,false]).contains 7 = true)
    (f8:Region.free .any #[o0,o1,o2,o3,o4,o5,o6,o7,o8,o9,o10,o11,o12,o13,o14,o15,o16,o17,o18,o19] #[true,true,true,true,true,true,true,true,false,false,false,false,false,false,false,false,false,false,false,false] 8 = true) (r8:(Region.ready .any #[o0,o1,o2,o3,o4,o5,o6,o7,o8,o9,o10,o11,o12,o13,o14,o15,o16,o17,o18,o19] #[true,true,true,true,true,true,true,true,false,false,false,false,false,false,false,false,false,false,false,false]).contains 8 = true)
    (f9:Region.free .any #[o0,o1,o2,o3,o4,o5,o6,o7,o8,o9,o10,o11,o12,o13,o14,o15,o16,o17,o18,o19] #[true,true,true,true,true,true,true,true,true,false,false,false,false,false,false,false,false,false,false,false] 9 = true) (r9:(Region.ready .any #[o0,o1,o2,o3,o4,o5,o6,o7,o8,o9,o10,o11,o12,o13,o14,o15,o16,o17,o18,o19] #[true,true,true,true,true,true,true,true,true,false,false,false,false,false,false,false,false,false,false,false]).contains 9 = true)
    (f10:Region.free .any #[o0,o1,o2,o3,o4,o5,o6,o7,o8,o9,o10,o11,o12,o13,o14,o15,o16,o17,o18,o19] #[true,true,true,true,true,true,true,true,true,true,false,false,false,false,false,false,false,false,false,false] 10 = true) (r10:(Region.ready .any #[o0,o1,o2,o3,o4,o5,o6,o7,o8,o9,o10,o11,o12,o13,o14,o15,o16,o17,o18,o19] #[true,true,true,true,true,true,true,true,true,true,false,false,false,false,false,false,false,false,false,false]).contains 10 = true)
    (f11:Region.free .any #[o0,o1,o2,o3,o4,o5,o6,o7,o8,o9,o10,o11,o12,o13,o14,o15,o16,o17,o18,o19] #[true,true,true,true,true,true,true,true,true,true,true,false,false,false,false,false,false,false,false,false] 11 = true) (r11:(Region.ready .any #[o0,o1,o2,o3,o4,o5,o6,o7,o8,o9,o10,o11,o12,o13,o14,o15,o16,o17,o18,o19] #[true,true,true,true,true,true,true,true,true,true,true,false,false,false,false,false,false,false,false,false]).contains 11 = true)
    (f12:Region.free .any #[o0,o1,o2,o3,o4,o5,o6,o7,o8,o9,o10,o11,o12,o13,o14,o15,o16,o17,o18,o19] #[true,true,true,true,true,true,true,true,true,true,true,true,false,false,false,false,false,false,false,false] 12 = true) (r12:(Region.ready .any #[o0,o1,o2,o3,o4,o5,o6,o7,o8,o9,o10,o11,o12,o13,o14,o15,o16,o17,o18,o19] #[true,true,true,true,true,true,true,true,true,true,true,true,false,false,false,false,false,false,false,false]).contains 12 = true)
    (qs:Region.ready .any #[o0,o1,o2,o3,o4,o5,o6,o7,o8,o9,o10,o11,o12,o13,o14,o15,o16,o17,o18,o19] #[true,true,true,true,true,true,true,true,true,true,true,true,true,false,false,false,false,false,false,false] = [13,17])
    (fA14:Region.free .any #[o0,o1,o2,o3,o4,o5,o6,o7,o8,o9,o10,o11,o12,o13,o14,o15,o16,o17,o18,o19] #[true,true,true,true,true,true,true,true,true,true,true,true,true,true,false,false,false,false,false,false] 14 = true) (rA14:(Region.ready .any #[o0,o1,o2,o3,o4,o5,o6,o7,o8,o9,o10,o11,o12,o13,o14,o15,o16,o17,o18,o19] #[true,true,true,true,true,true,true,true,true,true,true,true,true,true,false,false,false,false,false,false]).contains 14 = true)
    (fA15:Region.free .any #[o0,o1,o2,o3,o4,o5,o6,o7,o8,o9,o10,o11,o12,o13,o14,o15,o16,o17,o18,o19] #[true,true,true,true,true,true,true,true,true,true,true,true,true,true,true,false,false,false,false,false] 15 = true) (rA15:(Region.ready .any #[o0,o1,o2,o3,o4,o5,o6,o7,o8,o9,o10,o11,o12,o13,o14,o15,o16,o17,o18,o19] #[true,true,true,true,true,true,true,true,true,true,true,true,true,true,true,false,false,false,false,false]).contains 15 = true)
    (fA16:Region.free .any #[o0,o1,o2,o3,o4,o5,o6,o7,o8,o9,o10,o11,o12,o13,o14,o15,o16,o17,o18,o19] #[true,true,true,true,true,true,true,true,true,true,true,true,true,true,true,true,false,false,false,false] 16 = true) (rA16:(Region.ready .any #[o0,o1,o2,o3,o4,o5,o6,o7,o8,o9,o10,o11,o12,o13,o14,o15,o16,o17,o18,o19] #[true,true,true,true,true,true,true,true,true,true,true,true,true,true,true,true,false,false,false,false]).contains 16 = true)
    (rAal:Region.ready .any #[o0,o1,o2,o3,o4,o5,o6,o7,o8,o9,o10,o11,o12,o13,o14,o15,o16,o17,o18,o19] #[true,true,true,true,true,true,true,true,true,true,true,true,true,true,true,true,true,false,false,false] = [17])
    (rBc:Region.ready .any #[o0,o1,o2,o3,o4,o5,o6,o7,o8,o9,o10,o11,o12,o13,o14,o15,o16,o17,o18,o19] #[true,true,true,true,true,true,true,true,true,true,true,true,true,false,false,false,false,true,false,false] = [13])
    (fB14:Region.free .any #[o0,o1,o2,o3,o4,o5,o6,o7,o8,o9,o10,o11,o12,o13,o14,o15,o16,o17,o18,o19] #[true,true,true,true,true,true,true,true,true,true,true,true,true,true,false,false,false,true,false,false] 14 = true) (rB14:(Region.ready .any #[o0,o1,o2,o3,o4,o5,o6,o7,o8,o9,o10,o11,o12,o13,o14,o15,o16,o17,o18,o19] #[true,true,true,true,true,true,true,true,true,true,true,true,true,true,false,false,false,true,false,false]).contains 14 = true)
    (fB15:Region.free .any #[o0,o1,o2,o3,o4,o5,o6,o7,o8,o9,o10,o11,o12,o13,o14,o15,o16,o17,o18,o19] #[true,true,true,true,true,true,true,true,true,true,true,true,true,true,true,false,false,true,false,false] 15 = true) (rB15:(Region.ready .any #[o0,o1,o2,o3,o4,o5,o6,o7,o8,o9,o10,o11,o12,o13,o14,o15,o16,o17,o18,o19] #[true,true,true,true,true,true,true,true,true,true,true,true,true,true,true,false,false,true,false,false]).contains 15 = true)
    (fB16:Region.free .any #[o0,o1,o2,o3,o4,o5,o6,o7,o8,o9,o10,o11,o12,o13,o14,o15,o16,o17,o18,o19] #[true,true,true,true,true,true,true,true,true,true,true,true,true,true,true,true,false,true,false,false] 16 = true) (rB16:(Region.ready .any #[o0,o1,o2,o3,o4,o5,o6,o7,o8,o9,o10,o11,o12,o13,o14,o15,o16,o17,o18,o19] #[true,true,true,true,true,true,true,true,true,true,true,true,true,true,true,true,false,true,false,false]).contains 16 = true)
    (rst:Region.ready .any #[o0,o1,o2,o3,o4,o5,o6,o7,o8,o9,o10,o11,o12,o13,o14,o15,o16,o17,o18,o19] #[true,true,true,true,true,true,true,true,true,true,true,true,true,true,true,true,true,true,false,false] = [18])
    (f19:Region.free .any #[o0,o1,o2,o3,o4,o5,o6,o7,o8,o9,o10,o11,o12,o13,o14,o15,o16,o17,o18,o19] #[true,true,true,true,true,true,true,true,true,true,true,true,true,true,true,true,true,true,true,false] 19 = true) (r19:(Region.ready .any #[o0,o1,o2,o3,o4,o5,o6,o7,o8,o9,o10,o11,o12,o13,o14,o15,o16,o17,o18,o19] #[true,true,true,true,true,true,true,true,true,true,true,true,true,true,true,true,true,true,true,false]).contains 19 = true)
    (rr:Region.ready .any #[o0,o1,o2,o3,o4,o5,o6,o7,o8,o9,o10,o11,o12,o13,o14,o15,o16,o17,o18,o19] #[true,true,true,true,true,true,true,true,true,true,true,true,true,true,true,true,true,true,true,true] = []) (gc:o13.guard = none) (gal:o17.guard = none) (gst:o18.guard = none)
    (v0 v1 v2 v3 v4 v5 v6 v7 v8 v9 v10 v11 v12 v13 v14 v15 v16 v19:Value) (A0 A1 A2 A3 A4 A5 A6 A7 A8 A9 A10 A11 A12:Act)
    (p0:a.put o0.dst v0 = A0) (p1:A0.put o1.dst v1 = A1) (p2:A1.put o2.dst v2 = A2) (p3:A2.put o3.dst v3 = A3) (p4:A3.put o4.dst v4 = A4) (p5:A4.put o5.dst v5 = A5) (p6:A5.put o6.dst v6 = A6) (p7:A6.put o7.dst v7 = A7) (p8:A7.put o8.dst v8 = A8) (p9:A8.put o9.dst v9 = A9) (p10:A9.put o10.dst v10 = A10) (p11:A10.put o11.dst v11 = A11) (p12:A11.put o12.dst v12 = A12) 
    (hy0:YieldsIf P #[o0,o1,o2,o3,o4,o5,o6,o7,o8,o9,o10,o11,o12,o13,o14,o15,o16,o17,o18,o19] (fun w'=>Kept [] w w') o0 v0 a)
    (hy1:YieldsIf P #[o0,o1,o2,o3,o4,o5,o6,o7,o8,o9,o10,o11,o12,o13,o14,o15,o16,o17,o18,o19] (fun w'=>Kept [] w w') o1 v1 A0)
    (hy2:YieldsIf P #[o0,o1,o2,o3,o4,o5,o6,o7,o8,o9,o10,o11,o12,o13,o14,o15,o16,o17,o18,o19] (fun w'=>Kept [] w w') o2 v2 A1)
    (hy3:YieldsIf P #[o0,o1,o2,o3,o4,o5,o6,o7,o8,o9,o10,o11,o12,o13,o14,o15,o16,o17,o18,o19] (fun w'=>Kept [] w w') o3 v3 A2)
    (hy4:YieldsIf P #[o0,o1,o2,o3,o4,o5,o6,o7,o8,o9,o10,o11,o12,o13,o14,o15,o16,o17,o18,o19] (fun w'=>Kept [] w w') o4 v4 A3)
    (hy5:YieldsIf P #[o0,o1,o2,o3,o4,o5,o6,o7,o8,o9,o10,o11,o12,o13,o14,o15,o16,o17,o18,o19] (fun w'=>Kept [] w w') o5 v5 A4)
    (hy6:YieldsIf P #[o0,o1,o2,o3,o4,o5,o6,o7,o8,o9,o10,o11,o12,o13,o14,o15,o16,o17,o18,o19] (fun w'=>Kept [] w w') o6 v6 A5)
    (hy7:YieldsIf P #[o0,o1,o2,o3,o4,o5,o6,o7,o8,o9,o10,o11,o12,o13,o14,o15,o16,o17,o18,o19] (fun w'=>Kept [] w w') o7 v7 A6)
    (hy8:YieldsIf P #[o0,o1,o2,o3,o4,o5,o6,o7,o8,o9,o10,o11,o12,o13,o14,o15,o16,o17,o18,o19] (fun w'=>Kept [] w w') o8 v8 A7)
    (hy9:YieldsIf P #[o0,o1,o2,o3,o4,o5,o6,o7,o8,o9,o10,o11,o12,o13,o14,o15,o16,o17,o18,o19] (fun w'=>Kept [] w w') o9 v9 A8)
    (hy10:YieldsIf P #[o0,o1,o2,o3,o4,o5,o6,o7,o8,o9,o10,o11,o12,o13,o14,o15,o16,o17,o18,o19] (fun w'=>Kept [] w w') o10 v10 A9)
    (hy11:YieldsIf P #[o0,o1,o2,o3,o4,o5,o6,o7,o8,o9,o10,o11,o12,o13,o14,o15,o16,o17,o18,o19] (fun w'=>Kept [] w w') o11 v11 A10)
    (hy12:YieldsIf P #[o0,o1,o2,o3,o4,o5,o6,o7,o8,o9,o10,o11,o12,o13,o14,o15,o16,o17,o18,o19] (fun w'=>Kept [] w w') o12 v12 A11)
    (kcA:∀ w0,Kept [] w w0→∀ K:Act→World→Prop,(∀ w1,Kept [] w0 w1→K (A12.put o13.dst v13) w1)→o13.wp P A12 w0 K (NoPanic Q))
    (kcB:∀ (g:Nat) w0,Kept [] w w0→∀ K:Act→World→Prop,(∀ w1,Kept [] w0 w1→K ((A12.put o17.dst (.pointer (some ⟨g,0,none⟩))).put o13.dst v13) w1)→o13.wp P (A12.put o17.dst (.pointer (some ⟨g,0,none⟩))) w0 K (NoPanic Q))
    (hA14:YieldsIf P #[o0,o1,o2,o3,o4,o5,o6,o7,o8,o9,o10,o11,o12,o13,o14,o15,o16,o17,o18,o19] (fun w'=>Kept [] w w') o14 v14 (A12.put o13.dst v13))
    (hB14:∀ g:Nat,YieldsIf P #[o0,o1,o2,o3,o4,o5,o6,o7,o8,o9,o10,o11,o12,o13,o14,o15,o16,o17,o18,o19] (fun w'=>Kept [] w w') o14 v14 ((A12.put o17.dst (.pointer (some ⟨g,0,none⟩))).put o13.dst v13))
    (hA15:YieldsIf P #[o0,o1,o2,o3,o4,o5,o6,o7,o8,o9,o10,o11,o12,o13,o14,o15,o16,o17,o18,o19] (fun w'=>Kept [] w w') o15 v15 ((A12.put o13.dst v13).put o14.dst v14))
    (hB15:∀ g:Nat,YieldsIf P #[o0,o1,o2,o3,o4,o5,o6,o7,o8,o9,o10,o11,o12,o13,o14,o15,o16,o17,o18,o19] (fun w'=>Kept [] w w') o15 v15 (((A12.put o17.dst (.pointer (some ⟨g,0,none⟩))).put o13.dst v13).put o14.dst v14))
    (hA16:YieldsIf P #[o0,o1,o2,o3,o4,o5,o6,o7,o8,o9,o10,o11,o12,o13,o14,o15,o16,o17,o18,o19] (fun w'=>Kept [] w w') o16 v16 (((A12.put o13.dst v13).put o14.dst v14).put o15.dst v15))
    (hB16:∀ g:Nat,YieldsIf P #[o0,o1,o2,o3,o4,o5,o6,o7,o8,o9,o10,o11,o12,o13,o14,o15,o16,o17,o18,o19] (fun w'=>Kept [] w w') o16 v16 ((((A12.put o17.dst (.pointer (some ⟨g,0,none⟩))).put o13.dst v13).put o14.dst v14).put o15.dst v15))
    (ty:TypeId) (Z cs:Array Value) (hal:∀ (a':Act) (w':World) (K:Act→World→Prop),K (a'.put o17.dst (.pointer (some ⟨w'.heap.size,0,none⟩))) (w'.alloc (.cells Z ty))→o17.wp P a' w' K (NoPanic Q))
    (ne13:∀ d,o17.dst = some d→o13.dst≠some d)
    (ne14:∀ d,o17.dst = some d→o14.dst≠some d)
    (ne15:∀ d,o17.dst = some d→o15.dst≠some d)
    (ne16:∀ d,o17.dst = some d→o16.dst≠some d)
    (hst:∀ (g:Nat) (w':World) (K:Act→World→Prop),w'.heap[g]? = some (.cells Z ty (0,0))→K (((((A12.put o13.dst v13).put o14.dst v14).put o15.dst v15).put o16.dst v16).put o17.dst (.pointer (some ⟨g,0,none⟩))) (w'.setRow g cs)→o18.wp P (((((A12.put o13.dst v13).put o14.dst v14).put o15.dst v15).put o16.dst v16).put o17.dst (.pointer (some ⟨g,0,none⟩))) w' K (NoPanic Q))
    (hyl:∀ g:Nat,YieldsIf P #[o0,o1,o2,o3,o4,o5,o6,o7,o8,o9,o10,o11,o12,o13,o14,o15,o16,o17,o18,o19] (fun w'=>Kept [] w w') o19 v19 (((((A12.put o13.dst v13).put o14.dst v14).put o15.dst v15).put o16.dst v16).put o17.dst (.pointer (some ⟨g,0,none⟩))))
    (h:∀ (g:Nat) (w':World),w.heap.size≤g→Kept [] w w'→w'.heap[g]? = some (.cells cs ty (0,0))→Q .normal ((((((A12.put o13.dst v13).put o14.dst v14).put o15.dst v15).put o16.dst v16).put o17.dst (.pointer (some ⟨g,0,none⟩))).put o19.dst v19) w') :
    (Code.region id #[o0,o1,o2,o3,o4,o5,o6,o7,o8,o9,o10,o11,o12,o13,o14,o15,o16,o17,o18,o19] true).wp P Q a w:=by
  subst p0 p1 p2 p3 p4 p5 p6 p7 p8 p9 p10 p11 p12
  have k00:Kept [] w w.drew:=(Kept.refl [] w).drew
  refine wp_region_noPanic ?_
  refine wp_region_held_drew (S:=fun w'=>Kept [] w w') hm k00 (fun hH=>?_)
  show wpAnyH P .any #[o0,o1,o2,o3,o4,o5,o6,o7,o8,o9,o10,o11,o12,o13,o14,o15,o16,o17,o18,o19] (NoPanic Q) _ 20 #[false,false,false,false,false,false,false,false,false,false,false,false,false,false,false,false,false,false,false,false] a w.drew
  refine wpAnyH_take (i:=0) (oi:=o0) rfl hs f0 r0 (fun _ _ _ h=>h) hy0 k00 ?_
  refine wpAnyH_take (i:=1) (oi:=o1) rfl hs f1 r1 (fun _ _ _ h=>h) hy1 k00 ?_
  refine wpAnyH_take (i:=2) (oi:=o2) rfl hs f2 r2 (fun _ _ _ h=>h) hy2 k00 ?_
  refine wpAnyH_take (i:=3) (oi:=o3) rfl hs f3 r3 (fun _ _ _ h=>h) hy3 k00 ?_
  refine wpAnyH_take (i:=4) (oi:=o4) rfl hs f4 r4 (fun _ _ _ h=>h) hy4 k00 ?_
  refine wpAnyH_take (i:=5) (oi:=o5) rfl hs f5 r5 (fun _ _ _ h=>h) hy5 k00 ?_
  refine wpAnyH_take (i:=6) (oi:=o6) rfl hs f6 r6 (fun _ _ _ h=>h) hy6 k00 ?_
  refine wpAnyH_take (i:=7) (oi:=o7) rfl hs f7 r7 (fun _ _ _ h=>h) hy7 k00 ?_
  refine wpAnyH_take (i:=8) (oi:=o8) rfl hs f8 r8 (fun _ _ _ h=>h) hy8 k00 ?_
  refine wpAnyH_take (i:=9) (oi:=o9) rfl hs f9 r9 (fun _ _ _ h=>h) hy9 k00 ?_
  refine wpAnyH_take (i:=10) (oi:=o10) rfl hs f10 r10 (fun _ _ _ h=>h) hy10 k00 ?_
  refine wpAnyH_take (i:=11) (oi:=o11) rfl hs f11 r11 (fun _ _ _ h=>h) hy11 k00 ?_
  refine wpAnyH_take (i:=12) (oi:=o12) rfl hs f12 r12 (fun _ _ _ h=>h) hy12 k00 ?_
  generalize (((((((((((((a.put o0.dst v0).put o1.dst v1).put o2.dst v2).put o3.dst v3).put o4.dst v4).put o5.dst v5).put o6.dst v6).put o7.dst v7).put o8.dst v8).put o9.dst v9).put o10.dst v10).put o11.dst v11).put o12.dst v12) = B at *
  have wc:∀ y,Region.wanted o13 y = true:=fun y=>by unfold Region.wanted; rw [gc]
  have wal:∀ y,Region.wanted o17 y = true:=fun y=>by unfold Region.wanted; rw [gal]
  have wst:∀ y,Region.wanted o18 y = true:=fun y=>by unfold Region.wanted; rw [gst]
  have tail:∀ (g:Nat) (w0:World),w.heap.size≤g→Kept [] w w0→w0.heap[g]? = some (.cells Z ty (0,0))→wpAnyH P .any #[o0,o1,o2,o3,o4,o5,o6,o7,o8,o9,o10,o11,o12,o13,o14,o15,o16,o17,o18,o19] (NoPanic Q) (fun w'=>Kept [] w w') 2 #[true,true,true,true,true,true,true,true,true,true,true,true,true,true,true,true,true,true,false,false] (((((B.put o13.dst v13).put o14.dst v14).put o15.dst v15).put o16.dst v16).put o17.dst (.pointer (some ⟨g,0,none⟩))) w0:=by
    intro g w0 hg k0 hz
    refine wpAnyH_ready (rs:=[18]) rst (by simp) (AllReadyH.cons (o:=o18) rfl (fun K hK=>?_) AllReadyH.nil)
    rw [if_pos (wst _)]
    have k1:=k0.setRow (Or.inr hg) cs
    refine hst g w0 K hz (hK.out _ _ k1 (fun _=>?_))
    refine wpAnyH_take (i:=19) (oi:=o19) rfl hs f19 r19 (fun _ _ _ h=>h) (hyl g) k1 ?_
    exact ⟨rr,NoPanic.normal (h g _ hg k1 (setRow_heap _ _ _ _ _ _ hz))⟩
  refine wpAnyH_ready (rs:=[13,17]) qs (by simp) (AllReadyH.cons (o:=o13) rfl (fun K hK=>?_) (AllReadyH.cons (o:=o17) rfl (fun K hK=>?_) AllReadyH.nil))
  · rw [if_pos (wc _)]
    refine kcA _ k00 K (fun w1 k1=>hK.out _ _ (k00.trans k1 (by simp)) (fun _=>?_))
    have k2:=k00.trans k1 (by simp)
    clear hK
    refine wpAnyH_take (i:=14) (oi:=o14) rfl hs fA14 rA14 (fun _ _ _ h=>h) hA14 k2 ?_
    refine wpAnyH_take (i:=15) (oi:=o15) rfl hs fA15 rA15 (fun _ _ _ h=>h) hA15 k2 ?_
    refine wpAnyH_take (i:=16) (oi:=o16) rfl hs fA16 rA16 (fun _ _ _ h=>h) hA16 k2 ?_
    refine wpAnyH_ready (rs:=[17]) rAal (by simp) (AllReadyH.cons (o:=o17) rfl (fun K hK=>?_) AllReadyH.nil)
    rw [if_pos (wal _)]
    refine hal _ _ K (hK.out _ _ (k2.alloc _) (fun _=>?_))
    exact tail w1.heap.size _ k2.size (k2.alloc _) (heap_alloc_new _ _)
  · rw [if_pos (wal _)]
    refine hal _ _ K (hK.out _ _ (k00.alloc _) (fun _=>?_))
    clear hK
    refine wpAnyH_ready (rs:=[13]) rBc (by simp) (AllReadyH.cons (o:=o13) rfl (fun K hK=>?_) AllReadyH.nil)
    rw [if_pos (wc _)]
    refine kcB _ _ (k00.alloc _) K (fun w1 k1=>hK.out _ _ ((k00.alloc _).trans k1 (by simp)) (fun _=>?_))
    have k2:=(k00.alloc (.cells Z ty)).trans k1 (by simp)
    have hz:=k1.heap (heap_alloc_new w.drew (.cells Z ty)) (by simp)
    clear hK
    refine wpAnyH_take (i:=14) (oi:=o14) rfl hs fB14 rB14 (fun _ _ _ h=>h) (hB14 _) k2 ?_
    refine wpAnyH_take (i:=15) (oi:=o15) rfl hs fB15 rB15 (fun _ _ _ h=>h) (hB15 _) k2 ?_
    refine wpAnyH_take (i:=16) (oi:=o16) rfl hs fB16 rB16 (fun _ _ _ h=>h) (hB16 _) k2 ?_
    rw [Act.put_comm _ _ _ ne13]; rw [Act.put_comm _ _ _ ne14]; rw [Act.put_comm _ _ _ ne15]; rw [Act.put_comm _ _ _ ne16]
    exact tail w.drew.heap.size _ (Nat.le_refl _) k2 hz
end
end
section
open Go.RowKit Go.BigFrame
theorem xa7v (e:Nat) (z:Int) (p:List Nat):Dg (sunD e z p):=⟨xa9j _ _ _,by
  unfold sunD sumD
  split
  · split
    · exact xa6b _ _ (xa3y _)
    · intro x hx; simp at hx; omega
  · intro x hx; simp at hx; omega⟩
theorem RdS.nil (w:World):RdS w (.slice none 0 0) []:=⟨none,0,0,[],rfl,rfl,Nat.le_refl _,by omega,fun i hi=>by omega,fun h=>by omega⟩
theorem RdS.less {w:World} {ao:Option Addr} {n c:Nat} {ss:List (Nat × List (List Nat))} (h:RdS w (.slice ao n c) ss) (m:Nat) (hm:m≤n):RdS w (.slice ao m c) (ss.take m):=by
  obtain ⟨_,_,_,vs,he,h1,h2,h3,h4,h5⟩:=h
  cases he
  refine ⟨_,m,c,vs,rfl,by simp [h1]; omega,by omega,h3,fun i hi=>?_,fun hp=>?_⟩
  · have:=h4 i (by omega)
    rw [List.getD_eq_getElem?_getD,List.getElem?_take_of_lt hi,← List.getD_eq_getElem?_getD]
    exact this
  · obtain ⟨b,off,e,hc⟩:=h5 (by omega)
    refine ⟨b,off,e,fun i hi=>?_⟩
    rw [List.getD_eq_getElem?_getD,List.getElem?_take_of_lt hi,← List.getD_eq_getElem?_getD]
    exact hc i (by omega)
theorem xa9v {o:Oper} {a:Act} {w:World} {K:Act→World→Prop} {Q:Exit→Act→World→Prop} (x0 x1 x2:Operand) (ts:Array TypeId) (ho:o.op = .call { callee:=.value (.func 79),args:=#[x0,x1,x2],argTypes:=ts }) (u0 u1 u2 v:Value) (e0:a.eval x0 = u0) (e1:a.eval x1 = u1) (e2:a.eval x2 = u2)
    (hc:Calls Tryz.prog 79 #[u0,u1,u2] w fun e w'=>e = .returned v∧Kept [] w w') (h:∀ w1,Kept [] w w1→K (a.put o.dst v) w1):o.wp Tryz.prog a w K Q:=by
  unfold Oper.wp execOp
  simp only [ho]
  have hf:a.eval (.func 79) = .func (.func 79) #[] #[]:=rfl
  have hcl:∀ args W,(callFunc 79 args).run Tryz.prog W = .ok (.enter 79 args) W:=fun args W=>Tryz.call79 args W
  simp only [resolve,invoke,hf,e0,e1,e2,Sem.run_bind,Sem.run_pure,Result.andThen_ok,List.map_toArray,List.map_cons,List.map_nil,hcl]
  simp [Deferred.ofValue,hcl,go_sem]
  refine hc.mono ?_
  rintro e w2 ⟨rfl,k2⟩
  exact h w2 k2
set_option maxHeartbeats 4000000 in
theorem xc0f (z:Int) (sv pv:Value) (ss:List (Nat × List (List Nat))) (ps:List (List Nat × List Nat)) (w:World) (hw:widthB z = true) (hs:RdS w sv ss) (hp:RdK w pv ps) (hT:Tabs w) (hpb:(pairB ps).length≤1000000000000) :
    Calls Tryz.prog 77 #[.int .i64 z,.agg #[sv,pv]] w fun e w'=>(∃ v',e = .returned (.tuple #[.agg (brow (footD z ss ps)),v'])∧RdS w' v' (ss.take (footN ss ps)))∧Kept [] w w':=by
  obtain ⟨sa,sn,sc,vs0,rfl,_⟩:=id hs
  obtain ⟨pa,pn,pc,_,_,rfl,_⟩:=id hp
  obtain ⟨h1,h2,h3,h4⟩:=hs.cells
  obtain ⟨g1,g2,g3,g4⟩:=hp.cells
  have H4:=hide h4
  have HP:=hide hp
  have HS:=hide hs
  have HT:=hide hT
  have hz:1≤z∧z≤32:=xa2g hw
  clear h4 g4 hp hs hT
  subst h1
  subst g1
  have HK0:=hide (((Kept.refl [] w).alloc (.cells #[.slice sa ss.length sc,.slice pa ps.length pc] 35)).alloc (.cells (zb 32) 50))
  have HG0:=hide (heap_alloc2_old w (.cells #[.slice sa ss.length sc,.slice pa ps.length pc] 35) (.cells (zb 32) 50))
  have HZ0:=hide (heap_alloc2_new w (.cells #[.slice sa ss.length sc,.slice pa ps.length pc] 35) (.cells (zb 32) 50))
  obtain ⟨W,hW⟩:∃ W,(w.alloc (.cells #[.slice sa ss.length sc,.slice pa ps.length pc] 35)).alloc (.cells (zb 32) 50) = W:=⟨_,rfl⟩
  rw [hW] at HK0 HG0 HZ0
  have c0:W.cell? ⟨w.heap.size,0,none⟩ = some (.slice sa ss.length sc):=cell_of_row W w.heap.size 0 _ _ _ (uh HG0)
  have c1:W.cell? ⟨w.heap.size,1,none⟩ = some (.slice pa ps.length pc):=cell_of_row W w.heap.size 1 _ _ _ (uh HG0)
  go_enter Tryz.func77,Tryz.ntmps77
  by_cases hp0:0 < ps.length
  · have hp0':(0:Int) < ps.length:=by omega
    have HD:=hide (by unfold footD; rw [if_pos hp0]:footD z ss ps = sumD z (buckB ps))
    have HN:=hide (by unfold footN; rw [if_pos hp0,List.take_length]:ss.take (footN ss ps) = ss)
    clear hp0
    go_wp2_with (first | (rw [zb32,hW]))
    clear hW
    refine Calls.mono (xa8b z _ ps _ (by omega) ((uh HP).old (uh HK0)) hpb ((uh HT).k (uh HK0))) ?_
    rintro e w1 ⟨rfl,k1⟩
    have HDG:=hide (xa1h z (buckB ps))
    generalize sumD z (buckB ps) = D at HD HDG ⊢
    have hd:=(uh HDG).1
    have kN:=(k1.alloc (.cells (zb 32) 50)).setRow (g:=w1.heap.size) (Or.inr k1.size) (brow D)
    have HN1:=hide (setRow_heap (w1.alloc (.cells (zb 32) 50)) w1.heap.size (zb 32) (brow D) 50 (0,0) (heap_alloc_new _ _))
    have HK1:=hide ((uh HK0).trans kN (by simp))
    have HZ1:=hide (kN.heap (uh HZ0) (by simp))
    have d0:=kN.cell c0 (by simp)
    have HSZ:=hide (Tryz.szD hd)
    have HLT:=hide (Nat.lt_of_lt_of_le (lt_of_block (uh HZ0)) k1.size:w.heap.size + 1 < w1.heap.size)
    clear kN k1 c0 c1 HK0 HZ0 HG0
    go_wp2_with (first
      | (rw [zb32]; refine wpList_store_row rfl 50 _ _ rfl w1.heap.size (brow D) rfl rfl _ (zb 32) (heap_alloc_new _ _) (uh HSZ) (by rw [xa0d,xa0a,hd]) (xa0c _) ?_)
      | (refine wpList_load_row rfl 50 _ rfl w1.heap.size rfl _ (brow D) (0,0) _ (uh HN1) Tryz.underlying50 rfl (uh HSZ) ?_)
      | (refine wpList_store_row rfl 50 _ _ rfl (w.heap.size + 1) (brow D) rfl rfl _ (zb 32) (uh HZ1) (uh HSZ) (by rw [xa0d,xa0a,hd]) (xa0c _) ?_))
    obtain ⟨X,hX⟩:∃ X,(w1.alloc (.cells (zb 32) 50)).setRow w1.heap.size (brow D) = X:=⟨_,rfl⟩
    rw [hX] at HN1 HK1 HZ1 d0 ⊢
    clear hX
    refine wp_rs5 (fun w'=>Kept [w.heap.size + 1] X w') (by kernel_rfl) (by kernel_rfl) (by kernel_rfl) (by kernel_rfl) (by kernel_rfl) (by kernel_rfl) (by kernel_rfl) (by kernel_rfl) (by kernel_rfl) (by kernel_rfl) (by kernel_rfl) (by kernel_rfl) rfl ((Kept.refl _ X).drew)
      (.agg (D.map u8).toArray) (.pointer (some ⟨w.heap.size,0,none⟩)) (.slice sa ss.length sc) (.slice sa ss.length sc) _ _ _ _ (by simp only [Act.put,sa1,sa2,sa3]; rfl) (by simp only [Act.put,sa1,sa2,sa3]; rfl) (by simp only [Act.put,sa1,sa2,sa3]; rfl) (by simp only [Act.put,sa1,sa2,sa3]; rfl)
      (by exact yieldsIf_load_mid (by rfl) _ _ rfl w1.heap.size 0 rfl (D.map u8) _ (fun W' hW'=>xa0v (hW'.heap (uh HN1) (by simp; have:=uh HLT; omega))) Tryz.underlying50 rfl (by rw [List.length_map,hd]; exact Tryz.size_dig))
      (by exact Or.inl ⟨by rfl,fun W' hW'=>by go_simp⟩)
      (by exact Or.inl ⟨by rfl,fun W' hW'=>by have h9:=hW'.cell d0 (by simp); go_simp⟩)
      (by exact Or.inl ⟨by rfl,fun W' hW'=>by go_simp⟩)
      (X.drew.setRow (w.heap.size + 1) (brow D))
      (by intro K hK; exact wp_store_row 50 _ _ rfl (w.heap.size + 1) (brow D) rfl rfl _ (zb 32) (uh HZ1) (uh HSZ) (by rw [xa0d,xa0a,hd]) (xa0c _) hK)
      ((Kept.refl _ X).drew.setRow (Or.inl (by simp)) _) ?_
    have HKF:=hide ((uh HK1).drew.setRow (g:=w.heap.size + 1) (Or.inr (by omega)) (brow D))
    have HZF:=hide (setRow_heap X.drew (w.heap.size + 1) (zb 32) (brow D) 50 (0,0) (uh HZ1))
    go_wp2_with fail
    rw [uh HD,uh HN]
    refine bodyPost_ret (v:=.tuple #[.agg (brow D),.slice sa ss.length sc]) ?_ rfl ⟨⟨_,rfl,(uh HS).old (uh HKF)⟩,uh HKF⟩
    exact xa0e rfl _ _ (w.heap.size + 1) _ (brow D) (0,0) _ rfl (uh HZF) Tryz.underlying50 rfl (uh HSZ) _ rfl
  · have hp0':¬ (0:Int) < ps.length:=by omega
    by_cases hs0:ss.length = 0
    · have hs0':(ss.length:Int) = 0:=by omega
      have HD:=hide (by unfold footD; rw [if_neg hp0,if_pos hs0]:footD z ss ps = sumD z [5])
      have h9:ss = []:=List.eq_nil_of_length_eq_zero hs0
      have HN:=hide (by rw [h9]; simp:ss.take (footN ss ps) = [])
      clear h9
      clear hp0 hs0
      go_wp2_with (first | (rw [zb32,hW]))
      clear hW
      refine Calls.mono (xb6x z _ (by omega) ((uh HT).k (uh HK0))) ?_
      rintro e w1 ⟨rfl,k1⟩
      have HDG:=hide (xa1h z [5])
      generalize sumD z [5] = D at HD HDG ⊢
      have hd:=(uh HDG).1
      have kN:=(k1.alloc (.cells (zb 32) 50)).setRow (g:=w1.heap.size) (Or.inr k1.size) (brow D)
      have HN1:=hide (setRow_heap (w1.alloc (.cells (zb 32) 50)) w1.heap.size (zb 32) (brow D) 50 (0,0) (heap_alloc_new _ _))
      have HK1:=hide ((uh HK0).trans kN (by simp))
      have HZ1:=hide (kN.heap (uh HZ0) (by simp))
      have d0:=kN.cell c0 (by simp)
      have HSZ:=hide (Tryz.szD hd)
      have HLT:=hide (Nat.lt_of_lt_of_le (lt_of_block (uh HZ0)) k1.size:w.heap.size + 1 < w1.heap.size)
      clear kN k1 c0 c1 HK0 HZ0 HG0
      go_wp2_with (first
        | (rw [zb32]; refine wpList_store_row rfl 50 _ _ rfl w1.heap.size (brow D) rfl rfl _ (zb 32) (heap_alloc_new _ _) (uh HSZ) (by rw [xa0d,xa0a,hd]) (xa0c _) ?_)
        | (refine wpList_load_row rfl 50 _ rfl w1.heap.size rfl _ (brow D) (0,0) _ (uh HN1) Tryz.underlying50 rfl (uh HSZ) ?_)
        | (refine wpList_store_row rfl 50 _ _ rfl (w.heap.size + 1) (brow D) rfl rfl _ (zb 32) (uh HZ1) (uh HSZ) (by rw [xa0d,xa0a,hd]) (xa0c _) ?_))
      have HKF:=hide ((uh HK1).setRow (g:=w.heap.size + 1) (Or.inr (by omega)) (brow D))
      have HZF:=hide (setRow_heap ((w1.alloc (.cells (zb 32) 50)).setRow w1.heap.size (brow D)) (w.heap.size + 1) (zb 32) (brow D) 50 (0,0) (uh HZ1))
      rw [uh HD,uh HN]
      refine bodyPost_ret (v:=.tuple #[.agg (brow D),.slice none 0 0]) ?_ rfl ⟨⟨_,rfl,RdS.nil _⟩,uh HKF⟩
      exact xa0e rfl _ _ (w.heap.size + 1) _ (brow D) (0,0) _ rfl (uh HZF) Tryz.underlying50 rfl (uh HSZ) _ rfl
    · have hs0':¬ (ss.length:Int) = 0:=by omega
      have HD:=hide (by unfold footD; rw [if_neg hp0,if_neg hs0]; rfl:footD z ss ps = sunD (branchE z (ss.getD (ss.length - 1) (0,[])).1 (ss.getD (ss.length - 1) (0,[])).2) z (branchB z (ss.getD (ss.length - 1) (0,[])).1 (ss.getD (ss.length - 1) (0,[])).2))
      have HN:=hide (by unfold footN; rw [if_neg hp0]:ss.take (footN ss ps) = ss.take (ss.length - 1))
      obtain ⟨L,hL⟩:∃ L,ss.length - 1 = L:=⟨_,rfl⟩
      have hsub:(ss.length:Int) - 1 = (L:Int):=by omega
      have hLlt:L < ss.length:=by omega
      have hLl:(L:Int) < ss.length:=by omega
      obtain ⟨b,o,v,rfl,e1,e2,hsb,r2⟩:=uh H4 L hLlt
      rw [hL] at HD HN
      have q1:=(uh HK0).cell e1 (by simp)
      have q2:=(uh HK0).cell e2 (by simp)
      have HX:=hide (r2.old (uh HK0))
      clear e1 e2 r2 hL hp0 hs0
      generalize ss.getD L (0,[]) = s at q1 hsb HD HX
      obtain ⟨sb,sk⟩:=s
      simp only at q1 hsb HD HX
      obtain ⟨a8,m8,c8,rfl,hm8,_⟩:=id (uh HX)
      subst hm8
      have hLc:(L:Int)≤sc:=by omega
      have hL0:(0:Int)≤L:=by omega
      go_wp2_with (first | (rw [zb32,hW]))
      clear hW
      have HCT:=hide (fun w0 (hw0:Kept [] W w0)=>xa4i z sb (.slice a8 sk.length c8) sk w0 (by omega) hsb ((uh HX).old hw0) ((uh HT).k ((uh HK0).trans hw0 (by simp))))
      have HDG:=hide (xa7v (branchE z sb sk) z (branchB z sb sk))
      generalize sunD (branchE z sb sk) z (branchB z sb sk) = D at HD HDG HCT
      generalize sunE (branchE z sb sk) z = E at HCT
      have hd:=(uh HDG).1
      have HSZ:=hide (Tryz.szD hd)
      refine xb7w (by kernel_rfl) (by kernel_rfl) (by kernel_rfl) (by kernel_rfl) (by kernel_rfl) (by kernel_rfl) (by kernel_rfl) (by kernel_rfl) (by kernel_rfl) (by kernel_rfl) (by kernel_rfl) (by kernel_rfl) (by kernel_rfl) (by kernel_rfl) (by kernel_rfl) (by kernel_rfl) (by kernel_rfl) (by kernel_rfl) (by kernel_rfl) (by kernel_rfl) (by kernel_rfl) (by kernel_rfl) (by kernel_rfl) (by kernel_rfl) (by kernel_rfl) (by kernel_rfl) (by kernel_rfl) (by kernel_rfl) (by kernel_rfl) (by kernel_rfl) (by kernel_rfl) (by kernel_rfl) (by kernel_rfl) (by kernel_rfl) (by kernel_rfl) (by kernel_rfl) (by kernel_rfl) (by kernel_rfl) (by kernel_rfl) (by kernel_rfl) (by kernel_rfl) (by kernel_rfl) (by kernel_rfl) (by kernel_rfl) (by kernel_rfl) (by kernel_rfl) (by kernel_rfl) rfl rfl rfl
        (.int .i64 z) (.pointer (some ⟨w.heap.size,0,none⟩)) (.slice (some ⟨b,o,none⟩) ss.length sc) (.int .i64 L) (.pointer (some ⟨b,o + L * 2,none⟩)) (.pointer (some ⟨b,o + L * 2,none⟩)) (.int .u16 sb) (.pointer (some ⟨w.heap.size,0,none⟩)) (.slice (some ⟨b,o,none⟩) ss.length sc) (.int .i64 L) (.pointer (some ⟨b,o + L * 2,none⟩)) (.pointer (some ⟨b,o + L * 2 + 1,none⟩)) (.slice a8 sk.length c8) (.tuple #[.agg (brow D),.int .i64 (E:Int)]) (.tuple #[.agg (brow D),.int .i64 (E:Int)]) (.agg (brow D)) (.int .i64 (E:Int)) (.int .i64 (E:Int)) _ _ _ _ _ _ _ _ _ _ _ _ _ (by simp only [Act.put,sa1,sa2,sa3]; rfl) (by simp only [Act.put,sa1,sa2,sa3]; rfl) (by simp only [Act.put,sa1,sa2,sa3]; rfl) (by simp only [Act.put,sa1,sa2,sa3]; rfl) (by simp only [Act.put,sa1,sa2,sa3]; rfl) (by simp only [Act.put,sa1,sa2,sa3]; rfl) (by simp only [Act.put,sa1,sa2,sa3]; rfl) (by simp only [Act.put,sa1,sa2,sa3]; rfl) (by simp only [Act.put,sa1,sa2,sa3]; rfl) (by simp only [Act.put,sa1,sa2,sa3]; rfl) (by simp only [Act.put,sa1,sa2,sa3]; rfl) (by simp only [Act.put,sa1,sa2,sa3]; rfl) (by simp only [Act.put,sa1,sa2,sa3]; rfl)
        (by exact Or.inl ⟨by rfl,fun W' hW'=>by go_simp⟩)
        (by exact Or.inl ⟨by rfl,fun W' hW'=>by go_simp⟩)
        (by exact Or.inl ⟨by rfl,fun W' hW'=>by have h9:=hW'.cell c0 (by simp); go_simp⟩)
        (by exact Or.inl ⟨by rfl,fun W' hW'=>by go_simp⟩)
        (by exact Or.inl ⟨by rfl,fun W' hW'=>by go_simp⟩)
        (by exact Or.inl ⟨by rfl,fun W' hW'=>by go_simp⟩)
        (by exact Or.inl ⟨by rfl,fun W' hW'=>by have h9:=hW'.cell q1 (by simp); go_simp⟩)
        (by exact Or.inl ⟨by rfl,fun W' hW'=>by go_simp⟩)
        (by exact Or.inl ⟨by rfl,fun W' hW'=>by have h9:=hW'.cell c0 (by simp); go_simp⟩)
        (by exact Or.inl ⟨by rfl,fun W' hW'=>by go_simp⟩)
        (by exact Or.inl ⟨by rfl,fun W' hW'=>by go_simp⟩)
        (by exact Or.inl ⟨by rfl,fun W' hW'=>by go_simp⟩)
        (by exact Or.inl ⟨by rfl,fun W' hW'=>by have h9:=hW'.cell q2 (by simp); go_simp⟩)
        (by intro w0 k0 K hK; exact xa9v _ _ _ _ rfl _ _ _ _ rfl rfl rfl (uh HCT w0 k0) hK)
        (by intro g w0 k0 K hK; exact xa9v _ _ _ _ rfl _ _ _ _ rfl rfl rfl (uh HCT w0 k0) hK)
        (by exact Or.inl ⟨by rfl,fun W' hW'=>by go_simp⟩) (by intro g; exact Or.inl ⟨by rfl,fun W' hW'=>by go_simp⟩) (by exact Or.inl ⟨by rfl,fun W' hW'=>by go_simp⟩) (by intro g; exact Or.inl ⟨by rfl,fun W' hW'=>by go_simp⟩) (by exact Or.inl ⟨by rfl,fun W' hW'=>by go_simp⟩) (by intro g; exact Or.inl ⟨by rfl,fun W' hW'=>by go_simp⟩)
        50 (zb 32) (brow D) (by intro a' w' K h; unfold Oper.wp execOp; go_simp; exact h)
        (by intro d h; cases h; simp) (by intro d h; cases h; simp) (by intro d h; cases h; simp) (by intro d h; cases h; simp)
        (by intro g w' K hh hK; simp only [Act.put,sa1,sa2,sa3] at hK ⊢; exact wp_store_row 50 (.tmp 11) (.tmp 56) rfl g (brow D) rfl rfl 50 (zb 32) hh (uh HSZ) (by rw [xa0d,xa0a,hd]) (xa0c _) hK)
        (by intro g; exact Or.inl ⟨by rfl,fun W' hW'=>by go_simp⟩) ?_
      intro g X hg kX hX
      simp only [Act.put,sa1,sa2,sa3]
      have HK1:=hide ((uh HK0).trans kX (by simp))
      have HN1:=hide hX
      have HZ1:=hide (kX.heap (uh HZ0) (by simp))
      have d0:=kX.cell c0 (by simp)
      have HLT:=hide (Nat.lt_of_lt_of_le (lt_of_block (uh HZ0)) hg:w.heap.size + 1 < g)
      clear kX hX hg c0 c1 HK0 HZ0 HG0 q1 q2
      go_wp2_with fail
      refine wp_rs7 (fun w'=>Kept [w.heap.size + 1] X w') (by kernel_rfl) (by kernel_rfl) (by kernel_rfl) (by kernel_rfl) (by kernel_rfl) (by kernel_rfl) (by kernel_rfl) (by kernel_rfl) (by kernel_rfl) (by kernel_rfl) (by kernel_rfl) (by kernel_rfl) (by kernel_rfl) (by kernel_rfl) (by kernel_rfl) (by kernel_rfl) rfl ((Kept.refl _ X).drew)
        (.agg (D.map u8).toArray) (.pointer (some ⟨w.heap.size,0,none⟩)) (.slice (some ⟨b,o,none⟩) ss.length sc) (.int .i64 L) (.slice (some ⟨b,o,none⟩) L sc) (.slice (some ⟨b,o,none⟩) L sc) _ _ _ _ _ _ (by simp only [Act.put,sa1,sa2,sa3]; rfl) (by simp only [Act.put,sa1,sa2,sa3]; rfl) (by simp only [Act.put,sa1,sa2,sa3]; rfl) (by simp only [Act.put,sa1,sa2,sa3]; rfl) (by simp only [Act.put,sa1,sa2,sa3]; rfl) (by simp only [Act.put,sa1,sa2,sa3]; rfl)
        (by exact yieldsIf_load_mid (by rfl) _ _ rfl g 0 rfl (D.map u8) _ (fun W' hW'=>xa0v (hW'.heap (uh HN1) (by simp; have:=uh HLT; omega))) Tryz.underlying50 rfl (by rw [List.length_map,hd]; exact Tryz.size_dig))
        (by exact Or.inl ⟨by rfl,fun W' hW'=>by go_simp⟩)
        (by exact Or.inl ⟨by rfl,fun W' hW'=>by have h9:=hW'.cell d0 (by simp); go_simp⟩)
        (by exact Or.inl ⟨by rfl,fun W' hW'=>by go_simp⟩)
        (by exact Or.inl ⟨by rfl,fun W' hW'=>by go_simp⟩)
        (by exact Or.inl ⟨by rfl,fun W' hW'=>by go_simp⟩)
        (X.drew.setRow (w.heap.size + 1) (brow D))
        (by intro K hK; exact wp_store_row 50 _ _ rfl (w.heap.size + 1) (brow D) rfl rfl _ (zb 32) (uh HZ1) (uh HSZ) (by rw [xa0d,xa0a,hd]) (xa0c _) hK)
        ((Kept.refl _ X).drew.setRow (Or.inl (by simp)) _) ?_
      have HKF:=hide ((uh HK1).drew.setRow (g:=w.heap.size + 1) (Or.inr (by omega)) (brow D))
      have HZF:=hide (setRow_heap X.drew (w.heap.size + 1) (zb 32) (brow D) 50 (0,0) (uh HZ1))
      go_wp2_with fail
      rw [uh HD,uh HN]
      refine bodyPost_ret (v:=.tuple #[.agg (brow D),.slice (some ⟨b,o,none⟩) L sc]) ?_ rfl ⟨⟨_,rfl,((uh HS).less L (by omega)).old (uh HKF)⟩,uh HKF⟩
      exact xa0e rfl _ _ (w.heap.size + 1) _ (brow D) (0,0) _ rfl (uh HZF) Tryz.underlying50 rfl (uh HSZ) _ rfl
end
section
open Go Go.RowKit Go.BigFrame
section
variable {P:Program} {Q:Exit→Act→World→Prop}
theorem xc1l {id:Nat} {o0 o1 o2 o3 o4 o5 o6 o7 o8 o9 o10 o11 o12:Oper} {a:Act} {w:World} (hm:P.follows .mixedOrders = true) (hs:Region.noSelect #[o0,o1,o2,o3,o4,o5,o6,o7,o8,o9,o10,o11,o12] = true)
    (f0:Region.free .any #[o0,o1,o2,o3,o4,o5,o6,o7,o8,o9,o10,o11,o12] #[false,false,false,false,false,false,false,false,false,false,false,false,false] 0 = true) (r0:(Region.ready .any #[o0,o1,o2,o3,o4,o5,o6,o7,o8,o9,o10,o11,o12] #[false,false,false,false,false,false,false,false,false,false,false,false,false]).contains 0 = true)
    (f1:Region.free .any #[o0,o1,o2,o3,o4,o5,o6,o7,o8,o9,o10,o11,o12] #[true,false,false,false,false,false,false,false,false,false,false,false,false] 1 = true) (r1:(Region.ready .any #[o0,o1,o2,o3,o4,o5,o6,o7,o8,o9,o10,o11,o12] #[true,false,false,false,false,false,false,false,false,false,false,false,false]).contains 1 = true)
    (f2:Region.free .any #[o0,o1,o2,o3,o4,o5,o6,o7,o8,o9,o10,o11,o12] #[true,true,false,false,false,false,false,false,false,false,false,false,false] 2 = true) (r2:(Region.ready .any #[o0,o1,o2,o3,o4,o5,o6,o7,o8,o9,o10,o11,o12] #[true,true,false,false,false,false,false,false,false,false,false,false,false]).contains 2 = true)
    (f3:Region.free .any #[o0,o1,o2,o3,o4,o5,o6,o7,o8,o9,o10,o11,o12] #[true,true,true,false,false,false,false,false,false,false,false,false,false] 3 = true) (r3:(Region.ready .any #[o0,o1,o2,o3,o4,o5,o6,o7,o8,o9,o10,o11,o12] #[true,true,true,false,false,false,false,false,false,false,false,false,false]).contains 3 = true)
    (f4:Region.free .any #[o0,o1,o2,o3,o4,o5,o6,o7,o8,o9,o10,o11,o12] #[true,true,true,true,false,false,false,false,false,false,false,false,false] 4 = true) (r4:(Region.ready .any #[o0,o1,o2,o3,o4,o5,o6,o7,o8,o9,o10,o11,o12] #[true,true,true,true,false,false,false,false,false,false,false,false,false]).contains 4 = true)
    (f6:Region.free .any #[o0,o1,o2,o3,o4,o5,o6,o7,o8,o9,o10,o11,o12] #[true,true,true,true,true,false,false,false,false,false,false,false,false] 6 = true) (r6:(Region.ready .any #[o0,o1,o2,o3,o4,o5,o6,o7,o8,o9,o10,o11,o12] #[true,true,true,true,true,false,false,false,false,false,false,false,false]).contains 6 = true)
    (f7:Region.free .any #[o0,o1,o2,o3,o4,o5,o6,o7,o8,o9,o10,o11,o12] #[true,true,true,true,true,false,true,false,false,false,false,false,false] 7 = true) (r7:(Region.ready .any #[o0,o1,o2,o3,o4,o5,o6,o7,o8,o9,o10,o11,o12] #[true,true,true,true,true,false,true,false,false,false,false,false,false]).contains 7 = true)
    (f8:Region.free .any #[o0,o1,o2,o3,o4,o5,o6,o7,o8,o9,o10,o11,o12] #[true,true,true,true,true,false,true,true,false,false,false,false,false] 8 = true) (r8:(Region.ready .any #[o0,o1,o2,o3,o4,o5,o6,o7,o8,o9,o10,o11,o12] #[true,true,true,true,true,false,true,true,false,false,false,false,false]).contains 8 = true)
    (f9:Region.free .any #[o0,o1,o2,o3,o4,o5,o6,o7,o8,o9,o10,o11,o12] #[true,true,true,true,true,false,true,true,true,false,false,false,false] 9 = true) (r9:(Region.ready .any #[o0,o1,o2,o3,o4,o5,o6,o7,o8,o9,o10,o11,o12] #[true,true,true,true,true,false,true,true,true,false,false,false,false]).contains 9 = true)
    (r5:Region.ready .any #[o0,o1,o2,o3,o4,o5,o6,o7,o8,o9,o10,o11,o12] #[true,true,true,true,true,false,true,true,true,true,false,false,false] = [5])
    (r10:Region.ready .any #[o0,o1,o2,o3,o4,o5,o6,o7,o8,o9,o10,o11,o12] #[true,true,true,true,true,true,true,true,true,true,false,false,false] = [10])
    (r11:Region.ready .any #[o0,o1,o2,o3,o4,o5,o6,o7,o8,o9,o10,o11,o12] #[true,true,true,true,true,true,true,true,true,true,true,false,false] = [11])
    (f12:Region.free .any #[o0,o1,o2,o3,o4,o5,o6,o7,o8,o9,o10,o11,o12] #[true,true,true,true,true,true,true,true,true,true,true,true,false] 12 = true) (r12:(Region.ready .any #[o0,o1,o2,o3,o4,o5,o6,o7,o8,o9,o10,o11,o12] #[true,true,true,true,true,true,true,true,true,true,true,true,false]).contains 12 = true)
    (rr:Region.ready .any #[o0,o1,o2,o3,o4,o5,o6,o7,o8,o9,o10,o11,o12] #[true,true,true,true,true,true,true,true,true,true,true,true,true] = []) (g5:o5.guard = none) (g10:o10.guard = none) (g11:o11.guard = none)
    (v0 v1 v2 v3 v4 v6 v7 v8 v9:Value) (A0 A1 A2 A3 A4 A6 A7 A8 A9:Act)
    (p0:a.put o0.dst v0 = A0) (p1:A0.put o1.dst v1 = A1) (p2:A1.put o2.dst v2 = A2) (p3:A2.put o3.dst v3 = A3) (p4:A3.put o4.dst v4 = A4) (p6:A4.put o6.dst v6 = A6) (p7:A6.put o7.dst v7 = A7) (p8:A7.put o8.dst v8 = A8) (p9:A8.put o9.dst v9 = A9) 
    (hy0:YieldsIf P #[o0,o1,o2,o3,o4,o5,o6,o7,o8,o9,o10,o11,o12] (fun w'=>Kept [] w w') o0 v0 a)
    (hy1:YieldsIf P #[o0,o1,o2,o3,o4,o5,o6,o7,o8,o9,o10,o11,o12] (fun w'=>Kept [] w w') o1 v1 A0)
    (hy2:YieldsIf P #[o0,o1,o2,o3,o4,o5,o6,o7,o8,o9,o10,o11,o12] (fun w'=>Kept [] w w') o2 v2 A1)
    (hy3:YieldsIf P #[o0,o1,o2,o3,o4,o5,o6,o7,o8,o9,o10,o11,o12] (fun w'=>Kept [] w w') o3 v3 A2)
    (hy4:YieldsIf P #[o0,o1,o2,o3,o4,o5,o6,o7,o8,o9,o10,o11,o12] (fun w'=>Kept [] w w') o4 v4 A3)
    (hy6:YieldsIf P #[o0,o1,o2,o3,o4,o5,o6,o7,o8,o9,o10,o11,o12] (fun w'=>Kept [] w w') o6 v6 A4)
    (hy7:YieldsIf P #[o0,o1,o2,o3,o4,o5,o6,o7,o8,o9,o10,o11,o12] (fun w'=>Kept [] w w') o7 v7 A6)
    (hy8:YieldsIf P #[o0,o1,o2,o3,o4,o5,o6,o7,o8,o9,o10,o11,o12] (fun w'=>Kept [] w w') o8 v8 A7)
    (hy9:YieldsIf P #[o0,o1,o2,o3,o4,o5,o6,o7,o8,o9,o10,o11,o12] (fun w'=>Kept [] w w') o9 v9 A8)
    (hF:o5.wp P A9 w.drew (fun a1 w1=>Kept [] w w1∧o10.wp P a1 w1 (fun a2 w2=>Kept [] w w2∧o11.wp P a2 w2 (fun a3 w3=>Kept [] w w3∧∃ v,YieldsIf P #[o0,o1,o2,o3,o4,o5,o6,o7,o8,o9,o10,o11,o12] (fun w'=>Kept [] w w') o12 v a3∧Q .normal (a3.put o12.dst v) w3) (NoPanic Q)) (NoPanic Q)) (NoPanic Q)) :
    (Code.region id #[o0,o1,o2,o3,o4,o5,o6,o7,o8,o9,o10,o11,o12] true).wp P Q a w:=by
  subst p0 p1 p2 p3 p4 p6 p7 p8 p9
  have k00:Kept [] w w.drew:=(Kept.refl [] w).drew
  refine wp_region_noPanic ?_
  refine wp_region_held_drew (S:=fun w'=>Kept [] w w') hm k00 (fun hH=>?_)
  show wpAnyH P .any #[o0,o1,o2,o3,o4,o5,o6,o7,o8,o9,o10,o11,o12] (NoPanic Q) _ 13 #[false,false,false,false,false,false,false,false,false,false,false,false,false] a w.drew
  refine wpAnyH_take (i:=0) (oi:=o0) rfl hs f0 r0 (fun _ _ _ h=>h) hy0 k00 ?_
  refine wpAnyH_take (i:=1) (oi:=o1) rfl hs f1 r1 (fun _ _ _ h=>h) hy1 k00 ?_
  refine wpAnyH_take (i:=2) (oi:=o2) rfl hs f2 r2 (fun _ _ _ h=>h) hy2 k00 ?_
  refine wpAnyH_take (i:=3) (oi:=o3) rfl hs f3 r3 (fun _ _ _ h=>h) hy3 k00 ?_
  refine wpAnyH_take (i:=4) (oi:=o4) rfl hs f4 r4 (fun _ _ _ h=>h) hy4 k00 ?_
  refine wpAnyH_take (i:=6) (oi:=o6) rfl hs f6 r6 (fun _ _ _ h=>h) hy6 k00 ?_
  refine wpAnyH_take (i:=7) (oi:=o7) rfl hs f7 r7 (fun _ _ _ h=>h) hy7 k00 ?_
  refine wpAnyH_take (i:=8) (oi:=o8) rfl hs f8 r8 (fun _ _ _ h=>h) hy8 k00 ?_
  refine wpAnyH_take (i:=9) (oi:=o9) rfl hs f9 r9 (fun _ _ _ h=>h) hy9 k00 ?_
  refine wpAnyH_ready (rs:=[5]) r5 (by simp) (AllReadyH.cons (o:=o5) rfl (fun K hK=>?_) AllReadyH.nil)
  have q5:∀ y,Region.wanted o5 y = true:=fun y=>by unfold Region.wanted; rw [g5]
  rw [if_pos (q5 _)]
  refine Oper.wp_mono (fun a1 w1 h1=>hK.out _ _ h1.1 (fun _=>?_)) hF
  clear hK
  refine wpAnyH_ready (rs:=[10]) r10 (by simp) (AllReadyH.cons (o:=o10) rfl (fun K hK=>?_) AllReadyH.nil)
  have q10:∀ y,Region.wanted o10 y = true:=fun y=>by unfold Region.wanted; rw [g10]
  rw [if_pos (q10 _)]
  refine Oper.wp_mono (fun a2 w2 h2=>hK.out _ _ h2.1 (fun _=>?_)) h1.2
  clear hK
  refine wpAnyH_ready (rs:=[11]) r11 (by simp) (AllReadyH.cons (o:=o11) rfl (fun K hK=>?_) AllReadyH.nil)
  have q11:∀ y,Region.wanted o11 y = true:=fun y=>by unfold Region.wanted; rw [g11]
  rw [if_pos (q11 _)]
  refine Oper.wp_mono (fun a3 w3 h3=>hK.out _ _ h3.1 (fun _=>?_)) h2.2
  clear hK
  obtain ⟨v,hv,hQ⟩:=h3.2
  refine wpAnyH_take (i:=12) (oi:=o12) rfl hs f12 r12 (fun _ _ _ h=>h) hv h3.1 ?_
  exact ⟨rr,NoPanic.normal hQ⟩
end
end
end Go.Proofs.YtiopaaeejppnnaaGreatDoor
