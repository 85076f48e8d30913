import Derived.Test.YtepmjkkjhjkdgaaGreatDoorTopA
namespace Go.Proofs.YtepmjkkjhjkdgaaGreatDoor
set_option linter.unusedVariables false
set_option linter.unusedSimpArgs false
set_option maxRecDepth 100000
section
open Go.RowKit Go.BigFrame
def ones (x:Nat):Nat:=Lib.onesCount x
theorem xb1k (f:Nat):Lib.popAux f 0 = 0:=by
  induction f with
  | zero=>rfl
  | succ f ih=>show 0 % 2 + Lib.popAux f (0 / 2) = 0; simpa using ih
theorem xa5q (f x:Nat):Lib.popAux (f + 8) x = Lib.popAux 8 (x % 256) + Lib.popAux f (x / 256):=by
  simp only [Lib.popAux,Nat.div_div_eq_div_mul]
  have h0:x % 256 % 2 = x % 2:=by omega
  have h1:x % 256 / 2 % 2 = x / 2 % 2:=by omega
  have h2:x % 256 / 4 % 2 = x / 4 % 2:=by omega
  have h3:x % 256 / 8 % 2 = x / 8 % 2:=by omega
  have h4:x % 256 / 16 % 2 = x / 16 % 2:=by omega
  have h5:x % 256 / 32 % 2 = x / 32 % 2:=by omega
  have h6:x % 256 / 64 % 2 = x / 64 % 2:=by omega
  have h7:x % 256 / 128 % 2 = x / 128 % 2:=by omega
  simp only [Nat.reduceMul,h0,h1,h2,h3,h4,h5,h6,h7]
  omega
theorem xa6o (y:Nat) (h:y < 256):ones y = Lib.popAux 8 y:=by
  show Lib.popAux (56 + 8) y = _
  rw [xa5q,Nat.div_eq_of_lt h,xb1k,Nat.mod_eq_of_lt h]; rfl
theorem xa3y (x:Nat) (h:x < 65536):ones x = ones (x / 256) + ones (x % 256):=by
  rw [xa6o (x / 256) (by omega),xa6o (x % 256) (by omega)]
  show Lib.popAux (56 + 8) x = _
  rw [xa5q]
  have e:Lib.popAux 56 (x / 256) = Lib.popAux 8 (x / 256):=by
    show Lib.popAux (48 + 8) (x / 256) = _
    rw [xa5q,Nat.div_eq_of_lt (by omega:x / 256 < 256),xb1k,Nat.mod_eq_of_lt (by omega)]; rfl
  rw [e]; omega
theorem xb1v (m:Nat) (h:m < 65536):bits .and .u16 (m:Int) 255 = ((m:Int) % 256):=by
  have h1:(BitVec.ofInt 16 (m:Int)).toNat = m:=by rw [BitVec.ofInt_natCast,BitVec.toNat_ofNat]; exact Nat.mod_eq_of_lt (by omega)
  have h2:(BitVec.ofInt 16 (255:Int)).toNat = 255:=by decide
  show IntKind.u16.wrap ((BitVec.ofInt 16 (m:Int) &&& BitVec.ofInt 16 (255:Int)).toNat:Int) = _
  rw [BitVec.toNat_and,h1,h2,show (255:Nat) = 2 ^ 8 - 1 by rfl,Nat.and_two_pow_sub_one_eq_mod]
  simp [IntKind.wrap,IntKind.signed,IntKind.bits]
  omega
theorem xb7p:(⟨((([0,1,1,2,1,2,2,3,1,2,2,3,2,3,3,4,1,2,2,3,2,3,3,4,2,3,3,4,3,4,4,5,1,2,2,3,2,3,3,4,2,3,3,4,3,4,4,5,2,3,3,4,3,4,4,5,3,4,4,5,4,5,5,6]:List UInt8).append [1,2,2,3,2,3,3,4,2,3,3,4,3,4,4,5,2,3,3,4,3,4,4,5,3,4,4,5,4,5,5,6,2,3,3,4,3,4,4,5,3,4,4,5,4,5,5,6,3,4,4,5,4,5,5,6,4,5,5,6,5,6,6,7]).append (([1,2,2,3,2,3,3,4,2,3,3,4,3,4,4,5,2,3,3,4,3,4,4,5,3,4,4,5,4,5,5,6,2,3,3,4,3,4,4,5,3,4,4,5,4,5,5,6,3,4,4,5,4,5,5,6,4,5,5,6,5,6,6,7]:List UInt8).append [2,3,3,4,3,4,4,5,3,4,4,5,4,5,5,6,3,4,4,5,4,5,5,6,4,5,5,6,5,6,6,7,3,4,4,5,4,5,5,6,4,5,5,6,5,6,6,7,4,5,5,6,5,6,6,7,5,6,6,7,6,7,7,8])).toArray⟩:ByteArray) = Lib.pop8tab:=by rfl
set_option maxHeartbeats 1000000 in
theorem xb3h (x:Nat) (w:World) (hx:x < 65536) :
    Calls Tryz.prog 138 #[.int .u16 x] w fun e w'=>e = .returned (.int .i64 (ones x))∧Kept [] w w':=by
  go_enter Tryz.func138,Tryz.ntmps138
  have q1:(0:Int)≤(x:Int) / 256:=by omega
  have q2:(x:Int) / 256≤255:=by omega
  have q3:(0:Int)≤(x:Int) % 256:=by omega
  have q4:(x:Int) % 256≤255:=by omega
  have qa:=xb1v x hx
  have hp1:Lib.pop8 ((x:Int) / 256) = (ones (x / 256):Int):=Lib.pop8_eq ⟨x / 256,by omega⟩
  have hp2:Lib.pop8 ((x:Int) % 256) = (ones (x % 256):Int):=Lib.pop8_eq ⟨x % 256,by omega⟩
  have l1:ones (x / 256)≤8:=Lib.onesCount_le8 ⟨x / 256,by omega⟩
  have l2:ones (x % 256)≤8:=Lib.onesCount_le8 ⟨x % 256,by omega⟩
  have HSP:=hide (xa3y x hx)
  go_wp2_with fail
  rw [xb7p]
  go_quiet (fail)
  go_wp2
  go_ret
  exact ⟨by rw [uh HSP]; simp,(Kept.refl [] w).drewN _⟩
def branchE (z:Int) (x:Nat) (ds:List (List Nat)):Nat:=if formedE z ds = 0 then (if x = 0∨ones x≠ds.length then 3 else 0) else formedE z ds
def kidsB (k:Nat) (ds:List (List Nat)):List Nat:=(ds.map fun d=>d.take k).flatten
theorem Wn.over {w0 w w':World} {b:Nat} {v:Value} {bs:List Nat} (h:Wn w0 w b v bs) (k:Kept [] w w'):Wn w0 w' b v bs :=
  ⟨h.at_.kept k (by simp) (by simp),h.new,h.hb,h.kept.trans k (by simp)⟩
def branchB (z:Int) (x:Nat) (ds:List (List Nat)):List Nat:=4 :: (wide x 2++kidsB z.toNat ds)
theorem xb1y (k:Nat) (ds:List (List Nat)) (i:Nat) (h:i < ds.length):kidsB k (ds.take (i + 1)) = kidsB k (ds.take i)++(ds.getD i []).take k:=by
  unfold kidsB
  rw [List.take_succ_eq_append_getElem h,List.map_append,List.flatten_append,List.getD_eq_getElem?_getD,List.getElem?_eq_getElem h]
  simp
theorem xb5h (k:Nat) (ds:List (List Nat)):(kidsB k ds).length≤k * ds.length:=by
  induction ds with
  | nil=>simp [kidsB]
  | cons d r ih =>
    have e:kidsB k (d :: r) = d.take k++kidsB k r:=by simp [kidsB]
    rw [e,List.length_append,List.length_cons,Nat.mul_succ,List.length_take]
    omega
theorem xb9j (x:Nat) (h:x < 65536):ones x≤16:=by
  have l1:ones (x / 256)≤8:=Lib.onesCount_le8 ⟨x / 256,by omega⟩
  have l2:ones (x % 256)≤8:=Lib.onesCount_le8 ⟨x % 256,by omega⟩
  rw [xa3y x h]; omega
set_option maxHeartbeats 1000000 in
theorem xa4n (z:Int) (x:Nat) (v:Value) (ds:List (List Nat)) (w:World) (hz:-9223372036854775808≤z∧z≤9223372036854775807) (hx:x < 65536) (hv:RdD w v ds) :
    Calls Tryz.prog 146 #[.int .i64 z,.int .u16 x,v] w fun e w'=>∃ v',e = .returned (.tuple #[v',.int .i64 (branchE z x ds)])∧NewB w w' v' (if branchE z x ds = 0 then branchB z x ds else [])∧Kept [] w w':=by
  have HV:=hide hv
  obtain ⟨ao,len,cap,rfl,h1,h2,h3,h4,h5⟩:=hv
  have H4:=hide h4
  have H5:=hide h5
  clear h4 h5
  subst h1
  have HE:=hide (show branchE z x ds = if formedE z ds = 0 then (if x = 0∨ones x≠ds.length then 3 else 0) else formedE z ds from rfl)
  have HF:=hide (show formedE z ds = if widthB z = false then 1 else if ds.all (formB z) then 0 else 3 from rfl)
  obtain ⟨R,hR⟩:∃ R,branchE z x ds = R:=⟨_,rfl⟩
  rw [hR] at HE ⊢
  clear hR
  obtain ⟨B,hB⟩:∃ B,(if R = 0 then branchB z x ds else []) = B:=⟨_,rfl⟩
  rw [hB]
  have HBB:=hide hB
  clear hB
  go_enter Tryz.func146,Tryz.ntmps146
  go_wp2_with fail
  refine Calls.mono (xa1k z _ hz) ?_
  rintro e w1 ⟨rfl,rfl⟩
  cases hw:widthB z with
  | false =>
    have HR:=hide (by rw [uh HE,uh HF,hw]; simp:R = 1)
    clear hw
    go_wp2
    go_ret2
    refine ⟨_,by rw [uh HR]; rfl,?_,Kept.refl _ _⟩
    rw [← uh HBB,uh HR]; exact NewB.nil _ _
  | true =>
    rw [hw] at HF
    have HW:=hide hw
    clear hw
    by_cases hx0:x = 0
    · have HR:=hide (by rw [uh HE]; by_cases h9:formedE z ds = 0; rw [if_pos h9,if_pos (Or.inl hx0)]; rw [if_neg h9]; have h8:=uh HF; simp at h8; rw [h8] at h9 ⊢; split at h9 <;> simp_all:R = 3)
      have hx0':((x:Int) == 0) = true:=by rw [beq_iff_eq]; omega
      have HX0:=hide hx0
      clear hx0
      go_wp2
      go_ret2
      refine ⟨_,by rw [uh HR]; rfl,?_,Kept.refl _ _⟩
      rw [← uh HBB,uh HR]; exact NewB.nil _ _
    · have hx0':((x:Int) == 0) = false:=by rw [beq_eq_false_iff_ne]; omega
      have HX0:=hide hx0
      clear hx0
      go_wp2_with fail
      have HO16:=hide (xb9j x hx)
      refine Calls.mono (xb3h x _ hx) ?_
      rintro e w2 ⟨rfl,k2⟩
      have HK2:=hide k2
      clear k2
      obtain ⟨o,ho⟩:∃ o,ones x = o:=⟨_,rfl⟩
      rw [ho] at HE HO16 ⊢
      clear ho
      by_cases hol:o = ds.length
      · have hb:((o:Int) != (ds.length:Int)) = false:=by rw [hol]; simp
        have HOL:=hide hol
        clear hol
        go_wp2_with fail
        refine Calls.mono (xb3k z _ ds _ hz ((uh HV).old (uh HK2))) ?_
        rintro e w3 ⟨rfl,k3⟩
        have HK3:=hide ((uh HK2).trans k3 (by simp))
        clear k3
        obtain ⟨f,hf⟩:∃ f,formedE z ds = f:=⟨_,rfl⟩
        rw [hf] at HE ⊢
        clear hf
        by_cases hf0:f = 0
        · have HR:=hide (by rw [uh HE,if_pos hf0,if_neg (by intro h; rcases h with h | h; exact uh HX0 h; exact h (uh HOL))]:R = 0)
          have hfb:((f:Int) != 0) = false:=by rw [hf0]; rfl
          have HF0:=hide hf0
          clear hf0
          have hwd:=xa1u (uh HW)
          obtain ⟨k,rfl⟩:∃ k:Nat,z = k:=⟨z.toNat,by omega⟩
          have hk:(k:Int)≤32:=hwd.2
          have hk':k≤32:=by omega
          have HW0:=hide (Wn.start (uh HK3))
          go_wp2_with fail
          refine Calls.mono (wn_u8 4 (uh HW0) (by decide) (by simp)) ?_
          rintro e w4 ⟨rfl,v4,h4⟩
          have HW4:=hide h4
          clear h4 HW0
          go_wp2_with fail
          refine Calls.mono (wn_u16 x (uh HW4) hx (by simp [xa4g])) ?_
          rintro e w5 ⟨rfl,v5,h5⟩
          rw [show []++wide 4 1++wide x 2 = 4 :: wide x 2 by simp [wide]] at h5
          have HW5:=hide h5
          clear h5 HW4
          go_wp2_with fail
          have HKL:=hide (fun i=>Nat.le_trans (xb5h k (ds.take i)) (Nat.mul_le_mul hk' (by rw [List.length_take]; exact Nat.min_le_right _ _)):∀ i,(kidsB k (ds.take i)).length≤32 * ds.length)
          have hdl16:ds.length≤16:=by have:=uh HO16; have:=uh HOL; omega
          go_loopw [35] (fun t35 wr=>∃ (i:Nat) (v:Value),i≤ds.length∧t35 = .int .i64 i∧Hid (Wn w1 wr w3.heap.size v (4 :: wide x 2++kidsB k (ds.take i)))) (fun t _=>ds.length - (intOf t).toNat)
          case atStart=>exact ⟨0,v5,Nat.zero_le _,rfl,by simpa [kidsB] using HW5⟩
          case round =>
            obtain ⟨i,vw,hi,rfl,HWR⟩:=hrel
            by_cases hlt:i < ds.length
            · have hlt':(i:Int) < ds.length:=by omega
              obtain ⟨b,o',rfl,hcell⟩:=uh H5 (by omega)
              have HD:=hide (uh H4 (ds.getD i []) (by rw [List.getD_eq_getElem?_getD,List.getElem?_eq_getElem hlt]; exact List.getElem_mem hlt))
              have HRG:=hide (fun j v hv=>(uh HWR).kept.cell (hcell i hlt j v hv) (by simp):wr.rangeAt b (o' + i * 32) ((ds.getD i []).map u8))
              have HSN:=hide (xb1y k ds i hlt)
              clear hcell
              obtain ⟨d,hd⟩:∃ d,ds.getD i [] = d:=⟨_,rfl⟩
              rw [hd] at HD HRG HSN
              clear hd
              have hdl:=(uh HD).1
              have HSZ:=hide (by rw [xa0a,hdl]; exact Tryz.size_dig:(Tryz.prog.info? 58).map (·.size) = some (brow d).size)
              have HNW:=hide (setRow_heap (wr.alloc (.cells (zb 32) 58)) wr.heap.size (zb 32) (brow d) 58 (0,0) (heap_alloc_new _ _))
              have HWN:=hide ((uh HWR).over (((Kept.refl [] wr).alloc (.cells (zb 32) 58)).setRow (g:=wr.heap.size) (Or.inr (Nat.le_refl _)) (brow d)))
              go_wp2_with (first
                | (refine wpList_load_mid rfl 58 (.tmp 37) rfl b (o' + i * 32) rfl (d.map u8) _ (uh HRG) Tryz.underlying58 rfl (by rw [List.length_map,hdl]; exact Tryz.size_dig) ?_)
                | (rw [zb32]; refine wpList_store_row rfl 58 (.tmp 11) _ rfl wr.heap.size (brow d) rfl rfl _ (zb 32) (heap_alloc_new _ _) (uh HSZ) (by rw [xa0d,xa0a,hdl]) (xa0b _) ?_))
              refine Calls.mono (wn_raw (uh HWN) (rd_dig (k:=k) (xa0o (uh HNW)) hdl (uh HD).2 hk') (by have h9:=uh HKL i; simp only [List.length_append,List.length_cons,xa4g,List.length_take]; omega)) ?_
              rintro e w6 ⟨rfl,v6,h6⟩
              rw [List.append_assoc,← uh HSN] at h6
              have HW6:=hide h6
              clear h6
              go_wp2
              refine ⟨⟨i + 1,v6,by omega,by go_num,HW6⟩,?_⟩
              simp [intOf]; omega
            · have hlt':¬ (i:Int) < ds.length:=by omega
              have hie:i = ds.length:=by omega
              subst hie
              have h9:=uh HKL ds.length
              rw [List.take_length] at HWR h9
              have HK9:=hide h9
              clear h9
              go_wp2_with fail
              refine Calls.mono (xb2o (uh HWR) (by have h9:=uh HK9; simp only [List.length_append,List.length_cons,xa4g]; omega)) ?_
              rintro e w7 ⟨v7,rfl,h7,k7⟩
              have H7:=hide h7
              have HK7:=hide k7
              clear h7 k7
              go_wp2
              go_ret2
              refine ⟨_,by rw [uh HR]; rfl,?_,uh HK7⟩
              have e9:B = 4 :: wide x 2++kidsB k ds:=by
                rw [← uh HBB,uh HR]; rfl
              rw [e9]; exact uh H7
        · have HR:=hide (by rw [uh HE,if_neg hf0]:R = f)
          have hfb:((f:Int) != 0) = true:=by rw [bne_iff_ne]; omega
          have HF0:=hide hf0
          clear hf0
          go_wp2
          go_ret2
          refine ⟨_,by rw [uh HR]; rfl,?_,uh HK3⟩
          rw [← uh HBB,uh HR,if_neg (uh HF0)]; exact NewB.nil _ _
      · have HR:=hide (by rw [uh HE]; by_cases h9:formedE z ds = 0; rw [if_pos h9,if_pos (Or.inr hol)]; rw [if_neg h9]; have h8:=uh HF; simp at h8; rw [h8] at h9 ⊢; split at h9 <;> simp_all:R = 3)
        have hb:((o:Int) != (ds.length:Int)) = true:=by rw [bne_iff_ne]; omega
        have HOL:=hide hol
        clear hol
        go_wp2
        go_ret2
        refine ⟨_,by rw [uh HR]; rfl,?_,uh HK2⟩
        rw [← uh HBB,uh HR]; exact NewB.nil _ _

set_option maxHeartbeats 1000000 in
theorem xa4m (v:Value) (ps:List (List Nat × List Nat)) (w:World) (h:RdK w v ps) (hl:(pairB ps).length≤1000000000000) :
    Calls Tryz.prog 155 #[v] w fun e w'=>∃ v',e = .returned v'∧NewB w w' v' (buckB ps)∧Kept [] w w':=by
  obtain ⟨ao,len,cap,vs,us,rfl,h1,h3,h4,h5,h6⟩:=h
  have H5:=hide h5
  have H6:=hide h6
  clear h5 h6
  subst h1
  go_enter Tryz.func155,Tryz.ntmps155
  have HW0:=hide (Wn.start (Kept.refl [] w))
  go_wp2_with fail
  refine Calls.mono (wn_u8 3 (uh HW0) (by decide) (by simp)) ?_
  rintro e w1 ⟨rfl,v1,h1⟩
  have HW1:=hide h1
  clear h1 HW0
  go_wp2_with fail
  refine Calls.mono (xc0r ps.length (uh HW1) (by omega) (by simp [xa4g])) ?_
  rintro e w2 ⟨rfl,v2,h2⟩
  rw [show []++wide 3 1++uv ps.length = 3 :: uv ps.length by simp [wide]] at h2
  have HW2:=hide h2
  clear h2 HW1
  have HUV:=hide (uv_len ps.length (by omega))
  go_wp2_with fail
  go_loopw [13] (fun t13 wr=>∃ (i:Nat) (v:Value),i≤ps.length∧t13 = .int .i64 i∧Hid (Wn w wr w.heap.size v (3 :: uv ps.length++pairB (ps.take i)))) (fun t _=>ps.length - (intOf t).toNat)
  case atStart=>exact ⟨0,v2,Nat.zero_le _,rfl,by simpa [pairB] using HW2⟩
  case round =>
    obtain ⟨i,vw,hi,rfl,HW⟩:=hrel
    by_cases hlt:i < ps.length
    · have hlt':(i:Int) < ps.length:=by omega
      obtain ⟨b,off,rfl,hcc⟩:=uh H6 (by omega)
      have q1:=(uh HW).kept.cell (hcc i hlt).1 (by simp)
      have q2:=(uh HW).kept.cell (hcc i hlt).2 (by simp)
      have HA:=hide (uh H5 i hlt)
      have hget:ps.getD i ([],[]) = ps[i]:=by rw [List.getD_eq_getElem?_getD,List.getElem?_eq_getElem hlt]; rfl
      rw [hget] at HA
      have HSN:=hide (xb3j ps i hlt)
      have HLE:=hide (xb7n ps (i + 1))
      clear hcc hget
      generalize vs.getD i undef = vi at q1 HA
      generalize us.getD i undef = ui at q2 HA
      generalize ps[i] = pi at HA HSN
      obtain ⟨pk,pv⟩:=pi
      simp only at HA HSN
      rw [uh HSN] at HLE
      have HLE2:=hide (by have h9:=uh HLE; simp only [List.length_append] at h9; omega:(pairB (ps.take i)).length + (uv pk.length).length + pk.length + (uv pv.length).length + pv.length≤1000000000000)
      have HU2:=hide (uv_pos pk.length)
      obtain ⟨a8,m8,c8,rfl,hm8,_⟩:=id (uh HA).1
      obtain ⟨a9,m9,c9,rfl,hm9,_⟩:=id (uh HA).2
      subst hm8
      subst hm9
      go_wp2_with fail
      have HWW:=hide (⟨(uh HW).at_.alloc (.cells #[.slice a8 pk.length c8,.slice a9 pv.length c9] 33),(uh HW).new,(uh HW).hb,(uh HW).kept.alloc _⟩:Wn w (wr.alloc (.cells #[.slice a8 pk.length c8,.slice a9 pv.length c9] 33)) w.heap.size vw (3 :: uv ps.length++pairB (ps.take i)))
      have HCW:=hide (heap_alloc_new wr (.cells #[.slice a8 pk.length c8,.slice a9 pv.length c9] 33))
      obtain ⟨W,hW⟩:∃ W,wr.alloc (.cells #[.slice a8 pk.length c8,.slice a9 pv.length c9] 33) = W:=⟨_,rfl⟩
      rw [hW] at HWW HCW ⊢
      clear hW
      have d1:W.cell? ⟨wr.heap.size,1,none⟩ = some (.slice a9 pv.length c9):=by rw [cell_of_row _ _ _ _ _ _ (uh HCW)]; rfl
      refine Calls.mono (xa8v _ vw _ _ pk W (uh HWW).at_ (fun w' k=>(uh HWW).rd (uh HA).1 k) (by have:=uh HLE2; have:=uh HUV; simp only [List.length_append,List.length_cons]; omega)) ?_
      rintro e w3 ⟨rfl,v3,h3,g3⟩
      have hn3:wr.heap.size∉w.heap.size :: vw.ownBlock.toList:=by
        intro hx
        rcases List.mem_cons.1 hx with hx | hx
        · have:=(uh HW).at_.lt; omega
        · have:=(uh HW).at_.ownlt (g:=wr.heap.size) (by simpa [Option.mem_toList] using hx); omega
      have d2:=g3.kept.cell d1 hn3
      have HW3:=hide ((uh HWW).grew h3 g3)
      clear h3 g3 hn3 d1
      go_wp2_with fail
      refine Calls.mono (xb9g (uh HW3) (uh HA).2 (by have:=uh HLE2; have:=uh HUV; simp only [List.length_append,List.length_cons]; omega)) ?_
      rintro e w4 ⟨rfl,v4,h4⟩
      have HW4:=hide h4
      clear h4
      go_wp2
      refine ⟨⟨i + 1,v4,by omega,by go_num,?_⟩,?_⟩
      · rw [uh HSN]
        simpa only [List.append_assoc] using HW4
      simp [intOf]; omega
    · have hlt':¬ (i:Int) < ps.length:=by omega
      have hie:i = ps.length:=by omega
      subst hie
      rw [List.take_length] at HW
      go_wp2_with fail
      refine Calls.mono (xb2o (uh HW) (by have:=uh HUV; simp only [List.length_append,List.length_cons]; omega)) ?_
      rintro e w6 ⟨v6,rfl,h6,k6⟩
      have H6':=hide h6
      have HK6:=hide k6
      clear h6 k6
      go_wp2
      go_ret
      exact ⟨_,rfl,uh H6',uh HK6⟩

end

section
open Go.RowKit Go.BigFrame
set_option maxHeartbeats 1000000 in
theorem xa7d (z:Int) (v:Value) (p:List Nat) (w:World) (hz:-9223372036854775808≤z∧z≤9223372036854775807) (h:Rd w v p) (hl:p.length≤140737488351232) (hT:Tabs w) :
    Calls Tryz.prog 64 #[.int .i64 z,v] w fun e w'=>e = .returned (.tuple #[.agg (brow (sumD z (2 :: p))),.int .i64 (sumE z)])∧Kept [] w w':=by
  have H:=hide h
  have HT:=hide hT
  clear h hT
  have hcl:=xa1c z (2 :: p)
  obtain ⟨B,hB⟩:∃ B,2 :: p = B:=⟨_,rfl⟩
  have HB:=hide hB
  rw [hB] at hcl ⊢
  clear hB
  obtain ⟨D,hD⟩:∃ D,sumD z B = D:=⟨_,rfl⟩
  have HD:=hide hD
  rw [hD] at hcl ⊢
  clear hD
  obtain ⟨E,hE⟩:∃ E,sumE z = E:=⟨_,rfl⟩
  have HE:=hide hE
  rw [hE]
  clear hE
  go_enter Tryz.func64,Tryz.ntmps64
  go_wp2_with fail
  rw [zb32]
  refine Calls.mono (xa7v _ p _ ((uh H).old ((Kept.refl [] w).alloc _) (by simp)) hl) ?_
  rintro e w1 ⟨v1,rfl,n1,k1⟩
  rw [uh HB] at n1
  have HR1:=hide n1.1
  obtain ⟨a1,m1,c1,hu1,hm1,_⟩:=id n1.1
  subst hu1
  have HZ1:=hide (k1.heap (heap_alloc_new w (.cells (zb 32) 58)) (by simp))
  have HK1:=hide (((Kept.refl [] w).alloc (.cells (zb 32) 58)).trans k1 (by simp))
  clear n1 k1
  go_wp2_with fail
  refine Calls.mono (xa8c z _ [B] _ hz (RdL.one (heap_alloc_new _ _) ((uh HR1).old ((Kept.refl [] w1).alloc _) (by simp))) (by have h9:=(uh HR1).len; simpa using h9) ((uh HT).k ((uh HK1).alloc _))) ?_
  rintro e w2 ⟨rfl,k2⟩
  rw [show ([B]:List (List Nat)).flatten = B by simp,uh HD,uh HE]
  have HZ2:=hide (k2.heap ((Kept.refl [] w1).alloc (.cells #[.slice a1 m1 c1] 23) |>.heap (uh HZ1) (by simp)) (by simp))
  have HK2:=hide (((uh HK1).alloc _).trans k2 (by simp))
  clear k2
  go_wp2_with (refine wpList_store_row rfl 58 _ _ rfl w.heap.size (brow D) rfl rfl _ (zb 32) (uh HZ2) (by rw [xa0a,hcl]; exact Tryz.size_dig) (by rw [xa0d,xa0a,hcl]) (xa0b _) ?_)
  refine bodyPost_ret (v:=.tuple #[.agg (brow D),.int .i64 E]) ?_ rfl ⟨rfl,(uh HK2).setRow (by simp) _⟩
  exact xa0c rfl _ _ w.heap.size _ (brow D) (0,0) _ rfl (setRow_heap _ _ _ _ _ _ (uh HZ2)) Tryz.underlying58 rfl (by rw [xa0a,hcl]; exact Tryz.size_dig) _ rfl
set_option maxHeartbeats 1000000 in
theorem xa7c (z:Int) (v:Value) (ps:List (List Nat × List Nat)) (w:World) (hz:-9223372036854775808≤z∧z≤9223372036854775807) (h:RdK w v ps) (hl:(pairB ps).length≤1000000000000) (hT:Tabs w) :
    Calls Tryz.prog 125 #[.int .i64 z,v] w fun e w'=>e = .returned (.tuple #[.agg (brow (sumD z (buckB ps))),.int .i64 (sumE z)])∧Kept [] w w':=by
  have H:=hide h
  have HT:=hide hT
  clear h hT
  have hcl:=xa1c z (buckB ps)
  obtain ⟨B,hB⟩:∃ B,buckB ps = B:=⟨_,rfl⟩
  have HB:=hide hB
  rw [hB] at hcl ⊢
  clear hB
  obtain ⟨D,hD⟩:∃ D,sumD z B = D:=⟨_,rfl⟩
  have HD:=hide hD
  rw [hD] at hcl ⊢
  clear hD
  obtain ⟨E,hE⟩:∃ E,sumE z = E:=⟨_,rfl⟩
  have HE:=hide hE
  rw [hE]
  clear hE
  go_enter Tryz.func125,Tryz.ntmps125
  go_wp2_with fail
  rw [zb32]
  refine Calls.mono (xa4m _ ps _ ((uh H).old ((Kept.refl [] w).alloc _)) hl) ?_
  rintro e w1 ⟨v1,rfl,n1,k1⟩
  rw [uh HB] at n1
  have HR1:=hide n1.1
  obtain ⟨a1,m1,c1,hu1,hm1,_⟩:=id n1.1
  subst hu1
  have HZ1:=hide (k1.heap (heap_alloc_new w (.cells (zb 32) 58)) (by simp))
  have HK1:=hide (((Kept.refl [] w).alloc (.cells (zb 32) 58)).trans k1 (by simp))
  clear n1 k1
  go_wp2_with fail
  refine Calls.mono (xa8c z _ [B] _ hz (RdL.one (heap_alloc_new _ _) ((uh HR1).old ((Kept.refl [] w1).alloc _) (by simp))) (by have h9:=(uh HR1).len; simpa using h9) ((uh HT).k ((uh HK1).alloc _))) ?_
  rintro e w2 ⟨rfl,k2⟩
  rw [show ([B]:List (List Nat)).flatten = B by simp,uh HD,uh HE]
  have HZ2:=hide (k2.heap ((Kept.refl [] w1).alloc (.cells #[.slice a1 m1 c1] 23) |>.heap (uh HZ1) (by simp)) (by simp))
  have HK2:=hide (((uh HK1).alloc _).trans k2 (by simp))
  clear k2
  go_wp2_with (refine wpList_store_row rfl 58 _ _ rfl w.heap.size (brow D) rfl rfl _ (zb 32) (uh HZ2) (by rw [xa0a,hcl]; exact Tryz.size_dig) (by rw [xa0d,xa0a,hcl]) (xa0b _) ?_)
  refine bodyPost_ret (v:=.tuple #[.agg (brow D),.int .i64 E]) ?_ rfl ⟨rfl,(uh HK2).setRow (by simp) _⟩
  exact xa0c rfl _ _ w.heap.size _ (brow D) (0,0) _ rfl (setRow_heap _ _ _ _ _ _ (uh HZ2)) Tryz.underlying58 rfl (by rw [xa0a,hcl]; exact Tryz.size_dig) _ rfl
def sunD (e:Nat) (z:Int) (p:List Nat):List Nat:=if e = 0 then sumD z p else List.replicate 32 0
def sunE (e:Nat) (z:Int):Nat:=if e = 0 then sumE z else e
theorem xa8e (e:Nat) (z:Int) (p:List Nat):(sunD e z p).length = 32:=by
  unfold sunD; split
  · exact xa1c _ _
  · simp
set_option maxHeartbeats 1000000 in
theorem xa6e (f:Nat) (z:Int) (v:Value) (p:List Nat) (w:World) (hz:-9223372036854775808≤z∧z≤9223372036854775807) (h:Rd w v p) (hT:Tabs w) :
    Calls Tryz.prog 147 #[.int .i64 f,.int .i64 z,v] w fun e w'=>e = .returned (.tuple #[.agg (brow (sunD f z p)),.int .i64 (sunE f z)])∧Kept [] w w':=by
  have H:=hide h
  obtain ⟨a0,m0,c0,hu0,hm0,_⟩:=id h
  subst hu0
  subst hm0
  have HT:=hide hT
  clear h hT
  have hcl:=xa8e f z p
  obtain ⟨D,hD⟩:∃ D,sunD f z p = D:=⟨_,rfl⟩
  have HD:=hide hD
  rw [hD] at hcl ⊢
  clear hD
  obtain ⟨E,hE⟩:∃ E,sunE f z = E:=⟨_,rfl⟩
  have HE:=hide hE
  rw [hE]
  clear hE
  have HL:=hide (uh H).len
  go_enter Tryz.func147,Tryz.ntmps147
  by_cases hf:f = 0
  · have hb:((f:Int) != 0) = false:=by rw [hf]; rfl
    have HD2:=hide (by rw [← uh HD]; unfold sunD; rw [if_pos hf]:D = sumD z p)
    have HE2:=hide (by rw [← uh HE]; unfold sunE; rw [if_pos hf]:E = sumE z)
    have HF:=hide hf
    clear hf
    go_wp2_with fail
    rw [zb32]
    refine Calls.mono (xa8c z _ [p] _ hz (RdL.one (xa2h _ _ _) ((uh H).old (((Kept.refl [] w).alloc _).alloc _) (by simp))) (by have h9:=uh HL; simpa using h9) ((uh HT).k (((Kept.refl [] w).alloc _).alloc _))) ?_
    rintro e w2 ⟨rfl,k2⟩
    rw [show ([p]:List (List Nat)).flatten = p by simp,← uh HD2,← uh HE2]
    have HZ2:=hide (k2.heap (((Kept.refl [] (w.alloc (.cells (zb 32) 58))).alloc (.cells #[.slice a0 p.length c0] 23)).heap (heap_alloc_new w (.cells (zb 32) 58)) (by simp)) (by simp))
    have HK2:=hide ((((Kept.refl [] w).alloc _).alloc _).trans k2 (by simp))
    clear k2
    go_wp2_with (refine wpList_store_row rfl 58 _ _ rfl w.heap.size (brow D) rfl rfl _ (zb 32) (uh HZ2) (by rw [xa0a,hcl]; exact Tryz.size_dig) (by rw [xa0d,xa0a,hcl]) (xa0b _) ?_)
    refine bodyPost_ret (v:=.tuple #[.agg (brow D),.int .i64 E]) ?_ rfl ⟨rfl,(uh HK2).setRow (by simp) _⟩
    exact xa0c rfl _ _ w.heap.size _ (brow D) (0,0) _ rfl (setRow_heap _ _ _ _ _ _ (uh HZ2)) Tryz.underlying58 rfl (by rw [xa0a,hcl]; exact Tryz.size_dig) _ rfl
  · have hb:((f:Int) != 0) = true:=by rw [bne_iff_ne]; omega
    have HD2:=hide (by rw [← uh HD]; unfold sunD; rw [if_neg hf]:D = List.replicate 32 0)
    have HE2:=hide (by rw [← uh HE]; unfold sunE; rw [if_neg hf]:E = f)
    have HF:=hide hf
    clear hf
    go_wp2_with (rw [zb32]; refine wpList_store_row rfl 58 _ _ rfl w.heap.size (zb 32) rfl rfl _ (zb 32) (heap_alloc_new _ _) (by rw [xa0d]; exact Tryz.size_dig) rfl (xa0b _) ?_)
    rw [uh HD2,uh HE2]
    refine bodyPost_ret (v:=.tuple #[.agg (zb 32),.int .i64 f]) ?_ rfl ⟨rfl,((Kept.refl [] w).alloc _).setRow (by simp) _⟩
    exact xa0c rfl _ _ w.heap.size _ (zb 32) (0,0) _ rfl (setRow_heap _ _ _ _ _ _ (heap_alloc_new _ _)) Tryz.underlying58 rfl (by rw [xa0d]; exact Tryz.size_dig) _ rfl
set_option maxHeartbeats 1000000 in
theorem xa4f (z:Int) (x:Nat) (v:Value) (ds:List (List Nat)) (w:World) (hz:-9223372036854775808≤z∧z≤9223372036854775807) (hx:x < 65536) (h:RdD w v ds) (hT:Tabs w) :
    Calls Tryz.prog 115 #[.int .i64 z,.int .u16 x,v] w fun e w'=>e = .returned (.tuple #[.agg (brow (sunD (branchE z x ds) z (branchB z x ds))),.int .i64 (sunE (branchE z x ds) z)])∧Kept [] w w':=by
  have HT:=hide hT
  clear hT
  have hcl:=xa8e (branchE z x ds) z (branchB z x ds)
  have HX:=hide (by unfold sunD; by_cases h9:branchE z x ds = 0; rw [if_pos h9,if_pos h9,if_pos h9]; rw [if_neg h9,if_neg h9]:sunD (branchE z x ds) z (if branchE z x ds = 0 then branchB z x ds else []) = sunD (branchE z x ds) z (branchB z x ds))
  obtain ⟨f,hf⟩:∃ f,branchE z x ds = f:=⟨_,rfl⟩
  have HF:=hide hf
  rw [hf] at hcl HX ⊢
  clear hf
  obtain ⟨D,hD⟩:∃ D,sunD f z (branchB z x ds) = D:=⟨_,rfl⟩
  have HD:=hide hD
  rw [hD] at hcl HX ⊢
  clear hD
  obtain ⟨E,hE⟩:∃ E,sunE f z = E:=⟨_,rfl⟩
  have HE:=hide hE
  rw [hE]
  clear hE
  go_enter Tryz.func115,Tryz.ntmps115
  go_wp2_with fail
  rw [zb32]
  refine Calls.mono (xa4n z x _ ds _ hz hx (h.old ((Kept.refl [] w).alloc _))) ?_
  rintro e w1 ⟨v1,rfl,n1,k1⟩
  rw [uh HF] at n1 ⊢
  have HR1:=hide n1.1
  obtain ⟨a1,m1,c1,hu1,hm1,_⟩:=id n1.1
  subst hu1
  have HZ1:=hide (k1.heap (heap_alloc_new w (.cells (zb 32) 58)) (by simp))
  have HK1:=hide (((Kept.refl [] w).alloc (.cells (zb 32) 58)).trans k1 (by simp))
  clear n1 k1 hm1
  go_wp2_with fail
  refine Calls.mono (xa6e f z _ _ w1 hz (uh HR1) ((uh HT).k (uh HK1))) ?_
  rintro e w2 ⟨rfl,k2⟩
  rw [uh HX,uh HE]
  have HZ2:=hide (k2.heap (uh HZ1) (by simp))
  have HK2:=hide ((uh HK1).trans k2 (by simp))
  clear k2
  go_wp2_with (refine wpList_store_row rfl 58 _ _ rfl w.heap.size (brow D) rfl rfl _ (zb 32) (uh HZ2) (by rw [xa0a,hcl]; exact Tryz.size_dig) (by rw [xa0d,xa0a,hcl]) (xa0b _) ?_)
  refine bodyPost_ret (v:=.tuple #[.agg (brow D),.int .i64 E]) ?_ rfl ⟨rfl,(uh HK2).setRow (by simp) _⟩
  exact xa0c rfl _ _ w.heap.size _ (brow D) (0,0) _ rfl (setRow_heap _ _ _ _ _ _ (uh HZ2)) Tryz.underlying58 rfl (by rw [xa0a,hcl]; exact Tryz.size_dig) _ rfl
end

section
open Go.RowKit
def strOf (p:List Nat):ByteArray:=⟨(p.map UInt8.ofNat).toArray⟩
theorem xc0n (s:ByteArray):∀ n i r,s.size - i = n→ByteArray.toList.loop s i r = r.reverse++s.data.toList.drop i:=by
  intro n
  induction n with
  | zero =>
    intro i r h
    rw [ByteArray.toList.loop]
    have h1:s.size = s.data.toList.length:=(Array.length_toList).symm
    rw [if_neg (by omega),List.drop_eq_nil_of_le (by omega),List.append_nil]
  | succ n ih =>
    intro i r h
    rw [ByteArray.toList.loop]
    have h1:s.size = s.data.toList.length:=(Array.length_toList).symm
    have h2:i < s.data.toList.length:=by omega
    rw [if_pos (by omega),ih (i + 1) _ (by omega),List.drop_eq_getElem_cons h2]
    have h3:s.get! i = s.data.toList[i]:=by
      have h4:i < s.data.size:=by simpa using h2
      rw [Array.getElem_toList]
      exact getElem!_pos s.data i h4
    simp [h3]
theorem xa3i (s:ByteArray):s.toList = s.data.toList:=by
  unfold ByteArray.toList
  rw [xc0n s _ 0 [] rfl]
  simp
theorem xa9w {p q:List Nat} (hp:∀ x∈p,x < 256) (hq:∀ x∈q,x < 256) (h:strOf p = strOf q):p = q:=by
  have h1:p.map UInt8.ofNat = q.map UInt8.ofNat:=by
    have:=congrArg (fun b=>b.data.toList) h
    simpa [strOf] using this
  have h2:=congrArg (List.map UInt8.toNat) h1
  simp only [List.map_map] at h2
  have e:∀ l:List Nat,(∀ x∈l,x < 256)→l.map (UInt8.toNat ∘ UInt8.ofNat) = l:=by
    intro l hl
    conv=>rhs; rw [← List.map_id l]
    apply List.map_congr_left
    intro x hx
    have:=hl x hx
    simp [UInt8.toNat_ofNat]; omega
  rw [e p hp,e q hq] at h2
  exact h2
theorem xa5z (v:Value) (p:List Nat) (w:World) (h:Rd w v p) (hu5:Tryz.prog.underlying 5 = some (.int .u8)) (hu9:Tryz.prog.underlying 9 = some .string) :
    (convert 23 9 v).run Tryz.prog w = .ok (.string (strOf p)) w:=by
  obtain ⟨ao,len,cap,rfl,rfl,h2,h3,h4,h5,h6⟩:=h
  have hl:p.length = (p.map UInt8.ofNat).length:=by simp
  cases ao with
  | none =>
    have hz:=h4 rfl
    have hp0:p = []:=List.eq_nil_of_length_eq_zero (by omega)
    subst hp0
    rw [run_convert_bytes_string w 23 9 5 none _ cap Tryz.underlying23 hu5 hu9]
    simp [Conv.bytesToString,strOf]
    rfl
  | some a =>
    rw [hl]
    refine run_convert_bytes_back w 23 9 5 a cap (p.map UInt8.ofNat) Tryz.underlying23 hu5 hu9 (fun j hj=>?_)
    simp at hj
    obtain ⟨b,off,he,hc⟩:=h6 (by omega)
    cases he
    have:=hc j hj
    rw [Addr.add_mid,this]
    have hb:=h5 (p[j]) (List.getElem_mem hj)
    simp [u8,List.getD_eq_getElem?_getD,List.getElem?_eq_getElem hj,UInt8.toNat_ofNat]
    omega
set_option maxHeartbeats 2000000 in
theorem xa2k (u v:Value) (p q:List Nat) (w:World) (hu:Rd w u p) (hv:Rd w v q) :
    Calls Tryz.prog 43 #[u,v] w fun e w'=>e = .returned (.bool (decide (p = q)))∧w' = w:=by
  have hu5:Tryz.prog.underlying 5 = some (.int .u8):=by kernel_rfl
  have hu9:Tryz.prog.underlying 9 = some .string:=by kernel_rfl
  have c1:=xa5z u p w hu hu5 hu9
  have c2:=xa5z v q w hv hu5 hu9
  have hd:((strOf p).toList == (strOf q).toList) = decide (p = q):=by
    rw [xa3i,xa3i]
    by_cases h:p = q
    · subst h; simp
    · have h2:¬ (strOf p).data.toList = (strOf q).data.toList:=fun e=>h (xa9w hu.byte hv.byte (by
        have e2:=congrArg List.toArray e
        simp only [Array.toArray_toList] at e2
        cases hp:strOf p; cases hq:strOf q
        rw [hp,hq] at e2
        simp only at e2
        rw [e2]))
      rw [decide_eq_false h]
      exact beq_eq_false_iff_ne.2 h2
  have Hd:=hide hd
  generalize strOf p = s1 at *
  generalize strOf q = s2 at *
  clear hu hv hu5 hu9 hd
  go_enter Tryz.func43,Tryz.ntmps43
  go_wp2
  go_ret
  exact ⟨by rw [uh Hd]; rfl,rfl⟩
end
section
open Go Go.RowKit Go.BigFrame

end
section
open Go.RowKit Go.BigFrame
theorem xa1v (z:Int) (p:List Nat):Dg (sumD z p):=⟨xa1c _ _,by
  unfold sumD
  split
  · exact xa5x _ _ (xa3m _)
  · intro x hx; simp at hx; omega⟩
theorem xb4u {k:Nat} {d:List Nat} (hk:k≤32) (hd:d.length = 32):cutL k (cutL k d) = cutL k d:=by
  unfold cutL
  rw [List.take_append_of_le_length (by simp; omega),List.take_take,Nat.min_self]
theorem xa1q {z:Int} (hw:widthB z = true) (p:List Nat):formB z (sumD z p) = true:=by
  unfold formB sumD
  have h:=xa1u hw
  rw [hw]
  simp only [if_true,Bool.true_and]
  rw [xb4u (by omega) (xa4j _)]
  simp
theorem xa7z {k:Nat} (hk:1≤k∧k≤32) (p:List Nat):sumD (k:Int) p = cutL k (hash p):=by
  unfold sumD
  rw [if_pos (by simp [widthB]; omega),Int.toNat_natCast]
theorem xa5a {P:Program} {w:World} {v:Value} {a:List Nat} (h:Rd w v a):∃ r:ByteArray,(Extern.Bytes.bytesOf v).run P w = .ok r w∧r.data.toList = a.map b8:=by
  obtain ⟨ao,n,c,rfl,h1,h2,h3,h4,_,h5⟩:=h
  subst h1
  cases ao with
  | none =>
    have h0:a = []:=List.eq_nil_of_length_eq_zero (by have:=h4 rfl; omega)
    subst h0
    exact ⟨.empty,rfl,rfl⟩
  | some p =>
    rcases Nat.eq_zero_or_pos a.length with h0 | h0
    · have h0':a = []:=List.eq_nil_of_length_eq_zero h0
      subst h0'
      exact ⟨.empty,rfl,rfl⟩
    · obtain ⟨b,off,he,hc⟩:=h5 h0
      cases he
      obtain ⟨r,hr,e⟩:=xa1e (P:=P) (w:=w) (g:=b) a off .empty hc
      exact ⟨r,hr,by rw [e]; simp⟩
theorem xb7k {P:Program} {w:World} {u v:Value} {a b:List Nat} (ha:Rd w u a) (hb:Rd w v b):(Extern.BytealgCompare.compare #[u,v]).run P w = .ok (.int .i64 (ordL a b)) w:=by
  obtain ⟨r,hr,he⟩:=xa5a (P:=P) ha
  obtain ⟨r',hr',he'⟩:=xa5a (P:=P) hb
  change Sem.run P (do pure (goInt (Extern.BytealgCompare.cmp (← Extern.Bytes.bytesOf u) (← Extern.Bytes.bytesOf v)))) w = _
  simp only [Sem.run_bind,hr,hr',Sem.run_pure,Result.andThen]
  rw [Lib.cmp_eq,he,he']
  show Result.ok (goInt (Lib.compareBytes (a.map b8) (b.map b8))) w = _
  rw [xb1w a b ha.byte hb.byte]
  rfl
set_option maxHeartbeats 1000000 in
theorem xb3m (u v:Value) (a b:List Nat) (w:World) (ha:Rd w u a) (hb:Rd w v b) :
    Calls Tryz.prog 144 #[u,v] w fun e w'=>e = .returned (.int .i64 (ordL a b))∧w' = w:=by
  obtain ⟨ao,n,c,rfl,h1,_,_,h4,h5,_⟩:=id ha
  obtain ⟨bo,m,d,rfl,g1,_,_,g4,g5,_⟩:=id hb
  have HC:=hide (fun (P:Program)=>xb7k (P:=P) ha hb)
  clear ha hb h4 g4 h5 g5
  go_enter Tryz.func144,Tryz.ntmps144
  go_wp2
  rw [run_callFunc_extern Tryz.func162 (by kernel_rfl) (by kernel_rfl) (by kernel_rfl) (e:=Extern.BytealgCompare.compare) (by kernel_rfl),uh HC]
  simp only [Result.andThen]
  rw [Oper.upon_value]
  go_wp2
  go_ret
  exact ⟨rfl,rfl⟩
def RdS (w:World) (v:Value) (ss:List (Nat × List (List Nat))):Prop :=
  ∃ (ao:Option Addr) (len cap:Nat) (vs:List Value),v = .slice ao len cap∧ss.length = len∧len≤cap∧cap≤9223372036854775807∧(∀ i,i < len→(ss.getD i (0,[])).1 < 65536∧RdD w (vs.getD i undef) (ss.getD i (0,[])).2) ∧
    (0 < len→∃ b off,ao = some ⟨b,off,none⟩∧∀ i,i < len→w.cell? ⟨b,off + i * 2,none⟩ = some (.int .u16 ((ss.getD i (0,[])).1:Int))∧w.cell? ⟨b,off + i * 2 + 1,none⟩ = some (vs.getD i undef))
theorem RdS.old {w w':World} {v:Value} {ss:List (Nat × List (List Nat))} (h:RdS w v ss) (k:Kept [] w w'):RdS w' v ss:=by
  obtain ⟨ao,len,cap,vs,h1,h2,h4,h5,h6,h7⟩:=h
  refine ⟨ao,len,cap,vs,h1,h2,h4,h5,fun i hi=>⟨(h6 i hi).1,(h6 i hi).2.old k⟩,fun hp=>?_⟩
  obtain ⟨b,off,e,hc⟩:=h7 hp
  exact ⟨b,off,e,fun i hi=>⟨k.cell (hc i hi).1 (by simp),k.cell (hc i hi).2 (by simp)⟩⟩
end
theorem RdD.dg {w:World} {v:Value} {ds:List (List Nat)} (h:RdD w v ds) {d:List Nat} (hd:d∈ds):Dg d:=by
  obtain ⟨ao',len',cap',e,h1,h2,h3,h4,h5⟩:=h
  exact h4 d hd
section
open Go.RowKit Go.BigFrame
theorem xb4j {x:Nat} (hx:x < 65536):ones x = cnt x 16:=by
  have h:∀ y,y < 256→ones y = cnt y 8:=fun y hy=>by
    have h1:Lib.pop8 (y:Int) = (ones y:Int):=Lib.pop8_eq ⟨y,hy⟩
    rw [xb1i hy] at h1; omega
  rw [xa3y x hx,xa9y,h _ (by omega),h _ (by omega)]
def hsZ (k:Nat):Hs:=⟨k,fun p=>sumD (k:Int) (2 :: p),fun ps=>sumD (k:Int) (buckB ps),fun x ds=>sumD (k:Int) (branchB (k:Int) x ds)⟩
theorem wide_k {k:Nat} (hk:1≤k∧k≤32):widthB (k:Int) = true:=by unfold widthB; rw [decide_eq_true (by omega)]
theorem hsZ_ok {k:Nat} (hk:1≤k∧k≤32):(hsZ k).Ok:=⟨hk.1,hk.2,fun _=>xa1v _ _,fun p j hj=>by
  show dgt (sumD (k:Int) (2 :: p)) j = 0
  have hj':2 * k≤j:=hj
  rw [xa7z hk]
  have h0:(cutL k (hash (2 :: p))).getD (j / 2) 0 = 0:=by
    unfold cutL
    rw [List.getD_eq_getElem?_getD,List.getElem?_append_right (by simp; omega),List.getElem?_replicate]
    split <;> rfl
  unfold dgt
  rw [h0]; simp⟩
theorem xa9q {k:Nat} (hk:1≤k∧k≤32) (q:List Nat):formB (k:Int) ((hsZ k).kd q) = true:=xa1q (wide_k hk) _
theorem xa7l {k:Nat} (hk:1≤k∧k≤32) (f:Nat) (L:Prs):formB (k:Int) (nodP (hsZ k) f L) = true:=by
  cases f with
  | zero=>exact xa1q (wide_k hk) _
  | succ f=>unfold nodP; split <;> exact xa1q (wide_k hk) _
theorem nod_dg (k f:Nat) (L:Prs):Dg (nodP (hsZ k) f L):=by
  cases f with
  | zero=>exact xa1v _ _
  | succ f=>unfold nodP; split <;> exact xa1v _ _
theorem xb1b {k:Nat} (hk:1≤k∧k≤32) {ds:List (List Nat)} (h:∀ d∈ds,formB (k:Int) d = true):formedE (k:Int) ds = 0:=by
  unfold formedE
  rw [if_neg (by simp [wide_k hk]),if_pos (List.all_eq_true.2 h)]
theorem xb6s {k:Nat} (hk:1≤k∧k≤32) {x:Nat} (hx:x < 65536) {ds:List (List Nat)} (h:∀ d∈ds,formB (k:Int) d = true) (hc:cnt x 16 = ds.length) (hn:ds≠[]):branchE (k:Int) x ds = 0:=by
  unfold branchE
  rw [if_pos (xb1b hk h),xb4j hx,hc,if_neg]
  rintro (h1 | h1)
  · subst h1
    have h2:cnt 0 16 = 0:=by decide
    rw [h2] at hc
    cases ds with
    | nil=>exact hn rfl
    | cons d ds=>simp at hc
  · exact h1 rfl
def Agr (S:Nat→Prop) (W W':World):Prop:=W.heap.size≤W'.heap.size∧∀ x,S x→x < W.heap.size→W'.heap[x]? = W.heap[x]?
theorem Agr.refl (S:Nat→Prop) (W:World):Agr S W W:=⟨Nat.le_refl _,fun _ _ _=>rfl⟩
theorem Agr.trans {S:Nat→Prop} {a b c:World} (h:Agr S a b) (k:Agr S b c):Agr S a c :=
  ⟨Nat.le_trans h.1 k.1,fun x hx hl=>(k.2 x hx (Nat.lt_of_lt_of_le hl h.1)).trans (h.2 x hx hl)⟩
theorem Agr.kept {S:Nat→Prop} {M:List Nat} {W W':World} (k:Kept M W W') (h:∀ x∈M,¬ S x):Agr S W W' :=
  ⟨k.size,fun x hx hl=>k.block x hl (fun hm=>h x hm hx)⟩
theorem Agr.nil {S:Nat→Prop} {W W':World} (k:Kept [] W W'):Agr S W W':=Agr.kept k (by simp)
theorem Agr.sub {S T:Nat→Prop} {W W':World} (h:Agr S W W') (hs:∀ x,T x→S x):Agr T W W':=⟨h.1,fun x hx hl=>h.2 x (hs x hx) hl⟩
theorem Agr.heap {S:Nat→Prop} {W W':World} (h:Agr S W W') {b:Nat} {o:Obj} (hb:W.heap[b]? = some o) (hs:S b):W'.heap[b]? = some o :=
  (h.2 b hs (lt_of_block hb)).trans hb
theorem Agr.cell {S:Nat→Prop} {W W':World} (h:Agr S W W') {a:Addr} {v:Value} (hc:W.cell? a = some v) (hs:S a.block):W'.cell? a = some v :=
  (World.cell?_of_block (h.2 a.block hs (block_lt_of_cell hc))).trans hc
def Sty (S:Nat→Prop) (W:World) (P:World→Prop):Prop:=∀ W',Agr S W W'→P W'
theorem Sty.now {S:Nat→Prop} {W:World} {P:World→Prop} (h:Sty S W P):P W:=h W (Agr.refl S W)
theorem Sty.agr {S:Nat→Prop} {W W':World} {P:World→Prop} (h:Sty S W P) (a:Agr S W W'):Sty S W' P:=fun w k=>h w (a.trans k)
theorem Sty.rd {S:Nat→Prop} {W:World} {v:Value} {bs:List Nat} (h:Rd W v bs) (hs:∀ x∈blk v,S x):Sty S W (fun w=>Rd w v bs):=fun w k=>by
  obtain ⟨ao,len,cap,rfl,h1,h2,h3,h4,h5,h6⟩:=h
  refine ⟨ao,len,cap,rfl,h1,h2,h3,h4,h5,fun hp=>?_⟩
  obtain ⟨b,off,rfl,hc⟩:=h6 hp
  exact ⟨b,off,rfl,fun i hi=>k.cell (hc i hi) (hs b (by simp [blk]))⟩
def SRow (S:Nat→Prop) (W:World) (v:Value) (vs:List Value):Prop :=
  ∃ b off cap,v = .slice (some ⟨b,off,none⟩) vs.length cap∧vs.length≤cap∧cap≤9223372036854775807∧S b∧∀ i,i < vs.length→W.cell? ⟨b,off + i,none⟩ = some (vs.getD i undef)
theorem SRow.agr {S:Nat→Prop} {W W':World} {v:Value} {vs:List Value} (h:SRow S W v vs) (a:Agr S W W'):SRow S W' v vs:=by
  obtain ⟨b,off,cap,h1,h2,h3,h4,h5⟩:=h
  exact ⟨b,off,cap,h1,h2,h3,h4,fun i hi=>a.cell (h5 i hi) h4⟩
def KRow (S:Nat→Prop) (W:World) (pv:Value) (L:Prs):Prop :=
  ∃ (b off cap:Nat) (l:List (Value × Value)),pv = .slice (some ⟨b,off,none⟩) l.length cap∧l.length≤cap∧cap≤9223372036854775807∧S b∧l.length = L.length ∧
    (∀ i,i < l.length→W.cell? ⟨b,off + i * 2,none⟩ = some (l.getD i (undef,undef)).1∧W.cell? ⟨b,off + i * 2 + 1,none⟩ = some (l.getD i (undef,undef)).2) ∧
    ∀ i,i < l.length→Sty S W (fun w=>Rd w (l.getD i (undef,undef)).1 (L.getD i ([],[])).1∧Rd w (l.getD i (undef,undef)).2 (L.getD i ([],[])).2)
theorem KRow.agr {S:Nat→Prop} {W W':World} {pv:Value} {L:Prs} (h:KRow S W pv L) (a:Agr S W W'):KRow S W' pv L:=by
  obtain ⟨b,off,cap,l,h1,h2,h3,h4,h5,h6,h7⟩:=h
  exact ⟨b,off,cap,l,h1,h2,h3,h4,h5,fun i hi=>⟨a.cell (h6 i hi).1 h4,a.cell (h6 i hi).2 h4⟩,fun i hi=>(h7 i hi).agr a⟩
theorem KRow.rdK {S:Nat→Prop} {W:World} {pv:Value} {L:Prs} (h:KRow S W pv L):RdK W pv L:=by
  obtain ⟨b,off,cap,l,h1,h2,h3,h4,h5,h6,h7⟩:=h
  have e1:∀ i,i < l.length→(l.map (·.1)).getD i undef = (l.getD i (undef,undef)).1∧(l.map (·.2)).getD i undef = (l.getD i (undef,undef)).2:=fun i hi=>by
    simp [List.getD_eq_getElem?_getD,List.getElem?_eq_getElem hi]
  refine ⟨_,l.length,cap,l.map (·.1),l.map (·.2),h1,h5.symm,h2,h3,fun i hi=>?_,fun _=>⟨b,off,rfl,fun i hi=>?_⟩⟩
  · rw [(e1 i hi).1,(e1 i hi).2]; exact (h7 i hi).now
  · rw [(e1 i hi).1,(e1 i hi).2]; exact h6 i hi
def bkC (D:List Nat) (pv:Value) (O:List Nat):List Value:=D.map u8++([pv]++(O.map u8++[]))
def brC (x:Nat) (kv:Value) (O:List Nat):List Value:=[.int .u16 (x:Int),kv]++(O.map u8++[])
def BkAt (S:Nat→Prop) (H:Hs) (W:World) (g:Nat) (L:Prs):Prop :=
  ∃ pv,S g∧W.heap[g]? = some (.cells (bkC (H.kd (L.headD ([],[])).1) pv (H.hb L)).toArray 111 (0,0))∧L≠[]∧KRow S W pv L
abbrev bkV (g:Nat):Value:=.iface 100 (.pointer (some ⟨g,0,none⟩))
abbrev brV (g:Nat):Value:=.iface 112 (.pointer (some ⟨g,0,none⟩))
theorem BkAt.agr {S:Nat→Prop} {H:Hs} {W W':World} {g:Nat} {L:Prs} (h:BkAt S H W g L) (a:Agr S W W'):BkAt S H W' g L:=by
  obtain ⟨pv,h1,h2,h3,h4⟩:=h
  exact ⟨pv,h1,a.heap h2 h1,h3,h4.agr a⟩
def TreeAt (S:Nat→Prop) (H:Hs) (W:World):Nat→Value→Prs→Prop
  | 0,v,L=>sgl H L = true∧∃ g,v = bkV g∧BkAt S H W g L
  | f + 1,v,L=>(sgl H L = true→∃ g,v = bkV g∧BkAt S H W g L)∧(sgl H L = false→∃ g kv vs,v = brV g∧S g∧W.heap[g]? = some (.cells (brC (bm H (63 - f) L) kv (nodP H (f + 1) L)).toArray 115 (0,0)) ∧
      SRow S W kv vs∧vs.length = (kidsL H (63 - f) L).length∧∀ i,i < vs.length→TreeAt S H W f (vs.getD i undef) ((kidsL H (63 - f) L).getD i []))
theorem TreeAt.agr {S:Nat→Prop} {H:Hs} {W W':World} (a:Agr S W W'):∀ {f:Nat} {v:Value} {L:Prs},TreeAt S H W f v L→TreeAt S H W' f v L
  | 0,v,L,h=>by
    obtain ⟨hs,g,h1,h2⟩:=h
    exact ⟨hs,g,h1,h2.agr a⟩
  | f + 1,v,L,h=>by
    refine ⟨fun hs=>?_,fun hs=>?_⟩
    · obtain ⟨g,h1,h2⟩:=h.1 hs
      exact ⟨g,h1,h2.agr a⟩
    · obtain ⟨g,kv,vs,h1,h2,h3,h4,h5,h6⟩:=h.2 hs
      exact ⟨g,kv,vs,h1,h2,a.heap h3 h2,h4.agr a,h5,fun i hi=>(h6 i hi).agr a⟩
theorem TreeAt.bk {S:Nat→Prop} {H:Hs} {W:World} {f:Nat} {v:Value} {L:Prs} (h:TreeAt S H W f v L) (hs:sgl H L = true):∃ g,v = bkV g∧BkAt S H W g L:=by
  cases f with
  | zero=>exact h.2
  | succ f=>exact h.1 hs
theorem TreeAt.ofBk {S:Nat→Prop} {H:Hs} {W:World} (f:Nat) {g:Nat} {L:Prs} (h:BkAt S H W g L) (hs:sgl H L = true):TreeAt S H W f (bkV g) L:=by
  cases f with
  | zero=>exact ⟨hs,g,rfl,h⟩
  | succ f=>exact ⟨fun _=>⟨g,rfl,h⟩,fun hn=>by rw [hs] at hn; cases hn⟩
theorem TreeAt.ne {S:Nat→Prop} {H:Hs} {W:World} {f:Nat} {v:Value} {L:Prs} (h:TreeAt S H W f v L):L≠[]:=by
  intro e
  subst e
  obtain ⟨g,_,pv,_,_,hn,_⟩:=h.bk (xb6u H)
  exact hn rfl
def TopAt (S:Nat→Prop) (H:Hs) (W:World) (v:Value) (L:Prs):Prop:=(L = []∧v = .nilIface)∨TreeAt S H W 64 v L
theorem TopAt.agr {S:Nat→Prop} {H:Hs} {W W':World} {v:Value} {L:Prs} (h:TopAt S H W v L) (a:Agr S W W'):TopAt S H W' v L:=by
  rcases h with h | h
  · exact Or.inl h
  · exact Or.inr (h.agr a)
def Fit (L:Prs):Prop:=∀ p∈L,p.1.length≤64∧p.2.length≤256
theorem Fit.sub {L M:Prs} (h:Fit L) (hs:∀ x∈M,x∈L):Fit M:=fun p hp=>h p (hs p hp)
structure MapAt (S:Nat→Prop) (k:Nat) (W:World) (v:Value) (L:Prs):Prop where
  ok:1≤k∧k≤32
  srt:Srt (hsZ k) L
  fit:Fit L
  len:L.length≤1000000000
  at_:∃ g tv,v = .pointer (some ⟨g,0,none⟩)∧S g∧W.heap[g]? = some (.cells #[.int .i64 k,.int .i64 (L.length:Nat),tv] 97 (0,0))∧TopAt S (hsZ k) W tv L
theorem MapAt.agr {S:Nat→Prop} {k:Nat} {W W':World} {v:Value} {L:Prs} (h:MapAt S k W v L) (a:Agr S W W'):MapAt S k W' v L:=by
  obtain ⟨h1,h2,h3,h4,g,tv,h5,h6,h7,h8⟩:=h
  exact ⟨h1,h2,h3,h4,g,tv,h5,h6,a.heap h7 h6,h8.agr a⟩
theorem xb7s {place:Nat→Option (Nat × Nat)} {A:Array Value} {i off:Nat} {vs:List Value} {rest:List (Nat × Value)} (hp:place i = some (off,vs.length)) (h:off + vs.length≤A.size) :
    Instr.fill place A ((i,.agg vs.toArray) :: rest) = Instr.fill place (A.toList.take off++(vs++A.toList.drop (off + vs.length))).toArray rest:=by
  conv=>lhs; unfold Instr.fill
  rw [hp]
  have h1:(Value.agg vs.toArray).cells = vs.toArray:=rfl
  simp only [h1,List.size_toArray]
  rw [if_neg (by simp; omega)]
  have h2:=xa5h vs A off 0 (by omega)
  rw [Nat.add_zero] at h2
  have h3:vs.toArray.zipIdx.foldl (fun cs x=>cs.setIfInBounds (off + x.2) x.1) A = (vs.zipIdx 0).foldl (fun cs x=>cs.setIfInBounds (off + x.2) x.1) A:=by simp
  rw [← h2,← h3]
theorem xa1d {place:Nat→Option (Nat × Nat)} {i n:Nat} {rest:List (Nat × Value)} (pre mid post vs:List Value) {X:Value} (hX:X.cells = vs.toArray) (hp:place i = some (pre.length,n)) (hn:vs.length = n) (hm:mid.length = n) :
    Instr.fill place (pre++(mid++post)).toArray ((i,X) :: rest) = Instr.fill place (pre++(vs++post)).toArray rest:=by
  have e:Instr.fill place (pre++(mid++post)).toArray ((i,X) :: rest) = Instr.fill place (pre++(mid++post)).toArray ((i,.agg vs.toArray) :: rest):=by
    have h1:(Value.agg vs.toArray).cells = vs.toArray:=rfl
    conv=>lhs; unfold Instr.fill
    conv=>rhs; unfold Instr.fill
    rw [hX,h1]
  subst hn
  rw [e,xb7s hp (by rw [List.size_toArray,List.length_append,List.length_append,hm]; omega)]
  rw [List.take_left,← List.append_assoc pre mid post,show pre.length + vs.length = (pre++mid).length by rw [List.length_append,hm],List.drop_left]
theorem zbk:(Tryz.prog.info? 111).map (fun i=>(i.zero,i.size)) = some (some (.agg (bkC (List.replicate 32 0) (.slice none 0 0) (List.replicate 32 0)).toArray),65):=by kernel_rfl
theorem zbr:(Tryz.prog.info? 115).map (fun i=>(i.zero,i.size)) = some (some (.agg (brC 0 (.slice none 0 0) (List.replicate 32 0)).toArray),34):=by kernel_rfl
theorem fbk:∀ fs,Tryz.prog.underlying 111 = some (.struct fs)→fs.toList.mapM (fun f=>(Tryz.prog.info? f.type).map fun i=>(f.offset,i.size)) = some [(0,32),(32,1),(33,32)]:=by
  intro fs hfs
  rw [Tryz.underlying111] at hfs
  injection hfs with hfs
  injection hfs with hfs
  subst hfs
  kernel_rfl
theorem fbr:∀ fs,Tryz.prog.underlying 115 = some (.struct fs)→fs.toList.mapM (fun f=>(Tryz.prog.info? f.type).map fun i=>(f.offset,i.size)) = some [(0,1),(1,1),(2,32)]:=by
  intro fs hfs
  rw [Tryz.underlying115] at hfs
  injection hfs with hfs
  injection hfs with hfs
  subst hfs
  kernel_rfl
theorem xb7m (D O:List Nat) (ao:Option Addr) (n c:Nat) (hD:D.length = 32) (hO:O.length = 32):Tryz.prog.built 111 [(0,.agg (brow D)),(1,.slice ao n c),(2,.agg (brow O))] = some (bkC D (.slice ao n c) O).toArray:=by
  have hz:=zbk
  obtain ⟨it,hit⟩:∃ it,Tryz.prog.info? 111 = some it:=by
    cases h:Tryz.prog.info? 111 with
    | none=>rw [h] at hz; cases hz
    | some it=>exact ⟨it,rfl⟩
  rw [hit] at hz
  simp only [Option.map_some,Option.some.injEq,Prod.mk.injEq] at hz
  obtain ⟨fs,hfs⟩:∃ fs,Tryz.prog.underlying 111 = some (.struct fs):=⟨_,Tryz.underlying111⟩
  have hpl:=fbk fs hfs
  unfold Program.built
  rw [hit,hfs]
  simp only [hz.1,hpl,Value.cells]
  have z1:(List.replicate 32 0:List Nat).length = 32:=List.length_replicate
  generalize (List.replicate 32 0:List Nat) = z at z1 ⊢
  unfold bkC
  have s1:=xa1d (place:=([(0,32),(32,1),(33,32)].toArray[·]?)) (i:=0) (n:=32) (rest:=[(1,.slice ao n c),(2,.agg (brow O))]) [] (z.map u8) ([.slice none 0 0]++(z.map u8++[])) (D.map u8) (X:=.agg (brow D)) rfl rfl (by rw [List.length_map,hD]) (by rw [List.length_map,z1])
  have s2:=xa1d (place:=([(0,32),(32,1),(33,32)].toArray[·]?)) (i:=1) (n:=1) (rest:=[(2,.agg (brow O))]) (D.map u8) [.slice none 0 0] (z.map u8++[]) [.slice ao n c] (X:=.slice ao n c) rfl (by rw [List.length_map,hD]; rfl) rfl rfl
  have s3:=xa1d (place:=([(0,32),(32,1),(33,32)].toArray[·]?)) (i:=2) (n:=32) (rest:=[]) (D.map u8++[.slice ao n c]) (z.map u8) [] (O.map u8) (X:=.agg (brow O)) rfl (by rw [List.length_append,List.length_map,hD]; rfl) (by rw [List.length_map,hO]) (by rw [List.length_map,z1])
  rw [List.nil_append] at s1
  rw [List.append_assoc,List.append_assoc] at s3
  rw [s1,List.nil_append,s2,s3]
  rfl
theorem xb8i (x:Nat) (O:List Nat) (ao:Option Addr) (n c:Nat) (hO:O.length = 32):Tryz.prog.built 115 [(0,.int .u16 (x:Int)),(1,.slice ao n c),(2,.agg (brow O))] = some (brC x (.slice ao n c) O).toArray:=by
  have hz:=zbr
  obtain ⟨it,hit⟩:∃ it,Tryz.prog.info? 115 = some it:=by
    cases h:Tryz.prog.info? 115 with
    | none=>rw [h] at hz; cases hz
    | some it=>exact ⟨it,rfl⟩
  rw [hit] at hz
  simp only [Option.map_some,Option.some.injEq,Prod.mk.injEq] at hz
  obtain ⟨fs,hfs⟩:∃ fs,Tryz.prog.underlying 115 = some (.struct fs):=⟨_,Tryz.underlying115⟩
  have hpl:=fbr fs hfs
  unfold Program.built
  rw [hit,hfs]
  simp only [hz.1,hpl,Value.cells]
  have z1:(List.replicate 32 0:List Nat).length = 32:=List.length_replicate
  generalize (List.replicate 32 0:List Nat) = z at z1 ⊢
  unfold brC
  have s1:=xa1d (place:=([(0,1),(1,1),(2,32)].toArray[·]?)) (i:=0) (n:=1) (rest:=[(1,.slice ao n c),(2,.agg (brow O))]) [] [.int .u16 ((0:Nat):Int)] ([.slice none 0 0]++(z.map u8++[])) [.int .u16 (x:Int)] (X:=.int .u16 (x:Int)) rfl rfl rfl rfl
  have s2:=xa1d (place:=([(0,1),(1,1),(2,32)].toArray[·]?)) (i:=1) (n:=1) (rest:=[(2,.agg (brow O))]) [.int .u16 (x:Int)] [.slice none 0 0] (z.map u8++[]) [.slice ao n c] (X:=.slice ao n c) rfl rfl rfl rfl
  have s3:=xa1d (place:=([(0,1),(1,1),(2,32)].toArray[·]?)) (i:=2) (n:=32) (rest:=[]) [.int .u16 (x:Int),.slice ao n c] (z.map u8) [] (O.map u8) (X:=.agg (brow O)) rfl rfl (by rw [List.length_map,hO]) (by rw [List.length_map,z1])
  exact s1.trans (s2.trans s3)
theorem xa0j {w:World} {g n:Nat} {t:TypeId} {fr:Nat × Nat} (a b c:List Value) (h:w.heap[g]? = some (.cells (a++(b++c)).toArray t fr)) (hn:a.length = n):w.rangeAt g n b:=by
  subst hn
  intro j v hv
  have hj:=(List.getElem?_eq_some_iff.1 hv).1
  rw [cell_of_row w g _ _ t fr h,List.getElem?_toArray,List.getElem?_append_right (by omega),Nat.add_sub_cancel_left,List.getElem?_append_left hj,hv]
theorem bk_row {W:World} {g:Nat} {D O:List Nat} {pv:Value} {t:TypeId} (h:W.heap[g]? = some (.cells (bkC D pv O).toArray t (0,0))) (hD:D.length = 32):W.rangeAt g 0 (D.map u8)∧W.cell? ⟨g,32,none⟩ = some pv∧W.rangeAt g 33 (O.map u8):=by
  refine ⟨xa0j [] _ _ (by rw [List.nil_append]; exact h) rfl,?_,?_⟩
  · rw [cell_of_row _ _ _ _ _ _ h,List.getElem?_toArray]
    unfold bkC
    rw [List.getElem?_append_right (by simp [hD])]
    simp [hD]
  · have:=xa0j (w:=W) (g:=g) (n:=33) (t:=t) (fr:=(0,0)) (D.map u8++[pv]) (O.map u8) [] (by rw [List.append_assoc]; exact h) (by simp [hD])
    exact this
theorem br_row {W:World} {g:Nat} {x:Nat} {O:List Nat} {kv:Value} {t:TypeId} (h:W.heap[g]? = some (.cells (brC x kv O).toArray t (0,0))):W.cell? ⟨g,0,none⟩ = some (.int .u16 (x:Int))∧W.cell? ⟨g,1,none⟩ = some kv∧W.rangeAt g 2 (O.map u8):=by
  refine ⟨?_,?_,xa0j [.int .u16 (x:Int),kv] _ _ h rfl⟩
  · rw [cell_of_row _ _ _ _ _ _ h,List.getElem?_toArray]; rfl
  · rw [cell_of_row _ _ _ _ _ _ h,List.getElem?_toArray]; rfl
def flatD (ds:List (List Nat)):List Value:=(ds.map fun d=>d.map u8).flatten
theorem xa1p {ds:List (List Nat)} (h:∀ d∈ds,d.length = 32):(flatD ds).length = ds.length * 32:=by
  induction ds with
  | nil=>rfl
  | cons d r ih =>
    have:=ih (fun x hx=>h x (by simp [hx]))
    simp only [flatD,List.map_cons,List.flatten_cons,List.length_append,List.length_map,List.length_cons] at this ⊢
    rw [this,h d (by simp)]; omega
theorem xa3l (a b:List (List Nat)):flatD (a++b) = flatD a++flatD b:=by simp [flatD]
theorem xa5k (ds:List (List Nat)):∀ v∈flatD ds,v.oneCell' = true:=by
  intro v hv
  simp only [flatD,List.mem_flatten,List.mem_map] at hv
  obtain ⟨l,⟨d,_,rfl⟩,h⟩:=hv
  exact xa1b d v h
theorem xa5u {ds:List (List Nat)} (h:∀ d∈ds,d.length = 32):∀ (i:Nat),i < ds.length→∀ j,j < 32→(flatD ds)[i * 32 + j]? = ((ds.getD i []).map u8)[j]?:=by
  induction ds with
  | nil=>intro i hi; simp at hi
  | cons d r ih =>
    intro i hi j hj
    have hd:=h d (by simp)
    have e:flatD (d :: r) = d.map u8++flatD r:=by simp [flatD]
    rw [e]
    cases i with
    | zero =>
      rw [Nat.zero_mul,Nat.zero_add,List.getElem?_append_left (by simp [hd]; exact hj)]; rfl
    | succ i =>
      rw [List.getElem?_append_right (by simp [hd]; omega),List.length_map,hd,show (i + 1) * 32 + j - 32 = i * 32 + j by omega,ih (fun x hx=>h x (by simp [hx])) i (by simpa using hi) j hj]
      rfl
theorem xa1w {L:List Nat} {w0:World} (b:Nat) (hb:b∈L∨w0.heap.size≤b):∀ (vs:List Value) (o:Nat) (w:World),Kept L w0 w→Kept L w0 (w.setCells b o vs)
  | [],_,_,h=>h
  | v :: r,o,w,h=>by rw [World.setCells]; exact xa1w b hb r (o + 1) _ (h.setCell hb v)
theorem xb4w {w:World} {b:Nat} {t:TypeId} {cs:List Value} (h:w.heap[b]? = some (.cells cs.toArray t (0,0))) {o n:Nat} (hl:o + n≤cs.length):w.there b o n:=fun j hj =>
  ⟨by rw [cell_of_row _ _ _ _ _ _ h,List.getElem?_toArray,List.getElem?_eq_getElem (by omega)]; rfl,frozen_of_row _ _ _ _ _ h⟩
theorem xa2f (b:Nat) (t:TypeId):∀ (vs pre mid post:List Value) (w:World),mid.length = vs.length→w.heap[b]? = some (.cells (pre++(mid++post)).toArray t (0,0))→(w.setCells b pre.length vs).heap[b]? = some (.cells (pre++(vs++post)).toArray t (0,0))
  | [],pre,mid,post,w,hl,h=>by
    have:mid = []:=List.eq_nil_of_length_eq_zero (by simpa using hl)
    subst this; exact h
  | v :: r,pre,mid,post,w,hl,h=>by
    obtain ⟨x,mid,rfl⟩:∃ x q,mid = x :: q:=by cases mid with | nil=>simp at hl | cons x q=>exact ⟨x,q,rfl⟩
    rw [World.setCells]
    have h1:=heap_setCell_same w b pre.length _ t v h
    have e1:(pre++(x :: mid++post)).toArray.setIfInBounds pre.length v = ((pre++[v])++(mid++post)).toArray:=by simp
    rw [e1] at h1
    have h2:=xa2f b t r (pre++[v]) mid post _ (by simpa using hl) h1
    rw [List.length_append,List.length_cons,List.length_nil,List.append_assoc] at h2
    simpa using h2
theorem xb2f {W:World} {g i n:Nat} {t:TypeId} {ds:List (List Nat)} {O:List Nat} (h:W.heap[g]? = some (.cells (flatD (ds.take i)++List.replicate ((n - i) * 32) (u8 0)).toArray t (0,0))) (hi:i < n) (hn:ds.length = n) (hd:∀ d∈ds,d.length = 32) (hO:ds.getD i [] = O) :
    W.there g (i * 32) 32∧(W.setCells g (i * 32) (O.map u8)).heap[g]? = some (.cells (flatD (ds.take (i + 1))++List.replicate ((n - (i + 1)) * 32) (u8 0)).toArray t (0,0)):=by
  have hpl:(flatD (ds.take i)).length = i * 32:=by
    rw [xa1p (fun d hm=>hd d (List.mem_of_mem_take hm)),List.length_take,Nat.min_eq_left (by omega)]
  have hsp:List.replicate ((n - i) * 32) (u8 0) = List.replicate 32 (u8 0)++List.replicate ((n - (i + 1)) * 32) (u8 0):=by
    rw [List.replicate_append_replicate]; congr 1; omega
  have hOm:O∈ds:=by
    rw [← hO,List.getD_eq_getElem?_getD,List.getElem?_eq_getElem (by omega)]; exact List.getElem_mem _
  have hOl:=hd O hOm
  have hnx:flatD (ds.take (i + 1)) = flatD (ds.take i)++O.map u8:=by
    rw [List.take_succ_eq_append_getElem (by omega),xa3l]
    congr 1
    rw [← hO,List.getD_eq_getElem?_getD,List.getElem?_eq_getElem (by omega)]
    simp [flatD]
  rw [hsp] at h
  refine ⟨xb4w h (by rw [List.length_append,List.length_append,hpl,List.length_replicate]; omega),?_⟩
  have:=xa2f g t (O.map u8) (flatD (ds.take i)) (List.replicate 32 (u8 0)) (List.replicate ((n - (i + 1)) * 32) (u8 0)) W (by rw [List.length_replicate,List.length_map,hOl]) h
  rw [hpl] at this
  rw [this,hnx,List.append_assoc]
theorem RdD.nlP {w:World} {ao:Option Addr} {len cap:Nat} {ds:List (List Nat)} (h:RdD w (.slice ao len cap) ds):ds.length = len:=by
  obtain ⟨_,_,_,e,h1,_⟩:=h
  cases e; exact h1
theorem RdD.news {w:World} {b off n c:Nat} {ds:List (List Nat)} (h:RdD w (.slice (some ⟨b,off,none⟩) n c) ds):∀ j u,(flatD ds)[j]? = some u→w.cell? ((⟨b,off,none⟩:Addr).add j) = some u:=by
  obtain ⟨ao',len',cap',e,h1,h2,h3,h4,h5⟩:=h
  cases e
  intro j u hu
  have hl:=xa1p (fun d hd=>(h4 d hd).1)
  have hj:=(List.getElem?_eq_some_iff.1 hu).1
  have hp:0 < n:=by
    rcases Nat.eq_zero_or_pos n with h0 | h0
    · rw [hl,h1,h0] at hj; omega
    · exact h0
  obtain ⟨b',off',e,hc⟩:=h5 hp
  cases e
  have hi:j / 32 < ds.length:=by omega
  have hq:=xa5u (fun d hd=>(h4 d hd).1) (j / 32) hi (j % 32) (Nat.mod_lt _ (by decide))
  rw [show j / 32 * 32 + j % 32 = j by omega,hu] at hq
  have:=hc (j / 32) (by omega) (j % 32) u hq.symm
  rw [Addr.add_mid]
  rw [show off + j / 32 * 32 + j % 32 = off + j by omega] at this
  exact this
theorem xb8q {w:World} {base:Nat} {v:Value} {ds:List (List Nat)} (h:w.ownsRow base 58 32 v ds.length (flatD ds)) (hd:∀ d∈ds,Dg d):RdD w v ds:=by
  rcases h.2 with ⟨rfl,h0⟩ | ⟨g,cap,cur,rfl,_,hg,h1,h2,h3,h4⟩
  · exact ⟨none,0,0,rfl,h0,Nat.le_refl _,by omega,hd,fun h=>by omega⟩
  · refine ⟨_,ds.length,cap,rfl,rfl,h1,by unfold maxLen at h2; omega,hd,fun hp=>⟨g,0,rfl,fun i hi j v hv=>?_⟩⟩
    have hj:j < 32:=by
      have:=(List.getElem?_eq_some_iff.1 hv).1
      rw [List.length_map,List.getD_eq_getElem?_getD,List.getElem?_eq_getElem hi] at this
      rw [← (hd ds[i] (List.getElem_mem hi)).1]; exact this
    have hq:=xa5u (fun d hd'=>(hd d hd').1) i hi j hj
    rw [Nat.zero_add,cell_of_row _ _ _ _ _ _ hg,← hv,← hq,← h4,List.getElem?_take_of_lt (by omega),Array.getElem?_toList]
theorem Tryz.infoD:(Tryz.prog.info? 58).map (fun i=>(i.zero,i.size,i.bytes)) = some (some (.agg (zb 32)),32,32):=by kernel_rfl
theorem xa3o {w:World} {base:Nat} {e:TypeId} {size n:Nat} {v:Value} {xs:List Value} (h:w.ownsRow base e size v n xs):∃ ao cap,v = .slice ao n cap:=by
  rcases h.2 with ⟨rfl,rfl⟩ | ⟨g,cap,cur,rfl,_⟩
  · exact ⟨none,0,rfl⟩
  · exact ⟨_,cap,rfl⟩
theorem xb0o {P:Program} {w:World} (base:Nat) (t ty e:TypeId) (i:TypeInfo) (size c:Nat) (ht:P.underlying t = some (.slice e)) (hi:P.info? e = some i)
    (v:Value) (n:Nat) (xs:List Value) (hown:w.ownsRow base e size v n xs) :
    (Builtin.append_ #[t,t] ty #[v,.slice none 0 c]).run P w = .ok v w:=by
  rcases hown.2 with ⟨rfl,rfl⟩ | ⟨g,cap,cur,rfl,_,_,hnc,_⟩
  · simp [Builtin.append_,run_underlying ht,sizeOf,typeInfo,hi,Builtin.lenOf,Builtin.firstCells]
  · simp [Builtin.append_,run_underlying ht,sizeOf,typeInfo,hi,Builtin.lenOf,Builtin.firstCells,hnc,storeCells]
theorem appendD (w:World) (base:Nat) (v:Value) (ds ps:List (List Nat)) (ao:Option Addr) (n c:Nat) (h:w.ownsRow base 58 32 v ds.length (flatD ds)) (hr:RdD w (.slice ao n c) ps) (hl:ds.length + ps.length≤1000000000000) (hb:base≤w.heap.size) :
    ∃ ao' cap' w1,(Builtin.append_ #[50,50] 50 #[v,.slice ao n c]).run Tryz.prog w = .ok (.slice ao' (ds.length + ps.length) cap') w1 ∧
      w1.ownsRow base 58 32 (.slice ao' (ds.length + ps.length) cap') (ds++ps).length (flatD (ds++ps))∧w.grownBy w1 v.ownBlock:=by
  obtain ⟨i0,hi,hz0,hz1,hz2⟩:=info_parts Tryz.infoD
  have hn:=hr.nlP
  have hdg:∀ d∈ps,d.length = 32:=fun d hd=>(hr.dg hd).1
  rw [xa3l,List.length_append]
  by_cases h0:n = 0
  · subst h0
    have hp:ps = []:=List.eq_nil_of_length_eq_zero hn
    subst hp
    cases ao with
    | none =>
      have hrun:=xb0o (P:=Tryz.prog) (w:=w) base 50 50 58 i0 32 c Tryz.underlying50 hi v ds.length (flatD ds) h
      obtain ⟨ao',cap',rfl⟩:=xa3o h
      exact ⟨ao',cap',w,hrun,by simpa [flatD] using h,World.grownBy.refl _ _⟩
    | some ad =>
      obtain ⟨v',w1,hrun,hown,hgrow,_,hat⟩:=run_append_own_at (P:=Tryz.prog) w base 50 50 58 i0 (.agg (zb 32)) 32 32 Tryz.underlying50 hi hz0 hz1 hz2 (by show (zb 32).size = 32; exact xa0d 32) (by decide)
        v ds.length (flatD ds) h ad 0 c (flatD []) (by simp [flatD]) (by intro j u hj; simp [flatD] at hj) (xa5k _) (by unfold maxLen; omega) (by omega) hb
      obtain ⟨ao',cap',rfl⟩:=xa3o hown
      exact ⟨ao',cap',w1,hrun,hown,hgrow⟩
  · have hr':=hr
    obtain ⟨ao1,n1,c1,he,h1,h2,h3,h4,h5⟩:=hr'
    cases he
    obtain ⟨b,off,rfl,hc⟩:=h5 (by omega)
    obtain ⟨v',w1,hrun,hown,hgrow,_,hat⟩:=run_append_own_at (P:=Tryz.prog) w base 50 50 58 i0 (.agg (zb 32)) 32 32 Tryz.underlying50 hi hz0 hz1 hz2 (by show (zb 32).size = 32; exact xa0d 32) (by decide)
      v ds.length (flatD ds) h ⟨b,off,none⟩ n c (flatD ps) (by rw [xa1p hdg,hn]) hr.news (xa5k _) (by unfold maxLen; omega) (by omega) hb
    subst h1
    obtain ⟨ao',cap',rfl⟩:=xa3o hown
    exact ⟨ao',cap',w1,hrun,hown,hgrow⟩
theorem xa5j {ops:Array Oper} {rest:List Oper} {o:Oper} {a:Act} {Q:Exit→Act→World→Prop} (hgd:o.guard = none) (s x:Operand)
    (ho:o.op = .call { callee:=.builtin .append,args:=#[s,x],argTypes:=#[50,50] }) (hty:o.type = 50)
    (w:World) (base:Nat) (v:Value) (ds ps:List (List Nat)) (ao:Option Addr) (n c:Nat) (h:w.ownsRow base 58 32 v ds.length (flatD ds)) (hr:RdD w (.slice ao n c) ps) (hl:ds.length + ps.length≤1000000000000) (hb:base≤w.heap.size)
    (hs:a.eval s = v) (hx:a.eval x = .slice ao n c)
    (hK:∀ ao' cap' w1,Hid (w1.ownsRow base 58 32 (.slice ao' (ds.length + ps.length) cap') (ds++ps).length (flatD (ds++ps)))→Hid (w.grownBy w1 v.ownBlock) →
      wpList Tryz.prog ops Q rest (a.put o.dst (.slice ao' (ds.length + ps.length) cap')) w1) :
    wpList Tryz.prog ops Q (o :: rest) a w:=by
  obtain ⟨ao',cap',w1,hrun,h2,h3⟩:=appendD w base v ds ps ao n c h hr hl hb
  refine wpList_plain hgd fun K hK'=>?_
  unfold Oper.wp execOp
  simp only [ho,hty,resolve,invoke,builtin,Sem.run_bind,Sem.run_pure,Result.andThen_ok,List.map_toArray,List.map_cons,List.map_nil,hs,hx,hrun]
  exact hK' _ _ (hK ao' cap' w1 h2 h3)
end

section
open Go.RowKit Go.BigFrame
def keyS (z:Int) (key:List Nat):List Nat:=sumD z (2 :: key)
def hfE (z:Int) (key:List Nat) (known:List (List Nat)) (ss:List (Nat × List (List Nat))):Nat :=
  if widthB z = false then 1 else if 64 < key.length then 2 else if known.all (formB z) && ss.all (fun s=>s.2.all (formB z)) then 0 else 3
def fitS (b n:Nat) (c:Int) (t:Bool):Bool:=decide (b≠0) && ((hasB b c == t) && decide (cnt b 16 = n + (if t then 1 else 0)))
def risB (ps:List (List Nat × List Nat)):Nat→Bool
  | 0=>true
  | i + 1=>risB ps i && (decide ((ps.getD i ([],[])).1.length≤64) && (decide ((ps.getD i ([],[])).2.length≤256) && (decide (i = 0) || decide (ordL (ps.getD (i - 1) ([],[])).1 (ps.getD i ([],[])).1 < 0))))
def hanB (z:Int) (ks:List Nat) (n:Nat) (ps:List (List Nat × List Nat)):Bool :=
  (ps.drop 1).all (fun p=>decide (keyS z p.1 = keyS z (ps.getD 0 ([],[])).1)) && decide (n≤comC z (keyS z (ps.getD 0 ([],[])).1) ks)
def fitsB (z:Int) (ks:List Nat) (ss:List (Nat × List (List Nat))) (m:Nat):Nat→Bool
  | 0=>true
  | i + 1=>fitsB z ks ss m i && fitS (ss.getD i (0,[])).1 (ss.getD i (0,[])).2.length (atC z ks i) (decide (i + 1 < ss.length) || decide (0 < m))
def provB (z:Int) (ks:List Nat) (ss:List (Nat × List (List Nat))) (ps:List (List Nat × List Nat)):Bool :=
  decide (ss.length≤2 * z.toNat) && (fitsB z ks ss ps.length ss.length &&
    (decide (ps.length = 0) || ((decide (ss.length = 0) || decide (cnt (ss.getD (ss.length - 1) (0,[])).1 16≠1)) && (risB ps ps.length && hanB z ks ss.length ps))))
def valH (key:List Nat):List (List Nat × List Nat)→Option (List Nat)
  | []=>none
  | p :: r=>if p.1 = key then some p.2 else valH key r
def brD (z:Int) (x:Nat) (ds:List (List Nat)):List Nat:=sunD (branchE z x ds) z (branchB z x ds)
def cliD (z:Int) (ks:List Nat) (ss:List (Nat × List (List Nat))):Nat→List Nat→List Nat
  | 0,d=>d
  | k + 1,d=>cliD z ks ss k (brD z (ss.getD k (0,[])).1 ((ss.getD k (0,[])).2.take (rankB (ss.getD k (0,[])).1 (atC z ks k))++d :: (ss.getD k (0,[])).2.drop (rankB (ss.getD k (0,[])).1 (atC z ks k))))
def footD (z:Int) (ss:List (Nat × List (List Nat))) (ps:List (List Nat × List Nat)):List Nat :=
  if 0 < ps.length then sumD z (buckB ps) else if ss.length = 0 then sumD z [5] else brD z (ss.getD (ss.length - 1) (0,[])).1 (ss.getD (ss.length - 1) (0,[])).2
def footN (ss:List (Nat × List (List Nat))) (ps:List (List Nat × List Nat)):Nat:=if 0 < ps.length then ss.length else ss.length - 1
def rooD (z:Int) (key:List Nat) (ss:List (Nat × List (List Nat))) (ps:List (List Nat × List Nat)):List Nat:=cliD z (keyS z key) ss (footN ss ps) (footD z ss ps)
theorem xb2i (z:Int) (key:List Nat):Dg (keyS z key):=⟨xa1c _ _,by
  unfold keyS sumD
  split
  · exact xa5x _ _ (xa3m _)
  · intro x hx; simp at hx; omega⟩
set_option maxHeartbeats 1000000 in
theorem xb7v (n:Nat) (w:World) (hn:n≤1000000000000) :
    Calls Tryz.prog 145 #[.slice none 0 0,.int .i64 n] w fun e w'=>∃ v',e = .returned v'∧w'.ownsRow w.heap.size 58 32 v' 0 []∧Kept [] w w':=by
  go_enter Tryz.func145,Tryz.ntmps145
  by_cases h0:n = 0
  · subst h0
    go_wp2
    go_ret
    exact ⟨_,rfl,⟨rfl,Or.inl ⟨rfl,rfl⟩⟩,Kept.refl _ _⟩
  · have h0':(0:Int) < n:=by omega
    have hbt:Tryz.t58.bytes = 32:=rfl
    have hns:¬ 281474976710656 < Builtin.nextslicecap n 0 * Tryz.t58.bytes:=by
      rw [hbt]; unfold Builtin.nextslicecap; rw [if_pos (by omega)]; omega
    have hmul:(n:Int) * ((Tryz.t58.bytes:Nat):Int)≤281474976710656:=by rw [hbt]; omega
    have hm0:¬ n * 32 = 0:=by omega
    clear hbt
    go_wp2_with fail
    have hg1:=grownCap_ge w n 0 58
    have hg2:=grownCap_le_maxLen w n 0 58 (by unfold maxLen; omega)
    unfold grownCap at hg1 hg2
    generalize (Question.appendCap n 0 58).cut (w.tape w.drawn (Question.appendCap n 0 58)) = cap at hg1 hg2 ⊢
    go_ret
    refine ⟨_,rfl,World.ownsRow_made w _ cap (Nat.le_refl _) hg2 ?_,((Kept.refl [] w).alloc _).drew⟩
    rw [Array.size_append,size_zeroCells,size_zeroCells]
    simp
    omega
def RdM (w:World) (v:Value) (L:List (List (List Nat))):Prop :=
  ∃ (ao:Option Addr) (len cap:Nat) (vs:List Value),v = .slice ao len cap∧L.length = len∧len≤cap∧cap≤9223372036854775807∧(∀ i,i < len→RdD w (vs.getD i undef) (L.getD i [])) ∧
    (0 < len→∃ b off,ao = some ⟨b,off,none⟩∧∀ i,i < len→w.cell? ⟨b,off + i,none⟩ = some (vs.getD i undef))
theorem RdM.cells {w:World} {ao:Option Addr} {len cap:Nat} {L:List (List (List Nat))} (h:RdM w (.slice ao len cap) L):L.length = len∧len≤cap∧cap≤9223372036854775807 ∧
    ∀ i,i < len→∃ b off u,ao = some ⟨b,off,none⟩∧w.cell? ⟨b,off + i,none⟩ = some u∧RdD w u (L.getD i []):=by
  obtain ⟨ao',len',cap',vs,he,h1,h2,h3,h4,h5⟩:=h
  cases he
  refine ⟨h1,h2,h3,fun i hi=>?_⟩
  obtain ⟨b,off,rfl,hc⟩:=h5 (by omega)
  exact ⟨b,off,_,rfl,hc i hi,h4 i hi⟩
theorem xa9f (L:List (List (List Nat))) (i:Nat) (h:i < L.length):(L.take (i + 1)).flatten = (L.take i).flatten++L.getD i []:=by
  rw [List.take_succ_eq_append_getElem h,List.flatten_append,List.getD_eq_getElem?_getD,List.getElem?_eq_getElem h]
  simp
theorem xb1s (L:List (List (List Nat))) (i:Nat):(L.take i).flatten.length≤L.flatten.length:=by
  have h:=congrArg List.length (congrArg List.flatten (List.take_append_drop i L))
  rw [List.flatten_append,List.length_append] at h
  omega
theorem xc0p {L:List (List (List Nat))} (h:∀ l∈L,∀ d∈l,Dg d):∀ d∈L.flatten,Dg d:=by
  intro d hd
  obtain ⟨l,hl,hdl⟩:=List.mem_flatten.1 hd
  exact h l hl d hdl
set_option maxHeartbeats 1000000 in
theorem xb2n (v:Value) (L:List (List (List Nat))) (w:World) (h:RdM w v L) (hl:L.flatten.length≤1000000000000) :
    Calls Tryz.prog 114 #[v] w fun e w'=>∃ v',e = .returned v'∧RdD w' v' L.flatten∧Kept [] w w':=by
  obtain ⟨ao,n,c,_,rfl,_⟩:=id h
  obtain ⟨h1,h2,h3,h4⟩:=h.cells
  have HDG:=hide (by
    intro l hl' d hd
    obtain ⟨j,hj,rfl⟩:=List.getElem_of_mem hl'
    obtain ⟨_,_,u,_,_,r⟩:=h4 j (by omega)
    rw [List.getD_eq_getElem?_getD,List.getElem?_eq_getElem hj] at r
    exact r.dg hd:∀ l∈L,∀ d∈l,Dg d)
  have H4:=hide h4
  clear h4 h
  subst h1
  go_enter Tryz.func114,Tryz.ntmps114
  go_wp2_with fail
  go_loopw [3,11] (fun t3 t11 wr=>∃ (i:Nat),i≤L.length∧t11 = .int .i64 i∧t3 = .int .i64 (((L.take i).flatten.length:Nat):Int)∧Hid (wr = w)) (fun _ t _=>L.length - (intOf t).toNat)
  case atStart=>exact ⟨0,Nat.zero_le _,rfl,rfl,hide rfl⟩
  case round =>
    obtain ⟨i,hi,rfl,rfl,HWR⟩:=hrel
    by_cases hlt:i < L.length
    · have hlt':(i:Int) < L.length:=by omega
      obtain ⟨b,o,u,rfl,c1,r1⟩:=uh H4 i hlt
      have q1:wr.cell? ⟨b,o + i,none⟩ = some u:=by rw [uh HWR]; exact c1
      have HFT:=hide (xa9f L i hlt)
      have HLE:=hide (xb1s L (i + 1))
      rw [uh HFT] at HLE
      clear c1
      generalize L.getD i [] = li at r1 HFT HLE
      obtain ⟨a8,m8,c8,rfl,hm8,_⟩:=id r1
      subst hm8
      clear r1
      obtain ⟨S,hS⟩:∃ S,(L.take i).flatten.length = S:=⟨_,rfl⟩
      have HNX:=hide (by rw [uh HFT,List.length_append,hS]:(L.take (i + 1)).flatten.length = S + li.length)
      have hsb:S + li.length≤1000000000000:=by have h9:=uh HLE; rw [List.length_append,hS] at h9; omega
      rw [hS]
      clear hS HLE HFT
      have hs0:¬ ((S:Int) + li.length) < 0:=by omega
      go_wp2
      refine ⟨⟨i + 1,hlt,by go_num,by rw [uh HNX]; go_num,HWR⟩,?_⟩
      simp [intOf]; omega
    · have hi':i = L.length:=by omega
      have hlt':¬ (i:Int) < L.length:=by omega
      have HTL:=hide (by rw [hi',List.take_length]:(L.take i).flatten.length = L.flatten.length)
      obtain ⟨M,hM⟩:∃ M,L.flatten.length = M:=⟨_,rfl⟩
      rw [uh HTL,hM]
      have hl2:M≤1000000000000:=by rw [← hM]; exact hl
      have HL:=hide hl
      clear hi' HTL hM hl
      go_wp2_with fail
      rw [uh HWR]
      refine Calls.mono (xb7v M _ hl2) ?_
      rintro e w1 ⟨v1,rfl,ho,k1⟩
      have HO1:=hide ho
      have HK1:=hide k1
      clear ho k1
      go_wp2_with fail
      go_loopw [6,27] (fun t6 t27 wz=>∃ (j:Nat),j≤L.length∧t27 = .int .i64 j∧Hid (wz.ownsRow w.heap.size 58 32 t6 (L.take j).flatten.length (flatD (L.take j).flatten))∧Hid (Kept [] w wz)) (fun _ t _=>L.length - (intOf t).toNat)
      case atStart=>exact ⟨0,Nat.zero_le _,rfl,by simpa [flatD] using HO1,HK1⟩
      case round =>
        obtain ⟨j,hj,rfl,HO,HK⟩:=hrel
        by_cases hjt:j < L.length
        · have hjt':(j:Int) < L.length:=by omega
          obtain ⟨b,o,u,rfl,c1,r1⟩:=uh H4 j hjt
          have q1:=(uh HK).cell c1 (by simp)
          have HR:=hide (r1.old (uh HK))
          have HFT:=hide (xa9f L j hjt)
          have HLE:=hide (xb1s L (j + 1))
          rw [uh HFT] at HLE
          clear c1 r1
          generalize L.getD j [] = li at HR HFT HLE
          obtain ⟨a8,m8,c8,rfl,hm8,_⟩:=id (uh HR)
          subst hm8
          obtain ⟨D,hD⟩:∃ D,(L.take j).flatten = D:=⟨_,rfl⟩
          rw [hD] at HO HFT HLE
          clear hD
          have hsb:D.length + li.length≤1000000000000:=by have h9:=uh HLE; have h8:=uh HL; rw [List.length_append] at h9; omega
          have hbz:=(uh HK).size
          obtain ⟨a6,c6,rfl⟩:=xa3o (uh HO)
          go_wp2_with (at_builtin; refine xa5j rfl (.tmp 31) (.tmp 32) rfl rfl _ w.heap.size (.slice a6 D.length c6) D li a8 li.length c8 (uh HO) (uh HR) hsb hbz rfl rfl ?_; intro ao1 cap1 w2 HO2 HG2; have HK2:=hide ((uh HK).grown (uh HG2) (by intro k hk; right; exact ((uh HO).lt k hk).1)); clear HG2)
          refine ⟨⟨j + 1,hjt,by go_num,by rw [uh HFT]; exact by simpa using HO2,HK2⟩,?_⟩
          simp [intOf]; omega
        · have hj':j = L.length:=by omega
          have hjt':¬ (j:Int) < L.length:=by omega
          have HO2:=hide (by have h9:=uh HO; rw [hj',List.take_length] at h9; exact h9)
          clear hj' HO
          go_wp2
          go_ret
          exact ⟨_,rfl,xb8q (uh HO2) (xc0p (uh HDG)),uh HK⟩
set_option maxHeartbeats 1000000 in
theorem xb3g (z:Int) (g:Nat) (d:List Nat) (w:World) (hz:-9223372036854775808≤z∧z≤9223372036854775807) (hd:Dg d) (hg:w.heap[g]? = some (.cells #[.int .i64 z] 3 (0,0))) :
    Calls Tryz.prog 104 #[.agg (brow d),.pointer (some ⟨g,0,none⟩)] w fun e w'=>e = .returned (.bool (!formB z d))∧Kept [] w w':=by
  have hdl:=hd.1
  have HSZ:=hide (Tryz.szD hdl)
  have HK0:=hide ((Kept.refl [] w).alloc (.cells (brow d) 58))
  have HGA:=hide (heap_alloc_new w (.cells (brow d) 58))
  have c0:(w.alloc (.cells (brow d) 58)).cell? ⟨g,0,none⟩ = some (.int .i64 z):=cell_of_row _ g 0 _ _ _ ((uh HK0).heap hg (by simp))
  go_enter Tryz.func104,Tryz.ntmps104
  go_wp2_with (refine wpList_load_row rfl 58 _ rfl w.heap.size rfl _ (brow d) (0,0) _ (uh HGA) Tryz.underlying58 rfl (uh HSZ) ?_)
  refine Calls.mono (xb0y z d _ hz hdl hd.2) ?_
  rintro e w1 ⟨rfl,k1⟩
  have HK1:=hide ((uh HK0).trans k1 (by simp))
  clear k1 c0
  cases hF:formB z d with
  | true=>go_wp2; go_ret; exact ⟨by rw [hF]; rfl,uh HK1⟩
  | false=>go_wp2; go_ret; exact ⟨by rw [hF]; rfl,uh HK1⟩
set_option maxHeartbeats 1000000 in
theorem xa6n (z:Int) (g:Nat) (v:Value) (ds:List (List Nat)) (w:World) (hz:-9223372036854775808≤z∧z≤9223372036854775807) (hv:RdD w v ds) (hg:w.heap[g]? = some (.cells #[.int .i64 z] 3 (0,0))) :
    Calls Tryz.prog 143 #[v,.func (.func 104) #[] #[.pointer (some ⟨g,0,none⟩)]] w fun e w'=>(∃ r:Int,e = .returned (.int .i64 r)∧-1≤r∧r≤9223372036854775807∧(0≤r↔ds.all (formB z) = false))∧Kept [] w w':=by
  obtain ⟨ao,len,cap,rfl,h1,h2,h3,h4,h5⟩:=hv
  have H4:=hide h4
  have H5:=hide h5
  clear h4 h5
  subst h1
  go_enter Tryz.func143,Tryz.ntmps143
  go_wp2_with fail
  go_loopw [8] (fun t8 wr=>∃ (i:Nat),i≤ds.length∧t8 = .int .i64 i∧Hid ((ds.take i).all (formB z) = true)∧Hid (Kept [] w wr)) (fun t _=>ds.length - (intOf t).toNat)
  case atStart=>exact ⟨0,Nat.zero_le _,rfl,hide (by simp),hide (Kept.refl _ _)⟩
  case round =>
    obtain ⟨i,hi,rfl,HA,HK⟩:=hrel
    by_cases hlt:i < ds.length
    · have hlt':(i:Int) < ds.length:=by omega
      obtain ⟨b,o,rfl,hcell⟩:=uh H5 (by omega)
      have HD:=hide (uh H4 (ds.getD i []) (by rw [List.getD_eq_getElem?_getD,List.getElem?_eq_getElem hlt]; exact List.getElem_mem hlt))
      have HRG:=hide (fun j v hv=>(uh HK).cell (hcell i hlt j v hv) (by simp):wr.rangeAt b (o + i * 32) ((ds.getD i []).map u8))
      have HN:=hide (by rw [List.take_succ_eq_append_getElem hlt,List.all_append,uh HA,List.getD_eq_getElem?_getD,List.getElem?_eq_getElem hlt]; simp:(ds.take (i + 1)).all (formB z) = formB z (ds.getD i []))
      have HM:=hide (fun (h:formB z (ds.getD i []) = false)=>by
        rw [List.all_eq_false]
        exact ⟨ds.getD i [],by rw [List.getD_eq_getElem?_getD,List.getElem?_eq_getElem hlt]; exact List.getElem_mem hlt,by rw [h]; decide⟩:formB z (ds.getD i []) = false→ds.all (formB z) = false)
      clear hcell
      obtain ⟨d,hd⟩:∃ d,ds.getD i [] = d:=⟨_,rfl⟩
      rw [hd] at HD HRG HN HM
      clear hd
      have hdl:=(uh HD).1
      have HSZ:=hide (by rw [List.length_map,hdl]; exact Tryz.size_dig:(Tryz.prog.info? 58).map (·.size) = some (d.map u8).length)
      go_wp2_with (refine wpList_load_mid rfl 58 _ rfl b (o + i * 32) rfl (d.map u8) _ (uh HRG) Tryz.underlying58 rfl (uh HSZ) ?_)
      refine Calls.mono (xb3g z g d _ hz (uh HD) ((uh HK).heap hg (by simp))) ?_
      rintro e w1 ⟨rfl,k1⟩
      have HK1:=hide ((uh HK).trans k1 (by simp))
      clear k1
      generalize formB z d = F at HN HM ⊢
      cases F with
      | true =>
        go_wp2
        refine ⟨⟨i + 1,hlt,by go_num,HN,HK1⟩,?_⟩
        simp [intOf]; omega
      | false =>
        go_wp2
        go_ret
        exact ⟨⟨i,rfl,by omega,by omega,⟨fun _=>uh HM (by simp),fun _=>by omega⟩⟩,uh HK1⟩
    · have hi':i = ds.length:=by omega
      subst hi'
      have HA2:=hide (by have h9:=uh HA; rw [List.take_length] at h9; exact h9:ds.all (formB z) = true)
      go_wp2
      go_ret
      exact ⟨⟨-1,rfl,by omega,by omega,by rw [uh HA2]; simp⟩,uh HK⟩
set_option maxHeartbeats 1000000 in
theorem xa1y (z:Int) (g:Nat) (v:Value) (ds:List (List Nat)) (w:World) (hz:-9223372036854775808≤z∧z≤9223372036854775807) (hv:RdD w v ds) (hg:w.heap[g]? = some (.cells #[.int .i64 z] 3 (0,0))) :
    Calls Tryz.prog 106 #[v,.func (.func 104) #[] #[.pointer (some ⟨g,0,none⟩)]] w fun e w'=>e = .returned (.bool (!ds.all (formB z)))∧Kept [] w w':=by
  go_enter Tryz.func106,Tryz.ntmps106
  go_wp2_with fail
  refine Calls.mono (xa6n z g v ds _ hz hv hg) ?_
  rintro e w1 ⟨⟨r,rfl,h1,h2,h3⟩,k1⟩
  have HK1:=hide k1
  clear k1
  cases hA:ds.all (formB z) with
  | true =>
    have hr:¬ (0:Int)≤r:=by rw [h3,hA]; simp
    have hr':r < 0:=by omega
    have HA:=hide hA
    clear h3 hA
    go_wp2; go_ret; exact ⟨by rw [uh HA]; simp [hr],uh HK1⟩
  | false =>
    have hr:(0:Int)≤r:=h3.2 hA
    have HA:=hide hA
    clear h3 hA
    go_wp2; go_ret; exact ⟨by rw [uh HA]; simp [hr],uh HK1⟩
set_option maxHeartbeats 1000000 in
theorem xa4u (z:Int) (kv:Value) (key:List Nat) (sv:Value) (ss:List (Nat × List (List Nat))) (nv:Value) (known:List (List Nat)) (w:World) (hz:-9223372036854775808≤z∧z≤9223372036854775807) (hk:Rd w kv key) (hs:RdS w sv ss) (hn:RdD w nv known) :
    Calls Tryz.prog 69 #[.int .i64 z,kv,sv,nv] w fun e w'=>e = .returned (.int .i64 (hfE z key known ss:Int))∧Kept [] w w':=by
  obtain ⟨ao,len,cap,rfl,h1,h2,h3,h4⟩:=hk
  obtain ⟨sa,ls,sc,vs,rfl,s1,s2,s3,s4,s5⟩:=hs
  have HN:=hide hn
  have S4:=hide s4
  have S5:=hide s5
  have HK0:=hide ((Kept.refl [] w).alloc (.cells #[.int .i64 z] 3))
  have HG0:=hide (heap_alloc_new w (.cells #[.int .i64 z] 3))
  clear h4 s4 s5 hn
  subst h1
  subst s1
  go_enter Tryz.func69,Tryz.ntmps69
  by_cases hz1:z < 1
  · have HF:=hide (by unfold hfE; rw [if_pos (by unfold widthB; simp; omega)]:hfE z key known ss = 1)
    go_wp2
    go_ret
    exact ⟨by rw [uh HF]; rfl,uh HK0⟩
  · by_cases hz2:32 < z
    · have HF:=hide (by unfold hfE; rw [if_pos (by unfold widthB; simp; omega)]:hfE z key known ss = 1)
      go_wp2
      go_ret
      exact ⟨by rw [uh HF]; rfl,uh HK0⟩
    · have hzw:¬ widthB z = false:=by unfold widthB; simp; omega
      by_cases hk:64 < key.length
      · have hk':(64:Int) < key.length:=by omega
        have HF:=hide (by unfold hfE; rw [if_neg hzw,if_pos hk]:hfE z key known ss = 2)
        go_wp2
        go_ret
        exact ⟨by rw [uh HF]; rfl,uh HK0⟩
      · have hk':¬ (64:Int) < key.length:=by omega
        have HF:=hide (by unfold hfE; rw [if_neg hzw,if_neg hk]:hfE z key known ss = if known.all (formB z) && ss.all (fun s=>s.2.all (formB z)) then 0 else 3)
        clear hzw
        go_wp2_with fail
        refine Calls.mono (xa1y z w.heap.size nv known _ hz ((uh HN).old (uh HK0)) (uh HG0)) ?_
        rintro e w1 ⟨rfl,k1⟩
        have HK1:=hide ((uh HK0).trans k1 (by simp))
        have HG1:=hide (k1.heap (uh HG0) (by simp))
        clear k1
        cases hA:known.all (formB z) with
        | false =>
          have HF2:=hide (by rw [uh HF,hA]; rfl:hfE z key known ss = 3)
          clear hA HF
          go_wp2
          go_ret
          exact ⟨by rw [uh HF2]; rfl,uh HK1⟩
        | true =>
          have HF2:=hide (by rw [uh HF,hA,Bool.true_and]:hfE z key known ss = if ss.all (fun s=>s.2.all (formB z)) then 0 else 3)
          clear hA HF
          go_wp2_with fail
          go_loopw [27] (fun t27 wr=>∃ (i:Nat),i≤ss.length∧t27 = .int .i64 i∧Hid ((ss.take i).all (fun s=>s.2.all (formB z)) = true)∧Hid (Kept [] w wr)∧Hid (wr.heap[w.heap.size]? = some (.cells #[.int .i64 z] 3 (0,0)))) (fun t _=>ss.length - (intOf t).toNat)
          case atStart=>exact ⟨0,Nat.zero_le _,rfl,hide (by simp),HK1,HG1⟩
          case round =>
            obtain ⟨i,hi,rfl,HA,HK,HG⟩:=hrel
            by_cases hlt:i < ss.length
            · have hlt':(i:Int) < ss.length:=by omega
              obtain ⟨b,o,rfl,hcell⟩:=uh S5 (by omega)
              have q1:=(uh HK).cell (hcell i hlt).1 (by simp)
              have q2:=(uh HK).cell (hcell i hlt).2 (by simp)
              have HD:=hide (uh S4 i hlt)
              have HN:=hide (by rw [List.take_succ_eq_append_getElem hlt,List.all_append,uh HA,List.getD_eq_getElem?_getD,List.getElem?_eq_getElem hlt]; simp:(ss.take (i + 1)).all (fun s=>s.2.all (formB z)) = (ss.getD i (0,[])).2.all (formB z))
              have HM:=hide (fun (h:(ss.getD i (0,[])).2.all (formB z) = false)=>by
                have h9:ss.all (fun s=>s.2.all (formB z)) = false:=by
                  rw [List.all_eq_false]
                  exact ⟨ss.getD i (0,[]),by rw [List.getD_eq_getElem?_getD,List.getElem?_eq_getElem hlt]; exact List.getElem_mem hlt,by rw [h]; decide⟩
                rw [uh HF2,h9]; rfl:(ss.getD i (0,[])).2.all (formB z) = false→hfE z key known ss = 3)
              clear hcell
              generalize ss.getD i (0,[]) = s at q1 HD HN HM
              generalize vs.getD i undef = vi at q2 HD
              obtain ⟨sb,sk⟩:=s
              simp only at q1 HD HN HM
              obtain ⟨a8,m8,c8,rfl,hm8,_⟩:=id (uh HD).2
              subst hm8
              have HKa:=hide ((uh HK).alloc (.cells #[.int .u16 sb,.slice a8 sk.length c8] 52))
              have HGa:=hide (((Kept.refl [] wr).alloc (.cells #[.int .u16 sb,.slice a8 sk.length c8] 52)).heap (uh HG) (by simp))
              go_wp2_with fail
              refine Calls.mono (xa1y z w.heap.size _ sk _ hz ((uh HD).2.old (uh HKa)) (uh HGa)) ?_
              rintro e w2 ⟨rfl,k2⟩
              have HK2:=hide ((uh HKa).trans k2 (by simp))
              have HG2:=hide (k2.heap (uh HGa) (by simp))
              clear k2 q1 q2
              cases hA:sk.all (formB z) with
              | true =>
                rw [hA] at HN
                clear hA
                go_wp2
                refine ⟨⟨i + 1,hlt,by go_num,HN,HK2,HG2⟩,?_⟩
                simp [intOf]; omega
              | false =>
                have HX:=hide (uh HM hA)
                clear hA
                go_wp2
                go_ret
                exact ⟨by rw [uh HX]; rfl,uh HK2⟩
            · have hi':i = ss.length:=by omega
              subst hi'
              have HA2:=hide (by have h9:=uh HA; rw [List.take_length] at h9; exact h9:ss.all (fun s=>s.2.all (formB z)) = true)
              go_wp2
              go_ret
              exact ⟨by rw [uh HF2,uh HA2]; rfl,uh HK⟩
theorem RdK.cells {w:World} {ao:Option Addr} {len cap:Nat} {ps:List (List Nat × List Nat)} (h:RdK w (.slice ao len cap) ps):ps.length = len∧len≤cap∧cap≤9223372036854775807 ∧
    ∀ i,i < len→∃ b off u v,ao = some ⟨b,off,none⟩∧w.cell? ⟨b,off + i * 2,none⟩ = some u∧w.cell? ⟨b,off + i * 2 + 1,none⟩ = some v∧Rd w u (ps.getD i ([],[])).1∧Rd w v (ps.getD i ([],[])).2:=by
  obtain ⟨ao',len',cap',vs,us,he,h1,h2,h3,h4,h5⟩:=h
  cases he
  refine ⟨h1,h2,h3,fun i hi=>?_⟩
  obtain ⟨b,off,rfl,hc⟩:=h5 (by omega)
  exact ⟨b,off,_,_,rfl,(hc i hi).1,(hc i hi).2,(h4 i hi).1,(h4 i hi).2⟩
theorem xa6a {key:List Nat}:∀ (ps:List (List Nat × List Nat)) (i:Nat),i≤ps.length→(∀ j,j < i→(ps.getD j ([],[])).1≠key)→valH key ps = valH key (ps.drop i)
  | ps,0,_,_=>by simp
  | [],i + 1,h,_=>by simp at h
  | p :: r,i + 1,h,hn=>by
    have h0:=hn 0 (by omega)
    simp only [List.getD_cons_zero] at h0
    rw [valH,if_neg h0,List.drop_succ_cons]
    exact xa6a r i (by simpa using h) (fun j hj=>by have:=hn (j + 1) (by omega); simpa using this)
set_option maxHeartbeats 2000000 in
theorem xb0v (u v:Value) (p q:List Nat) (w:World) (hu:Rd w u p) (hv:Rd w v q) :
    Calls Tryz.prog 112 #[u,v] w fun e w'=>e = .returned (.bool (decide (p = q)))∧w' = w:=by
  have hu5:Tryz.prog.underlying 5 = some (.int .u8):=by kernel_rfl
  have hu9:Tryz.prog.underlying 9 = some .string:=by kernel_rfl
  have c1:=xa5z u p w hu hu5 hu9
  have c2:=xa5z v q w hv hu5 hu9
  have hd:((strOf p).toList == (strOf q).toList) = decide (p = q):=by
    rw [xa3i,xa3i]
    by_cases h:p = q
    · subst h; simp
    · have h2:¬ (strOf p).data.toList = (strOf q).data.toList:=fun e=>h (xa9w hu.byte hv.byte (by
        have e2:=congrArg List.toArray e
        simp only [Array.toArray_toList] at e2
        cases hp:strOf p; cases hq:strOf q
        rw [hp,hq] at e2
        simp only at e2
        rw [e2]))
      rw [decide_eq_false h]
      exact beq_eq_false_iff_ne.2 h2
  have Hd:=hide hd
  generalize strOf p = s1 at *
  generalize strOf q = s2 at *
  clear hu hv hu5 hu9 hd
  go_enter Tryz.func112,Tryz.ntmps112
  go_wp2
  go_ret
  exact ⟨by rw [uh Hd]; rfl,rfl⟩
set_option maxHeartbeats 1000000 in
theorem xb2g (v:Value) (p:List Nat) (w:World) (h:Rd w v p) :
    Calls Tryz.prog 50 #[v] w fun e w'=>(∃ v',e = .returned v'∧Rd w' v' p∧∀ x∈blk v',w.heap.size≤x)∧Kept [] w w':=by
  have H:=hide h
  obtain ⟨a1,n1,c1,rfl,hn1,hc1,⟨hc2,hc3⟩,hc4,hc5,hc6⟩:=id h
  subst hn1
  clear h hc6 hc5
  cases a1 with
  | none =>
    have h0:p.length = 0:=by have:=hc4 rfl; omega
    have hp:p = []:=List.eq_nil_of_length_eq_zero h0
    clear hc4
    subst hp
    simp only [List.length_nil]
    have hq:∀ W:World,(binOp .eql 23 (.slice none 0 c1) (.slice none 0 0)).run Tryz.prog W = .ok (.bool true) W:=by
      intro W
      simp only [binOp]
      simp [run_equal_slice_nil W 23 5 none 0 c1 Tryz.underlying23]
    go_enter Tryz.func50,Tryz.ntmps50
    go_wp2
    go_ret
    exact ⟨⟨_,rfl,Rd.nil _,by simp [blk]⟩,Kept.refl _ _⟩
  | some ad =>
    clear hc4
    have HO:=hide (World.ownsRow_made (base:=w.heap.size) (e:=5) (size:=1) w #[] 0 (Nat.le_refl _) (by unfold maxLen; omega) (by simp))
    have hq:∀ W:World,(binOp .eql 23 (.slice (some ad) p.length c1) (.slice none 0 0)).run Tryz.prog W = .ok (.bool false) W:=by
      intro W
      simp only [binOp]
      simp [run_equal_slice_nil W 23 5 (some ad) p.length c1 Tryz.underlying23]
    go_enter Tryz.func50,Tryz.ntmps50
    go_wp2_with (at_builtin; refine xa1x rfl (.tmp 5) (.tmp 6) rfl rfl _ w.heap.size (.slice (some ⟨w.heap.size,0,none⟩) 0 0) [] p (some ad) p.length c1 (uh HO) ((uh H).old ((Kept.refl [] w).alloc _) (by simp)) (by simp; omega) (by simp) rfl rfl ?_; intro ao1 cap1 w1 HO1 HG1 HA1; simp only [List.nil_append,List.length_nil,Nat.zero_add] at HO1 HA1; have HK1:=hide (((Kept.refl [] w).alloc _).grown (uh HG1) (by intro k hk; right; simp [Value.ownBlock] at hk; omega)); clear HG1)
    go_ret
    refine ⟨⟨_,rfl,xb6l (uh HO1) (uh H).byte hc3,?_⟩,uh HK1⟩
    intro x hx
    cases ao1 with
    | none=>simp [blk] at hx
    | some a=>simp [blk] at hx; subst hx; exact ((uh HO1).lt a.block rfl).1
set_option maxHeartbeats 1000000 in
theorem xb0j (kv pv:Value) (key:List Nat) (ps:List (List Nat × List Nat)) (w:World) (hk:Rd w kv key) (hp:RdK w pv ps) :
    Calls Tryz.prog 71 #[kv,pv] w fun e w'=>(∃ v',e = .returned (.tuple #[v',.bool (valH key ps).isSome])∧Rd w' v' ((valH key ps).getD [])∧∀ x∈blk v',w.heap.size≤x)∧Kept [] w w':=by
  have HKY:=hide hk
  obtain ⟨ao,n,c,_,_,rfl,_⟩:=id hp
  obtain ⟨h1,h2,h3,h4⟩:=hp.cells
  have H4:=hide h4
  clear h4 hp hk
  subst h1
  go_enter Tryz.func71,Tryz.ntmps71
  go_wp2_with fail
  go_loopw [10] (fun t10 wr=>∃ (i:Nat),i≤ps.length∧t10 = .int .i64 i∧Hid (∀ j,j < i→(ps.getD j ([],[])).1≠key)∧Hid (Kept [] w wr)) (fun t _=>ps.length - (intOf t).toNat)
  case atStart=>exact ⟨0,Nat.zero_le _,rfl,hide (by intro j hj; omega),hide (Kept.refl _ _)⟩
  case round =>
    obtain ⟨i,hi,rfl,HA,HK⟩:=hrel
    by_cases hlt:i < ps.length
    · have hlt':(i:Int) < ps.length:=by omega
      obtain ⟨b,o,x,y,rfl,c1,c2,r1,r2⟩:=uh H4 i hlt
      have q1:=(uh HK).cell c1 (by simp)
      have q2:=(uh HK).cell c2 (by simp)
      have HX:=hide (r1.old (uh HK) (by simp))
      have HY:=hide (r2.old (uh HK) (by simp))
      have HS:=hide (xa6a (key:=key) ps i hi (uh HA))
      rw [List.drop_eq_getElem_cons hlt] at HS
      have hget:ps.getD i ([],[]) = ps[i]:=by rw [List.getD_eq_getElem?_getD,List.getElem?_eq_getElem hlt]; rfl
      have HI:=hide hget
      rw [hget] at HX HY
      clear c1 c2 r1 r2 hget
      generalize hpi:ps[i] = pi at HX HY HS HI
      clear hpi
      obtain ⟨pk,pw⟩:=pi
      simp only at HX HY
      obtain ⟨a8,m8,c8,rfl,hm8,_⟩:=id (uh HX)
      obtain ⟨a9,m9,c9,rfl,hm9,_⟩:=id (uh HY)
      subst hm8
      subst hm9
      have HKa:=hide ((Kept.refl [] wr).alloc (.cells #[.slice a8 pk.length c8,.slice a9 pw.length c9] 33))
      have HCW:=hide (heap_alloc_new wr (.cells #[.slice a8 pk.length c8,.slice a9 pw.length c9] 33))
      go_wp2_with fail
      refine Calls.mono (xb0v _ _ pk key _ ((uh HX).old (uh HKa) (by simp)) ((uh HKY).old ((uh HK).trans (uh HKa) (by simp)) (by simp))) ?_
      rintro e w1 ⟨rfl,rfl⟩
      have c0:=cell_of_row _ wr.heap.size 1 _ _ _ (uh HCW)
      by_cases hE:pk = key
      · rw [decide_eq_true hE]
        have HV:=hide (by rw [uh HS,valH,if_pos hE]:valH key ps = some pw)
        clear hE q1 q2
        go_wp2_with fail
        refine Calls.mono (xb2g _ pw _ ((uh HY).old (uh HKa) (by simp))) ?_
        rintro e w2 ⟨⟨v',rfl,hv',hb'⟩,k2⟩
        have HB2:=hide (fun x hx=>Nat.le_trans ((uh HK).trans (uh HKa) (by simp)).size (hb' x hx):∀ x∈blk v',w.heap.size≤x)
        clear hb'
        have HK2:=hide (((uh HK).trans (uh HKa) (by simp)).trans k2 (by simp))
        have HV2:=hide hv'
        clear k2 hv' c0
        go_wp2
        go_ret2
        exact ⟨⟨_,by rw [uh HV]; rfl,by rw [uh HV]; exact uh HV2,uh HB2⟩,uh HK2⟩
      · rw [decide_eq_false hE]
        have HA2:=hide (fun j (hj:j < i + 1)=>by
          rcases Nat.lt_or_ge j i with h9 | h9
          · exact uh HA j h9
          · obtain rfl:j = i:=by omega
            rw [uh HI]; exact hE:∀ j,j < i + 1→(ps.getD j ([],[])).1≠key)
        clear hE q1 q2 c0
        go_wp2
        refine ⟨⟨i + 1,hlt,by go_num,HA2,hide ((uh HK).trans (uh HKa) (by simp))⟩,?_⟩
        simp [intOf]; omega
    · have hi':i = ps.length:=by omega
      subst hi'
      have HV:=hide (by rw [xa6a (key:=key) ps ps.length (Nat.le_refl _) (uh HA),List.drop_length]; rfl:valH key ps = none)
      go_wp2
      go_ret2
      exact ⟨⟨_,by rw [uh HV]; rfl,by rw [uh HV]; exact Rd.nil _,by simp [blk]⟩,uh HK⟩
theorem xa9i {ps:List (List Nat × List Nat)} {i:Nat}:∀ (n:Nat),i≤n→risB ps i = false→risB ps n = false
  | 0,h,hi=>by obtain rfl:i = 0:=(by omega); exact hi
  | n + 1,h,hi=>by
    rcases Nat.lt_or_ge n i with h9 | h9
    · obtain rfl:i = n + 1:=by omega
      exact hi
    · rw [risB,xa9i n h9 hi]; rfl
theorem xb3n:∀ a b:List Nat,-1≤ordL a b∧ordL a b≤1
  | [],[]=>by simp [ordL]
  | [],_ :: _=>by simp [ordL]
  | _ :: _,[]=>by simp [ordL]
  | x :: a,y :: b=>by
    have:=xb3n a b
    simp only [ordL]
    split
    · omega
    · split
      · omega
      · exact this
set_option maxHeartbeats 1000000 in
theorem xb1f (pv:Value) (ps:List (List Nat × List Nat)) (w:World) (hp:RdK w pv ps) :
    Calls Tryz.prog 110 #[pv] w fun e w'=>e = .returned (.bool (risB ps ps.length))∧Kept [] w w':=by
  obtain ⟨ao,n,c,_,_,rfl,_⟩:=id hp
  obtain ⟨h1,h2,h3,h4⟩:=hp.cells
  have H4:=hide h4
  clear h4 hp
  subst h1
  go_enter Tryz.func110,Tryz.ntmps110
  go_wp2_with fail
  go_loopw [7] (fun t7 wr=>∃ (i:Nat),i≤ps.length∧t7 = .int .i64 i∧Hid (risB ps i = true)∧Hid (Kept [] w wr)) (fun t _=>ps.length - (intOf t).toNat)
  case atStart=>exact ⟨0,Nat.zero_le _,rfl,hide rfl,hide (Kept.refl _ _)⟩
  case round =>
    obtain ⟨i,hi,rfl,HA,HK⟩:=hrel
    by_cases hlt:i < ps.length
    · have hlt':(i:Int) < ps.length:=by omega
      obtain ⟨b,o,x,y,rfl,c1,c2,r1,r2⟩:=uh H4 i hlt
      have HPR:=hide (fun (h:0 < i)=>uh H4 (i - 1) (by omega))
      have q1:=(uh HK).cell c1 (by simp)
      have q2:=(uh HK).cell c2 (by simp)
      have HX:=hide (r1.old (uh HK) (by simp))
      have HY:=hide (r2.old (uh HK) (by simp))
      have HST:=hide (by rw [risB,uh HA,Bool.true_and]:risB ps (i + 1) = (decide ((ps.getD i ([],[])).1.length≤64) && (decide ((ps.getD i ([],[])).2.length≤256) && (decide (i = 0) || decide (ordL (ps.getD (i - 1) ([],[])).1 (ps.getD i ([],[])).1 < 0)))))
      clear c1 c2 r1 r2
      generalize ps.getD i ([],[]) = pi at HX HY HST
      obtain ⟨pk,pw⟩:=pi
      simp only at HX HY HST
      have HBAD:=hide (fun (h:risB ps (i + 1) = false)=>xa9i (ps:=ps) ps.length hlt h)
      obtain ⟨a8,m8,c8,rfl,hm8,_⟩:=id (uh HX)
      obtain ⟨a9,m9,c9,rfl,hm9,_⟩:=id (uh HY)
      subst hm8
      subst hm9
      have HKa:=hide ((Kept.refl [] wr).alloc (.cells #[.slice a8 pk.length c8,.slice a9 pw.length c9] 33))
      have HKb:=hide ((uh HK).trans (uh HKa) (by simp))
      by_cases hk:64 < pk.length
      · have hk':(64:Int) < pk.length:=by omega
        have HB:=hide (uh HBAD (by rw [uh HST,decide_eq_false (by omega)]; rfl))
        go_wp2
        go_ret
        exact ⟨by rw [uh HB]; rfl,uh HKb⟩
      · have hk':¬ (64:Int) < pk.length:=by omega
        by_cases hv:256 < pw.length
        · have hv':(256:Int) < pw.length:=by omega
          have HB:=hide (uh HBAD (by rw [uh HST,decide_eq_true (by omega),decide_eq_false (by omega)]; rfl))
          go_wp2
          go_ret
          exact ⟨by rw [uh HB]; rfl,uh HKb⟩
        · have hv':¬ (256:Int) < pw.length:=by omega
          have HST2:=hide (by rw [uh HST,decide_eq_true (by omega),decide_eq_true (by omega)]; rfl:risB ps (i + 1) = (decide (i = 0) || decide (ordL (ps.getD (i - 1) ([],[])).1 pk < 0)))
          clear HST
          by_cases h0:i = 0
          · have h0':¬ (0:Int) < i:=by omega
            have hi0:¬ 0 < i:=by omega
            have HN:=hide (by rw [uh HST2,decide_eq_true h0]; rfl:risB ps (i + 1) = true)
            clear HST2 HBAD HPR h0
            go_wp2_with fail
            refine xa1h 11 (by kernel_rfl) (by kernel_rfl) ?_
            simp only [List.take_succ_cons,List.take_zero,List.drop_succ_cons,List.drop_zero]
            repeat (go_big_quiet_step (fail))
            refine wpQuiet_nil ?_
            rintro _ ⟨n1,rfl⟩
            go_wp2
            refine ⟨⟨i + 1,hlt,by go_num,HN,hide ((uh HKb).drewN n1)⟩,?_⟩
            simp [intOf]; omega
          · have h0':(0:Int) < i:=by omega
            have hi0:0 < i:=by omega
            obtain ⟨_,_,x',y',he,c1,c2,r1,r2⟩:=uh HPR (by omega)
            cases he
            have HST3:=hide (by rw [uh HST2,decide_eq_false h0]; rfl:risB ps (i + 1) = decide (ordL (ps.getD (i - 1) ([],[])).1 pk < 0))
            have q3:=((uh HKb)).cell c1 (by simp)
            have HX':=hide (r1.old (uh HKb) (by simp))
            clear HST2 HPR c1 c2 r1 r2
            generalize (ps.getD (i - 1) ([],[])).1 = pp at HST3 HX'
            have hsub:((i:Int) - 1) = ((i - 1:Nat):Int):=by omega
            obtain ⟨k,hk9⟩:∃ k,i - 1 = k:=⟨_,rfl⟩
            rw [hk9] at q3 hsub
            have hkl:(k:Int) < ps.length:=by omega
            obtain ⟨a7,m7,c7,rfl,hm7,_⟩:=id (uh HX')
            subst hm7
            have HI:=hide (by omega:¬ i = 0)
            clear h0 hk9
            have c8':=cell_of_row _ wr.heap.size 0 _ _ _ (heap_alloc_new wr (.cells #[.slice a8 pk.length c8,.slice a9 pw.length c9] 33))
            go_wp2_with fail
            refine xa1h 11 (by kernel_rfl) (by kernel_rfl) ?_
            simp only [List.take_succ_cons,List.take_zero,List.drop_succ_cons,List.drop_zero]
            repeat (go_big_quiet_step (fail))
            refine wpQuiet_nil ?_
            rintro _ ⟨n1,rfl⟩
            go_wp2_with fail
            refine Calls.mono (xb3m _ _ pp pk _ ((uh HX').old ((Kept.refl [] _).drewN n1) (by simp)) ((uh HX).old ((uh HKa).drewN n1) (by simp))) ?_
            rintro e w1 ⟨rfl,rfl⟩
            have hob:=xb3n pp pk
            generalize ordL pp pk = C at HST3 hob ⊢
            clear q1 q2 q3 hsub hkl c8'
            by_cases hC:C < 0
            · have hC':¬ (0:Int)≤C:=by omega
              have HN:=hide (by rw [uh HST3,decide_eq_true hC]:risB ps (i + 1) = true)
              clear hC
              go_wp2
              refine ⟨⟨i + 1,hlt,by go_num,HN,hide ((uh HKb).drewN n1)⟩,?_⟩
              simp [intOf]; omega
            · have hC':(0:Int)≤C:=by omega
              have HB:=hide (uh HBAD (by rw [uh HST3,decide_eq_false hC]))
              clear hC
              go_wp2
              go_ret
              exact ⟨by rw [uh HB]; rfl,(uh HKb).drewN n1⟩
    · have hi':i = ps.length:=by omega
      subst hi'
      go_wp2
      go_ret
      exact ⟨by rw [uh HA]; rfl,uh HK⟩
theorem RdK.tail {w:World} {b off n c:Nat} {ps:List (List Nat × List Nat)} (h:RdK w (.slice (some ⟨b,off,none⟩) n c) ps) (hp:0 < n):RdK w (.slice (some ⟨b,off + 2,none⟩) (n - 1) (c - 1)) (ps.drop 1):=by
  obtain ⟨_,_,_,vs,us,he,h1,h2,h3,h4,h5⟩:=h
  cases he
  refine ⟨_,n - 1,c - 1,vs.drop 1,us.drop 1,rfl,by simp [h1],by omega,by omega,fun i hi=>?_,fun _=>⟨b,off + 2,rfl,fun i hi=>?_⟩⟩
  · have:=h4 (i + 1) (by omega)
    simpa [List.getD_eq_getElem?_getD,Nat.add_comm] using this
  · obtain ⟨b',o',e,hc⟩:=h5 hp
    cases e
    have:=hc (i + 1) (by omega)
    rw [show off + (i + 1) * 2 = off + 2 + i * 2 by omega] at this
    simpa [List.getD_eq_getElem?_getD,Nat.add_comm] using this
set_option maxHeartbeats 1000000 in
theorem xb7q (z:Int) (ks:List Nat) (n:Nat) (pv:Value) (ps:List (List Nat × List Nat)) (w:World) (hz:-9223372036854775808≤z∧z≤9223372036854775807) (hks:Dg ks) (hn:n≤1000000000000) (hp:RdK w pv ps) (hp0:0 < ps.length) (hT:Tabs w) (hl:∀ p∈ps,p.1.length≤64) :
    Calls Tryz.prog 111 #[.int .i64 z,.agg (brow ks),.int .i64 n,pv] w fun e w'=>e = .returned (.bool (hanB z ks n ps))∧Kept [] w w':=by
  obtain ⟨ao,m,c,_,_,rfl,_⟩:=id hp
  obtain ⟨h1,h2,h3,h4⟩:=hp.cells
  obtain ⟨b,o,x,y,rfl,c1,c2,r1,r2⟩:=h4 0 (by omega)
  have HTL:Hid (RdK w (if c = 1 then .slice (some ⟨b,o,none⟩) (m - 1) 0 else .slice (some ⟨b,o + 2,none⟩) (m - 1) (c - 1)) (ps.drop 1)):=hide (by
    by_cases hc9:c = 1
    · rw [if_pos hc9]
      have h9:ps.drop 1 = []:=by rw [List.drop_eq_nil_iff]; omega
      rw [h9,show m - 1 = 0 by omega]
      exact ⟨_,0,0,[],[],rfl,rfl,Nat.le_refl _,by omega,fun i hi=>by omega,fun hh=>by omega⟩
    · rw [if_neg hc9]; exact hp.tail (by omega))
  have HX:=hide r1
  have HT:=hide hT
  have HKS:=hide hks
  have hkl:=hks.1
  have HL0:=hide (hl _ (by rw [List.getD_eq_getElem?_getD,List.getElem?_eq_getElem hp0]; exact List.getElem_mem hp0):(ps.getD 0 ([],[])).1.length≤64)
  have HLT:=hide (fun p (h:p∈ps.drop 1)=>hl p (List.mem_of_mem_drop h))
  have HF:=hide (by unfold hanB; rfl:hanB z ks n ps = ((ps.drop 1).all (fun p=>decide (keyS z p.1 = keyS z (ps.getD 0 ([],[])).1)) && decide (n≤comC z (keyS z (ps.getD 0 ([],[])).1) ks)))
  have HK0:=hide ((Kept.refl [] w).alloc (.cells (brow ks) 58))
  have HG0:=hide (heap_alloc_new w (.cells (brow ks) 58))
  have q1:=(uh HK0).cell c1 (by simp)
  rw [Nat.zero_mul,Nat.add_zero] at q1
  clear h4 hp c1 c2 r1 r2 hT hks hl
  subst h1
  have hp0':(0:Int) < ps.length:=by omega
  have hp1:(1:Int)≤ps.length:=by omega
  have hp2:1≤ps.length:=by omega
  have hc1:(1:Int)≤c:=by omega
  generalize (ps.getD 0 ([],[])).1 = k0 at HX HL0 HF
  obtain ⟨a8,m8,c8,rfl,hm8,_⟩:=id (uh HX)
  subst hm8
  go_enter Tryz.func111,Tryz.ntmps111
  go_wp2_with fail
  refine Calls.mono (xa7d z _ k0 _ hz ((uh HX).old (uh HK0) (by simp)) (by have:=uh HL0; omega) ((uh HT).k (uh HK0))) ?_
  rintro e w1 ⟨rfl,k1⟩
  have HD0:=hide (xb2i z k0)
  have HDE:keyS z k0 = sumD z (2 :: k0):=rfl
  rw [← HDE]
  clear HDE
  generalize keyS z k0 = D0 at HD0 HF ⊢
  have hd0:=(uh HD0).1
  have kN:=(k1.alloc (.cells (zb 32) 58)).setRow (g:=w1.heap.size) (Or.inr k1.size) (brow D0)
  have HN1:=hide (setRow_heap (w1.alloc (.cells (zb 32) 58)) w1.heap.size (zb 32) (brow D0) 58 (0,0) (heap_alloc_new _ _))
  have HK1:=hide ((uh HK0).trans kN (by simp))
  have HG1:=hide (kN.heap (uh HG0) (by simp))
  have HS0:=hide (Tryz.szD hd0)
  have HSK:=hide (Tryz.szD hkl)
  clear kN k1 q1 HK0 HG0
  generalize ps.drop 1 = tl at HTL HLT HF
  obtain hc9 | hc9:c = 1∨¬ c = 1:=by omega
  case' inl =>
    rw [if_pos hc9] at HTL
    subst hc9
    go_wp2_with (rw [zb32]; refine wpList_store_row rfl 58 _ _ rfl w1.heap.size (brow D0) rfl rfl _ (zb 32) (heap_alloc_new _ _) (uh HS0) (by rw [xa0d,xa0a,hd0]) (xa0b _) ?_)
    have t0:tl.length = 0:=by have:=(uh HTL).cells.1; omega
    have htb:tl.length≤9223372036854775806:=by omega
    have H4:Hid (∀ i,i < tl.length→∃ b' off u v,(some (⟨b,o,none⟩:Addr)) = some ⟨b',off,none⟩∧w.cell? ⟨b',off + i * 2,none⟩ = some u∧w.cell? ⟨b',off + i * 2 + 1,none⟩ = some v∧Rd w u (tl.getD i ([],[])).1∧Rd w v (tl.getD i ([],[])).2):=hide (fun i hi=>by omega)
    clear HTL hc1 hp1 hp2 hp0' hp0
  case' inr =>
    rw [if_neg hc9] at HTL
    go_wp2_with (rw [zb32]; refine wpList_store_row rfl 58 _ _ rfl w1.heap.size (brow D0) rfl rfl _ (zb 32) (heap_alloc_new _ _) (uh HS0) (by rw [xa0d,xa0a,hd0]) (xa0b _) ?_)
    obtain ⟨t1,t2,t3,t4⟩:=(uh HTL).cells
    have H4:=hide t4
    have htb:tl.length≤9223372036854775806:=by omega
    clear t4 HTL hc1 hp1 hp2 hp0' hp0 t2 t3 hc9
    generalize ps.length - 1 = N9 at t1 H4 ⊢
    subst t1
  all_goals
    obtain ⟨W,hW⟩:∃ W,(w1.alloc (.cells (zb 32) 58)).setRow w1.heap.size (brow D0) = W:=⟨_,rfl⟩
    rw [hW] at HN1 HK1 HG1 ⊢
    clear hW
    go_loopw [29] (fun t29 wr=>∃ (i:Nat),i≤tl.length∧t29 = .int .i64 i∧Hid ((tl.take i).all (fun p=>decide (keyS z p.1 = D0)) = true)∧Hid (Kept [] w wr)∧Hid (wr.heap[w1.heap.size]? = some (.cells (brow D0) 58 (0,0)))∧Hid (wr.heap[w.heap.size]? = some (.cells (brow ks) 58 (0,0)))) (fun t _=>tl.length - (intOf t).toNat)
    case atStart=>exact ⟨0,Nat.zero_le _,rfl,hide (by simp),HK1,HN1,HG1⟩
    case round =>
      obtain ⟨i,hi,rfl,HA,HK,HN,HG⟩:=hrel
      by_cases hlt:i < tl.length
      · first
        | (exfalso; omega)
        | (have hlt':(i:Int) < tl.length:=by omega
           obtain ⟨b',o',x',y',he,c1,c2,r1,r2⟩:=uh H4 i hlt
           cases he
           have q1:=(uh HK).cell c1 (by simp)
           have q2:=(uh HK).cell c2 (by simp)
           have HX1:=hide (r1.old (uh HK) (by simp))
           have HY1:=hide (r2.old (uh HK) (by simp))
           have HLI:=hide (uh HLT (tl.getD i ([],[])) (by rw [List.getD_eq_getElem?_getD,List.getElem?_eq_getElem hlt]; exact List.getElem_mem hlt))
           have HNX:=hide (by rw [List.take_succ_eq_append_getElem hlt,List.all_append,uh HA,List.getD_eq_getElem?_getD,List.getElem?_eq_getElem hlt]; simp:(tl.take (i + 1)).all (fun p=>decide (keyS z p.1 = D0)) = decide (keyS z (tl.getD i ([],[])).1 = D0))
           have HM:=hide (fun (h:¬ keyS z (tl.getD i ([],[])).1 = D0)=>by
             have h9:tl.all (fun p=>decide (keyS z p.1 = D0)) = false:=by
               rw [List.all_eq_false]
               exact ⟨tl.getD i ([],[]),by rw [List.getD_eq_getElem?_getD,List.getElem?_eq_getElem hlt]; exact List.getElem_mem hlt,by rw [decide_eq_false h]; decide⟩
             rw [uh HF,h9]; rfl:¬ keyS z (tl.getD i ([],[])).1 = D0→hanB z ks n ps = false)
           clear c1 c2 r1 r2
           generalize tl.getD i ([],[]) = pi at HX1 HY1 HLI HNX HM
           obtain ⟨pk,pw⟩:=pi
           simp only at HX1 HY1 HLI HNX HM
           obtain ⟨a7,m7,c7,rfl,hm7,_⟩:=id (uh HX1)
           obtain ⟨a9,m9,c9,rfl,hm9,_⟩:=id (uh HY1)
           subst hm7
           subst hm9
           have HKa:=hide ((Kept.refl [] wr).alloc (.cells #[.slice a7 pk.length c7,.slice a9 pw.length c9] 33))
           go_wp2_with fail
           refine Calls.mono (xa7d z _ pk _ hz ((uh HX1).old (uh HKa) (by simp)) (by have:=uh HLI; omega) ((uh HT).k ((uh HK).trans (uh HKa) (by simp)))) ?_
           rintro e w2 ⟨rfl,k2⟩
           have HDK:=hide (xb2i z pk)
           have HDE:keyS z pk = sumD z (2 :: pk):=rfl
           rw [← HDE]
           clear HDE
           generalize keyS z pk = DK at HDK HNX HM ⊢
           have hdk:=(uh HDK).1
           have kN:=(((uh HKa).trans k2 (by simp)).alloc (.cells (zb 32) 58)).setRow (g:=w2.heap.size) (Or.inr ((uh HKa).trans k2 (by simp)).size) (brow DK)
           have HN2:=hide (setRow_heap (w2.alloc (.cells (zb 32) 58)) w2.heap.size (zb 32) (brow DK) 58 (0,0) (heap_alloc_new _ _))
           have HK2:=hide ((uh HK).trans kN (by simp))
           have HD2:=hide (kN.heap (uh HN) (by simp))
           have HG2:=hide (kN.heap (uh HG) (by simp))
           have HSD:=hide (Tryz.szD hdk)
           clear kN k2 q1 q2
           have heq:=fun W=>dig_eq W DK D0 hdk hd0
           by_cases hE:DK = D0
           · rw [decide_eq_true hE] at heq HNX
             clear hE
             go_wp2_with (first
               | (rw [zb32]; refine wpList_store_row rfl 58 _ _ rfl w2.heap.size (brow DK) rfl rfl _ (zb 32) (heap_alloc_new _ _) (uh HSD) (by rw [xa0d,xa0a,hdk]) (xa0b _) ?_)
               | (refine wpList_load_row rfl 58 _ rfl w2.heap.size rfl _ (brow DK) (0,0) _ (uh HN2) Tryz.underlying58 rfl (uh HSD) ?_)
               | (refine wpList_load_row rfl 58 _ rfl w1.heap.size rfl _ (brow D0) (0,0) _ (uh HD2) Tryz.underlying58 rfl (uh HS0) ?_))
             refine ⟨⟨i + 1,hlt,by go_num,HNX,HK2,HD2,HG2⟩,?_⟩
             simp [intOf]; omega
           · have HB:=hide (uh HM hE)
             rw [decide_eq_false hE] at heq
             clear hE
             go_wp2_with (first
               | (rw [zb32]; refine wpList_store_row rfl 58 _ _ rfl w2.heap.size (brow DK) rfl rfl _ (zb 32) (heap_alloc_new _ _) (uh HSD) (by rw [xa0d,xa0a,hdk]) (xa0b _) ?_)
               | (refine wpList_load_row rfl 58 _ rfl w2.heap.size rfl _ (brow DK) (0,0) _ (uh HN2) Tryz.underlying58 rfl (uh HSD) ?_)
               | (refine wpList_load_row rfl 58 _ rfl w1.heap.size rfl _ (brow D0) (0,0) _ (uh HD2) Tryz.underlying58 rfl (uh HS0) ?_))
             go_ret
             exact ⟨by rw [uh HB]; rfl,uh HK2⟩)
      · have hi':i = tl.length:=by omega
        have HF2:=hide (by have h9:=uh HA; rw [hi',List.take_length] at h9; rw [uh HF,h9,Bool.true_and]:hanB z ks n ps = decide (n≤comC z D0 ks))
        have hlt':¬ (i:Int) < tl.length:=by omega
        clear hi'
        go_wp2_with (first
          | (refine wpList_load_row rfl 58 _ rfl w1.heap.size rfl _ (brow D0) (0,0) _ (uh HN) Tryz.underlying58 rfl (uh HS0) ?_)
          | (refine wpList_load_row rfl 58 _ rfl w.heap.size rfl _ (brow ks) (0,0) _ (uh HG) Tryz.underlying58 rfl (uh HSK) ?_))
        refine Calls.mono (xa6w z D0 ks _ hz (uh HD0) (uh HKS)) ?_
        rintro e w3 ⟨rfl,k3⟩
        have HK3:=hide ((uh HK).trans k3 (by simp))
        clear k3
        generalize comC z D0 ks = CC at HF2 ⊢
        by_cases hcc:n≤CC
        · have hcc':(n:Int)≤CC:=by omega
          go_wp2
          go_ret
          exact ⟨by rw [uh HF2,decide_eq_true hcc]; simp [hcc],uh HK3⟩
        · have hcc':¬ (n:Int)≤CC:=by omega
          go_wp2
          go_ret
          exact ⟨by rw [uh HF2,decide_eq_false hcc]; simp [hcc],uh HK3⟩
set_option maxHeartbeats 1000000 in
theorem xa9l (z:Int) (d:List Nat) (i:Int) (w:World) (hz:-9223372036854775808≤z∧z≤9223372036854775807) (hi:-9223372036854775808≤i∧i≤9223372036854775807) (hd:Dg d) :
    Calls Tryz.prog 108 #[.int .i64 z,.agg (brow d),.int .i64 i] w fun e w'=>e = .returned (.int .i64 (atC z d i:Int))∧Kept [] w w':=by
  have hdl:=hd.1
  have HGA:=hide (heap_alloc_new w (.cells (brow d) 58))
  have HK0:=hide ((Kept.refl [] w).alloc (.cells (brow d) 58))
  have HSZ:=hide (Tryz.szD hdl)
  go_enter Tryz.func108,Tryz.ntmps108
  go_wp2_with (refine wpList_load_row rfl 58 _ rfl w.heap.size rfl _ (brow d) (0,0) _ (uh HGA) Tryz.underlying58 rfl (uh HSZ) ?_)
  refine Calls.mono (at_any z d i _ hz hi hd) ?_
  rintro e w1 ⟨rfl,k1⟩
  have HK1:=hide ((uh HK0).trans k1 (by simp))
  clear k1
  go_wp2
  go_ret
  exact ⟨rfl,uh HK1⟩
set_option maxHeartbeats 1000000 in
theorem xa7x (b:Nat) (ao:Option Addr) (n cap:Nat) (c:Int) (t:Bool) (w:World) (hb:b < 65536) (hn:n≤1000000000000) (hc:-9223372036854775808≤c∧c≤9223372036854775807) :
    Calls Tryz.prog 107 #[.agg #[.int .u16 b,.slice ao n cap],.int .i64 c,.bool t] w fun e w'=>e = .returned (.bool (fitS b n c t))∧Kept [] w w':=by
  have HK0:=hide ((Kept.refl [] w).alloc (.cells #[.int .u16 b,.slice ao n cap] 52))
  have HG0:=hide (heap_alloc_new w (.cells #[.int .u16 b,.slice ao n cap] 52))
  go_enter Tryz.func107,Tryz.ntmps107
  by_cases h0:b = 0
  · have hF:fitS b n c t = false:=by unfold fitS; rw [h0]; simp
    rw [hF]
    clear hF HG0
    subst h0
    cases t with
    | true =>
      go_wp2_with fail
      go_ret
      exact ⟨rfl,uh HK0⟩
    | false =>
      go_wp2_with fail
      go_ret
      exact ⟨rfl,uh HK0⟩
  · have h0':¬ (b:Int) = 0:=by omega
    have HF:=hide (by unfold fitS; rw [decide_eq_true h0,Bool.true_and]:fitS b n c t = ((hasB b c == t) && decide (cnt b 16 = n + (if t then 1 else 0))))
    generalize fitS b n c t = F at HF ⊢
    have H0:=hide h0
    clear h0
    cases t with
    | true =>
      go_wp2_with fail
      refine Calls.mono (xa6h b c _ hb hc) ?_
      rintro e w1 ⟨rfl,k1⟩
      have HK1:=hide ((uh HK0).trans k1 (by simp))
      have c0:w1.cell? ⟨w.heap.size,0,none⟩ = some (.int .u16 b):=cell_of_row w1 w.heap.size _ _ _ _ (k1.heap (uh HG0) (by simp))
      clear k1
      generalize hasB b c = G at HF ⊢
      cases G with
      | true =>
        go_wp2_with fail
        refine Calls.mono (xa5g b _ hb) ?_
        rintro e w2 ⟨rfl,k2⟩
        have HK2:=hide ((uh HK1).trans k2 (by simp))
        clear k2 c0
        generalize cnt b 16 = C at HF ⊢
        by_cases hC:C = n + 1
        · have hC':(C:Int) = (n:Int) + 1:=by omega
          go_wp2
          go_ret
          exact ⟨by have h0:=uh H0; rw [uh HF,hC]; simp [h0],uh HK2⟩
        · have hC':¬ (C:Int) = (n:Int) + 1:=by omega
          go_wp2
          go_ret
          exact ⟨by have h0:=uh H0; rw [uh HF]; simp [hC,h0,hC'],uh HK2⟩
      | false =>
        go_wp2
        go_ret
        exact ⟨by have h0:=uh H0; rw [uh HF]; simp [h0],uh HK1⟩
    | false =>
      go_wp2_with fail
      refine Calls.mono (xa6h b c _ hb hc) ?_
      rintro e w1 ⟨rfl,k1⟩
      have HK1:=hide ((uh HK0).trans k1 (by simp))
      have c0:w1.cell? ⟨w.heap.size,0,none⟩ = some (.int .u16 b):=cell_of_row w1 w.heap.size _ _ _ _ (k1.heap (uh HG0) (by simp))
      clear k1
      generalize hasB b c = G at HF ⊢
      cases G with
      | false =>
        go_wp2_with fail
        refine Calls.mono (xa5g b _ hb) ?_
        rintro e w2 ⟨rfl,k2⟩
        have HK2:=hide ((uh HK1).trans k2 (by simp))
        clear k2 c0
        generalize cnt b 16 = C at HF ⊢
        by_cases hC:C = n
        · have hC':(C:Int) = (n:Int):=by omega
          go_wp2
          go_ret
          exact ⟨by have h0:=uh H0; rw [uh HF,hC]; simp [h0],uh HK2⟩
        · have hC':¬ (C:Int) = (n:Int):=by omega
          go_wp2
          go_ret
          exact ⟨by have h0:=uh H0; rw [uh HF]; simp [hC,h0,hC'],uh HK2⟩
      | true =>
        go_wp2
        go_ret
        exact ⟨by have h0:=uh H0; rw [uh HF]; simp [h0],uh HK1⟩
theorem RdS.cells {w:World} {ao:Option Addr} {len cap:Nat} {ss:List (Nat × List (List Nat))} (h:RdS w (.slice ao len cap) ss):ss.length = len∧len≤cap∧cap≤9223372036854775807 ∧
    ∀ i,i < len→∃ b off v,ao = some ⟨b,off,none⟩∧w.cell? ⟨b,off + i * 2,none⟩ = some (.int .u16 ((ss.getD i (0,[])).1:Int))∧w.cell? ⟨b,off + i * 2 + 1,none⟩ = some v∧(ss.getD i (0,[])).1 < 65536∧RdD w v (ss.getD i (0,[])).2:=by
  obtain ⟨ao',len',cap',vs,he,h1,h2,h3,h4,h5⟩:=h
  cases he
  refine ⟨h1,h2,h3,fun i hi=>?_⟩
  obtain ⟨b,off,rfl,hc⟩:=h5 (by omega)
  exact ⟨b,off,_,rfl,(hc i hi).1,(hc i hi).2,(h4 i hi).1,(h4 i hi).2⟩
theorem xa6f {z:Int} {ks:List Nat} {ss:List (Nat × List (List Nat))} {m i:Nat}:∀ (n:Nat),i≤n→fitsB z ks ss m i = false→fitsB z ks ss m n = false
  | 0,h,hi=>by obtain rfl:i = 0:=(by omega); exact hi
  | n + 1,h,hi=>by
    rcases Nat.lt_or_ge n i with h9 | h9
    · obtain rfl:i = n + 1:=by omega
      exact hi
    · rw [fitsB,xa6f n h9 hi]; rfl
theorem xb2l {ps:List (List Nat × List Nat)}:∀ (n:Nat),risB ps n = true→∀ i,i < n→(ps.getD i ([],[])).1.length≤64
  | 0,_,i,hi=>by omega
  | n + 1,h,i,hi=>by
    rw [risB] at h
    simp only [Bool.and_eq_true,decide_eq_true_eq] at h
    rcases Nat.lt_or_ge i n with h9 | h9
    · exact xb2l n h.1 i h9
    · obtain rfl:i = n:=by omega
      exact h.2.1
theorem atC_lt (z:Int) (d:List Nat) (i:Int) (h:Dg d):atC z d i < 16:=by
  unfold atC
  split
  · exact dgt_lt h.2 _
  · omega
set_option maxHeartbeats 2000000 in
theorem xb1a (z:Int) (ks:List Nat) (sv pv:Value) (ss:List (Nat × List (List Nat))) (ps:List (List Nat × List Nat)) (w:World) (hw:widthB z = true) (hks:Dg ks) (hs:RdS w sv ss) (hp:RdK w pv ps) (hT:Tabs w) (hsl:ss.length≤1000000000000) (hpl:ps.length≤1000000000000) (hkl:∀ s∈ss,s.2.length≤1000000000000) :
    Calls Tryz.prog 70 #[.int .i64 z,.agg (brow ks),.agg #[sv,pv]] w fun e w'=>e = .returned (.bool (provB z ks ss ps))∧Kept [] w w':=by
  obtain ⟨sa,sn,sc,vs0,rfl,_⟩:=id hs
  obtain ⟨pa,pn,pc,_,_,rfl,_⟩:=id hp
  obtain ⟨h1,h2,h3,h4⟩:=hs.cells
  obtain ⟨g1,g2,g3,g4⟩:=hp.cells
  have H4:=hide h4
  have HP:=hide hp
  have HT:=hide hT
  have HKS:=hide hks
  have HKL:=hide hkl
  have hk32:=hks.1
  have HSK:=hide (Tryz.szD hk32)
  have hz:1≤z∧z≤32:=xa1u hw
  clear h4 g4 hp hs hT hks hkl
  subst h1
  subst g1
  have HK0:=hide (((Kept.refl [] w).alloc (.cells (brow ks) 58)).alloc (.cells #[.slice sa ss.length sc,.slice pa ps.length pc] 64))
  have HG0:=hide (heap_alloc2_old w (.cells (brow ks) 58) (.cells #[.slice sa ss.length sc,.slice pa ps.length pc] 64))
  have HG1:=hide (heap_alloc2_new w (.cells (brow ks) 58) (.cells #[.slice sa ss.length sc,.slice pa ps.length pc] 64))
  go_enter Tryz.func70,Tryz.ntmps70
  obtain ⟨W,hW⟩:∃ W,(w.alloc (.cells (brow ks) 58)).alloc (.cells #[.slice sa ss.length sc,.slice pa ps.length pc] 64) = W:=⟨_,rfl⟩
  rw [hW] at HK0 HG0 HG1
  have c0:W.cell? ⟨w.heap.size + 1,0,none⟩ = some (.slice sa ss.length sc):=cell_of_row W (w.heap.size + 1) 0 _ _ _ (uh HG1)
  have hm2:IntKind.i64.wrap (2 * z) = 2 * z:=by simp [IntKind.wrap,IntKind.signed,IntKind.bits]; omega
  have hw2:RowKit.wrap64 (2 * z) = 2 * z:=by unfold RowKit.wrap64; omega
  by_cases hlen:ss.length≤2 * z.toNat
  · have hl':¬ (2 * z) < ss.length:=by omega
    have HF:=hide (by unfold provB; rw [decide_eq_true hlen,Bool.true_and]:provB z ks ss ps = (fitsB z ks ss ps.length ss.length &&
      (decide (ps.length = 0) || ((decide (ss.length = 0) || decide (cnt (ss.getD (ss.length - 1) (0,[])).1 16≠1)) && (risB ps ps.length && hanB z ks ss.length ps)))))
    clear hlen
    go_wp2_with fail
    clear hW c0 hm2 hw2
    go_loopw [24] (fun t24 wr=>∃ (i:Nat),i≤ss.length∧t24 = .int .i64 i∧Hid (fitsB z ks ss ps.length i = true)∧Hid (Kept [] W wr)) (fun t _=>ss.length - (intOf t).toNat)
    case atStart=>exact ⟨0,Nat.zero_le _,rfl,hide rfl,hide (Kept.refl _ _)⟩
    case round =>
      obtain ⟨i,hi,rfl,HA,HK⟩:=hrel
      by_cases hlt:i < ss.length
      · have hlt':(i:Int) < ss.length:=by omega
        obtain ⟨b,o,v,rfl,c1,c2,hsb,r2⟩:=uh H4 i hlt
        have HKw:=hide ((uh HK0).trans (uh HK) (by simp))
        have q1:=(uh HKw).cell c1 (by simp)
        have q2:=(uh HKw).cell c2 (by simp)
        have HX:=hide (r2.old (uh HKw))
        have hsk:=uh HKL (ss.getD i (0,[])) (by rw [List.getD_eq_getElem?_getD,List.getElem?_eq_getElem hlt]; exact List.getElem_mem hlt)
        have HST:=hide (by rw [fitsB,uh HA,Bool.true_and]:fitsB z ks ss ps.length (i + 1) = fitS (ss.getD i (0,[])).1 (ss.getD i (0,[])).2.length (atC z ks i) (decide (i + 1 < ss.length) || decide (0 < ps.length)))
        have HBAD:=hide (fun (h:fitsB z ks ss ps.length (i + 1) = false)=>(by rw [uh HF,xa6f ss.length hlt h]; rfl:provB z ks ss ps = false))
        have HAC:=hide (by have h9:=atC_lt z ks i (uh HKS); omega:-9223372036854775808≤((atC z ks i:Nat):Int)∧((atC z ks i:Nat):Int)≤9223372036854775807)
        clear c1 c2 r2
        generalize ss.getD i (0,[]) = s at q1 HX HST hsb hsk
        obtain ⟨sb,sk⟩:=s
        simp only at q1 HX HST hsb hsk
        obtain ⟨a8,m8,c8,rfl,hm8,_⟩:=id (uh HX)
        subst hm8
        have HKa:=hide ((Kept.refl [] wr).alloc (.cells #[.int .u16 sb,.slice a8 sk.length c8] 52))
        have HNW:=hide (heap_alloc_new wr (.cells #[.int .u16 sb,.slice a8 sk.length c8] 52))
        have HGK:=hide ((uh HKa).heap ((uh HK).heap (uh HG0) (by simp)) (by simp))
        have cp1:(wr.alloc (.cells #[.int .u16 sb,.slice a8 sk.length c8] 52)).cell? ⟨w.heap.size + 1,1,none⟩ = some (.slice pa ps.length pc):=cell_of_row _ (w.heap.size + 1) 1 _ _ _ ((uh HKa).heap ((uh HK).heap (uh HG1) (by simp)) (by simp))
        have HDG:=hide (fun w' (hw':Kept [] (wr.alloc (.cells #[.int .u16 sb,.slice a8 sk.length c8] 52)) w')=>(xa9l z ks i w' (by omega) (by omega) (uh HKS)).mono (fun e w2 (h2:_∧_)=>(⟨h2.1,hw'.trans h2.2 (by simp)⟩:_∧Kept [] (wr.alloc (.cells #[.int .u16 sb,.slice a8 sk.length c8] 52)) w2)))
        have hne:∀ p:Prop,(∀ w',Kept [] (wr.alloc (.cells #[.int .u16 sb,.slice a8 sk.length c8] 52)) w'→p) = p:=fun p=>propext ⟨fun h=>h _ (Kept.refl [] _),fun h _ _=>h⟩
        obtain hc | hc | hc:i + 1 < ss.length∨(¬ i + 1 < ss.length∧0 < ps.length)∨(¬ i + 1 < ss.length∧¬ 0 < ps.length):=by omega
        case' inl =>
          have hc':(i:Int) < ss.length - 1:=by omega
          go_wp2_with fail
          have HV:=hide (by rw [uh HST,decide_eq_true hc,Bool.true_or]:fitsB z ks ss ps.length (i + 1) = fitS sb sk.length (atC z ks i:Nat) true)
          have HFT:=hide (fun w' (hw':Kept [] (wr.alloc (.cells #[.int .u16 sb,.slice a8 sk.length c8] 52)) w')=>(xa7x sb a8 sk.length c8 (atC z ks i:Nat) true w' hsb hsk (uh HAC)).mono (fun e w2 (h2:_∧_)=>(⟨h2.1,hw'.trans h2.2 (by simp)⟩:_∧Kept [] (wr.alloc (.cells #[.int .u16 sb,.slice a8 sk.length c8] 52)) w2)))
          obtain ⟨F,hF⟩:∃ F,fitS sb sk.length (atC z ks i:Nat) true = F:=⟨_,rfl⟩
          rw [hF] at HV HFT
          clear hF
        case' inr.inl =>
          have hc':¬ (i:Int) < ss.length - 1:=by omega
          have hc2:(0:Int) < ps.length:=by omega
          go_wp2_with fail
          have HV:=hide (by rw [uh HST,decide_eq_true hc.2,Bool.or_true]:fitsB z ks ss ps.length (i + 1) = fitS sb sk.length (atC z ks i:Nat) true)
          have HFT:=hide (fun w' (hw':Kept [] (wr.alloc (.cells #[.int .u16 sb,.slice a8 sk.length c8] 52)) w')=>(xa7x sb a8 sk.length c8 (atC z ks i:Nat) true w' hsb hsk (uh HAC)).mono (fun e w2 (h2:_∧_)=>(⟨h2.1,hw'.trans h2.2 (by simp)⟩:_∧Kept [] (wr.alloc (.cells #[.int .u16 sb,.slice a8 sk.length c8] 52)) w2)))
          obtain ⟨F,hF⟩:∃ F,fitS sb sk.length (atC z ks i:Nat) true = F:=⟨_,rfl⟩
          rw [hF] at HV HFT
          clear hF
        case' inr.inr =>
          have hc':¬ (i:Int) < ss.length - 1:=by omega
          have hc2:¬ (0:Int) < ps.length:=by omega
          go_wp2_with fail
          have HV:=hide (by rw [uh HST,decide_eq_false hc.1,decide_eq_false hc.2,Bool.false_or]:fitsB z ks ss ps.length (i + 1) = fitS sb sk.length (atC z ks i:Nat) false)
          have HFT:=hide (fun w' (hw':Kept [] (wr.alloc (.cells #[.int .u16 sb,.slice a8 sk.length c8] 52)) w')=>(xa7x sb a8 sk.length c8 (atC z ks i:Nat) false w' hsb hsk (uh HAC)).mono (fun e w2 (h2:_∧_)=>(⟨h2.1,hw'.trans h2.2 (by simp)⟩:_∧Kept [] (wr.alloc (.cells #[.int .u16 sb,.slice a8 sk.length c8] 52)) w2)))
          obtain ⟨F,hF⟩:∃ F,fitS sb sk.length (atC z ks i:Nat) false = F:=⟨_,rfl⟩
          rw [hF] at HV HFT
          clear hF
        all_goals
          clear hc hc' q1 q2 HST cp1
          refine xa0i (by kernel_rfl) (by kernel_rfl) ?_
          refine xa0r rfl 52 (.tmp 9) rfl wr.heap.size rfl _ #[.int .u16 sb,.slice a8 sk.length c8] (0,0) _ (fun w' hw'=>hw'.heap (uh HNW) (by simp)) Tryz.underlying52 rfl (by kernel_rfl) ?_
          simp only [Act.put,List.setIfInBounds_toArray,List.set_cons_succ,List.set_cons_zero]
          go_big_quiet_step (fail)
          refine xa0r rfl 58 (.tmp 4) rfl w.heap.size rfl _ (brow ks) (0,0) _ (fun w' hw'=>hw'.heap (uh HGK) (by simp)) Tryz.underlying58 rfl (uh HSK) ?_
          simp only [Act.put,List.setIfInBounds_toArray,List.set_cons_succ,List.set_cons_zero]
          go_big_quiet_step (fail)
          go_big_quiet_want
          go_big_quiet_op
          apply Exists.intro
          refine ⟨fun w' hw'=>?_,?_⟩
          · exact uh HDG w' hw'
          go_big_quiet_on
          go_big_quiet_step (fail)
          go_big_quiet_want
          go_big_quiet_op
          apply Exists.intro
          refine ⟨fun w' hw'=>?_,?_⟩
          · exact uh HFT w' hw'
          go_big_quiet_on
          cases F with
          | true =>
            repeat (go_big_quiet_step (fail))
            refine wpQuiet_nil ?_
            intro w5 hw5
            have HK5:=hide (((uh HK).trans (uh HKa) (by simp)).trans hw5 (by simp))
            clear hw5 hne
            go_wp2
            refine ⟨⟨i + 1,hlt,by go_num,HV,HK5⟩,?_⟩
            simp [intOf]; omega
          | false =>
            have HB:=hide (uh HBAD (uh HV))
            repeat (go_big_quiet_step (fail))
            refine wpQuiet_nil ?_
            intro w5 hw5
            have HK5:=hide (((uh HK).trans (uh HKa) (by simp)).trans hw5 (by simp))
            clear hw5 hne
            go_wp2
            go_ret
            exact ⟨by rw [uh HB]; rfl,(uh HK0).trans (uh HK5) (by simp)⟩
      · have hi':i = ss.length:=by omega
        have hlt':¬ (i:Int) < ss.length:=by omega
        have HF2:=hide (by rw [uh HF,← hi',uh HA,Bool.true_and]:provB z ks ss ps = (decide (ps.length = 0) || ((decide (ss.length = 0) || decide (cnt (ss.getD (ss.length - 1) (0,[])).1 16≠1)) && (risB ps ps.length && hanB z ks ss.length ps))))
        have HKw:=hide ((uh HK0).trans (uh HK) (by simp))
        have HGr:=hide ((uh HK).heap (uh HG1) (by simp))
        have HGk:=hide ((uh HK).heap (uh HG0) (by simp))
        have cp0:wr.cell? ⟨w.heap.size + 1,0,none⟩ = some (.slice sa ss.length sc):=cell_of_row _ (w.heap.size + 1) 0 _ _ _ (uh HGr)
        have cp1:wr.cell? ⟨w.heap.size + 1,1,none⟩ = some (.slice pa ps.length pc):=cell_of_row _ (w.heap.size + 1) 1 _ _ _ (uh HGr)
        clear hi' HA HF
        by_cases hp0:ps.length = 0
        · have hp0':(ps.length:Int) = 0:=by omega
          have HB:=hide (by rw [uh HF2,decide_eq_true hp0]; rfl:provB z ks ss ps = true)
          clear hp0
          go_wp2
          go_ret
          exact ⟨by rw [uh HB]; rfl,uh HKw⟩
        · have hp0':¬ (ps.length:Int) = 0:=by omega
          have HB:=hide (by rw [uh HF2,decide_eq_false hp0,Bool.false_or]:provB z ks ss ps = ((decide (ss.length = 0) || decide (cnt (ss.getD (ss.length - 1) (0,[])).1 16≠1)) && (risB ps ps.length && hanB z ks ss.length ps)))
          clear HF2
          obtain hs0 | hs0:ss.length = 0∨¬ ss.length = 0:=by omega
          case' inl =>
            have hs0':¬ (0:Int)≤(ss.length:Int) - 1:=by omega
            have HB2:=hide (by rw [uh HB,decide_eq_true hs0,Bool.true_or,Bool.true_and]:provB z ks ss ps = (risB ps ps.length && hanB z ks ss.length ps))
            clear hs0 HB
            go_wp2_with fail
            obtain ⟨w5,hw5,HK5⟩:∃ w5,w5 = wr∧Hid (Kept [] wr w5):=⟨wr,rfl,hide (Kept.refl _ _)⟩
            rw [← hw5]
            clear hw5
          case' inr =>
            have hs0':(0:Int)≤(ss.length:Int) - 1:=by omega
            obtain ⟨L,hL⟩:∃ L,ss.length - 1 = L:=⟨_,rfl⟩
            have hsub:(ss.length:Int) - 1 = (L:Int):=by omega
            have hLlt:L < ss.length:=by omega
            have hLl:(L:Int) < ss.length:=by omega
            obtain ⟨b,o,v,rfl,c1,c2,hsb,r2⟩:=uh H4 L hLlt
            have q1:=(uh HKw).cell c1 (by simp)
            have HB2:=hide (by rw [uh HB,decide_eq_false hs0,Bool.false_or,hL]:provB z ks ss ps = (decide (cnt (ss.getD L (0,[])).1 16≠1) && (risB ps ps.length && hanB z ks ss.length ps)))
            clear c1 c2 r2 hL hs0 HB hLlt
            generalize (ss.getD L (0,[])).1 = sb at q1 hsb HB2
            go_wp2_with fail
            refine Calls.mono (xa5g sb _ hsb) ?_
            rintro e w5 ⟨rfl,k5⟩
            have HK5:=hide k5
            clear k5 q1 hsub hLl
            generalize cnt sb 16 = C at HB2 ⊢
            have cp2:w5.cell? ⟨w.heap.size + 1,1,none⟩ = some (.slice pa ps.length pc):=(uh HK5).cell cp1 (by simp)
            by_cases hC:C = 1
            · have hC':(C:Int) = 1:=by omega
              have HB3:=hide (by rw [uh HB2,decide_eq_false (by omega)]; rfl:provB z ks ss ps = false)
              clear hC
              go_wp2
              go_ret
              exact ⟨by rw [uh HB3]; rfl,(uh HKw).trans (uh HK5) (by simp)⟩
            have hC':¬ (C:Int) = 1:=by omega
            have HB3:=hide (by rw [uh HB2,decide_eq_true hC,Bool.true_and]:provB z ks ss ps = (risB ps ps.length && hanB z ks ss.length ps))
            clear hC HB2
            have HB2:=HB3
            clear HB3 cp0 cp1
            go_wp2_with fail
          all_goals
            have HKx:=hide ((uh HKw).trans (uh HK5) (by simp))
            refine Calls.mono (xb1f _ ps _ ((uh HP).old (uh HKx))) ?_
            rintro e w6 ⟨rfl,k6⟩
            have HK6:=hide ((uh HK5).trans k6 (by simp))
            have HK6w:=hide ((uh HKx).trans k6 (by simp))
            have HG6:=hide ((uh HK6).heap (uh HGr) (by simp))
            have HGk6:=hide ((uh HK6).heap (uh HGk) (by simp))
            have d0:=cell_of_row _ (w.heap.size + 1) 0 _ _ _ (uh HG6)
            have d1:=cell_of_row _ (w.heap.size + 1) 1 _ _ _ (uh HG6)
            clear k6 HK5 HKx
            cases hR:risB ps ps.length with
            | false =>
              have HB3:=hide (by rw [uh HB2,hR]; rfl:provB z ks ss ps = false)
              clear hR
              go_wp2
              go_ret
              exact ⟨by rw [uh HB3]; rfl,uh HK6w⟩
            | true =>
              have HB3:=hide (by rw [uh HB2,hR,Bool.true_and]:provB z ks ss ps = hanB z ks ss.length ps)
              have HLN:=hide (fun p (h:p∈ps)=>by
                obtain ⟨j,hj,rfl⟩:=List.getElem_of_mem h
                have h9:=xb2l ps.length hR j hj
                rw [List.getD_eq_getElem?_getD,List.getElem?_eq_getElem hj] at h9
                exact h9:∀ p∈ps,p.1.length≤64)
              clear hR
              go_wp2_with (refine xa4i rfl 58 _ rfl w.heap.size rfl _ (brow ks) (0,0) _ (uh HGk6) Tryz.underlying58 rfl (uh HSK) ?_)
              refine Calls.mono (xb7q z ks ss.length _ ps _ (by omega) (uh HKS) hsl ((uh HP).old (uh HK6w)) (by omega) ((uh HT).k (uh HK6w)) (uh HLN)) ?_
              rintro e w7 ⟨rfl,k7⟩
              have HK7:=hide ((uh HK6w).trans k7 (by simp))
              clear k7 d0 d1
              cases hH:hanB z ks ss.length ps with
              | true =>
                have HB4:=hide (by rw [uh HB3,hH]:provB z ks ss ps = true)
                clear hH
                go_wp2
                go_ret
                exact ⟨by rw [uh HB4]; rfl,uh HK7⟩
              | false =>
                have HB4:=hide (by rw [uh HB3,hH]:provB z ks ss ps = false)
                clear hH
                go_wp2
                go_ret
                exact ⟨by rw [uh HB4]; rfl,uh HK7⟩
  · have hl':(2 * z) < ss.length:=by omega
    have HF:=hide (by unfold provB; rw [decide_eq_false hlen]; rfl:provB z ks ss ps = false)
    clear hlen
    go_wp2
    go_ret
    exact ⟨by rw [uh HF]; rfl,uh HK0⟩
end
section
open Go
section
variable {P:Program} {Q:Exit→Act→World→Prop}
theorem wp_rs5 {id:Nat} {o0 o1 o2 o3 o4:Oper} {a:Act} {w:World} (S:World→Prop) (hm:P.follows .mixedOrders = true) (hs:Region.noSelect #[o0,o1,o2,o3,o4] = true)
    (f0:Region.free .any #[o0,o1,o2,o3,o4] #[false,false,false,false,false] 0 = true) (r0:(Region.ready .any #[o0,o1,o2,o3,o4] #[false,false,false,false,false]).contains 0 = true)
    (f1:Region.free .any #[o0,o1,o2,o3,o4] #[true,false,false,false,false] 1 = true) (r1:(Region.ready .any #[o0,o1,o2,o3,o4] #[true,false,false,false,false]).contains 1 = true)
    (f2:Region.free .any #[o0,o1,o2,o3,o4] #[true,true,false,false,false] 2 = true) (r2:(Region.ready .any #[o0,o1,o2,o3,o4] #[true,true,false,false,false]).contains 2 = true)
    (r3:Region.ready .any #[o0,o1,o2,o3,o4] #[true,true,true,false,false] = [3]) (f4:Region.free .any #[o0,o1,o2,o3,o4] #[true,true,true,true,false] 4 = true) (r4:(Region.ready .any #[o0,o1,o2,o3,o4] #[true,true,true,true,false]).contains 4 = true) (rr:Region.ready .any #[o0,o1,o2,o3,o4] #[true,true,true,true,true] = []) (g3:o3.guard = none) (hS:S w.drew)
    (v0 v1 v2 v4:Value) (A0 A1 A2 A4:Act)
    (p0:a.put o0.dst v0 = A0) (p1:A0.put o1.dst v1 = A1) (p2:A1.put o2.dst v2 = A2) (p4:A2.put o4.dst v4 = A4) 
    (hy0:YieldsIf P #[o0,o1,o2,o3,o4] S o0 v0 a)
    (hy1:YieldsIf P #[o0,o1,o2,o3,o4] S o1 v1 A0)
    (hy2:YieldsIf P #[o0,o1,o2,o3,o4] S o2 v2 A1)
    (hy4:YieldsIf P #[o0,o1,o2,o3,o4] S o4 v4 A2)
    (W1:World) (s3:∀ K:Act→World→Prop,K A2 W1→o3.wp P A2 w.drew K (NoPanic Q)) (k3:S W1) (h:Q .normal A4 W1) :
    (Code.region id #[o0,o1,o2,o3,o4] true).wp P Q a w:=by
  subst p0 p1 p2 p4
  refine wp_region_noPanic ?_
  refine wp_region_held_drew (S:=S) hm hS (fun hH=>?_)
  show wpAnyH P .any #[o0,o1,o2,o3,o4] (NoPanic Q) S 5 #[false,false,false,false,false] a w.drew
  refine wpAnyH_take (i:=0) (oi:=o0) rfl hs f0 r0 (fun _ _ _ h=>h) hy0 hS ?_
  refine wpAnyH_take (i:=1) (oi:=o1) rfl hs f1 r1 (fun _ _ _ h=>h) hy1 hS ?_
  refine wpAnyH_take (i:=2) (oi:=o2) rfl hs f2 r2 (fun _ _ _ h=>h) hy2 hS ?_
  refine wpAnyH_ready (rs:=[3]) r3 (by simp) (AllReadyH.cons (o:=o3) rfl (fun K hK=>?_) AllReadyH.nil)
  have wa:∀ y,Region.wanted o3 y = true:=fun y=>by unfold Region.wanted; rw [g3]
  rw [if_pos (wa _)]
  refine s3 K (hK.out _ _ k3 (fun _=>?_))
  refine wpAnyH_take (i:=4) (oi:=o4) rfl hs f4 r4 (fun _ _ _ h=>h) hy4 k3 ?_
  exact ⟨rr,NoPanic.normal h⟩
theorem wp_rs7 {id:Nat} {o0 o1 o2 o3 o4 o5 o6:Oper} {a:Act} {w:World} (S:World→Prop) (hm:P.follows .mixedOrders = true) (hs:Region.noSelect #[o0,o1,o2,o3,o4,o5,o6] = true)
    (f0:Region.free .any #[o0,o1,o2,o3,o4,o5,o6] #[false,false,false,false,false,false,false] 0 = true) (r0:(Region.ready .any #[o0,o1,o2,o3,o4,o5,o6] #[false,false,false,false,false,false,false]).contains 0 = true)
    (f1:Region.free .any #[o0,o1,o2,o3,o4,o5,o6] #[true,false,false,false,false,false,false] 1 = true) (r1:(Region.ready .any #[o0,o1,o2,o3,o4,o5,o6] #[true,false,false,false,false,false,false]).contains 1 = true)
    (f2:Region.free .any #[o0,o1,o2,o3,o4,o5,o6] #[true,true,false,false,false,false,false] 2 = true) (r2:(Region.ready .any #[o0,o1,o2,o3,o4,o5,o6] #[true,true,false,false,false,false,false]).contains 2 = true)
    (f3:Region.free .any #[o0,o1,o2,o3,o4,o5,o6] #[true,true,true,false,false,false,false] 3 = true) (r3:(Region.ready .any #[o0,o1,o2,o3,o4,o5,o6] #[true,true,true,false,false,false,false]).contains 3 = true)
    (f4:Region.free .any #[o0,o1,o2,o3,o4,o5,o6] #[true,true,true,true,false,false,false] 4 = true) (r4:(Region.ready .any #[o0,o1,o2,o3,o4,o5,o6] #[true,true,true,true,false,false,false]).contains 4 = true)
    (r5:Region.ready .any #[o0,o1,o2,o3,o4,o5,o6] #[true,true,true,true,true,false,false] = [5]) (f6:Region.free .any #[o0,o1,o2,o3,o4,o5,o6] #[true,true,true,true,true,true,false] 6 = true) (r6:(Region.ready .any #[o0,o1,o2,o3,o4,o5,o6] #[true,true,true,true,true,true,false]).contains 6 = true) (rr:Region.ready .any #[o0,o1,o2,o3,o4,o5,o6] #[true,true,true,true,true,true,true] = []) (g5:o5.guard = none) (hS:S w.drew)
    (v0 v1 v2 v3 v4 v6:Value) (A0 A1 A2 A3 A4 A6:Act)
    (p0:a.put o0.dst v0 = A0) (p1:A0.put o1.dst v1 = A1) (p2:A1.put o2.dst v2 = A2) (p3:A2.put o3.dst v3 = A3) (p4:A3.put o4.dst v4 = A4) (p6:A4.put o6.dst v6 = A6) 
    (hy0:YieldsIf P #[o0,o1,o2,o3,o4,o5,o6] S o0 v0 a)
    (hy1:YieldsIf P #[o0,o1,o2,o3,o4,o5,o6] S o1 v1 A0)
    (hy2:YieldsIf P #[o0,o1,o2,o3,o4,o5,o6] S o2 v2 A1)
    (hy3:YieldsIf P #[o0,o1,o2,o3,o4,o5,o6] S o3 v3 A2)
    (hy4:YieldsIf P #[o0,o1,o2,o3,o4,o5,o6] S o4 v4 A3)
    (hy6:YieldsIf P #[o0,o1,o2,o3,o4,o5,o6] S o6 v6 A4)
    (W1:World) (s5:∀ K:Act→World→Prop,K A4 W1→o5.wp P A4 w.drew K (NoPanic Q)) (k5:S W1) (h:Q .normal A6 W1) :
    (Code.region id #[o0,o1,o2,o3,o4,o5,o6] true).wp P Q a w:=by
  subst p0 p1 p2 p3 p4 p6
  refine wp_region_noPanic ?_
  refine wp_region_held_drew (S:=S) hm hS (fun hH=>?_)
  show wpAnyH P .any #[o0,o1,o2,o3,o4,o5,o6] (NoPanic Q) S 7 #[false,false,false,false,false,false,false] a w.drew
  refine wpAnyH_take (i:=0) (oi:=o0) rfl hs f0 r0 (fun _ _ _ h=>h) hy0 hS ?_
  refine wpAnyH_take (i:=1) (oi:=o1) rfl hs f1 r1 (fun _ _ _ h=>h) hy1 hS ?_
  refine wpAnyH_take (i:=2) (oi:=o2) rfl hs f2 r2 (fun _ _ _ h=>h) hy2 hS ?_
  refine wpAnyH_take (i:=3) (oi:=o3) rfl hs f3 r3 (fun _ _ _ h=>h) hy3 hS ?_
  refine wpAnyH_take (i:=4) (oi:=o4) rfl hs f4 r4 (fun _ _ _ h=>h) hy4 hS ?_
  refine wpAnyH_ready (rs:=[5]) r5 (by simp) (AllReadyH.cons (o:=o5) rfl (fun K hK=>?_) AllReadyH.nil)
  have wa:∀ y,Region.wanted o5 y = true:=fun y=>by unfold Region.wanted; rw [g5]
  rw [if_pos (wa _)]
  refine s5 K (hK.out _ _ k5 (fun _=>?_))
  refine wpAnyH_take (i:=6) (oi:=o6) rfl hs f6 r6 (fun _ _ _ h=>h) hy6 k5 ?_
  exact ⟨rr,NoPanic.normal h⟩
end
end
section
open Go Go.RowKit Go.BigFrame
section
variable {P:Program} {Q:Exit→Act→World→Prop}
theorem xb4k {id:Nat} {o0 o1 o2 o3 o4 o5 o6 o7 o8 o9 o10 o11 o12 o13 o14 o15 o16 o17 o18 o19:Oper} {a:Act} {w:World} (hm:P.follows .mixedOrders = true) (hs:Region.noSelect #[o0,o1,o2,o3,o4,o5,o6,o7,o8,o9,o10,o11,o12,o13,o14,o15,o16,o17,o18,o19] = true)
    (f0:Region.free .any #[o0,o1,o2,o3,o4,o5,o6,o7,o8,o9,o10,o11,o12,o13,o14,o15,o16,o17,o18,o19] #[false,false,false,false,false,false,false,false,false,false,false,false,false,false,false,false,false,false,false,false] 0 = true) (r0:(Region.ready .any #[o0,o1,o2,o3,o4,o5,o6,o7,o8,o9,o10,o11,o12,o13,o14,o15,o16,o17,o18,o19] #[false,false,false,false,false,false,false,false,false,false,false,false,false,false,false,false,false,false,false,false]).contains 0 = true)
    (f1:Region.free .any #[o0,o1,o2,o3,o4,o5,o6,o7,o8,o9,o10,o11,o12,o13,o14,o15,o16,o17,o18,o19] #[true,false,false,false,false,false,false,false,false,false,false,false,false,false,false,false,false,false,false,false] 1 = true) (r1:(Region.ready .any #[o0,o1,o2,o3,o4,o5,o6,o7,o8,o9,o10,o11,o12,o13,o14,o15,o16,o17,o18,o19] #[true,false,false,false,false,false,false,false,false,false,false,false,false,false,false,false,false,false,false,false]).contains 1 = true)
    (f2:Region.free .any #[o0,o1,o2,o3,o4,o5,o6,o7,o8,o9,o10,o11,o12,o13,o14,o15,o16,o17,o18,o19] #[true,true,false,false,false,false,false,false,false,false,false,false,false,false,false,false,false,false,false,false] 2 = true) (r2:(Region.ready .any #[o0,o1,o2,o3,o4,o5,o6,o7,o8,o9,o10,o11,o12,o13,o14,o15,o16,o17,o18,o19] #[true,true,false,false,false,false,false,false,false,false,false,false,false,false,false,false,false,false,false,false]).contains 2 = true)
    (f3:Region.free .any #[o0,o1,o2,o3,o4,o5,o6,o7,o8,o9,o10,o11,o12,o13,o14,o15,o16,o17,o18,o19] #[true,true,true,false,false,false,false,false,false,false,false,false,false,false,false,false,false,false,false,false] 3 = true) (r3:(Region.ready .any #[o0,o1,o2,o3,o4,o5,o6,o7,o8,o9,o10,o11,o12,o13,o14,o15,o16,o17,o18,o19] #[true,true,true,false,false,false,false,false,false,false,false,false,false,false,false,false,false,false,false,false]).contains 3 = true)
    (f4:Region.free .any #[o0,o1,o2,o3,o4,o5,o6,o7,o8,o9,o10,o11,o12,o13,o14,o15,o16,o17,o18,o19] #[true,true,true,true,false,false,false,false,false,false,false,false,false,false,false,false,false,false,false,false] 4 = true) (r4:(Region.ready .any #[o0,o1,o2,o3,o4,o5,o6,o7,o8,o9,o10,o11,o12,o13,o14,o15,o16,o17,o18,o19] #[true,true,true,true,false,false,false,false,false,false,false,false,false,false,false,false,false,false,false,false]).contains 4 = true)
    (f5:Region.free .any #[o0,o1,o2,o3,o4,o5,o6,o7,o8,o9,o10,o11,o12,o13,o14,o15,o16,o17,o18,o19] #[true,true,true,true,true,false,false,false,false,false,false,false,false,false,false,false,false,false,false,false] 5 = true) (r5:(Region.ready .any #[o0,o1,o2,o3,o4,o5,o6,o7,o8,o9,o10,o11,o12,o13,o14,o15,o16,o17,o18,o19] #[true,true,true,true,true,false,false,false,false,false,false,false,false,false,false,false,false,false,false,false]).contains 5 = true)
    (f6:Region.free .any #[o0,o1,o2,o3,o4,o5,o6,o7,o8,o9,o10,o11,o12,o13,o14,o15,o16,o17,o18,o19] #[true,true,true,true,true,true,false,false,false,false,false,false,false,false,false,false,false,false,false,false] 6 = true) (r6:(Region.ready .any #[o0,o1,o2,o3,o4,o5,o6,o7,o8,o9,o10,o11,o12,o13,o14,o15,o16,o17,o18,o19] #[true,true,true,true,true,true,false,false,false,false,false,false,false,false,false,false,false,false,false,false]).contains 6 = true)
    (f7:Region.free .any #[o0,o1,o2,o3,o4,o5,o6,o7,o8,o9,o10,o11,o12,o13,o14,o15,o16,o17,o18,o19] #[true,true,true,true,true,true,true,false,false,false,false,false,false,false,false,false,false,false,false,false] 7 = true) (r7:(Region.ready .any #[o0,o1,o2,o3,o4,o5,o6,o7,o8,o9,o10,o11,o12,o13,o14,o15,o16,o17,o18,o19] #[true,true,true,true,true,true,true,false,false,false,false,false,false,false,false,false,false,false,false,false]).contains 7 = true)
    (f8:Region.free .any #[o0,o1,o2,o3,o4,o5,o6,o7,o8,o9,o10,o11,o12,o13,o14,o15,o16,o17,o18,o19] #[true,true,true,true,true,true,true,true,false,false,false,false,false,false,false,false,false,false,false,false] 8 = true) (r8:(Region.ready .any #[o0,o1,o2,o3,o4,o5,o6,o7,o8,o9,o10,o11,o12,o13,o14,o15,o16,o17,o18,o19] #[true,true,true,true,true,true,true,true,false,false,false,false,false,false,false,false,false,false,false,false]).contains 8 = true)
    (f9:Region.free .any #[o0,o1,o2,o3,o4,o5,o6,o7,o8,o9,o10,o11,o12,o13,o14,o15,o16,o17,o18,o19] #[true,true,true,true,true,true,true,true,true,false,false,false,false,false,false,false,false,false,false,false] 9 = true) (r9:(Region.ready .any #[o0,o1,o2,o3,o4,o5,o6,o7,o8,o9,o10,o11,o12,o13,o14,o15,o16,o17,o18,o19] #[true,true,true,true,true,true,true,true,true,false,false,false,false,false,false,false,false,false,false,false]).contains 9 = true)
    (f10:Region.free .any #[o0,o1,o2,o3,o4,o5,o6,o7,o8,o9,o10,o11,o12,o13,o14,o15,o16,o17,o18,o19] #[true,true,true,true,true,true,true,true,true,true,false,false,false,false,false,false,false,false,false,false] 10 = true) (r10:(Region.ready .any #[o0,o1,o2,o3,o4,o5,o6,o7,o8,o9,o10,o11,o12,o13,o14,o15,o16,o17,o18,o19] #[true,true,true,true,true,true,true,true,true,true,false,false,false,false,false,false,false,false,false,false]).contains 10 = true)
    (f11:Region.free .any #[o0,o1,o2,o3,o4,o5,o6,o7,o8,o9,o10,o11,o12,o13,o14,o15,o16,o17,o18,o19] #[true,true,true,true,true,true,true,true,true,true,true,false,false,false,false,false,false,false,false,false] 11 = true) (r11:(Region.ready .any #[o0,o1,o2,o3,o4,o5,o6,o7,o8,o9,o10,o11,o12,o13,o14,o15,o16,o17,o18,o19] #[true,true,true,true,true,true,true,true,true,true,true,false,false,false,false,false,false,false,false,false]).contains 11 = true)
    (f12:Region.free .any #[o0,o1,o2,o3,o4,o5,o6,o7,o8,o9,o10,o11,o12,o13,o14,o15,o16,o17,o18,o19] #[true,true,true,true,true,true,true,true,true,true,true,true,false,false,false,false,false,false,false,false] 12 = true) (r12:(Region.ready .any #[o0,o1,o2,o3,o4,o5,o6,o7,o8,o9,o10,o11,o12,o13,o14,o15,o16,o17,o18,o19] #[true,true,true,true,true,true,true,true,true,true,true,true,false,false,false,false,false,false,false,false]).contains 12 = true)
    (qs:Region.ready .any #[o0,o1,o2,o3,o4,o5,o6,o7,o8,o9,o10,o11,o12,o13,o14,o15,o16,o17,o18,o19] #[true,true,true,true,true,true,true,true,true,true,true,true,true,false,false,false,false,false,false,false] = [13,17])
    (fA14:Region.free .any #[o0,o1,o2,o3,o4,o5,o6,o7,o8,o9,o10,o11,o12,o13,o14,o15,o16,o17,o18,o19] #[true,true,true,true,true,true,true,true,true,true,true,true,true,true,false,false,false,false,false,false] 14 = true) (rA14:(Region.ready .any #[o0,o1,o2,o3,o4,o5,o6,o7,o8,o9,o10,o11,o12,o13,o14,o15,o16,o17,o18,o19] #[true,true,true,true,true,true,true,true,true,true,true,true,true,true,false,false,false,false,false,false]).contains 14 = true)
    (fA15:Region.free .any #[o0,o1,o2,o3,o4,o5,o6,o7,o8,o9,o10,o11,o12,o13,o14,o15,o16,o17,o18,o19] #[true,true,true,true,true,true,true,true,true,true,true,true,true,true,true,false,false,false,false,false] 15 = true) (rA15:(Region.ready .any #[o0,o1,o2,o3,o4,o5,o6,o7,o8,o9,o10,o11,o12,o13,o14,o15,o16,o17,o18,o19] #[true,true,true,true,true,true,true,true,true,true,true,true,true,true,true,false,false,false,false,false]).contains 15 = true)
    (fA16:Region.free .any #[o0,o1,o2,o3,o4,o5,o6,o7,o8,o9,o10,o11,o12,o13,o14,o15,o16,o17,o18,o19] #[true,true,true,true,true,true,true,true,true,true,true,true,true,true,true,true,false,false,false,false] 16 = true) (rA16:(Region.ready .any #[o0,o1,o2,o3,o4,o5,o6,o7,o8,o9,o10,o11,o12,o13,o14,o15,o16,o17,o18,o19] #[true,true,true,true,true,true,true,true,true,true,true,true,true,true,true,true,false,false,false,false]).contains 16 = true)
    (rAal:Region.ready .any #[o0,o1,o2,o3,o4,o5,o6,o7,o8,o9,o10,o11,o12,o13,o14,o15,o16,o17,o18,o19] #[true,true,true,true,true,true,true,true,true,true,true,true,true,true,true,true,true,false,false,false] = [17])
    (rBc:Region.ready .any #[o0,o1,o2,o3,o4,o5,o6,o7,o8,o9,o10,o11,o12,o13,o14,o15,o16,o17,o18,o19] #[true,true,true,true,true,true,true,true,true,true,true,true,true,false,false,false,false,true,false,false] = [13])
    (fB14:Region.free .any #[o0,o1,o2,o3,o4,o5,o6,o7,o8,o9,o10,o11,o12,o13,o14,o15,o16,o17,o18,o19] #[true,true,true,true,true,true,true,true,true,true,true,true,true,true,false,false,false,true,false,false] 14 = true) (rB14:(Region.ready .any #[o0,o1,o2,o3,o4,o5,o6,o7,o8,o9,o10,o11,o12,o13,o14,o15,o16,o17,o18,o19] #[true,true,true,true,true,true,true,true,true,true,true,true,true,true,false,false,false,true,false,false]).contains 14 = true)
    (fB15:Region.free .any #[o0,o1,o2,o3,o4,o5,o6,o7,o8,o9,o10,o11,o12,o13,o14,o15,o16,o17,o18,o19] #[true,true,true,true,true,true,true,true,true,true,true,true,true,true,true,false,false,true,false,false] 15 = true) (rB15:(Region.ready .any #[o0,o1,o2,o3,o4,o5,o6,o7,o8,o9,o10,o11,o12,o13,o14,o15,o16,o17,o18,o19] #[true,true,true,true,true,true,true,true,true,true,true,true,true,true,true,false,false,true,false,false]).contains 15 = true)
    (fB16:Region.free .any #[o0,o1,o2,o3,o4,o5,o6,o7,o8,o9,o10,o11,o12,o13,o14,o15,o16,o17,o18,o19] #[true,true,true,true,true,true,true,true,true,true,true,true,true,true,true,true,false,true,false,false] 16 = true) (rB16:(Region.ready .any #[o0,o1,o2,o3,o4,o5,o6,o7,o8,o9,o10,o11,o12,o13,o14,o15,o16,o17,o18,o19] #[true,true,true,true,true,true,true,true,true,true,true,true,true,true,true,true,false,true,false,false]).contains 16 = true)
    (rst:Region.ready .any #[o0,o1,o2,o3,o4,o5,o6,o7,o8,o9,o10,o11,o12,o13,o14,o15,o16,o17,o18,o19] #[true,true,true,true,true,true,true,true,true,true,true,true,true,true,true,true,true,true,false,false] = [18])
    (f19:Region.free .any #[o0,o1,o2,o3,o4,o5,o6,o7,o8,o9,o10,o11,o12,o13,o14,o15,o16,o17,o18,o19] #[true,true,true,true,true,true,true,true,true,true,true,true,true,true,true,true,true,true,true,false] 19 = true) (r19:(Region.ready .any #[o0,o1,o2,o3,o4,o5,o6,o7,o8,o9,o10,o11,o12,o13,o14,o15,o16,o17,o18,o19] #[true,true,true,true,true,true,true,true,true,true,true,true,true,true,true,true,true,true,true,false]).contains 19 = true)
    (rr:Region.ready .any #[o0,o1,o2,o3,o4,o5,o6,o7,o8,o9,o10,o11,o12,o13,o14,o15,o16,o17,o18,o19] #[true,true,true,true,true,true,true,true,true,true,true,true,true,true,true,true,true,true,true,true] = []) (gc:o13.guard = none) (gal:o17.guard = none) (gst:o18.guard = none)
    (v0 v1 v2 v3 v4 v5 v6 v7 v8 v9 v10 v11 v12 v13 v14 v15 v16 v19:Value) (A0 A1 A2 A3 A4 A5 A6 A7 A8 A9 A10 A11 A12:Act)
    (p0:a.put o0.dst v0 = A0) (p1:A0.put o1.dst v1 = A1) (p2:A1.put o2.dst v2 = A2) (p3:A2.put o3.dst v3 = A3) (p4:A3.put o4.dst v4 = A4) (p5:A4.put o5.dst v5 = A5) (p6:A5.put o6.dst v6 = A6) (p7:A6.put o7.dst v7 = A7) (p8:A7.put o8.dst v8 = A8) (p9:A8.put o9.dst v9 = A9) (p10:A9.put o10.dst v10 = A10) (p11:A10.put o11.dst v11 = A11) (p12:A11.put o12.dst v12 = A12) 
    (hy0:YieldsIf P #[o0,o1,o2,o3,o4,o5,o6,o7,o8,o9,o10,o11,o12,o13,o14,o15,o16,o17,o18,o19] (fun w'=>Kept [] w w') o0 v0 a)
    (hy1:YieldsIf P #[o0,o1,o2,o3,o4,o5,o6,o7,o8,o9,o10,o11,o12,o13,o14,o15,o16,o17,o18,o19] (fun w'=>Kept [] w w') o1 v1 A0)
    (hy2:YieldsIf P #[o0,o1,o2,o3,o4,o5,o6,o7,o8,o9,o10,o11,o12,o13,o14,o15,o16,o17,o18,o19] (fun w'=>Kept [] w w') o2 v2 A1)
    (hy3:YieldsIf P #[o0,o1,o2,o3,o4,o5,o6,o7,o8,o9,o10,o11,o12,o13,o14,o15,o16,o17,o18,o19] (fun w'=>Kept [] w w') o3 v3 A2)
    (hy4:YieldsIf P #[o0,o1,o2,o3,o4,o5,o6,o7,o8,o9,o10,o11,o12,o13,o14,o15,o16,o17,o18,o19] (fun w'=>Kept [] w w') o4 v4 A3)
    (hy5:YieldsIf P #[o0,o1,o2,o3,o4,o5,o6,o7,o8,o9,o10,o11,o12,o13,o14,o15,o16,o17,o18,o19] (fun w'=>Kept [] w w') o5 v5 A4)
    (hy6:YieldsIf P #[o0,o1,o2,o3,o4,o5,o6,o7,o8,o9,o10,o11,o12,o13,o14,o15,o16,o17,o18,o19] (fun w'=>Kept [] w w') o6 v6 A5)
    (hy7:YieldsIf P #[o0,o1,o2,o3,o4,o5,o6,o7,o8,o9,o10,o11,o12,o13,o14,o15,o16,o17,o18,o19] (fun w'=>Kept [] w w') o7 v7 A6)
    (hy8:YieldsIf P #[o0,o1,o2,o3,o4,o5,o6,o7,o8,o9,o10,o11,o12,o13,o14,o15,o16,o17,o18,o19] (fun w'=>Kept [] w w') o8 v8 A7)
    (hy9:YieldsIf P #[o0,o1,o2,o3,o4,o5,o6,o7,o8,o9,o10,o11,o12,o13,o14,o15,o16,o17,o18,o19] (fun w'=>Kept [] w w') o9 v9 A8)
    (hy10:YieldsIf P #[o0,o1,o2,o3,o4,o5,o6,o7,o8,o9,o10,o11,o12,o13,o14,o15,o16,o17,o18,o19] (fun w'=>Kept [] w w') o10 v10 A9)
    (hy11:YieldsIf P #[o0,o1,o2,o3,o4,o5,o6,o7,o8,o9,o10,o11,o12,o13,o14,o15,o16,o17,o18,o19] (fun w'=>Kept [] w w') o11 v11 A10)
    (hy12:YieldsIf P #[o0,o1,o2,o3,o4,o5,o6,o7,o8,o9,o10,o11,o12,o13,o14,o15,o16,o17,o18,o19] (fun w'=>Kept [] w w') o12 v12 A11)
    (kcA:∀ w0,Kept [] w w0→∀ K:Act→World→Prop,(∀ w1,Kept [] w0 w1→K (A12.put o13.dst v13) w1)→o13.wp P A12 w0 K (NoPanic Q))
    (kcB:∀ (g:Nat) w0,Kept [] w w0→∀ K:Act→World→Prop,(∀ w1,Kept [] w0 w1→K ((A12.put o17.dst (.pointer (some ⟨g,0,none⟩))).put o13.dst v13) w1)→o13.wp P (A12.put o17.dst (.pointer (some ⟨g,0,none⟩))) w0 K (NoPanic Q))
    (hA14:YieldsIf P #[o0,o1,o2,o3,o4,o5,o6,o7,o8,o9,o10,o11,o12,o13,o14,o15,o16,o17,o18,o19] (fun w'=>Kept [] w w') o14 v14 (A12.put o13.dst v13))
    (hB14:∀ g:Nat,YieldsIf P #[o0,o1,o2,o3,o4,o5,o6,o7,o8,o9,o10,o11,o12,o13,o14,o15,o16,o17,o18,o19] (fun w'=>Kept [] w w') o14 v14 ((A12.put o17.dst (.pointer (some ⟨g,0,none⟩))).put o13.dst v13))
    (hA15:YieldsIf P #[o0,o1,o2,o3,o4,o5,o6,o7,o8,o9,o10,o11,o12,o13,o14,o15,o16,o17,o18,o19] (fun w'=>Kept [] w w') o15 v15 ((A12.put o13.dst v13).put o14.dst v14))
    (hB15:∀ g:Nat,YieldsIf P #[o0,o1,o2,o3,o4,o5,o6,o7,o8,o9,o10,o11,o12,o13,o14,o15,o16,o17,o18,o19] (fun w'=>Kept [] w w') o15 v15 (((A12.put o17.dst (.pointer (some ⟨g,0,none⟩))).put o13.dst v13).put o14.dst v14))
    (hA16:YieldsIf P #[o0,o1,o2,o3,o4,o5,o6,o7,o8,o9,o10,o11,o12,o13,o14,o15,o16,o17,o18,o19] (fun w'=>Kept [] w w') o16 v16 (((A12.put o13.dst v13).put o14.dst v14).put o15.dst v15))
    (hB16:∀ g:Nat,YieldsIf P #[o0,o1,o2,o3,o4,o5,o6,o7,o8,o9,o10,o11,o12,o13,o14,o15,o16,o17,o18,o19] (fun w'=>Kept [] w w') o16 v16 ((((A12.put o17.dst (.pointer (some ⟨g,0,none⟩))).put o13.dst v13).put o14.dst v14).put o15.dst v15))
    (ty:TypeId) (Z cs:Array Value) (hal:∀ (a':Act) (w':World) (K:Act→World→Prop),K (a'.put o17.dst (.pointer (some ⟨w'.heap.size,0,none⟩))) (w'.alloc (.cells Z ty))→o17.wp P a' w' K (NoPanic Q))
    (ne13:∀ d,o17.dst = some d→o13.dst≠some d)
    (ne14:∀ d,o17.dst = some d→o14.dst≠some d)
    (ne15:∀ d,o17.dst = some d→o15.dst≠some d)
    (ne16:∀ d,o17.dst = some d→o16.dst≠some d)
    (hst:∀ (g:Nat) (w':World) (K:Act→World→Prop),w'.heap[g]? = some (.cells Z ty (0,0))→K (((((A12.put o13.dst v13).put o14.dst v14).put o15.dst v15).put o16.dst v16).put o17.dst (.pointer (some ⟨g,0,none⟩))) (w'.setRow g cs)→o18.wp P (((((A12.put o13.dst v13).put o14.dst v14).put o15.dst v15).put o16.dst v16).put o17.dst (.pointer (some ⟨g,0,none⟩))) w' K (NoPanic Q))
    (hyl:∀ g:Nat,YieldsIf P #[o0,o1,o2,o3,o4,o5,o6,o7,o8,o9,o10,o11,o12,o13,o14,o15,o16,o17,o18,o19] (fun w'=>Kept [] w w') o19 v19 (((((A12.put o13.dst v13).put o14.dst v14).put o15.dst v15).put o16.dst v16).put o17.dst (.pointer (some ⟨g,0,none⟩))))
    (h:∀ (g:Nat) (w':World),w.heap.size≤g→Kept [] w w'→w'.heap[g]? = some (.cells cs ty (0,0))→Q .normal ((((((A12.put o13.dst v13).put o14.dst v14).put o15.dst v15).put o16.dst v16).put o17.dst (.pointer (some ⟨g,0,none⟩))).put o19.dst v19) w') :
    (Code.region id #[o0,o1,o2,o3,o4,o5,o6,o7,o8,o9,o10,o11,o12,o13,o14,o15,o16,o17,o18,o19] true).wp P Q a w:=by
  subst p0 p1 p2 p3 p4 p5 p6 p7 p8 p9 p10 p11 p12
  have k00:Kept [] w w.drew:=(Kept.refl [] w).drew
  refine wp_region_noPanic ?_
  refine wp_region_held_drew (S:=fun w'=>Kept [] w w') hm k00 (fun hH=>?_)
  show wpAnyH P .any #[o0,o1,o2,o3,o4,o5,o6,o7,o8,o9,o10,o11,o12,o13,o14,o15,o16,o17,o18,o19] (NoPanic Q) _ 20 #[false,false,false,false,false,false,false,false,false,false,false,false,false,false,false,false,false,false,false,false] a w.drew
  refine wpAnyH_take (i:=0) (oi:=o0) rfl hs f0 r0 (fun _ _ _ h=>h) hy0 k00 ?_
  refine wpAnyH_take (i:=1) (oi:=o1) rfl hs f1 r1 (fun _ _ _ h=>h) hy1 k00 ?_
  refine wpAnyH_take (i:=2) (oi:=o2) rfl hs f2 r2 (fun _ _ _ h=>h) hy2 k00 ?_
  refine wpAnyH_take (i:=3) (oi:=o3) rfl hs f3 r3 (fun _ _ _ h=>h) hy3 k00 ?_
  refine wpAnyH_take (i:=4) (oi:=o4) rfl hs f4 r4 (fun _ _ _ h=>h) hy4 k00 ?_
  refine wpAnyH_take (i:=5) (oi:=o5) rfl hs f5 r5 (fun _ _ _ h=>h) hy5 k00 ?_
  refine wpAnyH_take (i:=6) (oi:=o6) rfl hs f6 r6 (fun _ _ _ h=>h) hy6 k00 ?_
  refine wpAnyH_take (i:=7) (oi:=o7) rfl hs f7 r7 (fun _ _ _ h=>h) hy7 k00 ?_
  refine wpAnyH_take (i:=8) (oi:=o8) rfl hs f8 r8 (fun _ _ _ h=>h) hy8 k00 ?_
  refine wpAnyH_take (i:=9) (oi:=o9) rfl hs f9 r9 (fun _ _ _ h=>h) hy9 k00 ?_
  refine wpAnyH_take (i:=10) (oi:=o10) rfl hs f10 r10 (fun _ _ _ h=>h) hy10 k00 ?_
  refine wpAnyH_take (i:=11) (oi:=o11) rfl hs f11 r11 (fun _ _ _ h=>h) hy11 k00 ?_
  refine wpAnyH_take (i:=12) (oi:=o12) rfl hs f12 r12 (fun _ _ _ h=>h) hy12 k00 ?_
  generalize (((((((((((((a.put o0.dst v0).put o1.dst v1).put o2.dst v2).put o3.dst v3).put o4.dst v4).put o5.dst v5).put o6.dst v6).put o7.dst v7).put o8.dst v8).put o9.dst v9).put o10.dst v10).put o11.dst v11).put o12.dst v12) = B at *
  have wc:∀ y,Region.wanted o13 y = true:=fun y=>by unfold Region.wanted; rw [gc]
  have wal:∀ y,Region.wanted o17 y = true:=fun y=>by unfold Region.wanted; rw [gal]
  have wst:∀ y,Region.wanted o18 y = true:=fun y=>by unfold Region.wanted; rw [gst]
  have tail:∀ (g:Nat) (w0:World),w.heap.size≤g→Kept [] w w0→w0.heap[g]? = some (.cells Z ty (0,0))→wpAnyH P .any #[o0,o1,o2,o3,o4,o5,o6,o7,o8,o9,o10,o11,o12,o13,o14,o15,o16,o17,o18,o19] (NoPanic Q) (fun w'=>Kept [] w w') 2 #[true,true,true,true,true,true,true,true,true,true,true,true,true,true,true,true,true,true,false,false] (((((B.put o13.dst v13).put o14.dst v14).put o15.dst v15).put o16.dst v16).put o17.dst (.pointer (some ⟨g,0,none⟩))) w0:=by
    intro g w0 hg k0 hz
    refine wpAnyH_ready (rs:=[18]) rst (by simp) (AllReadyH.cons (o:=o18) rfl (fun K hK=>?_) AllReadyH.nil)
    rw [if_pos (wst _)]
    have k1:=k0.setRow (Or.inr hg) cs
    refine hst g w0 K hz (hK.out _ _ k1 (fun _=>?_))
    refine wpAnyH_take (i:=19) (oi:=o19) rfl hs f19 r19 (fun _ _ _ h=>h) (hyl g) k1 ?_
    exact ⟨rr,NoPanic.normal (h g _ hg k1 (setRow_heap _ _ _ _ _ _ hz))⟩
  refine wpAnyH_ready (rs:=[13,17]) qs (by simp) (AllReadyH.cons (o:=o13) rfl (fun K hK=>?_) (AllReadyH.cons (o:=o17) rfl (fun K hK=>?_) AllReadyH.nil))
  · rw [if_pos (wc _)]
    refine kcA _ k00 K (fun w1 k1=>hK.out _ _ (k00.trans k1 (by simp)) (fun _=>?_))
    have k2:=k00.trans k1 (by simp)
    clear hK
    refine wpAnyH_take (i:=14) (oi:=o14) rfl hs fA14 rA14 (fun _ _ _ h=>h) hA14 k2 ?_
    refine wpAnyH_take (i:=15) (oi:=o15) rfl hs fA15 rA15 (fun _ _ _ h=>h) hA15 k2 ?_
    refine wpAnyH_take (i:=16) (oi:=o16) rfl hs fA16 rA16 (fun _ _ _ h=>h) hA16 k2 ?_
    refine wpAnyH_ready (rs:=[17]) rAal (by simp) (AllReadyH.cons (o:=o17) rfl (fun K hK=>?_) AllReadyH.nil)
    rw [if_pos (wal _)]
    refine hal _ _ K (hK.out _ _ (k2.alloc _) (fun _=>?_))
    exact tail w1.heap.size _ k2.size (k2.alloc _) (heap_alloc_new _ _)
  · rw [if_pos (wal _)]
    refine hal _ _ K (hK.out _ _ (k00.alloc _) (fun _=>?_))
    clear hK
    refine wpAnyH_ready (rs:=[13]) rBc (by simp) (AllReadyH.cons (o:=o13) rfl (fun K hK=>?_) AllReadyH.nil)
    rw [if_pos (wc _)]
    refine kcB _ _ (k00.alloc _) K (fun w1 k1=>hK.out _ _ ((k00.alloc _).trans k1 (by simp)) (fun _=>?_))
    have k2:=(k00.alloc (.cells Z ty)).trans k1 (by simp)
    have hz:=k1.heap (heap_alloc_new w.drew (.cells Z ty)) (by simp)
    clear hK
    refine wpAnyH_take (i:=14) (oi:=o14) rfl hs fB14 rB14 (fun _ _ _ h=>h) (hB14 _) k2 ?_
    refine wpAnyH_take (i:=15) (oi:=o15) rfl hs fB15 rB15 (fun _ _ _ h=>h) (hB15 _) k2 ?_
    refine wpAnyH_take (i:=16) (oi:=o16) rfl hs fB16 rB16 (fun _ _ _ h=>h) (hB16 _) k2 ?_
    rw [Act.put_comm _ _ _ ne13]; rw [Act.put_comm _ _ _ ne14]; rw [Act.put_comm _ _ _ ne15]; rw [Act.put_comm _ _ _ ne16]
    exact tail w.drew.heap.size _ (Nat.le_refl _) k2 hz
end
end
section
open Go.RowKit Go.BigFrame
theorem xa6j (e:Nat) (z:Int) (p:List Nat):Dg (sunD e z p):=⟨xa8e _ _ _,by
  unfold sunD sumD
  split
  · split
    · exact xa5x _ _ (xa3m _)
    · intro x hx; simp at hx; omega
  · intro x hx; simp at hx; omega⟩
theorem RdS.nil (w:World):RdS w (.slice none 0 0) []:=⟨none,0,0,[],rfl,rfl,Nat.le_refl _,by omega,fun i hi=>by omega,fun h=>by omega⟩
theorem RdS.less {w:World} {ao:Option Addr} {n c:Nat} {ss:List (Nat × List (List Nat))} (h:RdS w (.slice ao n c) ss) (m:Nat) (hm:m≤n):RdS w (.slice ao m c) (ss.take m):=by
  obtain ⟨_,_,_,vs,he,h1,h2,h3,h4,h5⟩:=h
  cases he
  refine ⟨_,m,c,vs,rfl,by simp [h1]; omega,by omega,h3,fun i hi=>?_,fun hp=>?_⟩
  · have:=h4 i (by omega)
    rw [List.getD_eq_getElem?_getD,List.getElem?_take_of_lt hi,← List.getD_eq_getElem?_getD]
    exact this
  · obtain ⟨b,off,e,hc⟩:=h5 (by omega)
    refine ⟨b,off,e,fun i hi=>?_⟩
    rw [List.getD_eq_getElem?_getD,List.getElem?_take_of_lt hi,← List.getD_eq_getElem?_getD]
    exact hc i (by omega)
theorem xa9r {o:Oper} {a:Act} {w:World} {K:Act→World→Prop} {Q:Exit→Act→World→Prop} (x0 x1 x2:Operand) (ts:Array TypeId) (ho:o.op = .call { callee:=.value (.func 115),args:=#[x0,x1,x2],argTypes:=ts }) (u0 u1 u2 v:Value) (e0:a.eval x0 = u0) (e1:a.eval x1 = u1) (e2:a.eval x2 = u2)
    (hc:Calls Tryz.prog 115 #[u0,u1,u2] w fun e w'=>e = .returned v∧Kept [] w w') (h:∀ w1,Kept [] w w1→K (a.put o.dst v) w1):o.wp Tryz.prog a w K Q:=by
  unfold Oper.wp execOp
  simp only [ho]
  have hf:a.eval (.func 115) = .func (.func 115) #[] #[]:=rfl
  have hcl:∀ args W,(callFunc 115 args).run Tryz.prog W = .ok (.enter 115 args) W:=fun args W=>Tryz.call115 args W
  simp only [resolve,invoke,hf,e0,e1,e2,Sem.run_bind,Sem.run_pure,Result.andThen_ok,List.map_toArray,List.map_cons,List.map_nil,hcl]
  simp [Deferred.ofValue,hcl,go_sem]
  refine hc.mono ?_
  rintro e w2 ⟨rfl,k2⟩
  exact h w2 k2
set_option maxHeartbeats 4000000 in
theorem xb7g (z:Int) (sv pv:Value) (ss:List (Nat × List (List Nat))) (ps:List (List Nat × List Nat)) (w:World) (hw:widthB z = true) (hs:RdS w sv ss) (hp:RdK w pv ps) (hT:Tabs w) (hpb:(pairB ps).length≤1000000000000) :
    Calls Tryz.prog 113 #[.int .i64 z,.agg #[sv,pv]] w fun e w'=>(∃ v',e = .returned (.tuple #[.agg (brow (footD z ss ps)),v'])∧RdS w' v' (ss.take (footN ss ps)))∧Kept [] w w':=by
  obtain ⟨sa,sn,sc,vs0,rfl,_⟩:=id hs
  obtain ⟨pa,pn,pc,_,_,rfl,_⟩:=id hp
  obtain ⟨h1,h2,h3,h4⟩:=hs.cells
  obtain ⟨g1,g2,g3,g4⟩:=hp.cells
  have H4:=hide h4
  have HP:=hide hp
  have HS:=hide hs
  have HT:=hide hT
  have hz:1≤z∧z≤32:=xa1u hw
  clear h4 g4 hp hs hT
  subst h1
  subst g1
  have HK0:=hide (((Kept.refl [] w).alloc (.cells #[.slice sa ss.length sc,.slice pa ps.length pc] 64)).alloc (.cells (zb 32) 58))
  have HG0:=hide (heap_alloc2_old w (.cells #[.slice sa ss.length sc,.slice pa ps.length pc] 64) (.cells (zb 32) 58))
  have HZ0:=hide (heap_alloc2_new w (.cells #[.slice sa ss.length sc,.slice pa ps.length pc] 64) (.cells (zb 32) 58))
  obtain ⟨W,hW⟩:∃ W,(w.alloc (.cells #[.slice sa ss.length sc,.slice pa ps.length pc] 64)).alloc (.cells (zb 32) 58) = W:=⟨_,rfl⟩
  rw [hW] at HK0 HG0 HZ0
  have c0:W.cell? ⟨w.heap.size,0,none⟩ = some (.slice sa ss.length sc):=cell_of_row W w.heap.size 0 _ _ _ (uh HG0)
  have c1:W.cell? ⟨w.heap.size,1,none⟩ = some (.slice pa ps.length pc):=cell_of_row W w.heap.size 1 _ _ _ (uh HG0)
  go_enter Tryz.func113,Tryz.ntmps113
  by_cases hp0:0 < ps.length
  · have hp0':(0:Int) < ps.length:=by omega
    have HD:=hide (by unfold footD; rw [if_pos hp0]:footD z ss ps = sumD z (buckB ps))
    have HN:=hide (by unfold footN; rw [if_pos hp0,List.take_length]:ss.take (footN ss ps) = ss)
    clear hp0
    go_wp2_with (first | (rw [zb32,hW]))
    clear hW
    refine Calls.mono (xa7c z _ ps _ (by omega) ((uh HP).old (uh HK0)) hpb ((uh HT).k (uh HK0))) ?_
    rintro e w1 ⟨rfl,k1⟩
    have HDG:=hide (xa1v z (buckB ps))
    generalize sumD z (buckB ps) = D at HD HDG ⊢
    have hd:=(uh HDG).1
    have kN:=(k1.alloc (.cells (zb 32) 58)).setRow (g:=w1.heap.size) (Or.inr k1.size) (brow D)
    have HN1:=hide (setRow_heap (w1.alloc (.cells (zb 32) 58)) w1.heap.size (zb 32) (brow D) 58 (0,0) (heap_alloc_new _ _))
    have HK1:=hide ((uh HK0).trans kN (by simp))
    have HZ1:=hide (kN.heap (uh HZ0) (by simp))
    have d0:=kN.cell c0 (by simp)
    have HSZ:=hide (Tryz.szD hd)
    have HLT:=hide (Nat.lt_of_lt_of_le (lt_of_block (uh HZ0)) k1.size:w.heap.size + 1 < w1.heap.size)
    clear kN k1 c0 c1 HK0 HZ0 HG0
    go_wp2_with (first
      | (rw [zb32]; refine wpList_store_row rfl 58 _ _ rfl w1.heap.size (brow D) rfl rfl _ (zb 32) (heap_alloc_new _ _) (uh HSZ) (by rw [xa0d,xa0a,hd]) (xa0b _) ?_)
      | (refine wpList_load_row rfl 58 _ rfl w1.heap.size rfl _ (brow D) (0,0) _ (uh HN1) Tryz.underlying58 rfl (uh HSZ) ?_)
      | (refine wpList_store_row rfl 58 _ _ rfl (w.heap.size + 1) (brow D) rfl rfl _ (zb 32) (uh HZ1) (uh HSZ) (by rw [xa0d,xa0a,hd]) (xa0b _) ?_))
    obtain ⟨X,hX⟩:∃ X,(w1.alloc (.cells (zb 32) 58)).setRow w1.heap.size (brow D) = X:=⟨_,rfl⟩
    rw [hX] at HN1 HK1 HZ1 d0 ⊢
    clear hX
    refine wp_rs5 (fun w'=>Kept [w.heap.size + 1] X w') (by kernel_rfl) (by kernel_rfl) (by kernel_rfl) (by kernel_rfl) (by kernel_rfl) (by kernel_rfl) (by kernel_rfl) (by kernel_rfl) (by kernel_rfl) (by kernel_rfl) (by kernel_rfl) (by kernel_rfl) rfl ((Kept.refl _ X).drew)
      (.agg (D.map u8).toArray) (.pointer (some ⟨w.heap.size,0,none⟩)) (.slice sa ss.length sc) (.slice sa ss.length sc) _ _ _ _ (by simp only [Act.put,sa1,sa2,sa3]; rfl) (by simp only [Act.put,sa1,sa2,sa3]; rfl) (by simp only [Act.put,sa1,sa2,sa3]; rfl) (by simp only [Act.put,sa1,sa2,sa3]; rfl)
      (by exact yieldsIf_load_mid (by rfl) _ _ rfl w1.heap.size 0 rfl (D.map u8) _ (fun W' hW'=>xa0o (hW'.heap (uh HN1) (by simp; have:=uh HLT; omega))) Tryz.underlying58 rfl (by rw [List.length_map,hd]; exact Tryz.size_dig))
      (by exact Or.inl ⟨by rfl,fun W' hW'=>by go_simp⟩)
      (by exact Or.inl ⟨by rfl,fun W' hW'=>by have h9:=hW'.cell d0 (by simp); go_simp⟩)
      (by exact Or.inl ⟨by rfl,fun W' hW'=>by go_simp⟩)
      (X.drew.setRow (w.heap.size + 1) (brow D))
      (by intro K hK; exact wp_store_row 58 _ _ rfl (w.heap.size + 1) (brow D) rfl rfl _ (zb 32) (uh HZ1) (uh HSZ) (by rw [xa0d,xa0a,hd]) (xa0b _) hK)
      ((Kept.refl _ X).drew.setRow (Or.inl (by simp)) _) ?_
    have HKF:=hide ((uh HK1).drew.setRow (g:=w.heap.size + 1) (Or.inr (by omega)) (brow D))
    have HZF:=hide (setRow_heap X.drew (w.heap.size + 1) (zb 32) (brow D) 58 (0,0) (uh HZ1))
    go_wp2_with fail
    rw [uh HD,uh HN]
    refine bodyPost_ret (v:=.tuple #[.agg (brow D),.slice sa ss.length sc]) ?_ rfl ⟨⟨_,rfl,(uh HS).old (uh HKF)⟩,uh HKF⟩
    exact xa0c rfl _ _ (w.heap.size + 1) _ (brow D) (0,0) _ rfl (uh HZF) Tryz.underlying58 rfl (uh HSZ) _ rfl
  · have hp0':¬ (0:Int) < ps.length:=by omega
    by_cases hs0:ss.length = 0
    · have hs0':(ss.length:Int) = 0:=by omega
      have HD:=hide (by unfold footD; rw [if_neg hp0,if_pos hs0]:footD z ss ps = sumD z [5])
      have h9:ss = []:=List.eq_nil_of_length_eq_zero hs0
      have HN:=hide (by rw [h9]; simp:ss.take (footN ss ps) = [])
      clear h9
      clear hp0 hs0
      go_wp2_with (first | (rw [zb32,hW]))
      clear hW
      refine Calls.mono (xb4v z _ (by omega) ((uh HT).k (uh HK0))) ?_
      rintro e w1 ⟨rfl,k1⟩
      have HDG:=hide (xa1v z [5])
      generalize sumD z [5] = D at HD HDG ⊢
      have hd:=(uh HDG).1
      have kN:=(k1.alloc (.cells (zb 32) 58)).setRow (g:=w1.heap.size) (Or.inr k1.size) (brow D)
      have HN1:=hide (setRow_heap (w1.alloc (.cells (zb 32) 58)) w1.heap.size (zb 32) (brow D) 58 (0,0) (heap_alloc_new _ _))
      have HK1:=hide ((uh HK0).trans kN (by simp))
      have HZ1:=hide (kN.heap (uh HZ0) (by simp))
      have d0:=kN.cell c0 (by simp)
      have HSZ:=hide (Tryz.szD hd)
      have HLT:=hide (Nat.lt_of_lt_of_le (lt_of_block (uh HZ0)) k1.size:w.heap.size + 1 < w1.heap.size)
      clear kN k1 c0 c1 HK0 HZ0 HG0
      go_wp2_with (first
        | (rw [zb32]; refine wpList_store_row rfl 58 _ _ rfl w1.heap.size (brow D) rfl rfl _ (zb 32) (heap_alloc_new _ _) (uh HSZ) (by rw [xa0d,xa0a,hd]) (xa0b _) ?_)
        | (refine wpList_load_row rfl 58 _ rfl w1.heap.size rfl _ (brow D) (0,0) _ (uh HN1) Tryz.underlying58 rfl (uh HSZ) ?_)
        | (refine wpList_store_row rfl 58 _ _ rfl (w.heap.size + 1) (brow D) rfl rfl _ (zb 32) (uh HZ1) (uh HSZ) (by rw [xa0d,xa0a,hd]) (xa0b _) ?_))
      have HKF:=hide ((uh HK1).setRow (g:=w.heap.size + 1) (Or.inr (by omega)) (brow D))
      have HZF:=hide (setRow_heap ((w1.alloc (.cells (zb 32) 58)).setRow w1.heap.size (brow D)) (w.heap.size + 1) (zb 32) (brow D) 58 (0,0) (uh HZ1))
      rw [uh HD,uh HN]
      refine bodyPost_ret (v:=.tuple #[.agg (brow D),.slice none 0 0]) ?_ rfl ⟨⟨_,rfl,RdS.nil _⟩,uh HKF⟩
      exact xa0c rfl _ _ (w.heap.size + 1) _ (brow D) (0,0) _ rfl (uh HZF) Tryz.underlying58 rfl (uh HSZ) _ rfl
    · have hs0':¬ (ss.length:Int) = 0:=by omega
      have HD:=hide (by unfold footD; rw [if_neg hp0,if_neg hs0]; rfl:footD z ss ps = sunD (branchE z (ss.getD (ss.length - 1) (0,[])).1 (ss.getD (ss.length - 1) (0,[])).2) z (branchB z (ss.getD (ss.length - 1) (0,[])).1 (ss.getD (ss.length - 1) (0,[])).2))
      have HN:=hide (by unfold footN; rw [if_neg hp0]:ss.take (footN ss ps) = ss.take (ss.length - 1))
      obtain ⟨L,hL⟩:∃ L,ss.length - 1 = L:=⟨_,rfl⟩
      have hsub:(ss.length:Int) - 1 = (L:Int):=by omega
      have hLlt:L < ss.length:=by omega
      have hLl:(L:Int) < ss.length:=by omega
      obtain ⟨b,o,v,rfl,e1,e2,hsb,r2⟩:=uh H4 L hLlt
      rw [hL] at HD HN
      have q1:=(uh HK0).cell e1 (by simp)
      have q2:=(uh HK0).cell e2 (by simp)
      have HX:=hide (r2.old (uh HK0))
      clear e1 e2 r2 hL hp0 hs0
      generalize ss.getD L (0,[]) = s at q1 hsb HD HX
      obtain ⟨sb,sk⟩:=s
      simp only at q1 hsb HD HX
      obtain ⟨a8,m8,c8,rfl,hm8,_⟩:=id (uh HX)
      subst hm8
      have hLc:(L:Int)≤sc:=by omega
      have hL0:(0:Int)≤L:=by omega
      go_wp2_with (first | (rw [zb32,hW]))
      clear hW
      have HCT:=hide (fun w0 (hw0:Kept [] W w0)=>xa4f z sb (.slice a8 sk.length c8) sk w0 (by omega) hsb ((uh HX).old hw0) ((uh HT).k ((uh HK0).trans hw0 (by simp))))
      have HDG:=hide (xa6j (branchE z sb sk) z (branchB z sb sk))
      generalize sunD (branchE z sb sk) z (branchB z sb sk) = D at HD HDG HCT
      generalize sunE (branchE z sb sk) z = E at HCT
      have hd:=(uh HDG).1
      have HSZ:=hide (Tryz.szD hd)
      refine xb4k (by kernel_rfl) (by kernel_rfl) (by kernel_rfl) (by kernel_rfl) (by kernel_rfl) (by kernel_rfl) (by kernel_rfl) (by kernel_rfl) (by kernel_rfl) (by kernel_rfl) (by kernel_rfl) (by kernel_rfl) (by kernel_rfl) (by kernel_rfl) (by kernel_rfl) (by kernel_rfl) (by kernel_rfl) (by kernel_rfl) (by kernel_rfl) (by kernel_rfl) (by kernel_rfl) (by kernel_rfl) (by kernel_rfl) (by kernel_rfl) (by kernel_rfl) (by kernel_rfl) (by kernel_rfl) (by kernel_rfl) (by kernel_rfl) (by kernel_rfl) (by kernel_rfl) (by kernel_rfl) (by kernel_rfl) (by kernel_rfl) (by kernel_rfl) (by kernel_rfl) (by kernel_rfl) (by kernel_rfl) (by kernel_rfl) (by kernel_rfl) (by kernel_rfl) (by kernel_rfl) (by kernel_rfl) (by kernel_rfl) (by kernel_rfl) (by kernel_rfl) (by kernel_rfl) rfl rfl rfl
        (.int .i64 z) (.pointer (some ⟨w.heap.size,0,none⟩)) (.slice (some ⟨b,o,none⟩) ss.length sc) (.int .i64 L) (.pointer (some ⟨b,o + L * 2,none⟩)) (.pointer (some ⟨b,o + L * 2,none⟩)) (.int .u16 sb) (.pointer (some ⟨w.heap.size,0,none⟩)) (.slice (some ⟨b,o,none⟩) ss.length sc) (.int .i64 L) (.pointer (some ⟨b,o + L * 2,none⟩)) (.pointer (some ⟨b,o + L * 2 + 1,none⟩)) (.slice a8 sk.length c8) (.tuple #[.agg (brow D),.int .i64 (E:Int)]) (.tuple #[.agg (brow D),.int .i64 (E:Int)]) (.agg (brow D)) (.int .i64 (E:Int)) (.int .i64 (E:Int)) _ _ _ _ _ _ _ _ _ _ _ _ _ (by simp only [Act.put,sa1,sa2,sa3]; rfl) (by simp only [Act.put,sa1,sa2,sa3]; rfl) (by simp only [Act.put,sa1,sa2,sa3]; rfl) (by simp only [Act.put,sa1,sa2,sa3]; rfl) (by simp only [Act.put,sa1,sa2,sa3]; rfl) (by simp only [Act.put,sa1,sa2,sa3]; rfl) (by simp only [Act.put,sa1,sa2,sa3]; rfl) (by simp only [Act.put,sa1,sa2,sa3]; rfl) (by simp only [Act.put,sa1,sa2,sa3]; rfl) (by simp only [Act.put,sa1,sa2,sa3]; rfl) (by simp only [Act.put,sa1,sa2,sa3]; rfl) (by simp only [Act.put,sa1,sa2,sa3]; rfl) (by simp only [Act.put,sa1,sa2,sa3]; rfl)
        (by exact Or.inl ⟨by rfl,fun W' hW'=>by go_simp⟩)
        (by exact Or.inl ⟨by rfl,fun W' hW'=>by go_simp⟩)
        (by exact Or.inl ⟨by rfl,fun W' hW'=>by have h9:=hW'.cell c0 (by simp); go_simp⟩)
        (by exact Or.inl ⟨by rfl,fun W' hW'=>by go_simp⟩)
        (by exact Or.inl ⟨by rfl,fun W' hW'=>by go_simp⟩)
        (by exact Or.inl ⟨by rfl,fun W' hW'=>by go_simp⟩)
        (by exact Or.inl ⟨by rfl,fun W' hW'=>by have h9:=hW'.cell q1 (by simp); go_simp⟩)
        (by exact Or.inl ⟨by rfl,fun W' hW'=>by go_simp⟩)
        (by exact Or.inl ⟨by rfl,fun W' hW'=>by have h9:=hW'.cell c0 (by simp); go_simp⟩)
        (by exact Or.inl ⟨by rfl,fun W' hW'=>by go_simp⟩)
        (by exact Or.inl ⟨by rfl,fun W' hW'=>by go_simp⟩)
        (by exact Or.inl ⟨by rfl,fun W' hW'=>by go_simp⟩)
        (by exact Or.inl ⟨by rfl,fun W' hW'=>by have h9:=hW'.cell q2 (by simp); go_simp⟩)
        (by intro w0 k0 K hK; exact xa9r _ _ _ _ rfl _ _ _ _ rfl rfl rfl (uh HCT w0 k0) hK)
        (by intro g w0 k0 K hK; exact xa9r _ _ _ _ rfl _ _ _ _ rfl rfl rfl (uh HCT w0 k0) hK)
        (by exact Or.inl ⟨by rfl,fun W' hW'=>by go_simp⟩) (by intro g; exact Or.inl ⟨by rfl,fun W' hW'=>by go_simp⟩) (by exact Or.inl ⟨by rfl,fun W' hW'=>by go_simp⟩) (by intro g; exact Or.inl ⟨by rfl,fun W' hW'=>by go_simp⟩) (by exact Or.inl ⟨by rfl,fun W' hW'=>by go_simp⟩) (by intro g; exact Or.inl ⟨by rfl,fun W' hW'=>by go_simp⟩)
        58 (zb 32) (brow D) (by intro a' w' K h; unfold Oper.wp execOp; go_simp; exact h)
        (by intro d h; cases h; simp) (by intro d h; cases h; simp) (by intro d h; cases h; simp) (by intro d h; cases h; simp)
        (by intro g w' K hh hK; simp only [Act.put,sa1,sa2,sa3] at hK ⊢; exact wp_store_row 58 (.tmp 11) (.tmp 56) rfl g (brow D) rfl rfl 58 (zb 32) hh (uh HSZ) (by rw [xa0d,xa0a,hd]) (xa0b _) hK)
        (by intro g; exact Or.inl ⟨by rfl,fun W' hW'=>by go_simp⟩) ?_
      intro g X hg kX hX
      simp only [Act.put,sa1,sa2,sa3]
      have HK1:=hide ((uh HK0).trans kX (by simp))
      have HN1:=hide hX
      have HZ1:=hide (kX.heap (uh HZ0) (by simp))
      have d0:=kX.cell c0 (by simp)
      have HLT:=hide (Nat.lt_of_lt_of_le (lt_of_block (uh HZ0)) hg:w.heap.size + 1 < g)
      clear kX hX hg c0 c1 HK0 HZ0 HG0 q1 q2
      go_wp2_with fail
      refine wp_rs7 (fun w'=>Kept [w.heap.size + 1] X w') (by kernel_rfl) (by kernel_rfl) (by kernel_rfl) (by kernel_rfl) (by kernel_rfl) (by kernel_rfl) (by kernel_rfl) (by kernel_rfl) (by kernel_rfl) (by kernel_rfl) (by kernel_rfl) (by kernel_rfl) (by kernel_rfl) (by kernel_rfl) (by kernel_rfl) (by kernel_rfl) rfl ((Kept.refl _ X).drew)
        (.agg (D.map u8).toArray) (.pointer (some ⟨w.heap.size,0,none⟩)) (.slice (some ⟨b,o,none⟩) ss.length sc) (.int .i64 L) (.slice (some ⟨b,o,none⟩) L sc) (.slice (some ⟨b,o,none⟩) L sc) _ _ _ _ _ _ (by simp only [Act.put,sa1,sa2,sa3]; rfl) (by simp only [Act.put,sa1,sa2,sa3]; rfl) (by simp only [Act.put,sa1,sa2,sa3]; rfl) (by simp only [Act.put,sa1,sa2,sa3]; rfl) (by simp only [Act.put,sa1,sa2,sa3]; rfl) (by simp only [Act.put,sa1,sa2,sa3]; rfl)
        (by exact yieldsIf_load_mid (by rfl) _ _ rfl g 0 rfl (D.map u8) _ (fun W' hW'=>xa0o (hW'.heap (uh HN1) (by simp; have:=uh HLT; omega))) Tryz.underlying58 rfl (by rw [List.length_map,hd]; exact Tryz.size_dig))
        (by exact Or.inl ⟨by rfl,fun W' hW'=>by go_simp⟩)
        (by exact Or.inl ⟨by rfl,fun W' hW'=>by have h9:=hW'.cell d0 (by simp); go_simp⟩)
        (by exact Or.inl ⟨by rfl,fun W' hW'=>by go_simp⟩)
        (by exact Or.inl ⟨by rfl,fun W' hW'=>by go_simp⟩)
        (by exact Or.inl ⟨by rfl,fun W' hW'=>by go_simp⟩)
        (X.drew.setRow (w.heap.size + 1) (brow D))
        (by intro K hK; exact wp_store_row 58 _ _ rfl (w.heap.size + 1) (brow D) rfl rfl _ (zb 32) (uh HZ1) (uh HSZ) (by rw [xa0d,xa0a,hd]) (xa0b _) hK)
        ((Kept.refl _ X).drew.setRow (Or.inl (by simp)) _) ?_
      have HKF:=hide ((uh HK1).drew.setRow (g:=w.heap.size + 1) (Or.inr (by omega)) (brow D))
      have HZF:=hide (setRow_heap X.drew (w.heap.size + 1) (zb 32) (brow D) 58 (0,0) (uh HZ1))
      go_wp2_with fail
      rw [uh HD,uh HN]
      refine bodyPost_ret (v:=.tuple #[.agg (brow D),.slice (some ⟨b,o,none⟩) L sc]) ?_ rfl ⟨⟨_,rfl,((uh HS).less L (by omega)).old (uh HKF)⟩,uh HKF⟩
      exact xa0c rfl _ _ (w.heap.size + 1) _ (brow D) (0,0) _ rfl (uh HZF) Tryz.underlying58 rfl (uh HSZ) _ rfl
end
section
open Go Go.RowKit Go.BigFrame
section
variable {P:Program} {Q:Exit→Act→World→Prop}
theorem xb7u {id:Nat} {o0 o1 o2 o3 o4 o5 o6 o7 o8 o9 o10 o11 o12:Oper} {a:Act} {w:World} (hm:P.follows .mixedOrders = true) (hs:Region.noSelect #[o0,o1,o2,o3,o4,o5,o6,o7,o8,o9,o10,o11,o12] = true)
    (f0:Region.free .any #[o0,o1,o2,o3,o4,o5,o6,o7,o8,o9,o10,o11,o12] #[false,false,false,false,false,false,false,false,false,false,false,false,false] 0 = true) (r0:(Region.ready .any #[o0,o1,o2,o3,o4,o5,o6,o7,o8,o9,o10,o11,o12] #[false,false,false,false,false,false,false,false,false,false,false,false,false]).contains 0 = true)
    (f1:Region.free .any #[o0,o1,o2,o3,o4,o5,o6,o7,o8,o9,o10,o11,o12] #[true,false,false,false,false,false,false,false,false,false,false,false,false] 1 = true) (r1:(Region.ready .any #[o0,o1,o2,o3,o4,o5,o6,o7,o8,o9,o10,o11,o12] #[true,false,false,false,false,false,false,false,false,false,false,false,false]).contains 1 = true)
    (f2:Region.free .any #[o0,o1,o2,o3,o4,o5,o6,o7,o8,o9,o10,o11,o12] #[true,true,false,false,false,false,false,false,false,false,false,false,false] 2 = true) (r2:(Region.ready .any #[o0,o1,o2,o3,o4,o5,o6,o7,o8,o9,o10,o11,o12] #[true,true,false,false,false,false,false,false,false,false,false,false,false]).contains 2 = true)
    (f3:Region.free .any #[o0,o1,o2,o3,o4,o5,o6,o7,o8,o9,o10,o11,o12] #[true,true,true,false,false,false,false,false,false,false,false,false,false] 3 = true) (r3:(Region.ready .any #[o0,o1,o2,o3,o4,o5,o6,o7,o8,o9,o10,o11,o12] #[true,true,true,false,false,false,false,false,false,false,false,false,false]).contains 3 = true)
    (f4:Region.free .any #[o0,o1,o2,o3,o4,o5,o6,o7,o8,o9,o10,o11,o12] #[true,true,true,true,false,false,false,false,false,false,false,false,false] 4 = true) (r4:(Region.ready .any #[o0,o1,o2,o3,o4,o5,o6,o7,o8,o9,o10,o11,o12] #[true,true,true,true,false,false,false,false,false,false,false,false,false]).contains 4 = true)
    (f6:Region.free .any #[o0,o1,o2,o3,o4,o5,o6,o7,o8,o9,o10,o11,o12] #[true,true,true,true,true,false,false,false,false,false,false,false,false] 6 = true) (r6:(Region.ready .any #[o0,o1,o2,o3,o4,o5,o6,o7,o8,o9,o10,o11,o12] #[true,true,true,true,true,false,false,false,false,false,false,false,false]).contains 6 = true)
    (f7:Region.free .any #[o0,o1,o2,o3,o4,o5,o6,o7,o8,o9,o10,o11,o12] #[true,true,true,true,true,false,true,false,false,false,false,false,false] 7 = true) (r7:(Region.ready .any #[o0,o1,o2,o3,o4,o5,o6,o7,o8,o9,o10,o11,o12] #[true,true,true,true,true,false,true,false,false,false,false,false,false]).contains 7 = true)
    (f8:Region.free .any #[o0,o1,o2,o3,o4,o5,o6,o7,o8,o9,o10,o11,o12] #[true,true,true,true,true,false,true,true,false,false,false,false,false] 8 = true) (r8:(Region.ready .any #[o0,o1,o2,o3,o4,o5,o6,o7,o8,o9,o10,o11,o12] #[true,true,true,true,true,false,true,true,false,false,false,false,false]).contains 8 = true)
    (f9:Region.free .any #[o0,o1,o2,o3,o4,o5,o6,o7,o8,o9,o10,o11,o12] #[true,true,true,true,true,false,true,true,true,false,false,false,false] 9 = true) (r9:(Region.ready .any #[o0,o1,o2,o3,o4,o5,o6,o7,o8,o9,o10,o11,o12] #[true,true,true,true,true,false,true,true,true,false,false,false,false]).contains 9 = true)
    (r5:Region.ready .any #[o0,o1,o2,o3,o4,o5,o6,o7,o8,o9,o10,o11,o12] #[true,true,true,true,true,false,true,true,true,true,false,false,false] = [5])
    (r10:Region.ready .any #[o0,o1,o2,o3,o4,o5,o6,o7,o8,o9,o10,o11,o12] #[true,true,true,true,true,true,true,true,true,true,false,false,false] = [10])
    (r11:Region.ready .any #[o0,o1,o2,o3,o4,o5,o6,o7,o8,o9,o10,o11,o12] #[true,true,true,true,true,true,true,true,true,true,true,false,false] = [11])
    (f12:Region.free .any #[o0,o1,o2,o3,o4,o5,o6,o7,o8,o9,o10,o11,o12] #[true,true,true,true,true,true,true,true,true,true,true,true,false] 12 = true) (r12:(Region.ready .any #[o0,o1,o2,o3,o4,o5,o6,o7,o8,o9,o10,o11,o12] #[true,true,true,true,true,true,true,true,true,true,true,true,false]).contains 12 = true)
    (rr:Region.ready .any #[o0,o1,o2,o3,o4,o5,o6,o7,o8,o9,o10,o11,o12] #[true,true,true,true,true,true,true,true,true,true,true,true,true] = []) (g5:o5.guard = none) (g10:o10.guard = none) (g11:o11.guard = none)
    (v0 v1 v2 v3 v4 v6 v7 v8 v9:Value) (A0 A1 A2 A3 A4 A6 A7 A8 A9:Act)
    (p0:a.put o0.dst v0 = A0) (p1:A0.put o1.dst v1 = A1) (p2:A1.put o2.dst v2 = A2) (p3:A2.put o3.dst v3 = A3) (p4:A3.put o4.dst v4 = A4) (p6:A4.put o6.dst v6 = A6) (p7:A6.put o7.dst v7 = A7) (p8:A7.put o8.dst v8 = A8) (p9:A8.put o9.dst v9 = A9) 
    (hy0:YieldsIf P #[o0,o1,o2,o3,o4,o5,o6,o7,o8,o9,o10,o11,o12] (fun w'=>Kept [] w w') o0 v0 a)
    (hy1:YieldsIf P #[o0,o1,o2,o3,o4,o5,o6,o7,o8,o9,o10,o11,o12] (fun w'=>Kept [] w w') o1 v1 A0)
    (hy2:YieldsIf P #[o0,o1,o2,o3,o4,o5,o6,o7,o8,o9,o10,o11,o12] (fun w'=>Kept [] w w') o2 v2 A1)
    (hy3:YieldsIf P #[o0,o1,o2,o3,o4,o5,o6,o7,o8,o9,o10,o11,o12] (fun w'=>Kept [] w w') o3 v3 A2)
    (hy4:YieldsIf P #[o0,o1,o2,o3,o4,o5,o6,o7,o8,o9,o10,o11,o12] (fun w'=>Kept [] w w') o4 v4 A3)
    (hy6:YieldsIf P #[o0,o1,o2,o3,o4,o5,o6,o7,o8,o9,o10,o11,o12] (fun w'=>Kept [] w w') o6 v6 A4)
    (hy7:YieldsIf P #[o0,o1,o2,o3,o4,o5,o6,o7,o8,o9,o10,o11,o12] (fun w'=>Kept [] w w') o7 v7 A6)
    (hy8:YieldsIf P #[o0,o1,o2,o3,o4,o5,o6,o7,o8,o9,o10,o11,o12] (fun w'=>Kept [] w w') o8 v8 A7)
    (hy9:YieldsIf P #[o0,o1,o2,o3,o4,o5,o6,o7,o8,o9,o10,o11,o12] (fun w'=>Kept [] w w') o9 v9 A8)
    (hF:o5.wp P A9 w.drew (fun a1 w1=>Kept [] w w1∧o10.wp P a1 w1 (fun a2 w2=>Kept [] w w2∧o11.wp P a2 w2 (fun a3 w3=>Kept [] w w3∧∃ v,YieldsIf P #[o0,o1,o2,o3,o4,o5,o6,o7,o8,o9,o10,o11,o12] (fun w'=>Kept [] w w') o12 v a3∧Q .normal (a3.put o12.dst v) w3) (NoPanic Q)) (NoPanic Q)) (NoPanic Q)) :
    (Code.region id #[o0,o1,o2,o3,o4,o5,o6,o7,o8,o9,o10,o11,o12] true).wp P Q a w:=by
  subst p0 p1 p2 p3 p4 p6 p7 p8 p9
  have k00:Kept [] w w.drew:=(Kept.refl [] w).drew
  refine wp_region_noPanic ?_
  refine wp_region_held_drew (S:=fun w'=>Kept [] w w') hm k00 (fun hH=>?_)
  show wpAnyH P .any #[o0,o1,o2,o3,o4,o5,o6,o7,o8,o9,o10,o11,o12] (NoPanic Q) _ 13 #[false,false,false,false,false,false,false,false,false,false,false,false,false] a w.drew
  refine wpAnyH_take (i:=0) (oi:=o0) rfl hs f0 r0 (fun _ _ _ h=>h) hy0 k00 ?_
  refine wpAnyH_take (i:=1) (oi:=o1) rfl hs f1 r1 (fun _ _ _ h=>h) hy1 k00 ?_
  refine wpAnyH_take (i:=2) (oi:=o2) rfl hs f2 r2 (fun _ _ _ h=>h) hy2 k00 ?_
  refine wpAnyH_take (i:=3) (oi:=o3) rfl hs f3 r3 (fun _ _ _ h=>h) hy3 k00 ?_
  refine wpAnyH_take (i:=4) (oi:=o4) rfl hs f4 r4 (fun _ _ _ h=>h) hy4 k00 ?_
  refine wpAnyH_take (i:=6) (oi:=o6) rfl hs f6 r6 (fun _ _ _ h=>h) hy6 k00 ?_
  refine wpAnyH_take (i:=7) (oi:=o7) rfl hs f7 r7 (fun _ _ _ h=>h) hy7 k00 ?_
  refine wpAnyH_take (i:=8) (oi:=o8) rfl hs f8 r8 (fun _ _ _ h=>h) hy8 k00 ?_
  refine wpAnyH_take (i:=9) (oi:=o9) rfl hs f9 r9 (fun _ _ _ h=>h) hy9 k00 ?_
  refine wpAnyH_ready (rs:=[5]) r5 (by simp) (AllReadyH.cons (o:=o5) rfl (fun K hK=>?_) AllReadyH.nil)
  have q5:∀ y,Region.wanted o5 y = true:=fun y=>by unfold Region.wanted; rw [g5]
  rw [if_pos (q5 _)]
  refine Oper.wp_mono (fun a1 w1 h1=>hK.out _ _ h1.1 (fun _=>?_)) hF
  clear hK
  refine wpAnyH_ready (rs:=[10]) r10 (by simp) (AllReadyH.cons (o:=o10) rfl (fun K hK=>?_) AllReadyH.nil)
  have q10:∀ y,Region.wanted o10 y = true:=fun y=>by unfold Region.wanted; rw [g10]
  rw [if_pos (q10 _)]
  refine Oper.wp_mono (fun a2 w2 h2=>hK.out _ _ h2.1 (fun _=>?_)) h1.2
  clear hK
  refine wpAnyH_ready (rs:=[11]) r11 (by simp) (AllReadyH.cons (o:=o11) rfl (fun K hK=>?_) AllReadyH.nil)
  have q11:∀ y,Region.wanted o11 y = true:=fun y=>by unfold Region.wanted; rw [g11]
  rw [if_pos (q11 _)]
  refine Oper.wp_mono (fun a3 w3 h3=>hK.out _ _ h3.1 (fun _=>?_)) h2.2
  clear hK
  obtain ⟨v,hv,hQ⟩:=h3.2
  refine wpAnyH_take (i:=12) (oi:=o12) rfl hs f12 r12 (fun _ _ _ h=>h) hv h3.1 ?_
  exact ⟨rr,NoPanic.normal hQ⟩
end
end
section
open Go.RowKit Go.BigFrame
theorem RdD.upto {w:World} {ao:Option Addr} {n c:Nat} {ds:List (List Nat)} (h:RdD w (.slice ao n c) ds) (m:Nat) (hm:m≤n):RdD w (.slice ao m c) (ds.take m):=by
  obtain ⟨_,_,_,e,h1,h2,h3,h4,h5⟩:=h
  cases e
  refine ⟨_,m,c,rfl,by simp [h1]; omega,by omega,h3,fun d hd=>h4 d (List.mem_of_mem_take hd),fun hp=>?_⟩
  obtain ⟨b,off,e,hc⟩:=h5 (by omega)
  refine ⟨b,off,e,fun i hi=>?_⟩
  rw [List.getD_eq_getElem?_getD,List.getElem?_take_of_lt hi,← List.getD_eq_getElem?_getD]
  exact hc i (by omega)
theorem RdD.from' {w:World} {b off n c m c' off':Nat} {ds:List (List Nat)} (h:RdD w (.slice (some ⟨b,off,none⟩) n c) ds) (hm:m≤n) (hc':n - m≤c'∧c'≤9223372036854775807) (ho:m < n→off' = off + m * 32):RdD w (.slice (some ⟨b,off',none⟩) (n - m) c') (ds.drop m):=by
  obtain ⟨_,_,_,e,h1,h2,h3,h4,h5⟩:=h
  cases e
  refine ⟨_,n - m,c',rfl,by simp [h1],hc'.1,hc'.2,fun d hd=>h4 d (List.mem_of_mem_drop hd),fun hp=>?_⟩
  obtain ⟨b',o',e,hc⟩:=h5 (by omega)
  cases e
  have ho2:=ho (by omega)
  subst ho2
  refine ⟨_,_,rfl,fun i hi=>?_⟩
  have h9:=hc (m + i) (by omega)
  rw [show off + (m + i) * 32 = off + m * 32 + i * 32 by omega] at h9
  rw [List.getD_eq_getElem?_getD,List.getElem?_drop,← List.getD_eq_getElem?_getD]
  exact h9
theorem RdM.three {w:World} {g:Nat} {v1 v2 v3:Value} {l1 l2 l3:List (List Nat)} {t:TypeId} (h:w.heap[g]? = some (.cells #[v1,v2,v3] t (0,0))) (r1:RdD w v1 l1) (r2:RdD w v2 l2) (r3:RdD w v3 l3):RdM w (.slice (some ⟨g,0,none⟩) 3 3) [l1,l2,l3]:=by
  refine ⟨_,3,3,[v1,v2,v3],rfl,rfl,Nat.le_refl _,by omega,fun i hi=>?_,fun _=>⟨g,0,rfl,fun i hi=>?_⟩⟩
  · match i,hi with
    | 0,_=>exact r1
    | 1,_=>exact r2
    | 2,_=>exact r3
  · rw [cell_of_row _ g _ _ _ _ h]
    match i,hi with
    | 0,_=>rfl
    | 1,_=>rfl
    | 2,_=>rfl
set_option maxHeartbeats 4000000 in
theorem xb5m (z:Int) (ks:List Nat) (sv pv:Value) (ss:List (Nat × List (List Nat))) (ps:List (List Nat × List Nat)) (w:World) (hw:widthB z = true) (hks:Dg ks) (hs:RdS w sv ss) (hp:RdK w pv ps) (hT:Tabs w) (hpb:(pairB ps).length≤1000000000000)
    (hkl:∀ s∈ss,s.2.length≤1000000000) (hfit:∀ i,i < footN ss ps→rankB (ss.getD i (0,[])).1 (atC z ks i:Nat)≤(ss.getD i (0,[])).2.length) :
    Calls Tryz.prog 72 #[.int .i64 z,.agg (brow ks),.agg #[sv,pv]] w fun e w'=>e = .returned (.agg (brow (cliD z ks ss (footN ss ps) (footD z ss ps))))∧Kept [] w w':=by
  obtain ⟨sa,sn,sc,vs0,rfl,_⟩:=id hs
  obtain ⟨pa,pn,pc,_,_,rfl,_⟩:=id hp
  have HP:=hide hp
  have HS:=hide hs
  have HT:=hide hT
  have HKS:=hide hks
  have HFT:=hide hfit
  have HKL:=hide hkl
  have hk32:=hks.1
  have HSK:=hide (Tryz.szD hk32)
  have hz:1≤z∧z≤32:=xa1u hw
  clear hp hs hT hks hfit hkl
  have HK0:=hide ((((Kept.refl [] w).alloc (.cells (brow ks) 58)).alloc (.cells #[.slice sa sn sc,.slice pa pn pc] 64)).alloc (.cells (zb 32) 58))
  have HG0:=hide (((Kept.refl [] ((w.alloc (.cells (brow ks) 58)).alloc (.cells #[.slice sa sn sc,.slice pa pn pc] 64))).alloc (.cells (zb 32) 58)).heap (heap_alloc2_old w (.cells (brow ks) 58) (.cells #[.slice sa sn sc,.slice pa pn pc] 64)) (by simp))
  have HZ0:=hide (xa5s w (.cells (brow ks) 58) (.cells #[.slice sa sn sc,.slice pa pn pc] 64) (.cells (zb 32) 58))
  obtain ⟨W,hW⟩:∃ W,((w.alloc (.cells (brow ks) 58)).alloc (.cells #[.slice sa sn sc,.slice pa pn pc] 64)).alloc (.cells (zb 32) 58) = W:=⟨_,rfl⟩
  have HP0:=hide (xa0s w (.cells (brow ks) 58) (.cells #[.slice sa sn sc,.slice pa pn pc] 64) (.cells (zb 32) 58)).2.1
  rw [hW] at HK0 HG0 HZ0 HP0
  go_enter Tryz.func72,Tryz.ntmps72
  go_wp2_with (first | (rw [zb32,hW]) | (refine wpList_load_row rfl 64 _ rfl (w.heap.size + 1) rfl _ #[.slice sa sn sc,.slice pa pn pc] (0,0) _ (uh HP0) Tryz.underlying64 rfl (by kernel_rfl) ?_))
  clear hW
  refine Calls.mono (xb7g z _ _ ss ps _ hw ((uh HS).old (uh HK0)) ((uh HP).old (uh HK0)) ((uh HT).k (uh HK0)) hpb) ?_
  rintro e w1 ⟨⟨v1,rfl,hv1⟩,k1⟩
  have HD0:Hid (Dg (footD z ss ps)):=hide (by
    unfold footD brD
    split
    · exact xa1v _ _
    · split
      · exact xa1v _ _
      · exact xa6j _ _ _)
  obtain ⟨N,hN⟩:∃ N,footN ss ps = N:=⟨_,rfl⟩
  obtain ⟨D0,hD⟩:∃ D0,footD z ss ps = D0:=⟨_,rfl⟩
  rw [hD] at HD0
  rw [hN] at hv1 HFT
  rw [hD]
  have HRES:=hide (by rw [hN,hD]:cliD z ks ss (footN ss ps) (footD z ss ps) = cliD z ks ss N D0)
  have hd0:=(uh HD0).1
  have HS0:=hide (Tryz.szD hd0)
  have HNL:=hide (by rw [← hN]; unfold footN; split <;> omega:N≤ss.length)
  have HKw:=hide ((uh HK0).trans k1 (by simp))
  have HGw:=hide (k1.heap (uh HG0) (by simp))
  have HZw:=hide (k1.heap (uh HZ0) (by simp))
  have HN1:=hide (setRow_heap (w1.alloc (.cells (zb 32) 58)) w1.heap.size (zb 32) (brow D0) 58 (0,0) (heap_alloc_new _ _))
  have HKX:=hide (((Kept.refl [] w1).alloc (.cells (zb 32) 58)).setRow (g:=w1.heap.size) (Or.inr (Nat.le_refl _)) (brow D0))
  obtain ⟨va,vn,vc,_,rfl,_⟩:=id hv1
  obtain ⟨hvn,hvc,hvm,h4⟩:=hv1.cells
  have hvN:vn = N:=by rw [← hvn,List.length_take]; have:=uh HNL; omega
  subst hvN
  have H4:=hide (fun i (hi:i < vn)=>by
    have h9:=h4 i hi
    rw [List.getD_eq_getElem?_getD,List.getElem?_take_of_lt hi,← List.getD_eq_getElem?_getD] at h9
    exact h9)
  clear k1 HK0 HG0 HZ0 hv1 hN hD h4 hvn HP0
  go_wp2_with (rw [zb32]; refine wpList_store_row rfl 58 _ _ rfl w1.heap.size (brow D0) rfl rfl _ (zb 32) (heap_alloc_new _ _) (uh HS0) (by rw [xa0d,xa0a,hd0]) (xa0b _) ?_)
  obtain ⟨X,hX⟩:∃ X,(w1.alloc (.cells (zb 32) 58)).setRow w1.heap.size (brow D0) = X:=⟨_,rfl⟩
  rw [hX] at HN1 HKX ⊢
  clear hX
  go_loopw [9] (fun t9 wr=>∃ (k:Nat) (d:List Nat),k≤vn∧t9 = .int .i64 ((k:Int) - 1)∧Hid (Dg d)∧Hid (cliD z ks ss k d = cliD z ks ss vn D0)∧Hid (wr.heap[w1.heap.size]? = some (.cells (brow d) 58 (0,0)))∧Hid (Kept [] w1 wr)) (fun t _=>(intOf t + 1).toNat)
  case atStart=>exact ⟨vn,D0,Nat.le_refl _,rfl,HD0,hide rfl,HN1,HKX⟩
  case round =>
    clear HN1 HKX
    obtain ⟨k,d,hk,rfl,HDG,HCL,HN,HK⟩:=hrel
    have hd:=(uh HDG).1
    have HSD:=hide (Tryz.szD hd)
    cases k with
    | zero =>
      have HRE:=hide (by have h9:=uh HCL; rw [cliD] at h9; rw [uh HRES,← h9]:cliD z ks ss (footN ss ps) (footD z ss ps) = d)
      have HZr:=hide ((uh HK).heap (uh HZw) (by simp))
      have hm1:¬ (0:Int)≤((0:Nat):Int) - 1:=by omega
      go_wp2_with (first
        | (refine wpList_load_row rfl 58 _ rfl w1.heap.size rfl _ (brow d) (0,0) _ (uh HN) Tryz.underlying58 rfl (uh HSD) ?_)
        | (refine wpList_store_row rfl 58 _ _ rfl (w.heap.size + 1 + 1) (brow d) rfl rfl _ (zb 32) (uh HZr) (uh HSD) (by rw [xa0d,xa0a,hd]) (xa0b _) ?_))
      have HKF:=hide (((uh HKw).trans (uh HK) (by simp)).setRow (g:=w.heap.size + 1 + 1) (Or.inr (by omega)) (brow d))
      have HZF:=hide (setRow_heap wr (w.heap.size + 1 + 1) (zb 32) (brow d) 58 (0,0) (uh HZr))
      rw [uh HRE]
      refine bodyPost_ret (v:=.agg (brow d)) ?_ rfl ⟨rfl,uh HKF⟩
      exact results_cell_row rfl _ _ (w.heap.size + 1 + 1) _ (brow d) (0,0) _ rfl (uh HZF) Tryz.underlying58 rfl (uh HSD)
    | succ k =>
      have hki:((k + 1:Nat):Int) - 1 = (k:Int):=by omega
      rw [hki]
      clear hki
      have hk0:(0:Int)≤k:=by omega
      have hkv:(k:Int) < vn:=by omega
      obtain ⟨b,o,v,rfl,e1,e2,hsb,r2⟩:=uh H4 k (by omega)
      have q1:=(uh HK).cell e1 (by simp)
      have q2:=(uh HK).cell e2 (by simp)
      have HX:=hide (r2.old (uh HK))
      have HRK:=hide (uh HFT k (by omega))
      have HKN:=hide (uh HKL (ss.getD k (0,[])) (by
        have h9:=uh HNL
        rw [List.getD_eq_getElem?_getD,List.getElem?_eq_getElem (by omega)]; exact List.getElem_mem (by omega)))
      have HSTP:=hide (by rw [← uh HCL,cliD]:cliD z ks ss k (brD z (ss.getD k (0,[])).1 ((ss.getD k (0,[])).2.take (rankB (ss.getD k (0,[])).1 (atC z ks k))++d :: (ss.getD k (0,[])).2.drop (rankB (ss.getD k (0,[])).1 (atC z ks k)))) = cliD z ks ss vn D0)
      have HAC:=hide (atC_lt z ks k (uh HKS))
      clear e1 e2 r2 HCL
      generalize ss.getD k (0,[]) = s at q1 hsb HX HRK HKN HSTP
      obtain ⟨sb,sk⟩:=s
      simp only at q1 hsb HX HRK HKN HSTP
      obtain ⟨a8,m8,c8,rfl,hm8,_⟩:=id (uh HX)
      subst hm8
      have HKa:=hide ((Kept.refl [] wr).alloc (.cells #[.int .u16 sb,.slice a8 sk.length c8] 52))
      have HNW:=hide (heap_alloc_new wr (.cells #[.int .u16 sb,.slice a8 sk.length c8] 52))
      have HGK:=hide ((uh HKa).heap ((uh HK).heap (uh HGw) (by simp)) (by simp))
      have hne:∀ p:Prop,(∀ w',Kept [] (wr.alloc (.cells #[.int .u16 sb,.slice a8 sk.length c8] 52)) w'→p) = p:=fun p=>propext ⟨fun h=>h _ (Kept.refl [] _),fun h _ _=>h⟩
      have HDI:=hide (fun w' (hw':Kept [] (wr.alloc (.cells #[.int .u16 sb,.slice a8 sk.length c8] 52)) w')=>(xa9l z ks k w' (by omega) (by omega) (uh HKS)).mono (fun e w2 (h2:_∧_)=>(⟨h2.1,hw'.trans h2.2 (by simp)⟩:_∧Kept [] (wr.alloc (.cells #[.int .u16 sb,.slice a8 sk.length c8] 52)) w2)))
      have HRA:=hide (fun w' (hw':Kept [] (wr.alloc (.cells #[.int .u16 sb,.slice a8 sk.length c8] 52)) w')=>(xa3z sb (atC z ks k:Nat) w' hsb (by have:=uh HAC; omega)).mono (fun e w2 (h2:_∧_)=>(⟨h2.1,hw'.trans h2.2 (by simp)⟩:_∧Kept [] (wr.alloc (.cells #[.int .u16 sb,.slice a8 sk.length c8] 52)) w2)))
      go_wp2_with fail
      refine xa0i (by kernel_rfl) (by kernel_rfl) ?_
      go_big_quiet_step (fail)
      refine xa0f rfl (.int .u16 sb) (fun w' hw'=>xb4l 49 (.tmp 30) rfl ⟨wr.heap.size,0,none⟩ rfl w' _ .u16 Tryz.underlying49 (hw'.cell (cell_of_row _ wr.heap.size 0 _ _ _ (uh HNW)) (by simp))) ?_
      simp only [Act.put,List.setIfInBounds_toArray,List.set_cons_succ,List.set_cons_zero]
      go_big_quiet_step (fail)
      refine xa0r rfl 58 (.tmp 4) rfl w.heap.size rfl _ (brow ks) (0,0) _ (fun w' hw'=>hw'.heap (uh HGK) (by simp)) Tryz.underlying58 rfl (uh HSK) ?_
      simp only [Act.put,List.setIfInBounds_toArray,List.set_cons_succ,List.set_cons_zero]
      go_big_quiet_step (fail)
      go_big_quiet_want
      go_big_quiet_op
      apply Exists.intro
      refine ⟨fun w' hw'=>?_,?_⟩
      · exact uh HDI w' hw'
      go_big_quiet_on
      go_big_quiet_want
      go_big_quiet_op
      apply Exists.intro
      refine ⟨fun w' hw'=>?_,?_⟩
      · exact uh HRA w' hw'
      go_big_quiet_on
      repeat (go_big_quiet_step (fail))
      refine wpQuiet_nil ?_
      intro w5 hw5
      have HK5:=hide (((uh HK).trans (uh HKa) (by simp)).trans hw5 (by simp))
      have HN5:=hide (hw5.heap ((uh HKa).heap (uh HN) (by simp)) (by simp))
      have HS5:=hide (hw5.heap (uh HNW) (by simp))
      have HX5:=hide ((uh HX).old ((uh HKa).trans hw5 (by simp)))
      clear hw5 hne q1 q2 HDI HRA HGK HNW HKa
      generalize rankB sb (atC z ks k:Nat) = rk at HRK HSTP ⊢
      go_wp2_with fail
      have hrk:=uh HRK
      have hsk:=uh HKN
      obtain ⟨_,_,_,he9,_,hcc,hcm,_,hcc2⟩:=id (uh HX5)
      cases he9
      have hrkc:(rk:Int)≤c8:=by omega
      have hrk0:(0:Int)≤rk:=by omega
      have hrkl:(rk:Int)≤sk.length:=by omega
      have hskc:(sk.length:Int)≤c8:=by omega
      obtain ⟨V3,V9,h39⟩:∃ V3 V9:Value,(sk.length = 0∧rk = 0∧V3 = .slice a8 0 c8∧V9 = .slice a8 0 c8)∨(0 < sk.length∧∃ b' o',a8 = some ⟨b',o',none⟩∧V3 = .slice a8 rk c8∧((c8 = rk∧V9 = .slice a8 (sk.length - rk) 0)∨(¬ c8 = rk∧V9 = .slice (some ⟨b',o' + rk * 32,none⟩) (sk.length - rk) (c8 - rk)))):=by
        rcases Nat.eq_zero_or_pos sk.length with h9 | h9
        · exact ⟨_,_,Or.inl ⟨h9,by omega,rfl,rfl⟩⟩
        · obtain ⟨b',o',e9,_⟩:=hcc2 h9
          by_cases hc9:c8 = rk
          · exact ⟨_,_,Or.inr ⟨h9,b',o',e9,rfl,Or.inl ⟨hc9,rfl⟩⟩⟩
          · exact ⟨_,_,Or.inr ⟨h9,b',o',e9,rfl,Or.inr ⟨hc9,rfl⟩⟩⟩
      have HR39:Hid (RdD w5 V3 (sk.take rk)∧RdD w5 V9 (sk.drop rk)):=hide (by
        rcases h39 with ⟨g1,g2,g3,g4⟩ | ⟨g0,b',o',g1,g2,(⟨g3,g4⟩ | ⟨g3,g4⟩)⟩
        · have hnil:sk = []:=List.eq_nil_of_length_eq_zero g1
          rw [g3,g4,g2,hnil]
          have h9:=(uh HX5)
          rw [hnil] at h9
          exact ⟨h9,h9⟩
        · subst g1
          rw [g2,g4]
          exact ⟨(uh HX5).upto rk hrk,(uh HX5).from' hrk ⟨by omega,by omega⟩ (fun h9=>by omega)⟩
        · subst g1
          rw [g2,g4]
          exact ⟨(uh HX5).upto rk hrk,(uh HX5).from' hrk ⟨by omega,by omega⟩ (fun _=>rfl)⟩)
      obtain ⟨s3,n3,k3,e3⟩:∃ s n c,V3 = .slice s n c:=by
        rcases h39 with ⟨g1,g2,g3,g4⟩ | ⟨g0,b',o',g1,g2,_⟩
        · exact ⟨_,_,_,g3⟩
        · exact ⟨_,_,_,g2⟩
      obtain ⟨s9,n9,k9,e9'⟩:∃ s n c,V9 = .slice s n c:=by
        rcases h39 with ⟨g1,g2,g3,g4⟩ | ⟨g0,b',o',g1,g2,(⟨g3,g4⟩ | ⟨g3,g4⟩)⟩
        · exact ⟨_,_,_,g4⟩
        · exact ⟨_,_,_,g4⟩
        · exact ⟨_,_,_,g4⟩
      have E3:=hide e3
      have E9:=hide e9'
      clear hcc2 e3 e9'
      have c51:w5.cell? ⟨wr.heap.size,1,none⟩ = some (.slice a8 sk.length c8):=cell_of_row _ wr.heap.size 1 _ _ _ (uh HS5)
      refine xb7u (by kernel_rfl) (by kernel_rfl) (by kernel_rfl) (by kernel_rfl) (by kernel_rfl) (by kernel_rfl) (by kernel_rfl) (by kernel_rfl) (by kernel_rfl) (by kernel_rfl) (by kernel_rfl) (by kernel_rfl) (by kernel_rfl) (by kernel_rfl) (by kernel_rfl) (by kernel_rfl) (by kernel_rfl) (by kernel_rfl) (by kernel_rfl) (by kernel_rfl) (by kernel_rfl) (by kernel_rfl) (by kernel_rfl) (by kernel_rfl) (by kernel_rfl) (by kernel_rfl) rfl rfl rfl
        (.pointer (some ⟨wr.heap.size,1,none⟩)) (.slice a8 sk.length c8) (.int .i64 rk) V3 (.agg (d.map u8).toArray) (.pointer (some ⟨wr.heap.size,1,none⟩)) (.slice a8 sk.length c8) (.int .i64 rk) V9 _ _ _ _ _ _ _ _ _ (by simp only [Act.put,sa1,sa2,sa3]; rfl) (by simp only [Act.put,sa1,sa2,sa3]; rfl) (by simp only [Act.put,sa1,sa2,sa3]; rfl) (by simp only [Act.put,sa1,sa2,sa3]; rfl) (by simp only [Act.put,sa1,sa2,sa3]; rfl) (by simp only [Act.put,sa1,sa2,sa3]; rfl) (by simp only [Act.put,sa1,sa2,sa3]; rfl) (by simp only [Act.put,sa1,sa2,sa3]; rfl) (by simp only [Act.put,sa1,sa2,sa3]; rfl)
        (by exact Or.inl ⟨by rfl,fun W' hW'=>by go_simp⟩)
        (by exact Or.inl ⟨by rfl,fun W' hW'=>by have h9:=hW'.cell c51 (by simp); go_simp⟩)
        (by exact Or.inl ⟨by rfl,fun W' hW'=>by go_simp⟩)
        (by rcases h39 with ⟨g1,g2,rfl,rfl⟩ | ⟨g0,b',o',rfl,rfl,(⟨g1,rfl⟩ | ⟨g1,rfl⟩)⟩
            · subst g2; exact Or.inl ⟨by rfl,fun W' hW'=>by go_simp⟩
            · exact Or.inl ⟨by rfl,fun W' hW'=>by go_simp⟩
            · exact Or.inl ⟨by rfl,fun W' hW'=>by go_simp⟩)
        (by exact yieldsIf_load_mid (by rfl) _ _ rfl w1.heap.size 0 rfl (d.map u8) _ (fun W' hW'=>xa0o (hW'.heap (uh HN5) (by simp))) Tryz.underlying58 rfl (by rw [List.length_map,hd]; exact Tryz.size_dig))
        (by exact Or.inl ⟨by rfl,fun W' hW'=>by go_simp⟩)
        (by exact Or.inl ⟨by rfl,fun W' hW'=>by have h9:=hW'.cell c51 (by simp); go_simp⟩)
        (by exact Or.inl ⟨by rfl,fun W' hW'=>by go_simp⟩)
        (by rcases h39 with ⟨g1,g2,rfl,rfl⟩ | ⟨g0,b',o',rfl,rfl,(⟨g1,rfl⟩ | ⟨g1,rfl⟩)⟩
            · subst g2; exact Or.inl ⟨by rfl,fun W' hW'=>by go_simp⟩
            · exact Or.inl ⟨by rfl,fun W' hW'=>by go_simp⟩
            · exact Or.inl ⟨by rfl,fun W' hW'=>by go_simp⟩)
        ?_
      have e3:=uh E3
      have e9':=uh E9
      clear h39 E3 E9
      subst e3
      subst e9'
      have HB1:=hide (heap_alloc_new w5.drew (.cells (brow d) 58))
      unfold Oper.wp execOp
      go_simp
      rw [zb32,xb2x d hd]
      have k7:=(((Kept.refl [] w5).alloc (.cells (brow d) 58)).alloc (.cells #[.slice s3 n3 k3,.slice (some ⟨w5.heap.size,0,none⟩) 1 1,.slice s9 n9 k9] 50)).drew
      have hA:=heap_alloc2_old w5 (.cells (brow d) 58) (.cells #[.slice s3 n3 k3,.slice (some ⟨w5.heap.size,0,none⟩) 1 1,.slice s9 n9 k9] 50)
      have hB:=heap_alloc2_new w5 (.cells (brow d) 58) (.cells #[.slice s3 n3 k3,.slice (some ⟨w5.heap.size,0,none⟩) 1 1,.slice s9 n9 k9] 50)
      refine ⟨((Kept.refl [] w5).alloc _).drew,k7,?_⟩
      refine Calls.mono (xb2n _ [sk.take rk,[d],sk.drop rk] _ (RdM.three hB ((uh HR39).1.old k7) (RdD.one hA (uh HDG)) ((uh HR39).2.old k7)) (by simp; omega)) ?_
      rintro e w8 ⟨v8,rfl,r8,k8⟩
      have hfl:[sk.take rk,[d],sk.drop rk].flatten = sk.take rk++d :: sk.drop rk:=by simp
      rw [hfl] at r8
      have HK8:=hide ((uh HK5).trans (k7.trans k8 (by simp)) (by simp))
      have HN8:=hide ((k7.trans k8 (by simp)).heap (uh HN5) (by simp))
      have HS8:=hide ((k7.trans k8 (by simp)).heap (uh HS5) (by simp))
      have HR8:=hide r8
      refine ⟨k7.trans k8 (by simp),v8,by exact Or.inl ⟨by rfl,fun W' hW'=>by go_simp⟩,?_⟩
      clear k7 k8 hA hB hfl r8 HK5 HN5 HS5 HX5 c51 HR39
      generalize sk.take rk++d :: sk.drop rk = kk at HSTP HR8
      have c80:w8.cell? ⟨wr.heap.size,0,none⟩ = some (.int .u16 sb):=cell_of_row _ wr.heap.size 0 _ _ _ (uh HS8)
      clear hrkc hrk0 hrkl hskc hrk hsk hcc hcm
      go_wp2_with fail
      refine Calls.mono (xa4f z sb _ kk _ (by omega) hsb (uh HR8) ((uh HT).k ((uh HKw).trans (uh HK8) (by simp)))) ?_
      rintro e w9 ⟨rfl,k9'⟩
      have HDG2:=hide (xa6j (branchE z sb kk) z (branchB z sb kk))
      unfold brD at HSTP
      generalize sunD (branchE z sb kk) z (branchB z sb kk) = D2 at HSTP HDG2 ⊢
      generalize sunE (branchE z sb kk) z = E2
      have hd2:=(uh HDG2).1
      have HSZ2:=hide (Tryz.szD hd2)
      have HN9:=hide (k9'.heap (uh HN8) (by simp))
      have HK9:=hide (((uh HK8).trans k9' (by simp)).setRow (g:=w1.heap.size) (Or.inr (Nat.le_refl _)) (brow D2))
      have HNF:=hide (setRow_heap w9 w1.heap.size (brow d) (brow D2) 58 (0,0) (uh HN9))
      clear k9' c80 HK8 HN8 HS8 HR8
      go_wp2_with (refine wpList_store_row rfl 58 _ _ rfl w1.heap.size (brow D2) rfl rfl _ (brow d) (uh HN9) (uh HSZ2) (by rw [xa0a,xa0a,hd2,hd]) (xa0b _) ?_)
      refine ⟨⟨k,D2,by omega,by go_num,HDG2,HSTP,HNF,HK9⟩,?_⟩
      simp [intOf]
theorem xb1n (b k:Nat):cnt b (k + 1) = cnt b k + (if b.testBit k then 1 else 0):=by
  unfold cnt
  rw [setB]
  split <;> simp
theorem xb1x (b:Nat) {i:Nat}:∀ {j:Nat},i≤j→cnt b i≤cnt b j
  | 0,h=>by obtain rfl:i = 0:=(by omega); exact Nat.le_refl _
  | j + 1,h=>by
    rcases Nat.lt_or_ge j i with h9 | h9
    · obtain rfl:i = j + 1:=by omega
      exact Nat.le_refl _
    · have:=xb1x b (j:=j) h9
      rw [xb1n]; omega
theorem xb7l {b n:Nat} {c:Nat} (h:fitS b n (c:Int) true = true):rankB b (c:Int)≤n:=by
  unfold fitS at h
  simp only [Bool.and_eq_true,decide_eq_true_eq,beq_iff_eq] at h
  obtain ⟨_,h1,h2⟩:=h
  unfold hasB at h1
  simp only [Bool.and_eq_true,decide_eq_true_eq,Int.toNat_natCast] at h1
  obtain ⟨_,h3,h4⟩:=h1
  unfold rankB
  rw [if_neg (by omega),if_pos h3,Int.toNat_natCast]
  have h5:=xb1n b c
  rw [if_pos h4] at h5
  have h6:=xb1x b (i:=c + 1) (j:=16) (by omega)
  simp at h2
  omega
theorem xb1p {z:Int} {ks:List Nat} {ss:List (Nat × List (List Nat))} {m:Nat}:∀ (n:Nat),fitsB z ks ss m n = true→∀ i,i < n→fitS (ss.getD i (0,[])).1 (ss.getD i (0,[])).2.length (atC z ks i) (decide (i + 1 < ss.length) || decide (0 < m)) = true
  | 0,_,i,hi=>by omega
  | n + 1,h,i,hi=>by
    rw [fitsB,Bool.and_eq_true] at h
    rcases Nat.lt_or_ge i n with h9 | h9
    · exact xb1p n h.1 i h9
    · obtain rfl:i = n:=by omega
      exact h.2
theorem xb7f {z:Int} {ks:List Nat} {ss:List (Nat × List (List Nat))} {ps:List (List Nat × List Nat)} (h:provB z ks ss ps = true):∀ i,i < footN ss ps→rankB (ss.getD i (0,[])).1 (atC z ks i:Nat)≤(ss.getD i (0,[])).2.length:=by
  intro i hi
  unfold provB at h
  simp only [Bool.and_eq_true] at h
  unfold footN at hi
  have h9:=xb1p ss.length h.2.1 i (by split at hi <;> omega)
  have h8:(decide (i + 1 < ss.length) || decide (0 < ps.length)) = true:=by
    split at hi
    · simp; omega
    · simp; omega
  rw [h8] at h9
  exact xb7l h9
def rtE (z:Int) (key:List Nat) (ss:List (Nat × List (List Nat))) (ps:List (List Nat × List Nat)):Nat :=
  if hfE z key [] ss = 0 then (if provB z (keyS z key) ss ps then 0 else 10) else hfE z key [] ss
def rtD (z:Int) (key:List Nat) (ss:List (Nat × List (List Nat))) (ps:List (List Nat × List Nat)):List Nat:=if rtE z key ss ps = 0 then rooD z key ss ps else List.replicate 32 0
def rtV (z:Int) (key:List Nat) (ss:List (Nat × List (List Nat))) (ps:List (List Nat × List Nat)):Option (List Nat):=if rtE z key ss ps = 0 then valH key ps else none
theorem xa0x {P:Program} {fn:Func} {p q r s:Tmp} {ty:TypeId} (h:fn.results = #[.cell p ty,.tmp q,.tmp r,.tmp s]) (tmps:Array Value) (w:World) (g:Nat) (t:TypeId) (cs:Array Value) (fr:Nat × Nat) (d:TypeDesc)
    (hp:tmps.getD p undef = .pointer (some ⟨g,0,none⟩)) (hg:w.heap[g]? = some (.cells cs t fr))
    (hu:P.underlying ty = some d) (hd:(match d with | .struct _ | .array _ _=>true | _=>false) = true) (hi:(P.info? ty).map (·.size) = some cs.size) (v u x:Value) (hq:tmps.getD q undef = v) (hr:tmps.getD r undef = u) (hs:tmps.getD s undef = x) :
    (results fn tmps).run P w = .ok (.tuple #[.agg cs,v,u,x]) w:=by
  have hp':tmps[p]?.getD undef = .pointer (some ⟨g,0,none⟩):=by simpa using hp
  have hq':tmps[q]?.getD undef = v:=by simpa using hq
  have hr':tmps[r]?.getD undef = u:=by simpa using hr
  have hs':tmps[s]?.getD undef = x:=by simpa using hs
  simp [results,h,hp',hq',hr',hs',asAddr,run_loadVar_row w g t ty cs fr d hg hu hd hi]
theorem xa7p {z:Int} {key:List Nat} {kn:List (List Nat)} {ss:List (Nat × List (List Nat))} (h:hfE z key kn ss = 0):widthB z = true∧key.length≤64:=by
  unfold hfE at h
  by_cases h1:widthB z = false
  · rw [if_pos h1] at h; omega
  · rw [if_neg h1] at h
    by_cases h2:64 < key.length
    · rw [if_pos h2] at h; omega
    · exact ⟨by simpa using h1,by omega⟩
theorem RdD.nil (w:World):RdD w (.slice none 0 0) []:=⟨none,0,0,rfl,rfl,Nat.le_refl _,by omega,fun d hd=>(by cases hd),fun h=>by omega⟩
theorem xb3o (z:Int) (ks:List Nat) (ss:List (Nat × List (List Nat))):∀ (k:Nat) (d:List Nat),Dg d→Dg (cliD z ks ss k d)
  | 0,d,h=>h
  | k + 1,d,h=>by rw [cliD]; exact xb3o z ks ss k _ (xa6j _ _ _)
theorem xb2b (z:Int) (ss:List (Nat × List (List Nat))) (ps:List (List Nat × List Nat)):Dg (footD z ss ps):=by
  unfold footD brD
  split
  · exact xa1v _ _
  · split
    · exact xa1v _ _
    · exact xa6j _ _ _
set_option maxHeartbeats 4000000 in
theorem xa4w (z:Int) (kv:Value) (key:List Nat) (sv pv:Value) (ss:List (Nat × List (List Nat))) (ps:List (List Nat × List Nat)) (w:World) (hz:-9223372036854775808≤z∧z≤9223372036854775807) (hk:Rd w kv key) (hs:RdS w sv ss) (hp:RdK w pv ps) (hT:Tabs w) (hpb:(pairB ps).length≤1000000000000)
    (hsl:ss.length≤1000000000000) (hpl:ps.length≤1000000000000) (hkl:∀ s∈ss,s.2.length≤1000000000) :
    Calls Tryz.prog 36 #[.int .i64 z,kv,.agg #[sv,pv]] w fun e w'=>(∃ v',e = .returned (.tuple #[.agg (brow (rtD z key ss ps)),v',.bool (rtV z key ss ps).isSome,.int .i64 (rtE z key ss ps:Int)])∧Rd w' v' ((rtV z key ss ps).getD []))∧Kept [] w w':=by
  obtain ⟨sa,sn,sc,vs0,rfl,_⟩:=id hs
  obtain ⟨pa,pn,pc,_,_,rfl,_⟩:=id hp
  obtain ⟨ka,kn,kc,rfl,hkn,_⟩:=id hk
  have HP:=hide hp
  have HS:=hide hs
  have HT:=hide hT
  have HKY:=hide hk
  have HKL:=hide hkl
  clear hp hs hT hkl hk
  have HK0:=hide (((Kept.refl [] w).alloc (.cells #[.slice sa sn sc,.slice pa pn pc] 64)).alloc (.cells (zb 32) 58))
  have HG0:=hide (heap_alloc2_old w (.cells #[.slice sa sn sc,.slice pa pn pc] 64) (.cells (zb 32) 58))
  have HZ0:=hide (heap_alloc2_new w (.cells #[.slice sa sn sc,.slice pa pn pc] 64) (.cells (zb 32) 58))
  obtain ⟨W,hW⟩:∃ W,(w.alloc (.cells #[.slice sa sn sc,.slice pa pn pc] 64)).alloc (.cells (zb 32) 58) = W:=⟨_,rfl⟩
  rw [hW] at HK0 HG0 HZ0
  have c0:W.cell? ⟨w.heap.size,0,none⟩ = some (.slice sa sn sc):=cell_of_row W w.heap.size 0 _ _ _ (uh HG0)
  go_enter Tryz.func36,Tryz.ntmps36
  go_wp2_with (first | (rw [zb32,hW]))
  clear hW
  refine Calls.mono (xa4u z _ key _ ss _ [] _ hz ((uh HKY).old (uh HK0) (by simp)) ((uh HS).old (uh HK0)) (RdD.nil _)) ?_
  rintro e w1 ⟨rfl,k1⟩
  have HK1:=hide ((uh HK0).trans k1 (by simp))
  have HG1:=hide (k1.heap (uh HG0) (by simp))
  have HZ1:=hide (k1.heap (uh HZ0) (by simp))
  clear k1 c0 HK0 HG0 HZ0
  by_cases hf:hfE z key [] ss = 0
  · have HE:=hide (by unfold rtE; rw [if_pos hf]:rtE z key ss ps = if provB z (keyS z key) ss ps then 0 else 10)
    obtain ⟨hw,hk64⟩:=xa7p hf
    rw [hf]
    clear hf
    go_wp2_with fail
    refine Calls.mono (xa7d z _ key _ hz ((uh HKY).old (uh HK1) (by simp)) (by omega) ((uh HT).k (uh HK1))) ?_
    rintro e w2 ⟨rfl,k2⟩
    have HKD:keyS z key = sumD z (2 :: key):=rfl
    rw [← HKD]
    clear HKD
    have HDG:=hide (xb2i z key)
    have hd:=(uh HDG).1
    have HSZ:=hide (Tryz.szD hd)
    have kN:=(k2.alloc (.cells (zb 32) 58)).setRow (g:=w2.heap.size) (Or.inr k2.size) (brow (keyS z key))
    have HN2:=hide (setRow_heap (w2.alloc (.cells (zb 32) 58)) w2.heap.size (zb 32) (brow (keyS z key)) 58 (0,0) (heap_alloc_new _ _))
    have HK2:=hide ((uh HK1).trans kN (by simp))
    have HG2:=hide (kN.heap (uh HG1) (by simp))
    have HZ2:=hide (kN.heap (uh HZ1) (by simp))
    clear kN k2 HK1 HG1 HZ1
    go_wp2_with (first
      | (rw [zb32]; refine wpList_store_row rfl 58 _ _ rfl w2.heap.size (brow (keyS z key)) rfl rfl _ (zb 32) (heap_alloc_new _ _) (uh HSZ) (by rw [xa0d,xa0a,hd]) (xa0b _) ?_)
      | (refine wpList_load_row rfl 58 _ rfl w2.heap.size rfl _ (brow (keyS z key)) (0,0) _ (uh HN2) Tryz.underlying58 rfl (uh HSZ) ?_)
      | (refine wpList_load_row rfl 64 _ rfl w.heap.size rfl _ #[.slice sa sn sc,.slice pa pn pc] (0,0) _ (uh HG2) Tryz.underlying64 rfl (by kernel_rfl) ?_))
    obtain ⟨X,hX⟩:∃ X,(w2.alloc (.cells (zb 32) 58)).setRow w2.heap.size (brow (keyS z key)) = X:=⟨_,rfl⟩
    rw [hX] at HN2 HK2 HG2 HZ2 ⊢
    clear hX
    have HKL2:=hide (fun s (h:s∈ss)=>Nat.le_trans (uh HKL s h) (by omega):∀ s∈ss,s.2.length≤1000000000000)
    refine Calls.mono (xb1a z (keyS z key) _ _ ss ps _ hw (uh HDG) ((uh HS).old (uh HK2)) ((uh HP).old (uh HK2)) ((uh HT).k (uh HK2)) hsl hpl (uh HKL2)) ?_
    rintro e w3 ⟨rfl,k3⟩
    have HK3:=hide ((uh HK2).trans k3 (by simp))
    have HN3:=hide (k3.heap (uh HN2) (by simp))
    have HG3:=hide (k3.heap (uh HG2) (by simp))
    have HZ3:=hide (k3.heap (uh HZ2) (by simp))
    clear k3 HK2 HN2 HG2 HZ2 HKL2
    cases hpv:provB z (keyS z key) ss ps with
    | false =>
      have HE2:=hide (by rw [uh HE,hpv]; rfl:rtE z key ss ps = 10)
      have HD:=hide (by unfold rtD; rw [uh HE2]; rfl:rtD z key ss ps = List.replicate 32 0)
      have HV:=hide (by unfold rtV; rw [uh HE2]; rfl:rtV z key ss ps = none)
      clear hpv HE
      go_wp2_with (rw [zb32]; refine wpList_store_row rfl 58 _ _ rfl (w.heap.size + 1) (zb 32) rfl rfl _ (zb 32) (uh HZ3) (by rw [xa0d]; exact Tryz.size_dig) rfl (xa0b _) ?_)
      have HKF:=hide ((uh HK3).setRow (g:=w.heap.size + 1) (Or.inr (by omega)) (zb 32))
      have HZF:=hide (setRow_heap w3 (w.heap.size + 1) (zb 32) (zb 32) 58 (0,0) (uh HZ3))
      rw [uh HD,uh HV,uh HE2]
      refine bodyPost_ret (v:=.tuple #[.agg (zb 32),.slice none 0 0,.bool false,.int .i64 10]) ?_ rfl ⟨⟨_,rfl,Rd.nil _⟩,uh HKF⟩
      exact xa0x rfl _ _ (w.heap.size + 1) _ (zb 32) (0,0) _ rfl (uh HZF) Tryz.underlying58 rfl (by rw [xa0d]; exact Tryz.size_dig) _ _ _ rfl rfl rfl
    | true =>
      have HE2:=hide (by rw [uh HE,hpv]; rfl:rtE z key ss ps = 0)
      have HD:=hide (by unfold rtD; rw [uh HE2]; rfl:rtD z key ss ps = cliD z (keyS z key) ss (footN ss ps) (footD z ss ps))
      have HV:=hide (by unfold rtV; rw [uh HE2]; rfl:rtV z key ss ps = valH key ps)
      have HFIT:=hide (xb7f hpv)
      clear hpv HE
      have c1:w3.cell? ⟨w.heap.size,1,none⟩ = some (.slice pa pn pc):=cell_of_row w3 w.heap.size 1 _ _ _ (uh HG3)
      go_wp2_with fail
      refine Calls.mono (xb0j _ _ key ps _ ((uh HKY).old (uh HK3) (by simp)) ((uh HP).old (uh HK3))) ?_
      rintro e w4 ⟨⟨v4,rfl,hv4,hb4⟩,k4⟩
      have HB4:=hide (fun x hx=>by have h9:=hb4 x hx; have h8:=lt_of_block (uh HZ3); omega:∀ x∈blk v4,x≠w.heap.size + 1)
      clear hb4
      have HK4:=hide ((uh HK3).trans k4 (by simp))
      have HN4:=hide (k4.heap (uh HN3) (by simp))
      have HG4:=hide (k4.heap (uh HG3) (by simp))
      have HZ4:=hide (k4.heap (uh HZ3) (by simp))
      have HV4:=hide hv4
      clear k4 hv4 c1 HK3 HN3 HG3 HZ3
      obtain ⟨av,nv,cv,rfl,_⟩:=id (uh HV4)
      go_wp2_with (first
        | (refine wpList_load_row rfl 58 _ rfl w2.heap.size rfl _ (brow (keyS z key)) (0,0) _ (uh HN4) Tryz.underlying58 rfl (uh HSZ) ?_)
        | (refine wpList_load_row rfl 64 _ rfl w.heap.size rfl _ #[.slice sa sn sc,.slice pa pn pc] (0,0) _ (uh HG4) Tryz.underlying64 rfl (by kernel_rfl) ?_))
      refine Calls.mono (xb5m z (keyS z key) _ _ ss ps _ hw (uh HDG) ((uh HS).old (uh HK4)) ((uh HP).old (uh HK4)) ((uh HT).k (uh HK4)) hpb (uh HKL) (uh HFIT)) ?_
      rintro e w5 ⟨rfl,k5⟩
      have HDG2:=hide (xb3o z (keyS z key) ss (footN ss ps) _ (xb2b z ss ps))
      generalize cliD z (keyS z key) ss (footN ss ps) (footD z ss ps) = D at HD HDG2 ⊢
      have hd2:=(uh HDG2).1
      have HSZ2:=hide (Tryz.szD hd2)
      have HZ5:=hide (k5.heap (uh HZ4) (by simp))
      have HV5:=hide ((uh HV4).old k5 (by simp))
      have HKF:=hide (((uh HK4).trans k5 (by simp)).setRow (g:=w.heap.size + 1) (Or.inr (by omega)) (brow D))
      have HVF:=hide ((uh HV5).kept ((Kept.refl [w.heap.size + 1] w5).setRow (g:=w.heap.size + 1) (Or.inl (by simp)) (brow D)) (fun x hx=>by simp; exact uh HB4 x hx))
      have HZF:=hide (setRow_heap w5 (w.heap.size + 1) (zb 32) (brow D) 58 (0,0) (uh HZ5))
      clear k5 HZ4 HN4 HG4 HK4
      go_wp2_with (refine wpList_store_row rfl 58 _ _ rfl (w.heap.size + 1) (brow D) rfl rfl _ (zb 32) (uh HZ5) (uh HSZ2) (by rw [xa0d,xa0a,hd2]) (xa0b _) ?_)
      rw [uh HD,uh HV,uh HE2]
      refine bodyPost_ret (v:=.tuple #[.agg (brow D),.slice av nv cv,.bool (valH key ps).isSome,.int .i64 0]) ?_ rfl ⟨⟨_,rfl,uh HVF⟩,uh HKF⟩
      exact xa0x rfl _ _ (w.heap.size + 1) _ (brow D) (0,0) _ rfl (uh HZF) Tryz.underlying58 rfl (uh HSZ2) _ _ _ rfl rfl rfl
  · have HE:=hide (by unfold rtE; rw [if_neg hf]:rtE z key ss ps = hfE z key [] ss)
    have HD:=hide (by unfold rtD; rw [uh HE,if_neg hf]:rtD z key ss ps = List.replicate 32 0)
    have HV:=hide (by unfold rtV; rw [uh HE,if_neg hf]:rtV z key ss ps = none)
    have hf':¬ (hfE z key [] ss:Int) = 0:=by omega
    generalize hfE z key [] ss = F at HE hf' ⊢
    clear hf
    go_wp2_with (first
      | (rw [zb32]; refine wpList_store_row rfl 58 _ _ rfl (w.heap.size + 1) (zb 32) rfl rfl _ (zb 32) (uh HZ1) (by rw [xa0d]; exact Tryz.size_dig) rfl (xa0b _) ?_))
    have HKF:=hide ((uh HK1).setRow (g:=w.heap.size + 1) (Or.inr (by omega)) (zb 32))
    have HZF:=hide (setRow_heap w1 (w.heap.size + 1) (zb 32) (zb 32) 58 (0,0) (uh HZ1))
    rw [uh HD,uh HV,uh HE]
    refine bodyPost_ret (v:=.tuple #[.agg (zb 32),.slice none 0 0,.bool false,.int .i64 (F:Int)]) ?_ rfl ⟨⟨_,rfl,Rd.nil _⟩,uh HKF⟩
    exact xa0x rfl _ _ (w.heap.size + 1) _ (zb 32) (0,0) _ rfl (uh HZF) Tryz.underlying58 rfl (by rw [xa0d]; exact Tryz.size_dig) _ _ _ rfl rfl rfl
def ckE (z:Int) (root key:List Nat) (ss:List (Nat × List (List Nat))) (ps:List (List Nat × List Nat)):Nat :=
  if hfE z key [root] ss = 0 then (if rtE z key ss ps = 0 then (if rtD z key ss ps = root then 0 else 10) else rtE z key ss ps) else hfE z key [root] ss
def ckV (z:Int) (root key:List Nat) (ss:List (Nat × List (List Nat))) (ps:List (List Nat × List Nat)):Option (List Nat):=if ckE z root key ss ps = 0 then rtV z key ss ps else none
theorem rtD_dg (z:Int) (key:List Nat) (ss:List (Nat × List (List Nat))) (ps:List (List Nat × List Nat)):Dg (rtD z key ss ps):=by
  unfold rtD
  split
  · exact xb3o _ _ _ _ _ (xb2b _ _ _)
  · exact ⟨by simp,fun x hx=>by simp at hx; omega⟩
set_option maxHeartbeats 4000000 in
theorem xa4e (z:Int) (root:List Nat) (kv:Value) (key:List Nat) (sv pv:Value) (ss:List (Nat × List (List Nat))) (ps:List (List Nat × List Nat)) (w:World) (hz:-9223372036854775808≤z∧z≤9223372036854775807) (hr:Dg root) (hk:Rd w kv key) (hs:RdS w sv ss) (hp:RdK w pv ps) (hT:Tabs w) (hpb:(pairB ps).length≤1000000000000)
    (hsl:ss.length≤1000000000000) (hpl:ps.length≤1000000000000) (hkl:∀ s∈ss,s.2.length≤1000000000) :
    Calls Tryz.prog 37 #[.int .i64 z,.agg (brow root),kv,.agg #[sv,pv]] w fun e w'=>(∃ v',e = .returned (.tuple #[v',.bool (ckV z root key ss ps).isSome,.int .i64 (ckE z root key ss ps:Int)])∧Rd w' v' ((ckV z root key ss ps).getD []))∧Kept [] w w':=by
  obtain ⟨sa,sn,sc,vs0,rfl,_⟩:=id hs
  obtain ⟨pa,pn,pc,_,_,rfl,_⟩:=id hp
  obtain ⟨ka,kn,kc,rfl,hkn,_⟩:=id hk
  have HP:=hide hp
  have HS:=hide hs
  have HT:=hide hT
  have HKY:=hide hk
  have HKL:=hide hkl
  have HR:=hide hr
  have hrl:=hr.1
  have HSR:=hide (Tryz.szD hrl)
  clear hp hs hT hkl hk hr
  have HK0:=hide (((Kept.refl [] w).alloc (.cells (brow root) 58)).alloc (.cells #[.slice sa sn sc,.slice pa pn pc] 64))
  have HR0:=hide (heap_alloc2_old w (.cells (brow root) 58) (.cells #[.slice sa sn sc,.slice pa pn pc] 64))
  have HG0:=hide (heap_alloc2_new w (.cells (brow root) 58) (.cells #[.slice sa sn sc,.slice pa pn pc] 64))
  obtain ⟨W,hW⟩:∃ W,(w.alloc (.cells (brow root) 58)).alloc (.cells #[.slice sa sn sc,.slice pa pn pc] 64) = W:=⟨_,rfl⟩
  rw [hW] at HK0 HG0 HR0
  have c0:W.cell? ⟨w.heap.size + 1,0,none⟩ = some (.slice sa sn sc):=cell_of_row W (w.heap.size + 1) 0 _ _ _ (uh HG0)
  go_enter Tryz.func37,Tryz.ntmps37
  have hfs:∀ A:Array Value,(List.foldl (fun cs x=>cs.setIfInBounds x.snd x.fst) A (List.map u8 root).zipIdx).size = A.size:=fun A=>xa5d _ A 0
  go_wp2_with (refine wpList_load_mid rfl 58 _ rfl w.heap.size 0 rfl (root.map u8) _ (xa0o (uh HR0)) Tryz.underlying58 rfl (by rw [List.length_map,hrl]; exact Tryz.size_dig) ?_)
  rw [zb32,xb2x root hrl]
  clear hW hfs
  have kA:=(Kept.refl [] W).alloc (.cells (brow root) 58)
  have HRD:=hide (RdD.one (heap_alloc_new W (.cells (brow root) 58)) (uh HR))
  have HKA:=hide ((uh HK0).trans kA (by simp))
  have HRA:=hide (kA.heap (uh HR0) (by simp))
  have HGA:=hide (kA.heap (uh HG0) (by simp))
  refine Calls.mono (xa4u z _ key _ ss _ [root] _ hz ((uh HKY).old (uh HKA) (by simp)) ((uh HS).old (uh HKA)) (uh HRD)) ?_
  rintro e w1 ⟨rfl,k1⟩
  have HK1:=hide ((uh HKA).trans k1 (by simp))
  have HR1:=hide (k1.heap (uh HRA) (by simp))
  have HG1:=hide (k1.heap (uh HGA) (by simp))
  clear k1 kA c0 HK0 HR0 HG0 HRD HKA HRA HGA
  by_cases hf:hfE z key [root] ss = 0
  · have HE:=hide (by unfold ckE; rw [if_pos hf]:ckE z root key ss ps = if rtE z key ss ps = 0 then (if rtD z key ss ps = root then 0 else 10) else rtE z key ss ps)
    rw [hf]
    clear hf
    go_wp2_with (refine wpList_load_row rfl 64 _ rfl (w.heap.size + 1) rfl _ #[.slice sa sn sc,.slice pa pn pc] (0,0) _ (uh HG1) Tryz.underlying64 rfl (by kernel_rfl) ?_)
    refine Calls.mono (xa4w z _ key _ _ ss ps _ hz ((uh HKY).old (uh HK1) (by simp)) ((uh HS).old (uh HK1)) ((uh HP).old (uh HK1)) ((uh HT).k (uh HK1)) hpb hsl hpl (uh HKL)) ?_
    rintro e w2 ⟨⟨v2,rfl,hv2⟩,k2⟩
    have HDG:=hide (rtD_dg z key ss ps)
    have HV2:=hide hv2
    obtain ⟨av,nv,cv,rfl,_⟩:=id hv2
    clear hv2
    have HCV:=hide (by unfold ckV; rfl:ckV z root key ss ps = if ckE z root key ss ps = 0 then rtV z key ss ps else none)
    generalize rtD z key ss ps = D at HDG HE ⊢
    generalize rtE z key ss ps = E at HE ⊢
    generalize rtV z key ss ps = V at HV2 HCV ⊢
    have hd:=(uh HDG).1
    have HSZ:=hide (Tryz.szD hd)
    have kN:=(k2.alloc (.cells (zb 32) 58)).setRow (g:=w2.heap.size) (Or.inr k2.size) (brow D)
    have HN2:=hide (setRow_heap (w2.alloc (.cells (zb 32) 58)) w2.heap.size (zb 32) (brow D) 58 (0,0) (heap_alloc_new _ _))
    have HK2:=hide ((uh HK1).trans kN (by simp))
    have HR2:=hide (kN.heap (uh HR1) (by simp))
    have HVN:=hide ((uh HV2).old (((Kept.refl [] w2).alloc (.cells (zb 32) 58)).setRow (g:=w2.heap.size) (Or.inr (Nat.le_refl _)) (brow D)) (by simp))
    clear kN k2 HK1 HR1 HG1 HV2
    by_cases hE:E = 0
    · have heq:=fun W=>dig_eq W D root hd hrl
      by_cases hDr:D = root
      · have HE2:=hide (by rw [uh HE,if_pos hE,if_pos hDr]:ckE z root key ss ps = 0)
        rw [decide_eq_true hDr] at heq
        subst hE
        clear hDr
        go_wp2_with (first
          | (rw [zb32]; refine wpList_store_row rfl 58 _ _ rfl w2.heap.size (brow D) rfl rfl _ (zb 32) (heap_alloc_new _ _) (uh HSZ) (by rw [xa0d,xa0a,hd]) (xa0b _) ?_)
          | (refine wpList_load_row rfl 58 _ rfl w2.heap.size rfl _ (brow D) (0,0) _ (uh HN2) Tryz.underlying58 rfl (uh HSZ) ?_)
          | (refine wpList_load_row rfl 58 _ rfl w.heap.size rfl _ (brow root) (0,0) _ (uh HR2) Tryz.underlying58 rfl (uh HSR) ?_))
        go_ret3
        rw [uh HCV,uh HE2]
        exact ⟨⟨_,rfl,uh HVN⟩,uh HK2⟩
      · have HE2:=hide (by rw [uh HE,if_pos hE,if_neg hDr]:ckE z root key ss ps = 10)
        rw [decide_eq_false hDr] at heq
        subst hE
        clear hDr
        go_wp2_with (first
          | (rw [zb32]; refine wpList_store_row rfl 58 _ _ rfl w2.heap.size (brow D) rfl rfl _ (zb 32) (heap_alloc_new _ _) (uh HSZ) (by rw [xa0d,xa0a,hd]) (xa0b _) ?_)
          | (refine wpList_load_row rfl 58 _ rfl w2.heap.size rfl _ (brow D) (0,0) _ (uh HN2) Tryz.underlying58 rfl (uh HSZ) ?_)
          | (refine wpList_load_row rfl 58 _ rfl w.heap.size rfl _ (brow root) (0,0) _ (uh HR2) Tryz.underlying58 rfl (uh HSR) ?_))
        go_ret3
        rw [uh HCV,uh HE2]
        exact ⟨⟨_,rfl,Rd.nil _⟩,uh HK2⟩
    · have HE2:=hide (by rw [uh HE,if_neg hE]:ckE z root key ss ps = E)
      have hE':¬ (E:Int) = 0:=by omega
      have HEE:=hide hE
      clear hE
      go_wp2_with (rw [zb32]; refine wpList_store_row rfl 58 _ _ rfl w2.heap.size (brow D) rfl rfl _ (zb 32) (heap_alloc_new _ _) (uh HSZ) (by rw [xa0d,xa0a,hd]) (xa0b _) ?_)
      go_ret3
      rw [uh HCV,uh HE2,if_neg (uh HEE)]
      exact ⟨⟨_,rfl,Rd.nil _⟩,uh HK2⟩
  · have HE:=hide (by unfold ckE; rw [if_neg hf]:ckE z root key ss ps = hfE z key [root] ss)
    have HV:=hide (by unfold ckV; rw [uh HE,if_neg hf]:ckV z root key ss ps = none)
    have hf':¬ (hfE z key [root] ss:Int) = 0:=by omega
    generalize hfE z key [root] ss = F at HE hf' ⊢
    clear hf
    go_wp2
    go_ret3
    rw [uh HV,uh HE]
    exact ⟨⟨_,rfl,Rd.nil _⟩,uh HK1⟩
theorem xb5c {z:Int} (hw:widthB z = true):formB z (List.replicate 32 0) = true:=by
  unfold formB cutL
  have h:=xa1u hw
  rw [hw]
  simp only [Bool.true_and,decide_eq_true_eq,List.take_replicate]
  rw [List.replicate_append_replicate,show min z.toNat 32 + (32 - z.toNat) = 32 by omega]
theorem xa9m {z:Int} (hw:widthB z = true) (e:Nat) (p:List Nat):formB z (sunD e z p) = true:=by
  unfold sunD
  split
  · exact xa1q hw p
  · exact xb5c hw
theorem xb3e {z:Int} (hw:widthB z = true) (ss:List (Nat × List (List Nat))) (ps:List (List Nat × List Nat)):formB z (footD z ss ps) = true:=by
  unfold footD brD
  split
  · exact xa1q hw _
  · split
    · exact xa1q hw _
    · exact xa9m hw _ _
theorem xa9u {z:Int} (hw:widthB z = true) (ks:List Nat) (ss:List (Nat × List (List Nat))):∀ (k:Nat) (d:List Nat),formB z d = true→formB z (cliD z ks ss k d) = true
  | 0,d,h=>h
  | k + 1,d,h=>by rw [cliD]; exact xa9u hw ks ss k _ (xa9m hw _ _)
theorem xb2w {z:Int} {key:List Nat} {ss:List (Nat × List (List Nat))} {ps:List (List Nat × List Nat)} (h:rtE z key ss ps = 0):hfE z key [] ss = 0∧provB z (keyS z key) ss ps = true:=by
  unfold rtE at h
  by_cases hf:hfE z key [] ss = 0
  · rw [if_pos hf] at h
    cases hp:provB z (keyS z key) ss ps with
    | true=>exact ⟨hf,rfl⟩
    | false=>rw [hp] at h; simp at h
  · rw [if_neg hf] at h; exact absurd h hf
theorem rtE_mk {z:Int} {key:List Nat} {ss:List (Nat × List (List Nat))} {ps:List (List Nat × List Nat)} (hf:hfE z key [] ss = 0) (hp:provB z (keyS z key) ss ps = true):rtE z key ss ps = 0:=by
  unfold rtE; rw [if_pos hf,hp]; rfl
theorem xb8t {z:Int} {key:List Nat} {ss:List (Nat × List (List Nat))} {ps:List (List Nat × List Nat)} (h:rtE z key ss ps = 0):formB z (rtD z key ss ps) = true:=by
  have hw:=(xa7p (xb2w h).1).1
  unfold rtD
  rw [if_pos h]
  exact xa9u hw _ _ _ _ (xb3e hw _ _)
theorem xb7x {z:Int} {key r:List Nat} {ss:List (Nat × List (List Nat))} (h:hfE z key [] ss = 0):hfE z key [r] ss = if formB z r then 0 else 3:=by
  obtain ⟨h1,h2⟩:=xa7p h
  unfold hfE at h ⊢
  rw [if_neg (by simp [h1]),if_neg (by omega)] at h ⊢
  have h3:ss.all (fun s=>s.2.all (formB z)) = true:=by
    by_cases h9:ss.all (fun s=>s.2.all (formB z)) = true
    · exact h9
    · rw [if_neg (by simpa using h9)] at h; omega
  rw [h3]
  simp
theorem agr_eq {z:Int} {key r:List Nat} {ss:List (Nat × List (List Nat))} {ps:List (List Nat × List Nat)} (h:rtE z key ss ps = 0):ckE z r key ss ps = if formB z r then (if rtD z key ss ps = r then 0 else 10) else 3:=by
  unfold ckE
  rw [xb7x (xb2w h).1]
  cases formB z r with
  | true=>simp [h]
  | false=>simp
theorem agr_ok {z:Int} {key:List Nat} {ss:List (Nat × List (List Nat))} {ps:List (List Nat × List Nat)} (h:rtE z key ss ps = 0):ckE z (rtD z key ss ps) key ss ps = 0:=by
  rw [agr_eq h,xb8t h]; simp
theorem xb6z (a b:List Nat):∀ (n i m:Nat),m≤i + n→((∀ j,i≤j→j < m→dgt a j = dgt b j)→m≤comL a b n i∨m≤i)∧(m≤comL a b n i→∀ j,i≤j→j < m→dgt a j = dgt b j)
  | 0,i,m,hm=>⟨fun _=>Or.inr (by omega),fun _ j h1 h2=>by omega⟩
  | n + 1,i,m,hm=>by
    rw [comL]
    by_cases h:dgt a i = dgt b i
    · rw [if_pos h]
      have ih:=xb6z a b n (i + 1) m (by omega)
      refine ⟨fun h9=>?_,fun h9 j h1 h2=>?_⟩
      · rcases ih.1 (fun j h1 h2=>h9 j (by omega) h2) with h8 | h8
        · exact Or.inl h8
        · have:i + 1≤comL a b n (i + 1):=by
            clear ih h9 h8 hm
            induction n generalizing i with
            | zero=>exact Nat.le_refl _
            | succ n ih2 =>
              rw [comL]
              split
              · rename_i h7
                exact Nat.le_of_succ_le (ih2 (i + 1) h7)
              · exact Nat.le_refl _
          omega
      · rcases Nat.lt_or_ge i j with h8 | h8
        · exact ih.2 h9 j (by omega) h2
        · obtain rfl:i = j:=by omega
          exact h
    · rw [if_neg h]
      refine ⟨fun h9=>?_,fun h9 j h1 h2=>by omega⟩
      rcases Nat.lt_or_ge i m with h8 | h8
      · exact absurd (h9 i (Nat.le_refl _) h8) h
      · exact Or.inr h8
theorem xb0t {z:Int} {a b:List Nat} (hw:widthB z = true) (ha:formB z a = true) (hb:formB z b = true) {m:Nat} (hm:m≤2 * z.toNat):m≤comC z a b↔∀ j,j < m→dgt a j = dgt b j:=by
  have h0:formedE z [a,b] = 0:=by simp [formedE,hw,ha,hb]
  unfold comC
  rw [if_pos h0]
  have h:=xb6z a b (2 * z.toNat) 0 m (by omega)
  refine ⟨fun h9 j hj=>h.2 h9 j (Nat.zero_le _) hj,fun h9=>?_⟩
  rcases h.1 (fun j _ hj=>h9 j hj) with h8 | h8 <;> omega
theorem xc0l {z:Int} {d:List Nat} (hw:widthB z = true) (hd:formB z d = true) {i:Nat} (hi:i < 2 * z.toNat):atC z d (i:Int) = dgt d i:=by
  have h9:=xa1u hw
  have h0:atE z d (i:Int) = 0:=by
    unfold atE
    rw [if_neg (by simp [hw]; omega),hd]
    rfl
  unfold atC
  rw [if_pos h0,Int.toNat_natCast]
theorem xa5b {z:Int} (hw:widthB z = true) (key:List Nat):formB z (keyS z key) = true:=xa1q hw _

def RdC (s:Nat) (w:World) (v:Value) (rows:List (List Value)):Prop :=
  ∃ (ao:Option Addr) (len cap:Nat),v = .slice ao len cap∧rows.length = len∧len≤cap∧cap≤9223372036854775807∧(0 < len→∃ b off,ao = some ⟨b,off,none⟩∧∀ i (h:i < rows.length),w.rangeAt b (off + i * s) rows[i])
theorem RdC.nil (s:Nat) (w:World):RdC s w (.slice none 0 0) []:=⟨none,0,0,rfl,rfl,Nat.le_refl _,by omega,fun h=>by omega⟩
theorem RdC.kept {s:Nat} {L:List Nat} {w w':World} {v:Value} {rows:List (List Value)} (h:RdC s w v rows) (k:Kept L w w') (hn:∀ x∈blk v,x∉L):RdC s w' v rows:=by
  obtain ⟨ao,len,cap,rfl,h1,h2,h3,h4⟩:=h
  refine ⟨ao,len,cap,rfl,h1,h2,h3,fun hp=>?_⟩
  obtain ⟨b,off,rfl,hc⟩:=h4 hp
  exact ⟨b,off,rfl,fun i hi j u hu=>k.cell (hc i hi j u hu) (hn b (by simp [blk]))⟩
theorem RdC.old {s:Nat} {w w':World} {v:Value} {rows:List (List Value)} (h:RdC s w v rows) (k:Kept [] w w'):RdC s w' v rows:=h.kept k (by simp)
theorem xa9x {w:World} {b s:Nat}:∀ {rows:List (List Value)} {off:Nat} (hc:∀ i (h:i < rows.length),w.rangeAt b (off + i * s) rows[i]) (hs:∀ r∈rows,r.length = s) (j:Nat) (u:Value),rows.flatten[j]? = some u→w.cell? ⟨b,off + j,none⟩ = some u
  | [],off,hc,hs,j,u,hj=>by simp at hj
  | r :: rs,off,hc,hs,j,u,hj=>by
    have hr:r.length = s:=hs r (by simp)
    rw [List.flatten_cons] at hj
    by_cases h:j < s
    · rw [List.getElem?_append_left (by omega)] at hj
      have h9:=hc 0 (by simp) j u (by simpa using hj)
      simpa using h9
    · rw [List.getElem?_append_right (by omega),hr] at hj
      have ih:=xa9x (rows:=rs) (off:=off + s) (fun i hi=>by
        have h9:=hc (i + 1) (by simpa using hi)
        simp only [List.getElem_cons_succ] at h9
        rw [show off + s + i * s = off + (i + 1) * s by rw [Nat.add_mul]; omega]
        exact h9) (fun r hr=>hs r (by simp [hr])) (j - s) u hj
      rw [show off + j = off + s + (j - s) by omega]
      exact ih
theorem xa0k {w:World} {base e s n:Nat} {v:Value} {xs:List Value} (h:w.ownsRow base e s v n xs):∃ ao cap,v = .slice ao n cap:=by
  rcases h.2 with ⟨rfl,rfl⟩ | ⟨g,cap,cur,rfl,_⟩
  · exact ⟨_,_,rfl⟩
  · exact ⟨_,_,rfl⟩
theorem xa8b {s:Nat}:∀ {rows:List (List Value)},(∀ r∈rows,r.length = s)→rows.flatten.length = rows.length * s
  | [],_=>by simp
  | r :: rs,h=>by
    have ih:=xa8b (rows:=rs) (fun r hr=>h r (by simp [hr]))
    rw [List.flatten_cons,List.length_append,ih,h r (by simp),List.length_cons,Nat.add_mul]
    omega
theorem xa3p {s:Nat}:∀ {rows:List (List Value)} (hs:∀ r∈rows,r.length = s) {i j:Nat} (hi:i < rows.length) {u:Value},rows[i][j]? = some u→rows.flatten[i * s + j]? = some u
  | r :: rs,hs,0,j,hi,u,hu=>by
    have hj:=(List.getElem?_eq_some_iff.1 hu).1
    rw [List.flatten_cons,Nat.zero_mul,Nat.zero_add,List.getElem?_append_left (by simpa using hj)]
    simpa using hu
  | r :: rs,hs,i + 1,j,hi,u,hu=>by
    have hr:r.length = s:=hs r (by simp)
    have ih:=xa3p (rows:=rs) (fun r hr=>hs r (by simp [hr])) (i:=i) (j:=j) (by simpa using hi) (u:=u) (by simpa using hu)
    rw [List.flatten_cons,List.getElem?_append_right (by rw [hr,Nat.add_mul]; omega),hr,show (i + 1) * s + j - s = i * s + j by rw [Nat.add_mul]; omega]
    exact ih
theorem xa2v {w:World} {base e s:Nat} {v:Value} {rows:List (List Value)} (h:w.ownsRow base e s v rows.length rows.flatten) (hs:∀ r∈rows,r.length = s):RdC s w v rows:=by
  rcases h.2 with ⟨rfl,h0⟩ | ⟨g,cap,cur,rfl,_,hg,hc,hm,hsz,ht⟩
  · have:rows = []:=List.eq_nil_of_length_eq_zero h0
    subst this
    exact RdC.nil s w
  · refine ⟨_,_,_,rfl,rfl,hc,by unfold maxLen at hm; omega,fun _=>⟨g,0,rfl,fun i hi j u hu=>?_⟩⟩
    have h9:=h.cells (g:=g) rfl (i * s + j) u (xa3p hs hi hu)
    rw [Addr.add_lit,Nat.zero_add] at h9
    rw [Nat.zero_add]
    exact h9
theorem xa7u {P:Program} {w:World} (base:Nat) (t ty e:TypeId) (i:TypeInfo) (size c:Nat) (ht:P.underlying t = some (.slice e)) (hi:P.info? e = some i)
    (v:Value) (n:Nat) (xs:List Value) (hown:w.ownsRow base e size v n xs) :
    (Builtin.append_ #[t,t] ty #[v,.slice none 0 c]).run P w = .ok v w:=by
  rcases hown.2 with ⟨rfl,rfl⟩ | ⟨g,cap,cur,rfl,_,_,hnc,_⟩
  · simp [Builtin.append_,run_underlying ht,sizeOf,typeInfo,hi,Builtin.lenOf,Builtin.firstCells]
  · simp [Builtin.append_,run_underlying ht,sizeOf,typeInfo,hi,Builtin.lenOf,Builtin.firstCells,hnc,storeCells]
theorem appendC (w:World) (base T e:Nat) (z:Value) (s bytes:Nat) (hu:Tryz.prog.underlying T = some (.slice e)) (hinf:(Tryz.prog.info? e).map (fun i=>(i.zero,i.size,i.bytes)) = some (some z,s,bytes)) (hzs:z.cells.size = s) (hs0:0 < s)
    (v:Value) (n:Nat) (xs:List Value) (h:w.ownsRow base e s v n xs) (ao:Option Addr) (m c:Nat) (rows:List (List Value)) (hr:RdC s w (.slice ao m c) rows) (hs:∀ r∈rows,r.length = s) (hone:∀ r∈rows,∀ u∈r,u.oneCell' = true)
    (hl:(n + m) * bytes≤140737488355328) (hl2:n + m≤1000000000000) (hb:base≤w.heap.size) :
    ∃ ao' cap' w1,(Builtin.append_ #[T,T] T #[v,.slice ao m c]).run Tryz.prog w = .ok (.slice ao' (n + m) cap') w1∧w1.ownsRow base e s (.slice ao' (n + m) cap') (n + m) (xs++rows.flatten)∧w.grownBy w1 v.ownBlock∧((Value.slice ao' (n + m) cap').ownBlock = v.ownBlock∨(Value.slice ao' (n + m) cap').ownBlock = some w.heap.size):=by
  obtain ⟨i0,hi,hz0,hz1,hz2⟩:=info_parts hinf
  obtain ⟨ao1,n1,c1,he,h1,h2,h3,h4⟩:=hr
  cases he
  have hf1:∀ u∈rows.flatten,u.oneCell' = true:=by
    intro u hu
    obtain ⟨r,hr,hur⟩:=List.mem_flatten.1 hu
    exact hone r hr u hur
  have hfl:rows.flatten.length = m * s:=by rw [xa8b hs,h1]
  cases ao with
  | none =>
    have hm:m = 0:=by
      rcases Nat.eq_zero_or_pos m with h9 | h9
      · exact h9
      · obtain ⟨b,off,e9,_⟩:=h4 h9; cases e9
    subst hm
    have hp:rows = []:=List.eq_nil_of_length_eq_zero h1
    subst hp
    have hrun:=xa7u (P:=Tryz.prog) (w:=w) base T T e i0 s c hu hi v n xs h
    obtain ⟨ao',cap',rfl⟩:=xa0k h
    exact ⟨ao',cap',w,hrun,by simpa using h,World.grownBy.refl _ _,.inl rfl⟩
  | some ad =>
    have hnews:∀ j u,rows.flatten[j]? = some u→w.cell? (ad.add j) = some u:=by
      intro j u hj
      have hm:0 < m:=by
        have:=(List.getElem?_eq_some_iff.1 hj).1
        rw [hfl] at this
        rcases Nat.eq_zero_or_pos m with h9 | h9
        · subst h9; omega
        · exact h9
      obtain ⟨b,off,e9,hc⟩:=h4 hm
      cases e9
      rw [Addr.add_mid]
      exact xa9x hc hs j u hj
    obtain ⟨v',w1,hrun,hown,hgrow,_,hat⟩:=run_append_own_at (P:=Tryz.prog) w base T T e i0 z s bytes hu hi hz0 hz1 hz2 hzs hs0 v n xs h ad m c rows.flatten hfl hnews hf1 (by unfold maxLen; omega) hl hb
    obtain ⟨ao',cap',rfl⟩:=xa0k hown
    exact ⟨ao',cap',w1,hrun,hown,hgrow,hat⟩
theorem xa0u {ops:Array Oper} {rest:List Oper} {o:Oper} {a:Act} {Q:Exit→Act→World→Prop} (hgd:o.guard = none) (T e:Nat) (s x:Operand)
    (ho:o.op = .call { callee:=.builtin .append,args:=#[s,x],argTypes:=#[T,T] }) (hty:o.type = T)
    (w:World) (base:Nat) (z:Value) (sz bytes:Nat) (hu:Tryz.prog.underlying T = some (.slice e)) (hinf:(Tryz.prog.info? e).map (fun i=>(i.zero,i.size,i.bytes)) = some (some z,sz,bytes)) (hzs:z.cells.size = sz) (hs0:0 < sz)
    (v:Value) (n:Nat) (xs:List Value) (h:w.ownsRow base e sz v n xs) (ao:Option Addr) (m c:Nat) (rows:List (List Value)) (hr:RdC sz w (.slice ao m c) rows) (hs:∀ r∈rows,r.length = sz) (hone:∀ r∈rows,∀ u∈r,u.oneCell' = true)
    (hl:(n + m) * bytes≤140737488355328) (hl2:n + m≤1000000000000) (hb:base≤w.heap.size) (he:a.eval s = v) (hx:a.eval x = .slice ao m c)
    (hK:∀ ao' cap' w1,Hid (w1.ownsRow base e sz (.slice ao' (n + m) cap') (n + m) (xs++rows.flatten))→Hid (w.grownBy w1 v.ownBlock)→Hid ((Value.slice ao' (n + m) cap').ownBlock = v.ownBlock∨(Value.slice ao' (n + m) cap').ownBlock = some w.heap.size) →
      wpList Tryz.prog ops Q rest (a.put o.dst (.slice ao' (n + m) cap')) w1) :
    wpList Tryz.prog ops Q (o :: rest) a w:=by
  obtain ⟨ao',cap',w1,hrun,h2,h3,h4⟩:=appendC w base T e z sz bytes hu hinf hzs hs0 v n xs h ao m c rows hr hs hone hl hl2 hb
  refine wpList_plain hgd fun K hK'=>?_
  unfold Oper.wp execOp
  simp only [ho,hty,resolve,invoke,builtin,Sem.run_bind,Sem.run_pure,Result.andThen_ok,List.map_toArray,List.map_cons,List.map_nil,he,hx,hrun]
  exact hK' _ _ (hK ao' cap' w1 h2 h3 h4)
end
section
open Go Go.RowKit Go.BigFrame
theorem xb8r {o:Oper} {a:Act} {w:World} {K:Act→World→Prop} {Q:Exit→Act→World→Prop} {f:FuncId} {xs:Array Operand} {ts:Array TypeId} (ho:o.op = .call { callee:=.value (.func f),args:=xs,argTypes:=ts })
    (hcl:∀ args W,(callFunc f args).run Tryz.prog W = .ok (.enter f args) W) (us:List Value) (he:xs.toList.map a.eval = us) {R:Ending→World→Prop}
    (hc:Calls Tryz.prog f us.toArray w R) (h:∀ e w',R e w'→∃ v,e = .returned v∧K (a.put o.dst v) w'):o.wp Tryz.prog a w K Q:=by
  have he2:xs.map a.eval = us.toArray:=by rw [← he]; cases xs; simp only [List.map_toArray]
  unfold Oper.wp execOp
  simp only [ho]
  have hf:a.eval (.func f) = .func (.func f) #[] #[]:=rfl
  simp only [resolve,invoke,hf,he2,Sem.run_bind,Sem.run_pure,Result.andThen_ok,hcl]
  simp [Deferred.ofValue,hcl,go_sem]
  refine hc.mono ?_
  intro e w2 h2
  obtain ⟨v,rfl,h3⟩:=h e w2 h2
  exact h3
section
variable {P:Program} {Q:Exit→Act→World→Prop} {S:World→Prop}
def ChL (P:Program) (Q:Exit→Act→World→Prop) (S:World→Prop) (F:Act→World→Prop):List Oper→Act→World→Prop
  | [],a,w=>F a w
  | o :: r,a,w=>o.wp P a w (fun a' w'=>S w'∧ChL P Q S F r a' w') (NoPanic Q)
def LinY (P:Program) (S:World→Prop) (F:Act→World→Prop):List Oper→Act→World→Prop
  | [],a,w=>F a w
  | o :: r,a,w=>∃ v,(∀ W,S W→(execOp a.eval o).run P W = .ok (.value v) W)∧LinY P S F r (a.put o.dst v) w
def linR (O:Array Oper):List Nat→Array Bool→Bool
  | [],_=>true
  | i :: r,d=>(Region.free .any O d i && (Region.ready .any O d).contains i) && linR O r (d.setIfInBounds i true)
def linC (O:Array Oper):List Nat→Array Bool→Bool
  | [],_=>true
  | i :: r,d=>decide (Region.ready .any O d = [i]) && linC O r (d.setIfInBounds i true)
def linD:List Nat→Array Bool→Array Bool
  | [],d=>d
  | i :: r,d=>linD r (d.setIfInBounds i true)
theorem xa3s {O:Array Oper} {d:Array Bool} (h:decide (Region.ready .any O d = []) = true):∀ a w,Q .normal a w→wpAnyH P .any O (NoPanic Q) S 0 d a w:=fun a w hq=>⟨of_decide_eq_true h,NoPanic.normal hq⟩
theorem xa2n {O:Array Oper} {F:Act→World→Prop} {m:Nat} {D:Array Bool} (hF:∀ a w,F a w→wpAnyH P .any O (NoPanic Q) S m D a w):∀ (C:List Nat) (cs:List Oper) (d:Array Bool) (a:Act) (w:World),C.map (O[·]?) = cs.map some→(∀ o∈cs,o.guard = none)→linC O C d = true→linD C d = D→ChL P Q S F cs a w→wpAnyH P .any O (NoPanic Q) S (C.length + m) d a w
  | [],[],d,a,w,_,_,_,hD,h=>by rw [List.length_nil,Nat.zero_add]; have e:d = D:=hD; rw [e]; exact hF a w h
  | [],_ :: _,_,_,_,he,_,_,_,_=>by simp at he
  | i :: C,[],_,_,_,he,_,_,_,_=>by simp at he
  | i :: C,o :: cs,d,a,w,he,hg,hb,hD,h=>by
    simp only [List.map_cons,List.cons.injEq] at he
    simp only [linC,Bool.and_eq_true,decide_eq_true_eq] at hb
    rw [List.length_cons,show C.length + 1 + m = (C.length + m) + 1 by omega]
    refine wpAnyH_all (rs:=[i]) hb.1 (by simp) (fun j hj=>?_)
    rw [List.mem_singleton] at hj
    subst hj
    unfold wpOp
    simp only [he.1]
    have hw:∀ y,Region.wanted o y = true:=fun y=>by unfold Region.wanted; rw [hg o (by simp)]
    rw [if_pos (hw _)]
    refine Or.inl (Oper.wp_mono (fun a' w' h2=>⟨h2.1,?_⟩) h)
    exact xa2n hF C cs _ a' w' he.2 (fun x hx=>hg x (by simp [hx])) hb.2 hD h2.2
theorem xa2q {O:Array Oper} {F:Act→World→Prop} {m:Nat} {D:Array Bool} (hs:Region.noSelect O = true) (hF:∀ a w,F a w→wpAnyH P .any O (NoPanic Q) S m D a w) :
    ∀ (R:List Nat) (rs:List Oper) (d:Array Bool) (a:Act) (w:World),R.map (O[·]?) = rs.map some→(∀ o∈rs,o.guard = none)→linR O R d = true→linD R d = D→S w→LinY P S F rs a w→wpAnyH P .any O (NoPanic Q) S (R.length + m) d a w
  | [],[],d,a,w,_,_,_,hc,_,h=>by rw [List.length_nil,Nat.zero_add]; have e:d = D:=hc; rw [e]; exact hF a w h
  | [],_ :: _,_,_,_,he,_,_,_,_,_=>by simp at he
  | i :: R,[],_,_,_,he,_,_,_,_,_=>by simp at he
  | i :: R,o :: rs,d,a,w,he,hg,hr,hc,hS,h=>by
    simp only [List.map_cons,List.cons.injEq] at he
    simp only [linR,Bool.and_eq_true] at hr
    obtain ⟨v,hv,h2⟩:=h
    have hw:∀ y,Region.wanted o y = true:=fun y=>by unfold Region.wanted; rw [hg o (by simp)]
    rw [List.length_cons,show R.length + 1 + m = (R.length + m) + 1 by omega]
    refine wpAnyH_take (i:=i) (oi:=o) he.1 hs hr.1.1 hr.1.2 (fun _ _ _ h=>h) (Or.inl ⟨hw _,hv⟩) hS ?_
    exact xa2q hs hF R rs _ _ w he.2 (fun x hx=>hg x (by simp [hx])) hr.2 hc hS h2
def linS (O:Array Oper):Array Bool:=Array.replicate O.size false
def linB (O:Array Oper) (R C T:List Nat):Bool :=
  (Region.noSelect O && decide (O.size = R.length + (C.length + (T.length + 0)))) && (linR O R (linS O) && (linC O C (linD R (linS O)) && (linR O T (linD C (linD R (linS O))) && decide (Region.ready .any O (linD T (linD C (linD R (linS O)))) = []))))
theorem wp_lin {id:Nat} {O:Array Oper} {a:Act} {w:World} {R C T:List Nat} {rs cs ts:List Oper} (hm:P.follows .mixedOrders = true) (hb:linB O R C T = true) (hR:R.map (O[·]?) = rs.map some) (hC:C.map (O[·]?) = cs.map some) (hT:T.map (O[·]?) = ts.map some) (hg:(rs++(cs++ts)).all (fun o=>o.guard.isNone) = true)
    (hS:S w.drew) (h:LinY P S (ChL P Q S (fun a w=>S w∧LinY P S (Q .normal) ts a w) cs) rs a w.drew):(Code.region id O true).wp P Q a w:=by
  unfold linB at hb
  simp only [Bool.and_eq_true,decide_eq_true_eq] at hb
  obtain ⟨⟨b1,b2⟩,b3,b4,b5,b6⟩:=hb
  rw [List.all_append,List.all_append,Bool.and_eq_true,Bool.and_eq_true,List.all_eq_true,List.all_eq_true,List.all_eq_true] at hg
  refine wp_region_noPanic ?_
  refine wp_region_held_drew (S:=S) hm hS (fun _=>?_)
  rw [b2]
  have h3:∀ a w,(S w∧LinY P S (Q .normal) ts a w)→wpAnyH P .any O (NoPanic Q) S (T.length + 0) (linD C (linD R (linS O))) a w:=fun a w h=>xa2q b1 (xa3s (decide_eq_true b6)) T ts _ a w hT (fun o ho=>by simpa using hg.2.2 o ho) b5 rfl h.1 h.2
  have h2:=fun a w h=>xa2n (P:=P) (Q:=Q) (S:=S) h3 C cs (linD R (linS O)) a w hC (fun o ho=>by simpa using hg.2.1 o ho) b4 rfl h
  have:=xa2q (P:=P) (Q:=Q) (S:=S) b1 h2 R rs (linS O) a w.drew hR (fun o ho=>by simpa using hg.1 o ho) b3 rfl hS h
  unfold linS at this
  rw [b2] at this
  exact this
theorem xa0y {id:Nat} {O:Array Oper} {a:Act} {w:World} {R C:List Nat} {rs cs:List Oper} (hm:P.follows .mixedOrders = true) (hb:linB O R C [] = true) (hR:R.map (O[·]?) = rs.map some) (hC:C.map (O[·]?) = cs.map some) (hg:(rs++(cs++[])).all (fun o=>o.guard.isNone) = true)
    (hS:S w.drew) (h:LinY P S (ChL P Q S (Q .normal) cs) rs a w.drew):(Code.region id O true).wp P Q a w:=by
  unfold linB at hb
  simp only [Bool.and_eq_true,decide_eq_true_eq] at hb
  obtain ⟨⟨b1,b2⟩,b3,b4,b5,b6⟩:=hb
  rw [List.append_nil,List.all_append,Bool.and_eq_true,List.all_eq_true,List.all_eq_true] at hg
  refine wp_region_noPanic ?_
  refine wp_region_held_drew (S:=S) hm hS (fun _=>?_)
  rw [b2]
  have h2:=fun a w h=>xa2n (P:=P) (Q:=Q) (S:=S) (xa3s (decide_eq_true b6)) C cs (linD R (linS O)) a w hC (fun o ho=>by simpa using hg.2 o ho) b4 rfl h
  have:=xa2q (P:=P) (Q:=Q) (S:=S) b1 h2 R rs (linS O) a w.drew hR (fun o ho=>by simpa using hg.1 o ho) b3 rfl hS h
  unfold linS at this
  rw [show R.length + (C.length + (([]:List Nat).length + 0)) = R.length + (C.length + 0) from rfl]
  rw [b2] at this
  exact this
def linB2 (O:Array Oper) (R:List Nat) (i j:Nat) (C:List Nat):Bool :=
  (Region.noSelect O && decide (O.size = R.length + (C.length + 2))) && (linR O R (linS O) && (decide (Region.ready .any O (linD R (linS O)) = [i,j]) && ((linC O (j :: C) ((linD R (linS O)).setIfInBounds i true) && linC O (i :: C) ((linD R (linS O)).setIfInBounds j true)) && (decide (Region.ready .any O (linD (j :: C) ((linD R (linS O)).setIfInBounds i true)) = []) && decide (Region.ready .any O (linD (i :: C) ((linD R (linS O)).setIfInBounds j true)) = [])))))
theorem xc0g {id:Nat} {O:Array Oper} {a:Act} {w:World} {R C:List Nat} {i j:Nat} {oi oj:Oper} {rs cs:List Oper} (hm:P.follows .mixedOrders = true) (hb:linB2 O R i j C = true) (hR:R.map (O[·]?) = rs.map some) (hi:O[i]? = some oi) (hj:O[j]? = some oj) (hC:C.map (O[·]?) = cs.map some) (hg:(rs++(oi :: oj :: cs)).all (fun o=>o.guard.isNone) = true)
    (hS:S w.drew) (h:LinY P S (fun a w=>ChL P Q S (Q .normal) (oi :: oj :: cs) a w∧ChL P Q S (Q .normal) (oj :: oi :: cs) a w) rs a w.drew):(Code.region id O true).wp P Q a w:=by
  unfold linB2 at hb
  simp only [Bool.and_eq_true,decide_eq_true_eq] at hb
  obtain ⟨⟨b1,b2⟩,b3,b4,⟨b5,b6⟩,b7,b8⟩:=hb
  rw [List.all_append,Bool.and_eq_true,List.all_eq_true,List.all_eq_true] at hg
  have hgi:∀ o∈oi :: oj :: cs,o.guard = none:=fun o ho=>by simpa using hg.2 o ho
  refine wp_region_noPanic ?_
  refine wp_region_held_drew (S:=S) hm hS (fun _=>?_)
  rw [b2]
  have hF:∀ a w,(ChL P Q S (Q .normal) (oi :: oj :: cs) a w∧ChL P Q S (Q .normal) (oj :: oi :: cs) a w)→wpAnyH P .any O (NoPanic Q) S (C.length + 2) (linD R (linS O)) a w:=fun a w h=>by
    refine wpAnyH_all (rs:=[i,j]) b4 (by simp) (fun x hx=>?_)
    simp only [List.mem_cons,List.not_mem_nil,or_false] at hx
    rcases hx with rfl | rfl
    · unfold wpOp
      simp only [hi]
      have hw:∀ y,Region.wanted oi y = true:=fun y=>by unfold Region.wanted; rw [hgi oi (by simp)]
      rw [if_pos (hw _)]
      exact Or.inl (Oper.wp_mono (fun a' w' h2=>⟨h2.1,xa2n (xa3s (decide_eq_true b7)) (j :: C) (oj :: cs) _ a' w' (by rw [List.map_cons,List.map_cons,hj,hC]) (fun o ho=>hgi o (List.mem_cons_of_mem _ ho)) b5 rfl h2.2⟩) h.1)
    · unfold wpOp
      simp only [hj]
      have hw:∀ y,Region.wanted oj y = true:=fun y=>by unfold Region.wanted; rw [hgi oj (by simp)]
      rw [if_pos (hw _)]
      exact Or.inl (Oper.wp_mono (fun a' w' h2=>⟨h2.1,xa2n (xa3s (decide_eq_true b8)) (i :: C) (oi :: cs) _ a' w' (by rw [List.map_cons,List.map_cons,hi,hC]) (fun o ho=>hgi o (by rcases List.mem_cons.1 ho with rfl | ho; simp; simp [ho])) b6 rfl h2.2⟩) h.2)
  have:=xa2q (P:=P) (Q:=Q) (S:=S) b1 hF R rs (linS O) a w.drew hR (fun o ho=>by simpa using hg.1 o ho) b3 rfl hS h
  unfold linS at this
  rw [b2] at this
  exact this
def LinG (P:Program) (O:Array Oper) (S:World→Prop) (F:Act→World→Prop):List Oper→Act→World→Prop
  | [],a,w=>F a w
  | o :: r,a,w=>∃ v,YieldsIf P O S o v a∧LinG P O S F r (a.put o.dst v) w
theorem xa6m {O:Array Oper} {F:Act→World→Prop} {m:Nat} {D:Array Bool} (hs:Region.noSelect O = true) (hF:∀ a w,F a w→wpAnyH P .any O (NoPanic Q) S m D a w) :
    ∀ (R:List Nat) (rs:List Oper) (d:Array Bool) (a:Act) (w:World),R.map (O[·]?) = rs.map some→linR O R d = true→linD R d = D→S w→LinG P O S F rs a w→wpAnyH P .any O (NoPanic Q) S (R.length + m) d a w
  | [],[],d,a,w,_,_,hc,_,h=>by rw [List.length_nil,Nat.zero_add]; have e:d = D:=hc; rw [e]; exact hF a w h
  | [],_ :: _,_,_,_,he,_,_,_,_=>by simp at he
  | i :: R,[],_,_,_,he,_,_,_,_=>by simp at he
  | i :: R,o :: rs,d,a,w,he,hr,hc,hS,h=>by
    simp only [List.map_cons,List.cons.injEq] at he
    simp only [linR,Bool.and_eq_true] at hr
    obtain ⟨v,hv,h2⟩:=h
    rw [List.length_cons,show R.length + 1 + m = (R.length + m) + 1 by omega]
    refine wpAnyH_take (i:=i) (oi:=o) he.1 hs hr.1.1 hr.1.2 (fun _ _ _ h=>h) hv hS ?_
    exact xa6m hs hF R rs _ _ w he.2 hr.2 hc hS h2
theorem xb9n {id:Nat} {O:Array Oper} {a:Act} {w:World} {R:List Nat} {rs:List Oper} (hm:P.follows .mixedOrders = true) (hb:linB O R [] [] = true) (hR:R.map (O[·]?) = rs.map some)
    (hS:S w.drew) (h:LinG P O S (Q .normal) rs a w.drew):(Code.region id O true).wp P Q a w:=by
  unfold linB at hb
  simp only [Bool.and_eq_true,decide_eq_true_eq] at hb
  obtain ⟨⟨b1,b2⟩,b3,b4,b5,b6⟩:=hb
  refine wp_region_noPanic ?_
  refine wp_region_held_drew (S:=S) hm hS (fun _=>?_)
  rw [b2]
  have:=xa6m (P:=P) (Q:=Q) (S:=S) b1 (xa3s (decide_eq_true b6)) R rs (linS O) a w.drew hR b3 rfl hS h
  unfold linS at this
  rw [show R.length + (([]:List Nat).length + (([]:List Nat).length + 0)) = R.length + 0 from rfl]
  rw [show R.length + (([]:List Nat).length + (([]:List Nat).length + 0)) = R.length + 0 from rfl] at b2
  rw [b2] at this
  exact this
theorem LinG.rd {O:Array Oper} {F:Act→World→Prop} {rs:List Oper} {o:Oper} {a A:Act} {w:World} (hw:Region.wanted o (yielded O a.tmps) = true) (v:Value) (hv:∀ W,S W→(execOp a.eval o).run P W = .ok (.value v) W) (p:a.put o.dst v = A) (h:LinG P O S F rs A w):LinG P O S F (o :: rs) a w :=
  ⟨v,Or.inl ⟨hw,hv⟩,by rw [p]; exact h⟩
theorem LinG.no {O:Array Oper} {F:Act→World→Prop} {rs:List Oper} {o:Oper} {a A:Act} {w:World} (hw:Region.wanted o (yielded O a.tmps) = false) (p:a.put o.dst undef = A) (h:LinG P O S F rs A w):LinG P O S F (o :: rs) a w :=
  ⟨undef,Or.inr ⟨hw,rfl⟩,by rw [p]; exact h⟩
theorem LinG.ld {O:Array Oper} {F:Act→World→Prop} {rs:List Oper} {o:Oper} {a A:Act} {w:World} (hw:Region.wanted o (yielded O a.tmps) = true) (ty:TypeId) (x:Operand) (ho:o.op = .load ty x) (b off:Nat) (hx:a.eval x = .pointer (some ⟨b,off,none⟩)) (cs:List Value) (d:TypeDesc) (hc:∀ W,S W→W.rangeAt b off cs)
    (hu:P.underlying ty = some d) (hd:d.isRow = true) (hi:(P.info? ty).map (·.size) = some cs.length) (p:a.put o.dst (.agg cs.toArray) = A) (h:LinG P O S F rs A w):LinG P O S F (o :: rs) a w :=
  LinG.rd hw _ (fun W hW=>by unfold execOp; simp only [ho,hx,Instr.loadAt,Instr.sureAddr,Sem.run_bind,Sem.run_pure,Result.andThen_ok,run_loadVar_mid W b off ty cs d (hc W hW) hu hd hi]) p h
theorem LinG.fin {O:Array Oper} {F:Act→World→Prop} {a:Act} {w:World} (h:F a w):LinG P O S F [] a w:=h
theorem LinY.rd {F:Act→World→Prop} {rs:List Oper} {o:Oper} {a A:Act} {w:World} (v:Value) (hv:∀ W,S W→(execOp a.eval o).run P W = .ok (.value v) W) (p:a.put o.dst v = A) (h:LinY P S F rs A w):LinY P S F (o :: rs) a w :=
  ⟨v,hv,by rw [p]; exact h⟩
theorem LinY.mv {F:Act→World→Prop} {rs:List Oper} {o:Oper} {a A:Act} {w:World} {x:Operand} (ho:o.op = .move x) (v:Value) (hv:a.eval x = v) (p:a.put o.dst v = A) (h:LinY P S F rs A w):LinY P S F (o :: rs) a w :=
  LinY.rd v (fun W _=>by unfold execOp; simp only [ho]; rw [hv]; rfl) p h
theorem LinY.ld {F:Act→World→Prop} {rs:List Oper} {o:Oper} {a A:Act} {w:World} (ty:TypeId) (x:Operand) (ho:o.op = .load ty x) (b off:Nat) (hx:a.eval x = .pointer (some ⟨b,off,none⟩)) (cs:List Value) (d:TypeDesc) (hc:∀ W,S W→W.rangeAt b off cs)
    (hu:P.underlying ty = some d) (hd:d.isRow = true) (hi:(P.info? ty).map (·.size) = some cs.length) (p:a.put o.dst (.agg cs.toArray) = A) (h:LinY P S F rs A w):LinY P S F (o :: rs) a w :=
  LinY.rd _ (fun W hW=>by unfold execOp; simp only [ho,hx,Instr.loadAt,Instr.sureAddr,Sem.run_bind,Sem.run_pure,Result.andThen_ok,run_loadVar_mid W b off ty cs d (hc W hW) hu hd hi]) p h
theorem Kept.rng {L:List Nat} {w w':World} (k:Kept L w w') {b o:Nat} {cs:List Value} (h:w.rangeAt b o cs) (hb:b∉L):w'.rangeAt b o cs:=fun j v hv=>k.cell (h j v hv) hb
theorem ChL.op {F:Act→World→Prop} {cs:List Oper} {o:Oper} {a A:Act} {w w':World} (v:Value) (hv:(execOp a.eval o).run P w = .ok (.value v) w') (hS:S w') (p:a.put o.dst v = A) (h:ChL P Q S F cs A w'):ChL P Q S F (o :: cs) a w:=by
  unfold ChL Oper.wp
  rw [hv]
  rw [← p] at h
  exact ⟨hS,h⟩
theorem ChL.fin {F:Act→World→Prop} {a:Act} {w:World} (h:F a w):ChL P Q S F [] a w:=h
theorem LinY.fin {F:Act→World→Prop} {a:Act} {w:World} (h:F a w):LinY P S F [] a w:=h
end
theorem ChL.call {Q:Exit→Act→World→Prop} {S:World→Prop} {F:Act→World→Prop} {cs:List Oper} {o:Oper} {a:Act} {w:World} {f:FuncId} {xs:Array Operand} {ts:Array TypeId} (ho:o.op = .call { callee:=.value (.func f),args:=xs,argTypes:=ts })
    (hcl:∀ args W,(callFunc f args).run Tryz.prog W = .ok (.enter f args) W) (us:List Value) (he:xs.toList.map a.eval = us) {R:Ending→World→Prop}
    (hc:Calls Tryz.prog f us.toArray w R) (h:∀ e w',R e w'→∃ v,e = .returned v∧S w'∧ChL Tryz.prog Q S F cs (a.put o.dst v) w'):ChL Tryz.prog Q S F (o :: cs) a w:=by
  unfold ChL
  exact xb8r ho hcl us he hc h
end
section
open Go.RowKit Go.BigFrame
def RdMC (s:Nat) (w:World) (v:Value) (L:List (List (List Value))):Prop :=
  ∃ (ao:Option Addr) (len cap:Nat) (vs:List Value),v = .slice ao len cap∧L.length = len∧len≤cap∧cap≤9223372036854775807∧(∀ i,i < len→RdC s w (vs.getD i undef) (L.getD i [])) ∧
    (0 < len→∃ b off,ao = some ⟨b,off,none⟩∧∀ i,i < len→w.cell? ⟨b,off + i,none⟩ = some (vs.getD i undef))
def OwC (T s base:Nat) (w:World) (v:Value) (L:List (List (List Value))):Prop:=w.ownsRow base T s v L.flatten.length L.flatten.flatten
theorem RdMC.cells {s:Nat} {w:World} {ao:Option Addr} {len cap:Nat} {L:List (List (List Value))} (h:RdMC s w (.slice ao len cap) L):L.length = len∧len≤cap∧cap≤9223372036854775807 ∧
    ∀ i,i < len→∃ b off u,ao = some ⟨b,off,none⟩∧w.cell? ⟨b,off + i,none⟩ = some u∧RdC s w u (L.getD i []):=by
  obtain ⟨ao',len',cap',vs,he,h1,h2,h3,h4,h5⟩:=h
  cases he
  refine ⟨h1,h2,h3,fun i hi=>?_⟩
  obtain ⟨b,off,rfl,hc⟩:=h5 (by omega)
  exact ⟨b,off,_,rfl,hc i hi,h4 i hi⟩
theorem xa2l (L:List (List (List Value))) (i:Nat) (h:i < L.length):(L.take (i + 1)).flatten = (L.take i).flatten++L.getD i []:=by
  rw [List.take_succ_eq_append_getElem h,List.flatten_append,List.getD_eq_getElem?_getD,List.getElem?_eq_getElem h]
  simp
theorem xa6c (L:List (List (List Value))) (i:Nat):(L.take i).flatten.length≤L.flatten.length:=by
  have h:=congrArg List.length (congrArg List.flatten (List.take_append_drop i L))
  rw [List.flatten_append,List.length_append] at h
  omega
theorem Tryz.infoN:(Tryz.prog.info? 95).map (fun i=>(i.zero,i.size,i.bytes)) = some (some (.nilIface),1,16):=by kernel_rfl
set_option maxHeartbeats 1000000 in
theorem xb4r (n:Nat) (w:World) (hn:n≤1000000000000) :
    Calls Tryz.prog 168 #[.slice none 0 0,.int .i64 n] w fun e w'=>∃ v',e = .returned v'∧w'.ownsRow w.heap.size 95 1 v' 0 []∧Kept [] w w':=by
  go_enter Tryz.func168,Tryz.ntmps168
  by_cases h0:n = 0
  · subst h0
    go_wp2
    go_ret
    exact ⟨_,rfl,⟨rfl,Or.inl ⟨rfl,rfl⟩⟩,Kept.refl _ _⟩
  · have h0':(0:Int) < n:=by omega
    have hbt:Tryz.t95.bytes = 16:=rfl
    have hns:¬ 281474976710656 < Builtin.nextslicecap n 0 * Tryz.t95.bytes:=by
      rw [hbt]; unfold Builtin.nextslicecap; rw [if_pos (by omega)]; omega
    have hmul:(n:Int) * ((Tryz.t95.bytes:Nat):Int)≤281474976710656:=by rw [hbt]; omega
    have hm0:¬ n = 0:=by omega
    clear hbt
    go_wp2_with fail
    have hg1:=grownCap_ge w n 0 95
    have hg2:=grownCap_le_maxLen w n 0 95 (by unfold maxLen; omega)
    unfold grownCap at hg1 hg2
    generalize (Question.appendCap n 0 95).cut (w.tape w.drawn (Question.appendCap n 0 95)) = cap at hg1 hg2 ⊢
    go_ret
    refine ⟨_,rfl,World.ownsRow_made w _ cap (Nat.le_refl _) hg2 ?_,((Kept.refl [] w).alloc _).drew⟩
    rw [Array.size_append,size_zeroCells,size_zeroCells]
    simp
    omega
set_option maxHeartbeats 1000000 in
theorem xb0c (v:Value) (L:List (List (List Value))) (w:World) (h:RdMC 1 w v L) (hs:∀ rows∈L,∀ r∈rows,r.length = 1) (hone:∀ rows∈L,∀ r∈rows,∀ u∈r,u.oneCell' = true) (hl:L.flatten.length≤100000000000) :
    Calls Tryz.prog 154 #[v] w fun e w'=>∃ v',e = .returned v'∧OwC 95 1 w.heap.size w' v' L∧Kept [] w w':=by
  obtain ⟨ao,n,c,_,rfl,_⟩:=id h
  obtain ⟨h1,h2,h3,h4⟩:=h.cells
  have H4:=hide h4
  have HS:=hide hs
  have HO1:=hide hone
  clear h4 h hs hone
  subst h1
  go_enter Tryz.func154,Tryz.ntmps154
  go_wp2_with fail
  go_loopw [3,11] (fun t3 t11 wr=>∃ (i:Nat),i≤L.length∧t11 = .int .i64 i∧t3 = .int .i64 (((L.take i).flatten.length:Nat):Int)∧Hid (wr = w)) (fun _ t _=>L.length - (intOf t).toNat)
  case atStart=>exact ⟨0,Nat.zero_le _,rfl,rfl,hide rfl⟩
  case round =>
    obtain ⟨i,hi,rfl,rfl,HWR⟩:=hrel
    by_cases hlt:i < L.length
    · have hlt':(i:Int) < L.length:=by omega
      obtain ⟨b,o,u,rfl,c1,r1⟩:=uh H4 i hlt
      have q1:wr.cell? ⟨b,o + i,none⟩ = some u:=by rw [uh HWR]; exact c1
      have HFT:=hide (xa2l L i hlt)
      have HLE:=hide (xa6c L (i + 1))
      rw [uh HFT] at HLE
      clear c1
      generalize L.getD i [] = li at r1 HFT HLE
      obtain ⟨a8,m8,c8,rfl,hm8,_⟩:=id r1
      subst hm8
      clear r1
      obtain ⟨S,hS⟩:∃ S,(L.take i).flatten.length = S:=⟨_,rfl⟩
      have HNX:=hide (by rw [uh HFT,List.length_append,hS]:(L.take (i + 1)).flatten.length = S + li.length)
      have hsb:S + li.length≤100000000000:=by have h9:=uh HLE; rw [List.length_append,hS] at h9; omega
      rw [hS]
      clear hS HLE HFT
      have hs0:¬ ((S:Int) + li.length) < 0:=by omega
      go_wp2
      refine ⟨⟨i + 1,hlt,by go_num,by rw [uh HNX]; go_num,HWR⟩,?_⟩
      simp [intOf]; omega
    · have hi':i = L.length:=by omega
      have hlt':¬ (i:Int) < L.length:=by omega
      have HTL:=hide (by rw [hi',List.take_length]:(L.take i).flatten.length = L.flatten.length)
      obtain ⟨M,hM⟩:∃ M,L.flatten.length = M:=⟨_,rfl⟩
      rw [uh HTL,hM]
      have hl2:M≤100000000000:=by rw [← hM]; exact hl
      have HL:=hide hl
      have HM:=hide hM
      clear hi' HTL hM hl
      go_wp2_with fail
      rw [uh HWR]
      refine Calls.mono (xb4r M _ (by omega)) ?_
      rintro e w1 ⟨v1,rfl,ho,k1⟩
      have HO1':=hide ho
      have HK1:=hide k1
      clear ho k1
      go_wp2_with fail
      go_loopw [6,27] (fun t6 t27 wz=>∃ (j:Nat),j≤L.length∧t27 = .int .i64 j∧Hid (wz.ownsRow w.heap.size 95 1 t6 (L.take j).flatten.length (L.take j).flatten.flatten)∧Hid (Kept [] w wz)) (fun _ t _=>L.length - (intOf t).toNat)
      case atStart=>exact ⟨0,Nat.zero_le _,rfl,by simpa using HO1',HK1⟩
      case round =>
        obtain ⟨j,hj,rfl,HO,HK⟩:=hrel
        by_cases hjt:j < L.length
        · have hjt':(j:Int) < L.length:=by omega
          obtain ⟨b,o,u,rfl,c1,r1⟩:=uh H4 j hjt
          have q1:=(uh HK).cell c1 (by simp)
          have HR:=hide (r1.old (uh HK))
          have HFT:=hide (xa2l L j hjt)
          have HLE:=hide (xa6c L (j + 1))
          rw [uh HFT] at HLE
          have hmem:L.getD j []∈L:=by rw [List.getD_eq_getElem?_getD,List.getElem?_eq_getElem hjt]; exact List.getElem_mem _
          have HS1:=hide (uh HS _ hmem)
          have HS2:=hide (uh HO1 _ hmem)
          clear c1 r1 hmem
          generalize L.getD j [] = li at HR HFT HLE HS1 HS2
          obtain ⟨a8,m8,c8,rfl,hm8,_⟩:=id (uh HR)
          subst hm8
          obtain ⟨D,hD⟩:∃ D,(L.take j).flatten = D:=⟨_,rfl⟩
          rw [hD] at HO HFT HLE
          clear hD
          have hsb:D.length + li.length≤100000000000:=by have h9:=uh HLE; have h8:=uh HL; rw [List.length_append] at h9; omega
          have hbz:=(uh HK).size
          obtain ⟨a6,c6,rfl⟩:=xa0k (uh HO)
          go_wp2_with (at_builtin; refine xa0u rfl 113 95 (.tmp 31) (.tmp 32) rfl rfl _ w.heap.size (.nilIface) 1 16 Tryz.underlying113 Tryz.infoN rfl (by decide) (.slice a6 D.length c6) D.length D.flatten (uh HO) a8 li.length c8 li (uh HR) (uh HS1) (uh HS2) (by omega) (by omega) hbz rfl rfl ?_; intro ao1 cap1 w2 HO2 HG2 HA2; have HK2:=hide ((uh HK).grown (uh HG2) (by intro k hk; right; exact ((uh HO).lt k hk).1)); clear HG2)
          refine ⟨⟨j + 1,hjt,by go_num,by rw [uh HFT,List.length_append,List.flatten_append]; exact HO2,HK2⟩,?_⟩
          simp [intOf]; omega
        · have hj':j = L.length:=by omega
          have hjt':¬ (j:Int) < L.length:=by omega
          have HO2:=hide (by have h9:=uh HO; rw [hj',List.take_length] at h9; exact h9)
          clear hj' HO
          go_wp2
          go_ret
          exact ⟨_,rfl,uh HO2,uh HK⟩
theorem Tryz.infoQ:(Tryz.prog.info? 33).map (fun i=>(i.zero,i.size,i.bytes)) = some (some (.agg #[.slice none 0 0,.slice none 0 0]),2,48):=by kernel_rfl
set_option maxHeartbeats 1000000 in
theorem xb4m (n:Nat) (w:World) (hn:n≤1000000000000) :
    Calls Tryz.prog 171 #[.slice none 0 0,.int .i64 n] w fun e w'=>∃ v',e = .returned v'∧w'.ownsRow w.heap.size 33 2 v' 0 []∧Kept [] w w':=by
  go_enter Tryz.func171,Tryz.ntmps171
  by_cases h0:n = 0
  · subst h0
    go_wp2
    go_ret
    exact ⟨_,rfl,⟨rfl,Or.inl ⟨rfl,rfl⟩⟩,Kept.refl _ _⟩
  · have h0':(0:Int) < n:=by omega
    have hbt:Tryz.t33.bytes = 48:=rfl
    have hns:¬ 281474976710656 < Builtin.nextslicecap n 0 * Tryz.t33.bytes:=by
      rw [hbt]; unfold Builtin.nextslicecap; rw [if_pos (by omega)]; omega
    have hmul:(n:Int) * ((Tryz.t33.bytes:Nat):Int)≤281474976710656:=by rw [hbt]; omega
    have hm0:¬ n * 2 = 0:=by omega
    clear hbt
    go_wp2_with fail
    have hg1:=grownCap_ge w n 0 33
    have hg2:=grownCap_le_maxLen w n 0 33 (by unfold maxLen; omega)
    unfold grownCap at hg1 hg2
    generalize (Question.appendCap n 0 33).cut (w.tape w.drawn (Question.appendCap n 0 33)) = cap at hg1 hg2 ⊢
    go_ret
    refine ⟨_,rfl,World.ownsRow_made w _ cap (Nat.le_refl _) hg2 ?_,((Kept.refl [] w).alloc _).drew⟩
    rw [Array.size_append,size_zeroCells,size_zeroCells]
    simp
    omega
set_option maxHeartbeats 1000000 in
theorem xb0f (v:Value) (L:List (List (List Value))) (w:World) (h:RdMC 2 w v L) (hs:∀ rows∈L,∀ r∈rows,r.length = 2) (hone:∀ rows∈L,∀ r∈rows,∀ u∈r,u.oneCell' = true) (hl:L.flatten.length≤100000000000) :
    Calls Tryz.prog 156 #[v] w fun e w'=>∃ v',e = .returned v'∧OwC 33 2 w.heap.size w' v' L∧Kept [] w w':=by
  obtain ⟨ao,n,c,_,rfl,_⟩:=id h
  obtain ⟨h1,h2,h3,h4⟩:=h.cells
  have H4:=hide h4
  have HS:=hide hs
  have HO1:=hide hone
  clear h4 h hs hone
  subst h1
  go_enter Tryz.func156,Tryz.ntmps156
  go_wp2_with fail
  go_loopw [3,11] (fun t3 t11 wr=>∃ (i:Nat),i≤L.length∧t11 = .int .i64 i∧t3 = .int .i64 (((L.take i).flatten.length:Nat):Int)∧Hid (wr = w)) (fun _ t _=>L.length - (intOf t).toNat)
  case atStart=>exact ⟨0,Nat.zero_le _,rfl,rfl,hide rfl⟩
  case round =>
    obtain ⟨i,hi,rfl,rfl,HWR⟩:=hrel
    by_cases hlt:i < L.length
    · have hlt':(i:Int) < L.length:=by omega
      obtain ⟨b,o,u,rfl,c1,r1⟩:=uh H4 i hlt
      have q1:wr.cell? ⟨b,o + i,none⟩ = some u:=by rw [uh HWR]; exact c1
      have HFT:=hide (xa2l L i hlt)
      have HLE:=hide (xa6c L (i + 1))
      rw [uh HFT] at HLE
      clear c1
      generalize L.getD i [] = li at r1 HFT HLE
      obtain ⟨a8,m8,c8,rfl,hm8,_⟩:=id r1
      subst hm8
      clear r1
      obtain ⟨S,hS⟩:∃ S,(L.take i).flatten.length = S:=⟨_,rfl⟩
      have HNX:=hide (by rw [uh HFT,List.length_append,hS]:(L.take (i + 1)).flatten.length = S + li.length)
      have hsb:S + li.length≤100000000000:=by have h9:=uh HLE; rw [List.length_append,hS] at h9; omega
      rw [hS]
      clear hS HLE HFT
      have hs0:¬ ((S:Int) + li.length) < 0:=by omega
      go_wp2
      refine ⟨⟨i + 1,hlt,by go_num,by rw [uh HNX]; go_num,HWR⟩,?_⟩
      simp [intOf]; omega
    · have hi':i = L.length:=by omega
      have hlt':¬ (i:Int) < L.length:=by omega
      have HTL:=hide (by rw [hi',List.take_length]:(L.take i).flatten.length = L.flatten.length)
      obtain ⟨M,hM⟩:∃ M,L.flatten.length = M:=⟨_,rfl⟩
      rw [uh HTL,hM]
      have hl2:M≤100000000000:=by rw [← hM]; exact hl
      have HL:=hide hl
      have HM:=hide hM
      clear hi' HTL hM hl
      go_wp2_with fail
      rw [uh HWR]
      refine Calls.mono (xb4m M _ (by omega)) ?_
      rintro e w1 ⟨v1,rfl,ho,k1⟩
      have HO1':=hide ho
      have HK1:=hide k1
      clear ho k1
      go_wp2_with fail
      go_loopw [6,27] (fun t6 t27 wz=>∃ (j:Nat),j≤L.length∧t27 = .int .i64 j∧Hid (wz.ownsRow w.heap.size 33 2 t6 (L.take j).flatten.length (L.take j).flatten.flatten)∧Hid (Kept [] w wz)) (fun _ t _=>L.length - (intOf t).toNat)
      case atStart=>exact ⟨0,Nat.zero_le _,rfl,by simpa using HO1',HK1⟩
      case round =>
        obtain ⟨j,hj,rfl,HO,HK⟩:=hrel
        by_cases hjt:j < L.length
        · have hjt':(j:Int) < L.length:=by omega
          obtain ⟨b,o,u,rfl,c1,r1⟩:=uh H4 j hjt
          have q1:=(uh HK).cell c1 (by simp)
          have HR:=hide (r1.old (uh HK))
          have HFT:=hide (xa2l L j hjt)
          have HLE:=hide (xa6c L (j + 1))
          rw [uh HFT] at HLE
          have hmem:L.getD j []∈L:=by rw [List.getD_eq_getElem?_getD,List.getElem?_eq_getElem hjt]; exact List.getElem_mem _
          have HS1:=hide (uh HS _ hmem)
          have HS2:=hide (uh HO1 _ hmem)
          clear c1 r1 hmem
          generalize L.getD j [] = li at HR HFT HLE HS1 HS2
          obtain ⟨a8,m8,c8,rfl,hm8,_⟩:=id (uh HR)
          subst hm8
          obtain ⟨D,hD⟩:∃ D,(L.take j).flatten = D:=⟨_,rfl⟩
          rw [hD] at HO HFT HLE
          clear hD
          have hsb:D.length + li.length≤100000000000:=by have h9:=uh HLE; have h8:=uh HL; rw [List.length_append] at h9; omega
          have hbz:=(uh HK).size
          obtain ⟨a6,c6,rfl⟩:=xa0k (uh HO)
          go_wp2_with (at_builtin; refine xa0u rfl 22 33 (.tmp 31) (.tmp 32) rfl rfl _ w.heap.size (.agg #[.slice none 0 0,.slice none 0 0]) 2 48 Tryz.underlying22 Tryz.infoQ rfl (by decide) (.slice a6 D.length c6) D.length D.flatten (uh HO) a8 li.length c8 li (uh HR) (uh HS1) (uh HS2) (by omega) (by omega) hbz rfl rfl ?_; intro ao1 cap1 w2 HO2 HG2 HA2; have HK2:=hide ((uh HK).grown (uh HG2) (by intro k hk; right; exact ((uh HO).lt k hk).1)); clear HG2)
          refine ⟨⟨j + 1,hjt,by go_num,by rw [uh HFT,List.length_append,List.flatten_append]; exact HO2,HK2⟩,?_⟩
          simp [intOf]; omega
        · have hj':j = L.length:=by omega
          have hjt':¬ (j:Int) < L.length:=by omega
          have HO2:=hide (by have h9:=uh HO; rw [hj',List.take_length] at h9; exact h9)
          clear hj' HO
          go_wp2
          go_ret
          exact ⟨_,rfl,uh HO2,uh HK⟩
set_option maxHeartbeats 1000000 in
theorem xa1z (k:Nat) (d:List Nat) (i:Nat) (w:World) (hk:1≤k∧k≤32) (hd:Dg d) (hf:formB (k:Int) d = true) (hi:i < 2 * k) :
    Calls Tryz.prog 82 #[.int .i64 k,.agg (brow d),.int .i64 i] w fun e w'=>e = .returned (.int .i64 (dgt d i:Nat))∧Kept [] w w':=by
  have hdl:=hd.1
  have HE:=hide (by unfold atE; rw [wide_k hk,if_neg (by simp; omega),if_pos hf]:atE (k:Int) d (i:Int) = 0)
  have HC:=hide (by unfold atC; rw [uh HE,if_pos rfl,Int.toNat_natCast]:atC (k:Int) d (i:Int) = dgt d i)
  have HGA:=hide (heap_alloc_new w (.cells (brow d) 58))
  have HK0:=hide ((Kept.refl [] w).alloc (.cells (brow d) 58))
  go_enter Tryz.func82,Tryz.ntmps82
  go_wp2_with (refine wpList_load_mid rfl 58 _ rfl w.heap.size 0 rfl (d.map u8) _ (xa0o (uh HGA)) Tryz.underlying58 rfl (by rw [List.length_map,hdl]; exact Tryz.size_dig) ?_)
  refine Calls.mono (at_any k d i _ (by omega) (by omega) hd) ?_
  rintro e w1 ⟨rfl,k1⟩
  rw [uh HC,uh HE]
  have HK1:=hide ((uh HK0).trans k1 (by simp))
  clear k1
  go_wp2
  go_ret
  exact ⟨rfl,uh HK1⟩
set_option maxHeartbeats 1000000 in
theorem xb0z (g:Nat) (D O:List Nat) (pv:Value) (w:World) (h:w.heap[g]? = some (.cells (bkC D pv O).toArray 111 (0,0))) (hD:D.length = 32) (hO:O.length = 32) :
    Calls Tryz.prog 194 #[.pointer (some ⟨g,0,none⟩)] w fun e w'=>e = .returned (.agg (brow O))∧Kept [] w w':=by
  have HS2:=hide (by rw [xa0a,hO]; exact Tryz.size_dig:(Tryz.prog.info? 58).map (·.size) = some (brow O).size)
  have HG:=hide (((Kept.refl [] w).alloc (.cells (zb 32) 58)).heap h (by simp))
  have HZ:=hide (heap_alloc_new w (.cells (zb 32) 58))
  have HK:=hide ((Kept.refl [] w).alloc (.cells (zb 32) 58))
  have HR:=hide (bk_row (uh HG) hD).2.2
  clear h
  go_enter Tryz.func194,Tryz.ntmps194
  go_wp2_with (rw [zb32]; refine wpList_load_mid rfl 58 _ rfl g 33 rfl (O.map u8) _ (uh HR) Tryz.underlying58 rfl (by rw [List.length_map,hO]; exact Tryz.size_dig) ?_; refine wpList_store_row rfl 58 _ _ rfl w.heap.size (brow O) rfl rfl _ (zb 32) (uh HZ) (uh HS2) (by rw [xa0d,xa0a,hO]) (xa0b _) ?_)
  refine bodyPost_ret (v:=.agg (brow O)) ?_ rfl ⟨rfl,(uh HK).setRow (by simp) _⟩
  exact results_cell_row rfl _ _ w.heap.size _ (brow O) (0,0) _ rfl (setRow_heap _ _ _ _ _ _ (uh HZ)) Tryz.underlying58 rfl (uh HS2)
set_option maxHeartbeats 1000000 in
theorem xb3f (g x:Nat) (O:List Nat) (kv:Value) (w:World) (h:w.heap[g]? = some (.cells (brC x kv O).toArray 115 (0,0))) (hO:O.length = 32) :
    Calls Tryz.prog 196 #[.pointer (some ⟨g,0,none⟩)] w fun e w'=>e = .returned (.agg (brow O))∧Kept [] w w':=by
  have HS2:=hide (by rw [xa0a,hO]; exact Tryz.size_dig:(Tryz.prog.info? 58).map (·.size) = some (brow O).size)
  have HG:=hide (((Kept.refl [] w).alloc (.cells (zb 32) 58)).heap h (by simp))
  have HZ:=hide (heap_alloc_new w (.cells (zb 32) 58))
  have HK:=hide ((Kept.refl [] w).alloc (.cells (zb 32) 58))
  have HR:=hide (br_row (uh HG)).2.2
  clear h
  go_enter Tryz.func196,Tryz.ntmps196
  go_wp2_with (rw [zb32]; refine wpList_load_mid rfl 58 _ rfl g 2 rfl (O.map u8) _ (uh HR) Tryz.underlying58 rfl (by rw [List.length_map,hO]; exact Tryz.size_dig) ?_; refine wpList_store_row rfl 58 _ _ rfl w.heap.size (brow O) rfl rfl _ (zb 32) (uh HZ) (uh HS2) (by rw [xa0d,xa0a,hO]) (xa0b _) ?_)
  refine bodyPost_ret (v:=.agg (brow O)) ?_ rfl ⟨rfl,(uh HK).setRow (by simp) _⟩
  exact results_cell_row rfl _ _ w.heap.size _ (brow O) (0,0) _ rfl (setRow_heap _ _ _ _ _ _ (uh HZ)) Tryz.underlying58 rfl (uh HS2)
set_option maxHeartbeats 1000000 in
theorem xa1o (k:Nat) (D:List Nat) (ao:Option Addr) (n c:Nat) (ps:Prs) (w:World) (hk:1≤k∧k≤32) (hD:D.length = 32) (h:RdK w (.slice ao n c) ps) (hl:(pairB ps).length≤1000000000000) (hT:Tabs w) :
    Calls Tryz.prog 83 #[.int .i64 k,.agg (brow D),.slice ao n c] w fun e w'=>∃ g,e = .returned (.pointer (some ⟨g,0,none⟩))∧w.heap.size≤g∧w'.heap[g]? = some (.cells (bkC D (.slice ao n c) ((hsZ k).hb ps)).toArray 111 (0,0))∧Kept [] w w':=by
  obtain ⟨O,hO⟩:∃ O,sumD (k:Int) (buckB ps) = O:=⟨_,rfl⟩
  have hOl:O.length = 32:=by rw [← hO]; exact xa1c _ _
  have HO:=hide hO
  have HOg:=hide (show (hsZ k).hb ps = O from hO)
  rw [uh HOg]
  clear hO
  have HB:=hide (xb7m D O ao n c hD hOl)
  have HK0:=hide ((Kept.refl [] w).alloc (.cells (brow D) 58))
  have HG0:=hide (heap_alloc_new w (.cells (brow D) 58))
  go_enter Tryz.func83,Tryz.ntmps83
  go_wp2_with fail
  refine Calls.mono (xa7c k _ ps _ (by omega) (h.old (uh HK0)) hl (hT.k (uh HK0))) ?_
  rintro e w1 ⟨rfl,k1⟩
  rw [uh HO]
  have HK1:=hide ((uh HK0).trans k1 (by simp))
  have HG1:=hide (k1.heap (uh HG0) (by simp))
  clear k1 h hT
  have HZ:=hide (heap_alloc_new w1 (.cells (zb 32) 58))
  have HG2:=hide (((Kept.refl [] w1).alloc (.cells (zb 32) 58)).heap (uh HG1) (by simp))
  have hsz:=(uh HK1).size
  have hs1:w.heap.size < w1.heap.size:=lt_of_block (uh HG1)
  have HG3:=hide (((Kept.refl [w1.heap.size] (w1.alloc (.cells (zb 32) 58))).setRow (g:=w1.heap.size) (Or.inl (by simp)) (brow O)).heap (uh HG2) (by simp; omega))
  have HR3:=hide (setRow_heap _ _ _ (brow O) _ _ (uh HZ))
  have HK3:=hide ((((uh HK1).alloc (.cells (zb 32) 58))).setRow (g:=w1.heap.size) (Or.inr (by omega)) (brow O))
  have hs3:((w1.alloc (.cells (zb 32) 58)).setRow w1.heap.size (brow O)).heap.size = w1.heap.size + 1:=by simp [World.setRow]
  go_wp2_with (first
    | (rw [zb32]; refine wpList_store_row rfl 58 _ _ rfl w1.heap.size (brow O) rfl rfl _ (zb 32) (uh HZ) (by rw [xa0a,hOl]; exact Tryz.size_dig) (by rw [xa0d,xa0a,hOl]) (xa0b _) ?_)
    | (refine wpList_load_row rfl 58 (.tmp 4) rfl w.heap.size rfl 58 (brow D) (0,0) _ (uh HG3) Tryz.underlying58 rfl (by rw [xa0a,hD]; exact Tryz.size_dig) ?_)
    | (refine wpList_load_row rfl 58 (.tmp 7) rfl w1.heap.size rfl 58 (brow O) (0,0) _ (uh HR3) Tryz.underlying58 rfl (by rw [xa0a,hOl]; exact Tryz.size_dig) ?_)
    | (refine xa0h rfl 111 _ rfl (bkC D (.slice ao n c) O).toArray (by simp only [List.map_toArray,List.map_cons,List.map_nil]; exact uh HB) ?_))
  go_ret
  exact ⟨_,rfl,by omega,by rw [← hs3]; exact heap_alloc_new _ _,(uh HK3).alloc _⟩
theorem Tryz.infoDg:(Tryz.prog.info? 58).map (fun i=>(i.zero,i.size,i.bytes)) = some (some (.agg (zb 32)),32,32):=by kernel_rfl
theorem xc0u (m:Nat):madeCells (zb 32) m = (List.replicate m (u8 0)).toArray:=by
  apply Array.ext
  · simp [size_madeCells]
  · intro i h1 h2
    have hz:(zb 32).size = 32:=xa0d 32
    have hi:i % 32 < (zb 32).size:=by rw [hz]; omega
    have hall:∀ j (h:j < (zb 32).size),(zb 32)[j] = u8 0:=by
      have e:zb 32 = (List.replicate 32 (u8 0)).toArray:=rfl
      rw [e]
      intro j h
      simp only [List.getElem_toArray,List.getElem_replicate]
    simp only [madeCells,Array.getElem_map,Array.getElem_range,List.getElem_toArray,List.getElem_replicate]
    rw [hz,getElem!_pos (zb 32) (i % 32) hi]
    exact hall _ hi
theorem xb4n (n:Nat) (W:World) (hn:n≤1000000):(Instr.makeSlice 50 (.int .i64 n) (.int .i64 n)).run Tryz.prog W = .ok (.slice (some ⟨W.heap.size,0,none⟩) n n) (W.alloc (.cells (List.replicate (n * 32) (u8 0)).toArray 58)):=by
  have hz:=Tryz.infoDg
  obtain ⟨i0,hi⟩:∃ it,Tryz.prog.info? 58 = some it:=by
    cases h:Tryz.prog.info? 58 with
    | none=>rw [h] at hz; cases hz
    | some it=>exact ⟨it,rfl⟩
  rw [hi] at hz
  simp only [Option.map_some,Option.some.injEq,Prod.mk.injEq] at hz
  have h:=run_make (P:=Tryz.prog) W 50 58 i0 (.agg (zb 32)) Tryz.underlying50 hi hz.1 .i64 .i64 n n (by omega) (by omega) (by rw [hz.2.2]; omega) (by omega)
  rw [h,hz.2.1,Int.toNat_natCast,show (Value.agg (zb 32)).cells = zb 32 from rfl,xc0u]
theorem xb9e (a : Addr) (w : World) : (method 356 100 (.pointer (some a)) "notary/hamt.sum").run Tryz.prog w = .ok (194, .pointer (some a)) w := by kernel_rfl
theorem xb9z (a : Addr) (w : World) : (method 356 112 (.pointer (some a)) "notary/hamt.sum").run Tryz.prog w = .ok (196, .pointer (some a)) w := by kernel_rfl
theorem TreeAt.own {S:Nat→Prop} {k f:Nat} {W:World} {v:Value} {L:Prs} (h:TreeAt S (hsZ k) W f v L) :
    (∃ g D pv,sgl (hsZ k) L = true∧v = bkV g∧D.length = 32∧W.heap[g]? = some (.cells (bkC D pv (nodP (hsZ k) f L)).toArray 111 (0,0))) ∨
    (∃ g x kv,sgl (hsZ k) L = false∧v = brV g∧W.heap[g]? = some (.cells (brC x kv (nodP (hsZ k) f L)).toArray 115 (0,0))):=by
  cases hs:sgl (hsZ k) L with
  | true =>
    obtain ⟨g,h1,pv,h2,h3,_,_⟩:=h.bk hs
    exact Or.inl ⟨g,_,pv,rfl,h1,(xa1v _ _).1,by rw [xb6i hs]; exact h3⟩
  | false =>
    cases f with
    | zero =>
      have:=h.1
      rw [hs] at this; cases this
    | succ f =>
      obtain ⟨g,kv,vs,h1,h2,h3,_⟩:=h.2 hs
      exact Or.inr ⟨g,_,kv,rfl,h1,h3⟩
set_option maxHeartbeats 2000000 in
theorem xa9o (S:Nat→Prop) (k f:Nat) (kv:Value) (vs:List Value) (Ls:List Prs) (w:World) (hS:SRow S w kv vs) (hl:vs.length = Ls.length) (hn:0 < vs.length∧vs.length≤16) (ht:∀ i,i < vs.length→TreeAt S (hsZ k) w f (vs.getD i undef) (Ls.getD i [])) :
    Calls Tryz.prog 56 #[kv] w fun e w'=>∃ g n,e = .returned (.slice (some ⟨g,0,none⟩) n n)∧n = vs.length∧w.heap.size≤g∧w'.heap[g]? = some (.cells (flatD (Ls.map (nodP (hsZ k) f))).toArray 58 (0,0))∧Kept [] w w':=by
  obtain ⟨b,off,cap,rfl,hc1,hc2,_,hc3⟩:=hS
  have HC:=hide hc3
  have HT:=hide ht
  clear hc3 ht
  obtain ⟨n,hnn⟩:∃ n,vs.length = n:=⟨_,rfl⟩
  rw [hnn] at hl hn hc1 HC HT ⊢
  have HN:=hide hnn
  have HDG:=hide (fun i (hi:i < n)=>by rw [List.getD_eq_getElem?_getD,List.getElem?_map,List.getD_eq_getElem?_getD,List.getElem?_eq_getElem (by omega)]; rfl:∀ i,i < n→(Ls.map (nodP (hsZ k) f)).getD i [] = nodP (hsZ k) f (Ls.getD i []))
  have HDL:=hide (by rw [List.length_map]; exact hl.symm:(Ls.map (nodP (hsZ k) f)).length = n)
  have HD32:=hide (fun d hd=>by obtain ⟨L,_,rfl⟩:=List.mem_map.1 hd; exact (nod_dg k f L).1:∀ d∈Ls.map (nodP (hsZ k) f),d.length = 32)
  generalize Ls.map (nodP (hsZ k) f) = ds at HDG HDL HD32 ⊢
  have hmk:=xb4n n w (by omega)
  clear hnn hl
  have hm1:=xb9e
  have hm2:=xb9z
  go_enter Tryz.func56,Tryz.ntmps56
  go_wp2
  go_loopw [11] (fun t11 wr=>∃ (i:Nat),i≤n∧t11 = .int .i64 i∧Hid (wr.heap[w.heap.size]? = some (.cells (flatD (ds.take i)++List.replicate ((n - i) * 32) (u8 0)).toArray 58 (0,0)))∧Hid (Kept [] w wr)) (fun t _=>n - (intOf t).toNat)
  case atStart=>exact ⟨0,Nat.zero_le _,rfl,hide (by simp only [List.take_zero,flatD,List.map_nil,List.flatten_nil,List.nil_append,Nat.sub_zero]; exact heap_alloc_new _ _),hide ((Kept.refl [] w).alloc _)⟩
  case round =>
    obtain ⟨i,hi,rfl,HG,HK⟩:=hrel
    by_cases hlt:i < n
    · have hlt':(i:Int) < n:=by omega
      have hcl:=(uh HK).cell (uh HC i hlt) (by simp)
      have ht:=(uh HT i hlt).agr (Agr.nil (uh HK))
      have hO:=uh HDG i hlt
      generalize Ls.getD i [] = Li at ht hO
      generalize vs.getD i undef = v at hcl ht
      have hO2:=(nod_dg k f Li).1
      have hown:=ht.own
      generalize nodP (hsZ k) f Li = O at hown hO hO2
      have HO:=hide hO
      have hszw:w.heap.size < wr.heap.size:=lt_of_block (uh HG)
      clear ht hO
      rcases hown with ⟨g,D,pv,hs,rfl,hD,hh⟩ | ⟨g,x,kv,hs,rfl,hh⟩
      · clear hs
        go_wp2_with fail
        refine Calls.mono (xb0z g D O pv wr hh hD hO2) ?_
        rintro e w1 ⟨rfl,k1⟩
        clear hh
        obtain ⟨q1,q2⟩:=xb2f (k1.heap (uh HG) (by simp)) hlt (uh HDL) (uh HD32) (uh HO)
        have Q1:=hide q1
        have Q2:=hide q2
        have HK1:=hide (xa1w (L:=[]) w.heap.size (Or.inr (Nat.le_refl _)) (O.map u8) (i * 32) w1 ((uh HK).trans k1 (by simp)))
        clear q1 q2 k1
        go_wp2_with (refine wpList_store_mid rfl 58 (.tmp 20) (.tmp 19) rfl w.heap.size (i * 32) (brow O) rfl rfl (by rw [xa0a,hO2]; exact uh Q1) (by rw [xa0a,hO2]; exact Tryz.size_dig) (xa0b _) ?_)
        refine ⟨⟨i + 1,hlt,by go_num,Q2,HK1⟩,?_⟩
        simp [intOf]; omega
      · clear hs
        go_wp2_with fail
        refine Calls.mono (xb3f g x O kv wr hh hO2) ?_
        rintro e w1 ⟨rfl,k1⟩
        clear hh
        obtain ⟨q1,q2⟩:=xb2f (k1.heap (uh HG) (by simp)) hlt (uh HDL) (uh HD32) (uh HO)
        have Q1:=hide q1
        have Q2:=hide q2
        have HK1:=hide (xa1w (L:=[]) w.heap.size (Or.inr (Nat.le_refl _)) (O.map u8) (i * 32) w1 ((uh HK).trans k1 (by simp)))
        clear q1 q2 k1
        go_wp2_with (refine wpList_store_mid rfl 58 (.tmp 20) (.tmp 19) rfl w.heap.size (i * 32) (brow O) rfl rfl (by rw [xa0a,hO2]; exact uh Q1) (by rw [xa0a,hO2]; exact Tryz.size_dig) (xa0b _) ?_)
        refine ⟨⟨i + 1,hlt,by go_num,Q2,HK1⟩,?_⟩
        simp [intOf]; omega
    · have hie:i = n:=by omega
      subst hie
      have hlt':¬ (i:Int) < i:=by omega
      have HF:=hide (by have h9:=uh HG; rw [List.take_of_length_le (by rw [uh HDL]; exact Nat.le_refl _),Nat.sub_self,Nat.zero_mul,List.replicate_zero,List.append_nil] at h9; exact h9:wr.heap[w.heap.size]? = some (.cells (flatD ds).toArray 58 (0,0)))
      go_wp2
      go_ret
      exact ⟨_,_,rfl,rfl,Nat.le_refl _,uh HF,uh HK⟩
theorem ta_bk (g:Nat) (w:World):(Instr.typeAssert (bkV g) 95 100 true).run Tryz.prog w = .ok (.tuple #[.pointer (some ⟨g,0,none⟩),.bool true]) w:=by kernel_rfl
theorem ta_br (g:Nat) (w:World):(Instr.typeAssert (brV g) 95 100 true).run Tryz.prog w = .ok (.tuple #[.pointer none,.bool false]) w:=by kernel_rfl
theorem tb_bk (g:Nat) (w:World):(Instr.typeAssert (bkV g) 95 112 true).run Tryz.prog w = .ok (.tuple #[.pointer none,.bool false]) w:=by kernel_rfl
theorem tb_br (g:Nat) (w:World):(Instr.typeAssert (brV g) 95 112 true).run Tryz.prog w = .ok (.tuple #[.pointer (some ⟨g,0,none⟩),.bool true]) w:=by kernel_rfl
theorem ta_nil (w:World):(Instr.typeAssert .nilIface 95 100 true).run Tryz.prog w = .ok (.tuple #[.pointer none,.bool false]) w:=by kernel_rfl
theorem tb_nil (w:World):(Instr.typeAssert .nilIface 95 112 true).run Tryz.prog w = .ok (.tuple #[.pointer none,.bool false]) w:=by kernel_rfl
theorem xb1j {H:Hs} (hH:H.Ok) {d:Nat} {L:Prs} (h:(kidsL H d L).length = 1):kidsL H d L = [L]:=by
  unfold kidsL at h ⊢
  rw [List.length_map] at h
  match hp:prs H d L,h with
  | [i],_=>rw [List.map_cons,List.map_nil,ch_all (xb8m hH hp)]
theorem xb4h {H:Hs} (hH:H.Ok) {d:Nat} {L:Prs} (hn:L≠[]) (h:(kidsL H d L).length≠1):sgl H L = false :=
  xc1c hH (d:=d) hn (by unfold kidsL at h; rwa [List.length_map] at h)
theorem xa2t {H:Hs} (hH:H.Ok) {d:Nat} {L:Prs} (hn:L≠[]):0 < (kidsL H d L).length∧(kidsL H d L).length≤16:=by
  unfold kidsL
  rw [List.length_map]
  refine ⟨?_,prs_le _ _ _⟩
  have:=prs_ne hH (d:=d) hn
  cases h:prs H d L with
  | nil=>exact absurd h this
  | cons _ _=>simp
theorem xb6e {w:World} {g:Nat} {t:TypeId} {fr:Nat × Nat} {ds:List (List Nat)} (h:w.heap[g]? = some (.cells (flatD ds).toArray t fr)) (hd:∀ d∈ds,Dg d) (hl:ds.length≤1000000):RdD w (.slice (some ⟨g,0,none⟩) ds.length ds.length) ds:=by
  refine ⟨_,ds.length,ds.length,rfl,rfl,Nat.le_refl _,by omega,hd,fun _=>⟨g,0,rfl,fun i hi j v hj=>?_⟩⟩
  have hdl:∀ d∈ds,d.length = 32:=fun d hm=>(hd d hm).1
  have hj2:j < 32:=by
    have:=(List.getElem?_eq_some_iff.1 hj).1
    rw [List.length_map] at this
    have h9:(ds.getD i []).length = 32:=by rw [List.getD_eq_getElem?_getD,List.getElem?_eq_getElem hi]; exact hdl _ (List.getElem_mem _)
    omega
  rw [cell_of_row _ _ _ _ _ _ h,List.getElem?_toArray,Nat.zero_add,xa5u hdl i hi j hj2]
  exact hj
set_option maxHeartbeats 2000000 in
theorem xa1s (S:Nat→Prop) (k f x:Nat) (kv:Value) (vs:List Value) (L:Prs) (w:World) (hk:1≤k∧k≤32) (hS:∀ y,w.heap.size≤y→S y) (hn:L≠[]) (hx:x = bm (hsZ k) (63 - f) L)
    (hrow:SRow S w kv vs) (hlen:vs.length = (kidsL (hsZ k) (63 - f) L).length) (ht:∀ i,i < vs.length→TreeAt S (hsZ k) w f (vs.getD i undef) ((kidsL (hsZ k) (63 - f) L).getD i [])) (hT:Tabs w) :
    Calls Tryz.prog 121 #[.int .i64 k,.int .u16 (x:Int),kv] w fun e w'=>∃ v,e = .returned v∧TreeAt S (hsZ k) w' (f + 1) v L∧Kept [] w w':=by
  have hH:=hsZ_ok hk
  have hpos:=xa2t hH (d:=63 - f) hn
  rw [← hlen] at hpos
  have hcnt:=xa1f (hsZ k) (63 - f) L
  rw [← hx,← hlen] at hcnt
  have hxl:x < 65536:=by rw [hx]; exact bm_lt _ _ _
  have HRow:=hide hrow
  have HT:=hide ht
  have HTb:=hide hT
  obtain ⟨b,off,cap,rfl,hc1,hc2,hSb,hc3⟩:=hrow
  have c0:=hc3 0 hpos.1
  rw [Nat.add_zero] at c0
  have HC:=hide hc3
  have ht0:=ht 0 hpos.1
  clear hc3 ht hT
  obtain ⟨n,hnn⟩:∃ n,vs.length = n:=⟨_,rfl⟩
  rw [hnn] at hpos hcnt hc1 hlen ⊢
  have hp0:(0:Int) < n:=by omega
  obtain ⟨v0,hv0⟩:∃ v,vs.getD 0 undef = v:=⟨_,rfl⟩
  rw [hv0] at c0 ht0
  have HX:=hide hx
  have HN:=hide hnn
  have HCn:=hide hcnt
  have HLn:=hide hlen
  have HV0:=hide hv0
  have HH:=hide hH
  clear hv0 hx hnn hcnt hlen hH
  have hm1:=ta_bk
  have hm2:=ta_br
  have key:(∃ g,v0 = bkV g∧n = 1∧TreeAt S (hsZ k) w (f + 1) v0 L)∨(sgl (hsZ k) L = false∧((∃ g,v0 = bkV g∧n≠1)∨∃ g,v0 = brV g)):=by
    by_cases h1:n = 1
    · have hko:=xb1j (uh HH) (d:=63 - f) (L:=L) (by rw [← uh HLn,h1])
      rw [hko] at ht0
      have ht0':TreeAt S (hsZ k) w f v0 L:=ht0
      rcases ht0'.own with ⟨g,D,pv,hs0,e,hD,hh⟩ | ⟨g,y,kv,hs0,e,hh⟩
      · obtain ⟨g',e,hb⟩:=ht0'.bk hs0
        exact Or.inl ⟨g',e,h1,by rw [e]; exact TreeAt.ofBk (f + 1) hb hs0⟩
      · exact Or.inr ⟨hs0,Or.inr ⟨g,e⟩⟩
    · refine Or.inr ⟨xb4h (uh HH) (d:=63 - f) hn (by rw [← uh HLn]; exact h1),?_⟩
      rcases ht0.own with ⟨g,D,pv,hs0,e,hD,hh⟩ | ⟨g,y,kv,hs0,e,hh⟩
      · exact Or.inl ⟨g,e,h1⟩
      · exact Or.inr ⟨g,e⟩
  clear ht0
  rcases key with ⟨g,rfl,h1,hB⟩ | ⟨hs,hor⟩
  · have HB:=hide hB
    clear hB
    subst h1
    go_enter Tryz.func121,Tryz.ntmps121
    go_wp2
    go_ret
    exact ⟨_,rfl,uh HB,Kept.refl _ _⟩
  · obtain ⟨ds,hds⟩:∃ ds,(kidsL (hsZ k) (63 - f) L).map (nodP (hsZ k) f) = ds:=⟨_,rfl⟩
    have HDS:=hide hds
    have HDl:=hide (by rw [← hds,List.length_map,← uh HLn]:ds.length = n)
    have HDg:=hide (fun d hd=>by rw [← hds] at hd; obtain ⟨M,_,rfl⟩:=List.mem_map.1 hd; exact ⟨nod_dg k f M,xa7l hk f M⟩:∀ d∈ds,Dg d∧formB (k:Int) d = true)
    clear hds
    have HE0:=hide (xb6s hk hxl (fun d hd=>(uh HDg d hd).2) (by rw [← uh HCn,uh HDl]) (by intro e; have:=uh HDl; rw [e] at this; simp at this; omega):branchE (k:Int) x ds = 0)
    obtain ⟨O,hO⟩:∃ O,nodP (hsZ k) (f + 1) L = O:=⟨_,rfl⟩
    have HO:=hide (by rw [← hO,nod_br hs,← uh HX]; unfold kidsL at HDS; rw [← uh HDS,List.map_map]; rfl:sumD (k:Int) (branchB (k:Int) x ds) = O)
    have hOl:O.length = 32:=by rw [← hO]; exact (nod_dg k _ L).1
    have HOO:=hide hO
    clear hO
    have HB:=hide (xb8i x O (some ⟨b,off,none⟩) n cap hOl)
    go_enter Tryz.func121,Tryz.ntmps121
    rcases hor with ⟨g,rfl,h1⟩ | ⟨g,rfl⟩
    case' inl=>have h1':¬ (n:Int) = 1:=by omega
    all_goals
      go_wp2_with fail
      refine Calls.mono (xa9o S k f _ vs _ w (by rw [← uh HN]; exact uh HRow) (by rw [uh HN]; exact uh HLn) (by rw [uh HN]; exact hpos) (uh HT)) ?_
      rintro e w1 ⟨g1,n1,rfl,rfl,hg1,hr1,k1⟩
      rw [uh HDS] at hr1
      have hrd:=xb6e hr1 (fun d hd=>(uh HDg d hd).1) (by rw [uh HDl]; omega)
      rw [uh HDl] at hrd
      have HR1:=hide hrd
      have HK1:=hide k1
      clear hr1 hrd k1
      rw [uh HN]
      go_wp2_with fail
      refine Calls.mono (xa4f k x _ ds w1 (by omega) hxl (uh HR1) ((uh HTb).k (uh HK1))) ?_
      rintro e w2 ⟨rfl,k2⟩
      rw [uh HE0,show sunD 0 (k:Int) (branchB (k:Int) x ds) = sumD (k:Int) (branchB (k:Int) x ds) from rfl,uh HO]
      have HK2:=hide ((uh HK1).trans k2 (by simp))
      clear k2 HR1
      have HZ:=hide (heap_alloc_new w2 (.cells (zb 32) 58))
      have HR3:=hide (setRow_heap _ _ _ (brow O) _ _ (uh HZ))
      have hs2:=(uh HK2).size
      have HK3:=hide ((((uh HK2).alloc (.cells (zb 32) 58))).setRow (g:=w2.heap.size) (Or.inr (by omega)) (brow O))
      have hs3:((w2.alloc (.cells (zb 32) 58)).setRow w2.heap.size (brow O)).heap.size = w2.heap.size + 1:=by simp
      go_wp2_with (first
        | (rw [zb32]; refine wpList_store_row rfl 58 _ _ rfl w2.heap.size (brow O) rfl rfl _ (zb 32) (uh HZ) (by rw [xa0a,hOl]; exact Tryz.size_dig) (by rw [xa0d,xa0a,hOl]) (xa0b _) ?_)
        | (refine wpList_load_row rfl 58 (.tmp 9) rfl w2.heap.size rfl 58 (brow O) (0,0) _ (uh HR3) Tryz.underlying58 rfl (by rw [xa0a,hOl]; exact Tryz.size_dig) ?_)
        | (refine xa0h rfl 115 _ rfl (brC x (.slice (some ⟨b,off,none⟩) n cap) O).toArray (by simp only [List.map_toArray,List.map_cons,List.map_nil]; exact uh HB) ?_))
      have hkf:=(uh HK3).alloc (.cells (brC x (.slice (some ⟨b,off,none⟩) n cap) O).toArray 115)
      have HA:=hide (Agr.nil (S:=S) hkf)
      go_ret
      refine ⟨_,rfl,⟨fun h9=>absurd h9 (by rw [hs]; decide),fun _=>⟨w2.heap.size + 1,.slice (some ⟨b,off,none⟩) n cap,vs,rfl,hS _ (by omega),?_,?_,by rw [uh HN]; exact uh HLn,fun i hi=>(uh HT i hi).agr (uh HA)⟩⟩,hkf⟩
      · rw [← uh HX,uh HOO,← hs3]; exact heap_alloc_new _ _
      · have h9:=(uh HRow).agr (uh HA); rw [uh HN] at h9; exact h9
end
end Go.Proofs.YtepmjkkjhjkdgaaGreatDoor
