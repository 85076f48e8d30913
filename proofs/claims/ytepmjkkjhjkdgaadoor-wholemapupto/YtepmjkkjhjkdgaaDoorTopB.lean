import Derived.Test.YtepmjkkjhjkdgaaDoorTopA
namespace Go.Proofs.YtepmjkkjhjkdgaaDoor
set_option linter.unusedVariables false
set_option linter.unusedSimpArgs false
set_option maxRecDepth 100000
section
open Go.RowKit Go.BigFrame
set_option maxHeartbeats 1000000 in
theorem xa6u (v:Value) (p:List Nat) (w:World) (h:Rd w v p) (hl:p.length≤140737488351232) :
    Calls Tryd.prog 31 #[v] w fun e w'=>∃ v',e = .returned v'∧NewB w w' v' (2 :: p)∧Kept [] w w':=by
  have H:=hide h
  obtain ⟨a0,m0,c0,hu0,hm0,_⟩:=id h
  subst hu0
  subst hm0
  clear h
  go_enter Tryd.func31,Tryd.ntmps31
  go_wp2_with fail
  refine Calls.mono (xa5l 2 _ [p] _ (by decide) (RdL.one (heap_alloc_new _ _) ((uh H).old ((Kept.refl [] w).alloc _) (by simp))) (by simpa using hl)) ?_
  rintro e w1 ⟨g,rfl,hg,h1,k1⟩
  have HG:=hide (Nat.le_trans ((Kept.refl [] w).alloc _).size hg)
  have H1:=hide h1
  have HK:=hide (((Kept.refl [] w).alloc _).trans k1 (by simp))
  clear hg h1 k1
  go_wp2
  go_ret
  refine ⟨_,rfl,?_,uh HK⟩
  have h9:=NewB.mk (w:=w) (bs:=2 :: [p].flatten) (uh HG) (uh H1) (by simpa using (uh H).byte) (by simp; omega)
  simpa using h9
def RdK (w:World) (v:Value) (ps:List (List Nat × List Nat)):Prop :=
  ∃ (ao:Option Addr) (len cap:Nat) (vs us:List Value),v = .slice ao len cap∧ps.length = len∧len≤cap∧cap≤9223372036854775807∧(∀ i,i < len→Rd w (vs.getD i undef) (ps.getD i ([],[])).1∧Rd w (us.getD i undef) (ps.getD i ([],[])).2) ∧
    (0 < len→∃ b off,ao = some ⟨b,off,none⟩∧∀ i,i < len→w.cell? ⟨b,off + i * 2,none⟩ = some (vs.getD i undef)∧w.cell? ⟨b,off + i * 2 + 1,none⟩ = some (us.getD i undef))
theorem RdK.old {w w':World} {v:Value} {ps:List (List Nat × List Nat)} (h:RdK w v ps) (k:Kept [] w w'):RdK w' v ps:=by
  obtain ⟨ao,len,cap,vs,us,h1,h2,h4,h5,h6,h7⟩:=h
  refine ⟨ao,len,cap,vs,us,h1,h2,h4,h5,fun i hi=>⟨(h6 i hi).1.old k (by simp),(h6 i hi).2.old k (by simp)⟩,fun hp=>?_⟩
  obtain ⟨b,off,e,hc⟩:=h7 hp
  exact ⟨b,off,e,fun i hi=>⟨k.cell (hc i hi).1 (by simp),k.cell (hc i hi).2 (by simp)⟩⟩
def pairB (ps:List (List Nat × List Nat)):List Nat:=(ps.map fun x=>uv x.1.length++x.1++(uv x.2.length++x.2)).flatten
def buckB (ps:List (List Nat × List Nat)):List Nat:=3 :: (uv ps.length++pairB ps)
theorem xb0z (ps:List (List Nat × List Nat)) (i:Nat) (h:i < ps.length):pairB (ps.take (i + 1)) = pairB (ps.take i)++(uv ps[i].1.length++ps[i].1++(uv ps[i].2.length++ps[i].2)):=by
  unfold pairB
  rw [List.take_succ_eq_append_getElem h,List.map_append,List.flatten_append]
  simp
theorem xb5e (ps:List (List Nat × List Nat)) (i:Nat):(pairB (ps.take i)).length≤(pairB ps).length:=by
  have e:pairB ps = pairB (ps.take i)++pairB (ps.drop i):=by
    unfold pairB
    rw [← List.flatten_append,← List.map_append,List.take_append_drop]
  rw [e,List.length_append]; omega
end
section
open Go.RowKit
attribute [local go_sem ↓] Go.wp_at_zero Go.wp_at_succ
attribute [local go_sem ↓] Go.wp_at_zero Go.wp_at_succ
end
section
open Go.RowKit Go.BigFrame


def ones (x:Nat):Nat:=Lib.onesCount x
theorem xa9e (f:Nat):Lib.popAux f 0 = 0:=by
  induction f with
  | zero=>rfl
  | succ f ih=>show 0 % 2 + Lib.popAux f (0 / 2) = 0; simpa using ih
theorem xa4w (f x:Nat):Lib.popAux (f + 8) x = Lib.popAux 8 (x % 256) + Lib.popAux f (x / 256):=by
  simp only [Lib.popAux,Nat.div_div_eq_div_mul]
  have h0:x % 256 % 2 = x % 2:=by omega
  have h1:x % 256 / 2 % 2 = x / 2 % 2:=by omega
  have h2:x % 256 / 4 % 2 = x / 4 % 2:=by omega
  have h3:x % 256 / 8 % 2 = x / 8 % 2:=by omega
  have h4:x % 256 / 16 % 2 = x / 16 % 2:=by omega
  have h5:x % 256 / 32 % 2 = x / 32 % 2:=by omega
  have h6:x % 256 / 64 % 2 = x / 64 % 2:=by omega
  have h7:x % 256 / 128 % 2 = x / 128 % 2:=by omega
  simp only [Nat.reduceMul,h0,h1,h2,h3,h4,h5,h6,h7]
  omega
theorem xa5j (y:Nat) (h:y < 256):ones y = Lib.popAux 8 y:=by
  show Lib.popAux (56 + 8) y = _
  rw [xa4w,Nat.div_eq_of_lt h,xa9e,Nat.mod_eq_of_lt h]; rfl
theorem xa3p (x:Nat) (h:x < 65536):ones x = ones (x / 256) + ones (x % 256):=by
  rw [xa5j (x / 256) (by omega),xa5j (x % 256) (by omega)]
  show Lib.popAux (56 + 8) x = _
  rw [xa4w]
  have e:Lib.popAux 56 (x / 256) = Lib.popAux 8 (x / 256):=by
    show Lib.popAux (48 + 8) (x / 256) = _
    rw [xa4w,Nat.div_eq_of_lt (by omega:x / 256 < 256),xa9e,Nat.mod_eq_of_lt (by omega)]; rfl
  rw [e]; omega
theorem xb0d (m:Nat) (h:m < 65536):bits .and .u16 (m:Int) 255 = ((m:Int) % 256):=by
  have h1:(BitVec.ofInt 16 (m:Int)).toNat = m:=by rw [BitVec.ofInt_natCast,BitVec.toNat_ofNat]; exact Nat.mod_eq_of_lt (by omega)
  have h2:(BitVec.ofInt 16 (255:Int)).toNat = 255:=by decide
  show IntKind.u16.wrap ((BitVec.ofInt 16 (m:Int) &&& BitVec.ofInt 16 (255:Int)).toNat:Int) = _
  rw [BitVec.toNat_and,h1,h2,show (255:Nat) = 2 ^ 8 - 1 by rfl,Nat.and_two_pow_sub_one_eq_mod]
  simp [IntKind.wrap,IntKind.signed,IntKind.bits]
  omega
theorem xb5v:(⟨((([0,1,1,2,1,2,2,3,1,2,2,3,2,3,3,4,1,2,2,3,2,3,3,4,2,3,3,4,3,4,4,5,1,2,2,3,2,3,3,4,2,3,3,4,3,4,4,5,2,3,3,4,3,4,4,5,3,4,4,5,4,5,5,6]:List UInt8).append [1,2,2,3,2,3,3,4,2,3,3,4,3,4,4,5,2,3,3,4,3,4,4,5,3,4,4,5,4,5,5,6,2,3,3,4,3,4,4,5,3,4,4,5,4,5,5,6,3,4,4,5,4,5,5,6,4,5,5,6,5,6,6,7]).append (([1,2,2,3,2,3,3,4,2,3,3,4,3,4,4,5,2,3,3,4,3,4,4,5,3,4,4,5,4,5,5,6,2,3,3,4,3,4,4,5,3,4,4,5,4,5,5,6,3,4,4,5,4,5,5,6,4,5,5,6,5,6,6,7]:List UInt8).append [2,3,3,4,3,4,4,5,3,4,4,5,4,5,5,6,3,4,4,5,4,5,5,6,4,5,5,6,5,6,6,7,3,4,4,5,4,5,5,6,4,5,5,6,5,6,6,7,4,5,5,6,5,6,6,7,5,6,6,7,6,7,7,8])).toArray⟩:ByteArray) = Lib.pop8tab:=by rfl
set_option maxHeartbeats 1000000 in
theorem xa9y (x:Nat) (w:World) (hx:x < 65536) :
    Calls Tryd.prog 66 #[.int .u16 x] w fun e w'=>e = .returned (.int .i64 (ones x))∧Kept [] w w':=by
  go_enter Tryd.func66,Tryd.ntmps66
  have q1:(0:Int)≤(x:Int) / 256:=by omega
  have q2:(x:Int) / 256≤255:=by omega
  have q3:(0:Int)≤(x:Int) % 256:=by omega
  have q4:(x:Int) % 256≤255:=by omega
  have qa:=xb0d x hx
  have hp1:Lib.pop8 ((x:Int) / 256) = (ones (x / 256):Int):=Lib.pop8_eq ⟨x / 256,by omega⟩
  have hp2:Lib.pop8 ((x:Int) % 256) = (ones (x % 256):Int):=Lib.pop8_eq ⟨x % 256,by omega⟩
  have l1:ones (x / 256)≤8:=Lib.onesCount_le8 ⟨x / 256,by omega⟩
  have l2:ones (x % 256)≤8:=Lib.onesCount_le8 ⟨x % 256,by omega⟩
  have HSP:=hide (xa3p x hx)
  go_wp2_with fail
  rw [xb5v]
  go_quiet (fail)
  go_wp2
  go_ret
  exact ⟨by rw [uh HSP]; simp,(Kept.refl [] w).drewN _⟩
def branchE (z:Int) (x:Nat) (ds:List (List Nat)):Nat:=if formedE z ds = 0 then (if x = 0∨ones x≠ds.length then 3 else 0) else formedE z ds
def kidsB (k:Nat) (ds:List (List Nat)):List Nat:=(ds.map fun d=>d.take k).flatten
theorem Wn.over {w0 w w':World} {b:Nat} {v:Value} {bs:List Nat} (h:Wn w0 w b v bs) (k:Kept [] w w'):Wn w0 w' b v bs :=
  ⟨h.at_.kept k (by simp) (by simp),h.new,h.hb,h.kept.trans k (by simp)⟩
def branchB (z:Int) (x:Nat) (ds:List (List Nat)):List Nat:=4 :: (wide x 2++kidsB z.toNat ds)
theorem xb1e (k:Nat) (ds:List (List Nat)) (i:Nat) (h:i < ds.length):kidsB k (ds.take (i + 1)) = kidsB k (ds.take i)++(ds.getD i []).take k:=by
  unfold kidsB
  rw [List.take_succ_eq_append_getElem h,List.map_append,List.flatten_append,List.getD_eq_getElem?_getD,List.getElem?_eq_getElem h]
  simp
theorem xb2t (k:Nat) (ds:List (List Nat)):(kidsB k ds).length≤k * ds.length:=by
  induction ds with
  | nil=>simp [kidsB]
  | cons d r ih =>
    have e:kidsB k (d :: r) = d.take k++kidsB k r:=by simp [kidsB]
    rw [e,List.length_append,List.length_cons,Nat.mul_succ,List.length_take]
    omega
theorem xb7o (x:Nat) (h:x < 65536):ones x≤16:=by
  have l1:ones (x / 256)≤8:=Lib.onesCount_le8 ⟨x / 256,by omega⟩
  have l2:ones (x % 256)≤8:=Lib.onesCount_le8 ⟨x % 256,by omega⟩
  rw [xa3p x h]; omega
set_option maxHeartbeats 1000000 in
theorem xa3w (z:Int) (x:Nat) (v:Value) (ds:List (List Nat)) (w:World) (hz:-9223372036854775808≤z∧z≤9223372036854775807) (hx:x < 65536) (hv:RdD w v ds) :
    Calls Tryd.prog 76 #[.int .i64 z,.int .u16 x,v] w fun e w'=>∃ v',e = .returned (.tuple #[v',.int .i64 (branchE z x ds)])∧NewB w w' v' (if branchE z x ds = 0 then branchB z x ds else [])∧Kept [] w w':=by
  have HV:=hide hv
  obtain ⟨ao,len,cap,rfl,h1,h2,h3,h4,h5⟩:=hv
  have H4:=hide h4
  have H5:=hide h5
  clear h4 h5
  subst h1
  have HE:=hide (show branchE z x ds = if formedE z ds = 0 then (if x = 0∨ones x≠ds.length then 3 else 0) else formedE z ds from rfl)
  have HF:=hide (show formedE z ds = if widthB z = false then 1 else if ds.all (formB z) then 0 else 3 from rfl)
  obtain ⟨R,hR⟩:∃ R,branchE z x ds = R:=⟨_,rfl⟩
  rw [hR] at HE ⊢
  clear hR
  obtain ⟨B,hB⟩:∃ B,(if R = 0 then branchB z x ds else []) = B:=⟨_,rfl⟩
  rw [hB]
  have HBB:=hide hB
  clear hB
  go_enter Tryd.func76,Tryd.ntmps76
  go_wp2_with fail
  refine Calls.mono (xa1g z _ hz) ?_
  rintro e w1 ⟨rfl,rfl⟩
  cases hw:widthB z with
  | false =>
    have HR:=hide (by rw [uh HE,uh HF,hw]; simp:R = 1)
    clear hw
    go_wp2
    go_ret2
    refine ⟨_,by rw [uh HR]; rfl,?_,Kept.refl _ _⟩
    rw [← uh HBB,uh HR]; exact NewB.nil _ _
  | true =>
    rw [hw] at HF
    have HW:=hide hw
    clear hw
    by_cases hx0:x = 0
    · have HR:=hide (by rw [uh HE]; by_cases h9:formedE z ds = 0; rw [if_pos h9,if_pos (Or.inl hx0)]; rw [if_neg h9]; have h8:=uh HF; simp at h8; rw [h8] at h9 ⊢; split at h9 <;> simp_all:R = 3)
      have hx0':((x:Int) == 0) = true:=by rw [beq_iff_eq]; omega
      have HX0:=hide hx0
      clear hx0
      go_wp2
      go_ret2
      refine ⟨_,by rw [uh HR]; rfl,?_,Kept.refl _ _⟩
      rw [← uh HBB,uh HR]; exact NewB.nil _ _
    · have hx0':((x:Int) == 0) = false:=by rw [beq_eq_false_iff_ne]; omega
      have HX0:=hide hx0
      clear hx0
      go_wp2_with fail
      have HO16:=hide (xb7o x hx)
      refine Calls.mono (xa9y x _ hx) ?_
      rintro e w2 ⟨rfl,k2⟩
      have HK2:=hide k2
      clear k2
      obtain ⟨o,ho⟩:∃ o,ones x = o:=⟨_,rfl⟩
      rw [ho] at HE HO16 ⊢
      clear ho
      by_cases hol:o = ds.length
      · have hb:((o:Int) != (ds.length:Int)) = false:=by rw [hol]; simp
        have HOL:=hide hol
        clear hol
        go_wp2_with fail
        refine Calls.mono (xb0f z _ ds _ hz ((uh HV).old (uh HK2))) ?_
        rintro e w3 ⟨rfl,k3⟩
        have HK3:=hide ((uh HK2).trans k3 (by simp))
        clear k3
        obtain ⟨f,hf⟩:∃ f,formedE z ds = f:=⟨_,rfl⟩
        rw [hf] at HE ⊢
        clear hf
        by_cases hf0:f = 0
        · have HR:=hide (by rw [uh HE,if_pos hf0,if_neg (by intro h; rcases h with h | h; exact uh HX0 h; exact h (uh HOL))]:R = 0)
          have hfb:((f:Int) != 0) = false:=by rw [hf0]; rfl
          have HF0:=hide hf0
          clear hf0
          have hwd:=xa6v (uh HW)
          obtain ⟨k,rfl⟩:∃ k:Nat,z = k:=⟨z.toNat,by omega⟩
          have hk:(k:Int)≤32:=hwd.2
          have hk':k≤32:=by omega
          have HW0:=hide (Wn.start (uh HK3))
          go_wp2_with fail
          refine Calls.mono (wn_u8 4 (uh HW0) (by decide) (by simp)) ?_
          rintro e w4 ⟨rfl,v4,h4⟩
          have HW4:=hide h4
          clear h4 HW0
          go_wp2_with fail
          refine Calls.mono (wn_u16 x (uh HW4) hx (by simp [xa3t])) ?_
          rintro e w5 ⟨rfl,v5,h5⟩
          rw [show []++wide 4 1++wide x 2 = 4 :: wide x 2 by simp [wide]] at h5
          have HW5:=hide h5
          clear h5 HW4
          go_wp2_with fail
          have HKL:=hide (fun i=>Nat.le_trans (xb2t k (ds.take i)) (Nat.mul_le_mul hk' (by rw [List.length_take]; exact Nat.min_le_right _ _)):∀ i,(kidsB k (ds.take i)).length≤32 * ds.length)
          have hdl16:ds.length≤16:=by have:=uh HO16; have:=uh HOL; omega
          go_loopw [35] (fun t35 wr=>∃ (i:Nat) (v:Value),i≤ds.length∧t35 = .int .i64 i∧Hid (Wn w1 wr w3.heap.size v (4 :: wide x 2++kidsB k (ds.take i)))) (fun t _=>ds.length - (intOf t).toNat)
          case atStart=>exact ⟨0,v5,Nat.zero_le _,rfl,by simpa [kidsB] using HW5⟩
          case round =>
            obtain ⟨i,vw,hi,rfl,HWR⟩:=hrel
            by_cases hlt:i < ds.length
            · have hlt':(i:Int) < ds.length:=by omega
              obtain ⟨b,o',rfl,hcell⟩:=uh H5 (by omega)
              have HD:=hide (uh H4 (ds.getD i []) (by rw [List.getD_eq_getElem?_getD,List.getElem?_eq_getElem hlt]; exact List.getElem_mem hlt))
              have HRG:=hide (fun j v hv=>(uh HWR).kept.cell (hcell i hlt j v hv) (by simp):wr.rangeAt b (o' + i * 32) ((ds.getD i []).map u8))
              have HSN:=hide (xb1e k ds i hlt)
              clear hcell
              obtain ⟨d,hd⟩:∃ d,ds.getD i [] = d:=⟨_,rfl⟩
              rw [hd] at HD HRG HSN
              clear hd
              have hdl:=(uh HD).1
              have HSZ:=hide (by rw [xa0b,hdl]; exact Tryd.size_dig:(Tryd.prog.info? 36).map (·.size) = some (brow d).size)
              have HNW:=hide (setRow_heap (wr.alloc (.cells (zb 32) 36)) wr.heap.size (zb 32) (brow d) 36 (0,0) (heap_alloc_new _ _))
              have HWN:=hide ((uh HWR).over (((Kept.refl [] wr).alloc (.cells (zb 32) 36)).setRow (g:=wr.heap.size) (Or.inr (Nat.le_refl _)) (brow d)))
              go_wp2_with (first
                | (refine wpList_load_mid rfl 36 (.tmp 37) rfl b (o' + i * 32) rfl (d.map u8) _ (uh HRG) Tryd.underlying36 rfl (by rw [List.length_map,hdl]; exact Tryd.size_dig) ?_)
                | (rw [zb32]; refine wpList_store_row rfl 36 (.tmp 11) _ rfl wr.heap.size (brow d) rfl rfl _ (zb 32) (heap_alloc_new _ _) (uh HSZ) (by rw [xa0g,xa0b,hdl]) (xa0f _) ?_))
              refine Calls.mono (wn_raw (uh HWN) (rd_dig (k:=k) (xa1c (uh HNW)) hdl (uh HD).2 hk') (by have h9:=uh HKL i; simp only [List.length_append,List.length_cons,xa3t,List.length_take]; omega)) ?_
              rintro e w6 ⟨rfl,v6,h6⟩
              rw [List.append_assoc,← uh HSN] at h6
              have HW6:=hide h6
              clear h6
              go_wp2
              refine ⟨⟨i + 1,v6,by omega,by go_num,HW6⟩,?_⟩
              simp [intOf]; omega
            · have hlt':¬ (i:Int) < ds.length:=by omega
              have hie:i = ds.length:=by omega
              subst hie
              have h9:=uh HKL ds.length
              rw [List.take_length] at HWR h9
              have HK9:=hide h9
              clear h9
              go_wp2_with fail
              refine Calls.mono (xa9l (uh HWR) (by have h9:=uh HK9; simp only [List.length_append,List.length_cons,xa3t]; omega)) ?_
              rintro e w7 ⟨v7,rfl,h7,k7⟩
              have H7:=hide h7
              have HK7:=hide k7
              clear h7 k7
              go_wp2
              go_ret2
              refine ⟨_,by rw [uh HR]; rfl,?_,uh HK7⟩
              have e9:B = 4 :: wide x 2++kidsB k ds:=by
                rw [← uh HBB,uh HR]; rfl
              rw [e9]; exact uh H7
        · have HR:=hide (by rw [uh HE,if_neg hf0]:R = f)
          have hfb:((f:Int) != 0) = true:=by rw [bne_iff_ne]; omega
          have HF0:=hide hf0
          clear hf0
          go_wp2
          go_ret2
          refine ⟨_,by rw [uh HR]; rfl,?_,uh HK3⟩
          rw [← uh HBB,uh HR,if_neg (uh HF0)]; exact NewB.nil _ _
      · have HR:=hide (by rw [uh HE]; by_cases h9:formedE z ds = 0; rw [if_pos h9,if_pos (Or.inr hol)]; rw [if_neg h9]; have h8:=uh HF; simp at h8; rw [h8] at h9 ⊢; split at h9 <;> simp_all:R = 3)
        have hb:((o:Int) != (ds.length:Int)) = true:=by rw [bne_iff_ne]; omega
        have HOL:=hide hol
        clear hol
        go_wp2
        go_ret2
        refine ⟨_,by rw [uh HR]; rfl,?_,uh HK2⟩
        rw [← uh HBB,uh HR]; exact NewB.nil _ _

set_option maxHeartbeats 1000000 in
theorem xa3x (v:Value) (ps:List (List Nat × List Nat)) (w:World) (h:RdK w v ps) (hl:(pairB ps).length≤1000000000000) :
    Calls Tryd.prog 72 #[v] w fun e w'=>∃ v',e = .returned v'∧NewB w w' v' (buckB ps)∧Kept [] w w':=by
  obtain ⟨ao,len,cap,vs,us,rfl,h1,h3,h4,h5,h6⟩:=h
  have H5:=hide h5
  have H6:=hide h6
  clear h5 h6
  subst h1
  go_enter Tryd.func72,Tryd.ntmps72
  have HW0:=hide (Wn.start (Kept.refl [] w))
  go_wp2_with fail
  refine Calls.mono (wn_u8 3 (uh HW0) (by decide) (by simp)) ?_
  rintro e w1 ⟨rfl,v1,h1⟩
  have HW1:=hide h1
  clear h1 HW0
  go_wp2_with fail
  refine Calls.mono (xb7e ps.length (uh HW1) (by omega) (by simp [xa3t])) ?_
  rintro e w2 ⟨rfl,v2,h2⟩
  rw [show []++wide 3 1++uv ps.length = 3 :: uv ps.length by simp [wide]] at h2
  have HW2:=hide h2
  clear h2 HW1
  have HUV:=hide (uv_len ps.length (by omega))
  go_wp2_with fail
  go_loopw [13] (fun t13 wr=>∃ (i:Nat) (v:Value),i≤ps.length∧t13 = .int .i64 i∧Hid (Wn w wr w.heap.size v (3 :: uv ps.length++pairB (ps.take i)))) (fun t _=>ps.length - (intOf t).toNat)
  case atStart=>exact ⟨0,v2,Nat.zero_le _,rfl,by simpa [pairB] using HW2⟩
  case round =>
    obtain ⟨i,vw,hi,rfl,HW⟩:=hrel
    by_cases hlt:i < ps.length
    · have hlt':(i:Int) < ps.length:=by omega
      obtain ⟨b,off,rfl,hcc⟩:=uh H6 (by omega)
      have q1:=(uh HW).kept.cell (hcc i hlt).1 (by simp)
      have q2:=(uh HW).kept.cell (hcc i hlt).2 (by simp)
      have HA:=hide (uh H5 i hlt)
      have hget:ps.getD i ([],[]) = ps[i]:=by rw [List.getD_eq_getElem?_getD,List.getElem?_eq_getElem hlt]; rfl
      rw [hget] at HA
      have HSN:=hide (xb0z ps i hlt)
      have HLE:=hide (xb5e ps (i + 1))
      clear hcc hget
      generalize vs.getD i undef = vi at q1 HA
      generalize us.getD i undef = ui at q2 HA
      generalize ps[i] = pi at HA HSN
      obtain ⟨pk,pv⟩:=pi
      simp only at HA HSN
      rw [uh HSN] at HLE
      have HLE2:=hide (by have h9:=uh HLE; simp only [List.length_append] at h9; omega:(pairB (ps.take i)).length + (uv pk.length).length + pk.length + (uv pv.length).length + pv.length≤1000000000000)
      have HU2:=hide (uv_pos pk.length)
      obtain ⟨a8,m8,c8,rfl,hm8,_⟩:=id (uh HA).1
      obtain ⟨a9,m9,c9,rfl,hm9,_⟩:=id (uh HA).2
      subst hm8
      subst hm9
      go_wp2_with fail
      have HWW:=hide (⟨(uh HW).at_.alloc (.cells #[.slice a8 pk.length c8,.slice a9 pv.length c9] 50),(uh HW).new,(uh HW).hb,(uh HW).kept.alloc _⟩:Wn w (wr.alloc (.cells #[.slice a8 pk.length c8,.slice a9 pv.length c9] 50)) w.heap.size vw (3 :: uv ps.length++pairB (ps.take i)))
      have HCW:=hide (heap_alloc_new wr (.cells #[.slice a8 pk.length c8,.slice a9 pv.length c9] 50))
      obtain ⟨W,hW⟩:∃ W,wr.alloc (.cells #[.slice a8 pk.length c8,.slice a9 pv.length c9] 50) = W:=⟨_,rfl⟩
      rw [hW] at HWW HCW ⊢
      clear hW
      have d1:W.cell? ⟨wr.heap.size,1,none⟩ = some (.slice a9 pv.length c9):=by rw [cell_of_row _ _ _ _ _ _ (uh HCW)]; rfl
      refine Calls.mono (xa7s _ vw _ _ pk W (uh HWW).at_ (fun w' k=>(uh HWW).rd (uh HA).1 k) (by have:=uh HLE2; have:=uh HUV; simp only [List.length_append,List.length_cons]; omega)) ?_
      rintro e w3 ⟨rfl,v3,h3,g3⟩
      have hn3:wr.heap.size∉w.heap.size :: vw.ownBlock.toList:=by
        intro hx
        rcases List.mem_cons.1 hx with hx | hx
        · have:=(uh HW).at_.lt; omega
        · have:=(uh HW).at_.ownlt (g:=wr.heap.size) (by simpa [Option.mem_toList] using hx); omega
      have d2:=g3.kept.cell d1 hn3
      have HW3:=hide ((uh HWW).grew h3 g3)
      clear h3 g3 hn3 d1
      go_wp2_with fail
      refine Calls.mono (xb6v (uh HW3) (uh HA).2 (by have:=uh HLE2; have:=uh HUV; simp only [List.length_append,List.length_cons]; omega)) ?_
      rintro e w4 ⟨rfl,v4,h4⟩
      have HW4:=hide h4
      clear h4
      go_wp2
      refine ⟨⟨i + 1,v4,by omega,by go_num,?_⟩,?_⟩
      · rw [uh HSN]
        simpa only [List.append_assoc] using HW4
      simp [intOf]; omega
    · have hlt':¬ (i:Int) < ps.length:=by omega
      have hie:i = ps.length:=by omega
      subst hie
      rw [List.take_length] at HW
      go_wp2_with fail
      refine Calls.mono (xa9l (uh HW) (by have:=uh HUV; simp only [List.length_append,List.length_cons]; omega)) ?_
      rintro e w6 ⟨v6,rfl,h6,k6⟩
      have H6':=hide h6
      have HK6:=hide k6
      clear h6 k6
      go_wp2
      go_ret
      exact ⟨_,rfl,uh H6',uh HK6⟩

end

section
open Go.RowKit Go.BigFrame
set_option maxHeartbeats 1000000 in
theorem xb0y (z:Int) (v:Value) (p:List Nat) (w:World) (hz:-9223372036854775808≤z∧z≤9223372036854775807) (h:Rd w v p) (hl:p.length≤140737488351232) (hT:Tabs w) :
    Calls Tryd.prog 23 #[.int .i64 z,v] w fun e w'=>e = .returned (.tuple #[.agg (brow (sumD z (2 :: p))),.int .i64 (sumE z)])∧Kept [] w w':=by
  have H:=hide h
  have HT:=hide hT
  clear h hT
  have hcl:=xa0r z (2 :: p)
  obtain ⟨B,hB⟩:∃ B,2 :: p = B:=⟨_,rfl⟩
  have HB:=hide hB
  rw [hB] at hcl ⊢
  clear hB
  obtain ⟨D,hD⟩:∃ D,sumD z B = D:=⟨_,rfl⟩
  have HD:=hide hD
  rw [hD] at hcl ⊢
  clear hD
  obtain ⟨E,hE⟩:∃ E,sumE z = E:=⟨_,rfl⟩
  have HE:=hide hE
  rw [hE]
  clear hE
  go_enter Tryd.func23,Tryd.ntmps23
  go_wp2_with fail
  rw [zb32]
  refine Calls.mono (xa6u _ p _ ((uh H).old ((Kept.refl [] w).alloc _) (by simp)) hl) ?_
  rintro e w1 ⟨v1,rfl,n1,k1⟩
  rw [uh HB] at n1
  have HR1:=hide n1.1
  obtain ⟨a1,m1,c1,hu1,hm1,_⟩:=id n1.1
  subst hu1
  have HZ1:=hide (k1.heap (heap_alloc_new w (.cells (zb 32) 36)) (by simp))
  have HK1:=hide (((Kept.refl [] w).alloc (.cells (zb 32) 36)).trans k1 (by simp))
  clear n1 k1
  go_wp2_with fail
  refine Calls.mono (xa7a z _ [B] _ hz (RdL.one (heap_alloc_new _ _) ((uh HR1).old ((Kept.refl [] w1).alloc _) (by simp))) (by have h9:=(uh HR1).len; simpa using h9) ((uh HT).k ((uh HK1).alloc _))) ?_
  rintro e w2 ⟨rfl,k2⟩
  rw [show ([B]:List (List Nat)).flatten = B by simp,uh HD,uh HE]
  have HZ2:=hide (k2.heap ((Kept.refl [] w1).alloc (.cells #[.slice a1 m1 c1] 23) |>.heap (uh HZ1) (by simp)) (by simp))
  have HK2:=hide (((uh HK1).alloc _).trans k2 (by simp))
  clear k2
  go_wp2_with (refine wpList_store_row rfl 36 _ _ rfl w.heap.size (brow D) rfl rfl _ (zb 32) (uh HZ2) (by rw [xa0b,hcl]; exact Tryd.size_dig) (by rw [xa0g,xa0b,hcl]) (xa0f _) ?_)
  refine bodyPost_ret (v:=.tuple #[.agg (brow D),.int .i64 E]) ?_ rfl ⟨rfl,(uh HK2).setRow (by simp) _⟩
  exact xa0e rfl _ _ w.heap.size _ (brow D) (0,0) _ rfl (setRow_heap _ _ _ _ _ _ (uh HZ2)) Tryd.underlying36 rfl (by rw [xa0b,hcl]; exact Tryd.size_dig) _ rfl
set_option maxHeartbeats 1000000 in
theorem xb0b (z:Int) (v:Value) (ps:List (List Nat × List Nat)) (w:World) (hz:-9223372036854775808≤z∧z≤9223372036854775807) (h:RdK w v ps) (hl:(pairB ps).length≤1000000000000) (hT:Tabs w) :
    Calls Tryd.prog 56 #[.int .i64 z,v] w fun e w'=>e = .returned (.tuple #[.agg (brow (sumD z (buckB ps))),.int .i64 (sumE z)])∧Kept [] w w':=by
  have H:=hide h
  have HT:=hide hT
  clear h hT
  have hcl:=xa0r z (buckB ps)
  obtain ⟨B,hB⟩:∃ B,buckB ps = B:=⟨_,rfl⟩
  have HB:=hide hB
  rw [hB] at hcl ⊢
  clear hB
  obtain ⟨D,hD⟩:∃ D,sumD z B = D:=⟨_,rfl⟩
  have HD:=hide hD
  rw [hD] at hcl ⊢
  clear hD
  obtain ⟨E,hE⟩:∃ E,sumE z = E:=⟨_,rfl⟩
  have HE:=hide hE
  rw [hE]
  clear hE
  go_enter Tryd.func56,Tryd.ntmps56
  go_wp2_with fail
  rw [zb32]
  refine Calls.mono (xa3x _ ps _ ((uh H).old ((Kept.refl [] w).alloc _)) hl) ?_
  rintro e w1 ⟨v1,rfl,n1,k1⟩
  rw [uh HB] at n1
  have HR1:=hide n1.1
  obtain ⟨a1,m1,c1,hu1,hm1,_⟩:=id n1.1
  subst hu1
  have HZ1:=hide (k1.heap (heap_alloc_new w (.cells (zb 32) 36)) (by simp))
  have HK1:=hide (((Kept.refl [] w).alloc (.cells (zb 32) 36)).trans k1 (by simp))
  clear n1 k1
  go_wp2_with fail
  refine Calls.mono (xa7a z _ [B] _ hz (RdL.one (heap_alloc_new _ _) ((uh HR1).old ((Kept.refl [] w1).alloc _) (by simp))) (by have h9:=(uh HR1).len; simpa using h9) ((uh HT).k ((uh HK1).alloc _))) ?_
  rintro e w2 ⟨rfl,k2⟩
  rw [show ([B]:List (List Nat)).flatten = B by simp,uh HD,uh HE]
  have HZ2:=hide (k2.heap ((Kept.refl [] w1).alloc (.cells #[.slice a1 m1 c1] 23) |>.heap (uh HZ1) (by simp)) (by simp))
  have HK2:=hide (((uh HK1).alloc _).trans k2 (by simp))
  clear k2
  go_wp2_with (refine wpList_store_row rfl 36 _ _ rfl w.heap.size (brow D) rfl rfl _ (zb 32) (uh HZ2) (by rw [xa0b,hcl]; exact Tryd.size_dig) (by rw [xa0g,xa0b,hcl]) (xa0f _) ?_)
  refine bodyPost_ret (v:=.tuple #[.agg (brow D),.int .i64 E]) ?_ rfl ⟨rfl,(uh HK2).setRow (by simp) _⟩
  exact xa0e rfl _ _ w.heap.size _ (brow D) (0,0) _ rfl (setRow_heap _ _ _ _ _ _ (uh HZ2)) Tryd.underlying36 rfl (by rw [xa0b,hcl]; exact Tryd.size_dig) _ rfl
def sunD (e:Nat) (z:Int) (p:List Nat):List Nat:=if e = 0 then sumD z p else List.replicate 32 0
def sunE (e:Nat) (z:Int):Nat:=if e = 0 then sumE z else e
theorem xa9w (e:Nat) (z:Int) (p:List Nat):(sunD e z p).length = 32:=by
  unfold sunD; split
  · exact xa0r _ _
  · simp
set_option maxHeartbeats 1000000 in
theorem xa5n (f:Nat) (z:Int) (v:Value) (p:List Nat) (w:World) (hz:-9223372036854775808≤z∧z≤9223372036854775807) (h:Rd w v p) (hT:Tabs w) :
    Calls Tryd.prog 77 #[.int .i64 f,.int .i64 z,v] w fun e w'=>e = .returned (.tuple #[.agg (brow (sunD f z p)),.int .i64 (sunE f z)])∧Kept [] w w':=by
  have H:=hide h
  obtain ⟨a0,m0,c0,hu0,hm0,_⟩:=id h
  subst hu0
  subst hm0
  have HT:=hide hT
  clear h hT
  have hcl:=xa9w f z p
  obtain ⟨D,hD⟩:∃ D,sunD f z p = D:=⟨_,rfl⟩
  have HD:=hide hD
  rw [hD] at hcl ⊢
  clear hD
  obtain ⟨E,hE⟩:∃ E,sunE f z = E:=⟨_,rfl⟩
  have HE:=hide hE
  rw [hE]
  clear hE
  have HL:=hide (uh H).len
  go_enter Tryd.func77,Tryd.ntmps77
  by_cases hf:f = 0
  · have hb:((f:Int) != 0) = false:=by rw [hf]; rfl
    have HD2:=hide (by rw [← uh HD]; unfold sunD; rw [if_pos hf]:D = sumD z p)
    have HE2:=hide (by rw [← uh HE]; unfold sunE; rw [if_pos hf]:E = sumE z)
    have HF:=hide hf
    clear hf
    go_wp2_with fail
    rw [zb32]
    refine Calls.mono (xa7a z _ [p] _ hz (RdL.one (xa2d _ _ _) ((uh H).old (((Kept.refl [] w).alloc _).alloc _) (by simp))) (by have h9:=uh HL; simpa using h9) ((uh HT).k (((Kept.refl [] w).alloc _).alloc _))) ?_
    rintro e w2 ⟨rfl,k2⟩
    rw [show ([p]:List (List Nat)).flatten = p by simp,← uh HD2,← uh HE2]
    have HZ2:=hide (k2.heap (((Kept.refl [] (w.alloc (.cells (zb 32) 36))).alloc (.cells #[.slice a0 p.length c0] 23)).heap (heap_alloc_new w (.cells (zb 32) 36)) (by simp)) (by simp))
    have HK2:=hide ((((Kept.refl [] w).alloc _).alloc _).trans k2 (by simp))
    clear k2
    go_wp2_with (refine wpList_store_row rfl 36 _ _ rfl w.heap.size (brow D) rfl rfl _ (zb 32) (uh HZ2) (by rw [xa0b,hcl]; exact Tryd.size_dig) (by rw [xa0g,xa0b,hcl]) (xa0f _) ?_)
    refine bodyPost_ret (v:=.tuple #[.agg (brow D),.int .i64 E]) ?_ rfl ⟨rfl,(uh HK2).setRow (by simp) _⟩
    exact xa0e rfl _ _ w.heap.size _ (brow D) (0,0) _ rfl (setRow_heap _ _ _ _ _ _ (uh HZ2)) Tryd.underlying36 rfl (by rw [xa0b,hcl]; exact Tryd.size_dig) _ rfl
  · have hb:((f:Int) != 0) = true:=by rw [bne_iff_ne]; omega
    have HD2:=hide (by rw [← uh HD]; unfold sunD; rw [if_neg hf]:D = List.replicate 32 0)
    have HE2:=hide (by rw [← uh HE]; unfold sunE; rw [if_neg hf]:E = f)
    have HF:=hide hf
    clear hf
    go_wp2_with (rw [zb32]; refine wpList_store_row rfl 36 _ _ rfl w.heap.size (zb 32) rfl rfl _ (zb 32) (heap_alloc_new _ _) (by rw [xa0g]; exact Tryd.size_dig) rfl (xa0f _) ?_)
    rw [uh HD2,uh HE2]
    refine bodyPost_ret (v:=.tuple #[.agg (zb 32),.int .i64 f]) ?_ rfl ⟨rfl,((Kept.refl [] w).alloc _).setRow (by simp) _⟩
    exact xa0e rfl _ _ w.heap.size _ (zb 32) (0,0) _ rfl (setRow_heap _ _ _ _ _ _ (heap_alloc_new _ _)) Tryd.underlying36 rfl (by rw [xa0g]; exact Tryd.size_dig) _ rfl
set_option maxHeartbeats 1000000 in
theorem xb1o (z:Int) (x:Nat) (v:Value) (ds:List (List Nat)) (w:World) (hz:-9223372036854775808≤z∧z≤9223372036854775807) (hx:x < 65536) (h:RdD w v ds) (hT:Tabs w) :
    Calls Tryd.prog 68 #[.int .i64 z,.int .u16 x,v] w fun e w'=>e = .returned (.tuple #[.agg (brow (sunD (branchE z x ds) z (branchB z x ds))),.int .i64 (sunE (branchE z x ds) z)])∧Kept [] w w':=by
  have HT:=hide hT
  clear hT
  have hcl:=xa9w (branchE z x ds) z (branchB z x ds)
  have HX:=hide (by unfold sunD; by_cases h9:branchE z x ds = 0; rw [if_pos h9,if_pos h9,if_pos h9]; rw [if_neg h9,if_neg h9]:sunD (branchE z x ds) z (if branchE z x ds = 0 then branchB z x ds else []) = sunD (branchE z x ds) z (branchB z x ds))
  obtain ⟨f,hf⟩:∃ f,branchE z x ds = f:=⟨_,rfl⟩
  have HF:=hide hf
  rw [hf] at hcl HX ⊢
  clear hf
  obtain ⟨D,hD⟩:∃ D,sunD f z (branchB z x ds) = D:=⟨_,rfl⟩
  have HD:=hide hD
  rw [hD] at hcl HX ⊢
  clear hD
  obtain ⟨E,hE⟩:∃ E,sunE f z = E:=⟨_,rfl⟩
  have HE:=hide hE
  rw [hE]
  clear hE
  go_enter Tryd.func68,Tryd.ntmps68
  go_wp2_with fail
  rw [zb32]
  refine Calls.mono (xa3w z x _ ds _ hz hx (h.old ((Kept.refl [] w).alloc _))) ?_
  rintro e w1 ⟨v1,rfl,n1,k1⟩
  rw [uh HF] at n1 ⊢
  have HR1:=hide n1.1
  obtain ⟨a1,m1,c1,hu1,hm1,_⟩:=id n1.1
  subst hu1
  have HZ1:=hide (k1.heap (heap_alloc_new w (.cells (zb 32) 36)) (by simp))
  have HK1:=hide (((Kept.refl [] w).alloc (.cells (zb 32) 36)).trans k1 (by simp))
  clear n1 k1 hm1
  go_wp2_with fail
  refine Calls.mono (xa5n f z _ _ w1 hz (uh HR1) ((uh HT).k (uh HK1))) ?_
  rintro e w2 ⟨rfl,k2⟩
  rw [uh HX,uh HE]
  have HZ2:=hide (k2.heap (uh HZ1) (by simp))
  have HK2:=hide ((uh HK1).trans k2 (by simp))
  clear k2
  go_wp2_with (refine wpList_store_row rfl 36 _ _ rfl w.heap.size (brow D) rfl rfl _ (zb 32) (uh HZ2) (by rw [xa0b,hcl]; exact Tryd.size_dig) (by rw [xa0g,xa0b,hcl]) (xa0f _) ?_)
  refine bodyPost_ret (v:=.tuple #[.agg (brow D),.int .i64 E]) ?_ rfl ⟨rfl,(uh HK2).setRow (by simp) _⟩
  exact xa0e rfl _ _ w.heap.size _ (brow D) (0,0) _ rfl (setRow_heap _ _ _ _ _ _ (uh HZ2)) Tryd.underlying36 rfl (by rw [xa0b,hcl]; exact Tryd.size_dig) _ rfl
end

section
open Go.RowKit
def strOf (p:List Nat):ByteArray:=⟨(p.map UInt8.ofNat).toArray⟩
theorem xb6w (s:ByteArray):∀ n i r,s.size - i = n→ByteArray.toList.loop s i r = r.reverse++s.data.toList.drop i:=by
  intro n
  induction n with
  | zero =>
    intro i r h
    rw [ByteArray.toList.loop]
    have h1:s.size = s.data.toList.length:=(Array.length_toList).symm
    rw [if_neg (by omega),List.drop_eq_nil_of_le (by omega),List.append_nil]
  | succ n ih =>
    intro i r h
    rw [ByteArray.toList.loop]
    have h1:s.size = s.data.toList.length:=(Array.length_toList).symm
    have h2:i < s.data.toList.length:=by omega
    rw [if_pos (by omega),ih (i + 1) _ (by omega),List.drop_eq_getElem_cons h2]
    have h3:s.get! i = s.data.toList[i]:=by
      have h4:i < s.data.size:=by simpa using h2
      rw [Array.getElem_toList]
      exact getElem!_pos s.data i h4
    simp [h3]
theorem xa7t (s:ByteArray):s.toList = s.data.toList:=by
  unfold ByteArray.toList
  rw [xb6w s _ 0 [] rfl]
  simp
theorem xb1x {p q:List Nat} (hp:∀ x∈p,x < 256) (hq:∀ x∈q,x < 256) (h:strOf p = strOf q):p = q:=by
  have h1:p.map UInt8.ofNat = q.map UInt8.ofNat:=by
    have:=congrArg (fun b=>b.data.toList) h
    simpa [strOf] using this
  have h2:=congrArg (List.map UInt8.toNat) h1
  simp only [List.map_map] at h2
  have e:∀ l:List Nat,(∀ x∈l,x < 256)→l.map (UInt8.toNat ∘ UInt8.ofNat) = l:=by
    intro l hl
    conv=>rhs; rw [← List.map_id l]
    apply List.map_congr_left
    intro x hx
    have:=hl x hx
    simp [UInt8.toNat_ofNat]; omega
  rw [e p hp,e q hq] at h2
  exact h2
theorem xa9f (v:Value) (p:List Nat) (w:World) (h:Rd w v p) (hu5:Tryd.prog.underlying 5 = some (.int .u8)) (hu9:Tryd.prog.underlying 9 = some .string) :
    (convert 23 9 v).run Tryd.prog w = .ok (.string (strOf p)) w:=by
  obtain ⟨ao,len,cap,rfl,rfl,h2,h3,h4,h5,h6⟩:=h
  have hl:p.length = (p.map UInt8.ofNat).length:=by simp
  cases ao with
  | none =>
    have hz:=h4 rfl
    have hp0:p = []:=List.eq_nil_of_length_eq_zero (by omega)
    subst hp0
    rw [run_convert_bytes_string w 23 9 5 none _ cap Tryd.underlying23 hu5 hu9]
    simp [Conv.bytesToString,strOf]
    rfl
  | some a =>
    rw [hl]
    refine run_convert_bytes_back w 23 9 5 a cap (p.map UInt8.ofNat) Tryd.underlying23 hu5 hu9 (fun j hj=>?_)
    simp at hj
    obtain ⟨b,off,he,hc⟩:=h6 (by omega)
    cases he
    have:=hc j hj
    rw [Addr.add_mid,this]
    have hb:=h5 (p[j]) (List.getElem_mem hj)
    simp [u8,List.getD_eq_getElem?_getD,List.getElem?_eq_getElem hj,UInt8.toNat_ofNat]
    omega
set_option maxHeartbeats 2000000 in
theorem xa1p (u v:Value) (p q:List Nat) (w:World) (hu:Rd w u p) (hv:Rd w v q) :
    Calls Tryd.prog 11 #[u,v] w fun e w'=>e = .returned (.bool (decide (p = q)))∧w' = w:=by
  have hu5:Tryd.prog.underlying 5 = some (.int .u8):=by kernel_rfl
  have hu9:Tryd.prog.underlying 9 = some .string:=by kernel_rfl
  have c1:=xa9f u p w hu hu5 hu9
  have c2:=xa9f v q w hv hu5 hu9
  have hd:((strOf p).toList == (strOf q).toList) = decide (p = q):=by
    rw [xa7t,xa7t]
    by_cases h:p = q
    · subst h; simp
    · have h2:¬ (strOf p).data.toList = (strOf q).data.toList:=fun e=>h (xb1x hu.byte hv.byte (by
        have e2:=congrArg List.toArray e
        simp only [Array.toArray_toList] at e2
        cases hp:strOf p; cases hq:strOf q
        rw [hp,hq] at e2
        simp only at e2
        rw [e2]))
      rw [decide_eq_false h]
      exact beq_eq_false_iff_ne.2 h2
  have Hd:=hide hd
  generalize strOf p = s1 at *
  generalize strOf q = s2 at *
  clear hu hv hu5 hu9 hd
  go_enter Tryd.func11,Tryd.ntmps11
  go_wp2
  go_ret
  exact ⟨by rw [uh Hd]; rfl,rfl⟩
end
section
open Go Go.RowKit Go.BigFrame

end
section
open Go.RowKit Go.BigFrame
theorem xa5b (z:Int) (p:List Nat):Dg (sumD z p):=⟨xa0r _ _,by
  unfold sumD
  split
  · exact xb2l _ _ (xa7o _)
  · intro x hx; simp at hx; omega⟩
theorem xb1z {k:Nat} {d:List Nat} (hk:k≤32) (hd:d.length = 32):cutL k (cutL k d) = cutL k d:=by
  unfold cutL
  rw [List.take_append_of_le_length (by simp; omega),List.take_take,Nat.min_self]
theorem xa4v {z:Int} (hw:widthB z = true) (p:List Nat):formB z (sumD z p) = true:=by
  unfold formB sumD
  have h:=xa6v hw
  rw [hw]
  simp only [if_true,Bool.true_and]
  rw [xb1z (by omega) (xa3d _)]
  simp
theorem xb5z {k:Nat} (hk:1≤k∧k≤32) (p:List Nat):sumD (k:Int) p = cutL k (hash p):=by
  unfold sumD
  rw [if_pos (by simp [widthB]; omega),Int.toNat_natCast]
theorem xa4b {P:Program} {w:World} {v:Value} {a:List Nat} (h:Rd w v a):∃ r:ByteArray,(Extern.Bytes.bytesOf v).run P w = .ok r w∧r.data.toList = a.map b8:=by
  obtain ⟨ao,n,c,rfl,h1,h2,h3,h4,_,h5⟩:=h
  subst h1
  cases ao with
  | none =>
    have h0:a = []:=List.eq_nil_of_length_eq_zero (by have:=h4 rfl; omega)
    subst h0
    exact ⟨.empty,rfl,rfl⟩
  | some p =>
    rcases Nat.eq_zero_or_pos a.length with h0 | h0
    · have h0':a = []:=List.eq_nil_of_length_eq_zero h0
      subst h0'
      exact ⟨.empty,rfl,rfl⟩
    · obtain ⟨b,off,he,hc⟩:=h5 h0
      cases he
      obtain ⟨r,hr,e⟩:=xa1a (P:=P) (w:=w) (g:=b) a off .empty hc
      exact ⟨r,hr,by rw [e]; simp⟩
theorem xb5u {P:Program} {w:World} {u v:Value} {a b:List Nat} (ha:Rd w u a) (hb:Rd w v b):(Extern.BytealgCompare.compare #[u,v]).run P w = .ok (.int .i64 (ordL a b)) w:=by
  obtain ⟨r,hr,he⟩:=xa4b (P:=P) ha
  obtain ⟨r',hr',he'⟩:=xa4b (P:=P) hb
  change Sem.run P (do pure (goInt (Extern.BytealgCompare.cmp (← Extern.Bytes.bytesOf u) (← Extern.Bytes.bytesOf v)))) w = _
  simp only [Sem.run_bind,hr,hr',Sem.run_pure,Result.andThen]
  rw [Lib.cmp_eq,he,he']
  show Result.ok (goInt (Lib.compareBytes (a.map b8) (b.map b8))) w = _
  rw [xb1h a b ha.byte hb.byte]
  rfl
set_option maxHeartbeats 1000000 in
theorem xb6d (u v:Value) (a b:List Nat) (w:World) (ha:Rd w u a) (hb:Rd w v b) :
    Calls Tryd.prog 33 #[u,v] w fun e w'=>e = .returned (.int .i64 (ordL a b))∧w' = w:=by
  obtain ⟨ao,n,c,rfl,h1,_,_,h4,h5,_⟩:=id ha
  obtain ⟨bo,m,d,rfl,g1,_,_,g4,g5,_⟩:=id hb
  have HC:=hide (fun (P:Program)=>xb5u (P:=P) ha hb)
  clear ha hb h4 g4 h5 g5
  go_enter Tryd.func33,Tryd.ntmps33
  go_wp2
  rw [run_callFunc_extern Tryd.func49 (by kernel_rfl) (by kernel_rfl) (by kernel_rfl) (e:=Extern.BytealgCompare.compare) (by kernel_rfl),uh HC]
  simp only [Result.andThen]
  rw [Oper.upon_value]
  go_wp2
  go_ret
  exact ⟨rfl,rfl⟩
theorem xb2q {x:Nat} (hx:x < 65536):ones x = cnt x 16:=by
  have h:∀ y,y < 256→ones y = cnt y 8:=fun y hy=>by
    have h1:Lib.pop8 (y:Int) = (ones y:Int):=Lib.pop8_eq ⟨y,hy⟩
    rw [xb0n hy] at h1; omega
  rw [xa3p x hx,xa8j,h _ (by omega),h _ (by omega)]
def hsZ (k:Nat):Hs:=⟨k,fun p=>sumD (k:Int) (2 :: p),fun ps=>sumD (k:Int) (buckB ps),fun x ds=>sumD (k:Int) (branchB (k:Int) x ds)⟩
theorem wide_k {k:Nat} (hk:1≤k∧k≤32):widthB (k:Int) = true:=by unfold widthB; rw [decide_eq_true (by omega)]
theorem hsZ_ok {k:Nat} (hk:1≤k∧k≤32):(hsZ k).Ok:=⟨hk.1,hk.2,fun _=>xa5b _ _,fun p j hj=>by
  show dgt (sumD (k:Int) (2 :: p)) j = 0
  have hj':2 * k≤j:=hj
  rw [xb5z hk]
  have h0:(cutL k (hash (2 :: p))).getD (j / 2) 0 = 0:=by
    unfold cutL
    rw [List.getD_eq_getElem?_getD,List.getElem?_append_right (by simp; omega),List.getElem?_replicate]
    split <;> rfl
  unfold dgt
  rw [h0]; simp⟩
theorem xa4e {k:Nat} (hk:1≤k∧k≤32) (q:List Nat):formB (k:Int) ((hsZ k).kd q) = true:=xa4v (wide_k hk) _
theorem xb4x {k:Nat} (hk:1≤k∧k≤32) (f:Nat) (L:Prs):formB (k:Int) (nodP (hsZ k) f L) = true:=by
  cases f with
  | zero=>exact xa4v (wide_k hk) _
  | succ f=>unfold nodP; split <;> exact xa4v (wide_k hk) _
theorem nod_dg (k f:Nat) (L:Prs):Dg (nodP (hsZ k) f L):=by
  cases f with
  | zero=>exact xa5b _ _
  | succ f=>unfold nodP; split <;> exact xa5b _ _
theorem xa6l {k:Nat} (hk:1≤k∧k≤32) {ds:List (List Nat)} (h:∀ d∈ds,formB (k:Int) d = true):formedE (k:Int) ds = 0:=by
  unfold formedE
  rw [if_neg (by simp [wide_k hk]),if_pos (List.all_eq_true.2 h)]
theorem xb7t {k:Nat} (hk:1≤k∧k≤32) {x:Nat} (hx:x < 65536) {ds:List (List Nat)} (h:∀ d∈ds,formB (k:Int) d = true) (hc:cnt x 16 = ds.length) (hn:ds≠[]):branchE (k:Int) x ds = 0:=by
  unfold branchE
  rw [if_pos (xa6l hk h),xb2q hx,hc,if_neg]
  rintro (h1 | h1)
  · subst h1
    have h2:cnt 0 16 = 0:=by decide
    rw [h2] at hc
    cases ds with
    | nil=>exact hn rfl
    | cons d ds=>simp at hc
  · exact h1 rfl
def Agr (S:Nat→Prop) (W W':World):Prop:=W.heap.size≤W'.heap.size∧∀ x,S x→x < W.heap.size→W'.heap[x]? = W.heap[x]?
theorem Agr.refl (S:Nat→Prop) (W:World):Agr S W W:=⟨Nat.le_refl _,fun _ _ _=>rfl⟩
theorem Agr.trans {S:Nat→Prop} {a b c:World} (h:Agr S a b) (k:Agr S b c):Agr S a c :=
  ⟨Nat.le_trans h.1 k.1,fun x hx hl=>(k.2 x hx (Nat.lt_of_lt_of_le hl h.1)).trans (h.2 x hx hl)⟩
theorem Agr.kept {S:Nat→Prop} {M:List Nat} {W W':World} (k:Kept M W W') (h:∀ x∈M,¬ S x):Agr S W W' :=
  ⟨k.size,fun x hx hl=>k.block x hl (fun hm=>h x hm hx)⟩
theorem Agr.nil {S:Nat→Prop} {W W':World} (k:Kept [] W W'):Agr S W W':=Agr.kept k (by simp)
theorem Agr.sub {S T:Nat→Prop} {W W':World} (h:Agr S W W') (hs:∀ x,T x→S x):Agr T W W':=⟨h.1,fun x hx hl=>h.2 x (hs x hx) hl⟩
theorem Agr.heap {S:Nat→Prop} {W W':World} (h:Agr S W W') {b:Nat} {o:Obj} (hb:W.heap[b]? = some o) (hs:S b):W'.heap[b]? = some o :=
  (h.2 b hs (lt_of_block hb)).trans hb
theorem Agr.cell {S:Nat→Prop} {W W':World} (h:Agr S W W') {a:Addr} {v:Value} (hc:W.cell? a = some v) (hs:S a.block):W'.cell? a = some v :=
  (World.cell?_of_block (h.2 a.block hs (block_lt_of_cell hc))).trans hc
def Sty (S:Nat→Prop) (W:World) (P:World→Prop):Prop:=∀ W',Agr S W W'→P W'
theorem Sty.now {S:Nat→Prop} {W:World} {P:World→Prop} (h:Sty S W P):P W:=h W (Agr.refl S W)
theorem Sty.agr {S:Nat→Prop} {W W':World} {P:World→Prop} (h:Sty S W P) (a:Agr S W W'):Sty S W' P:=fun w k=>h w (a.trans k)
theorem Sty.rd {S:Nat→Prop} {W:World} {v:Value} {bs:List Nat} (h:Rd W v bs) (hs:∀ x∈blk v,S x):Sty S W (fun w=>Rd w v bs):=fun w k=>by
  obtain ⟨ao,len,cap,rfl,h1,h2,h3,h4,h5,h6⟩:=h
  refine ⟨ao,len,cap,rfl,h1,h2,h3,h4,h5,fun hp=>?_⟩
  obtain ⟨b,off,rfl,hc⟩:=h6 hp
  exact ⟨b,off,rfl,fun i hi=>k.cell (hc i hi) (hs b (by simp [blk]))⟩
def SRow (S:Nat→Prop) (W:World) (v:Value) (vs:List Value):Prop :=
  ∃ b off cap,v = .slice (some ⟨b,off,none⟩) vs.length cap∧vs.length≤cap∧cap≤9223372036854775807∧S b∧∀ i,i < vs.length→W.cell? ⟨b,off + i,none⟩ = some (vs.getD i undef)
theorem SRow.agr {S:Nat→Prop} {W W':World} {v:Value} {vs:List Value} (h:SRow S W v vs) (a:Agr S W W'):SRow S W' v vs:=by
  obtain ⟨b,off,cap,h1,h2,h3,h4,h5⟩:=h
  exact ⟨b,off,cap,h1,h2,h3,h4,fun i hi=>a.cell (h5 i hi) h4⟩
def KRow (S:Nat→Prop) (W:World) (pv:Value) (L:Prs):Prop :=
  ∃ (b off cap:Nat) (l:List (Value × Value)),pv = .slice (some ⟨b,off,none⟩) l.length cap∧l.length≤cap∧cap≤9223372036854775807∧S b∧l.length = L.length ∧
    (∀ i,i < l.length→W.cell? ⟨b,off + i * 2,none⟩ = some (l.getD i (undef,undef)).1∧W.cell? ⟨b,off + i * 2 + 1,none⟩ = some (l.getD i (undef,undef)).2) ∧
    ∀ i,i < l.length→Sty S W (fun w=>Rd w (l.getD i (undef,undef)).1 (L.getD i ([],[])).1∧Rd w (l.getD i (undef,undef)).2 (L.getD i ([],[])).2)
theorem KRow.agr {S:Nat→Prop} {W W':World} {pv:Value} {L:Prs} (h:KRow S W pv L) (a:Agr S W W'):KRow S W' pv L:=by
  obtain ⟨b,off,cap,l,h1,h2,h3,h4,h5,h6,h7⟩:=h
  exact ⟨b,off,cap,l,h1,h2,h3,h4,h5,fun i hi=>⟨a.cell (h6 i hi).1 h4,a.cell (h6 i hi).2 h4⟩,fun i hi=>(h7 i hi).agr a⟩
theorem KRow.rdK {S:Nat→Prop} {W:World} {pv:Value} {L:Prs} (h:KRow S W pv L):RdK W pv L:=by
  obtain ⟨b,off,cap,l,h1,h2,h3,h4,h5,h6,h7⟩:=h
  have e1:∀ i,i < l.length→(l.map (·.1)).getD i undef = (l.getD i (undef,undef)).1∧(l.map (·.2)).getD i undef = (l.getD i (undef,undef)).2:=fun i hi=>by
    simp [List.getD_eq_getElem?_getD,List.getElem?_eq_getElem hi]
  refine ⟨_,l.length,cap,l.map (·.1),l.map (·.2),h1,h5.symm,h2,h3,fun i hi=>?_,fun _=>⟨b,off,rfl,fun i hi=>?_⟩⟩
  · rw [(e1 i hi).1,(e1 i hi).2]; exact (h7 i hi).now
  · rw [(e1 i hi).1,(e1 i hi).2]; exact h6 i hi
def bkC (D:List Nat) (pv:Value) (O:List Nat):List Value:=D.map u8++([pv]++(O.map u8++[]))
def brC (x:Nat) (kv:Value) (O:List Nat):List Value:=[.int .u16 (x:Int),kv]++(O.map u8++[])
def BkAt (S:Nat→Prop) (H:Hs) (W:World) (g:Nat) (L:Prs):Prop :=
  ∃ pv,S g∧W.heap[g]? = some (.cells (bkC (H.kd (L.headD ([],[])).1) pv (H.hb L)).toArray 72 (0,0))∧L≠[]∧KRow S W pv L
abbrev bkV (g:Nat):Value:=.iface 65 (.pointer (some ⟨g,0,none⟩))
abbrev brV (g:Nat):Value:=.iface 85 (.pointer (some ⟨g,0,none⟩))
theorem BkAt.agr {S:Nat→Prop} {H:Hs} {W W':World} {g:Nat} {L:Prs} (h:BkAt S H W g L) (a:Agr S W W'):BkAt S H W' g L:=by
  obtain ⟨pv,h1,h2,h3,h4⟩:=h
  exact ⟨pv,h1,a.heap h2 h1,h3,h4.agr a⟩
def TreeAt (S:Nat→Prop) (H:Hs) (W:World):Nat→Value→Prs→Prop
  | 0,v,L=>sgl H L = true∧∃ g,v = bkV g∧BkAt S H W g L
  | f + 1,v,L=>(sgl H L = true→∃ g,v = bkV g∧BkAt S H W g L)∧(sgl H L = false→∃ g kv vs,v = brV g∧S g∧W.heap[g]? = some (.cells (brC (bm H (63 - f) L) kv (nodP H (f + 1) L)).toArray 110 (0,0)) ∧
      SRow S W kv vs∧vs.length = (kidsL H (63 - f) L).length∧∀ i,i < vs.length→TreeAt S H W f (vs.getD i undef) ((kidsL H (63 - f) L).getD i []))
theorem TreeAt.agr {S:Nat→Prop} {H:Hs} {W W':World} (a:Agr S W W'):∀ {f:Nat} {v:Value} {L:Prs},TreeAt S H W f v L→TreeAt S H W' f v L
  | 0,v,L,h=>by
    obtain ⟨hs,g,h1,h2⟩:=h
    exact ⟨hs,g,h1,h2.agr a⟩
  | f + 1,v,L,h=>by
    refine ⟨fun hs=>?_,fun hs=>?_⟩
    · obtain ⟨g,h1,h2⟩:=h.1 hs
      exact ⟨g,h1,h2.agr a⟩
    · obtain ⟨g,kv,vs,h1,h2,h3,h4,h5,h6⟩:=h.2 hs
      exact ⟨g,kv,vs,h1,h2,a.heap h3 h2,h4.agr a,h5,fun i hi=>(h6 i hi).agr a⟩
theorem TreeAt.bk {S:Nat→Prop} {H:Hs} {W:World} {f:Nat} {v:Value} {L:Prs} (h:TreeAt S H W f v L) (hs:sgl H L = true):∃ g,v = bkV g∧BkAt S H W g L:=by
  cases f with
  | zero=>exact h.2
  | succ f=>exact h.1 hs
theorem TreeAt.ofBk {S:Nat→Prop} {H:Hs} {W:World} (f:Nat) {g:Nat} {L:Prs} (h:BkAt S H W g L) (hs:sgl H L = true):TreeAt S H W f (bkV g) L:=by
  cases f with
  | zero=>exact ⟨hs,g,rfl,h⟩
  | succ f=>exact ⟨fun _=>⟨g,rfl,h⟩,fun hn=>by rw [hs] at hn; cases hn⟩
theorem TreeAt.ne {S:Nat→Prop} {H:Hs} {W:World} {f:Nat} {v:Value} {L:Prs} (h:TreeAt S H W f v L):L≠[]:=by
  intro e
  subst e
  obtain ⟨g,_,pv,_,_,hn,_⟩:=h.bk (xb3n H)
  exact hn rfl
def TopAt (S:Nat→Prop) (H:Hs) (W:World) (v:Value) (L:Prs):Prop:=(L = []∧v = .nilIface)∨TreeAt S H W 64 v L
theorem TopAt.agr {S:Nat→Prop} {H:Hs} {W W':World} {v:Value} {L:Prs} (h:TopAt S H W v L) (a:Agr S W W'):TopAt S H W' v L:=by
  rcases h with h | h
  · exact Or.inl h
  · exact Or.inr (h.agr a)
def Fit (L:Prs):Prop:=∀ p∈L,p.1.length≤64∧p.2.length≤256
theorem Fit.sub {L M:Prs} (h:Fit L) (hs:∀ x∈M,x∈L):Fit M:=fun p hp=>h p (hs p hp)
structure MapAt (S:Nat→Prop) (k:Nat) (W:World) (v:Value) (L:Prs):Prop where
  ok:1≤k∧k≤32
  srt:Srt (hsZ k) L
  fit:Fit L
  len:L.length≤1000000000
  at_:∃ g tv,v = .pointer (some ⟨g,0,none⟩)∧S g∧W.heap[g]? = some (.cells #[.int .i64 k,.int .i64 (L.length:Nat),tv] 61 (0,0))∧TopAt S (hsZ k) W tv L
theorem MapAt.agr {S:Nat→Prop} {k:Nat} {W W':World} {v:Value} {L:Prs} (h:MapAt S k W v L) (a:Agr S W W'):MapAt S k W' v L:=by
  obtain ⟨h1,h2,h3,h4,g,tv,h5,h6,h7,h8⟩:=h
  exact ⟨h1,h2,h3,h4,g,tv,h5,h6,a.heap h7 h6,h8.agr a⟩
theorem xb4z {place:Nat→Option (Nat × Nat)} {A:Array Value} {i off:Nat} {vs:List Value} {rest:List (Nat × Value)} (hp:place i = some (off,vs.length)) (h:off + vs.length≤A.size) :
    Instr.fill place A ((i,.agg vs.toArray) :: rest) = Instr.fill place (A.toList.take off++(vs++A.toList.drop (off + vs.length))).toArray rest:=by
  conv=>lhs; unfold Instr.fill
  rw [hp]
  have h1:(Value.agg vs.toArray).cells = vs.toArray:=rfl
  simp only [h1,List.size_toArray]
  rw [if_neg (by simp; omega)]
  have h2:=xa5a vs A off 0 (by omega)
  rw [Nat.add_zero] at h2
  have h3:vs.toArray.zipIdx.foldl (fun cs x=>cs.setIfInBounds (off + x.2) x.1) A = (vs.zipIdx 0).foldl (fun cs x=>cs.setIfInBounds (off + x.2) x.1) A:=by simp
  rw [← h2,← h3]
theorem xa0z {place:Nat→Option (Nat × Nat)} {i n:Nat} {rest:List (Nat × Value)} (pre mid post vs:List Value) {X:Value} (hX:X.cells = vs.toArray) (hp:place i = some (pre.length,n)) (hn:vs.length = n) (hm:mid.length = n) :
    Instr.fill place (pre++(mid++post)).toArray ((i,X) :: rest) = Instr.fill place (pre++(vs++post)).toArray rest:=by
  have e:Instr.fill place (pre++(mid++post)).toArray ((i,X) :: rest) = Instr.fill place (pre++(mid++post)).toArray ((i,.agg vs.toArray) :: rest):=by
    have h1:(Value.agg vs.toArray).cells = vs.toArray:=rfl
    conv=>lhs; unfold Instr.fill
    conv=>rhs; unfold Instr.fill
    rw [hX,h1]
  subst hn
  rw [e,xb4z hp (by rw [List.size_toArray,List.length_append,List.length_append,hm]; omega)]
  rw [List.take_left,← List.append_assoc pre mid post,show pre.length + vs.length = (pre++mid).length by rw [List.length_append,hm],List.drop_left]
theorem zbk:(Tryd.prog.info? 72).map (fun i=>(i.zero,i.size)) = some (some (.agg (bkC (List.replicate 32 0) (.slice none 0 0) (List.replicate 32 0)).toArray),65):=by kernel_rfl
theorem zbr:(Tryd.prog.info? 110).map (fun i=>(i.zero,i.size)) = some (some (.agg (brC 0 (.slice none 0 0) (List.replicate 32 0)).toArray),34):=by kernel_rfl
theorem fbk:∀ fs,Tryd.prog.underlying 72 = some (.struct fs)→fs.toList.mapM (fun f=>(Tryd.prog.info? f.type).map fun i=>(f.offset,i.size)) = some [(0,32),(32,1),(33,32)]:=by
  intro fs hfs
  rw [Tryd.underlying72] at hfs
  injection hfs with hfs
  injection hfs with hfs
  subst hfs
  kernel_rfl
theorem fbr:∀ fs,Tryd.prog.underlying 110 = some (.struct fs)→fs.toList.mapM (fun f=>(Tryd.prog.info? f.type).map fun i=>(f.offset,i.size)) = some [(0,1),(1,1),(2,32)]:=by
  intro fs hfs
  rw [Tryd.underlying110] at hfs
  injection hfs with hfs
  injection hfs with hfs
  subst hfs
  kernel_rfl
theorem xb6f (D O:List Nat) (ao:Option Addr) (n c:Nat) (hD:D.length = 32) (hO:O.length = 32):Tryd.prog.built 72 [(0,.agg (brow D)),(1,.slice ao n c),(2,.agg (brow O))] = some (bkC D (.slice ao n c) O).toArray:=by
  have hz:=zbk
  obtain ⟨it,hit⟩:∃ it,Tryd.prog.info? 72 = some it:=by
    cases h:Tryd.prog.info? 72 with
    | none=>rw [h] at hz; cases hz
    | some it=>exact ⟨it,rfl⟩
  rw [hit] at hz
  simp only [Option.map_some,Option.some.injEq,Prod.mk.injEq] at hz
  obtain ⟨fs,hfs⟩:∃ fs,Tryd.prog.underlying 72 = some (.struct fs):=⟨_,Tryd.underlying72⟩
  have hpl:=fbk fs hfs
  unfold Program.built
  rw [hit,hfs]
  simp only [hz.1,hpl,Value.cells]
  have z1:(List.replicate 32 0:List Nat).length = 32:=List.length_replicate
  generalize (List.replicate 32 0:List Nat) = z at z1 ⊢
  unfold bkC
  have s1:=xa0z (place:=([(0,32),(32,1),(33,32)].toArray[·]?)) (i:=0) (n:=32) (rest:=[(1,.slice ao n c),(2,.agg (brow O))]) [] (z.map u8) ([.slice none 0 0]++(z.map u8++[])) (D.map u8) (X:=.agg (brow D)) rfl rfl (by rw [List.length_map,hD]) (by rw [List.length_map,z1])
  have s2:=xa0z (place:=([(0,32),(32,1),(33,32)].toArray[·]?)) (i:=1) (n:=1) (rest:=[(2,.agg (brow O))]) (D.map u8) [.slice none 0 0] (z.map u8++[]) [.slice ao n c] (X:=.slice ao n c) rfl (by rw [List.length_map,hD]; rfl) rfl rfl
  have s3:=xa0z (place:=([(0,32),(32,1),(33,32)].toArray[·]?)) (i:=2) (n:=32) (rest:=[]) (D.map u8++[.slice ao n c]) (z.map u8) [] (O.map u8) (X:=.agg (brow O)) rfl (by rw [List.length_append,List.length_map,hD]; rfl) (by rw [List.length_map,hO]) (by rw [List.length_map,z1])
  rw [List.nil_append] at s1
  rw [List.append_assoc,List.append_assoc] at s3
  rw [s1,List.nil_append,s2,s3]
  rfl
theorem xb4w (x:Nat) (O:List Nat) (ao:Option Addr) (n c:Nat) (hO:O.length = 32):Tryd.prog.built 110 [(0,.int .u16 (x:Int)),(1,.slice ao n c),(2,.agg (brow O))] = some (brC x (.slice ao n c) O).toArray:=by
  have hz:=zbr
  obtain ⟨it,hit⟩:∃ it,Tryd.prog.info? 110 = some it:=by
    cases h:Tryd.prog.info? 110 with
    | none=>rw [h] at hz; cases hz
    | some it=>exact ⟨it,rfl⟩
  rw [hit] at hz
  simp only [Option.map_some,Option.some.injEq,Prod.mk.injEq] at hz
  obtain ⟨fs,hfs⟩:∃ fs,Tryd.prog.underlying 110 = some (.struct fs):=⟨_,Tryd.underlying110⟩
  have hpl:=fbr fs hfs
  unfold Program.built
  rw [hit,hfs]
  simp only [hz.1,hpl,Value.cells]
  have z1:(List.replicate 32 0:List Nat).length = 32:=List.length_replicate
  generalize (List.replicate 32 0:List Nat) = z at z1 ⊢
  unfold brC
  have s1:=xa0z (place:=([(0,1),(1,1),(2,32)].toArray[·]?)) (i:=0) (n:=1) (rest:=[(1,.slice ao n c),(2,.agg (brow O))]) [] [.int .u16 ((0:Nat):Int)] ([.slice none 0 0]++(z.map u8++[])) [.int .u16 (x:Int)] (X:=.int .u16 (x:Int)) rfl rfl rfl rfl
  have s2:=xa0z (place:=([(0,1),(1,1),(2,32)].toArray[·]?)) (i:=1) (n:=1) (rest:=[(2,.agg (brow O))]) [.int .u16 (x:Int)] [.slice none 0 0] (z.map u8++[]) [.slice ao n c] (X:=.slice ao n c) rfl rfl rfl rfl
  have s3:=xa0z (place:=([(0,1),(1,1),(2,32)].toArray[·]?)) (i:=2) (n:=32) (rest:=[]) [.int .u16 (x:Int),.slice ao n c] (z.map u8) [] (O.map u8) (X:=.agg (brow O)) rfl rfl (by rw [List.length_map,hO]) (by rw [List.length_map,z1])
  exact s1.trans (s2.trans s3)
theorem xa0m {w:World} {g n:Nat} {t:TypeId} {fr:Nat × Nat} (a b c:List Value) (h:w.heap[g]? = some (.cells (a++(b++c)).toArray t fr)) (hn:a.length = n):w.rangeAt g n b:=by
  subst hn
  intro j v hv
  have hj:=(List.getElem?_eq_some_iff.1 hv).1
  rw [cell_of_row w g _ _ t fr h,List.getElem?_toArray,List.getElem?_append_right (by omega),Nat.add_sub_cancel_left,List.getElem?_append_left hj,hv]
theorem bk_row {W:World} {g:Nat} {D O:List Nat} {pv:Value} {t:TypeId} (h:W.heap[g]? = some (.cells (bkC D pv O).toArray t (0,0))) (hD:D.length = 32):W.rangeAt g 0 (D.map u8)∧W.cell? ⟨g,32,none⟩ = some pv∧W.rangeAt g 33 (O.map u8):=by
  refine ⟨xa0m [] _ _ (by rw [List.nil_append]; exact h) rfl,?_,?_⟩
  · rw [cell_of_row _ _ _ _ _ _ h,List.getElem?_toArray]
    unfold bkC
    rw [List.getElem?_append_right (by simp [hD])]
    simp [hD]
  · have:=xa0m (w:=W) (g:=g) (n:=33) (t:=t) (fr:=(0,0)) (D.map u8++[pv]) (O.map u8) [] (by rw [List.append_assoc]; exact h) (by simp [hD])
    exact this
theorem br_row {W:World} {g:Nat} {x:Nat} {O:List Nat} {kv:Value} {t:TypeId} (h:W.heap[g]? = some (.cells (brC x kv O).toArray t (0,0))):W.cell? ⟨g,0,none⟩ = some (.int .u16 (x:Int))∧W.cell? ⟨g,1,none⟩ = some kv∧W.rangeAt g 2 (O.map u8):=by
  refine ⟨?_,?_,xa0m [.int .u16 (x:Int),kv] _ _ h rfl⟩
  · rw [cell_of_row _ _ _ _ _ _ h,List.getElem?_toArray]; rfl
  · rw [cell_of_row _ _ _ _ _ _ h,List.getElem?_toArray]; rfl
def flatD (ds:List (List Nat)):List Value:=(ds.map fun d=>d.map u8).flatten
theorem xb2i {ds:List (List Nat)} (h:∀ d∈ds,d.length = 32):(flatD ds).length = ds.length * 32:=by
  induction ds with
  | nil=>rfl
  | cons d r ih =>
    have:=ih (fun x hx=>h x (by simp [hx]))
    simp only [flatD,List.map_cons,List.flatten_cons,List.length_append,List.length_map,List.length_cons] at this ⊢
    rw [this,h d (by simp)]; omega
theorem xb2x (a b:List (List Nat)):flatD (a++b) = flatD a++flatD b:=by simp [flatD]
theorem xb5a {ds:List (List Nat)} (h:∀ d∈ds,d.length = 32):∀ (i:Nat),i < ds.length→∀ j,j < 32→(flatD ds)[i * 32 + j]? = ((ds.getD i []).map u8)[j]?:=by
  induction ds with
  | nil=>intro i hi; simp at hi
  | cons d r ih =>
    intro i hi j hj
    have hd:=h d (by simp)
    have e:flatD (d :: r) = d.map u8++flatD r:=by simp [flatD]
    rw [e]
    cases i with
    | zero =>
      rw [Nat.zero_mul,Nat.zero_add,List.getElem?_append_left (by simp [hd]; exact hj)]; rfl
    | succ i =>
      rw [List.getElem?_append_right (by simp [hd]; omega),List.length_map,hd,show (i + 1) * 32 + j - 32 = i * 32 + j by omega,ih (fun x hx=>h x (by simp [hx])) i (by simpa using hi) j hj]
      rfl
theorem xa1r {L:List Nat} {w0:World} (b:Nat) (hb:b∈L∨w0.heap.size≤b):∀ (vs:List Value) (o:Nat) (w:World),Kept L w0 w→Kept L w0 (w.setCells b o vs)
  | [],_,_,h=>h
  | v :: r,o,w,h=>by rw [World.setCells]; exact xa1r b hb r (o + 1) _ (h.setCell hb v)
theorem xb2a {w:World} {b:Nat} {t:TypeId} {cs:List Value} (h:w.heap[b]? = some (.cells cs.toArray t (0,0))) {o n:Nat} (hl:o + n≤cs.length):w.there b o n:=fun j hj =>
  ⟨by rw [cell_of_row _ _ _ _ _ _ h,List.getElem?_toArray,List.getElem?_eq_getElem (by omega)]; rfl,frozen_of_row _ _ _ _ _ h⟩
theorem xa1z (b:Nat) (t:TypeId):∀ (vs pre mid post:List Value) (w:World),mid.length = vs.length→w.heap[b]? = some (.cells (pre++(mid++post)).toArray t (0,0))→(w.setCells b pre.length vs).heap[b]? = some (.cells (pre++(vs++post)).toArray t (0,0))
  | [],pre,mid,post,w,hl,h=>by
    have:mid = []:=List.eq_nil_of_length_eq_zero (by simpa using hl)
    subst this; exact h
  | v :: r,pre,mid,post,w,hl,h=>by
    obtain ⟨x,mid,rfl⟩:∃ x q,mid = x :: q:=by cases mid with | nil=>simp at hl | cons x q=>exact ⟨x,q,rfl⟩
    rw [World.setCells]
    have h1:=heap_setCell_same w b pre.length _ t v h
    have e1:(pre++(x :: mid++post)).toArray.setIfInBounds pre.length v = ((pre++[v])++(mid++post)).toArray:=by simp
    rw [e1] at h1
    have h2:=xa1z b t r (pre++[v]) mid post _ (by simpa using hl) h1
    rw [List.length_append,List.length_cons,List.length_nil,List.append_assoc] at h2
    simpa using h2
theorem xb1d {W:World} {g i n:Nat} {t:TypeId} {ds:List (List Nat)} {O:List Nat} (h:W.heap[g]? = some (.cells (flatD (ds.take i)++List.replicate ((n - i) * 32) (u8 0)).toArray t (0,0))) (hi:i < n) (hn:ds.length = n) (hd:∀ d∈ds,d.length = 32) (hO:ds.getD i [] = O) :
    W.there g (i * 32) 32∧(W.setCells g (i * 32) (O.map u8)).heap[g]? = some (.cells (flatD (ds.take (i + 1))++List.replicate ((n - (i + 1)) * 32) (u8 0)).toArray t (0,0)):=by
  have hpl:(flatD (ds.take i)).length = i * 32:=by
    rw [xb2i (fun d hm=>hd d (List.mem_of_mem_take hm)),List.length_take,Nat.min_eq_left (by omega)]
  have hsp:List.replicate ((n - i) * 32) (u8 0) = List.replicate 32 (u8 0)++List.replicate ((n - (i + 1)) * 32) (u8 0):=by
    rw [List.replicate_append_replicate]; congr 1; omega
  have hOm:O∈ds:=by
    rw [← hO,List.getD_eq_getElem?_getD,List.getElem?_eq_getElem (by omega)]; exact List.getElem_mem _
  have hOl:=hd O hOm
  have hnx:flatD (ds.take (i + 1)) = flatD (ds.take i)++O.map u8:=by
    rw [List.take_succ_eq_append_getElem (by omega),xb2x]
    congr 1
    rw [← hO,List.getD_eq_getElem?_getD,List.getElem?_eq_getElem (by omega)]
    simp [flatD]
  rw [hsp] at h
  refine ⟨xb2a h (by rw [List.length_append,List.length_append,hpl,List.length_replicate]; omega),?_⟩
  have:=xa1z g t (O.map u8) (flatD (ds.take i)) (List.replicate 32 (u8 0)) (List.replicate ((n - (i + 1)) * 32) (u8 0)) W (by rw [List.length_replicate,List.length_map,hOl]) h
  rw [hpl] at this
  rw [this,hnx,List.append_assoc]
def RdC (s:Nat) (w:World) (v:Value) (rows:List (List Value)):Prop :=
  ∃ (ao:Option Addr) (len cap:Nat),v = .slice ao len cap∧rows.length = len∧len≤cap∧cap≤9223372036854775807∧(0 < len→∃ b off,ao = some ⟨b,off,none⟩∧∀ i (h:i < rows.length),w.rangeAt b (off + i * s) rows[i])
theorem RdC.nil (s:Nat) (w:World):RdC s w (.slice none 0 0) []:=⟨none,0,0,rfl,rfl,Nat.le_refl _,by omega,fun h=>by omega⟩
theorem RdC.kept {s:Nat} {L:List Nat} {w w':World} {v:Value} {rows:List (List Value)} (h:RdC s w v rows) (k:Kept L w w') (hn:∀ x∈blk v,x∉L):RdC s w' v rows:=by
  obtain ⟨ao,len,cap,rfl,h1,h2,h3,h4⟩:=h
  refine ⟨ao,len,cap,rfl,h1,h2,h3,fun hp=>?_⟩
  obtain ⟨b,off,rfl,hc⟩:=h4 hp
  exact ⟨b,off,rfl,fun i hi j u hu=>k.cell (hc i hi j u hu) (hn b (by simp [blk]))⟩
theorem RdC.old {s:Nat} {w w':World} {v:Value} {rows:List (List Value)} (h:RdC s w v rows) (k:Kept [] w w'):RdC s w' v rows:=h.kept k (by simp)
theorem xa7k {w:World} {b s:Nat}:∀ {rows:List (List Value)} {off:Nat} (hc:∀ i (h:i < rows.length),w.rangeAt b (off + i * s) rows[i]) (hs:∀ r∈rows,r.length = s) (j:Nat) (u:Value),rows.flatten[j]? = some u→w.cell? ⟨b,off + j,none⟩ = some u
  | [],off,hc,hs,j,u,hj=>by simp at hj
  | r :: rs,off,hc,hs,j,u,hj=>by
    have hr:r.length = s:=hs r (by simp)
    rw [List.flatten_cons] at hj
    by_cases h:j < s
    · rw [List.getElem?_append_left (by omega)] at hj
      have h9:=hc 0 (by simp) j u (by simpa using hj)
      simpa using h9
    · rw [List.getElem?_append_right (by omega),hr] at hj
      have ih:=xa7k (rows:=rs) (off:=off + s) (fun i hi=>by
        have h9:=hc (i + 1) (by simpa using hi)
        simp only [List.getElem_cons_succ] at h9
        rw [show off + s + i * s = off + (i + 1) * s by rw [Nat.add_mul]; omega]
        exact h9) (fun r hr=>hs r (by simp [hr])) (j - s) u hj
      rw [show off + j = off + s + (j - s) by omega]
      exact ih
theorem xa1l {w:World} {base e s n:Nat} {v:Value} {xs:List Value} (h:w.ownsRow base e s v n xs):∃ ao cap,v = .slice ao n cap:=by
  rcases h.2 with ⟨rfl,rfl⟩ | ⟨g,cap,cur,rfl,_⟩
  · exact ⟨_,_,rfl⟩
  · exact ⟨_,_,rfl⟩
theorem xa6h {s:Nat}:∀ {rows:List (List Value)},(∀ r∈rows,r.length = s)→rows.flatten.length = rows.length * s
  | [],_=>by simp
  | r :: rs,h=>by
    have ih:=xa6h (rows:=rs) (fun r hr=>h r (by simp [hr]))
    rw [List.flatten_cons,List.length_append,ih,h r (by simp),List.length_cons,Nat.add_mul]
    omega
theorem xa4j {s:Nat}:∀ {rows:List (List Value)} (hs:∀ r∈rows,r.length = s) {i j:Nat} (hi:i < rows.length) {u:Value},rows[i][j]? = some u→rows.flatten[i * s + j]? = some u
  | r :: rs,hs,0,j,hi,u,hu=>by
    have hj:=(List.getElem?_eq_some_iff.1 hu).1
    rw [List.flatten_cons,Nat.zero_mul,Nat.zero_add,List.getElem?_append_left (by simpa using hj)]
    simpa using hu
  | r :: rs,hs,i + 1,j,hi,u,hu=>by
    have hr:r.length = s:=hs r (by simp)
    have ih:=xa4j (rows:=rs) (fun r hr=>hs r (by simp [hr])) (i:=i) (j:=j) (by simpa using hi) (u:=u) (by simpa using hu)
    rw [List.flatten_cons,List.getElem?_append_right (by rw [hr,Nat.add_mul]; omega),hr,show (i + 1) * s + j - s = i * s + j by rw [Nat.add_mul]; omega]
    exact ih
theorem xa6q {w:World} {base e s:Nat} {v:Value} {rows:List (List Value)} (h:w.ownsRow base e s v rows.length rows.flatten) (hs:∀ r∈rows,r.length = s):RdC s w v rows:=by
  rcases h.2 with ⟨rfl,h0⟩ | ⟨g,cap,cur,rfl,_,hg,hc,hm,hsz,ht⟩
  · have:rows = []:=List.eq_nil_of_length_eq_zero h0
    subst this
    exact RdC.nil s w
  · refine ⟨_,_,_,rfl,rfl,hc,by unfold maxLen at hm; omega,fun _=>⟨g,0,rfl,fun i hi j u hu=>?_⟩⟩
    have h9:=h.cells (g:=g) rfl (i * s + j) u (xa4j hs hi hu)
    rw [Addr.add_lit,Nat.zero_add] at h9
    rw [Nat.zero_add]
    exact h9
theorem xa6y {P:Program} {w:World} (base:Nat) (t ty e:TypeId) (i:TypeInfo) (size c:Nat) (ht:P.underlying t = some (.slice e)) (hi:P.info? e = some i)
    (v:Value) (n:Nat) (xs:List Value) (hown:w.ownsRow base e size v n xs) :
    (Builtin.append_ #[t,t] ty #[v,.slice none 0 c]).run P w = .ok v w:=by
  rcases hown.2 with ⟨rfl,rfl⟩ | ⟨g,cap,cur,rfl,_,_,hnc,_⟩
  · simp [Builtin.append_,run_underlying ht,sizeOf,typeInfo,hi,Builtin.lenOf,Builtin.firstCells]
  · simp [Builtin.append_,run_underlying ht,sizeOf,typeInfo,hi,Builtin.lenOf,Builtin.firstCells,hnc,storeCells]
theorem appendC (w:World) (base T e:Nat) (z:Value) (s bytes:Nat) (hu:Tryd.prog.underlying T = some (.slice e)) (hinf:(Tryd.prog.info? e).map (fun i=>(i.zero,i.size,i.bytes)) = some (some z,s,bytes)) (hzs:z.cells.size = s) (hs0:0 < s)
    (v:Value) (n:Nat) (xs:List Value) (h:w.ownsRow base e s v n xs) (ao:Option Addr) (m c:Nat) (rows:List (List Value)) (hr:RdC s w (.slice ao m c) rows) (hs:∀ r∈rows,r.length = s) (hone:∀ r∈rows,∀ u∈r,u.oneCell' = true)
    (hl:(n + m) * bytes≤140737488355328) (hl2:n + m≤1000000000000) (hb:base≤w.heap.size) :
    ∃ ao' cap' w1,(Builtin.append_ #[T,T] T #[v,.slice ao m c]).run Tryd.prog w = .ok (.slice ao' (n + m) cap') w1∧w1.ownsRow base e s (.slice ao' (n + m) cap') (n + m) (xs++rows.flatten)∧w.grownBy w1 v.ownBlock∧((Value.slice ao' (n + m) cap').ownBlock = v.ownBlock∨(Value.slice ao' (n + m) cap').ownBlock = some w.heap.size):=by
  obtain ⟨i0,hi,hz0,hz1,hz2⟩:=info_parts hinf
  obtain ⟨ao1,n1,c1,he,h1,h2,h3,h4⟩:=hr
  cases he
  have hf1:∀ u∈rows.flatten,u.oneCell' = true:=by
    intro u hu
    obtain ⟨r,hr,hur⟩:=List.mem_flatten.1 hu
    exact hone r hr u hur
  have hfl:rows.flatten.length = m * s:=by rw [xa6h hs,h1]
  cases ao with
  | none =>
    have hm:m = 0:=by
      rcases Nat.eq_zero_or_pos m with h9 | h9
      · exact h9
      · obtain ⟨b,off,e9,_⟩:=h4 h9; cases e9
    subst hm
    have hp:rows = []:=List.eq_nil_of_length_eq_zero h1
    subst hp
    have hrun:=xa6y (P:=Tryd.prog) (w:=w) base T T e i0 s c hu hi v n xs h
    obtain ⟨ao',cap',rfl⟩:=xa1l h
    exact ⟨ao',cap',w,hrun,by simpa using h,World.grownBy.refl _ _,.inl rfl⟩
  | some ad =>
    have hnews:∀ j u,rows.flatten[j]? = some u→w.cell? (ad.add j) = some u:=by
      intro j u hj
      have hm:0 < m:=by
        have:=(List.getElem?_eq_some_iff.1 hj).1
        rw [hfl] at this
        rcases Nat.eq_zero_or_pos m with h9 | h9
        · subst h9; omega
        · exact h9
      obtain ⟨b,off,e9,hc⟩:=h4 hm
      cases e9
      rw [Addr.add_mid]
      exact xa7k hc hs j u hj
    obtain ⟨v',w1,hrun,hown,hgrow,_,hat⟩:=run_append_own_at (P:=Tryd.prog) w base T T e i0 z s bytes hu hi hz0 hz1 hz2 hzs hs0 v n xs h ad m c rows.flatten hfl hnews hf1 (by unfold maxLen; omega) hl hb
    obtain ⟨ao',cap',rfl⟩:=xa1l hown
    exact ⟨ao',cap',w1,hrun,hown,hgrow,hat⟩
theorem xa0u {ops:Array Oper} {rest:List Oper} {o:Oper} {a:Act} {Q:Exit→Act→World→Prop} (hgd:o.guard = none) (T e:Nat) (s x:Operand)
    (ho:o.op = .call { callee:=.builtin .append,args:=#[s,x],argTypes:=#[T,T] }) (hty:o.type = T)
    (w:World) (base:Nat) (z:Value) (sz bytes:Nat) (hu:Tryd.prog.underlying T = some (.slice e)) (hinf:(Tryd.prog.info? e).map (fun i=>(i.zero,i.size,i.bytes)) = some (some z,sz,bytes)) (hzs:z.cells.size = sz) (hs0:0 < sz)
    (v:Value) (n:Nat) (xs:List Value) (h:w.ownsRow base e sz v n xs) (ao:Option Addr) (m c:Nat) (rows:List (List Value)) (hr:RdC sz w (.slice ao m c) rows) (hs:∀ r∈rows,r.length = sz) (hone:∀ r∈rows,∀ u∈r,u.oneCell' = true)
    (hl:(n + m) * bytes≤140737488355328) (hl2:n + m≤1000000000000) (hb:base≤w.heap.size) (he:a.eval s = v) (hx:a.eval x = .slice ao m c)
    (hK:∀ ao' cap' w1,Hid (w1.ownsRow base e sz (.slice ao' (n + m) cap') (n + m) (xs++rows.flatten))→Hid (w.grownBy w1 v.ownBlock)→Hid ((Value.slice ao' (n + m) cap').ownBlock = v.ownBlock∨(Value.slice ao' (n + m) cap').ownBlock = some w.heap.size) →
      wpList Tryd.prog ops Q rest (a.put o.dst (.slice ao' (n + m) cap')) w1) :
    wpList Tryd.prog ops Q (o :: rest) a w:=by
  obtain ⟨ao',cap',w1,hrun,h2,h3,h4⟩:=appendC w base T e z sz bytes hu hinf hzs hs0 v n xs h ao m c rows hr hs hone hl hl2 hb
  refine wpList_plain hgd fun K hK'=>?_
  unfold Oper.wp execOp
  simp only [ho,hty,resolve,invoke,builtin,Sem.run_bind,Sem.run_pure,Result.andThen_ok,List.map_toArray,List.map_cons,List.map_nil,he,hx,hrun]
  exact hK' _ _ (hK ao' cap' w1 h2 h3 h4)
end
section
open Go Go.RowKit Go.BigFrame
theorem xb5b {o:Oper} {a:Act} {w:World} {K:Act→World→Prop} {Q:Exit→Act→World→Prop} {f:FuncId} {xs:Array Operand} {ts:Array TypeId} (ho:o.op = .call { callee:=.value (.func f),args:=xs,argTypes:=ts })
    (hcl:∀ args W,(callFunc f args).run Tryd.prog W = .ok (.enter f args) W) (us:List Value) (he:xs.toList.map a.eval = us) {R:Ending→World→Prop}
    (hc:Calls Tryd.prog f us.toArray w R) (h:∀ e w',R e w'→∃ v,e = .returned v∧K (a.put o.dst v) w'):o.wp Tryd.prog a w K Q:=by
  have he2:xs.map a.eval = us.toArray:=by rw [← he]; cases xs; simp only [List.map_toArray]
  unfold Oper.wp execOp
  simp only [ho]
  have hf:a.eval (.func f) = .func (.func f) #[] #[]:=rfl
  simp only [resolve,invoke,hf,he2,Sem.run_bind,Sem.run_pure,Result.andThen_ok,hcl]
  simp [Deferred.ofValue,hcl,go_sem]
  refine hc.mono ?_
  intro e w2 h2
  obtain ⟨v,rfl,h3⟩:=h e w2 h2
  exact h3
section
variable {P:Program} {Q:Exit→Act→World→Prop} {S:World→Prop}
def ChL (P:Program) (Q:Exit→Act→World→Prop) (S:World→Prop) (F:Act→World→Prop):List Oper→Act→World→Prop
  | [],a,w=>F a w
  | o :: r,a,w=>o.wp P a w (fun a' w'=>S w'∧ChL P Q S F r a' w') (NoPanic Q)
def LinY (P:Program) (S:World→Prop) (F:Act→World→Prop):List Oper→Act→World→Prop
  | [],a,w=>F a w
  | o :: r,a,w=>∃ v,(∀ W,S W→(execOp a.eval o).run P W = .ok (.value v) W)∧LinY P S F r (a.put o.dst v) w
def linR (O:Array Oper):List Nat→Array Bool→Bool
  | [],_=>true
  | i :: r,d=>(Region.free .any O d i && (Region.ready .any O d).contains i) && linR O r (d.setIfInBounds i true)
def linC (O:Array Oper):List Nat→Array Bool→Bool
  | [],_=>true
  | i :: r,d=>decide (Region.ready .any O d = [i]) && linC O r (d.setIfInBounds i true)
def linD:List Nat→Array Bool→Array Bool
  | [],d=>d
  | i :: r,d=>linD r (d.setIfInBounds i true)
theorem xa3r {O:Array Oper} {d:Array Bool} (h:decide (Region.ready .any O d = []) = true):∀ a w,Q .normal a w→wpAnyH P .any O (NoPanic Q) S 0 d a w:=fun a w hq=>⟨of_decide_eq_true h,NoPanic.normal hq⟩
theorem xa2i {O:Array Oper} {F:Act→World→Prop} {m:Nat} {D:Array Bool} (hF:∀ a w,F a w→wpAnyH P .any O (NoPanic Q) S m D a w):∀ (C:List Nat) (cs:List Oper) (d:Array Bool) (a:Act) (w:World),C.map (O[·]?) = cs.map some→(∀ o∈cs,o.guard = none)→linC O C d = true→linD C d = D→ChL P Q S F cs a w→wpAnyH P .any O (NoPanic Q) S (C.length + m) d a w
  | [],[],d,a,w,_,_,_,hD,h=>by rw [List.length_nil,Nat.zero_add]; have e:d = D:=hD; rw [e]; exact hF a w h
  | [],_ :: _,_,_,_,he,_,_,_,_=>by simp at he
  | i :: C,[],_,_,_,he,_,_,_,_=>by simp at he
  | i :: C,o :: cs,d,a,w,he,hg,hb,hD,h=>by
    simp only [List.map_cons,List.cons.injEq] at he
    simp only [linC,Bool.and_eq_true,decide_eq_true_eq] at hb
    rw [List.length_cons,show C.length + 1 + m = (C.length + m) + 1 by omega]
    refine wpAnyH_all (rs:=[i]) hb.1 (by simp) (fun j hj=>?_)
    rw [List.mem_singleton] at hj
    subst hj
    unfold wpOp
    simp only [he.1]
    have hw:∀ y,Region.wanted o y = true:=fun y=>by unfold Region.wanted; rw [hg o (by simp)]
    rw [if_pos (hw _)]
    refine Or.inl (Oper.wp_mono (fun a' w' h2=>⟨h2.1,?_⟩) h)
    exact xa2i hF C cs _ a' w' he.2 (fun x hx=>hg x (by simp [hx])) hb.2 hD h2.2
theorem xa2f {O:Array Oper} {F:Act→World→Prop} {m:Nat} {D:Array Bool} (hs:Region.noSelect O = true) (hF:∀ a w,F a w→wpAnyH P .any O (NoPanic Q) S m D a w) :
    ∀ (R:List Nat) (rs:List Oper) (d:Array Bool) (a:Act) (w:World),R.map (O[·]?) = rs.map some→(∀ o∈rs,o.guard = none)→linR O R d = true→linD R d = D→S w→LinY P S F rs a w→wpAnyH P .any O (NoPanic Q) S (R.length + m) d a w
  | [],[],d,a,w,_,_,_,hc,_,h=>by rw [List.length_nil,Nat.zero_add]; have e:d = D:=hc; rw [e]; exact hF a w h
  | [],_ :: _,_,_,_,he,_,_,_,_,_=>by simp at he
  | i :: R,[],_,_,_,he,_,_,_,_,_=>by simp at he
  | i :: R,o :: rs,d,a,w,he,hg,hr,hc,hS,h=>by
    simp only [List.map_cons,List.cons.injEq] at he
    simp only [linR,Bool.and_eq_true] at hr
    obtain ⟨v,hv,h2⟩:=h
    have hw:∀ y,Region.wanted o y = true:=fun y=>by unfold Region.wanted; rw [hg o (by simp)]
    rw [List.length_cons,show R.length + 1 + m = (R.length + m) + 1 by omega]
    refine wpAnyH_take (i:=i) (oi:=o) he.1 hs hr.1.1 hr.1.2 (fun _ _ _ h=>h) (Or.inl ⟨hw _,hv⟩) hS ?_
    exact xa2f hs hF R rs _ _ w he.2 (fun x hx=>hg x (by simp [hx])) hr.2 hc hS h2
def linS (O:Array Oper):Array Bool:=Array.replicate O.size false
def linB (O:Array Oper) (R C T:List Nat):Bool :=
  (Region.noSelect O && decide (O.size = R.length + (C.length + (T.length + 0)))) && (linR O R (linS O) && (linC O C (linD R (linS O)) && (linR O T (linD C (linD R (linS O))) && decide (Region.ready .any O (linD T (linD C (linD R (linS O)))) = []))))
theorem wp_lin {id:Nat} {O:Array Oper} {a:Act} {w:World} {R C T:List Nat} {rs cs ts:List Oper} (hm:P.follows .mixedOrders = true) (hb:linB O R C T = true) (hR:R.map (O[·]?) = rs.map some) (hC:C.map (O[·]?) = cs.map some) (hT:T.map (O[·]?) = ts.map some) (hg:(rs++(cs++ts)).all (fun o=>o.guard.isNone) = true)
    (hS:S w.drew) (h:LinY P S (ChL P Q S (fun a w=>S w∧LinY P S (Q .normal) ts a w) cs) rs a w.drew):(Code.region id O true).wp P Q a w:=by
  unfold linB at hb
  simp only [Bool.and_eq_true,decide_eq_true_eq] at hb
  obtain ⟨⟨b1,b2⟩,b3,b4,b5,b6⟩:=hb
  rw [List.all_append,List.all_append,Bool.and_eq_true,Bool.and_eq_true,List.all_eq_true,List.all_eq_true,List.all_eq_true] at hg
  refine wp_region_noPanic ?_
  refine wp_region_held_drew (S:=S) hm hS (fun _=>?_)
  rw [b2]
  have h3:∀ a w,(S w∧LinY P S (Q .normal) ts a w)→wpAnyH P .any O (NoPanic Q) S (T.length + 0) (linD C (linD R (linS O))) a w:=fun a w h=>xa2f b1 (xa3r (decide_eq_true b6)) T ts _ a w hT (fun o ho=>by simpa using hg.2.2 o ho) b5 rfl h.1 h.2
  have h2:=fun a w h=>xa2i (P:=P) (Q:=Q) (S:=S) h3 C cs (linD R (linS O)) a w hC (fun o ho=>by simpa using hg.2.1 o ho) b4 rfl h
  have:=xa2f (P:=P) (Q:=Q) (S:=S) b1 h2 R rs (linS O) a w.drew hR (fun o ho=>by simpa using hg.1 o ho) b3 rfl hS h
  unfold linS at this
  rw [b2] at this
  exact this
theorem xa1b {id:Nat} {O:Array Oper} {a:Act} {w:World} {R C:List Nat} {rs cs:List Oper} (hm:P.follows .mixedOrders = true) (hb:linB O R C [] = true) (hR:R.map (O[·]?) = rs.map some) (hC:C.map (O[·]?) = cs.map some) (hg:(rs++(cs++[])).all (fun o=>o.guard.isNone) = true)
    (hS:S w.drew) (h:LinY P S (ChL P Q S (Q .normal) cs) rs a w.drew):(Code.region id O true).wp P Q a w:=by
  unfold linB at hb
  simp only [Bool.and_eq_true,decide_eq_true_eq] at hb
  obtain ⟨⟨b1,b2⟩,b3,b4,b5,b6⟩:=hb
  rw [List.append_nil,List.all_append,Bool.and_eq_true,List.all_eq_true,List.all_eq_true] at hg
  refine wp_region_noPanic ?_
  refine wp_region_held_drew (S:=S) hm hS (fun _=>?_)
  rw [b2]
  have h2:=fun a w h=>xa2i (P:=P) (Q:=Q) (S:=S) (xa3r (decide_eq_true b6)) C cs (linD R (linS O)) a w hC (fun o ho=>by simpa using hg.2 o ho) b4 rfl h
  have:=xa2f (P:=P) (Q:=Q) (S:=S) b1 h2 R rs (linS O) a w.drew hR (fun o ho=>by simpa using hg.1 o ho) b3 rfl hS h
  unfold linS at this
  rw [show R.length + (C.length + (([]:List Nat).length + 0)) = R.length + (C.length + 0) from rfl]
  rw [b2] at this
  exact this
def linB2 (O:Array Oper) (R:List Nat) (i j:Nat) (C:List Nat):Bool :=
  (Region.noSelect O && decide (O.size = R.length + (C.length + 2))) && (linR O R (linS O) && (decide (Region.ready .any O (linD R (linS O)) = [i,j]) && ((linC O (j :: C) ((linD R (linS O)).setIfInBounds i true) && linC O (i :: C) ((linD R (linS O)).setIfInBounds j true)) && (decide (Region.ready .any O (linD (j :: C) ((linD R (linS O)).setIfInBounds i true)) = []) && decide (Region.ready .any O (linD (i :: C) ((linD R (linS O)).setIfInBounds j true)) = [])))))
theorem xb7n {id:Nat} {O:Array Oper} {a:Act} {w:World} {R C:List Nat} {i j:Nat} {oi oj:Oper} {rs cs:List Oper} (hm:P.follows .mixedOrders = true) (hb:linB2 O R i j C = true) (hR:R.map (O[·]?) = rs.map some) (hi:O[i]? = some oi) (hj:O[j]? = some oj) (hC:C.map (O[·]?) = cs.map some) (hg:(rs++(oi :: oj :: cs)).all (fun o=>o.guard.isNone) = true)
    (hS:S w.drew) (h:LinY P S (fun a w=>ChL P Q S (Q .normal) (oi :: oj :: cs) a w∧ChL P Q S (Q .normal) (oj :: oi :: cs) a w) rs a w.drew):(Code.region id O true).wp P Q a w:=by
  unfold linB2 at hb
  simp only [Bool.and_eq_true,decide_eq_true_eq] at hb
  obtain ⟨⟨b1,b2⟩,b3,b4,⟨b5,b6⟩,b7,b8⟩:=hb
  rw [List.all_append,Bool.and_eq_true,List.all_eq_true,List.all_eq_true] at hg
  have hgi:∀ o∈oi :: oj :: cs,o.guard = none:=fun o ho=>by simpa using hg.2 o ho
  refine wp_region_noPanic ?_
  refine wp_region_held_drew (S:=S) hm hS (fun _=>?_)
  rw [b2]
  have hF:∀ a w,(ChL P Q S (Q .normal) (oi :: oj :: cs) a w∧ChL P Q S (Q .normal) (oj :: oi :: cs) a w)→wpAnyH P .any O (NoPanic Q) S (C.length + 2) (linD R (linS O)) a w:=fun a w h=>by
    refine wpAnyH_all (rs:=[i,j]) b4 (by simp) (fun x hx=>?_)
    simp only [List.mem_cons,List.not_mem_nil,or_false] at hx
    rcases hx with rfl | rfl
    · unfold wpOp
      simp only [hi]
      have hw:∀ y,Region.wanted oi y = true:=fun y=>by unfold Region.wanted; rw [hgi oi (by simp)]
      rw [if_pos (hw _)]
      exact Or.inl (Oper.wp_mono (fun a' w' h2=>⟨h2.1,xa2i (xa3r (decide_eq_true b7)) (j :: C) (oj :: cs) _ a' w' (by rw [List.map_cons,List.map_cons,hj,hC]) (fun o ho=>hgi o (List.mem_cons_of_mem _ ho)) b5 rfl h2.2⟩) h.1)
    · unfold wpOp
      simp only [hj]
      have hw:∀ y,Region.wanted oj y = true:=fun y=>by unfold Region.wanted; rw [hgi oj (by simp)]
      rw [if_pos (hw _)]
      exact Or.inl (Oper.wp_mono (fun a' w' h2=>⟨h2.1,xa2i (xa3r (decide_eq_true b8)) (i :: C) (oi :: cs) _ a' w' (by rw [List.map_cons,List.map_cons,hi,hC]) (fun o ho=>hgi o (by rcases List.mem_cons.1 ho with rfl | ho; simp; simp [ho])) b6 rfl h2.2⟩) h.2)
  have:=xa2f (P:=P) (Q:=Q) (S:=S) b1 hF R rs (linS O) a w.drew hR (fun o ho=>by simpa using hg.1 o ho) b3 rfl hS h
  unfold linS at this
  rw [b2] at this
  exact this
def LinG (P:Program) (O:Array Oper) (S:World→Prop) (F:Act→World→Prop):List Oper→Act→World→Prop
  | [],a,w=>F a w
  | o :: r,a,w=>∃ v,YieldsIf P O S o v a∧LinG P O S F r (a.put o.dst v) w
theorem xa5r {O:Array Oper} {F:Act→World→Prop} {m:Nat} {D:Array Bool} (hs:Region.noSelect O = true) (hF:∀ a w,F a w→wpAnyH P .any O (NoPanic Q) S m D a w) :
    ∀ (R:List Nat) (rs:List Oper) (d:Array Bool) (a:Act) (w:World),R.map (O[·]?) = rs.map some→linR O R d = true→linD R d = D→S w→LinG P O S F rs a w→wpAnyH P .any O (NoPanic Q) S (R.length + m) d a w
  | [],[],d,a,w,_,_,hc,_,h=>by rw [List.length_nil,Nat.zero_add]; have e:d = D:=hc; rw [e]; exact hF a w h
  | [],_ :: _,_,_,_,he,_,_,_,_=>by simp at he
  | i :: R,[],_,_,_,he,_,_,_,_=>by simp at he
  | i :: R,o :: rs,d,a,w,he,hr,hc,hS,h=>by
    simp only [List.map_cons,List.cons.injEq] at he
    simp only [linR,Bool.and_eq_true] at hr
    obtain ⟨v,hv,h2⟩:=h
    rw [List.length_cons,show R.length + 1 + m = (R.length + m) + 1 by omega]
    refine wpAnyH_take (i:=i) (oi:=o) he.1 hs hr.1.1 hr.1.2 (fun _ _ _ h=>h) hv hS ?_
    exact xa5r hs hF R rs _ _ w he.2 hr.2 hc hS h2
theorem xb3o {id:Nat} {O:Array Oper} {a:Act} {w:World} {R:List Nat} {rs:List Oper} (hm:P.follows .mixedOrders = true) (hb:linB O R [] [] = true) (hR:R.map (O[·]?) = rs.map some)
    (hS:S w.drew) (h:LinG P O S (Q .normal) rs a w.drew):(Code.region id O true).wp P Q a w:=by
  unfold linB at hb
  simp only [Bool.and_eq_true,decide_eq_true_eq] at hb
  obtain ⟨⟨b1,b2⟩,b3,b4,b5,b6⟩:=hb
  refine wp_region_noPanic ?_
  refine wp_region_held_drew (S:=S) hm hS (fun _=>?_)
  rw [b2]
  have:=xa5r (P:=P) (Q:=Q) (S:=S) b1 (xa3r (decide_eq_true b6)) R rs (linS O) a w.drew hR b3 rfl hS h
  unfold linS at this
  rw [show R.length + (([]:List Nat).length + (([]:List Nat).length + 0)) = R.length + 0 from rfl]
  rw [show R.length + (([]:List Nat).length + (([]:List Nat).length + 0)) = R.length + 0 from rfl] at b2
  rw [b2] at this
  exact this
theorem LinG.rd {O:Array Oper} {F:Act→World→Prop} {rs:List Oper} {o:Oper} {a A:Act} {w:World} (hw:Region.wanted o (yielded O a.tmps) = true) (v:Value) (hv:∀ W,S W→(execOp a.eval o).run P W = .ok (.value v) W) (p:a.put o.dst v = A) (h:LinG P O S F rs A w):LinG P O S F (o :: rs) a w :=
  ⟨v,Or.inl ⟨hw,hv⟩,by rw [p]; exact h⟩
theorem LinG.no {O:Array Oper} {F:Act→World→Prop} {rs:List Oper} {o:Oper} {a A:Act} {w:World} (hw:Region.wanted o (yielded O a.tmps) = false) (p:a.put o.dst undef = A) (h:LinG P O S F rs A w):LinG P O S F (o :: rs) a w :=
  ⟨undef,Or.inr ⟨hw,rfl⟩,by rw [p]; exact h⟩
theorem LinG.ld {O:Array Oper} {F:Act→World→Prop} {rs:List Oper} {o:Oper} {a A:Act} {w:World} (hw:Region.wanted o (yielded O a.tmps) = true) (ty:TypeId) (x:Operand) (ho:o.op = .load ty x) (b off:Nat) (hx:a.eval x = .pointer (some ⟨b,off,none⟩)) (cs:List Value) (d:TypeDesc) (hc:∀ W,S W→W.rangeAt b off cs)
    (hu:P.underlying ty = some d) (hd:d.isRow = true) (hi:(P.info? ty).map (·.size) = some cs.length) (p:a.put o.dst (.agg cs.toArray) = A) (h:LinG P O S F rs A w):LinG P O S F (o :: rs) a w :=
  LinG.rd hw _ (fun W hW=>by unfold execOp; simp only [ho,hx,Instr.loadAt,Instr.sureAddr,Sem.run_bind,Sem.run_pure,Result.andThen_ok,run_loadVar_mid W b off ty cs d (hc W hW) hu hd hi]) p h
theorem LinG.fin {O:Array Oper} {F:Act→World→Prop} {a:Act} {w:World} (h:F a w):LinG P O S F [] a w:=h
theorem LinY.rd {F:Act→World→Prop} {rs:List Oper} {o:Oper} {a A:Act} {w:World} (v:Value) (hv:∀ W,S W→(execOp a.eval o).run P W = .ok (.value v) W) (p:a.put o.dst v = A) (h:LinY P S F rs A w):LinY P S F (o :: rs) a w :=
  ⟨v,hv,by rw [p]; exact h⟩
theorem LinY.mv {F:Act→World→Prop} {rs:List Oper} {o:Oper} {a A:Act} {w:World} {x:Operand} (ho:o.op = .move x) (v:Value) (hv:a.eval x = v) (p:a.put o.dst v = A) (h:LinY P S F rs A w):LinY P S F (o :: rs) a w :=
  LinY.rd v (fun W _=>by unfold execOp; simp only [ho]; rw [hv]; rfl) p h
theorem LinY.ld {F:Act→World→Prop} {rs:List Oper} {o:Oper} {a A:Act} {w:World} (ty:TypeId) (x:Operand) (ho:o.op = .load ty x) (b off:Nat) (hx:a.eval x = .pointer (some ⟨b,off,none⟩)) (cs:List Value) (d:TypeDesc) (hc:∀ W,S W→W.rangeAt b off cs)
    (hu:P.underlying ty = some d) (hd:d.isRow = true) (hi:(P.info? ty).map (·.size) = some cs.length) (p:a.put o.dst (.agg cs.toArray) = A) (h:LinY P S F rs A w):LinY P S F (o :: rs) a w :=
  LinY.rd _ (fun W hW=>by unfold execOp; simp only [ho,hx,Instr.loadAt,Instr.sureAddr,Sem.run_bind,Sem.run_pure,Result.andThen_ok,run_loadVar_mid W b off ty cs d (hc W hW) hu hd hi]) p h
theorem Kept.rng {L:List Nat} {w w':World} (k:Kept L w w') {b o:Nat} {cs:List Value} (h:w.rangeAt b o cs) (hb:b∉L):w'.rangeAt b o cs:=fun j v hv=>k.cell (h j v hv) hb
theorem ChL.op {F:Act→World→Prop} {cs:List Oper} {o:Oper} {a A:Act} {w w':World} (v:Value) (hv:(execOp a.eval o).run P w = .ok (.value v) w') (hS:S w') (p:a.put o.dst v = A) (h:ChL P Q S F cs A w'):ChL P Q S F (o :: cs) a w:=by
  unfold ChL Oper.wp
  rw [hv]
  rw [← p] at h
  exact ⟨hS,h⟩
theorem ChL.fin {F:Act→World→Prop} {a:Act} {w:World} (h:F a w):ChL P Q S F [] a w:=h
theorem LinY.fin {F:Act→World→Prop} {a:Act} {w:World} (h:F a w):LinY P S F [] a w:=h
end
theorem ChL.call {Q:Exit→Act→World→Prop} {S:World→Prop} {F:Act→World→Prop} {cs:List Oper} {o:Oper} {a:Act} {w:World} {f:FuncId} {xs:Array Operand} {ts:Array TypeId} (ho:o.op = .call { callee:=.value (.func f),args:=xs,argTypes:=ts })
    (hcl:∀ args W,(callFunc f args).run Tryd.prog W = .ok (.enter f args) W) (us:List Value) (he:xs.toList.map a.eval = us) {R:Ending→World→Prop}
    (hc:Calls Tryd.prog f us.toArray w R) (h:∀ e w',R e w'→∃ v,e = .returned v∧S w'∧ChL Tryd.prog Q S F cs (a.put o.dst v) w'):ChL Tryd.prog Q S F (o :: cs) a w:=by
  unfold ChL
  exact xb5b ho hcl us he hc h
end
section
open Go.RowKit Go.BigFrame
def RdMC (s:Nat) (w:World) (v:Value) (L:List (List (List Value))):Prop :=
  ∃ (ao:Option Addr) (len cap:Nat) (vs:List Value),v = .slice ao len cap∧L.length = len∧len≤cap∧cap≤9223372036854775807∧(∀ i,i < len→RdC s w (vs.getD i undef) (L.getD i [])) ∧
    (0 < len→∃ b off,ao = some ⟨b,off,none⟩∧∀ i,i < len→w.cell? ⟨b,off + i,none⟩ = some (vs.getD i undef))
def OwC (T s base:Nat) (w:World) (v:Value) (L:List (List (List Value))):Prop:=w.ownsRow base T s v L.flatten.length L.flatten.flatten
theorem RdMC.cells {s:Nat} {w:World} {ao:Option Addr} {len cap:Nat} {L:List (List (List Value))} (h:RdMC s w (.slice ao len cap) L):L.length = len∧len≤cap∧cap≤9223372036854775807 ∧
    ∀ i,i < len→∃ b off u,ao = some ⟨b,off,none⟩∧w.cell? ⟨b,off + i,none⟩ = some u∧RdC s w u (L.getD i []):=by
  obtain ⟨ao',len',cap',vs,he,h1,h2,h3,h4,h5⟩:=h
  cases he
  refine ⟨h1,h2,h3,fun i hi=>?_⟩
  obtain ⟨b,off,rfl,hc⟩:=h5 (by omega)
  exact ⟨b,off,_,rfl,hc i hi,h4 i hi⟩
theorem xa2h (L:List (List (List Value))) (i:Nat) (h:i < L.length):(L.take (i + 1)).flatten = (L.take i).flatten++L.getD i []:=by
  rw [List.take_succ_eq_append_getElem h,List.flatten_append,List.getD_eq_getElem?_getD,List.getElem?_eq_getElem h]
  simp
theorem xa4p (L:List (List (List Value))) (i:Nat):(L.take i).flatten.length≤L.flatten.length:=by
  have h:=congrArg List.length (congrArg List.flatten (List.take_append_drop i L))
  rw [List.flatten_append,List.length_append] at h
  omega
theorem Tryd.infoN:(Tryd.prog.info? 59).map (fun i=>(i.zero,i.size,i.bytes)) = some (some (.nilIface),1,16):=by kernel_rfl
set_option maxHeartbeats 1000000 in
theorem xb2v (n:Nat) (w:World) (hn:n≤1000000000000) :
    Calls Tryd.prog 78 #[.slice none 0 0,.int .i64 n] w fun e w'=>∃ v',e = .returned v'∧w'.ownsRow w.heap.size 59 1 v' 0 []∧Kept [] w w':=by
  go_enter Tryd.func78,Tryd.ntmps78
  by_cases h0:n = 0
  · subst h0
    go_wp2
    go_ret
    exact ⟨_,rfl,⟨rfl,Or.inl ⟨rfl,rfl⟩⟩,Kept.refl _ _⟩
  · have h0':(0:Int) < n:=by omega
    have hbt:Tryd.t59.bytes = 16:=rfl
    have hns:¬ 281474976710656 < Builtin.nextslicecap n 0 * Tryd.t59.bytes:=by
      rw [hbt]; unfold Builtin.nextslicecap; rw [if_pos (by omega)]; omega
    have hmul:(n:Int) * ((Tryd.t59.bytes:Nat):Int)≤281474976710656:=by rw [hbt]; omega
    have hm0:¬ n = 0:=by omega
    clear hbt
    go_wp2_with fail
    have hg1:=grownCap_ge w n 0 59
    have hg2:=grownCap_le_maxLen w n 0 59 (by unfold maxLen; omega)
    unfold grownCap at hg1 hg2
    generalize (Question.appendCap n 0 59).cut (w.tape w.drawn (Question.appendCap n 0 59)) = cap at hg1 hg2 ⊢
    go_ret
    refine ⟨_,rfl,World.ownsRow_made w _ cap (Nat.le_refl _) hg2 ?_,((Kept.refl [] w).alloc _).drew⟩
    rw [Array.size_append,size_zeroCells,size_zeroCells]
    simp
    omega
set_option maxHeartbeats 1000000 in
theorem xa8q (v:Value) (L:List (List (List Value))) (w:World) (h:RdMC 1 w v L) (hs:∀ rows∈L,∀ r∈rows,r.length = 1) (hone:∀ rows∈L,∀ r∈rows,∀ u∈r,u.oneCell' = true) (hl:L.flatten.length≤100000000000) :
    Calls Tryd.prog 70 #[v] w fun e w'=>∃ v',e = .returned v'∧OwC 59 1 w.heap.size w' v' L∧Kept [] w w':=by
  obtain ⟨ao,n,c,_,rfl,_⟩:=id h
  obtain ⟨h1,h2,h3,h4⟩:=h.cells
  have H4:=hide h4
  have HS:=hide hs
  have HO1:=hide hone
  clear h4 h hs hone
  subst h1
  go_enter Tryd.func70,Tryd.ntmps70
  go_wp2_with fail
  go_loopw [3,11] (fun t3 t11 wr=>∃ (i:Nat),i≤L.length∧t11 = .int .i64 i∧t3 = .int .i64 (((L.take i).flatten.length:Nat):Int)∧Hid (wr = w)) (fun _ t _=>L.length - (intOf t).toNat)
  case atStart=>exact ⟨0,Nat.zero_le _,rfl,rfl,hide rfl⟩
  case round =>
    obtain ⟨i,hi,rfl,rfl,HWR⟩:=hrel
    by_cases hlt:i < L.length
    · have hlt':(i:Int) < L.length:=by omega
      obtain ⟨b,o,u,rfl,c1,r1⟩:=uh H4 i hlt
      have q1:wr.cell? ⟨b,o + i,none⟩ = some u:=by rw [uh HWR]; exact c1
      have HFT:=hide (xa2h L i hlt)
      have HLE:=hide (xa4p L (i + 1))
      rw [uh HFT] at HLE
      clear c1
      generalize L.getD i [] = li at r1 HFT HLE
      obtain ⟨a8,m8,c8,rfl,hm8,_⟩:=id r1
      subst hm8
      clear r1
      obtain ⟨S,hS⟩:∃ S,(L.take i).flatten.length = S:=⟨_,rfl⟩
      have HNX:=hide (by rw [uh HFT,List.length_append,hS]:(L.take (i + 1)).flatten.length = S + li.length)
      have hsb:S + li.length≤100000000000:=by have h9:=uh HLE; rw [List.length_append,hS] at h9; omega
      rw [hS]
      clear hS HLE HFT
      have hs0:¬ ((S:Int) + li.length) < 0:=by omega
      go_wp2
      refine ⟨⟨i + 1,hlt,by go_num,by rw [uh HNX]; go_num,HWR⟩,?_⟩
      simp [intOf]; omega
    · have hi':i = L.length:=by omega
      have hlt':¬ (i:Int) < L.length:=by omega
      have HTL:=hide (by rw [hi',List.take_length]:(L.take i).flatten.length = L.flatten.length)
      obtain ⟨M,hM⟩:∃ M,L.flatten.length = M:=⟨_,rfl⟩
      rw [uh HTL,hM]
      have hl2:M≤100000000000:=by rw [← hM]; exact hl
      have HL:=hide hl
      have HM:=hide hM
      clear hi' HTL hM hl
      go_wp2_with fail
      rw [uh HWR]
      refine Calls.mono (xb2v M _ (by omega)) ?_
      rintro e w1 ⟨v1,rfl,ho,k1⟩
      have HO1':=hide ho
      have HK1:=hide k1
      clear ho k1
      go_wp2_with fail
      go_loopw [6,27] (fun t6 t27 wz=>∃ (j:Nat),j≤L.length∧t27 = .int .i64 j∧Hid (wz.ownsRow w.heap.size 59 1 t6 (L.take j).flatten.length (L.take j).flatten.flatten)∧Hid (Kept [] w wz)) (fun _ t _=>L.length - (intOf t).toNat)
      case atStart=>exact ⟨0,Nat.zero_le _,rfl,by simpa using HO1',HK1⟩
      case round =>
        obtain ⟨j,hj,rfl,HO,HK⟩:=hrel
        by_cases hjt:j < L.length
        · have hjt':(j:Int) < L.length:=by omega
          obtain ⟨b,o,u,rfl,c1,r1⟩:=uh H4 j hjt
          have q1:=(uh HK).cell c1 (by simp)
          have HR:=hide (r1.old (uh HK))
          have HFT:=hide (xa2h L j hjt)
          have HLE:=hide (xa4p L (j + 1))
          rw [uh HFT] at HLE
          have hmem:L.getD j []∈L:=by rw [List.getD_eq_getElem?_getD,List.getElem?_eq_getElem hjt]; exact List.getElem_mem _
          have HS1:=hide (uh HS _ hmem)
          have HS2:=hide (uh HO1 _ hmem)
          clear c1 r1 hmem
          generalize L.getD j [] = li at HR HFT HLE HS1 HS2
          obtain ⟨a8,m8,c8,rfl,hm8,_⟩:=id (uh HR)
          subst hm8
          obtain ⟨D,hD⟩:∃ D,(L.take j).flatten = D:=⟨_,rfl⟩
          rw [hD] at HO HFT HLE
          clear hD
          have hsb:D.length + li.length≤100000000000:=by have h9:=uh HLE; have h8:=uh HL; rw [List.length_append] at h9; omega
          have hbz:=(uh HK).size
          obtain ⟨a6,c6,rfl⟩:=xa1l (uh HO)
          go_wp2_with (at_builtin; refine xa0u rfl 108 59 (.tmp 31) (.tmp 32) rfl rfl _ w.heap.size (.nilIface) 1 16 Tryd.underlying108 Tryd.infoN rfl (by decide) (.slice a6 D.length c6) D.length D.flatten (uh HO) a8 li.length c8 li (uh HR) (uh HS1) (uh HS2) (by omega) (by omega) hbz rfl rfl ?_; intro ao1 cap1 w2 HO2 HG2 HA2; have HK2:=hide ((uh HK).grown (uh HG2) (by intro k hk; right; exact ((uh HO).lt k hk).1)); clear HG2)
          refine ⟨⟨j + 1,hjt,by go_num,by rw [uh HFT,List.length_append,List.flatten_append]; exact HO2,HK2⟩,?_⟩
          simp [intOf]; omega
        · have hj':j = L.length:=by omega
          have hjt':¬ (j:Int) < L.length:=by omega
          have HO2:=hide (by have h9:=uh HO; rw [hj',List.take_length] at h9; exact h9)
          clear hj' HO
          go_wp2
          go_ret
          exact ⟨_,rfl,uh HO2,uh HK⟩
theorem Tryd.infoQ:(Tryd.prog.info? 50).map (fun i=>(i.zero,i.size,i.bytes)) = some (some (.agg #[.slice none 0 0,.slice none 0 0]),2,48):=by kernel_rfl
set_option maxHeartbeats 1000000 in
theorem xb2p (n:Nat) (w:World) (hn:n≤1000000000000) :
    Calls Tryd.prog 81 #[.slice none 0 0,.int .i64 n] w fun e w'=>∃ v',e = .returned v'∧w'.ownsRow w.heap.size 50 2 v' 0 []∧Kept [] w w':=by
  go_enter Tryd.func81,Tryd.ntmps81
  by_cases h0:n = 0
  · subst h0
    go_wp2
    go_ret
    exact ⟨_,rfl,⟨rfl,Or.inl ⟨rfl,rfl⟩⟩,Kept.refl _ _⟩
  · have h0':(0:Int) < n:=by omega
    have hbt:Tryd.t50.bytes = 48:=rfl
    have hns:¬ 281474976710656 < Builtin.nextslicecap n 0 * Tryd.t50.bytes:=by
      rw [hbt]; unfold Builtin.nextslicecap; rw [if_pos (by omega)]; omega
    have hmul:(n:Int) * ((Tryd.t50.bytes:Nat):Int)≤281474976710656:=by rw [hbt]; omega
    have hm0:¬ n * 2 = 0:=by omega
    clear hbt
    go_wp2_with fail
    have hg1:=grownCap_ge w n 0 50
    have hg2:=grownCap_le_maxLen w n 0 50 (by unfold maxLen; omega)
    unfold grownCap at hg1 hg2
    generalize (Question.appendCap n 0 50).cut (w.tape w.drawn (Question.appendCap n 0 50)) = cap at hg1 hg2 ⊢
    go_ret
    refine ⟨_,rfl,World.ownsRow_made w _ cap (Nat.le_refl _) hg2 ?_,((Kept.refl [] w).alloc _).drew⟩
    rw [Array.size_append,size_zeroCells,size_zeroCells]
    simp
    omega
set_option maxHeartbeats 1000000 in
theorem xa8o (v:Value) (L:List (List (List Value))) (w:World) (h:RdMC 2 w v L) (hs:∀ rows∈L,∀ r∈rows,r.length = 2) (hone:∀ rows∈L,∀ r∈rows,∀ u∈r,u.oneCell' = true) (hl:L.flatten.length≤100000000000) :
    Calls Tryd.prog 73 #[v] w fun e w'=>∃ v',e = .returned v'∧OwC 50 2 w.heap.size w' v' L∧Kept [] w w':=by
  obtain ⟨ao,n,c,_,rfl,_⟩:=id h
  obtain ⟨h1,h2,h3,h4⟩:=h.cells
  have H4:=hide h4
  have HS:=hide hs
  have HO1:=hide hone
  clear h4 h hs hone
  subst h1
  go_enter Tryd.func73,Tryd.ntmps73
  go_wp2_with fail
  go_loopw [3,11] (fun t3 t11 wr=>∃ (i:Nat),i≤L.length∧t11 = .int .i64 i∧t3 = .int .i64 (((L.take i).flatten.length:Nat):Int)∧Hid (wr = w)) (fun _ t _=>L.length - (intOf t).toNat)
  case atStart=>exact ⟨0,Nat.zero_le _,rfl,rfl,hide rfl⟩
  case round =>
    obtain ⟨i,hi,rfl,rfl,HWR⟩:=hrel
    by_cases hlt:i < L.length
    · have hlt':(i:Int) < L.length:=by omega
      obtain ⟨b,o,u,rfl,c1,r1⟩:=uh H4 i hlt
      have q1:wr.cell? ⟨b,o + i,none⟩ = some u:=by rw [uh HWR]; exact c1
      have HFT:=hide (xa2h L i hlt)
      have HLE:=hide (xa4p L (i + 1))
      rw [uh HFT] at HLE
      clear c1
      generalize L.getD i [] = li at r1 HFT HLE
      obtain ⟨a8,m8,c8,rfl,hm8,_⟩:=id r1
      subst hm8
      clear r1
      obtain ⟨S,hS⟩:∃ S,(L.take i).flatten.length = S:=⟨_,rfl⟩
      have HNX:=hide (by rw [uh HFT,List.length_append,hS]:(L.take (i + 1)).flatten.length = S + li.length)
      have hsb:S + li.length≤100000000000:=by have h9:=uh HLE; rw [List.length_append,hS] at h9; omega
      rw [hS]
      clear hS HLE HFT
      have hs0:¬ ((S:Int) + li.length) < 0:=by omega
      go_wp2
      refine ⟨⟨i + 1,hlt,by go_num,by rw [uh HNX]; go_num,HWR⟩,?_⟩
      simp [intOf]; omega
    · have hi':i = L.length:=by omega
      have hlt':¬ (i:Int) < L.length:=by omega
      have HTL:=hide (by rw [hi',List.take_length]:(L.take i).flatten.length = L.flatten.length)
      obtain ⟨M,hM⟩:∃ M,L.flatten.length = M:=⟨_,rfl⟩
      rw [uh HTL,hM]
      have hl2:M≤100000000000:=by rw [← hM]; exact hl
      have HL:=hide hl
      have HM:=hide hM
      clear hi' HTL hM hl
      go_wp2_with fail
      rw [uh HWR]
      refine Calls.mono (xb2p M _ (by omega)) ?_
      rintro e w1 ⟨v1,rfl,ho,k1⟩
      have HO1':=hide ho
      have HK1:=hide k1
      clear ho k1
      go_wp2_with fail
      go_loopw [6,27] (fun t6 t27 wz=>∃ (j:Nat),j≤L.length∧t27 = .int .i64 j∧Hid (wz.ownsRow w.heap.size 50 2 t6 (L.take j).flatten.length (L.take j).flatten.flatten)∧Hid (Kept [] w wz)) (fun _ t _=>L.length - (intOf t).toNat)
      case atStart=>exact ⟨0,Nat.zero_le _,rfl,by simpa using HO1',HK1⟩
      case round =>
        obtain ⟨j,hj,rfl,HO,HK⟩:=hrel
        by_cases hjt:j < L.length
        · have hjt':(j:Int) < L.length:=by omega
          obtain ⟨b,o,u,rfl,c1,r1⟩:=uh H4 j hjt
          have q1:=(uh HK).cell c1 (by simp)
          have HR:=hide (r1.old (uh HK))
          have HFT:=hide (xa2h L j hjt)
          have HLE:=hide (xa4p L (j + 1))
          rw [uh HFT] at HLE
          have hmem:L.getD j []∈L:=by rw [List.getD_eq_getElem?_getD,List.getElem?_eq_getElem hjt]; exact List.getElem_mem _
          have HS1:=hide (uh HS _ hmem)
          have HS2:=hide (uh HO1 _ hmem)
          clear c1 r1 hmem
          generalize L.getD j [] = li at HR HFT HLE HS1 HS2
          obtain ⟨a8,m8,c8,rfl,hm8,_⟩:=id (uh HR)
          subst hm8
          obtain ⟨D,hD⟩:∃ D,(L.take j).flatten = D:=⟨_,rfl⟩
          rw [hD] at HO HFT HLE
          clear hD
          have hsb:D.length + li.length≤100000000000:=by have h9:=uh HLE; have h8:=uh HL; rw [List.length_append] at h9; omega
          have hbz:=(uh HK).size
          obtain ⟨a6,c6,rfl⟩:=xa1l (uh HO)
          go_wp2_with (at_builtin; refine xa0u rfl 32 50 (.tmp 31) (.tmp 32) rfl rfl _ w.heap.size (.agg #[.slice none 0 0,.slice none 0 0]) 2 48 Tryd.underlying32 Tryd.infoQ rfl (by decide) (.slice a6 D.length c6) D.length D.flatten (uh HO) a8 li.length c8 li (uh HR) (uh HS1) (uh HS2) (by omega) (by omega) hbz rfl rfl ?_; intro ao1 cap1 w2 HO2 HG2 HA2; have HK2:=hide ((uh HK).grown (uh HG2) (by intro k hk; right; exact ((uh HO).lt k hk).1)); clear HG2)
          refine ⟨⟨j + 1,hjt,by go_num,by rw [uh HFT,List.length_append,List.flatten_append]; exact HO2,HK2⟩,?_⟩
          simp [intOf]; omega
        · have hj':j = L.length:=by omega
          have hjt':¬ (j:Int) < L.length:=by omega
          have HO2:=hide (by have h9:=uh HO; rw [hj',List.take_length] at h9; exact h9)
          clear hj' HO
          go_wp2
          go_ret
          exact ⟨_,rfl,uh HO2,uh HK⟩
set_option maxHeartbeats 1000000 in
theorem xa1s (k:Nat) (d:List Nat) (i:Nat) (w:World) (hk:1≤k∧k≤32) (hd:Dg d) (hf:formB (k:Int) d = true) (hi:i < 2 * k) :
    Calls Tryd.prog 35 #[.int .i64 k,.agg (brow d),.int .i64 i] w fun e w'=>e = .returned (.int .i64 (dgt d i:Nat))∧Kept [] w w':=by
  have hdl:=hd.1
  have HE:=hide (by unfold atE; rw [wide_k hk,if_neg (by simp; omega),if_pos hf]:atE (k:Int) d (i:Int) = 0)
  have HC:=hide (by unfold atC; rw [uh HE,if_pos rfl,Int.toNat_natCast]:atC (k:Int) d (i:Int) = dgt d i)
  have HGA:=hide (heap_alloc_new w (.cells (brow d) 36))
  have HK0:=hide ((Kept.refl [] w).alloc (.cells (brow d) 36))
  go_enter Tryd.func35,Tryd.ntmps35
  go_wp2_with (refine wpList_load_mid rfl 36 _ rfl w.heap.size 0 rfl (d.map u8) _ (xa1c (uh HGA)) Tryd.underlying36 rfl (by rw [List.length_map,hdl]; exact Tryd.size_dig) ?_)
  refine Calls.mono (at_any k d i _ (by omega) (by omega) hd) ?_
  rintro e w1 ⟨rfl,k1⟩
  rw [uh HC,uh HE]
  have HK1:=hide ((uh HK0).trans k1 (by simp))
  clear k1
  go_wp2
  go_ret
  exact ⟨rfl,uh HK1⟩
set_option maxHeartbeats 1000000 in
theorem xb1c (g:Nat) (D O:List Nat) (pv:Value) (w:World) (h:w.heap[g]? = some (.cells (bkC D pv O).toArray 72 (0,0))) (hD:D.length = 32) (hO:O.length = 32) :
    Calls Tryd.prog 102 #[.pointer (some ⟨g,0,none⟩)] w fun e w'=>e = .returned (.agg (brow O))∧Kept [] w w':=by
  have HS2:=hide (by rw [xa0b,hO]; exact Tryd.size_dig:(Tryd.prog.info? 36).map (·.size) = some (brow O).size)
  have HG:=hide (((Kept.refl [] w).alloc (.cells (zb 32) 36)).heap h (by simp))
  have HZ:=hide (heap_alloc_new w (.cells (zb 32) 36))
  have HK:=hide ((Kept.refl [] w).alloc (.cells (zb 32) 36))
  have HR:=hide (bk_row (uh HG) hD).2.2
  clear h
  go_enter Tryd.func102,Tryd.ntmps102
  go_wp2_with (rw [zb32]; refine wpList_load_mid rfl 36 _ rfl g 33 rfl (O.map u8) _ (uh HR) Tryd.underlying36 rfl (by rw [List.length_map,hO]; exact Tryd.size_dig) ?_; refine wpList_store_row rfl 36 _ _ rfl w.heap.size (brow O) rfl rfl _ (zb 32) (uh HZ) (uh HS2) (by rw [xa0g,xa0b,hO]) (xa0f _) ?_)
  refine bodyPost_ret (v:=.agg (brow O)) ?_ rfl ⟨rfl,(uh HK).setRow (by simp) _⟩
  exact results_cell_row rfl _ _ w.heap.size _ (brow O) (0,0) _ rfl (setRow_heap _ _ _ _ _ _ (uh HZ)) Tryd.underlying36 rfl (uh HS2)
set_option maxHeartbeats 1000000 in
theorem xb1n (g x:Nat) (O:List Nat) (kv:Value) (w:World) (h:w.heap[g]? = some (.cells (brC x kv O).toArray 110 (0,0))) (hO:O.length = 32) :
    Calls Tryd.prog 104 #[.pointer (some ⟨g,0,none⟩)] w fun e w'=>e = .returned (.agg (brow O))∧Kept [] w w':=by
  have HS2:=hide (by rw [xa0b,hO]; exact Tryd.size_dig:(Tryd.prog.info? 36).map (·.size) = some (brow O).size)
  have HG:=hide (((Kept.refl [] w).alloc (.cells (zb 32) 36)).heap h (by simp))
  have HZ:=hide (heap_alloc_new w (.cells (zb 32) 36))
  have HK:=hide ((Kept.refl [] w).alloc (.cells (zb 32) 36))
  have HR:=hide (br_row (uh HG)).2.2
  clear h
  go_enter Tryd.func104,Tryd.ntmps104
  go_wp2_with (rw [zb32]; refine wpList_load_mid rfl 36 _ rfl g 2 rfl (O.map u8) _ (uh HR) Tryd.underlying36 rfl (by rw [List.length_map,hO]; exact Tryd.size_dig) ?_; refine wpList_store_row rfl 36 _ _ rfl w.heap.size (brow O) rfl rfl _ (zb 32) (uh HZ) (uh HS2) (by rw [xa0g,xa0b,hO]) (xa0f _) ?_)
  refine bodyPost_ret (v:=.agg (brow O)) ?_ rfl ⟨rfl,(uh HK).setRow (by simp) _⟩
  exact results_cell_row rfl _ _ w.heap.size _ (brow O) (0,0) _ rfl (setRow_heap _ _ _ _ _ _ (uh HZ)) Tryd.underlying36 rfl (uh HS2)
set_option maxHeartbeats 1000000 in
theorem xa1o (k:Nat) (D:List Nat) (ao:Option Addr) (n c:Nat) (ps:Prs) (w:World) (hk:1≤k∧k≤32) (hD:D.length = 32) (h:RdK w (.slice ao n c) ps) (hl:(pairB ps).length≤1000000000000) (hT:Tabs w) :
    Calls Tryd.prog 36 #[.int .i64 k,.agg (brow D),.slice ao n c] w fun e w'=>∃ g,e = .returned (.pointer (some ⟨g,0,none⟩))∧w.heap.size≤g∧w'.heap[g]? = some (.cells (bkC D (.slice ao n c) ((hsZ k).hb ps)).toArray 72 (0,0))∧Kept [] w w':=by
  obtain ⟨O,hO⟩:∃ O,sumD (k:Int) (buckB ps) = O:=⟨_,rfl⟩
  have hOl:O.length = 32:=by rw [← hO]; exact xa0r _ _
  have HO:=hide hO
  have HOg:=hide (show (hsZ k).hb ps = O from hO)
  rw [uh HOg]
  clear hO
  have HB:=hide (xb6f D O ao n c hD hOl)
  have HK0:=hide ((Kept.refl [] w).alloc (.cells (brow D) 36))
  have HG0:=hide (heap_alloc_new w (.cells (brow D) 36))
  go_enter Tryd.func36,Tryd.ntmps36
  go_wp2_with fail
  refine Calls.mono (xb0b k _ ps _ (by omega) (h.old (uh HK0)) hl (hT.k (uh HK0))) ?_
  rintro e w1 ⟨rfl,k1⟩
  rw [uh HO]
  have HK1:=hide ((uh HK0).trans k1 (by simp))
  have HG1:=hide (k1.heap (uh HG0) (by simp))
  clear k1 h hT
  have HZ:=hide (heap_alloc_new w1 (.cells (zb 32) 36))
  have HG2:=hide (((Kept.refl [] w1).alloc (.cells (zb 32) 36)).heap (uh HG1) (by simp))
  have hsz:=(uh HK1).size
  have hs1:w.heap.size < w1.heap.size:=lt_of_block (uh HG1)
  have HG3:=hide (((Kept.refl [w1.heap.size] (w1.alloc (.cells (zb 32) 36))).setRow (g:=w1.heap.size) (Or.inl (by simp)) (brow O)).heap (uh HG2) (by simp; omega))
  have HR3:=hide (setRow_heap _ _ _ (brow O) _ _ (uh HZ))
  have HK3:=hide ((((uh HK1).alloc (.cells (zb 32) 36))).setRow (g:=w1.heap.size) (Or.inr (by omega)) (brow O))
  have hs3:((w1.alloc (.cells (zb 32) 36)).setRow w1.heap.size (brow O)).heap.size = w1.heap.size + 1:=by simp [World.setRow]
  go_wp2_with (first
    | (rw [zb32]; refine wpList_store_row rfl 36 _ _ rfl w1.heap.size (brow O) rfl rfl _ (zb 32) (uh HZ) (by rw [xa0b,hOl]; exact Tryd.size_dig) (by rw [xa0g,xa0b,hOl]) (xa0f _) ?_)
    | (refine wpList_load_row rfl 36 (.tmp 4) rfl w.heap.size rfl 36 (brow D) (0,0) _ (uh HG3) Tryd.underlying36 rfl (by rw [xa0b,hD]; exact Tryd.size_dig) ?_)
    | (refine wpList_load_row rfl 36 (.tmp 7) rfl w1.heap.size rfl 36 (brow O) (0,0) _ (uh HR3) Tryd.underlying36 rfl (by rw [xa0b,hOl]; exact Tryd.size_dig) ?_)
    | (refine xa0i rfl 72 _ rfl (bkC D (.slice ao n c) O).toArray (by simp only [List.map_toArray,List.map_cons,List.map_nil]; exact uh HB) ?_))
  go_ret
  exact ⟨_,rfl,by omega,by rw [← hs3]; exact heap_alloc_new _ _,(uh HK3).alloc _⟩
theorem Tryd.infoDg:(Tryd.prog.info? 36).map (fun i=>(i.zero,i.size,i.bytes)) = some (some (.agg (zb 32)),32,32):=by kernel_rfl
theorem xb6o (m:Nat):madeCells (zb 32) m = (List.replicate m (u8 0)).toArray:=by
  apply Array.ext
  · simp [size_madeCells]
  · intro i h1 h2
    have hz:(zb 32).size = 32:=xa0g 32
    have hi:i % 32 < (zb 32).size:=by rw [hz]; omega
    have hall:∀ j (h:j < (zb 32).size),(zb 32)[j] = u8 0:=by
      have e:zb 32 = (List.replicate 32 (u8 0)).toArray:=rfl
      rw [e]
      intro j h
      simp only [List.getElem_toArray,List.getElem_replicate]
    simp only [madeCells,Array.getElem_map,Array.getElem_range,List.getElem_toArray,List.getElem_replicate]
    rw [hz,getElem!_pos (zb 32) (i % 32) hi]
    exact hall _ hi
theorem xb3c (n:Nat) (W:World) (hn:n≤1000000):(Instr.makeSlice 105 (.int .i64 n) (.int .i64 n)).run Tryd.prog W = .ok (.slice (some ⟨W.heap.size,0,none⟩) n n) (W.alloc (.cells (List.replicate (n * 32) (u8 0)).toArray 36)):=by
  have hz:=Tryd.infoDg
  obtain ⟨i0,hi⟩:∃ it,Tryd.prog.info? 36 = some it:=by
    cases h:Tryd.prog.info? 36 with
    | none=>rw [h] at hz; cases hz
    | some it=>exact ⟨it,rfl⟩
  rw [hi] at hz
  simp only [Option.map_some,Option.some.injEq,Prod.mk.injEq] at hz
  have h:=run_make (P:=Tryd.prog) W 105 36 i0 (.agg (zb 32)) Tryd.underlying105 hi hz.1 .i64 .i64 n n (by omega) (by omega) (by rw [hz.2.2]; omega) (by omega)
  rw [h,hz.2.1,Int.toNat_natCast,show (Value.agg (zb 32)).cells = zb 32 from rfl,xb6o]
theorem xb6z (a : Addr) (w : World) : (method 269 65 (.pointer (some a)) "notary/hamt.sum").run Tryd.prog w = .ok (102, .pointer (some a)) w := by kernel_rfl
theorem xb7y (a : Addr) (w : World) : (method 269 85 (.pointer (some a)) "notary/hamt.sum").run Tryd.prog w = .ok (104, .pointer (some a)) w := by kernel_rfl
theorem TreeAt.own {S:Nat→Prop} {k f:Nat} {W:World} {v:Value} {L:Prs} (h:TreeAt S (hsZ k) W f v L) :
    (∃ g D pv,sgl (hsZ k) L = true∧v = bkV g∧D.length = 32∧W.heap[g]? = some (.cells (bkC D pv (nodP (hsZ k) f L)).toArray 72 (0,0))) ∨
    (∃ g x kv,sgl (hsZ k) L = false∧v = brV g∧W.heap[g]? = some (.cells (brC x kv (nodP (hsZ k) f L)).toArray 110 (0,0))):=by
  cases hs:sgl (hsZ k) L with
  | true =>
    obtain ⟨g,h1,pv,h2,h3,_,_⟩:=h.bk hs
    exact Or.inl ⟨g,_,pv,rfl,h1,(xa5b _ _).1,by rw [xb7j hs]; exact h3⟩
  | false =>
    cases f with
    | zero =>
      have:=h.1
      rw [hs] at this; cases this
    | succ f =>
      obtain ⟨g,kv,vs,h1,h2,h3,_⟩:=h.2 hs
      exact Or.inr ⟨g,_,kv,rfl,h1,h3⟩
set_option maxHeartbeats 2000000 in
theorem xb1u (S:Nat→Prop) (k f:Nat) (kv:Value) (vs:List Value) (Ls:List Prs) (w:World) (hS:SRow S w kv vs) (hl:vs.length = Ls.length) (hn:0 < vs.length∧vs.length≤16) (ht:∀ i,i < vs.length→TreeAt S (hsZ k) w f (vs.getD i undef) (Ls.getD i [])) :
    Calls Tryd.prog 69 #[kv] w fun e w'=>∃ g n,e = .returned (.slice (some ⟨g,0,none⟩) n n)∧n = vs.length∧w.heap.size≤g∧w'.heap[g]? = some (.cells (flatD (Ls.map (nodP (hsZ k) f))).toArray 36 (0,0))∧Kept [] w w':=by
  obtain ⟨b,off,cap,rfl,hc1,hc2,_,hc3⟩:=hS
  have HC:=hide hc3
  have HT:=hide ht
  clear hc3 ht
  obtain ⟨n,hnn⟩:∃ n,vs.length = n:=⟨_,rfl⟩
  rw [hnn] at hl hn hc1 HC HT ⊢
  have HN:=hide hnn
  have HDG:=hide (fun i (hi:i < n)=>by rw [List.getD_eq_getElem?_getD,List.getElem?_map,List.getD_eq_getElem?_getD,List.getElem?_eq_getElem (by omega)]; rfl:∀ i,i < n→(Ls.map (nodP (hsZ k) f)).getD i [] = nodP (hsZ k) f (Ls.getD i []))
  have HDL:=hide (by rw [List.length_map]; exact hl.symm:(Ls.map (nodP (hsZ k) f)).length = n)
  have HD32:=hide (fun d hd=>by obtain ⟨L,_,rfl⟩:=List.mem_map.1 hd; exact (nod_dg k f L).1:∀ d∈Ls.map (nodP (hsZ k) f),d.length = 32)
  generalize Ls.map (nodP (hsZ k) f) = ds at HDG HDL HD32 ⊢
  have hmk:=xb3c n w (by omega)
  clear hnn hl
  have hm1:=xb6z
  have hm2:=xb7y
  go_enter Tryd.func69,Tryd.ntmps69
  go_wp2
  go_loopw [11] (fun t11 wr=>∃ (i:Nat),i≤n∧t11 = .int .i64 i∧Hid (wr.heap[w.heap.size]? = some (.cells (flatD (ds.take i)++List.replicate ((n - i) * 32) (u8 0)).toArray 36 (0,0)))∧Hid (Kept [] w wr)) (fun t _=>n - (intOf t).toNat)
  case atStart=>exact ⟨0,Nat.zero_le _,rfl,hide (by simp only [List.take_zero,flatD,List.map_nil,List.flatten_nil,List.nil_append,Nat.sub_zero]; exact heap_alloc_new _ _),hide ((Kept.refl [] w).alloc _)⟩
  case round =>
    obtain ⟨i,hi,rfl,HG,HK⟩:=hrel
    by_cases hlt:i < n
    · have hlt':(i:Int) < n:=by omega
      have hcl:=(uh HK).cell (uh HC i hlt) (by simp)
      have ht:=(uh HT i hlt).agr (Agr.nil (uh HK))
      have hO:=uh HDG i hlt
      generalize Ls.getD i [] = Li at ht hO
      generalize vs.getD i undef = v at hcl ht
      have hO2:=(nod_dg k f Li).1
      have hown:=ht.own
      generalize nodP (hsZ k) f Li = O at hown hO hO2
      have HO:=hide hO
      have hszw:w.heap.size < wr.heap.size:=lt_of_block (uh HG)
      clear ht hO
      rcases hown with ⟨g,D,pv,hs,rfl,hD,hh⟩ | ⟨g,x,kv,hs,rfl,hh⟩
      · clear hs
        go_wp2_with fail
        refine Calls.mono (xb1c g D O pv wr hh hD hO2) ?_
        rintro e w1 ⟨rfl,k1⟩
        clear hh
        obtain ⟨q1,q2⟩:=xb1d (k1.heap (uh HG) (by simp)) hlt (uh HDL) (uh HD32) (uh HO)
        have Q1:=hide q1
        have Q2:=hide q2
        have HK1:=hide (xa1r (L:=[]) w.heap.size (Or.inr (Nat.le_refl _)) (O.map u8) (i * 32) w1 ((uh HK).trans k1 (by simp)))
        clear q1 q2 k1
        go_wp2_with (refine wpList_store_mid rfl 36 (.tmp 20) (.tmp 19) rfl w.heap.size (i * 32) (brow O) rfl rfl (by rw [xa0b,hO2]; exact uh Q1) (by rw [xa0b,hO2]; exact Tryd.size_dig) (xa0f _) ?_)
        refine ⟨⟨i + 1,hlt,by go_num,Q2,HK1⟩,?_⟩
        simp [intOf]; omega
      · clear hs
        go_wp2_with fail
        refine Calls.mono (xb1n g x O kv wr hh hO2) ?_
        rintro e w1 ⟨rfl,k1⟩
        clear hh
        obtain ⟨q1,q2⟩:=xb1d (k1.heap (uh HG) (by simp)) hlt (uh HDL) (uh HD32) (uh HO)
        have Q1:=hide q1
        have Q2:=hide q2
        have HK1:=hide (xa1r (L:=[]) w.heap.size (Or.inr (Nat.le_refl _)) (O.map u8) (i * 32) w1 ((uh HK).trans k1 (by simp)))
        clear q1 q2 k1
        go_wp2_with (refine wpList_store_mid rfl 36 (.tmp 20) (.tmp 19) rfl w.heap.size (i * 32) (brow O) rfl rfl (by rw [xa0b,hO2]; exact uh Q1) (by rw [xa0b,hO2]; exact Tryd.size_dig) (xa0f _) ?_)
        refine ⟨⟨i + 1,hlt,by go_num,Q2,HK1⟩,?_⟩
        simp [intOf]; omega
    · have hie:i = n:=by omega
      subst hie
      have hlt':¬ (i:Int) < i:=by omega
      have HF:=hide (by have h9:=uh HG; rw [List.take_of_length_le (by rw [uh HDL]; exact Nat.le_refl _),Nat.sub_self,Nat.zero_mul,List.replicate_zero,List.append_nil] at h9; exact h9:wr.heap[w.heap.size]? = some (.cells (flatD ds).toArray 36 (0,0)))
      go_wp2
      go_ret
      exact ⟨_,_,rfl,rfl,Nat.le_refl _,uh HF,uh HK⟩
theorem ta_bk (g:Nat) (w:World):(Instr.typeAssert (bkV g) 59 65 true).run Tryd.prog w = .ok (.tuple #[.pointer (some ⟨g,0,none⟩),.bool true]) w:=by kernel_rfl
theorem ta_br (g:Nat) (w:World):(Instr.typeAssert (brV g) 59 65 true).run Tryd.prog w = .ok (.tuple #[.pointer none,.bool false]) w:=by kernel_rfl
theorem tb_bk (g:Nat) (w:World):(Instr.typeAssert (bkV g) 59 85 true).run Tryd.prog w = .ok (.tuple #[.pointer none,.bool false]) w:=by kernel_rfl
theorem tb_br (g:Nat) (w:World):(Instr.typeAssert (brV g) 59 85 true).run Tryd.prog w = .ok (.tuple #[.pointer (some ⟨g,0,none⟩),.bool true]) w:=by kernel_rfl
theorem ta_nil (w:World):(Instr.typeAssert .nilIface 59 65 true).run Tryd.prog w = .ok (.tuple #[.pointer none,.bool false]) w:=by kernel_rfl
theorem tb_nil (w:World):(Instr.typeAssert .nilIface 59 85 true).run Tryd.prog w = .ok (.tuple #[.pointer none,.bool false]) w:=by kernel_rfl
theorem xb4y {H:Hs} (hH:H.Ok) {d:Nat} {L:Prs} (h:(kidsL H d L).length = 1):kidsL H d L = [L]:=by
  unfold kidsL at h ⊢
  rw [List.length_map] at h
  match hp:prs H d L,h with
  | [i],_=>rw [List.map_cons,List.map_nil,ch_all (xb5s hH hp)]
theorem xb2c {H:Hs} (hH:H.Ok) {d:Nat} {L:Prs} (hn:L≠[]) (h:(kidsL H d L).length≠1):sgl H L = false :=
  xb8a hH (d:=d) hn (by unfold kidsL at h; rwa [List.length_map] at h)
theorem xa6r {H:Hs} (hH:H.Ok) {d:Nat} {L:Prs} (hn:L≠[]):0 < (kidsL H d L).length∧(kidsL H d L).length≤16:=by
  unfold kidsL
  rw [List.length_map]
  refine ⟨?_,prs_le _ _ _⟩
  have:=prs_ne hH (d:=d) hn
  cases h:prs H d L with
  | nil=>exact absurd h this
  | cons _ _=>simp
theorem xb8b {w:World} {g:Nat} {t:TypeId} {fr:Nat × Nat} {ds:List (List Nat)} (h:w.heap[g]? = some (.cells (flatD ds).toArray t fr)) (hd:∀ d∈ds,Dg d) (hl:ds.length≤1000000):RdD w (.slice (some ⟨g,0,none⟩) ds.length ds.length) ds:=by
  refine ⟨_,ds.length,ds.length,rfl,rfl,Nat.le_refl _,by omega,hd,fun _=>⟨g,0,rfl,fun i hi j v hj=>?_⟩⟩
  have hdl:∀ d∈ds,d.length = 32:=fun d hm=>(hd d hm).1
  have hj2:j < 32:=by
    have:=(List.getElem?_eq_some_iff.1 hj).1
    rw [List.length_map] at this
    have h9:(ds.getD i []).length = 32:=by rw [List.getD_eq_getElem?_getD,List.getElem?_eq_getElem hi]; exact hdl _ (List.getElem_mem _)
    omega
  rw [cell_of_row _ _ _ _ _ _ h,List.getElem?_toArray,Nat.zero_add,xb5a hdl i hi j hj2]
  exact hj
set_option maxHeartbeats 2000000 in
theorem xa1u (S:Nat→Prop) (k f x:Nat) (kv:Value) (vs:List Value) (L:Prs) (w:World) (hk:1≤k∧k≤32) (hS:∀ y,w.heap.size≤y→S y) (hn:L≠[]) (hx:x = bm (hsZ k) (63 - f) L)
    (hrow:SRow S w kv vs) (hlen:vs.length = (kidsL (hsZ k) (63 - f) L).length) (ht:∀ i,i < vs.length→TreeAt S (hsZ k) w f (vs.getD i undef) ((kidsL (hsZ k) (63 - f) L).getD i [])) (hT:Tabs w) :
    Calls Tryd.prog 51 #[.int .i64 k,.int .u16 (x:Int),kv] w fun e w'=>∃ v,e = .returned v∧TreeAt S (hsZ k) w' (f + 1) v L∧Kept [] w w':=by
  have hH:=hsZ_ok hk
  have hpos:=xa6r hH (d:=63 - f) hn
  rw [← hlen] at hpos
  have hcnt:=xa4k (hsZ k) (63 - f) L
  rw [← hx,← hlen] at hcnt
  have hxl:x < 65536:=by rw [hx]; exact bm_lt _ _ _
  have HRow:=hide hrow
  have HT:=hide ht
  have HTb:=hide hT
  obtain ⟨b,off,cap,rfl,hc1,hc2,hSb,hc3⟩:=hrow
  have c0:=hc3 0 hpos.1
  rw [Nat.add_zero] at c0
  have HC:=hide hc3
  have ht0:=ht 0 hpos.1
  clear hc3 ht hT
  obtain ⟨n,hnn⟩:∃ n,vs.length = n:=⟨_,rfl⟩
  rw [hnn] at hpos hcnt hc1 hlen ⊢
  have hp0:(0:Int) < n:=by omega
  obtain ⟨v0,hv0⟩:∃ v,vs.getD 0 undef = v:=⟨_,rfl⟩
  rw [hv0] at c0 ht0
  have HX:=hide hx
  have HN:=hide hnn
  have HCn:=hide hcnt
  have HLn:=hide hlen
  have HV0:=hide hv0
  have HH:=hide hH
  clear hv0 hx hnn hcnt hlen hH
  have hm1:=ta_bk
  have hm2:=ta_br
  have key:(∃ g,v0 = bkV g∧n = 1∧TreeAt S (hsZ k) w (f + 1) v0 L)∨(sgl (hsZ k) L = false∧((∃ g,v0 = bkV g∧n≠1)∨∃ g,v0 = brV g)):=by
    by_cases h1:n = 1
    · have hko:=xb4y (uh HH) (d:=63 - f) (L:=L) (by rw [← uh HLn,h1])
      rw [hko] at ht0
      have ht0':TreeAt S (hsZ k) w f v0 L:=ht0
      rcases ht0'.own with ⟨g,D,pv,hs0,e,hD,hh⟩ | ⟨g,y,kv,hs0,e,hh⟩
      · obtain ⟨g',e,hb⟩:=ht0'.bk hs0
        exact Or.inl ⟨g',e,h1,by rw [e]; exact TreeAt.ofBk (f + 1) hb hs0⟩
      · exact Or.inr ⟨hs0,Or.inr ⟨g,e⟩⟩
    · refine Or.inr ⟨xb2c (uh HH) (d:=63 - f) hn (by rw [← uh HLn]; exact h1),?_⟩
      rcases ht0.own with ⟨g,D,pv,hs0,e,hD,hh⟩ | ⟨g,y,kv,hs0,e,hh⟩
      · exact Or.inl ⟨g,e,h1⟩
      · exact Or.inr ⟨g,e⟩
  clear ht0
  rcases key with ⟨g,rfl,h1,hB⟩ | ⟨hs,hor⟩
  · have HB:=hide hB
    clear hB
    subst h1
    go_enter Tryd.func51,Tryd.ntmps51
    go_wp2
    go_ret
    exact ⟨_,rfl,uh HB,Kept.refl _ _⟩
  · obtain ⟨ds,hds⟩:∃ ds,(kidsL (hsZ k) (63 - f) L).map (nodP (hsZ k) f) = ds:=⟨_,rfl⟩
    have HDS:=hide hds
    have HDl:=hide (by rw [← hds,List.length_map,← uh HLn]:ds.length = n)
    have HDg:=hide (fun d hd=>by rw [← hds] at hd; obtain ⟨M,_,rfl⟩:=List.mem_map.1 hd; exact ⟨nod_dg k f M,xb4x hk f M⟩:∀ d∈ds,Dg d∧formB (k:Int) d = true)
    clear hds
    have HE0:=hide (xb7t hk hxl (fun d hd=>(uh HDg d hd).2) (by rw [← uh HCn,uh HDl]) (by intro e; have:=uh HDl; rw [e] at this; simp at this; omega):branchE (k:Int) x ds = 0)
    obtain ⟨O,hO⟩:∃ O,nodP (hsZ k) (f + 1) L = O:=⟨_,rfl⟩
    have HO:=hide (by rw [← hO,nod_br hs,← uh HX]; unfold kidsL at HDS; rw [← uh HDS,List.map_map]; rfl:sumD (k:Int) (branchB (k:Int) x ds) = O)
    have hOl:O.length = 32:=by rw [← hO]; exact (nod_dg k _ L).1
    have HOO:=hide hO
    clear hO
    have HB:=hide (xb4w x O (some ⟨b,off,none⟩) n cap hOl)
    go_enter Tryd.func51,Tryd.ntmps51
    rcases hor with ⟨g,rfl,h1⟩ | ⟨g,rfl⟩
    case' inl=>have h1':¬ (n:Int) = 1:=by omega
    all_goals
      go_wp2_with fail
      refine Calls.mono (xb1u S k f _ vs _ w (by rw [← uh HN]; exact uh HRow) (by rw [uh HN]; exact uh HLn) (by rw [uh HN]; exact hpos) (uh HT)) ?_
      rintro e w1 ⟨g1,n1,rfl,rfl,hg1,hr1,k1⟩
      rw [uh HDS] at hr1
      have hrd:=xb8b hr1 (fun d hd=>(uh HDg d hd).1) (by rw [uh HDl]; omega)
      rw [uh HDl] at hrd
      have HR1:=hide hrd
      have HK1:=hide k1
      clear hr1 hrd k1
      rw [uh HN]
      go_wp2_with fail
      refine Calls.mono (xb1o k x _ ds w1 (by omega) hxl (uh HR1) ((uh HTb).k (uh HK1))) ?_
      rintro e w2 ⟨rfl,k2⟩
      rw [uh HE0,show sunD 0 (k:Int) (branchB (k:Int) x ds) = sumD (k:Int) (branchB (k:Int) x ds) from rfl,uh HO]
      have HK2:=hide ((uh HK1).trans k2 (by simp))
      clear k2 HR1
      have HZ:=hide (heap_alloc_new w2 (.cells (zb 32) 36))
      have HR3:=hide (setRow_heap _ _ _ (brow O) _ _ (uh HZ))
      have hs2:=(uh HK2).size
      have HK3:=hide ((((uh HK2).alloc (.cells (zb 32) 36))).setRow (g:=w2.heap.size) (Or.inr (by omega)) (brow O))
      have hs3:((w2.alloc (.cells (zb 32) 36)).setRow w2.heap.size (brow O)).heap.size = w2.heap.size + 1:=by simp
      go_wp2_with (first
        | (rw [zb32]; refine wpList_store_row rfl 36 _ _ rfl w2.heap.size (brow O) rfl rfl _ (zb 32) (uh HZ) (by rw [xa0b,hOl]; exact Tryd.size_dig) (by rw [xa0g,xa0b,hOl]) (xa0f _) ?_)
        | (refine wpList_load_row rfl 36 (.tmp 9) rfl w2.heap.size rfl 36 (brow O) (0,0) _ (uh HR3) Tryd.underlying36 rfl (by rw [xa0b,hOl]; exact Tryd.size_dig) ?_)
        | (refine xa0i rfl 110 _ rfl (brC x (.slice (some ⟨b,off,none⟩) n cap) O).toArray (by simp only [List.map_toArray,List.map_cons,List.map_nil]; exact uh HB) ?_))
      have hkf:=(uh HK3).alloc (.cells (brC x (.slice (some ⟨b,off,none⟩) n cap) O).toArray 110)
      have HA:=hide (Agr.nil (S:=S) hkf)
      go_ret
      refine ⟨_,rfl,⟨fun h9=>absurd h9 (by rw [hs]; decide),fun _=>⟨w2.heap.size + 1,.slice (some ⟨b,off,none⟩) n cap,vs,rfl,hS _ (by omega),?_,?_,by rw [uh HN]; exact uh HLn,fun i hi=>(uh HT i hi).agr (uh HA)⟩⟩,hkf⟩
      · rw [← uh HX,uh HOO,← hs3]; exact heap_alloc_new _ _
      · have h9:=(uh HRow).agr (uh HA); rw [uh HN] at h9; exact h9
end
section
open Go Go.RowKit Go.BigFrame
theorem ln_sp {P:Program} {Q:Exit→Act→World→Prop} {id:Nat} {o0 o1 o2 o3 o4 o5 o6 o7 o8 o9:Oper} {a:Act} {w:World} (hm:P.follows .mixedOrders = true) (hb:linB #[o0,o1,o2,o3,o4,o5,o6,o7,o8,o9] [0,1,2,3,4,5,6] [7,8,9] [] = true) (hg:([o0,o1,o2,o3,o4,o5,o6]++([o7,o8,o9]++[])).all (fun o=>o.guard.isNone) = true) (S:World→Prop) (hS:S w.drew)
    (h:LinY P S (ChL P Q S (Q .normal) [o7,o8,o9]) [o0,o1,o2,o3,o4,o5,o6] a w.drew):(Code.region id #[o0,o1,o2,o3,o4,o5,o6,o7,o8,o9] true).wp P Q a w:=xa1b (R:=[0,1,2,3,4,5,6]) (C:=[7,8,9]) (rs:=[o0,o1,o2,o3,o4,o5,o6]) (cs:=[o7,o8,o9]) hm hb rfl rfl hg hS h
theorem ln_kid {P:Program} {Q:Exit→Act→World→Prop} {id:Nat} {o0 o1 o2 o3 o4 o5 o6 o7 o8 o9 o10 o11 o12:Oper} {a:Act} {w:World} (hm:P.follows .mixedOrders = true) (hb:linB #[o0,o1,o2,o3,o4,o5,o6,o7,o8,o9,o10,o11,o12] [0,1,2,3,4,5,6,7,8] [9,10,11,12] [] = true) (hg:([o0,o1,o2,o3,o4,o5,o6,o7,o8]++([o9,o10,o11,o12]++[])).all (fun o=>o.guard.isNone) = true) (S:World→Prop) (hS:S w.drew)
    (h:LinY P S (ChL P Q S (Q .normal) [o9,o10,o11,o12]) [o0,o1,o2,o3,o4,o5,o6,o7,o8] a w.drew):(Code.region id #[o0,o1,o2,o3,o4,o5,o6,o7,o8,o9,o10,o11,o12] true).wp P Q a w:=xa1b (R:=[0,1,2,3,4,5,6,7,8]) (C:=[9,10,11,12]) (rs:=[o0,o1,o2,o3,o4,o5,o6,o7,o8]) (cs:=[o9,o10,o11,o12]) hm hb rfl rfl hg hS h
theorem ln_fk {P:Program} {Q:Exit→Act→World→Prop} {id:Nat} {o0 o1 o2 o3 o4 o5 o6 o7 o8 o9 o10 o11 o12 o13 o14:Oper} {a:Act} {w:World} (hm:P.follows .mixedOrders = true) (hb:linB #[o0,o1,o2,o3,o4,o5,o6,o7,o8,o9,o10,o11,o12,o13,o14] [0,1,2,3,4,5,6,7,8] [9] [10,11,12,13,14] = true) (hg:([o0,o1,o2,o3,o4,o5,o6,o7,o8]++([o9]++[o10,o11,o12,o13,o14])).all (fun o=>o.guard.isNone) = true) (S:World→Prop) (hS:S w.drew)
    (h:LinY P S (ChL P Q S (fun a w=>S w∧LinY P S (Q .normal) [o10,o11,o12,o13,o14] a w) [o9]) [o0,o1,o2,o3,o4,o5,o6,o7,o8] a w.drew):(Code.region id #[o0,o1,o2,o3,o4,o5,o6,o7,o8,o9,o10,o11,o12,o13,o14] true).wp P Q a w:=wp_lin (R:=[0,1,2,3,4,5,6,7,8]) (C:=[9]) (T:=[10,11,12,13,14]) (rs:=[o0,o1,o2,o3,o4,o5,o6,o7,o8]) (cs:=[o9]) (ts:=[o10,o11,o12,o13,o14]) hm hb rfl rfl rfl hg hS h
theorem ln_wk {P:Program} {Q:Exit→Act→World→Prop} {id:Nat} {o0 o1 o2 o3 o4 o5 o6 o7 o8 o9 o10 o11 o12 o13 o14:Oper} {a:Act} {w:World} (hm:P.follows .mixedOrders = true) (hb:linB #[o0,o1,o2,o3,o4,o5,o6,o7,o8,o9,o10,o11,o12,o13,o14] [0,1,2,3,4,6,7,8,9,10,11] [5,12,13,14] [] = true) (hg:([o0,o1,o2,o3,o4,o6,o7,o8,o9,o10,o11]++([o5,o12,o13,o14]++[])).all (fun o=>o.guard.isNone) = true) (S:World→Prop) (hS:S w.drew)
    (h:LinY P S (ChL P Q S (Q .normal) [o5,o12,o13,o14]) [o0,o1,o2,o3,o4,o6,o7,o8,o9,o10,o11] a w.drew):(Code.region id #[o0,o1,o2,o3,o4,o5,o6,o7,o8,o9,o10,o11,o12,o13,o14] true).wp P Q a w:=xa1b (R:=[0,1,2,3,4,6,7,8,9,10,11]) (C:=[5,12,13,14]) (rs:=[o0,o1,o2,o3,o4,o6,o7,o8,o9,o10,o11]) (cs:=[o5,o12,o13,o14]) hm hb rfl rfl hg hS h
theorem ln_wo {P:Program} {Q:Exit→Act→World→Prop} {id:Nat} {o0 o1 o2 o3 o4 o5 o6 o7 o8 o9 o10 o11 o12 o13 o14 o15:Oper} {a:Act} {w:World} (hm:P.follows .mixedOrders = true) (hb:linB #[o0,o1,o2,o3,o4,o5,o6,o7,o8,o9,o10,o11,o12,o13,o14,o15] [0,1,2,3,4,5,7,8,9,10,11,12] [6,13,14,15] [] = true) (hg:([o0,o1,o2,o3,o4,o5,o7,o8,o9,o10,o11,o12]++([o6,o13,o14,o15]++[])).all (fun o=>o.guard.isNone) = true) (S:World→Prop) (hS:S w.drew)
    (h:LinY P S (ChL P Q S (Q .normal) [o6,o13,o14,o15]) [o0,o1,o2,o3,o4,o5,o7,o8,o9,o10,o11,o12] a w.drew):(Code.region id #[o0,o1,o2,o3,o4,o5,o6,o7,o8,o9,o10,o11,o12,o13,o14,o15] true).wp P Q a w:=xa1b (R:=[0,1,2,3,4,5,7,8,9,10,11,12]) (C:=[6,13,14,15]) (rs:=[o0,o1,o2,o3,o4,o5,o7,o8,o9,o10,o11,o12]) (cs:=[o6,o13,o14,o15]) hm hb rfl rfl hg hS h
theorem ln_wn {P:Program} {Q:Exit→Act→World→Prop} {id:Nat} {o0 o1 o2 o3 o4 o5 o6 o7 o8 o9 o10 o11 o12 o13 o14 o15 o16 o17:Oper} {a:Act} {w:World} (hm:P.follows .mixedOrders = true) (hb:linB2 #[o0,o1,o2,o3,o4,o5,o6,o7,o8,o9,o10,o11,o12,o13,o14,o15,o16,o17] [0,1,2,3,4,5,7,8,9,10,11,12,13] 6 14 [15,16,17] = true) (hg:([o0,o1,o2,o3,o4,o5,o7,o8,o9,o10,o11,o12,o13]++(o6 :: o14 :: [o15,o16,o17])).all (fun o=>o.guard.isNone) = true) (S:World→Prop) (hS:S w.drew)
    (h:LinY P S (fun a w=>ChL P Q S (Q .normal) (o6 :: o14 :: [o15,o16,o17]) a w∧ChL P Q S (Q .normal) (o14 :: o6 :: [o15,o16,o17]) a w) [o0,o1,o2,o3,o4,o5,o7,o8,o9,o10,o11,o12,o13] a w.drew):(Code.region id #[o0,o1,o2,o3,o4,o5,o6,o7,o8,o9,o10,o11,o12,o13,o14,o15,o16,o17] true).wp P Q a w:=xb7n (R:=[0,1,2,3,4,5,7,8,9,10,11,12,13]) (i:=6) (j:=14) (C:=[15,16,17]) (rs:=[o0,o1,o2,o3,o4,o5,o7,o8,o9,o10,o11,o12,o13]) (cs:=[o15,o16,o17]) hm hb rfl rfl rfl rfl hg hS h
theorem ln_ar {P:Program} {Q:Exit→Act→World→Prop} {id:Nat} {o0 o1 o2 o3 o4 o5 o6 o7 o8 o9 o10:Oper} {a:Act} {w:World} (hm:P.follows .mixedOrders = true) (hb:linB #[o0,o1,o2,o3,o4,o5,o6,o7,o8,o9,o10] [0,1,2,3,4,5,6,7,8] [9,10] [] = true) (hg:([o0,o1,o2,o3,o4,o5,o6,o7,o8]++([o9,o10]++[])).all (fun o=>o.guard.isNone) = true) (S:World→Prop) (hS:S w.drew)
    (h:LinY P S (ChL P Q S (Q .normal) [o9,o10]) [o0,o1,o2,o3,o4,o5,o6,o7,o8] a w.drew):(Code.region id #[o0,o1,o2,o3,o4,o5,o6,o7,o8,o9,o10] true).wp P Q a w:=xa1b (R:=[0,1,2,3,4,5,6,7,8]) (C:=[9,10]) (rs:=[o0,o1,o2,o3,o4,o5,o6,o7,o8]) (cs:=[o9,o10]) hm hb rfl rfl hg hS h
theorem ln_eg {P:Program} {Q:Exit→Act→World→Prop} {id:Nat} {o0 o1 o2 o3 o4 o5 o6 o7 o8 o9 o10 o11 o12:Oper} {a:Act} {w:World} (hm:P.follows .mixedOrders = true) (hb:linB #[o0,o1,o2,o3,o4,o5,o6,o7,o8,o9,o10,o11,o12] [0,1,2,3,4,5,6,7,8,9,10,11,12] [] [] = true) (S:World→Prop) (hS:S w.drew)
    (h:LinG P #[o0,o1,o2,o3,o4,o5,o6,o7,o8,o9,o10,o11,o12] S (Q .normal) [o0,o1,o2,o3,o4,o5,o6,o7,o8,o9,o10,o11,o12] a w.drew):(Code.region id #[o0,o1,o2,o3,o4,o5,o6,o7,o8,o9,o10,o11,o12] true).wp P Q a w:=xb3o (R:=[0,1,2,3,4,5,6,7,8,9,10,11,12]) (rs:=[o0,o1,o2,o3,o4,o5,o6,o7,o8,o9,o10,o11,o12]) hm hb rfl hS h
theorem ln_ew {P:Program} {Q:Exit→Act→World→Prop} {id:Nat} {o0 o1 o2 o3 o4 o5 o6 o7 o8 o9 o10:Oper} {a:Act} {w:World} (hm:P.follows .mixedOrders = true) (hb:linB #[o0,o1,o2,o3,o4,o5,o6,o7,o8,o9,o10] [0,1,2,3,4,5] [6,7,8,9,10] [] = true) (hg:([o0,o1,o2,o3,o4,o5]++([o6,o7,o8,o9,o10]++[])).all (fun o=>o.guard.isNone) = true) (S:World→Prop) (hS:S w.drew)
    (h:LinY P S (ChL P Q S (Q .normal) [o6,o7,o8,o9,o10]) [o0,o1,o2,o3,o4,o5] a w.drew):(Code.region id #[o0,o1,o2,o3,o4,o5,o6,o7,o8,o9,o10] true).wp P Q a w:=xa1b (R:=[0,1,2,3,4,5]) (C:=[6,7,8,9,10]) (rs:=[o0,o1,o2,o3,o4,o5]) (cs:=[o6,o7,o8,o9,o10]) hm hb rfl rfl hg hS h
theorem ln_eo {P:Program} {Q:Exit→Act→World→Prop} {id:Nat} {o0 o1 o2 o3 o4 o5 o6 o7 o8:Oper} {a:Act} {w:World} (hm:P.follows .mixedOrders = true) (hb:linB #[o0,o1,o2,o3,o4,o5,o6,o7,o8] [0,1,2,3,4] [5,6,7,8] [] = true) (hg:([o0,o1,o2,o3,o4]++([o5,o6,o7,o8]++[])).all (fun o=>o.guard.isNone) = true) (S:World→Prop) (hS:S w.drew)
    (h:LinY P S (ChL P Q S (Q .normal) [o5,o6,o7,o8]) [o0,o1,o2,o3,o4] a w.drew):(Code.region id #[o0,o1,o2,o3,o4,o5,o6,o7,o8] true).wp P Q a w:=xa1b (R:=[0,1,2,3,4]) (C:=[5,6,7,8]) (rs:=[o0,o1,o2,o3,o4]) (cs:=[o5,o6,o7,o8]) hm hb rfl rfl hg hS h
theorem ln_li {P:Program} {Q:Exit→Act→World→Prop} {id:Nat} {o0 o1 o2 o3 o4 o5 o6 o7 o8 o9 o10 o11 o12 o13 o14 o15:Oper} {a:Act} {w:World} (hm:P.follows .mixedOrders = true) (hb:linB #[o0,o1,o2,o3,o4,o5,o6,o7,o8,o9,o10,o11,o12,o13,o14,o15] [0,1,2,3,4,5,6,7,8,9,10,11,13] [12,14,15] [] = true) (hg:([o0,o1,o2,o3,o4,o5,o6,o7,o8,o9,o10,o11,o13]++([o12,o14,o15]++[])).all (fun o=>o.guard.isNone) = true) (S:World→Prop) (hS:S w.drew)
    (h:LinY P S (ChL P Q S (Q .normal) [o12,o14,o15]) [o0,o1,o2,o3,o4,o5,o6,o7,o8,o9,o10,o11,o13] a w.drew):(Code.region id #[o0,o1,o2,o3,o4,o5,o6,o7,o8,o9,o10,o11,o12,o13,o14,o15] true).wp P Q a w:=xa1b (R:=[0,1,2,3,4,5,6,7,8,9,10,11,13]) (C:=[12,14,15]) (rs:=[o0,o1,o2,o3,o4,o5,o6,o7,o8,o9,o10,o11,o13]) (cs:=[o12,o14,o15]) hm hb rfl rfl hg hS h
end
section
open Go.RowKit Go.BigFrame
theorem RdC.tk {s:Nat} {w:World} {ao:Option Addr} {n c:Nat} {rows:List (List Value)} (h:RdC s w (.slice ao n c) rows) {m:Nat} (hm:m≤n):RdC s w (.slice ao m c) (rows.take m):=by
  obtain ⟨ao',len,cap,e,h1,h2,h3,h4⟩:=h
  cases e
  refine ⟨ao,m,c,rfl,by rw [List.length_take]; omega,by omega,h3,fun hp=>?_⟩
  obtain ⟨b,off,rfl,hc⟩:=h4 (by omega)
  exact ⟨b,off,rfl,fun i hi=>by rw [List.getElem_take]; exact hc i (by rw [List.length_take] at hi; omega)⟩
theorem RdC.dp {s:Nat} {w:World} {b off n c:Nat} {rows:List (List Value)} (h:RdC s w (.slice (some ⟨b,off,none⟩) n c) rows) {m:Nat} (hm:m≤n):RdC s w (.slice (some ⟨b,off + m * s,none⟩) (n - m) (c - m)) (rows.drop m):=by
  obtain ⟨ao',len,cap,e,h1,h2,h3,h4⟩:=h
  cases e
  refine ⟨_,n - m,c - m,rfl,by rw [List.length_drop]; omega,by omega,by omega,fun hp=>?_⟩
  obtain ⟨b',off',e,hc⟩:=h4 (by omega)
  cases e
  refine ⟨b,off + m * s,rfl,fun i hi=>?_⟩
  rw [List.getElem_drop,show off + m * s + i * s = off + (m + i) * s by rw [Nat.add_mul]; omega]
  exact hc (m + i) (by rw [List.length_drop] at hi; omega)
theorem ownsBase {w:World} {T s B C:Nat} {v:Value} {L:List (List (List Value))} (h:OwC T s B w v L) (hBC:C≤B):OwC T s C w v L:=by
  obtain ⟨h1,h2⟩:=h
  refine ⟨h1,?_⟩
  rcases h2 with h2 | ⟨g,cap,cur,hv,hg,r⟩
  · exact Or.inl h2
  · exact Or.inr ⟨g,cap,cur,hv,Nat.le_trans hBC hg,r⟩
set_option maxHeartbeats 1000000 in
theorem xa3q (b off n c fr tz:Nat) (iv:Value) (rows its:List (List Value)) (w:World) (h:RdC 2 w (.slice (some ⟨b,off,none⟩) n c) rows) (hi:RdC 2 w iv its) (h1:fr≤n) (h2:tz≤n) (hl:n≤10000000000) (hl2:its.length≤10000000000)
    (hs:∀ r∈rows,r.length = 2) (hone:∀ r∈rows,∀ u∈r,u.oneCell' = true) (hsi:∀ r∈its,r.length = 2) (honei:∀ r∈its,∀ u∈r,u.oneCell' = true) :
    Calls Tryd.prog 57 #[.slice (some ⟨b,off,none⟩) n c,.int .i64 fr,.int .i64 tz,iv] w fun e w'=>∃ v',e = .returned v'∧OwC 50 2 w.heap.size w' v' [rows.take fr,its,rows.drop tz]∧Kept [] w w':=by
  obtain ⟨ai,ni,ci,rfl,hi1,_⟩:=id hi
  subst hi1
  obtain ⟨_,_,_,e0,hr1,hr2,hr3,_⟩:=id h
  cases e0
  have q1:¬ c < fr:=by omega
  have q2:¬ n < tz:=by omega
  have q3:fr≤c:=by omega
  have HR:=hide h
  have HI:=hide hi
  obtain ⟨o2,hcase⟩:∃ o2,(c = tz∧o2 = off)∨(¬ c = tz∧o2 = off + tz * 2):=by
    by_cases hct:c = tz
    · exact ⟨off,Or.inl ⟨hct,rfl⟩⟩
    · exact ⟨_,Or.inr ⟨hct,rfl⟩⟩
  have HD:=hide (by
    rcases hcase with ⟨hct,rfl⟩ | ⟨hct,rfl⟩
    · exact ⟨_,n - tz,c - tz,rfl,by rw [List.length_drop]; omega,by omega,by omega,fun hp=>by omega⟩
    · first | exact h.dp h2 | (have h9:=h.dp h2; rw [Nat.mul_one] at h9; exact h9):RdC 2 w (.slice (some ⟨b,o2,none⟩) (n - tz) (c - tz)) (rows.drop tz))
  have HT:=hide (h.tk h1)
  have HCA:=hide hcase
  have HRL:=hide hr1
  clear h hi hcase hr1
  go_enter Tryd.func57,Tryd.ntmps57
  go_wp2
  refine ln_sp (by kernel_rfl) (by kernel_rfl) rfl (fun W=>Kept [] w W) (Kept.refl [] w).drew ?_
  refine LinY.mv (x:=.tmp 0) rfl (.slice (some ⟨b,off,none⟩) n c) rfl (by simp only [Act.put,sa1,sa2,sa3]; rfl) ?_
  refine LinY.mv (x:=.tmp 1) rfl (.int .i64 fr) rfl (by simp only [Act.put,sa1,sa2,sa3]; rfl) ?_
  refine LinY.rd (.slice (some ⟨b,off,none⟩) fr c) (fun W hW=>by go_simp) (by simp only [Act.put,sa1,sa2,sa3]; rfl) ?_
  refine LinY.mv (x:=.tmp 3) rfl (.slice ai its.length ci) rfl (by simp only [Act.put,sa1,sa2,sa3]; rfl) ?_
  refine LinY.mv (x:=.tmp 0) rfl (.slice (some ⟨b,off,none⟩) n c) rfl (by simp only [Act.put,sa1,sa2,sa3]; rfl) ?_
  refine LinY.mv (x:=.tmp 2) rfl (.int .i64 tz) rfl (by simp only [Act.put,sa1,sa2,sa3]; rfl) ?_
  refine LinY.rd (.slice (some ⟨b,o2,none⟩) (n - tz) (c - tz)) (fun W hW=>by rcases uh HCA with ⟨h8,h9⟩ | ⟨h8,h9⟩ <;> (subst h9; go_simp)) (by simp only [Act.put,sa1,sa2,sa3]; rfl) ?_
  have hbs:Tryd.prog.underlying 149 = some (.slice 32):=Tryd.underlying149
  refine ChL.op (w':=w.drew.alloc (.cells #[.slice (some ⟨b,off,none⟩) fr c,.slice ai its.length ci,.slice (some ⟨b,o2,none⟩) (n - tz) (c - tz)] 32)) (.slice (some ⟨w.heap.size,0,none⟩) 3 3) (by go_simp; skip) (((Kept.refl [] w).drew).alloc _) (by simp only [Act.put,sa1,sa2,sa3]; rfl) ?_
  have HW1:=hide (((Kept.refl [] w).drew).alloc (.cells #[.slice (some ⟨b,off,none⟩) fr c,.slice ai its.length ci,.slice (some ⟨b,o2,none⟩) (n - tz) (c - tz)] 32))
  have HG1:=hide (show ∀ X,(w.drew.alloc X).heap[w.heap.size]? = some X from fun X=>heap_alloc_new w.drew X); have HG1:=hide (uh HG1 (.cells #[.slice (some ⟨b,off,none⟩) fr c,.slice ai its.length ci,.slice (some ⟨b,o2,none⟩) (n - tz) (c - tz)] 32))
  generalize w.drew.alloc (.cells #[.slice (some ⟨b,off,none⟩) fr c,.slice ai its.length ci,.slice (some ⟨b,o2,none⟩) (n - tz) (c - tz)] 32) = W1 at HW1 HG1 ⊢
  have hrm:RdMC 2 W1 (.slice (some ⟨w.heap.size,0,none⟩) 3 3) [rows.take fr,its,rows.drop tz]:=by
    refine ⟨_,3,3,[.slice (some ⟨b,off,none⟩) fr c,.slice ai its.length ci,.slice (some ⟨b,o2,none⟩) (n - tz) (c - tz)],rfl,rfl,Nat.le_refl _,by omega,fun i hi=>?_,fun _=>⟨w.heap.size,0,rfl,fun i hi=>?_⟩⟩
    · match i,hi with
      | 0,_=>exact (uh HT).old (uh HW1)
      | 1,_=>exact (uh HI).old (uh HW1)
      | 2,_=>exact (uh HD).old (uh HW1)
    · rw [cell_of_row _ _ _ _ _ _ (uh HG1)]
      match i,hi with
      | 0,_=>rfl
      | 1,_=>rfl
      | 2,_=>rfl
  have hsz:∀ l∈[rows.take fr,its,rows.drop tz],(∀ r∈l,r.length = 2)∧∀ r∈l,∀ u∈r,u.oneCell' = true:=by
    intro l hl
    simp only [List.mem_cons,List.not_mem_nil,or_false] at hl
    rcases hl with rfl | rfl | rfl
    · exact ⟨fun r hr=>hs r (List.mem_of_mem_take hr),fun r hr=>hone r (List.mem_of_mem_take hr)⟩
    · exact ⟨hsi,honei⟩
    · exact ⟨fun r hr=>hs r (List.mem_of_mem_drop hr),fun r hr=>hone r (List.mem_of_mem_drop hr)⟩
  refine ChL.call rfl Tryd.call73 [.slice (some ⟨w.heap.size,0,none⟩) 3 3] rfl (xa8o _ _ W1 hrm (fun l hl=>(hsz l hl).1) (fun l hl=>(hsz l hl).2) (by have:=uh HRL; simp; omega)) ?_
  rintro e w2 ⟨v',rfl,ho,k2⟩
  have hk2:=(uh HW1).trans k2 (by simp)
  have hsz1:=(uh HW1).size
  refine ⟨v',rfl,hk2,?_⟩
  simp only [Act.put,sa1,sa2,sa3]
  refine ChL.op v' (by go_simp) hk2 (by simp only [Act.put,sa1,sa2,sa3]; rfl) (ChL.fin ?_)
  go_wp2
  go_ret
  exact ⟨_,rfl,ownsBase ho hsz1,hk2⟩
set_option maxHeartbeats 1000000 in
theorem xa2b (b off n c fr tz:Nat) (iv:Value) (rows its:List (List Value)) (w:World) (h:RdC 1 w (.slice (some ⟨b,off,none⟩) n c) rows) (hi:RdC 1 w iv its) (h1:fr≤n) (h2:tz≤n) (hl:n≤10000000000) (hl2:its.length≤10000000000)
    (hs:∀ r∈rows,r.length = 1) (hone:∀ r∈rows,∀ u∈r,u.oneCell' = true) (hsi:∀ r∈its,r.length = 1) (honei:∀ r∈its,∀ u∈r,u.oneCell' = true) :
    Calls Tryd.prog 53 #[.slice (some ⟨b,off,none⟩) n c,.int .i64 fr,.int .i64 tz,iv] w fun e w'=>∃ v',e = .returned v'∧OwC 59 1 w.heap.size w' v' [rows.take fr,its,rows.drop tz]∧Kept [] w w':=by
  obtain ⟨ai,ni,ci,rfl,hi1,_⟩:=id hi
  subst hi1
  obtain ⟨_,_,_,e0,hr1,hr2,hr3,_⟩:=id h
  cases e0
  have q1:¬ c < fr:=by omega
  have q2:¬ n < tz:=by omega
  have q3:fr≤c:=by omega
  have HR:=hide h
  have HI:=hide hi
  obtain ⟨o2,hcase⟩:∃ o2,(c = tz∧o2 = off)∨(¬ c = tz∧o2 = off + tz ):=by
    by_cases hct:c = tz
    · exact ⟨off,Or.inl ⟨hct,rfl⟩⟩
    · exact ⟨_,Or.inr ⟨hct,rfl⟩⟩
  have HD:=hide (by
    rcases hcase with ⟨hct,rfl⟩ | ⟨hct,rfl⟩
    · exact ⟨_,n - tz,c - tz,rfl,by rw [List.length_drop]; omega,by omega,by omega,fun hp=>by omega⟩
    · first | exact h.dp h2 | (have h9:=h.dp h2; rw [Nat.mul_one] at h9; exact h9):RdC 1 w (.slice (some ⟨b,o2,none⟩) (n - tz) (c - tz)) (rows.drop tz))
  have HT:=hide (h.tk h1)
  have HCA:=hide hcase
  have HRL:=hide hr1
  clear h hi hcase hr1
  go_enter Tryd.func53,Tryd.ntmps53
  go_wp2
  refine ln_sp (by kernel_rfl) (by kernel_rfl) rfl (fun W=>Kept [] w W) (Kept.refl [] w).drew ?_
  refine LinY.mv (x:=.tmp 0) rfl (.slice (some ⟨b,off,none⟩) n c) rfl (by simp only [Act.put,sa1,sa2,sa3]; rfl) ?_
  refine LinY.mv (x:=.tmp 1) rfl (.int .i64 fr) rfl (by simp only [Act.put,sa1,sa2,sa3]; rfl) ?_
  refine LinY.rd (.slice (some ⟨b,off,none⟩) fr c) (fun W hW=>by go_simp) (by simp only [Act.put,sa1,sa2,sa3]; rfl) ?_
  refine LinY.mv (x:=.tmp 3) rfl (.slice ai its.length ci) rfl (by simp only [Act.put,sa1,sa2,sa3]; rfl) ?_
  refine LinY.mv (x:=.tmp 0) rfl (.slice (some ⟨b,off,none⟩) n c) rfl (by simp only [Act.put,sa1,sa2,sa3]; rfl) ?_
  refine LinY.mv (x:=.tmp 2) rfl (.int .i64 tz) rfl (by simp only [Act.put,sa1,sa2,sa3]; rfl) ?_
  refine LinY.rd (.slice (some ⟨b,o2,none⟩) (n - tz) (c - tz)) (fun W hW=>by rcases uh HCA with ⟨h8,h9⟩ | ⟨h8,h9⟩ <;> (subst h9; go_simp)) (by simp only [Act.put,sa1,sa2,sa3]; rfl) ?_
  have hbs:Tryd.prog.underlying 146 = some (.slice 108):=Tryd.underlying146
  refine ChL.op (w':=w.drew.alloc (.cells #[.slice (some ⟨b,off,none⟩) fr c,.slice ai its.length ci,.slice (some ⟨b,o2,none⟩) (n - tz) (c - tz)] 108)) (.slice (some ⟨w.heap.size,0,none⟩) 3 3) (by go_simp; skip) (((Kept.refl [] w).drew).alloc _) (by simp only [Act.put,sa1,sa2,sa3]; rfl) ?_
  have HW1:=hide (((Kept.refl [] w).drew).alloc (.cells #[.slice (some ⟨b,off,none⟩) fr c,.slice ai its.length ci,.slice (some ⟨b,o2,none⟩) (n - tz) (c - tz)] 108))
  have HG1:=hide (show ∀ X,(w.drew.alloc X).heap[w.heap.size]? = some X from fun X=>heap_alloc_new w.drew X); have HG1:=hide (uh HG1 (.cells #[.slice (some ⟨b,off,none⟩) fr c,.slice ai its.length ci,.slice (some ⟨b,o2,none⟩) (n - tz) (c - tz)] 108))
  generalize w.drew.alloc (.cells #[.slice (some ⟨b,off,none⟩) fr c,.slice ai its.length ci,.slice (some ⟨b,o2,none⟩) (n - tz) (c - tz)] 108) = W1 at HW1 HG1 ⊢
  have hrm:RdMC 1 W1 (.slice (some ⟨w.heap.size,0,none⟩) 3 3) [rows.take fr,its,rows.drop tz]:=by
    refine ⟨_,3,3,[.slice (some ⟨b,off,none⟩) fr c,.slice ai its.length ci,.slice (some ⟨b,o2,none⟩) (n - tz) (c - tz)],rfl,rfl,Nat.le_refl _,by omega,fun i hi=>?_,fun _=>⟨w.heap.size,0,rfl,fun i hi=>?_⟩⟩
    · match i,hi with
      | 0,_=>exact (uh HT).old (uh HW1)
      | 1,_=>exact (uh HI).old (uh HW1)
      | 2,_=>exact (uh HD).old (uh HW1)
    · rw [cell_of_row _ _ _ _ _ _ (uh HG1)]
      match i,hi with
      | 0,_=>rfl
      | 1,_=>rfl
      | 2,_=>rfl
  have hsz:∀ l∈[rows.take fr,its,rows.drop tz],(∀ r∈l,r.length = 1)∧∀ r∈l,∀ u∈r,u.oneCell' = true:=by
    intro l hl
    simp only [List.mem_cons,List.not_mem_nil,or_false] at hl
    rcases hl with rfl | rfl | rfl
    · exact ⟨fun r hr=>hs r (List.mem_of_mem_take hr),fun r hr=>hone r (List.mem_of_mem_take hr)⟩
    · exact ⟨hsi,honei⟩
    · exact ⟨fun r hr=>hs r (List.mem_of_mem_drop hr),fun r hr=>hone r (List.mem_of_mem_drop hr)⟩
  refine ChL.call rfl Tryd.call70 [.slice (some ⟨w.heap.size,0,none⟩) 3 3] rfl (xa8q _ _ W1 hrm (fun l hl=>(hsz l hl).1) (fun l hl=>(hsz l hl).2) (by have:=uh HRL; simp; omega)) ?_
  rintro e w2 ⟨v',rfl,ho,k2⟩
  have hk2:=(uh HW1).trans k2 (by simp)
  have hsz1:=(uh HW1).size
  refine ⟨v',rfl,hk2,?_⟩
  simp only [Act.put,sa1,sa2,sa3]
  refine ChL.op v' (by go_simp) hk2 (by simp only [Act.put,sa1,sa2,sa3]; rfl) (ChL.fin ?_)
  go_wp2
  go_ret
  exact ⟨_,rfl,ownsBase ho hsz1,hk2⟩
def KidAt (S:Nat→Prop) (H:Hs) (W:World) (f:Nat) (v:Value) (L:Prs):Prop:=(L = []∧v = .nilIface)∨TreeAt S H W f v L
theorem KidAt.agr {S:Nat→Prop} {H:Hs} {W W':World} {f:Nat} {v:Value} {L:Prs} (h:KidAt S H W f v L) (a:Agr S W W'):KidAt S H W' f v L:=by
  rcases h with h | h
  · exact Or.inl h
  · exact Or.inr (h.agr a)
theorem xa6g {b i:Nat} (h:i≤16):rankB b (i:Int) = cnt b i:=by
  unfold rankB
  rw [if_neg (by omega)]
  by_cases h1:i≤15
  · rw [if_pos (by omega),Int.toNat_natCast]
  · rw [if_neg (by omega),show i = 16 by omega]
set_option maxHeartbeats 2000000 in
theorem xb8e (S:Nat→Prop) (H:Hs) (f g i:Nat) (L:Prs) (w:World) (h:TreeAt S H w (f + 1) (brV g) L) (hs:sgl H L = false) (hi:i < 16) :
    Calls Tryd.prog 47 #[.pointer (some ⟨g,0,none⟩),.int .i64 i] w fun e w'=>∃ v,e = .returned v∧KidAt S H w' f v (ch H (63 - f) i L)∧Kept [] w w':=by
  obtain ⟨g',kv,vs,e,hS,hh,hrow,hlen,hk⟩:=h.2 hs
  have eg:g' = g:=by injection e with _ e2; injection e2 with e3; injection e3 with e4; injection e4 with e5; exact e5.symm
  subst eg
  clear e
  obtain ⟨b0,b1,_⟩:=br_row hh
  have hbl:=bm_lt H (63 - f) L
  have hbit:=bm_bit (H:=H) (d:=63 - f) (L:=L) hi
  have hcl:=xa4k H (63 - f) L
  have hka:=kid_at (H:=H) (d:=63 - f) (L:=L) hi
  have hsa:=set_at (bm H (63 - f) L) hi
  generalize bm H (63 - f) L = x at b0 hbl hbit hcl hka hsa
  have HB0:=hide b0
  have HB1:=hide b1
  have hrk:=xa6g (b:=x) (i:=i) (by omega)
  have hhas:=xb7w x i (by omega)
  clear hh
  cases ht:x.testBit i with
  | false =>
    rw [ht] at hhas hbit
    have hne:ch H (63 - f) i L = []:=by simpa using hbit.symm
    rw [hne]
    clear hne hka hsa hbit hcl hk hrow hlen h hS b1
    go_enter Tryd.func47,Tryd.ntmps47
    go_wp2_with fail
    refine Calls.mono (xb3v x i w hbl (by omega)) ?_
    rintro e w1 ⟨rfl,k1⟩
    rw [hhas]
    go_wp2
    go_ret
    exact ⟨_,rfl,Or.inl ⟨rfl,rfl⟩,k1⟩
  | true =>
    rw [ht] at hhas
    have hk2:=hka ht
    have hcn:=(hsa ht).2
    rw [← hcl,← hlen] at hcn
    have hkc:=hk _ hcn
    have hch:(kidsL H (63 - f) L).getD (cnt x i) [] = ch H (63 - f) i L:=by rw [List.getD_eq_getElem?_getD,hk2]; rfl
    rw [hch] at hkc
    obtain ⟨b,off,cap,rfl,hc1,hc2,hSb,hc3⟩:=hrow
    have hcc:=hc3 _ hcn
    generalize vs.getD (cnt x i) undef = v at hkc hcc
    obtain ⟨c,hc⟩:∃ c,cnt x i = c:=⟨_,rfl⟩
    rw [hc] at hcn hcc hrk
    obtain ⟨n,hn⟩:∃ n,vs.length = n:=⟨_,rfl⟩
    rw [hn] at hcn hc1 HB1 b1
    have HCC:=hide hcc
    have HKC:=hide hkc
    have hcn':(c:Int) < n:=by omega
    clear hka hsa hbit hcl hk hc3 hk2 hch hc hn hlen hkc hcc
    go_enter Tryd.func47,Tryd.ntmps47
    go_wp2_with fail
    refine Calls.mono (xb3v x i w hbl (by omega)) ?_
    rintro e w1 ⟨rfl,k1⟩
    rw [hhas]
    have HK1:=hide k1
    clear k1 b0 b1
    go_upto_region 3 with fail
    refine ln_kid (by kernel_rfl) (by kernel_rfl) rfl (fun W=>Kept [] w W) (uh HK1).drew ?_
    refine LinY.mv (x:=.tmp 0) rfl (.pointer (some ⟨g',0,none⟩)) rfl (by simp only [Act.put,sa1,sa2,sa3]; rfl) ?_
    refine LinY.rd (.pointer (some ⟨g',0,none⟩)) (fun W hW=>by go_simp) (by simp only [Act.put,sa1,sa2,sa3]; rfl) ?_
    refine LinY.rd (.pointer (some ⟨g',1,none⟩)) (fun W hW=>by go_simp) (by simp only [Act.put,sa1,sa2,sa3]; rfl) ?_
    refine LinY.rd (.slice (some ⟨b,off,none⟩) n cap) (fun W hW=>by have h9:=hW.cell (uh HB1) (by simp); go_simp) (by simp only [Act.put,sa1,sa2,sa3]; rfl) ?_
    refine LinY.mv (x:=.tmp 0) rfl (.pointer (some ⟨g',0,none⟩)) rfl (by simp only [Act.put,sa1,sa2,sa3]; rfl) ?_
    refine LinY.rd (.pointer (some ⟨g',0,none⟩)) (fun W hW=>by go_simp) (by simp only [Act.put,sa1,sa2,sa3]; rfl) ?_
    refine LinY.rd (.pointer (some ⟨g',0,none⟩)) (fun W hW=>by go_simp) (by simp only [Act.put,sa1,sa2,sa3]; rfl) ?_
    refine LinY.rd (.int .u16 x) (fun W hW=>by have h9:=hW.cell (uh HB0) (by simp); go_simp) (by simp only [Act.put,sa1,sa2,sa3]; rfl) ?_
    refine LinY.mv (x:=.tmp 1) rfl (.int .i64 i) rfl (by simp only [Act.put,sa1,sa2,sa3]; rfl) ?_
    refine ChL.call rfl Tryd.call50 [.int .u16 x,.int .i64 i] rfl (xa6f x i _ hbl (by omega)) ?_
    rintro e w2 ⟨rfl,k2⟩
    have hk2:=((uh HK1).drew).trans k2 (by simp)
    refine ⟨_,rfl,hk2,?_⟩
    rw [hrk]
    simp only [Act.put,sa1,sa2,sa3]
    have h8:=hk2.cell (uh HCC) (by simp)
    refine ChL.op (.pointer (some ⟨b,off + c,none⟩)) (by go_simp) hk2 (by simp only [Act.put,sa1,sa2,sa3]; rfl) ?_
    refine ChL.op v (by go_simp) hk2 (by simp only [Act.put,sa1,sa2,sa3]; rfl) ?_
    refine ChL.op v (by go_simp) hk2 (by simp only [Act.put,sa1,sa2,sa3]; rfl) (ChL.fin ?_)
    go_wp2
    go_ret
    exact ⟨_,rfl,Or.inr ((uh HKC).agr (Agr.nil hk2)),hk2⟩
def A2 (R:Value→Prs→Prop) (vs:List Value) (Ls:List Prs):Prop:=vs.length = Ls.length∧∀ i,i < vs.length→R (vs.getD i undef) (Ls.getD i [])
theorem A2.nil (R:Value→Prs→Prop):A2 R [] []:=⟨rfl,fun i h=>by simp at h⟩
theorem A2.one {R:Value→Prs→Prop} {v:Value} {L:Prs} (h:R v L):A2 R [v] [L]:=⟨rfl,fun i hi=>by
  have:i = 0:=by simp at hi; omega
  subst this; exact h⟩
theorem A2.app {R:Value→Prs→Prop} {a b:List Value} {A B:List Prs} (h:A2 R a A) (k:A2 R b B):A2 R (a++b) (A++B):=by
  refine ⟨by rw [List.length_append,List.length_append,h.1,k.1],fun i hi=>?_⟩
  rw [List.length_append] at hi
  by_cases hlt:i < a.length
  · have h1:=h.2 i hlt
    rw [List.getD_eq_getElem?_getD,List.getElem?_append_left hlt,List.getD_eq_getElem?_getD,List.getElem?_append_left (by rw [← h.1]; exact hlt),← List.getD_eq_getElem?_getD,← List.getD_eq_getElem?_getD]
    exact h1
  · have h1:=k.2 (i - a.length) (by omega)
    rw [List.getD_eq_getElem?_getD,List.getElem?_append_right (by omega),List.getD_eq_getElem?_getD,List.getElem?_append_right (by rw [← h.1]; omega),← h.1,← List.getD_eq_getElem?_getD,← List.getD_eq_getElem?_getD]
    exact h1
theorem A2.tk {R:Value→Prs→Prop} {a:List Value} {A:List Prs} (h:A2 R a A) (m:Nat):A2 R (a.take m) (A.take m):=by
  refine ⟨by rw [List.length_take,List.length_take,h.1],fun i hi=>?_⟩
  rw [List.length_take] at hi
  have h1:=h.2 i (by omega)
  rw [List.getD_eq_getElem?_getD,List.getElem?_take_of_lt (by omega),List.getD_eq_getElem?_getD,List.getElem?_take_of_lt (by omega),← List.getD_eq_getElem?_getD,← List.getD_eq_getElem?_getD]
  exact h1
theorem A2.dp {R:Value→Prs→Prop} {a:List Value} {A:List Prs} (h:A2 R a A) (m:Nat):A2 R (a.drop m) (A.drop m):=by
  refine ⟨by rw [List.length_drop,List.length_drop,h.1],fun i hi=>?_⟩
  rw [List.length_drop] at hi
  have h1:=h.2 (m + i) (by omega)
  rw [List.getD_eq_getElem?_getD,List.getElem?_drop,List.getD_eq_getElem?_getD,List.getElem?_drop,← List.getD_eq_getElem?_getD,← List.getD_eq_getElem?_getD]
  exact h1
theorem A2.imp {R R':Value→Prs→Prop} {a:List Value} {A:List Prs} (h:A2 R a A) (hi:∀ v L,R v L→R' v L):A2 R' a A:=⟨h.1,fun i hl=>hi _ _ (h.2 i hl)⟩
def sing (v:Value):List Value:=[v]
theorem xb2k (l:List Value):(l.map sing).flatten = l:=by
  induction l with
  | nil=>rfl
  | cons v l ih=>rw [List.map_cons,List.flatten_cons,ih]; rfl
theorem SRow.rdC {S:Nat→Prop} {w:World} {v:Value} {vs:List Value} (h:SRow S w v vs):RdC 1 w v (vs.map sing):=by
  obtain ⟨b,off,cap,rfl,h1,h2,_,h4⟩:=h
  refine ⟨_,_,_,rfl,by rw [List.length_map],h1,h2,fun _=>⟨b,off,rfl,fun i hi j u hj=>?_⟩⟩
  rw [List.length_map] at hi
  rw [List.getElem_map] at hj
  have hj0:j = 0:=by
    have:=(List.getElem?_eq_some_iff.1 hj).1
    simp [sing] at this; omega
  subst hj0
  have h5:=h4 i hi
  rw [List.getD_eq_getElem?_getD,List.getElem?_eq_getElem hi,Option.getD_some] at h5
  rw [Nat.mul_one,Nat.add_zero,h5]
  exact hj
theorem xa6n {S:Nat→Prop} {w:World} {v:Value} {B:Nat} {a b c:List Value} (h:OwC 59 1 B w v [a.map sing,b.map sing,c.map sing]) (hn:0 < (a++(b++c)).length) (hl:(a++(b++c)).length≤1000000) (hS:∀ y,B≤y→S y):SRow S w v (a++(b++c)):=by
  unfold OwC at h
  have e1:[a.map sing,b.map sing,c.map sing].flatten.length = (a++(b++c)).length:=by simp
  have e2:[a.map sing,b.map sing,c.map sing].flatten.flatten = a++(b++c):=by
    simp only [List.flatten_cons,List.flatten_nil,List.append_nil,List.flatten_append,xb2k]
  rw [e1,e2] at h
  have h0:=h
  rcases h.2 with ⟨_,h9⟩ | ⟨g,cap,cur,rfl,hg,hh,hc,hm,_⟩
  · omega
  · refine ⟨g,0,cap,rfl,hc,by unfold maxLen at hm; omega,hS g hg,fun i hi=>?_⟩
    have h9:=h0.cells (g:=g) rfl i ((a++(b++c)).getD i undef) (by rw [List.getD_eq_getElem?_getD,List.getElem?_eq_getElem hi]; rfl)
    rw [Addr.add_lit] at h9
    exact h9
theorem xa8n {S:Nat→Prop} {k f:Nat} {W:World} {v:Value} {L:Prs} (h:TreeAt S (hsZ k) W f v L):v.oneCell' = true:=by
  rcases h.own with ⟨g,_,_,_,rfl,_⟩ | ⟨g,_,_,_,rfl,_⟩ <;> rfl
theorem xb6j {S:Nat→Prop} {k f:Nat} {W:World} {vs:List Value} {Ls:List Prs} (h:A2 (TreeAt S (hsZ k) W f) vs Ls):(∀ r∈vs.map sing,r.length = 1)∧∀ r∈vs.map sing,∀ u∈r,u.oneCell' = true:=by
  constructor
  · intro r hr
    obtain ⟨v,_,rfl⟩:=List.mem_map.1 hr
    rfl
  · intro r hr u hu
    obtain ⟨v,hv,rfl⟩:=List.mem_map.1 hr
    have:u = v:=by simpa [sing] using hu
    subst this
    obtain ⟨i,hi,rfl⟩:=List.getElem_of_mem hv
    have h1:=h.2 i hi
    rw [List.getD_eq_getElem?_getD,List.getElem?_eq_getElem hi,Option.getD_some] at h1
    exact xa8n h1
theorem en_bk (g:Nat) (w:World):(binOp .eql 59 (bkV g) .nilIface).run Tryd.prog w = .ok (.bool false) w:=by kernel_rfl
theorem en_br (g:Nat) (w:World):(binOp .eql 59 (brV g) .nilIface).run Tryd.prog w = .ok (.bool false) w:=by kernel_rfl
theorem eg_bk (g:Nat) (x y:Operand) (w:World):(eqGuard .eql 59 x y (bkV g) .nilIface).run Tryd.prog w = .ok () w:=by kernel_rfl
theorem eg_br (g:Nat) (x y:Operand) (w:World):(eqGuard .eql 59 x y (brV g) .nilIface).run Tryd.prog w = .ok () w:=by kernel_rfl
theorem en_nil (w:World):(binOp .eql 59 .nilIface .nilIface).run Tryd.prog w = .ok (.bool true) w:=by kernel_rfl
set_option maxHeartbeats 2000000 in
theorem xa8u (S:Nat→Prop) (k f g i:Nat) (L L':Prs) (nv:Value) (w:World) (hk:1≤k∧k≤32) (hS:∀ y,w.heap.size≤y→S y) (h:TreeAt S (hsZ k) w (f + 1) (brV g) L) (hs:sgl (hsZ k) L = false) (hi:i < 16)
    (hn:KidAt S (hsZ k) w f nv (ch (hsZ k) (63 - f) i L')) (hsw:∀ j,j < 16→j≠i→ch (hsZ k) (63 - f) j L' = ch (hsZ k) (63 - f) j L) (hne:L'≠[]) (hT:Tabs w) :
    Calls Tryd.prog 34 #[.pointer (some ⟨g,0,none⟩),.int .i64 k,.int .i64 i,nv] w fun e w'=>∃ v,e = .returned v∧TreeAt S (hsZ k) w' (f + 1) v L'∧Kept [] w w':=by
  obtain ⟨g',kv,vs,e,hSg,hh,hrow,hlen,hkd⟩:=h.2 hs
  have eg:g' = g:=by injection e with _ e2; injection e2 with e3; injection e3 with e4; injection e4 with e5; exact e5.symm
  subst eg
  clear e
  obtain ⟨b0,b1,_⟩:=br_row hh
  have hbs:=xb7b (H:=hsZ k) (d:=63 - f) hi hsw
  have hks:=xb2z (H:=hsZ k) (d:=63 - f) hi hsw
  have hbl:=bm_lt (hsZ k) (63 - f) L
  have hbd:=xb7c (bm (hsZ k) (63 - f) L) hi
  have hcl:=xa4k (hsZ k) (63 - f) L
  have hkp:=xa6r (hsZ_ok hk) (d:=63 - f) hne
  have hrk0:=xa6g (b:=bm (hsZ k) (63 - f) L) (i:=i) (by omega)
  have hrk1:=xa6g (b:=bm (hsZ k) (63 - f) L) (i:=i + 1) (by omega)
  rw [show ((i + 1:Nat):Int) = (i:Int) + 1 by omega] at hrk1
  have hA:A2 (TreeAt S (hsZ k) w f) vs (kidsL (hsZ k) (63 - f) L):=⟨hlen,hkd⟩
  rw [← hlen] at hcl
  have hwi:IntKind.i64.wrap ((i:Int) + 1) = (i:Int) + 1:=by simp [IntKind.wrap,IntKind.signed,IntKind.bits]; omega
  generalize bm (hsZ k) (63 - f) L = x at *
  generalize kidsL (hsZ k) (63 - f) L = Ks at *
  rw [← hcl] at hbd
  obtain ⟨c0,hc0⟩:∃ c,cnt x i = c:=⟨_,rfl⟩
  obtain ⟨c1,hc1⟩:∃ c,cnt x (i + 1) = c:=⟨_,rfl⟩
  rw [hc0] at hbd hks hrk0
  rw [hc1] at hbd hks hrk1
  have HB0:=hide b0
  have HB1:=hide b1
  have HBS:=hide hbs
  have HKS:=hide hks
  have HA:=hide hA
  have HRow:=hide hrow
  have HKP:=hide hkp
  have HTb:=hide hT
  have hcell:=xb6j hA
  have hrd:=hrow.rdC
  obtain ⟨b,off,cap,rfl,hcap1,hcap2,hSb,_⟩:=hrow
  obtain ⟨n,hnn⟩:∃ n,vs.length = n:=⟨_,rfl⟩
  rw [hnn] at hbd hcap1 HB1 hrd
  have HRD:=hide hrd
  have HN:=hide hnn
  have HCE:=hide hcell
  have hn16:n≤16:=by rw [← hnn,hcl]; exact cnt_le _ _
  clear hh hlen hkd hA hc0 hc1 hcl hbs hks b0 b1 hkp hT hrd hnn hcell h hs hsw
  go_enter Tryd.func34,Tryd.ntmps34
  go_wp2
  refine ln_wk (by kernel_rfl) (by kernel_rfl) rfl (fun W=>Kept [] w W) (Kept.refl [] w).drew ?_
  refine LinY.mv (x:=.tmp 0) rfl (.pointer (some ⟨g',0,none⟩)) rfl (by simp only [Act.put,sa1,sa2,sa3]; rfl) ?_
  refine LinY.rd (.pointer (some ⟨g',0,none⟩)) (fun W hW=>by go_simp) (by simp only [Act.put,sa1,sa2,sa3]; rfl) ?_
  refine LinY.rd (.pointer (some ⟨g',0,none⟩)) (fun W hW=>by go_simp) (by simp only [Act.put,sa1,sa2,sa3]; rfl) ?_
  refine LinY.rd (.int .u16 x) (fun W hW=>by have h9:=hW.cell (uh HB0) (by simp); go_simp) (by simp only [Act.put,sa1,sa2,sa3]; rfl) ?_
  refine LinY.mv (x:=.tmp 2) rfl (.int .i64 i) rfl (by simp only [Act.put,sa1,sa2,sa3]; rfl) ?_
  refine LinY.mv (x:=.tmp 0) rfl (.pointer (some ⟨g',0,none⟩)) rfl (by simp only [Act.put,sa1,sa2,sa3]; rfl) ?_
  refine LinY.rd (.pointer (some ⟨g',0,none⟩)) (fun W hW=>by go_simp) (by simp only [Act.put,sa1,sa2,sa3]; rfl) ?_
  refine LinY.rd (.pointer (some ⟨g',0,none⟩)) (fun W hW=>by go_simp) (by simp only [Act.put,sa1,sa2,sa3]; rfl) ?_
  refine LinY.rd (.int .u16 x) (fun W hW=>by have h9:=hW.cell (uh HB0) (by simp); go_simp) (by simp only [Act.put,sa1,sa2,sa3]; rfl) ?_
  refine LinY.mv (x:=.tmp 2) rfl (.int .i64 i) rfl (by simp only [Act.put,sa1,sa2,sa3]; rfl) ?_
  refine LinY.rd (.int .i64 ((i:Int) + 1)) (fun W hW=>by go_simp) (by simp only [Act.put,sa1,sa2,sa3]; rfl) ?_
  refine ChL.call rfl Tryd.call50 [.int .u16 x,.int .i64 i] rfl (xa6f x i _ hbl (by omega)) ?_
  rintro e w2 ⟨rfl,k2⟩
  have hk2:=((Kept.refl [] w).drew).trans k2 (by simp)
  refine ⟨_,rfl,hk2,?_⟩
  rw [hrk0]
  simp only [Act.put,sa1,sa2,sa3]
  refine ChL.call rfl Tryd.call50 [.int .u16 x,.int .i64 ((i:Int) + 1)] rfl (xa6f x ((i:Int) + 1) w2 hbl (by omega)) ?_
  rintro e w3 ⟨rfl,k3⟩
  have hk3:=hk2.trans k3 (by simp)
  refine ⟨_,rfl,hk3,?_⟩
  rw [hrk1]
  simp only [Act.put,sa1,sa2,sa3]
  refine ChL.op (.int .i64 c0) (by go_simp) hk3 (by simp only [Act.put,sa1,sa2,sa3]; rfl) ?_
  refine ChL.op (.int .i64 c1) (by go_simp) hk3 (by simp only [Act.put,sa1,sa2,sa3]; rfl) (ChL.fin ?_)
  have HK3:=hide hk3
  clear hk2 hk3 k2 k3
  have he1:=en_bk
  have he2:=en_br
  have he3:=en_nil
  rcases hn with ⟨hnil,rfl⟩ | hn
  · rw [hnil] at HBS HKS
    have hbo:=xb4j x (i:Int) hbl
    have HBO:=hide (by have h9:=uh HBS; simpa using h9:bm (hsZ k) (63 - f) L' = outB x (i:Int))
    have HKO:=hide (by have h9:=uh HKS; simpa using h9:kidsL (hsZ k) (63 - f) L' = Ks.take c0++([]++Ks.drop c1))
    have HAO:=hide (((uh HA).tk c0).app ((A2.nil _).app ((uh HA).dp c1)))
    clear HBS HKS
    go_upto_region 3 with fail
    refine ln_wo (by kernel_rfl) (by kernel_rfl) (by rfl) (fun W=>Kept [] w W) (uh HK3).drew ?_
    refine LinY.mv (x:=.tmp 1) rfl (.int .i64 k) rfl (by simp only [Act.put,sa1,sa2,sa3]; rfl) ?_
    refine LinY.mv (x:=.tmp 0) rfl (.pointer (some ⟨g',0,none⟩)) rfl (by simp only [Act.put,sa1,sa2,sa3]; rfl) ?_
    refine LinY.rd (.pointer (some ⟨g',0,none⟩)) (fun W hW=>by go_simp) (by simp only [Act.put,sa1,sa2,sa3]; rfl) ?_
    refine LinY.rd (.pointer (some ⟨g',0,none⟩)) (fun W hW=>by go_simp) (by simp only [Act.put,sa1,sa2,sa3]; rfl) ?_
    refine LinY.rd (.int .u16 x) (fun W hW=>by have h9:=hW.cell (uh HB0) (by simp); go_simp) (by simp only [Act.put,sa1,sa2,sa3]; rfl) ?_
    refine LinY.mv (x:=.tmp 2) rfl (.int .i64 i) rfl (by simp only [Act.put,sa1,sa2,sa3]; rfl) ?_
    refine LinY.mv (x:=.tmp 0) rfl (.pointer (some ⟨g',0,none⟩)) rfl (by simp only [Act.put,sa1,sa2,sa3]; rfl) ?_
    refine LinY.rd (.pointer (some ⟨g',0,none⟩)) (fun W hW=>by go_simp) (by simp only [Act.put,sa1,sa2,sa3]; rfl) ?_
    refine LinY.rd (.pointer (some ⟨g',1,none⟩)) (fun W hW=>by go_simp) (by simp only [Act.put,sa1,sa2,sa3]; rfl) ?_
    refine LinY.rd (.slice (some ⟨b,off,none⟩) n cap) (fun W hW=>by have h9:=hW.cell (uh HB1) (by simp); go_simp) (by simp only [Act.put,sa1,sa2,sa3]; rfl) ?_
    refine LinY.mv (x:=.tmp 9) rfl (.int .i64 c0) rfl (by simp only [Act.put,sa1,sa2,sa3]; rfl) ?_
    refine LinY.mv (x:=.tmp 10) rfl (.int .i64 c1) rfl (by simp only [Act.put,sa1,sa2,sa3]; rfl) ?_
    refine ChL.call rfl Tryd.call52 [.int .u16 x,.int .i64 i] rfl (xa9a x i _ hbl (by omega)) ?_
    rintro e w4 ⟨rfl,k4⟩
    have hk4:=((uh HK3).drew).trans k4 (by simp)
    refine ⟨_,rfl,hk4,?_⟩
    simp only [Act.put,sa1,sa2,sa3]
    refine ChL.call rfl Tryd.call53 [.slice (some ⟨b,off,none⟩) n cap,.int .i64 c0,.int .i64 c1,.slice none 0 0] rfl (xa2b b off n cap c0 c1 _ (vs.map sing) ([].map sing) w4 ((uh HRD).old hk4) (RdC.nil 1 w4) (by omega) (by omega) (by omega) (by simp) (uh HCE).1 (uh HCE).2 (by simp) (by simp)) ?_
    rintro e w5 ⟨v5,rfl,ho5,k5⟩
    have hk5:=hk4.trans k5 (by simp)
    refine ⟨v5,rfl,hk5,?_⟩
    rw [← List.map_take,← List.map_drop] at ho5
    have hl5:(vs.take c0++([]++vs.drop c1)).length = (kidsL (hsZ k) (63 - f) L').length:=by rw [uh HKO]; exact (uh HAO).1
    have hr5:=xa6n ho5 (by rw [hl5]; exact (uh HKP).1) (by rw [hl5]; have:=(uh HKP).2; omega) (fun y hy=>hS y (by have:=hk4.size; omega))
    simp only [Act.put,sa1,sa2,sa3]
    refine ChL.call rfl Tryd.call51 [.int .i64 k,.int .u16 (outB x (i:Int):Nat),v5] rfl (xa1u S k f (outB x (i:Int)) v5 _ L' w5 hk (fun y hy=>hS y (by have:=hk5.size; omega)) hne (uh HBO).symm hr5 hl5 (by rw [uh HKO]; exact ((uh HAO).imp (fun v L h=>h.agr (Agr.nil hk5))).2) ((uh HTb).k hk5)) ?_
    rintro e w6 ⟨v6,rfl,ht6,k6⟩
    have hk6:=hk5.trans k6 (by simp)
    refine ⟨v6,rfl,hk6,?_⟩
    simp only [Act.put,sa1,sa2,sa3]
    refine ChL.op v6 (by go_simp) hk6 (by simp only [Act.put,sa1,sa2,sa3]; rfl) (ChL.fin ?_)
    go_wp2
    go_ret
    exact ⟨_,rfl,ht6,hk6⟩
  · have hnn2:=hn.ne
    have hie:(ch (hsZ k) (63 - f) i L').isEmpty = false:=by simpa using hnn2
    have hbo:=xa2m x (i:Int) hbl
    have HBO:=hide (by have h9:=uh HBS; rw [hie] at h9; simpa using h9:bm (hsZ k) (63 - f) L' = withB x (i:Int))
    have HKO:=hide (by have h9:=uh HKS; rw [hie] at h9; simpa using h9:kidsL (hsZ k) (63 - f) L' = Ks.take c0++([ch (hsZ k) (63 - f) i L']++Ks.drop c1))
    have HAO:=hide (((uh HA).tk c0).app ((A2.one hn).app ((uh HA).dp c1)))
    have hnc:=xa8n hn
    clear HBS HKS hnn2 hie
    have hty:(∃ q,nv = bkV q)∨∃ q,nv = brV q:=by
      rcases hn.own with ⟨q,_,_,_,e,_⟩ | ⟨q,_,_,_,e,_⟩
      · exact Or.inl ⟨q,e⟩
      · exact Or.inr ⟨q,e⟩
    clear hn
    have hee:∀ W,(binOp .eql 59 nv .nilIface).run Tryd.prog W = .ok (.bool false) W:=by
      rcases hty with ⟨q,rfl⟩ | ⟨q,rfl⟩
      · exact he1 q
      · exact he2 q
    have heg:∀ W,(eqGuard .eql 59 (.tmp 24) (.const .nilIface) nv .nilIface).run Tryd.prog W = .ok () W:=by
      rcases hty with ⟨q,rfl⟩ | ⟨q,rfl⟩
      · exact eg_bk q _ _
      · exact eg_br q _ _
    have hif:∃ t p,nv = .iface t p:=by
      rcases hty with ⟨q,rfl⟩ | ⟨q,rfl⟩ <;> exact ⟨_,_,rfl⟩
    clear hty
    obtain ⟨ti,tp,rfl⟩:=hif
    go_upto_region 4 with fail
    refine ln_wn (by kernel_rfl) (by kernel_rfl) (by rfl) (fun W=>Kept [] w W) (uh HK3).drew ?_
    refine LinY.mv (x:=.tmp 1) rfl (.int .i64 k) rfl (by simp only [Act.put,sa1,sa2,sa3]; rfl) ?_
    refine LinY.mv (x:=.tmp 0) rfl (.pointer (some ⟨g',0,none⟩)) rfl (by simp only [Act.put,sa1,sa2,sa3]; rfl) ?_
    refine LinY.rd (.pointer (some ⟨g',0,none⟩)) (fun W hW=>by go_simp) (by simp only [Act.put,sa1,sa2,sa3]; rfl) ?_
    refine LinY.rd (.pointer (some ⟨g',0,none⟩)) (fun W hW=>by go_simp) (by simp only [Act.put,sa1,sa2,sa3]; rfl) ?_
    refine LinY.rd (.int .u16 x) (fun W hW=>by have h9:=hW.cell (uh HB0) (by simp); go_simp) (by simp only [Act.put,sa1,sa2,sa3]; rfl) ?_
    refine LinY.mv (x:=.tmp 2) rfl (.int .i64 i) rfl (by simp only [Act.put,sa1,sa2,sa3]; rfl) ?_
    refine LinY.mv (x:=.tmp 0) rfl (.pointer (some ⟨g',0,none⟩)) rfl (by simp only [Act.put,sa1,sa2,sa3]; rfl) ?_
    refine LinY.rd (.pointer (some ⟨g',0,none⟩)) (fun W hW=>by go_simp) (by simp only [Act.put,sa1,sa2,sa3]; rfl) ?_
    refine LinY.rd (.pointer (some ⟨g',1,none⟩)) (fun W hW=>by go_simp) (by simp only [Act.put,sa1,sa2,sa3]; rfl) ?_
    refine LinY.rd (.slice (some ⟨b,off,none⟩) n cap) (fun W hW=>by have h9:=hW.cell (uh HB1) (by simp); go_simp) (by simp only [Act.put,sa1,sa2,sa3]; rfl) ?_
    refine LinY.mv (x:=.tmp 9) rfl (.int .i64 c0) rfl (by simp only [Act.put,sa1,sa2,sa3]; rfl) ?_
    refine LinY.mv (x:=.tmp 10) rfl (.int .i64 c1) rfl (by simp only [Act.put,sa1,sa2,sa3]; rfl) ?_
    refine LinY.mv (x:=.tmp 3) rfl (.iface ti tp) rfl (by simp only [Act.put,sa1,sa2,sa3]; rfl) ?_
    have key:∀ X,Kept [] w X→∀ q,X.heap[q]? = some (.cells #[(.iface ti tp)] 59 (0,0))→RdC 1 X (.slice (some ⟨q,0,none⟩) 1 1) ([Value.iface ti tp].map sing):=fun X hX q hq=>by
      refine ⟨_,1,1,rfl,rfl,Nat.le_refl _,by omega,fun _=>⟨q,0,rfl,fun j hj t u hu=>?_⟩⟩
      have hj0:j = 0:=by simp at hj; exact hj
      subst hj0
      have ht0:t = 0:=by
        have:=(List.getElem?_eq_some_iff.1 hu).1
        simp [sing] at this; omega
      subst ht0
      rw [cell_of_row _ _ _ _ _ _ hq]
      simpa [sing] using hu
    refine ⟨?_,?_⟩
    · refine ChL.call rfl Tryd.call54 [.int .u16 x,.int .i64 i] rfl (xa3u x i _ hbl (by omega)) ?_
      rintro e w4 ⟨rfl,k4⟩
      have hk4:=((uh HK3).drew).trans k4 (by simp)
      refine ⟨_,rfl,hk4,?_⟩
      simp only [Act.put,sa1,sa2,sa3]
      refine ChL.op (w':=w4.alloc (.cells #[(.iface ti tp)] 59)) (.slice (some ⟨w4.heap.size,0,none⟩) 1 1) (by go_simp) (hk4.alloc _) (by simp only [Act.put,sa1,sa2,sa3]; rfl) ?_
      have HKX:=hide (hk4.alloc (.cells #[(.iface ti tp)] 59))
      have HQ:=hide (key _ (uh HKX) _ (heap_alloc_new w4 (.cells #[(.iface ti tp)] 59)))
      clear key hk4 k4
      generalize w4.alloc (.cells #[(.iface ti tp)] 59) = X at HKX HQ ⊢
      generalize w4.heap.size = q at HQ ⊢
      try simp only [Act.put,sa1,sa2,sa3]
      refine ChL.call rfl Tryd.call53 [.slice (some ⟨b,off,none⟩) n cap,.int .i64 c0,.int .i64 c1,.slice (some ⟨q,0,none⟩) 1 1] rfl (xa2b b off n cap c0 c1 _ (vs.map sing) ([Value.iface ti tp].map sing) X ((uh HRD).old (uh HKX)) (uh HQ) (by omega) (by omega) (by omega) (by simp) (uh HCE).1 (uh HCE).2 (by simp [sing]) (by simp [sing,hnc])) ?_
      rintro e w5 ⟨v5,rfl,ho5,k5⟩
      have hk5:=(uh HKX).trans k5 (by simp)
      refine ⟨v5,rfl,hk5,?_⟩
      rw [← List.map_take,← List.map_drop] at ho5
      have hl5:(vs.take c0++([Value.iface ti tp]++vs.drop c1)).length = (kidsL (hsZ k) (63 - f) L').length:=by rw [uh HKO]; exact (uh HAO).1
      have hr5:=xa6n ho5 (by rw [hl5]; exact (uh HKP).1) (by rw [hl5]; have:=(uh HKP).2; omega) (fun y hy=>hS y (by have:=(uh HKX).size; omega))
      simp only [Act.put,sa1,sa2,sa3]
      refine ChL.call rfl Tryd.call51 [.int .i64 k,.int .u16 (withB x (i:Int):Nat),v5] rfl (xa1u S k f (withB x (i:Int)) v5 _ L' w5 hk (fun y hy=>hS y (by have:=hk5.size; omega)) hne (uh HBO).symm hr5 hl5 (by rw [uh HKO]; exact ((uh HAO).imp (fun v L h=>h.agr (Agr.nil hk5))).2) ((uh HTb).k hk5)) ?_
      rintro e w6 ⟨v6,rfl,ht6,k6⟩
      have hk6:=hk5.trans k6 (by simp)
      refine ⟨v6,rfl,hk6,?_⟩
      simp only [Act.put,sa1,sa2,sa3]
      refine ChL.op v6 (by go_simp) hk6 (by simp only [Act.put,sa1,sa2,sa3]; rfl) (ChL.fin ?_)
      go_wp2
      go_ret
      exact ⟨_,rfl,ht6,hk6⟩
    · refine ChL.op (w':=w3.drew.alloc (.cells #[(.iface ti tp)] 59)) (.slice (some ⟨w3.heap.size,0,none⟩) 1 1) (by go_simp) (((uh HK3).drew).alloc _) (by simp only [Act.put,sa1,sa2,sa3]; rfl) ?_
      have hka:=((uh HK3).drew).alloc (.cells #[(.iface ti tp)] 59)
      have hqa:(w3.drew.alloc (.cells #[(.iface ti tp)] 59)).heap[w3.heap.size]? = some (.cells #[(.iface ti tp)] 59 (0,0)):=heap_alloc_new w3.drew _
      generalize w3.drew.alloc (.cells #[(.iface ti tp)] 59) = X0 at hka hqa ⊢
      refine ChL.call rfl Tryd.call54 [.int .u16 x,.int .i64 i] rfl (xa3u x i _ hbl (by omega)) ?_
      rintro e X ⟨rfl,k4⟩
      have HKX:=hide (hka.trans k4 (by simp))
      have HQ:=hide (key _ (uh HKX) _ (k4.heap hqa (by simp)))
      refine ⟨_,rfl,uh HKX,?_⟩
      clear key hka hqa k4
      generalize w3.heap.size = q at HQ ⊢
      try simp only [Act.put,sa1,sa2,sa3]
      refine ChL.call rfl Tryd.call53 [.slice (some ⟨b,off,none⟩) n cap,.int .i64 c0,.int .i64 c1,.slice (some ⟨q,0,none⟩) 1 1] rfl (xa2b b off n cap c0 c1 _ (vs.map sing) ([Value.iface ti tp].map sing) X ((uh HRD).old (uh HKX)) (uh HQ) (by omega) (by omega) (by omega) (by simp) (uh HCE).1 (uh HCE).2 (by simp [sing]) (by simp [sing,hnc])) ?_
      rintro e w5 ⟨v5,rfl,ho5,k5⟩
      have hk5:=(uh HKX).trans k5 (by simp)
      refine ⟨v5,rfl,hk5,?_⟩
      rw [← List.map_take,← List.map_drop] at ho5
      have hl5:(vs.take c0++([Value.iface ti tp]++vs.drop c1)).length = (kidsL (hsZ k) (63 - f) L').length:=by rw [uh HKO]; exact (uh HAO).1
      have hr5:=xa6n ho5 (by rw [hl5]; exact (uh HKP).1) (by rw [hl5]; have:=(uh HKP).2; omega) (fun y hy=>hS y (by have:=(uh HKX).size; omega))
      simp only [Act.put,sa1,sa2,sa3]
      refine ChL.call rfl Tryd.call51 [.int .i64 k,.int .u16 (withB x (i:Int):Nat),v5] rfl (xa1u S k f (withB x (i:Int)) v5 _ L' w5 hk (fun y hy=>hS y (by have:=hk5.size; omega)) hne (uh HBO).symm hr5 hl5 (by rw [uh HKO]; exact ((uh HAO).imp (fun v L h=>h.agr (Agr.nil hk5))).2) ((uh HTb).k hk5)) ?_
      rintro e w6 ⟨v6,rfl,ht6,k6⟩
      have hk6:=hk5.trans k6 (by simp)
      refine ⟨v6,rfl,hk6,?_⟩
      simp only [Act.put,sa1,sa2,sa3]
      refine ChL.op v6 (by go_simp) hk6 (by simp only [Act.put,sa1,sa2,sa3]; rfl) (ChL.fin ?_)
      go_wp2
      go_ret
      exact ⟨_,rfl,ht6,hk6⟩
set_option maxHeartbeats 1000000 in
theorem xb0r (kv vv uv:Value) (a b:List Nat) (w:World) (ha:Rd w kv a) (hb:Rd w uv b) :
    Calls Tryd.prog 65 #[.agg #[kv,vv],uv] w fun e w'=>e = .returned (.int .i64 (ordL a b))∧Kept [] w w':=by
  have HK:=hide ((Kept.refl [] w).alloc (.cells #[kv,vv] 50))
  have HG:=hide (heap_alloc_new w (.cells #[kv,vv] 50))
  have c0:=cell_of_row _ _ 0 _ _ _ (uh HG)
  go_enter Tryd.func65,Tryd.ntmps65
  go_wp2_with fail
  refine Calls.mono (xb6d kv uv a b _ (ha.old (uh HK) (by simp)) (hb.old (uh HK) (by simp))) ?_
  rintro e w1 ⟨rfl,rfl⟩
  go_wp2
  go_ret
  exact ⟨rfl,uh HK⟩
theorem RdK.at {w:World} {ao:Option Addr} {n c:Nat} {L:Prs} (h:RdK w (.slice ao n c) L) {i:Nat} (hi:i < n):∃ b off x y,ao = some ⟨b,off,none⟩∧Rd w x (L.getD i ([],[])).1∧Rd w y (L.getD i ([],[])).2∧w.cell? ⟨b,off + i * 2,none⟩ = some x∧w.cell? ⟨b,off + i * 2 + 1,none⟩ = some y:=by
  obtain ⟨ao',len,cap,vs,us,e,h1,h2,h3,h4,h5⟩:=h
  cases e
  obtain ⟨b,off,rfl,hc⟩:=h5 (by omega)
  exact ⟨b,off,_,_,rfl,(h4 i hi).1,(h4 i hi).2,(hc i hi).1,(hc i hi).2⟩
set_option maxHeartbeats 2000000 in
theorem xa9b (ao:Option Addr) (n c:Nat) (L:Prs) (uv:Value) (key:List Nat) (w:World) (h:RdK w (.slice ao n c) L) (hu:Rd w uv key) (hr:Rise L) (hn:n≤1000000000) :
    Calls Tryd.prog 64 #[.slice ao n c,uv,.func (.func 65) #[] #[]] w fun e w'=>e = .returned (.tuple #[.int .i64 (plc key L),.bool (fnd key L)])∧Kept [] w w':=by
  obtain ⟨_,_,_,_,_,e0,hlen,_⟩:=id h
  cases e0
  have hple:=plc_le key L
  have hlt:∀ i,i < plc key L→ordL (L.getD i ([],[])).1 key < 0:=plc_lt key L
  have hge:∀ i,plc key L≤i→i < n→0≤ordL (L.getD i ([],[])).1 key:=fun i h1 h2=>plc_ge hr i h1 (by omega)
  have hfn:=fnd_at (k:=key) hr
  rw [hlen] at hple hfn
  generalize plc key L = p at *
  generalize fnd key L = fd at *
  have HL:=hide hlen
  have HLT:=hide hlt
  have HGE:=hide hge
  have HFN:=hide hfn
  have HR:=hide h
  have HU:=hide hu
  clear hlen hlt hge hfn h hu hr
  obtain ⟨ua,un,uc,rfl,_⟩:=id (uh HU)
  go_enter Tryd.func64,Tryd.ntmps64
  go_wp2
  go_loopw [9,10] (fun t9 t10 wr=>∃ (i j:Nat),t9 = .int .i64 i∧t10 = .int .i64 j∧i≤p∧p≤j∧j≤n∧Hid (Kept [] w wr)) (fun t9 t10 _=>(intOf t10).toNat - (intOf t9).toNat)
  case atStart=>exact ⟨0,n,rfl,rfl,Nat.zero_le _,hple,Nat.le_refl _,hide (Kept.refl [] w)⟩
  case round =>
    obtain ⟨i,j,rfl,rfl,h1,h2,h3,HK⟩:=hrel
    by_cases hlt:i < j
    · have hlt':(i:Int) < j:=by omega
      obtain ⟨m,hm⟩:∃ m,m = (i + j) / 2:=⟨_,rfl⟩
      have hmm:((i:Int) + (j:Int)) / 2 = (m:Int):=by omega
      have him:i≤m:=by omega
      have hmj:m < j:=by omega
      clear hm
      have hmn:(m:Int) < n:=by omega
      obtain ⟨b,off,x,y,rfl,rx,ry,cx,cy⟩:=((uh HR).old (uh HK)).at (i:=m) (by omega)
      have HX:=hide rx
      have hcm:=uh HLT m
      have hcg:=uh HGE m
      have HU1:=hide ((uh HU).old (uh HK) (by simp))
      generalize (L.getD m ([],[])).1 = Lm at hcm hcg HX
      clear rx ry
      go_wp2_with fail
      refine Calls.mono (xb0r x y _ Lm key wr (uh HX) (uh HU1)) ?_
      rintro e w1 ⟨rfl,k1⟩
      have HK1:=hide ((uh HK).trans k1 (by simp))
      clear k1 HX HU1
      generalize ordL Lm key = q at hcm hcg ⊢
      by_cases hq:q < 0
      · have hmp:m < p:=by
          rcases Nat.lt_or_ge m p with h9 | h9
          · exact h9
          · have:=hcg h9 (by omega); omega
        clear hcm hcg
        go_wp2
        refine ⟨⟨m + 1,j,by go_num,rfl,hmp,h2,h3,HK1⟩,?_⟩
        simp [intOf]; omega
      · have hmp:p≤m:=by
          rcases Nat.lt_or_ge m p with h9 | h9
          · have:=hcm h9; omega
          · exact h9
        clear hcm hcg
        go_wp2
        refine ⟨⟨i,m,rfl,by go_num,h1,hmp,by omega,HK1⟩,?_⟩
        simp [intOf]; omega
    · have hlt':¬ (i:Int) < j:=by omega
      have hip:i = p:=by omega
      subst hip
      by_cases hpn:i < n
      · have hpn':(i:Int) < n:=by omega
        obtain ⟨b,off,x,y,rfl,rx,ry,cx,cy⟩:=((uh HR).old (uh HK)).at (i:=i) hpn
        have HX:=hide rx
        have HU1:=hide ((uh HU).old (uh HK) (by simp))
        have hfd:(ordL (L.getD i ([],[])).1 key == 0) = fd:=by
          have h9:=uh HFN
          rw [Bool.eq_iff_iff,h9,beq_iff_eq]
          constructor
          · intro e; exact ⟨hpn,xa1m e⟩
          · rintro ⟨_,e⟩; rw [e,xa0l]
        have HFD:=hide hfd
        generalize (L.getD i ([],[])).1 = Lm at HX HFD
        clear rx ry hfd
        go_wp2_with fail
        refine Calls.mono (xb0r x y _ Lm key wr (uh HX) (uh HU1)) ?_
        rintro e w1 ⟨rfl,k1⟩
        have HK1:=hide ((uh HK).trans k1 (by simp))
        clear k1 HX HU1
        go_wp2
        go_ret2
        exact ⟨by rw [← uh HFD]; first | rfl | (simp; done),uh HK1⟩
      · have hpn':¬ (i:Int) < n:=by omega
        have hfd:fd = false:=by
          cases h9:fd with
          | false=>rfl
          | true=>have:=(uh HFN).1 h9; omega
        subst hfd
        go_wp2
        go_ret2
        exact ⟨rfl,uh HK⟩
set_option maxHeartbeats 1000000 in
theorem xb3b (S:Nat→Prop) (H:Hs) (g:Nat) (L:Prs) (uv:Value) (key:List Nat) (w:World) (h:BkAt S H w g L) (hD:(H.kd (L.headD ([],[])).1).length = 32) (hu:Rd w uv key) (hr:Rise L) (hn:L.length≤1000000000) :
    Calls Tryd.prog 48 #[.pointer (some ⟨g,0,none⟩),uv] w fun e w'=>e = .returned (.tuple #[.int .i64 (plc key L),.bool (fnd key L)])∧Kept [] w w':=by
  obtain ⟨pv,_,hh,_,hst⟩:=h
  have hk:=hst.rdK
  have c1:=(bk_row hh hD).2.1
  obtain ⟨ao,n,c,vs,us,rfl,hl,_⟩:=id hk
  have HK:=hide hk
  have HL:=hide hl
  clear hst hh hk hl
  go_enter Tryd.func48,Tryd.ntmps48
  go_wp2_with fail
  refine Calls.mono (xa9b ao n c L uv key w (uh HK) hu hr (by rw [← uh HL]; exact hn)) ?_
  rintro e w1 ⟨rfl,k1⟩
  go_wp2
  go_ret2
  exact ⟨rfl,k1⟩
theorem xb5g {w:World} {g:Nat} {t:TypeId} {l:List Value} (h:w.heap[g]? = some (.cells l.toArray t (0,0))) (hl:l.length≤1000000):RdC 1 w (.slice (some ⟨g,0,none⟩) l.length l.length) (l.map sing):=by
  refine ⟨_,_,_,rfl,by rw [List.length_map],Nat.le_refl _,by omega,fun _=>⟨g,0,rfl,fun i hi j u hj=>?_⟩⟩
  rw [List.length_map] at hi
  rw [List.getElem_map] at hj
  have hj0:j = 0:=by
    have:=(List.getElem?_eq_some_iff.1 hj).1
    simp [sing] at this; omega
  subst hj0
  rw [cell_of_row _ _ _ _ _ _ h,List.getElem?_toArray]
  rw [Nat.mul_one,Nat.add_zero,Nat.zero_add,List.getElem?_eq_getElem hi]
  simpa [sing] using hj
theorem xb0p {S:Nat→Prop} {w:World} {g:Nat} {t:TypeId} {l:List Value} (h:w.heap[g]? = some (.cells l.toArray t (0,0))) (hl:l.length≤1000000) (hS:S g):SRow S w (.slice (some ⟨g,0,none⟩) l.length l.length) l :=
  ⟨g,0,l.length,rfl,Nat.le_refl _,by omega,hS,fun i hi=>by
    rw [cell_of_row _ _ _ _ _ _ h,List.getElem?_toArray,Nat.zero_add,List.getElem?_eq_getElem hi,List.getD_eq_getElem?_getD,List.getElem?_eq_getElem hi]; rfl⟩
structure Fk (H:Hs) (part:Nat) (M P1 P2:Prs) (D1 D2:List Nat):Prop where
  kids:kidsL H part M = [P1,P2]
  bm:withB (withB 0 (dgt D1 part:Int)) (dgt D2 part:Int) = bm H part M
  dig:∀ e,e < part→∀ y∈M,dgt (H.kd y.1) e = dgt D1 e
theorem Fork.fst {H:Hs} (hH:H.Ok) {part:Nat} {k v:List Nat} {A:Prs} {DA:List Nat} (h:Fork H part k v A DA) (g:dgt DA part < dgt (H.kd k) part):Fk H part (insP H k v A) A [(k,v)] DA (H.kd k) :=
  ⟨by rw [h.kids hH,if_pos g],h.bms hH _ _ (Or.inl ⟨rfl,rfl⟩),fun e he y hy=>h.dig he y hy⟩
theorem Fork.snd {H:Hs} (hH:H.Ok) {part:Nat} {k v:List Nat} {A:Prs} {DA:List Nat} (h:Fork H part k v A DA) (g:¬ dgt DA part < dgt (H.kd k) part):Fk H part (insP H k v A) [(k,v)] A (H.kd k) DA :=
  ⟨by rw [h.kids hH,if_neg g],h.bms hH _ _ (Or.inr ⟨rfl,rfl⟩),fun e he y hy=>by rw [h.dig he y hy,h.pre e he]⟩
set_option maxHeartbeats 4000000 in
theorem xa9n (S:Nat→Prop) (k dep part ga gb:Nat) (A:Prs) (q v DA:List Nat) (w:World) (hk:1≤k∧k≤32) (hS:∀ y,w.heap.size≤y→S y) (hF:Fork (hsZ k) part q v A DA) (hdp:dep≤part)
    (ha:BkAt S (hsZ k) w ga A) (hb:BkAt S (hsZ k) w gb [(q,v)]) (hT:Tabs w) :
    Calls Tryd.prog 38 #[.int .i64 k,.int .i64 dep,.pointer (some ⟨ga,0,none⟩),.pointer (some ⟨gb,0,none⟩)] w fun e w'=>∃ t,e = .returned t∧TreeAt S (hsZ k) w' (64 - dep) t (insP (hsZ k) q v A)∧Kept [] w w':=by
  have hH:=hsZ_ok hk
  obtain ⟨DB,hDB⟩:∃ DB,(hsZ k).kd q = DB:=⟨_,rfl⟩
  have hDBg:Dg DB:=by rw [← hDB]; exact hH.dg q
  have hDAg:=hF.dga
  have hfA:formB (k:Int) DA = true:=by
    cases hA:A with
    | nil=>exact absurd hA hF.ne
    | cons y _=>rw [← hF.all y (by rw [hA]; simp)]; exact xa4e hk _
  have hfB:formB (k:Int) DB = true:=by rw [← hDB]; exact xa4e hk _
  have hdeep:=hF.deep
  have hdeep2:part < 2 * k:=hdeep
  have hpre:=hF.pre
  have hpne:=hF.pne
  rw [hDB] at hpre hpne
  have hcom:comL DA DB (2 * k) 0 = part:=by
    obtain ⟨_,s2,s3,s4⟩:=xa4n DA DB (2 * k) 0
    rcases Nat.lt_trichotomy (comL DA DB (2 * k) 0) part with g | g | g
    · exact absurd (hpre _ g) (s4 (by omega))
    · exact g
    · exact absurd (s3 part (by omega) g) hpne
  have hfe:formedE (k:Int) [DA,DB] = 0:=xa6l hk (by simp [hfA,hfB])
  have hcC:comC (k:Int) DA DB = part:=by unfold comC; rw [if_pos hfe,Int.toNat_natCast,hcom]
  have hoC:ordC (k:Int) DA DB = ordL DA DB:=by unfold ordC; rw [if_pos hfe]
  have hord:=xb4r hDAg hDBg (c:=part) (by omega) hpre hpne
  have hdA:=dgt_lt hDAg.2 part
  have hdB:=dgt_lt hDBg.2 part
  have hsM:=hF.two
  have hnM:insP (hsZ k) q v A≠[]:=ins_ne
  have hpreM:∀ e,e≤part→Pre (hsZ k) e (insP (hsZ k) q v A):=fun e he=>hF.on he
  have hsA:sgl (hsZ k) A = true:=xa1k.2 (fun x hx y hy=>by rw [hF.all x hx,hF.all y hy])
  have hsB:sgl (hsZ k) [(q,v)] = true:=xa1k.2 (fun x hx y hy=>by simp at hx hy; rw [hx,hy])
  have hkA:(hsZ k).kd (A.headD ([],[])).1 = DA:=by
    cases hA:A with
    | nil=>exact absurd hA hF.ne
    | cons y _=>exact hF.all y (by rw [hA]; simp)
  have hfst:=hF.fst hH
  have hsnd:=hF.snd hH
  rw [hDB] at hfst hsnd
  have HBA:=hide ha
  have HBB:=hide hb
  obtain ⟨pva,_,hha,_,_⟩:=ha
  obtain ⟨pvb,_,hhb,_,_⟩:=hb
  rw [hkA] at hha
  have hkB:(hsZ k).kd (([(q,v)]:Prs).headD ([],[])).1 = DB:=hDB
  rw [hkB] at hhb
  have HRA:=hide (bk_row hha hDAg.1).1
  have HRB:=hide (bk_row hhb hDBg.1).1
  have HTb:=hide hT
  generalize insP (hsZ k) q v A = M at *
  have HCc:=hide hcC
  have HOc:=hide hoC
  have HFe:=hide hfe
  clear hcC hoC hfe hcom hpre hpne hF hha hhb hkA hkB hDB hT
  have hal:=hDAg.1
  have hbl:=hDBg.1
  go_enter Tryd.func38,Tryd.ntmps38
  go_wp2
  refine ln_fk (by kernel_rfl) (by kernel_rfl) rfl (fun W=>Kept [] w W) (Kept.refl [] w).drew ?_
  refine LinY.mv (x:=.tmp 0) rfl (.int .i64 k) rfl (by simp only [Act.put,sa1,sa2,sa3]; rfl) ?_
  refine LinY.mv (x:=.tmp 2) rfl (.pointer (some ⟨ga,0,none⟩)) rfl (by simp only [Act.put,sa1,sa2,sa3]; rfl) ?_
  refine LinY.rd (.pointer (some ⟨ga,0,none⟩)) (fun W hW=>by go_simp) (by simp only [Act.put,sa1,sa2,sa3]; rfl) ?_
  refine LinY.rd (.pointer (some ⟨ga,0,none⟩)) (fun W hW=>by go_simp) (by simp only [Act.put,sa1,sa2,sa3]; rfl) ?_
  refine LinY.ld 36 (.tmp 19) rfl ga 0 rfl (DA.map u8) _ (fun W hW=>hW.rng (uh HRA) (by simp)) Tryd.underlying36 rfl (by rw [List.length_map,hal]; exact Tryd.size_dig) (by simp only [Act.put,sa1,sa2,sa3]; rfl) ?_
  refine LinY.mv (x:=.tmp 3) rfl (.pointer (some ⟨gb,0,none⟩)) rfl (by simp only [Act.put,sa1,sa2,sa3]; rfl) ?_
  refine LinY.rd (.pointer (some ⟨gb,0,none⟩)) (fun W hW=>by go_simp) (by simp only [Act.put,sa1,sa2,sa3]; rfl) ?_
  refine LinY.rd (.pointer (some ⟨gb,0,none⟩)) (fun W hW=>by go_simp) (by simp only [Act.put,sa1,sa2,sa3]; rfl) ?_
  refine LinY.ld 36 (.tmp 23) rfl gb 0 rfl (DB.map u8) _ (fun W hW=>hW.rng (uh HRB) (by simp)) Tryd.underlying36 rfl (by rw [List.length_map,hbl]; exact Tryd.size_dig) (by simp only [Act.put,sa1,sa2,sa3]; rfl) ?_
  refine ChL.call rfl Tryd.call58 [.int .i64 k,.agg (brow DA),.agg (brow DB)] rfl (xb0w k DA DB _ (by omega) hDAg hDBg) ?_
  rintro e w1 ⟨rfl,k1⟩
  have hk1:=((Kept.refl [] w).drew).trans k1 (by simp)
  refine ⟨_,rfl,hk1,?_⟩
  rw [uh HCc,uh HFe]
  simp only [Act.put,sa1,sa2,sa3]
  refine ChL.fin ⟨hk1,?_⟩
  refine LinY.rd (.tuple #[.int .i64 part,.int .i64 ((0:Nat):Int)]) (fun W hW=>by go_simp) (by simp only [Act.put,sa1,sa2,sa3]; rfl) ?_
  refine LinY.rd (.int .i64 part) (fun W hW=>by go_simp) (by simp only [Act.put,sa1,sa2,sa3]; rfl) ?_
  refine LinY.rd (.int .i64 ((0:Nat):Int)) (fun W hW=>by go_simp) (by simp only [Act.put,sa1,sa2,sa3]; rfl) ?_
  refine LinY.rd (.int .i64 part) (fun W hW=>by go_simp) (by simp only [Act.put,sa1,sa2,sa3]; rfl) ?_
  refine LinY.rd (.int .i64 ((0:Nat):Int)) (fun W hW=>by go_simp) (by simp only [Act.put,sa1,sa2,sa3]; rfl) (LinY.fin ?_)
  have HK1:=hide hk1
  clear hk1 k1
  go_upto_region 2 with fail
  refine ln_fk (by kernel_rfl) (by kernel_rfl) rfl (fun W=>Kept [] w W) (uh HK1).drew ?_
  refine LinY.mv (x:=.tmp 0) rfl (.int .i64 k) rfl (by simp only [Act.put,sa1,sa2,sa3]; rfl) ?_
  refine LinY.mv (x:=.tmp 2) rfl (.pointer (some ⟨ga,0,none⟩)) rfl (by simp only [Act.put,sa1,sa2,sa3]; rfl) ?_
  refine LinY.rd (.pointer (some ⟨ga,0,none⟩)) (fun W hW=>by go_simp) (by simp only [Act.put,sa1,sa2,sa3]; rfl) ?_
  refine LinY.rd (.pointer (some ⟨ga,0,none⟩)) (fun W hW=>by go_simp) (by simp only [Act.put,sa1,sa2,sa3]; rfl) ?_
  refine LinY.ld 36 (.tmp 32) rfl ga 0 rfl (DA.map u8) _ (fun W hW=>hW.rng (uh HRA) (by simp)) Tryd.underlying36 rfl (by rw [List.length_map,hal]; exact Tryd.size_dig) (by simp only [Act.put,sa1,sa2,sa3]; rfl) ?_
  refine LinY.mv (x:=.tmp 3) rfl (.pointer (some ⟨gb,0,none⟩)) rfl (by simp only [Act.put,sa1,sa2,sa3]; rfl) ?_
  refine LinY.rd (.pointer (some ⟨gb,0,none⟩)) (fun W hW=>by go_simp) (by simp only [Act.put,sa1,sa2,sa3]; rfl) ?_
  refine LinY.rd (.pointer (some ⟨gb,0,none⟩)) (fun W hW=>by go_simp) (by simp only [Act.put,sa1,sa2,sa3]; rfl) ?_
  refine LinY.ld 36 (.tmp 36) rfl gb 0 rfl (DB.map u8) _ (fun W hW=>hW.rng (uh HRB) (by simp)) Tryd.underlying36 rfl (by rw [List.length_map,hbl]; exact Tryd.size_dig) (by simp only [Act.put,sa1,sa2,sa3]; rfl) ?_
  refine ChL.call rfl Tryd.call24 [.int .i64 k,.agg (brow DA),.agg (brow DB)] rfl (xa8g k DA DB _ (by omega) hDAg hDBg) ?_
  rintro e w2 ⟨rfl,k2⟩
  have hk2:=((uh HK1).drew).trans k2 (by simp)
  refine ⟨_,rfl,hk2,?_⟩
  rw [uh HOc,uh HFe]
  simp only [Act.put,sa1,sa2,sa3]
  have HOr:=hide hord
  clear hord
  generalize ordL DA DB = od at HOr ⊢
  refine ChL.fin ⟨hk2,?_⟩
  refine LinY.rd (.tuple #[.int .i64 od,.int .i64 ((0:Nat):Int)]) (fun W hW=>by go_simp) (by simp only [Act.put,sa1,sa2,sa3]; rfl) ?_
  refine LinY.rd (.int .i64 od) (fun W hW=>by go_simp) (by simp only [Act.put,sa1,sa2,sa3]; rfl) ?_
  refine LinY.rd (.int .i64 ((0:Nat):Int)) (fun W hW=>by go_simp) (by simp only [Act.put,sa1,sa2,sa3]; rfl) ?_
  refine LinY.rd (.int .i64 od) (fun W hW=>by go_simp) (by simp only [Act.put,sa1,sa2,sa3]; rfl) ?_
  refine LinY.rd (.int .i64 ((0:Nat):Int)) (fun W hW=>by go_simp) (by simp only [Act.put,sa1,sa2,sa3]; rfl) (LinY.fin ?_)
  have HK2:=hide hk2
  clear hk2 k2 HK1
  have hw16:∀ D:List Nat,Dg D→∀ e,(dgt D e:Nat) < 16:=fun D hD e=>dgt_lt hD.2 e
  by_cases hlt:dgt DA part < dgt DB part
  case' pos =>
    have hod:¬ (0 < od):=by have:=uh HOr; rw [if_pos hlt] at this; omega
    have hfk:=hide (hfst hlt)
    have HT1:=hide (fun f=>TreeAt.ofBk f (uh HBA) hsA)
    have HT2:=hide (fun f=>TreeAt.ofBk f (uh HBB) hsB)
    have HR1:=HRA
    have HR2:=HRB
    clear hfst hsnd hlt HOr HBA HBB HRA HRB hsA hsB HCc HOc HFe
    generalize ([(q,v)]:Prs) = P2 at hfk HT2
    obtain ⟨P1,rfl⟩:∃ P,P = A:=⟨_,rfl⟩
    obtain ⟨g1,rfl⟩:∃ g,g = ga:=⟨_,rfl⟩
    obtain ⟨g2,rfl⟩:∃ g,g = gb:=⟨_,rfl⟩
    obtain ⟨D1,rfl⟩:∃ D,D = DA:=⟨_,rfl⟩
    obtain ⟨D2,rfl⟩:∃ D,D = DB:=⟨_,rfl⟩
    have hD1:=hDAg
    have hD2:=hDBg
    have hf1:=hfA
    have hf2:=hfB
    have hl1:=hal
    have hl2:=hbl
    clear hDAg hDBg hfA hfB hal hbl
  case' neg =>
    have hod:(0 < od):=by have:=uh HOr; rw [if_neg hlt] at this; omega
    have hfk:=hide (hsnd hlt)
    have HT2:=hide (fun f=>TreeAt.ofBk f (uh HBA) hsA)
    have HT1:=hide (fun f=>TreeAt.ofBk f (uh HBB) hsB)
    have HR2:=HRA
    have HR1:=HRB
    clear hfst hsnd hlt HOr HBA HBB HRA HRB hsA hsB HCc HOc HFe
    generalize ([(q,v)]:Prs) = P1 at hfk HT1
    obtain ⟨P2,rfl⟩:∃ P,P = A:=⟨_,rfl⟩
    obtain ⟨g2,rfl⟩:∃ g,g = ga:=⟨_,rfl⟩
    obtain ⟨g1,rfl⟩:∃ g,g = gb:=⟨_,rfl⟩
    obtain ⟨D2,rfl⟩:∃ D,D = DA:=⟨_,rfl⟩
    obtain ⟨D1,rfl⟩:∃ D,D = DB:=⟨_,rfl⟩
    have hD2:=hDAg
    have hD1:=hDBg
    have hf2:=hfA
    have hf1:=hfB
    have hl2:=hal
    have hl1:=hbl
    clear hDAg hDBg hfA hfB hal hbl
  all_goals
    go_upto_region 5 with fail
    go_wp2_with (refine wpList_load_mid rfl 36 (.tmp 48) rfl g1 0 rfl (D1.map u8) _ ((uh HK2).rng (uh HR1) (by simp)) Tryd.underlying36 rfl (by rw [List.length_map,hl1]; exact Tryd.size_dig) ?_)
    refine Calls.mono (xa1s k D1 part _ hk hD1 hf1 hdeep2) ?_
    rintro e w3 ⟨rfl,k3⟩
    have HK3:=hide ((uh HK2).trans k3 (by simp))
    clear k3
    have hx1:=hw16 D1 hD1 part
    have hx2:=hw16 D2 hD2 part
    have hbm:=(uh hfk).bm
    have hkd:=(uh hfk).kids
    have hdg:=hide (uh hfk).dig
    generalize dgt D1 part = x1 at hx1 hbm ⊢
    obtain ⟨x2,he2⟩:∃ x,dgt D2 part = x:=⟨_,rfl⟩
    rw [he2] at hx2 hbm
    have HE2:=hide he2
    clear he2
    clear hfk
    go_wp2_with fail
    refine Calls.mono (xa3u 0 x1 _ (by decide) (by omega)) ?_
    rintro e w4 ⟨rfl,k4⟩
    have HK4:=hide ((uh HK3).trans k4 (by simp))
    clear k4 HK3 HK2
    have hb1:=xa2m 0 (x1:Int) (by decide)
    generalize withB 0 (x1:Int) = b1 at hbm hb1 ⊢
    go_wp2_with (refine wpList_load_mid rfl 36 (.tmp 58) rfl g2 0 rfl (D2.map u8) _ ((uh HK4).rng (uh HR2) (by simp)) Tryd.underlying36 rfl (by rw [List.length_map,hl2]; exact Tryd.size_dig) ?_)
    refine Calls.mono (xa1s k D2 part _ hk hD2 hf2 hdeep2) ?_
    rintro e w5 ⟨rfl,k5⟩
    have HK5:=hide ((uh HK4).trans k5 (by simp))
    clear k5 HK4
    rw [uh HE2]
    go_wp2_with fail
    refine Calls.mono (xa3u b1 x2 _ hb1 (by omega)) ?_
    rintro e w6 ⟨rfl,k6⟩
    have HK6:=hide ((uh HK5).trans k6 (by simp))
    clear k6 HK5
    rw [hbm]
    have hbx:=bm_lt (hsZ k) part M
    have HKd:=hide hkd
    have hsz6:=(uh HK6).size
    clear hbm hkd HE2 hx1 hx2 hb1
    have hag:=(uh HK6).alloc (.cells #[bkV g1,bkV g2] 59)
    have hrow:=xb0p (S:=S) (l:=[bkV g1,bkV g2]) (heap_alloc_new w6 (.cells #[bkV g1,bkV g2] 59)) (by simp) (hS _ hsz6)
    have HRow:=hide hrow
    have HAg:=hide hag
    clear hrow hag
    go_wp2_with fail
    refine Calls.mono (xa1u S k (63 - part) (bm (hsZ k) part M) _ [bkV g1,bkV g2] M _ hk (fun y hy=>hS y (Nat.le_trans (uh HAg).size hy)) hnM (by rw [show 63 - (63 - part) = part by omega]) (uh HRow) (by rw [show 63 - (63 - part) = part by omega,uh HKd]; rfl) (fun i hi=>by
      rw [show 63 - (63 - part) = part by omega,uh HKd]
      match i,hi with
      | 0,_=>exact (uh HT1 _).agr (Agr.nil (uh HAg))
      | 1,_=>exact (uh HT2 _).agr (Agr.nil (uh HAg))) ((uh HTb).k (uh HAg))) ?_
    rintro e w7 ⟨tv,rfl,ht7,k7⟩
    rw [show 63 - part + 1 = 64 - part by omega] at ht7
    have HT7:=hide ht7
    have HK7:=hide ((uh HAg).trans k7 (by simp))
    clear ht7 k7 HRow HAg HK6 HT1 HT2 hbx
    go_wp2
    go_loopw [9,14] (fun t9 t14 wr=>∃ (e:Nat) (tv:Value),t9 = .int .i64 e∧t14 = tv∧dep≤e∧e≤part∧Hid (TreeAt S (hsZ k) wr (64 - e) tv M)∧Hid (Kept [] w wr)) (fun t9 _ _=>(intOf t9).toNat)
    case atStart=>exact ⟨part,tv,rfl,rfl,hdp,Nat.le_refl _,HT7,HK7⟩
    case round =>
      obtain ⟨e,tw,rfl,rfl,h1,h2,HTe,HKe⟩:=hrel
      by_cases hgt:dep < e
      · obtain ⟨e',rfl⟩:∃ e',e = e' + 1:=⟨e - 1,by omega⟩
        have hgt':(dep:Int) < ((e' + 1:Nat):Int):=by omega
        have hty:∃ t p,u14 = Value.iface t p:=by
          rcases (uh HTe).own with ⟨g,_,_,_,e9,_⟩ | ⟨g,_,_,_,e9,_⟩ <;> exact ⟨_,_,e9⟩
        obtain ⟨ti,tp,rfl⟩:=hty
        have hdge:=uh hdg e' (by omega)
        have hx:=hw16 D1 hD1 e'
        have hbm:=one_bm (H:=hsZ k) (d:=e') hx hnM hdge
        have hko:=xb6c (hsZ_ok hk) (d:=e') hnM hdge
        have HKo:=hide hko
        clear hdge hko
        have hed:e' < 2 * k:=by omega
        go_wp2_with (refine wpList_load_mid rfl 36 (.tmp 78) rfl g1 0 rfl (D1.map u8) _ ((uh HKe).rng (uh HR1) (by simp)) Tryd.underlying36 rfl (by rw [List.length_map,hl1]; exact Tryd.size_dig) ?_)
        refine Calls.mono (xa1s k D1 e' _ hk hD1 hf1 hed) ?_
        rintro e w8 ⟨rfl,k8⟩
        have HK8:=hide ((uh HKe).trans k8 (by simp))
        have HT8:=hide ((uh HTe).agr (Agr.nil k8))
        clear k8 HKe HTe
        generalize dgt D1 e' = x at hx hbm ⊢
        go_wp2_with fail
        refine Calls.mono (xa3u 0 x _ (by decide) (by omega)) ?_
        rintro e w9 ⟨rfl,k9⟩
        have HK9:=hide ((uh HK8).trans k9 (by simp))
        have hag:=k9.alloc (.cells #[Value.iface ti tp] 59)
        have HT9:=hide ((uh HT8).agr (Agr.nil hag))
        rw [hbm]
        have hbx:=bm_lt (hsZ k) e' M
        have hrow:=xb0p (S:=S) (l:=[Value.iface ti tp]) (heap_alloc_new w9 (.cells #[Value.iface ti tp] 59)) (by simp) (hS _ (uh HK9).size)
        have HRow:=hide hrow
        have HAg:=hide ((uh HK9).alloc (.cells #[Value.iface ti tp] 59))
        clear k9 HK8 HT8 hag hrow hbm hx
        go_wp2_with fail
        refine Calls.mono (xa1u S k (63 - e') (bm (hsZ k) e' M) _ [Value.iface ti tp] M _ hk (fun y hy=>hS y (Nat.le_trans (uh HAg).size hy)) hnM (by rw [show 63 - (63 - e') = e' by omega]) (uh HRow) (by rw [show 63 - (63 - e') = e' by omega,uh HKo]; rfl) (fun i hi=>by
          rw [show 63 - (63 - e') = e' by omega,uh HKo]
          match i,hi with
          | 0,_=>have h9:=uh HT9; rw [show 64 - (e' + 1) = 63 - e' by omega] at h9; exact h9) ((uh HTb).k (uh HAg))) ?_
        rintro e w10 ⟨tz,rfl,ht10,k10⟩
        rw [show 63 - e' + 1 = 64 - e' by omega] at ht10
        have HT10:=hide ht10
        have HK10:=hide ((uh HAg).trans k10 (by simp))
        clear ht10 k10 HRow HAg HK9 HT9 HKo
        go_wp2
        refine ⟨⟨e',tz,by go_num,rfl,by omega,by omega,HT10,HK10⟩,?_⟩
        simp [intOf]
      · have hee:e = dep:=by omega
        subst hee
        have hgt':¬ (e:Int) < e:=by omega
        go_wp2
        go_ret
        exact ⟨_,rfl,uh HTe,uh HKe⟩
def dnL (H:Hs) (q:List Nat) (L:Prs):Nat→Prs
  | 0=>L
  | i + 1=>ch H i (dgt (H.kd q) i) (dnL H q L i)
theorem dn_on {H:Hs} {q:List Nat} {L:Prs}:∀ i,On H i q (dnL H q L i)
  | 0=>On.zero H q L
  | i + 1=>(dn_on i).ch
theorem dn_srt {H:Hs} {q:List Nat} {L:Prs} (h:Srt H L):∀ i,Srt H (dnL H q L i)
  | 0=>h
  | i + 1=>(dn_srt h i).ch _ _
theorem dn_sub {H:Hs} {q:List Nat} {L:Prs}:∀ i,∀ x∈dnL H q L i,x∈L
  | 0,x,hx=>hx
  | i + 1,x,hx=>dn_sub i x (ch_sub x hx)
theorem dn_len {H:Hs} {q:List Nat} {L:Prs}:∀ i,(dnL H q L i).length≤L.length
  | 0=>Nat.le_refl _
  | i + 1=>Nat.le_trans (List.length_filter_le _ _) (dn_len i)
theorem dn_get {H:Hs} {q:List Nat} {L:Prs}:∀ i,getP q (dnL H q L i) = getP q L
  | 0=>rfl
  | i + 1=>(get_ch _).trans (dn_get i)
def wayC (k:Nat) (D:List Nat) (cr en:Value) (pl:Nat) (fd:Bool):List Value:=.int .i64 k :: (D.map u8++([cr,en,.int .i64 pl,.bool fd]++[]))
theorem xa0q {k:Nat} {D:List Nat} (hD:D.length = 32) (cr en:Value) (pl:Nat) (fd:Bool):(wayC k D cr en pl fd).length = 37:=by simp [wayC,hD]
theorem xa0k {W:World} {g k:Nat} {D:List Nat} {cr en:Value} {pl:Nat} {fd:Bool} {t:TypeId} (h:W.heap[g]? = some (.cells (wayC k D cr en pl fd).toArray t (0,0))) (hD:D.length = 32) :
    W.cell? ⟨g,0,none⟩ = some (.int .i64 k)∧W.rangeAt g 1 (D.map u8)∧W.cell? ⟨g,33,none⟩ = some cr∧W.cell? ⟨g,34,none⟩ = some en∧W.cell? ⟨g,35,none⟩ = some (.int .i64 pl)∧W.cell? ⟨g,36,none⟩ = some (.bool fd):=by
  have key:∀ j,W.cell? ⟨g,33 + j,none⟩ = ([cr,en,.int .i64 pl,.bool fd]:List Value)[j]?:=fun j=>by
    rw [cell_of_row _ _ _ _ _ _ h,List.getElem?_toArray]
    unfold wayC
    rw [show 33 + j = (32 + j) + 1 by omega,List.getElem?_cons_succ,List.getElem?_append_right (by simp [hD])]
    simp [hD]
  refine ⟨?_,xa0m [.int .i64 (k:Int)] (D.map u8) _ h rfl,key 0,key 1,key 2,key 3⟩
  rw [cell_of_row _ _ _ _ _ _ h,List.getElem?_toArray]; rfl
theorem xa7l {W:World} {g k:Nat} {D:List Nat} {cr en:Value} {pl:Nat} {fd:Bool} {t:TypeId} (h:W.heap[g]? = some (.cells (wayC k D cr en pl fd).toArray t (0,0))) (hD:D.length = 32) :
    (∀ cr',(W.setCell ⟨g,33,none⟩ cr').heap[g]? = some (.cells (wayC k D cr' en pl fd).toArray t (0,0)))∧(∀ en',(W.setCell ⟨g,34,none⟩ en').heap[g]? = some (.cells (wayC k D cr en' pl fd).toArray t (0,0))) ∧
    (∀ pl':Nat,(W.setCell ⟨g,35,none⟩ (.int .i64 pl')).heap[g]? = some (.cells (wayC k D cr en pl' fd).toArray t (0,0)))∧(∀ fd',(W.setCell ⟨g,36,none⟩ (.bool fd')).heap[g]? = some (.cells (wayC k D cr en pl fd').toArray t (0,0))):=by
  have key:∀ (j:Nat) (x:Value),j < 4→∀ l:List Value,([cr,en,.int .i64 pl,.bool fd]:List Value).set j x = l→(W.setCell ⟨g,33 + j,none⟩ x).heap[g]? = some (.cells (.int .i64 (k:Int) :: (D.map u8++(l++[]))).toArray t (0,0)):=fun j x hj l hl=>by
    rw [heap_setCell_same W g (33 + j) _ t x h]
    congr 2
    unfold wayC
    rw [List.setIfInBounds_toArray,show 33 + j = (32 + j) + 1 by omega,List.set_cons_succ,List.set_append_right _ _ (by simp [hD])]
    rw [← hl]
    simp [hD]
  exact ⟨fun x=>key 0 x (by omega) _ rfl,fun x=>key 1 x (by omega) _ rfl,fun x=>key 2 _ (by omega) _ rfl,fun x=>key 3 _ (by omega) _ rfl⟩
theorem zway:(Tryd.prog.info? 67).map (fun i=>(i.zero,i.size)) = some (some (.agg (wayC 0 (List.replicate 32 0) (.slice none 0 0) (.pointer none) 0 false).toArray),37):=by kernel_rfl
theorem fway:∀ fs,Tryd.prog.underlying 67 = some (.struct fs)→fs.toList.mapM (fun f=>(Tryd.prog.info? f.type).map fun i=>(f.offset,i.size)) = some [(0,1),(1,32),(33,1),(34,1),(35,1),(36,1)]:=by
  intro fs hfs
  rw [Tryd.underlying67] at hfs
  injection hfs with hfs
  injection hfs with hfs
  subst hfs
  kernel_rfl
theorem xb2o (k:Nat) (D:List Nat) (hD:D.length = 32):Tryd.prog.built 67 [(0,.int .i64 k),(1,.agg (brow D))] = some (wayC k D (.slice none 0 0) (.pointer none) 0 false).toArray:=by
  have hz:=zway
  obtain ⟨it,hit⟩:∃ it,Tryd.prog.info? 67 = some it:=by
    cases h:Tryd.prog.info? 67 with
    | none=>rw [h] at hz; cases hz
    | some it=>exact ⟨it,rfl⟩
  rw [hit] at hz
  simp only [Option.map_some,Option.some.injEq,Prod.mk.injEq] at hz
  obtain ⟨fs,hfs⟩:∃ fs,Tryd.prog.underlying 67 = some (.struct fs):=⟨_,Tryd.underlying67⟩
  have hpl:=fway fs hfs
  unfold Program.built
  rw [hit,hfs]
  simp only [hz.1,hpl,Value.cells]
  have z1:(List.replicate 32 0:List Nat).length = 32:=List.length_replicate
  generalize (List.replicate 32 0:List Nat) = z at z1 ⊢
  unfold wayC
  have s1:=xa0z (place:=([(0,1),(1,32),(33,1),(34,1),(35,1),(36,1)].toArray[·]?)) (i:=0) (n:=1) (rest:=[(1,.agg (brow D))]) [] [.int .i64 ((0:Nat):Int)] (z.map u8++([.slice none 0 0,.pointer none,.int .i64 ((0:Nat):Int),.bool false]++[])) [.int .i64 (k:Int)] (X:=.int .i64 (k:Int)) rfl rfl rfl rfl
  have s2:=xa0z (place:=([(0,1),(1,32),(33,1),(34,1),(35,1),(36,1)].toArray[·]?)) (i:=1) (n:=32) (rest:=[]) [.int .i64 (k:Int)] (z.map u8) ([.slice none 0 0,.pointer none,.int .i64 ((0:Nat):Int),.bool false]++[]) (D.map u8) (X:=.agg (brow D)) rfl rfl (by rw [List.length_map,hD]) (by rw [List.length_map,z1])
  exact s1.trans s2
def ptrs (gs:List Nat):List (List Value):=gs.map fun g=>[.pointer (some ⟨g,0,none⟩)]
structure WayAt (S:Nat→Prop) (k:Nat) (W:World) (q:List Nat) (L:Prs) (m:Nat) (cr en:Value) (pl:Nat) (fd:Bool):Prop where
  cr:∃ gs:List Nat,gs.length = m∧RdC 1 W cr (ptrs gs)∧∀ i,i < m→TreeAt S (hsZ k) W (64 - i) (brV (gs.getD i 0)) (dnL (hsZ k) q L i)∧sgl (hsZ k) (dnL (hsZ k) q L i) = false
  en:(dnL (hsZ k) q L m = []∧en = .pointer none∧pl = 0∧fd = false)∨(sgl (hsZ k) (dnL (hsZ k) q L m) = true∧∃ g,en = .pointer (some ⟨g,0,none⟩)∧BkAt S (hsZ k) W g (dnL (hsZ k) q L m)∧pl = plc q (dnL (hsZ k) q L m)∧fd = fnd q (dnL (hsZ k) q L m))
  deep:m≤2 * k
theorem WayAt.old {S:Nat→Prop} {k:Nat} {W W':World} {q:List Nat} {L:Prs} {m:Nat} {cr en:Value} {pl:Nat} {fd:Bool} (h:WayAt S k W q L m cr en pl fd) (kk:Kept [] W W'):WayAt S k W' q L m cr en pl fd:=by
  obtain ⟨⟨gs,h1,h2,h3⟩,h4,h5⟩:=h
  refine ⟨⟨gs,h1,h2.old kk,fun i hi=>⟨(h3 i hi).1.agr (Agr.nil kk),(h3 i hi).2⟩⟩,?_,h5⟩
  rcases h4 with h4 | ⟨h4,g,h6,h7,h8⟩
  · exact Or.inl h4
  · exact Or.inr ⟨h4,g,h6,h7.agr (Agr.nil kk),h8⟩
theorem Sty.mono {S T:Nat→Prop} {W:World} {P:World→Prop} (hs:∀ x,T x→S x) (h:Sty T W P):Sty S W P:=fun w k=>h w (k.sub hs)
theorem KRow.mono {S T:Nat→Prop} {W:World} {pv:Value} {L:Prs} (hs:∀ x,T x→S x) (h:KRow T W pv L):KRow S W pv L:=by
  obtain ⟨b,off,cap,l,h1,h2,h3,h4,h5,h6,h7⟩:=h
  exact ⟨b,off,cap,l,h1,h2,h3,hs _ h4,h5,h6,fun i hi=>(h7 i hi).mono hs⟩
theorem BkAt.mono {S T:Nat→Prop} {H:Hs} {W:World} {g:Nat} {L:Prs} (hs:∀ x,T x→S x) (h:BkAt T H W g L):BkAt S H W g L:=by
  obtain ⟨pv,h1,h2,h3,h4⟩:=h
  exact ⟨pv,hs _ h1,h2,h3,h4.mono hs⟩
theorem SRow.mono {S T:Nat→Prop} {W:World} {v:Value} {vs:List Value} (hs:∀ x,T x→S x) (h:SRow T W v vs):SRow S W v vs:=by
  obtain ⟨b,off,cap,h1,h2,h3,h4,h5⟩:=h
  exact ⟨b,off,cap,h1,h2,h3,hs _ h4,h5⟩
theorem TreeAt.mono {S T:Nat→Prop} {H:Hs} {W:World} (hs:∀ x,T x→S x):∀ {f:Nat} {v:Value} {L:Prs},TreeAt T H W f v L→TreeAt S H W f v L
  | 0,v,L,h=>by
    obtain ⟨h0,g,h1,h2⟩:=h
    exact ⟨h0,g,h1,h2.mono hs⟩
  | f + 1,v,L,h=>by
    refine ⟨fun h0=>?_,fun h0=>?_⟩
    · obtain ⟨g,h1,h2⟩:=h.1 h0
      exact ⟨g,h1,h2.mono hs⟩
    · obtain ⟨g,kv,vs,h1,h2,h3,h4,h5,h6⟩:=h.2 h0
      exact ⟨g,kv,vs,h1,hs _ h2,h3,h4.mono hs,h5,fun i hi=>(h6 i hi).mono hs⟩
def lowS (S:Nat→Prop) (w:World):Nat→Prop:=fun x=>S x∧x < w.heap.size
theorem xa9r (S:Nat→Prop) (w:World):∀ x,lowS S w x→S x:=fun _ h=>h.1
theorem Sty.shrink {S:Nat→Prop} {W:World} {P:World→Prop} (h:Sty S W P):Sty (lowS S W) W P:=fun w k=>h w ⟨k.1,fun x hx hl=>k.2 x ⟨hx,hl⟩ hl⟩
theorem KRow.shrink {S:Nat→Prop} {W:World} {pv:Value} {L:Prs} (hn:L≠[]) (h:KRow S W pv L):KRow (lowS S W) W pv L:=by
  obtain ⟨b,off,cap,l,h1,h2,h3,h4,h5,h6,h7⟩:=h
  have h0:0 < l.length:=by rw [h5]; cases L with
    | nil=>exact absurd rfl hn
    | cons _ _=>simp
  exact ⟨b,off,cap,l,h1,h2,h3,⟨h4,block_lt_of_cell (h6 0 h0).1⟩,h5,h6,fun i hi=>(h7 i hi).shrink⟩
theorem BkAt.shrink {S:Nat→Prop} {H:Hs} {W:World} {g:Nat} {L:Prs} (h:BkAt S H W g L):BkAt (lowS S W) H W g L:=by
  obtain ⟨pv,h1,h2,h3,h4⟩:=h
  exact ⟨pv,⟨h1,lt_of_block h2⟩,h2,h3,h4.shrink h3⟩
theorem TreeAt.shrink {S:Nat→Prop} {H:Hs} (hH:H.Ok) {W:World}:∀ {f:Nat} {v:Value} {L:Prs},TreeAt S H W f v L→TreeAt (lowS S W) H W f v L
  | 0,v,L,h=>by
    obtain ⟨h0,g,h1,h2⟩:=h
    exact ⟨h0,g,h1,h2.shrink⟩
  | f + 1,v,L,h=>by
    refine ⟨fun h0=>?_,fun h0=>?_⟩
    · obtain ⟨g,h1,h2⟩:=h.1 h0
      exact ⟨g,h1,h2.shrink⟩
    · obtain ⟨g,kv,vs,h1,h2,h3,⟨b,off,cap,r1,r2,r3,r4,r5⟩,h5,h6⟩:=h.2 h0
      have hn:L≠[]:=by intro e; rw [e,xb3n] at h0; cases h0
      have hp:=(xa6r hH (d:=63 - f) hn).1
      have hb:=block_lt_of_cell (r5 0 (by omega))
      exact ⟨g,kv,vs,h1,⟨h2,lt_of_block h3⟩,h3,⟨b,off,cap,r1,r2,r3,⟨r4,hb⟩,r5⟩,h5,fun i hi=>(h6 i hi).shrink hH⟩
theorem KidAt.shrink {S:Nat→Prop} {H:Hs} (hH:H.Ok) {W:World} {f:Nat} {v:Value} {L:Prs} (h:KidAt S H W f v L):KidAt (lowS S W) H W f v L:=by
  rcases h with h | h
  · exact Or.inl h
  · exact Or.inr (h.shrink hH)
theorem xb7g {S:Nat→Prop} {w A B:World} (hA:Kept [] w A) (hB:Kept [] w B) (h:A.heap.size≤B.heap.size):Agr (lowS S w) A B :=
  ⟨h,fun x hx _=>(hB.block x hx.2 (by simp)).trans (hA.block x hx.2 (by simp)).symm⟩
def zwy:Array Value:=(wayC 0 (List.replicate 32 0) (.slice none 0 0) (.pointer none) 0 false).toArray
theorem xa2g:(#[.int .i64 0,.int .u8 0,.int .u8 0,.int .u8 0,.int .u8 0,.int .u8 0,.int .u8 0,.int .u8 0,.int .u8 0,.int .u8 0,.int .u8 0,.int .u8 0,.int .u8 0,.int .u8 0,.int .u8 0,.int .u8 0,.int .u8 0,.int .u8 0,.int .u8 0,.int .u8 0,.int .u8 0,.int .u8 0,.int .u8 0,.int .u8 0,.int .u8 0,.int .u8 0,.int .u8 0,.int .u8 0,.int .u8 0,.int .u8 0,.int .u8 0,.int .u8 0,.int .u8 0,.slice none 0 0,.pointer none,.int .i64 0,.bool false]:Array Value) = zwy:=rfl
theorem Tryd.size_way:(Tryd.prog.info? 67).map (·.size) = some 37:=by kernel_rfl
theorem xa1e {k:Nat} {D:List Nat} {cr en:Value} (pl:Nat) (fd:Bool) (h1:cr.oneCell' = true) (h2:en.oneCell' = true):(wayC k D cr en pl fd).toArray.all (·.oneCell') = true:=by
  rw [Array.all_eq_true_iff_forall_mem]
  intro v hv
  simp only [wayC,List.mem_toArray,List.mem_cons,List.mem_append,List.mem_map,List.not_mem_nil,or_false] at hv
  rcases hv with rfl | ⟨x,_,rfl⟩ | rfl | rfl | rfl | rfl
  · rfl
  · rfl
  · exact h1
  · exact h2
  · rfl
  · rfl
def wyM (b:Nat) (W:World):Nat:=match W.cell? ⟨b,33,none⟩ with
  | some (.slice _ n _)=>100 - n
  | _=>0
theorem wyM_at {b k pl:Nat} {W:World} {D:List Nat} {en:Value} {fd:Bool} {t:TypeId} {ao:Option Addr} {n c:Nat} (h:W.heap[b]? = some (.cells (wayC k D (.slice ao n c) en pl fd).toArray t (0,0))) (hD:D.length = 32):wyM b W = 100 - n:=by
  unfold wyM; rw [(xa0k h hD).2.2.1]
theorem Tryd.infoPB:(Tryd.prog.info? 85).map (fun i=>(i.zero,i.size,i.bytes)) = some (some (.pointer none),1,8):=by kernel_rfl
theorem xa7c (gs:List Nat):(∀ r∈ptrs gs,r.length = 1)∧∀ r∈ptrs gs,∀ u∈r,u.oneCell' = true:=by
  constructor
  · intro r hr; obtain ⟨g,_,rfl⟩:=List.mem_map.1 hr; rfl
  · intro r hr u hu; obtain ⟨g,_,rfl⟩:=List.mem_map.1 hr; have:u = .pointer (some ⟨g,0,none⟩):=by simpa using hu
    rw [this]; rfl
theorem xa2t {w:World} {base:Nat} {e t:TypeId} {s n b:Nat} {v:Value} {xs:List Value} {cs:Array Value} {fr:Nat × Nat} (h:w.ownsRow base e s v n xs) (hb:w.heap[b]? = some (.cells cs t fr)) (hne:e≠t):v.ownBlock≠some b:=by
  intro e'
  rcases h.2 with ⟨rfl,_⟩ | ⟨g,cap,cur,rfl,_,hg,_⟩
  · simp [Value.ownBlock] at e'
  · simp only [Value.ownBlock,Option.some.injEq] at e'
    subst e'
    rw [hb] at hg
    simp at hg
    first | exact hne hg.2.1.symm | exact hne hg.2.symm
structure WayAt0 (S:Nat→Prop) (k:Nat) (w W:World) (q:List Nat) (L:Prs) (m:Nat) (cr en:Value) (pl:Nat) (fd:Bool):Prop where
  cr:∃ gs:List Nat,gs.length = m∧RdC 1 W cr (ptrs gs)∧∀ i,i < m→TreeAt S (hsZ k) w (64 - i) (brV (gs.getD i 0)) (dnL (hsZ k) q L i)∧sgl (hsZ k) (dnL (hsZ k) q L i) = false
  en:(dnL (hsZ k) q L m = []∧en = .pointer none∧pl = 0∧fd = false)∨(sgl (hsZ k) (dnL (hsZ k) q L m) = true∧∃ g,en = .pointer (some ⟨g,0,none⟩)∧BkAt S (hsZ k) w g (dnL (hsZ k) q L m)∧pl = plc q (dnL (hsZ k) q L m)∧fd = fnd q (dnL (hsZ k) q L m))
  deep:m≤2 * k
theorem WayAt0.fin {S T:Nat→Prop} {k:Nat} {w W':World} {q:List Nat} {L:Prs} {m:Nat} {cr en:Value} {pl:Nat} {fd:Bool} (h:WayAt0 T k w W' q L m cr en pl fd) (hs:∀ x,T x→S x) (kk:Agr T w W'):WayAt S k W' q L m cr en pl fd:=by
  obtain ⟨⟨gs,h1,h2,h3⟩,h4,h5⟩:=h
  refine ⟨⟨gs,h1,h2,fun i hi=>⟨((h3 i hi).1.agr kk).mono hs,(h3 i hi).2⟩⟩,?_,h5⟩
  rcases h4 with h4 | ⟨h4,g,h6,h7,h8⟩
  · exact Or.inl h4
  · exact Or.inr ⟨h4,g,h6,(h7.agr kk).mono hs,h8⟩
theorem xa8m {w:World} {base T m:Nat} {v:Value} {gs:List Nat} (h:w.ownsRow base T 1 v m (ptrs gs).flatten) (hl:gs.length = m):RdC 1 w v (ptrs gs) :=
  xa6q (by rw [show (ptrs gs).length = m by rw [ptrs,List.length_map,hl]]; exact h) (xa7c gs).1
set_option maxHeartbeats 4000000 in
theorem xb1s (S:Nat→Prop) (k:Nat) (tv:Value) (L:Prs) (uw:Value) (q:List Nat) (w:World) (hk:1≤k∧k≤32) (h:KidAt S (hsZ k) w 64 tv L) (hs:Srt (hsZ k) L) (hu:Rd w uw q) (hn:L.length≤1000000000) :
    Calls Tryd.prog 30 #[.int .i64 k,tv,.agg (brow ((hsZ k).kd q)),uw] w fun e w'=>∃ m cr en pl fd,e = .returned (.agg (wayC k ((hsZ k).kd q) cr en pl fd).toArray)∧WayAt S k w' q L m cr en pl fd∧Kept [] w w':=by
  have hH:=hsZ_ok hk
  have hDg:=hH.dg q
  have hfm:=xa4e hk q
  have hu':=hu
  obtain ⟨ua,un,uc,rfl,_⟩:=hu'
  obtain ⟨D,hD⟩:∃ D,(hsZ k).kd q = D:=⟨_,rfl⟩
  have HDn:=hide (fun i=>by rw [← hD]; rfl:∀ i,ch (hsZ k) i (dgt D i) (dnL (hsZ k) q L i) = dnL (hsZ k) q L (i + 1))
  rw [hD] at hDg hfm ⊢
  have hDl:=hDg.1
  have HU:=hide hu
  have HSr:=hide hs
  have hm1:=ta_bk
  have hm2:=ta_br
  have hm3:=ta_nil
  have hm4:=tb_bk
  have hm5:=tb_br
  have hm6:=tb_nil
  have HB:=hide (xb2o k D hDl)
  clear hu hs hD
  have HK0:=hide (((Kept.refl [] w).alloc (.cells (brow D) 36)).alloc (.cells zwy 67))
  have HD0:=hide (((Kept.refl [] (w.alloc (.cells (brow D) 36))).alloc (.cells zwy 67)).heap (heap_alloc_new w (.cells (brow D) 36)) (by simp))
  have HZ0:=hide (xa2d w (.cells (brow D) 36) (.cells zwy 67))
  have hs0:((w.alloc (.cells (brow D) 36)).alloc (.cells zwy 67)).heap.size = w.heap.size + 2:=by simp
  have h':=h.shrink hH
  obtain ⟨T,hT⟩:∃ T,lowS S w = T:=⟨_,rfl⟩
  rw [hT] at h'
  have HTS:=hide (by rw [← hT]; exact xa9r S w:∀ x,T x→S x)
  have HAG:=hide (by rw [← hT]; exact fun A B hA hB hl=>xb7g hA hB hl:∀ A B,Kept [] w A→Kept [] w B→A.heap.size≤B.heap.size→Agr T A B)
  clear hT h
  go_enter Tryd.func30,Tryd.ntmps30
  have hnw:((wayC k D (.slice none 0 0) (.pointer none) 0 false).toArray).size = 37:=by rw [List.size_toArray,xa0q hDl]
  have HZ1:=hide (by have h9:=heap_alloc_new ((w.alloc (.cells (brow D) 36)).alloc (.cells zwy 67)) (.cells zwy 67); rw [hs0] at h9; exact h9:(((w.alloc (.cells (brow D) 36)).alloc (.cells zwy 67)).alloc (.cells zwy 67)).heap[w.heap.size + 1 + 1]? = some (.cells zwy 67 (0,0)))
  have HK1:=hide ((uh HK0).alloc (.cells zwy 67))
  have HR2:=hide (setRow_heap _ _ _ ((wayC k D (.slice none 0 0) (.pointer none) 0 false).toArray) _ _ (uh HZ1))
  have HK2:=hide ((uh HK1).setRow (g:=w.heap.size + 1 + 1) (Or.inr (by omega)) ((wayC k D (.slice none 0 0) (.pointer none) 0 false).toArray))
  have hk9:=((Kept.refl [w.heap.size + 1 + 1] ((w.alloc (.cells (brow D) 36)).alloc (.cells zwy 67))).alloc (.cells zwy 67)).setRow (g:=w.heap.size + 1 + 1) (Or.inl (by simp)) ((wayC k D (.slice none 0 0) (.pointer none) 0 false).toArray)
  have HD2:=hide (hk9.heap (uh HD0) (by simp; omega))
  have HZ2:=hide (hk9.heap (uh HZ0) (by simp))
  clear hk9
  go_wp2_with (first
    | (rw [xa2g]; refine wpList_load_row rfl 36 (.tmp 6) rfl w.heap.size rfl 36 (brow D) (0,0) _ (uh HD0) Tryd.underlying36 rfl (by rw [xa0b,hDl]; exact Tryd.size_dig) ?_)
    | (refine xa0i rfl 67 _ rfl (wayC k D (.slice none 0 0) (.pointer none) 0 false).toArray (by simp only [List.map_toArray,List.map_cons,List.map_nil]; exact uh HB) ?_)
    | (rw [xa2g]; refine wpList_store_row rfl 67 (.tmp 9) (.tmp 15) rfl (w.heap.size + 1 + 1) (wayC k D (.slice none 0 0) (.pointer none) 0 false).toArray rfl rfl _ zwy (uh HZ1) (by rw [hnw]; exact Tryd.size_way) (by rw [hnw]; rfl) (xa1e _ _ rfl rfl) ?_))
  clear HZ1 HK1 HZ0 HD0 HK0 hs0 HB
  generalize ((((w.alloc (.cells (brow D) 36)).alloc (.cells zwy 67)).alloc (.cells zwy 67)).setRow (w.heap.size + 1 + 1) ((wayC k D (.slice none 0 0) (.pointer none) 0 false).toArray)) = W2 at HR2 HK2 HD2 HZ2 ⊢
  simp only [Act.put]
  have hw2:=hide (uh HK2).size
  go_loopw [1] (fun t1 wr=>∃ (m:Nat) (v:Value) (ao:Option Addr) (c:Nat) (gs:List Nat),t1 = v∧gs.length = m∧m≤2 * k∧Hid (KidAt T (hsZ k) wr (64 - m) v (dnL (hsZ k) q L m))∧Hid (∀ i,i < m→TreeAt T (hsZ k) wr (64 - i) (brV (gs.getD i 0)) (dnL (hsZ k) q L i)∧sgl (hsZ k) (dnL (hsZ k) q L i) = false)∧Hid (wr.ownsRow w.heap.size 85 1 (.slice ao m c) m (ptrs gs).flatten) ∧
    Hid (wr.heap[w.heap.size + 2]? = some (.cells (wayC k D (.slice ao m c) (.pointer none) 0 false).toArray 67 (0,0)))∧Hid (wr.heap[w.heap.size + 1]? = some (.cells zwy 67 (0,0)))∧Hid (wr.heap[w.heap.size]? = some (.cells (brow D) 36 (0,0)))∧Hid (Kept [] w wr)) (fun _ wr=>wyM (w.heap.size + 2) wr)
  case atStart=>exact ⟨0,tv,none,0,[],rfl,rfl,Nat.zero_le _,hide (h'.agr (uh HAG w W2 (Kept.refl [] w) (uh HK2) (uh HK2).size)),hide (fun i hi=>by omega),hide (World.ownsRow_nil _ _ _ _),HR2,HZ2,HD2,HK2⟩
  case round =>
    obtain ⟨m,v,ao,c,gs,rfl,hgl,hmk,HKd,HTs,HOw,HRw,HZw,HDw,HKw⟩:=hrel
    have hnwA:∀ cr en pl fd,((wayC k D cr en pl fd).toArray).size = 37:=fun cr en pl fd=>by rw [List.size_toArray,xa0q hDl]
    rcases uh HKd with ⟨hnil,rfl⟩ | ht
    · have hkf:=(uh HKw).setRow (g:=w.heap.size + 1) (Or.inr (by omega)) (wayC k D (.slice ao m c) (.pointer none) 0 false).toArray
      have hof:=((Kept.refl [w.heap.size + 1] wr).setRow (g:=w.heap.size + 1) (Or.inl (by simp)) (wayC k D (.slice ao m c) (.pointer none) 0 false).toArray).owns (uh HOw) (fun x hx hm=>xa2t (uh HOw) (uh HZw) (by decide) (by rw [List.mem_singleton] at hm; rw [← hm]; exact hx))
      go_wp2_with (first
        | (refine wpList_load_row rfl 67 (.tmp 9) rfl (w.heap.size + 2) rfl 67 (wayC k D (.slice ao m c) (.pointer none) 0 false).toArray (0,0) _ (uh HRw) Tryd.underlying67 rfl (by rw [hnwA]; exact Tryd.size_way) ?_)
        | (refine wpList_store_row rfl 67 (.tmp 8) (.tmp 17) rfl (w.heap.size + 1) (wayC k D (.slice ao m c) (.pointer none) 0 false).toArray rfl rfl _ zwy (uh HZw) (by rw [hnwA]; exact Tryd.size_way) (by rw [hnwA]; rfl) (xa1e _ _ rfl rfl) ?_))
      refine bodyPost_ret (v:=.agg (wayC k D (.slice ao m c) (.pointer none) 0 false).toArray) ?_ rfl ⟨m,_,_,_,_,rfl,WayAt0.fin ⟨⟨gs,hgl,xa8m hof hgl,fun i hi=>uh HTs i hi⟩,Or.inl ⟨hnil,rfl,rfl,rfl⟩,hmk⟩ (uh HTS) (uh HAG _ _ (uh HKw) hkf (by simp)),hkf⟩
      exact results_cell_row rfl _ _ (w.heap.size + 1) _ (wayC k D (.slice ao m c) (.pointer none) 0 false).toArray (0,0) _ rfl (setRow_heap _ _ _ _ _ _ (uh HZw)) Tryd.underlying67 rfl (by rw [hnwA]; exact Tryd.size_way)
    · cases hsg:sgl (hsZ k) (dnL (hsZ k) q L m) with
      | true =>
        obtain ⟨g,rfl,hb⟩:=ht.bk hsg
        have hlen:=dn_len (H:=hsZ k) (q:=q) (L:=L) m
        have hkdx:((hsZ k).kd ((dnL (hsZ k) q L m).headD ([],[])).1).length = 32:=(hH.dg _).1
        have hris:=xa4t (dn_srt (uh HSr) m) hsg
        obtain ⟨cw0,cw1,cw2,cw3,cw4,cw5⟩:=xa0k (uh HRw) hDl
        have cz:=fun o=>frozen_of_row _ (w.heap.size + 2) (⟨w.heap.size + 2,o,none⟩:Addr).off _ _ (uh HRw)
        have HR3:=hide ((xa7l (uh HRw) hDl).2.1 (.pointer (some ⟨g,0,none⟩)))
        have HK3:=hide ((uh HKw).setCell (p:=⟨w.heap.size + 2,34,none⟩) (Or.inr (by show w.heap.size≤w.heap.size + 2; omega)) (.pointer (some ⟨g,0,none⟩)))
        have hko:=(Kept.refl [w.heap.size + 2] wr).setCell (p:=⟨w.heap.size + 2,34,none⟩) (Or.inl (by simp)) (.pointer (some ⟨g,0,none⟩))
        have HZ3:=hide (hko.heap (uh HZw) (by simp))
        have HO3:=hide (hko.owns (uh HOw) (fun x hx hm=>xa2t (uh HOw) (uh HRw) (by decide) (by rw [List.mem_singleton] at hm; rw [← hm]; exact hx)))
        clear hko cw0 cw1 cw2 cw4 cw5
        go_wp2_with fail
        clear cw3 cz
        have hz3:wr.heap.size≤(wr.setCell ⟨w.heap.size + 2,34,none⟩ (.pointer (some ⟨g,0,none⟩))).heap.size:=by simp
        generalize wr.setCell ⟨w.heap.size + 2,34,none⟩ (.pointer (some ⟨g,0,none⟩)) = W3 at HR3 HK3 HZ3 HO3 hz3 ⊢
        refine Calls.mono (xb3b T (hsZ k) g (dnL (hsZ k) q L m) _ q W3 (hb.agr (uh HAG _ _ (uh HKw) (uh HK3) hz3)) hkdx ((uh HU).old (uh HK3) (by simp)) hris (by omega)) ?_
        rintro e W4 ⟨rfl,k4⟩
        generalize hpl:plc q (dnL (hsZ k) q L m) = pl
        generalize hfd:fnd q (dnL (hsZ k) q L m) = fd
        have HR4:=hide (k4.heap (uh HR3) (by simp))
        have HK4:=hide ((uh HK3).trans k4 (by simp))
        have HZ4:=hide (k4.heap (uh HZ3) (by simp))
        have HZs:=hide (Nat.le_trans hz3 k4.size)
        have HO4:=hide (k4.owns (uh HO3) (by simp))
        clear k4 HR3 HK3 HZ3 HO3
        obtain ⟨cw0,cw1,cw2,cw3,cw4,cw5⟩:=xa0k (uh HR4) hDl
        have cz:=fun o=>frozen_of_row _ (w.heap.size + 2) (⟨w.heap.size + 2,o,none⟩:Addr).off _ _ (uh HR4)
        have HR5:=hide ((xa7l (uh HR4) hDl).2.2.1 pl)
        have HR6:=hide ((xa7l (uh HR5) hDl).2.2.2 fd)
        have hk6:=((uh HK4).setCell (p:=⟨w.heap.size + 2,35,none⟩) (Or.inr (by show w.heap.size≤w.heap.size + 2; omega)) (.int .i64 pl)).setCell (p:=⟨w.heap.size + 2,36,none⟩) (Or.inr (by show w.heap.size≤w.heap.size + 2; omega)) (.bool fd)
        have hko:=((Kept.refl [w.heap.size + 2] W4).setCell (p:=⟨w.heap.size + 2,35,none⟩) (Or.inl (by simp)) (.int .i64 pl)).setCell (p:=⟨w.heap.size + 2,36,none⟩) (Or.inl (by simp)) (.bool fd)
        have HZ6:=hide (hko.heap (uh HZ4) (by simp))
        have HO6:=hide (hko.owns (uh HO4) (fun x hx hm=>xa2t (uh HO4) (uh HR4) (by decide) (by rw [List.mem_singleton] at hm; rw [← hm]; exact hx)))
        have HK6:=hide hk6
        clear hko cw0 cw1 cw2 cw3 hk6 HR5
        have hkf:=(uh HK6).setRow (g:=w.heap.size + 1) (Or.inr (by omega)) (wayC k D (.slice ao m c) (.pointer (some ⟨g,0,none⟩)) pl fd).toArray
        have hof:=((Kept.refl [w.heap.size + 1] ((W4.setCell ⟨w.heap.size + 2,35,none⟩ (.int .i64 pl)).setCell ⟨w.heap.size + 2,36,none⟩ (.bool fd))).setRow (g:=w.heap.size + 1) (Or.inl (by simp)) (wayC k D (.slice ao m c) (.pointer (some ⟨g,0,none⟩)) pl fd).toArray).owns (uh HO6) (fun x hx hm=>xa2t (uh HO6) (uh HZ6) (by decide) (by rw [List.mem_singleton] at hm; rw [← hm]; exact hx))
        go_wp2_with (first
          | (refine wpList_load_row rfl 67 (.tmp 9) rfl (w.heap.size + 2) rfl 67 (wayC k D (.slice ao m c) (.pointer (some ⟨g,0,none⟩)) pl fd).toArray (0,0) _ (uh HR6) Tryd.underlying67 rfl (by rw [hnwA]; exact Tryd.size_way) ?_)
          | (refine wpList_store_row rfl 67 (.tmp 8) (.tmp 48) rfl (w.heap.size + 1) (wayC k D (.slice ao m c) (.pointer (some ⟨g,0,none⟩)) pl fd).toArray rfl rfl _ zwy (uh HZ6) (by rw [hnwA]; exact Tryd.size_way) (by rw [hnwA]; rfl) (xa1e _ _ rfl rfl) ?_))
        refine bodyPost_ret (v:=.agg (wayC k D (.slice ao m c) (.pointer (some ⟨g,0,none⟩)) pl fd).toArray) ?_ rfl ⟨m,_,_,_,_,rfl,WayAt0.fin ⟨⟨gs,hgl,xa8m hof hgl,fun i hi=>uh HTs i hi⟩,Or.inr ⟨hsg,g,rfl,hb,hpl.symm,hfd.symm⟩,hmk⟩ (uh HTS) (uh HAG _ _ (uh HKw) hkf (by have:=uh HZs; simp; omega)),hkf⟩
        exact results_cell_row rfl _ _ (w.heap.size + 1) _ (wayC k D (.slice ao m c) (.pointer (some ⟨g,0,none⟩)) pl fd).toArray (0,0) _ rfl (setRow_heap _ _ _ _ _ _ (uh HZ6)) Tryd.underlying67 rfl (by rw [hnwA]; exact Tryd.size_way)
      | false =>
        have hdeep:m < 2 * k:=deep hH (dn_on m).pre hsg
        obtain ⟨f,hf⟩:∃ f,64 - m = f + 1:=⟨63 - m,by omega⟩
        rw [hf] at ht
        obtain ⟨g,_,_,e,_⟩:=ht.2 hsg
        subst e
        have hfm2:63 - f = m:=by omega
        have hd16:=dgt_lt hDg.2 m
        have HT:=hide ht
        have hnx:=uh HDn m
        have hTm:TreeAt T (hsZ k) wr (64 - m) (brV g) (dnL (hsZ k) q L m):=by rw [hf]; exact ht
        have HTm:=hide hTm
        clear hTm
        obtain ⟨cw0,cw1,cw2,cw3,cw4,cw5⟩:=xa0k (uh HRw) hDl
        clear cw0 cw1 cw3 cw4 cw5 ht
        go_wp2_with (refine wpList_load_row rfl 36 (.tmp 6) rfl w.heap.size rfl 36 (brow D) (0,0) _ (uh HDw) Tryd.underlying36 rfl (by rw [xa0b,hDl]; exact Tryd.size_dig) ?_)
        refine Calls.mono (xa1s k D m wr hk hDg hfm hdeep) ?_
        rintro e W3 ⟨rfl,k3⟩
        have HK3:=hide ((uh HKw).trans k3 (by simp))
        have HR3:=hide (k3.heap (uh HRw) (by simp))
        have HZ3:=hide (k3.heap (uh HZw) (by simp))
        have HD3:=hide (k3.heap (uh HDw) (by simp))
        have HO3:=hide (k3.owns (uh HOw) (by simp))
        have HA3:=hide (uh HAG wr W3 (uh HKw) (uh HK3) k3.size)
        clear k3
        obtain ⟨x,hx⟩:∃ x,dgt D m = x:=⟨_,rfl⟩
        rw [hx] at hd16 hnx ⊢
        go_wp2_with fail
        refine Calls.mono (xb8e T (hsZ k) f g x (dnL (hsZ k) q L m) W3 ((uh HT).agr (uh HA3)) hsg hd16) ?_
        rintro e W4 ⟨v4,rfl,hk4,k4⟩
        rw [hfm2,hnx,show f = 64 - (m + 1) by omega] at hk4
        have HK4:=hide ((uh HK3).trans k4 (by simp))
        have HR4:=hide (k4.heap (uh HR3) (by simp))
        have HZ4:=hide (k4.heap (uh HZ3) (by simp))
        have HD4:=hide (k4.heap (uh HD3) (by simp))
        have HO4:=hide (k4.owns (uh HO3) (by simp))
        have hz4:=Nat.le_trans (uh HA3).1 k4.size
        have HKd4:=hide hk4
        clear k4 hk4 HK3 HR3 HZ3 HD3 HO3 HA3 HT cw2
        obtain ⟨cw0,cw1,cw2,cw3,cw4,cw5⟩:=xa0k (uh HR4) hDl
        clear cw0 cw1 cw3 cw4 cw5
        have hrl:=xb5g (t:=85) (l:=[.pointer (some ⟨g,0,none⟩)]) (heap_alloc_new W4 (.cells #[.pointer (some ⟨g,0,none⟩)] 85)) (by simp)
        have HRL:=hide hrl
        have hb4:=(uh HK4).size
        have hka:=(Kept.refl [] W4).alloc (.cells #[.pointer (some ⟨g,0,none⟩)] 85)
        have HO5:=hide (hka.owns (uh HO4) (by simp))
        have HR5:=hide (hka.heap (uh HR4) (by simp))
        have HZ5:=hide (hka.heap (uh HZ4) (by simp))
        have HD5:=hide (hka.heap (uh HD4) (by simp))
        have HK5:=hide ((uh HK4).trans hka (by simp))
        have hz5:=Nat.le_trans hz4 hka.size
        have hz45:=hka.size
        clear hrl hka
        go_wp2_with (at_builtin; refine xa0u rfl 64 85 (.tmp 30) (.tmp 32) rfl rfl (W4.alloc (.cells #[.pointer (some ⟨g,0,none⟩)] 85)) w.heap.size (.pointer none) 1 8 Tryd.underlying64 Tryd.infoPB rfl (by decide) (.slice ao m c) m (ptrs gs).flatten (uh HO5) (some ⟨W4.heap.size,0,none⟩) 1 1 (ptrs [g]) (uh HRL) (xa7c [g]).1 (xa7c [g]).2 (by omega) (by omega) (uh HK5).size rfl rfl ?_; intro ao6 c6 W6 HO6 HG6 HA6; have hk56:=(Kept.refl ((Value.slice ao m c).ownBlock.toList) _).grown (uh HG6) (by intro x hx; left; simp [hx]); have HR6:=hide (hk56.heap (uh HR5) (by intro hm; exact xa2t (uh HO5) (uh HR5) (by decide) (by simpa using hm))); have HZ6:=hide (hk56.heap (uh HZ5) (by intro hm; exact xa2t (uh HO5) (uh HZ5) (by decide) (by simpa using hm))); have HD6:=hide (hk56.heap (uh HD5) (by intro hm; exact xa2t (uh HO5) (uh HD5) (by decide) (by simpa using hm))); have HK6:=hide ((uh HK5).grown (uh HG6) (by intro x hx; right; exact ((uh HO5).lt x hx).1)); have hz6:=Nat.le_trans hz5 hk56.size; have hz46:=Nat.le_trans hz45 hk56.size; obtain ⟨cv0,cv1,cv2,cv3,cv4,cv5⟩:=xa0k (uh HR6) hDl; have cz:=frozen_of_row _ (w.heap.size + 2) 33 _ _ (uh HR6); clear hk56 cv0 cv1 cv3 cv4 cv5 cw2)
        have HR7:=hide ((xa7l (uh HR6) hDl).1 (.slice ao6 (m + 1) c6))
        have HK7:=hide ((uh HK6).setCell (p:=⟨w.heap.size + 2,33,none⟩) (Or.inr (by show w.heap.size≤w.heap.size + 2; omega)) (.slice ao6 (m + 1) c6))
        have hko:=(Kept.refl [w.heap.size + 2] W6).setCell (p:=⟨w.heap.size + 2,33,none⟩) (Or.inl (by simp)) (.slice ao6 (m + 1) c6)
        have HZ7:=hide (hko.heap (uh HZ6) (by simp))
        have HD7:=hide (hko.heap (uh HD6) (by simp))
        have HO7:=hide (hko.owns (uh HO6) (fun x hx hm=>xa2t (uh HO6) (uh HR6) (by decide) (by rw [List.mem_singleton] at hm; rw [← hm]; exact hx)))
        have hz7:wr.heap.size≤(W6.setCell ⟨w.heap.size + 2,33,none⟩ (.slice ao6 (m + 1) c6)).heap.size:=by simp; omega
        refine ⟨⟨m + 1,v4,ao6,c6,gs++[g],rfl,by rw [List.length_append,hgl]; rfl,by omega,hide ((uh HKd4).agr (uh HAG _ _ (uh HK4) (uh HK7) (by simp; omega))),hide (fun i hi=>?_),hide (by rw [show (ptrs (gs++[g])).flatten = (ptrs gs).flatten++(ptrs [g]).flatten by simp [ptrs]]; exact uh HO7),HR7,HZ7,HD7,HK7⟩,?_⟩
        · rcases Nat.lt_or_ge i m with h9 | h9
          · have h8:=uh HTs i h9
            rw [show (gs++[g]).getD i 0 = gs.getD i 0 by rw [List.getD_eq_getElem?_getD,List.getD_eq_getElem?_getD,List.getElem?_append_left (by omega)]]
            exact ⟨h8.1.agr (uh HAG _ _ (uh HKw) (uh HK7) hz7),h8.2⟩
          · obtain rfl:i = m:=by omega
            rw [show (gs++[g]).getD i 0 = g by rw [List.getD_eq_getElem?_getD,List.getElem?_append_right (by omega),hgl,Nat.sub_self]; rfl]
            exact ⟨(uh HTm).agr (uh HAG _ _ (uh HKw) (uh HK7) hz7),hsg⟩
        · rw [wyM_at (uh HR7) hDl,wyM_at (uh HRw) hDl]; omega
end
section
open Go Go.RowKit Go.BigFrame
theorem ChL.st {P:Program} {Q:Exit→Act→World→Prop} {S:World→Prop} {F:Act→World→Prop} {cs:List Oper} {o:Oper} {a A:Act} {w:World} (ty:TypeId) (x y:Operand) (ho:o.op = .store ty x y) (g:Nat) (cells:Array Value) (hx:a.eval x = .pointer (some ⟨g,0,none⟩)) (hy:a.eval y = .agg cells)
    (t:TypeId) (old:Array Value) (hg:w.heap[g]? = some (.cells old t (0,0))) (hi:(P.info? ty).map (·.size) = some cells.size) (hold:old.size = cells.size) (h1:cells.all (·.oneCell') = true) (hS:S (w.setRow g cells)) (p:a.put o.dst undef = A) (h:ChL P Q S F cs A (w.setRow g cells)):ChL P Q S F (o :: cs) a w:=by
  unfold ChL
  rw [← p] at h
  exact wp_store_row ty x y ho g cells hx hy t old hg hi hold h1 ⟨hS,h⟩
theorem ln_wd {P:Program} {Q:Exit→Act→World→Prop} {id:Nat} {o0 o1 o2 o3 o4 o5 o6 o7 o8 o9 o10 o11 o12:Oper} {a:Act} {w:World} (hm:P.follows .mixedOrders = true) (hb:linB #[o0,o1,o2,o3,o4,o5,o6,o7,o8,o9,o10,o11,o12] [0,1,2,3,4,5,6,7,8,9] [10,11,12] [] = true) (hg:([o0,o1,o2,o3,o4,o5,o6,o7,o8,o9]++([o10,o11,o12]++[])).all (fun o=>o.guard.isNone) = true) (S:World→Prop) (hS:S w.drew)
    (h:LinY P S (ChL P Q S (Q .normal) [o10,o11,o12]) [o0,o1,o2,o3,o4,o5,o6,o7,o8,o9] a w.drew):(Code.region id #[o0,o1,o2,o3,o4,o5,o6,o7,o8,o9,o10,o11,o12] true).wp P Q a w:=xa1b (R:=[0,1,2,3,4,5,6,7,8,9]) (C:=[10,11,12]) (rs:=[o0,o1,o2,o3,o4,o5,o6,o7,o8,o9]) (cs:=[o10,o11,o12]) hm hb rfl rfl hg hS h
theorem ln_pt {P:Program} {Q:Exit→Act→World→Prop} {id:Nat} {o0 o1 o2 o3 o4 o5 o6 o7 o8 o9 o10 o11 o12 o13:Oper} {a:Act} {w:World} (hm:P.follows .mixedOrders = true) (hb:linB #[o0,o1,o2,o3,o4,o5,o6,o7,o8,o9,o10,o11,o12,o13] [0,1,2,3,4,5,6,7] [8,9,10,11,12,13] [] = true) (hg:([o0,o1,o2,o3,o4,o5,o6,o7]++([o8,o9,o10,o11,o12,o13]++[])).all (fun o=>o.guard.isNone) = true) (S:World→Prop) (hS:S w.drew)
    (h:LinY P S (ChL P Q S (Q .normal) [o8,o9,o10,o11,o12,o13]) [o0,o1,o2,o3,o4,o5,o6,o7] a w.drew):(Code.region id #[o0,o1,o2,o3,o4,o5,o6,o7,o8,o9,o10,o11,o12,o13] true).wp P Q a w:=xa1b (R:=[0,1,2,3,4,5,6,7]) (C:=[8,9,10,11,12,13]) (rs:=[o0,o1,o2,o3,o4,o5,o6,o7]) (cs:=[o8,o9,o10,o11,o12,o13]) hm hb rfl rfl hg hS h
theorem ln_dl {P:Program} {Q:Exit→Act→World→Prop} {id:Nat} {o0 o1 o2 o3 o4 o5 o6 o7 o8 o9 o10 o11 o12 o13 o14 o15 o16 o17:Oper} {a:Act} {w:World} (hm:P.follows .mixedOrders = true) (hb:linB #[o0,o1,o2,o3,o4,o5,o6,o7,o8,o9,o10,o11,o12,o13,o14,o15,o16,o17] [0,1,2,3,4,5,6,7,8,9,10] [11,12,13,14,15,16,17] [] = true) (hg:([o0,o1,o2,o3,o4,o5,o6,o7,o8,o9,o10]++([o11,o12,o13,o14,o15,o16,o17]++[])).all (fun o=>o.guard.isNone) = true) (S:World→Prop) (hS:S w.drew)
    (h:LinY P S (ChL P Q S (Q .normal) [o11,o12,o13,o14,o15,o16,o17]) [o0,o1,o2,o3,o4,o5,o6,o7,o8,o9,o10] a w.drew):(Code.region id #[o0,o1,o2,o3,o4,o5,o6,o7,o8,o9,o10,o11,o12,o13,o14,o15,o16,o17] true).wp P Q a w:=xa1b (R:=[0,1,2,3,4,5,6,7,8,9,10]) (C:=[11,12,13,14,15,16,17]) (rs:=[o0,o1,o2,o3,o4,o5,o6,o7,o8,o9,o10]) (cs:=[o11,o12,o13,o14,o15,o16,o17]) hm hb rfl rfl hg hS h
theorem ln_dn {P:Program} {Q:Exit→Act→World→Prop} {id:Nat} {o0 o1 o2 o3 o4 o5 o6 o7 o8 o9 o10 o11 o12 o13 o14 o15 o16:Oper} {a:Act} {w:World} (hm:P.follows .mixedOrders = true) (hb:linB #[o0,o1,o2,o3,o4,o5,o6,o7,o8,o9,o10,o11,o12,o13,o14,o15,o16] [0,1,2,3,4,5,6,7,8,9,10,11] [12,13,14,15,16] [] = true) (hg:([o0,o1,o2,o3,o4,o5,o6,o7,o8,o9,o10,o11]++([o12,o13,o14,o15,o16]++[])).all (fun o=>o.guard.isNone) = true) (S:World→Prop) (hS:S w.drew)
    (h:LinY P S (ChL P Q S (Q .normal) [o12,o13,o14,o15,o16]) [o0,o1,o2,o3,o4,o5,o6,o7,o8,o9,o10,o11] a w.drew):(Code.region id #[o0,o1,o2,o3,o4,o5,o6,o7,o8,o9,o10,o11,o12,o13,o14,o15,o16] true).wp P Q a w:=xa1b (R:=[0,1,2,3,4,5,6,7,8,9,10,11]) (C:=[12,13,14,15,16]) (rs:=[o0,o1,o2,o3,o4,o5,o6,o7,o8,o9,o10,o11]) (cs:=[o12,o13,o14,o15,o16]) hm hb rfl rfl hg hS h
theorem ln_gt {P:Program} {Q:Exit→Act→World→Prop} {id:Nat} {o0 o1 o2 o3 o4 o5 o6 o7 o8 o9 o10 o11 o12 o13:Oper} {a:Act} {w:World} (hm:P.follows .mixedOrders = true) (hb:linB #[o0,o1,o2,o3,o4,o5,o6,o7,o8,o9,o10,o11,o12,o13] [0,1,2,3,4,5,6,7,8,9] [10,11,12,13] [] = true) (hg:([o0,o1,o2,o3,o4,o5,o6,o7,o8,o9]++([o10,o11,o12,o13]++[])).all (fun o=>o.guard.isNone) = true) (S:World→Prop) (hS:S w.drew)
    (h:LinY P S (ChL P Q S (Q .normal) [o10,o11,o12,o13]) [o0,o1,o2,o3,o4,o5,o6,o7,o8,o9] a w.drew):(Code.region id #[o0,o1,o2,o3,o4,o5,o6,o7,o8,o9,o10,o11,o12,o13] true).wp P Q a w:=xa1b (R:=[0,1,2,3,4,5,6,7,8,9]) (C:=[10,11,12,13]) (rs:=[o0,o1,o2,o3,o4,o5,o6,o7,o8,o9]) (cs:=[o10,o11,o12,o13]) hm hb rfl rfl hg hS h
end
section
open Go.RowKit Go.BigFrame
def notPtr:Value→Bool
  | .pointer (some _)=>false
  | _=>true
theorem zwy_np:zwy.all notPtr = true:=by kernel_rfl
theorem RdC.off {W W':World} {cr:Value} {gs:List Nat} {g:Nat} {t:TypeId} (h:RdC 1 W cr (ptrs gs)) (hz:W.heap[g]? = some (.cells zwy t (0,0))) (k:Kept [g] W W'):RdC 1 W' cr (ptrs gs):=by
  obtain ⟨ao,n,c,rfl,h1,h2,h3,h4⟩:=h
  refine ⟨ao,n,c,rfl,h1,h2,h3,fun h0=>?_⟩
  obtain ⟨b,off,rfl,h5⟩:=h4 h0
  have hb:b≠g:=by
    intro e
    subst e
    have hl:0 < (ptrs gs).length:=by omega
    have h6:=h5 0 hl 0 (.pointer (some ⟨gs.getD 0 0,0,none⟩)) (by
      have:0 < gs.length:=by rw [ptrs,List.length_map] at hl; exact hl
      simp [ptrs,List.getD_eq_getElem?_getD,List.getElem?_eq_getElem this])
    rw [cell_of_row _ _ _ _ _ _ hz] at h6
    have h7:=Array.mem_of_getElem? h6
    have h8:=(Array.all_eq_true_iff_forall_mem.1 zwy_np) _ h7
    exact absurd h8 (by simp [notPtr])
  exact ⟨b,off,rfl,fun i hi=>k.rng (h5 i hi) (by simp; exact hb)⟩
theorem WayAt.put {S T:Nat→Prop} {k:Nat} {W W':World} {q:List Nat} {L:Prs} {m:Nat} {cr en:Value} {pl:Nat} {fd:Bool} (h:WayAt T k W q L m cr en pl fd) (hs:∀ x,T x→S x) (kk:Agr T W W') (hc:∀ gs,RdC 1 W cr (ptrs gs)→RdC 1 W' cr (ptrs gs)):WayAt S k W' q L m cr en pl fd:=by
  obtain ⟨⟨gs,h1,h2,h3⟩,h4,h5⟩:=h
  refine ⟨⟨gs,h1,hc gs h2,fun i hi=>⟨((h3 i hi).1.agr kk).mono hs,(h3 i hi).2⟩⟩,?_,h5⟩
  rcases h4 with h4 | ⟨h4,g,h6,h7,h8⟩
  · exact Or.inl h4
  · exact Or.inr ⟨h4,g,h6,(h7.agr kk).mono hs,h8⟩
theorem WayAt.cells {S:Nat→Prop} {k:Nat} {W:World} {q:List Nat} {L:Prs} {m:Nat} {cr en:Value} {pl:Nat} {fd:Bool} (h:WayAt S k W q L m cr en pl fd):cr.oneCell' = true∧en.oneCell' = true:=by
  obtain ⟨⟨gs,_,⟨_,_,_,rfl,_⟩,_⟩,h4,_⟩:=h
  rcases h4 with ⟨_,rfl,_⟩ | ⟨_,g,rfl,_⟩ <;> exact ⟨rfl,rfl⟩
set_option maxHeartbeats 2000000 in
theorem xa2j (S:Nat→Prop) (k:Nat) (mv kv:Value) (L:Prs) (q:List Nat) (w:World) (hM:MapAt S k w mv L) (hu:Rd w kv q) (hq:q.length≤64) (hT:Tabs w) :
    Calls Tryd.prog 21 #[mv,kv] w fun e w'=>∃ m cr en pl fd,e = .returned (.tuple #[.agg (wayC k ((hsZ k).kd q) cr en pl fd).toArray,.int .i64 0])∧WayAt S k w' q L m cr en pl fd∧Kept [] w w':=by
  obtain ⟨hk,hs,hfit,hlen,g,tv,rfl,hSg,hh,htop⟩:=hM
  have hH:=hsZ_ok hk
  have hkid:KidAt S (hsZ k) w 64 tv L:=htop
  have HT:=hide (hkid.shrink hH)
  obtain ⟨ua,un,uc,rfl,hul,_⟩:=id hu
  have hun:un≤64:=by omega
  have hu1:¬ (64:Int) < un:=by omega
  have hu2:¬ (un:Int) > 64:=by omega
  have c0:w.cell? ⟨g,0,none⟩ = some (.int .i64 k):=by rw [cell_of_row _ _ _ _ _ _ hh]; rfl
  have c2:w.cell? ⟨g,2,none⟩ = some tv:=by rw [cell_of_row _ _ _ _ _ _ hh]; rfl
  have HU:=hide hu
  have HTb:=hide hT
  have HSr:=hide hs
  have hk0:=(Kept.refl [] w).alloc (.cells zwy 67)
  have HK0:=hide hk0
  have c0a:∀ o,(w.alloc o).cell? ⟨g,0,none⟩ = some (.int .i64 k):=fun o=>((Kept.refl [] w).alloc o).cell c0 (by simp)
  have HC0:=hide c0
  have HC2:=hide c2
  have hE:sumE (k:Int) = 0:=by unfold sumE; rw [wide_k hk]; rfl
  have HE:=hide hE
  have hdl:(sumD (k:Int) (2 :: q)).length = 32:=xa0r _ _
  obtain ⟨D,hD⟩:∃ D,sumD (k:Int) (2 :: q) = D:=⟨_,rfl⟩
  have HD:=hide hD
  rw [hD] at hdl
  have HKD:=hide (show (hsZ k).kd q = D from hD)
  clear hkid htop hh hT hs hk0 hul hD hE c2
  go_enter Tryd.func21,Tryd.ntmps21
  go_wp2_with fail
  rw [xa2g]
  refine Calls.mono (xb0y k _ q _ (by omega) ((uh HU).old (uh HK0) (by simp)) (by omega) ((uh HTb).k (uh HK0))) ?_
  rintro e w1 ⟨rfl,k1⟩
  rw [uh HD,uh HE]
  have HZ1:=hide (k1.heap (heap_alloc_new w (.cells zwy 67)) (by simp))
  have HK1:=hide ((uh HK0).trans k1 (by simp))
  have hz1:=lt_of_block (uh HZ1)
  clear k1 c0 c0a
  have HN1:=hide (heap_alloc_new w1 (.cells (zb 32) 36))
  have HZ2:=hide (((Kept.refl [w1.heap.size] w1).alloc (.cells (zb 32) 36)).setRow (g:=w1.heap.size) (Or.inl (by simp)) (brow D) |>.heap (uh HZ1) (by simp; omega))
  have HN2:=hide (setRow_heap _ _ _ (brow D) _ _ (uh HN1))
  have HK2:=hide ((uh HK1).alloc (.cells (zb 32) 36) |>.setRow (g:=w1.heap.size) (Or.inr (uh HK1).size) (brow D))
  go_upto_region 8 with (rw [zb32]; refine wpList_store_row rfl 36 _ _ rfl w1.heap.size (brow D) rfl rfl _ (zb 32) (uh HN1) (by rw [xa0b,hdl]; exact Tryd.size_dig) (by rw [xa0g,xa0b,hdl]) (xa0f _) ?_)
  try simp only [Act.put]
  generalize (w1.alloc (.cells (zb 32) 36)).setRow w1.heap.size (brow D) = W2 at HZ2 HN2 HK2 ⊢
  have hgne:g≠w.heap.size:=by have:=block_lt_of_cell (uh HC0); simp at this; omega
  have HRD:=hide (xa0m [] (D.map u8) [] (by rw [List.nil_append,List.append_nil]; exact uh HN2) rfl)
  have HV0:=hide ((uh HK2).cell (uh HC0) (by simp))
  have HV2:=hide ((uh HK2).cell (uh HC2) (by simp))
  refine ln_wd (by kernel_rfl) (by kernel_rfl) rfl (fun W=>Kept [w.heap.size] W2 W) (Kept.refl _ W2).drew ?_
  refine LinY.mv (x:=.tmp 0) rfl (.pointer (some ⟨g,0,none⟩)) rfl (by simp only [Act.put,sa1,sa2,sa3]; rfl) ?_
  refine LinY.rd (.pointer (some ⟨g,0,none⟩)) (fun W hW=>by go_simp) (by simp only [Act.put,sa1,sa2,sa3]; rfl) ?_
  refine LinY.rd (.pointer (some ⟨g,0,none⟩)) (fun W hW=>by go_simp) (by simp only [Act.put,sa1,sa2,sa3]; rfl) ?_
  refine LinY.rd (.int .i64 k) (fun W hW=>by have h9:=hW.cell (uh HV0) (by simp; exact hgne); go_simp) (by simp only [Act.put,sa1,sa2,sa3]; rfl) ?_
  refine LinY.mv (x:=.tmp 0) rfl (.pointer (some ⟨g,0,none⟩)) rfl (by simp only [Act.put,sa1,sa2,sa3]; rfl) ?_
  refine LinY.rd (.pointer (some ⟨g,0,none⟩)) (fun W hW=>by go_simp) (by simp only [Act.put,sa1,sa2,sa3]; rfl) ?_
  refine LinY.rd (.pointer (some ⟨g,2,none⟩)) (fun W hW=>by go_simp) (by simp only [Act.put,sa1,sa2,sa3]; rfl) ?_
  refine LinY.rd (tv) (fun W hW=>by have h9:=hW.cell (uh HV2) (by simp; exact hgne); go_simp) (by simp only [Act.put,sa1,sa2,sa3]; rfl) ?_
  refine LinY.ld 36 (.tmp 6) rfl w1.heap.size 0 rfl (D.map u8) _ (fun W hW=>hW.rng (uh HRD) (by simp; omega)) Tryd.underlying36 rfl (by rw [List.length_map,hdl]; exact Tryd.size_dig) (by simp only [Act.put,sa1,sa2,sa3]; rfl) ?_
  refine LinY.mv (x:=.tmp 1) rfl (.slice ua un uc) rfl (by simp only [Act.put,sa1,sa2,sa3]; rfl) ?_
  have hd2:=(Kept.refl [] W2).drew
  have hkd2:=(uh HK2).trans hd2 (by simp)
  have hwo:=xb1s (lowS S w) k tv L (.slice ua un uc) q W2.drew hk ((uh HT).agr (Agr.nil hkd2)) (uh HSr) ((uh HU).old hkd2 (by simp)) hlen
  rw [uh HKD] at hwo
  refine ChL.call rfl Tryd.call30 [.int .i64 k,tv,.agg (brow D),.slice ua un uc] rfl hwo ?_
  rintro e w3 ⟨m,cr,en,pl,fd,rfl,hway,k3⟩
  have hk3:=hd2.trans k3 (by simp)
  refine ⟨_,rfl,hk3.mono (by simp),?_⟩
  simp only [Act.put,sa1,sa2,sa3]
  have hz3:=hk3.heap (uh HZ2) (by simp)
  have hcl:=hway.cells
  have hws:((wayC k D cr en pl fd).toArray).size = 37:=by rw [List.size_toArray,xa0q hdl]
  have hkf:=(Kept.refl [w.heap.size] w3).setRow (g:=w.heap.size) (Or.inl (by simp)) (wayC k D cr en pl fd).toArray
  have hks:=((uh HK2).trans hk3 (by simp)).setRow (g:=w.heap.size) (Or.inr (Nat.le_refl _)) (wayC k D cr en pl fd).toArray
  have hwf:=hway.put (S:=S) (xa9r S w) (Agr.kept hkf (by intro x hx hlo; rw [List.mem_singleton] at hx; have:=hlo.2; omega)) (fun gs h=>h.off hz3 hkf)
  have hrf:=setRow_heap _ _ _ (wayC k D cr en pl fd).toArray _ _ hz3
  have hk3f:=(hk3.mono (M:=[w.heap.size]) (by simp)).trans hkf (by simp)
  refine ChL.st 67 (.tmp 4) (.tmp 40) rfl w.heap.size (wayC k D cr en pl fd).toArray rfl rfl _ zwy hz3 (by rw [hws]; exact Tryd.size_way) (by rw [hws]; rfl) (xa1e _ _ hcl.1 hcl.2) hk3f (by simp only [Act.put]; rfl) ?_
  refine ChL.op (.int .i64 0) (by go_simp) hk3f (by simp only [Act.put,sa1,sa2,sa3]; rfl) (ChL.fin ?_)
  go_wp2
  refine bodyPost_ret (v:=.tuple #[.agg (wayC k D cr en pl fd).toArray,.int .i64 0]) ?_ rfl ⟨m,cr,en,pl,fd,by rw [uh HKD],hwf,hks⟩
  exact xa0e rfl _ _ w.heap.size _ (wayC k D cr en pl fd).toArray (0,0) _ rfl hrf Tryd.underlying67 rfl (by rw [hws]; exact Tryd.size_way) _ rfl
abbrev VP:=Value × Value
def PR (S:Nat→Prop) (W:World) (l:List VP) (L:Prs):Prop:=l.length = L.length∧∀ i,i < l.length→Sty S W (fun w=>Rd w (l.getD i (undef,undef)).1 (L.getD i ([],[])).1∧Rd w (l.getD i (undef,undef)).2 (L.getD i ([],[])).2)
theorem PR.agr {S:Nat→Prop} {W W':World} {l:List VP} {L:Prs} (h:PR S W l L) (a:Agr S W W'):PR S W' l L:=⟨h.1,fun i hi=>(h.2 i hi).agr a⟩
theorem PR.nil (S:Nat→Prop) (W:World):PR S W [] []:=⟨rfl,fun i h=>by simp at h⟩
theorem PR.one {S:Nat→Prop} {W:World} {x y:Value} {a b:List Nat} (hx:Sty S W (fun w=>Rd w x a)) (hy:Sty S W (fun w=>Rd w y b)):PR S W [(x,y)] [(a,b)]:=⟨rfl,fun i hi=>by
  have:i = 0:=by simp at hi; omega
  subst this; exact fun w k=>⟨hx w k,hy w k⟩⟩
theorem PR.app {S:Nat→Prop} {W:World} {a b:List VP} {A B:Prs} (h:PR S W a A) (k:PR S W b B):PR S W (a++b) (A++B):=by
  refine ⟨by rw [List.length_append,List.length_append,h.1,k.1],fun i hi=>?_⟩
  rw [List.length_append] at hi
  by_cases hlt:i < a.length
  · have h1:=h.2 i hlt
    simp only [List.getD_eq_getElem?_getD,List.getElem?_append_left hlt,List.getElem?_append_left (show i < A.length by rw [← h.1]; exact hlt)] at h1 ⊢
    exact h1
  · have h1:=k.2 (i - a.length) (by omega)
    have e1:(a++b)[i]? = b[i - a.length]?:=List.getElem?_append_right (by omega)
    have e2:(A++B)[i]? = B[i - a.length]?:=by rw [List.getElem?_append_right (by rw [← h.1]; omega),← h.1]
    simp only [List.getD_eq_getElem?_getD,e1,e2] at h1 ⊢
    exact h1
theorem PR.tk {S:Nat→Prop} {W:World} {a:List VP} {A:Prs} (h:PR S W a A) (m:Nat):PR S W (a.take m) (A.take m):=by
  refine ⟨by rw [List.length_take,List.length_take,h.1],fun i hi=>?_⟩
  rw [List.length_take] at hi
  have h1:=h.2 i (by omega)
  simp only [List.getD_eq_getElem?_getD,List.getElem?_take_of_lt (show i < m by omega)] at h1 ⊢
  exact h1
theorem PR.dp {S:Nat→Prop} {W:World} {a:List VP} {A:Prs} (h:PR S W a A) (m:Nat):PR S W (a.drop m) (A.drop m):=by
  refine ⟨by rw [List.length_drop,List.length_drop,h.1],fun i hi=>?_⟩
  rw [List.length_drop] at hi
  have h1:=h.2 (m + i) (by omega)
  simp only [List.getD_eq_getElem?_getD,List.getElem?_drop] at h1 ⊢
  exact h1
def kvR (l:List VP):List (List Value):=l.map fun p=>[p.1,p.2]
theorem xa0j (l:List VP):(kvR l).length = l.length:=by simp [kvR]
theorem kvR_at (l:List VP) (i:Nat) (hi:i < l.length):(kvR l)[i]'(by rw [xa0j]; exact hi) = [l[i].1,l[i].2]:=by simp [kvR]
theorem xb1g (a b:List VP):kvR (a++b) = kvR a++kvR b:=by simp [kvR]
theorem PR.cell {S:Nat→Prop} {W:World} {l:List VP} {L:Prs} (h:PR S W l L):(∀ r∈kvR l,r.length = 2)∧∀ r∈kvR l,∀ u∈r,u.oneCell' = true:=by
  constructor
  · intro r hr; obtain ⟨p,_,rfl⟩:=List.mem_map.1 hr; rfl
  · intro r hr u hu
    obtain ⟨p,hp,rfl⟩:=List.mem_map.1 hr
    obtain ⟨i,hi,rfl⟩:=List.getElem_of_mem hp
    have h1:=(h.2 i hi).now
    simp only [List.getD_eq_getElem?_getD,List.getElem?_eq_getElem hi,Option.getD_some] at h1
    obtain ⟨⟨a1,n1,c1,e1,_⟩,⟨a2,n2,c2,e2,_⟩⟩:=h1
    rw [e1,e2] at hu
    simp only [List.mem_cons,List.not_mem_nil,or_false] at hu
    rcases hu with rfl | rfl <;> rfl
theorem KRow.pr {S:Nat→Prop} {W:World} {pv:Value} {L:Prs} (h:KRow S W pv L):∃ b off cap l,pv = .slice (some ⟨b,off,none⟩) l.length cap∧PR S W l L∧RdC 2 W pv (kvR l)∧l.length≤cap∧cap≤9223372036854775807:=by
  obtain ⟨b,off,cap,l,rfl,h2,h3,h4,h5,h6,h7⟩:=h
  refine ⟨b,off,cap,l,rfl,⟨h5,h7⟩,⟨_,_,_,rfl,xa0j l,h2,h3,fun _=>⟨b,off,rfl,fun i hi j u hu=>?_⟩⟩,h2,h3⟩
  rw [xa0j] at hi
  have h8:=h6 i hi
  simp only [List.getD_eq_getElem?_getD,List.getElem?_eq_getElem hi,Option.getD_some] at h8
  have e:(kvR l)[i]'(by rw [xa0j]; exact hi) = [l[i].1,l[i].2]:=by simp [kvR]
  rw [e] at hu
  match j,hu with
  | 0,hu=>rw [Nat.add_zero,h8.1]; exact hu
  | 1,hu=>rw [h8.2]; exact hu
theorem xb1b {S:Nat→Prop} {w:World} {v:Value} {B:Nat} {a b c:List VP} {L:Prs} (h:OwC 50 2 B w v [kvR a,kvR b,kvR c]) (hp:PR S w (a++(b++c)) L) (hn:L≠[]) (hl:(a++(b++c)).length≤1000000000000) (hS:∀ y,B≤y→S y):KRow S w v L:=by
  unfold OwC at h
  have e1:[kvR a,kvR b,kvR c].flatten = kvR (a++(b++c)):=by simp [xb1g]
  rw [e1,xa0j] at h
  have hr:=xa6q (by rw [xa0j]; exact h) hp.cell.1
  have h0:0 < (a++(b++c)).length:=by rw [hp.1]; cases L with
    | nil=>exact absurd rfl hn
    | cons _ _=>simp
  rcases h.2 with ⟨_,h9⟩ | ⟨g,cap,cur,rfl,hg,hh,hc,hm,_⟩
  · omega
  · refine ⟨g,0,cap,a++(b++c),rfl,hc,by unfold maxLen at hm; omega,hS g hg,hp.1,fun i hi=>?_,hp.2⟩
    obtain ⟨_,_,_,e9,_,_,_,hcell⟩:=hr
    cases e9
    obtain ⟨b',off',e8,hce⟩:=hcell h0
    cases e8
    have h7:=hce i (by rw [xa0j]; exact hi)
    have e:(kvR (a++(b++c)))[i]'(by rw [xa0j]; exact hi) = [(a++(b++c))[i].1,(a++(b++c))[i].2]:=kvR_at _ i hi
    rw [e] at h7
    simp only [List.getD_eq_getElem?_getD,List.getElem?_eq_getElem hi,Option.getD_some]
    exact ⟨h7 0 _ rfl,h7 1 _ rfl⟩
set_option maxHeartbeats 2000000 in
theorem xa5s (S:Nat→Prop) (k:Nat) (D:List Nat) (cr:Value) (g pl:Nat) (fd:Bool) (E:Prs) (iv:Value) (its:List VP) (IL:Prs) (w:World) (hD:D.length = 32) (hb:BkAt S (hsZ k) w g E) (hpl:pl + (if fd = true then 1 else 0)≤E.length) (hl:E.length≤1000000000) (hi:RdC 2 w iv (kvR its)) (hpi:PR S w its IL) (hil:its.length≤1) (hn:E.take pl++(IL++E.drop (pl + if fd = true then 1 else 0))≠[]) (hS:∀ y,w.heap.size≤y→S y) :
    Calls Tryd.prog 37 #[.agg (wayC k D cr (.pointer (some ⟨g,0,none⟩)) pl fd).toArray,iv] w fun e w'=>∃ ao n c,e = .returned (.slice ao n c)∧KRow S w' (.slice ao n c) (E.take pl++(IL++E.drop (pl + if fd = true then 1 else 0)))∧Kept [] w w':=by
  obtain ⟨pv,hSg,hh,hne,hkr⟩:=hb
  have hkd:((hsZ k).kd (E.headD ([],[])).1).length = 32:=xa0r _ _
  have c1:=(bk_row hh hkd).2.1
  obtain ⟨b,off,cap,l,rfl,hpr,hrd,hc1,hc2⟩:=hkr.pr
  have HK0:=hide ((Kept.refl [] w).alloc (.cells (wayC k D cr (.pointer (some ⟨g,0,none⟩)) pl fd).toArray 67))
  have HG0:=hide (heap_alloc_new w (.cells (wayC k D cr (.pointer (some ⟨g,0,none⟩)) pl fd).toArray 67))
  obtain ⟨cw0,cw1,cw2,cw3,cw4,cw5⟩:=xa0k (uh HG0) hD
  have HC1:=hide ((uh HK0).cell c1 (by simp))
  have HW3:=hide cw3
  have HW4:=hide cw4
  have HPR:=hide hpr
  have HRD:=hide hrd
  have HI:=hide hi
  have HPI:=hide hpi
  have hll:=hpr.1
  obtain ⟨n,hnn⟩:∃ n,l.length = n:=⟨_,rfl⟩
  rw [hnn] at hrd HRD hc1 hll HC1 c1
  have HN:=hide hnn
  have HLL:=hide hll
  rw [← hll] at hpl hl
  have hcell:=hpr.cell
  have hcelli:=hpi.cell
  clear cw0 cw1 cw2 cw3 hpr hrd hkr hh hi hpi hnn hll c1
  obtain ⟨ai,ni,ci,rfl,hi1,_⟩:=id (uh HI)
  rw [xa0j] at hi1
  subst hi1
  obtain ⟨tz,hto⟩:∃ t,pl + (if fd = true then 1 else 0) = t:=⟨_,rfl⟩
  rw [hto] at hpl hn ⊢
  have HTo:=hide hto
  go_enter Tryd.func37,Tryd.ntmps37
  have key:∃ t5:Value,t5 = .int .i64 (tz:Int):=⟨_,rfl⟩
  cases fd with
  | true =>
    have e1:(pl:Int) + 1 = (tz:Int):=by have:=uh HTo; simp at this; omega
    have e2:IntKind.i64.wrap ((pl:Int) + 1) = (tz:Int):=by rw [e1]; simp [IntKind.wrap,IntKind.signed,IntKind.bits]; omega
    go_upto_region 4 with fail
    refine ln_ar (by kernel_rfl) (by kernel_rfl) rfl (fun W=>Kept [] (w.alloc (.cells (wayC k D cr (.pointer (some ⟨g,0,none⟩)) pl true).toArray 67)) W) (Kept.refl [] _).drew ?_
    refine LinY.rd (.pointer (some ⟨w.heap.size,34,none⟩)) (fun W hW=>by go_simp) (by simp only [Act.put,sa1,sa2,sa3]; rfl) ?_
    refine LinY.rd (.pointer (some ⟨g,0,none⟩)) (fun W hW=>by have h9:=hW.cell (uh HW3) (by simp); go_simp) (by simp only [Act.put,sa1,sa2,sa3]; rfl) ?_
    refine LinY.rd (.pointer (some ⟨g,0,none⟩)) (fun W hW=>by go_simp) (by simp only [Act.put,sa1,sa2,sa3]; rfl) ?_
    refine LinY.rd (.pointer (some ⟨g,32,none⟩)) (fun W hW=>by go_simp) (by simp only [Act.put,sa1,sa2,sa3]; rfl) ?_
    refine LinY.rd (.slice (some ⟨b,off,none⟩) n cap) (fun W hW=>by have h9:=hW.cell (uh HC1) (by simp); go_simp) (by simp only [Act.put,sa1,sa2,sa3]; rfl) ?_
    refine LinY.rd (.pointer (some ⟨w.heap.size,35,none⟩)) (fun W hW=>by go_simp) (by simp only [Act.put,sa1,sa2,sa3]; rfl) ?_
    refine LinY.rd (.int .i64 pl) (fun W hW=>by have h9:=hW.cell (uh HW4) (by simp); go_simp) (by simp only [Act.put,sa1,sa2,sa3]; rfl) ?_
    refine LinY.mv (x:=.tmp 5) rfl (.int .i64 tz) rfl (by simp only [Act.put,sa1,sa2,sa3]; rfl) ?_
    refine LinY.mv (x:=.tmp 1) rfl (.slice ai its.length ci) rfl (by simp only [Act.put,sa1,sa2,sa3]; rfl) ?_
    refine ChL.call rfl Tryd.call57 [.slice (some ⟨b,off,none⟩) n cap,.int .i64 pl,.int .i64 tz,.slice ai its.length ci] rfl (xa3q b off n cap pl tz _ (kvR l) (kvR its) _ ((uh HRD).old (((uh HK0)).drew)) ((uh HI).old ((uh HK0).drew)) (by omega) (by omega) (by omega) (by rw [xa0j]; omega) hcell.1 hcell.2 hcelli.1 hcelli.2) ?_
    rintro e w2 ⟨v',rfl,ho,k2⟩
    have hkw:=((Kept.refl [] (w.alloc (.cells (wayC k D cr (.pointer (some ⟨g,0,none⟩)) pl true).toArray 67))).drew).trans k2 (by simp)
    have hk2:=(uh HK0).trans hkw (by simp)
    refine ⟨v',rfl,hkw,?_⟩
    simp only [Act.put,sa1,sa2,sa3]
    have hkv:[(kvR l).take pl,kvR its,(kvR l).drop tz] = [kvR (l.take pl),kvR its,kvR (l.drop tz)]:=by simp [kvR,List.map_take,List.map_drop]
    rw [hkv] at ho
    have hpf:=(((uh HPR).tk pl).app ((uh HPI).app ((uh HPR).dp tz))).agr (Agr.nil hk2)
    have hfin:=xb1b ho hpf hn (by have:=uh HN; simp; omega) (fun y hy=>hS y (by have:=(uh HK0).size; simp at hy; omega))
    obtain ⟨ao,n9,c9,e9⟩:∃ ao n c,v' = .slice ao n c:=by
      obtain ⟨b9,o9,c9,l9,e9,_⟩:=id hfin
      exact ⟨_,_,_,e9⟩
    subst e9
    refine ChL.op (.slice ao n9 c9) (by go_simp) hkw (by simp only [Act.put,sa1,sa2,sa3]; rfl) (ChL.fin ?_)
    go_wp2
    go_ret
    exact ⟨_,_,_,rfl,hfin,hk2⟩
  | false =>
    have e1:pl = tz:=by have:=uh HTo; simpa using this
    subst e1
    go_upto_region 4 with fail
    refine ln_ar (by kernel_rfl) (by kernel_rfl) rfl (fun W=>Kept [] (w.alloc (.cells (wayC k D cr (.pointer (some ⟨g,0,none⟩)) pl false).toArray 67)) W) (Kept.refl [] _).drew ?_
    refine LinY.rd (.pointer (some ⟨w.heap.size,34,none⟩)) (fun W hW=>by go_simp) (by simp only [Act.put,sa1,sa2,sa3]; rfl) ?_
    refine LinY.rd (.pointer (some ⟨g,0,none⟩)) (fun W hW=>by have h9:=hW.cell (uh HW3) (by simp); go_simp) (by simp only [Act.put,sa1,sa2,sa3]; rfl) ?_
    refine LinY.rd (.pointer (some ⟨g,0,none⟩)) (fun W hW=>by go_simp) (by simp only [Act.put,sa1,sa2,sa3]; rfl) ?_
    refine LinY.rd (.pointer (some ⟨g,32,none⟩)) (fun W hW=>by go_simp) (by simp only [Act.put,sa1,sa2,sa3]; rfl) ?_
    refine LinY.rd (.slice (some ⟨b,off,none⟩) n cap) (fun W hW=>by have h9:=hW.cell (uh HC1) (by simp); go_simp) (by simp only [Act.put,sa1,sa2,sa3]; rfl) ?_
    refine LinY.rd (.pointer (some ⟨w.heap.size,35,none⟩)) (fun W hW=>by go_simp) (by simp only [Act.put,sa1,sa2,sa3]; rfl) ?_
    refine LinY.rd (.int .i64 pl) (fun W hW=>by have h9:=hW.cell (uh HW4) (by simp); go_simp) (by simp only [Act.put,sa1,sa2,sa3]; rfl) ?_
    refine LinY.mv (x:=.tmp 5) rfl (.int .i64 pl) rfl (by simp only [Act.put,sa1,sa2,sa3]; rfl) ?_
    refine LinY.mv (x:=.tmp 1) rfl (.slice ai its.length ci) rfl (by simp only [Act.put,sa1,sa2,sa3]; rfl) ?_
    refine ChL.call rfl Tryd.call57 [.slice (some ⟨b,off,none⟩) n cap,.int .i64 pl,.int .i64 pl,.slice ai its.length ci] rfl (xa3q b off n cap pl pl _ (kvR l) (kvR its) _ ((uh HRD).old (((uh HK0)).drew)) ((uh HI).old ((uh HK0).drew)) (by omega) (by omega) (by omega) (by rw [xa0j]; omega) hcell.1 hcell.2 hcelli.1 hcelli.2) ?_
    rintro e w2 ⟨v',rfl,ho,k2⟩
    have hkw:=((Kept.refl [] (w.alloc (.cells (wayC k D cr (.pointer (some ⟨g,0,none⟩)) pl false).toArray 67))).drew).trans k2 (by simp)
    have hk2:=(uh HK0).trans hkw (by simp)
    refine ⟨v',rfl,hkw,?_⟩
    simp only [Act.put,sa1,sa2,sa3]
    have hkv:[(kvR l).take pl,kvR its,(kvR l).drop pl] = [kvR (l.take pl),kvR its,kvR (l.drop pl)]:=by simp [kvR,List.map_take,List.map_drop]
    rw [hkv] at ho
    have hpf:=(((uh HPR).tk pl).app ((uh HPI).app ((uh HPR).dp pl))).agr (Agr.nil hk2)
    have hfin:=xb1b ho hpf hn (by have:=uh HN; simp; omega) (fun y hy=>hS y (by have:=(uh HK0).size; simp at hy; omega))
    obtain ⟨ao,n9,c9,e9⟩:∃ ao n c,v' = .slice ao n c:=by
      obtain ⟨b9,o9,c9,l9,e9,_⟩:=id hfin
      exact ⟨_,_,_,e9⟩
    subst e9
    refine ChL.op (.slice ao n9 c9) (by go_simp) hkw (by simp only [Act.put,sa1,sa2,sa3]; rfl) (ChL.fin ?_)
    go_wp2
    go_ret
    exact ⟨_,_,_,rfl,hfin,hk2⟩
theorem xb5f {W:World} {cr:Value} {gs:List Nat} (h:RdC 1 W cr (ptrs gs)):∃ ao c b off,cr = .slice ao gs.length c∧gs.length≤c∧c≤9223372036854775807∧(0 < gs.length→ao = some ⟨b,off,none⟩)∧∀ i,i < gs.length→W.cell? ⟨b,off + i,none⟩ = some (.pointer (some ⟨gs.getD i 0,0,none⟩)):=by
  obtain ⟨ao,n,c,rfl,h1,h2,h3,h4⟩:=h
  have hl:gs.length = n:=by rw [← h1,ptrs,List.length_map]
  subst hl
  rcases Nat.eq_zero_or_pos gs.length with h0 | h0
  · exact ⟨ao,c,0,0,rfl,h2,h3,fun h=>by omega,fun i hi=>by omega⟩
  · obtain ⟨b,off,rfl,h5⟩:=h4 h0
    refine ⟨_,c,b,off,rfl,h2,h3,fun _=>rfl,fun i hi=>?_⟩
    have h6:=h5 i (by rw [h1]; exact hi) 0 (.pointer (some ⟨gs.getD i 0,0,none⟩)) (by simp [ptrs,List.getD_eq_getElem?_getD,List.getElem?_eq_getElem hi])
    rw [Nat.mul_one,Nat.add_zero] at h6
    exact h6
set_option maxHeartbeats 2000000 in
theorem xa6w (S:Nat→Prop) (k m:Nat) (q:List Nat) (L:Prs) (X:Nat→Prs) (cr en:Value) (pl:Nat) (fd:Bool) (nv:Value) (w:World) (hk:1≤k∧k≤32) (hS:∀ y,w.heap.size≤y→S y) (hW:WayAt S k w q L m cr en pl fd)
    (hX:∀ i,i < m→ch (hsZ k) i (dgt ((hsZ k).kd q) i) (X i) = X (i + 1)∧(∀ j,j < 16→j≠dgt ((hsZ k).kd q) i→ch (hsZ k) i j (X i) = ch (hsZ k) i j (dnL (hsZ k) q L i))∧X i≠[]) (hn:KidAt S (hsZ k) w (64 - m) nv (X m)) (hT:Tabs w) :
    Calls Tryd.prog 25 #[.agg (wayC k ((hsZ k).kd q) cr en pl fd).toArray,nv] w fun e w'=>∃ v,e = .returned v∧KidAt S (hsZ k) w' 64 v (X 0)∧Kept [] w w':=by
  obtain ⟨gs,hgl,hrd,htr⟩:=hW.cr
  have hdeep:=hW.deep
  clear hW
  obtain ⟨ao,c,b,off,rfl,hc1,hc2,hao,hcell⟩:=xb5f hrd
  rw [hgl] at hc1 hao hcell ⊢
  have hDg:=(hsZ_ok hk).dg q
  have hfm:=xa4e hk q
  have HX:=hide hX
  have HTR:=hide htr
  have HC:=hide hcell
  have HTb:=hide hT
  have HAO:=hide hao
  obtain ⟨D,hD⟩:∃ D,(hsZ k).kd q = D:=⟨_,rfl⟩
  rw [hD] at hDg hfm HX ⊢
  have hdl:=hDg.1
  have HK0:=hide ((Kept.refl [] w).alloc (.cells (wayC k D (.slice ao m c) en pl fd).toArray 67))
  have HG0:=hide (heap_alloc_new w (.cells (wayC k D (.slice ao m c) en pl fd).toArray 67))
  obtain ⟨cw0,cw1,cw2,cw3,cw4,cw5⟩:=xa0k (uh HG0) hdl
  have HW0:=hide cw0
  have HW1:=hide cw1
  have HW2:=hide cw2
  have HN:=hide (hn.agr (Agr.nil (uh HK0)))
  have hwm:IntKind.i64.wrap ((m:Int) - 1) = (m:Int) - 1:=by simp [IntKind.wrap,IntKind.signed,IntKind.bits]; omega
  clear hX htr hcell hT hrd hao cw0 cw1 cw3 cw4 cw5 hn hD
  go_enter Tryd.func25,Tryd.ntmps25
  go_wp2_with fail
  have HKa:=hide (Kept.refl [] (w.alloc (.cells (wayC k D (.slice ao m c) en pl fd).toArray 67)))
  have hWs:(w.alloc (.cells (wayC k D (.slice ao m c) en pl fd).toArray 67)).heap.size = w.heap.size + 1:=by simp
  generalize hWa:w.alloc (.cells (wayC k D (.slice ao m c) en pl fd).toArray 67) = Wa at HK0 HG0 HW0 HW1 HW2 HN HKa cw2 hWs ⊢
  clear hWa cw2
  go_loopw [1,5] (fun t1 t5 wr=>∃ (d:Nat) (v:Value),t1 = v∧t5 = .int .i64 ((d:Int) - 1)∧d≤m∧Hid (KidAt S (hsZ k) wr (64 - d) v (X d))∧Hid (Kept [] Wa wr)) (fun _ t _=>(intOf t + 1).toNat)
  case atStart=>exact ⟨m,nv,rfl,by go_num,Nat.le_refl _,HN,HKa⟩
  case round =>
    obtain ⟨d,v,rfl,rfl,hdm,HKd,HKw⟩:=hrel
    cases d with
    | zero =>
      have hm1:¬ (0:Int)≤((0:Nat):Int) - 1:=by omega
      go_wp2_with fail
      go_ret
      exact ⟨_,rfl,uh HKd,(uh HK0).trans (uh HKw) (by simp)⟩
    | succ d =>
      have hki:((d + 1:Nat):Int) - 1 = (d:Int):=by omega
      have h0d:(0:Int)≤(d:Int):=by omega
      rw [hki]
      have hd1:(d:Int) < m:=by omega
      have hdm':d < m:=by omega
      obtain ⟨X1,X2,X3⟩:=uh HX d hdm'
      have hx16:=dgt_lt hDg.2 d
      have haod:=uh HAO (by omega)
      have hcc:=uh HC d hdm'
      obtain ⟨ht1,ht2⟩:=uh HTR d hdm'
      obtain ⟨f,hf⟩:∃ f,64 - d = f + 1:=⟨63 - d,by omega⟩
      have hff:63 - f = d:=by omega
      have hf2:64 - (d + 1) = f:=by omega
      rw [hf] at ht1
      generalize gs.getD d 0 = g at hcc ht1
      have HX1:=hide X1
      have HX2:=hide X2
      have HTD:=hide ht1
      have HTS:=hide ht2
      have hk0w:=(uh HK0).trans (uh HKw) (by simp)
      have hcw:=hk0w.cell hcc (by simp)
      have HCW:=hide hcw
      have HKW:=hide hk0w
      have HV0:=hide ((uh HKw).cell (uh HW0) (by simp))
      have HV1:=hide ((uh HKw).rng (uh HW1) (by simp))
      have HV2:=hide ((uh HKw).cell (uh HW2) (by simp))
      rw [hf2] at HKd
      subst haod
      clear X1 X2 ht1 ht2 hcc hcw hk0w HC HAO HTR
      go_upto_region 4 with fail
      refine ln_li (by kernel_rfl) (by kernel_rfl) rfl (fun W=>Kept [] wr W) (Kept.refl [] _).drew ?_
      refine LinY.rd (.pointer (some ⟨w.heap.size,33,none⟩)) (fun W hW=>by go_simp) (by simp only [Act.put,sa1,sa2,sa3]; rfl) ?_
      refine LinY.rd (.slice (some ⟨b,off,none⟩) m c) (fun W hW=>by have h9:=hW.cell (uh HV2) (by simp); go_simp) (by simp only [Act.put,sa1,sa2,sa3]; rfl) ?_
      refine LinY.mv (x:=.tmp 5) rfl (.int .i64 d) rfl (by simp only [Act.put,sa1,sa2,sa3]; rfl) ?_
      refine LinY.rd (.pointer (some ⟨b,off + d,none⟩)) (fun W hW=>by go_simp) (by simp only [Act.put,sa1,sa2,sa3]; rfl) ?_
      refine LinY.rd (.pointer (some ⟨g,0,none⟩)) (fun W hW=>by have h9:=hW.cell (uh HCW) (by simp); go_simp) (by simp only [Act.put,sa1,sa2,sa3]; rfl) ?_
      refine LinY.rd (.pointer (some ⟨w.heap.size,0,none⟩)) (fun W hW=>by go_simp) (by simp only [Act.put,sa1,sa2,sa3]; rfl) ?_
      refine LinY.rd (.int .i64 k) (fun W hW=>by have h9:=hW.cell (uh HV0) (by simp); go_simp) (by simp only [Act.put,sa1,sa2,sa3]; rfl) ?_
      refine LinY.rd (.pointer (some ⟨w.heap.size,0,none⟩)) (fun W hW=>by go_simp) (by simp only [Act.put,sa1,sa2,sa3]; rfl) ?_
      refine LinY.rd (.int .i64 k) (fun W hW=>by have h9:=hW.cell (uh HV0) (by simp); go_simp) (by simp only [Act.put,sa1,sa2,sa3]; rfl) ?_
      refine LinY.rd (.pointer (some ⟨w.heap.size,1,none⟩)) (fun W hW=>by go_simp) (by simp only [Act.put,sa1,sa2,sa3]; rfl) ?_
      refine LinY.ld 36 (.tmp 23) rfl w.heap.size 1 rfl (D.map u8) _ (fun W hW=>hW.rng (uh HV1) (by simp)) Tryd.underlying36 rfl (by rw [List.length_map,hdl]; exact Tryd.size_dig) (by simp only [Act.put,sa1,sa2,sa3]; rfl) ?_
      refine LinY.mv (x:=.tmp 5) rfl (.int .i64 d) rfl (by simp only [Act.put,sa1,sa2,sa3]; rfl) ?_
      refine LinY.mv (x:=.tmp 1) rfl (u1) rfl (by simp only [Act.put,sa1,sa2,sa3]; rfl) ?_
      refine ChL.call rfl Tryd.call35 [.int .i64 k,.agg (brow D),.int .i64 d] rfl (xa1s k D d _ hk hDg hfm (by omega)) ?_
      rintro e w2 ⟨rfl,k2⟩
      have hkw:=((Kept.refl [] wr).drew).trans k2 (by simp)
      have HKw2:=hide hkw
      refine ⟨_,rfl,hkw,?_⟩
      simp only [Act.put,sa1,sa2,sa3]
      obtain ⟨x,hx⟩:∃ x,dgt D d = x:=⟨_,rfl⟩
      rw [hx] at hx16 HX1 HX2 ⊢
      have HKW2:=hide ((uh HKW).trans hkw (by simp))
      refine ChL.call rfl Tryd.call34 [.pointer (some ⟨g,0,none⟩),.int .i64 k,.int .i64 x,u1] rfl (xa8u S k f g x (dnL (hsZ k) q L d) (X d) u1 w2 hk (fun y hy=>hS y (Nat.le_trans (uh HKW2).size hy)) ((uh HTD).agr (Agr.nil (uh HKW2))) (uh HTS) hx16 (by rw [hff,uh HX1]; exact (uh HKd).agr (Agr.nil hkw)) (by rw [hff]; exact uh HX2) X3 ((uh HTb).k (uh HKW2))) ?_
      rintro e w3 ⟨v3,rfl,ht3,k3⟩
      have hkw3:=hkw.trans k3 (by simp)
      refine ⟨_,rfl,hkw3,?_⟩
      simp only [Act.put,sa1,sa2,sa3]
      refine ChL.op v3 (by go_simp) hkw3 (by simp only [Act.put,sa1,sa2,sa3]; rfl) (ChL.fin ?_)
      have HF3:=hide (Or.inr (by rw [hf]; exact ht3):KidAt S (hsZ k) w3 (64 - d) v3 (X d))
      have HK3:=hide ((uh HKw).trans hkw3 (by simp))
      clear ht3 hkw3 hkw k3 k2
      go_wp2
      refine ⟨⟨d,v3,rfl,by go_num,by omega,HF3,HK3⟩,?_⟩
      simp [intOf]
      try omega
theorem xa2w:∀ {L:Prs},Fit L→(pairB L).length≤350 * L.length
  | [],_=>by simp [pairB]
  | x :: L,h=>by
    have ih:=xa2w (L:=L) (fun p hp=>h p (by simp [hp]))
    have h1:=h x (by simp)
    have u1:=uv_len x.1.length (by omega)
    have u2:=uv_len x.2.length (by omega)
    have e:pairB (x :: L) = (uv x.1.length++x.1++(uv x.2.length++x.2))++pairB L:=by simp [pairB]
    rw [e,List.length_append,List.length_append,List.length_append,List.length_append,List.length_cons]
    omega
theorem bk_of {S:Nat→Prop} {k g:Nat} {D:List Nat} {pv:Value} {ps:Prs} {W:World} (hS:S g) (hg:W.heap[g]? = some (.cells (bkC D pv ((hsZ k).hb ps)).toArray 72 (0,0))) (hn:ps≠[]) (hD:∀ y∈ps,(hsZ k).kd y.1 = D) (hr:KRow S W pv ps):BkAt S (hsZ k) W g ps:=by
  refine ⟨pv,hS,?_,hn,hr⟩
  have e:(hsZ k).kd (ps.headD ([],[])).1 = D:=by cases ps with
    | nil=>exact absurd rfl hn
    | cons y ps=>exact hD y (by simp)
  rw [e]; exact hg
theorem fnd_ex {q:List Nat} {L:Prs} (h:fnd q L = true):∃ z∈L,z.1 = q:=Classical.byContradiction (fun hn=>by
  unfold fnd at h
  rw [xa1n.2 (fun z hz e=>hn ⟨z,hz,e⟩)] at h; simp at h)
theorem xb7m {q:List Nat} {L:Prs} (h:fnd q L = true) (hl:L.length = 1):delP q L = []:=by
  have h1:=xb3k h
  rw [hl] at h1
  exact List.eq_nil_of_length_eq_zero (by omega)
theorem kd_all {H:Hs} {q:List Nat} {L:Prs} (hs:sgl H L = true) (h:fnd q L = true):∀ y∈L,H.kd y.1 = H.kd q:=fun y hy=>by
  obtain ⟨z,hz,e⟩:=fnd_ex h
  rw [xa1k.1 hs y hy z hz,e]
set_option maxHeartbeats 2000000 in
theorem xa4o (S:Nat→Prop) (k m:Nat) (q:List Nat) (L:Prs) (cr en:Value) (pl:Nat) (w:World) (hk:1≤k∧k≤32) (hS:∀ y,w.heap.size≤y→S y) (hW:WayAt S k w q L m cr en pl true) (hs:Srt (hsZ k) L) (hf:Fit L) (hn:L.length≤1000000000) (hT:Tabs w) :
    Calls Tryd.prog 27 #[.agg (wayC k ((hsZ k).kd q) cr en pl true).toArray] w fun e w'=>∃ v,e = .returned v∧KidAt S (hsZ k) w' (64 - m) v (delP q (dnL (hsZ k) q L m))∧Kept [] w w':=by
  rcases hW.en with ⟨_,_,_,hx⟩ | ⟨hsg,g,rfl,hb,hpl,hfd⟩
  · cases hx
  have hM1:=dn_srt (q:=q) hs m
  have hM2:=dn_len (H:=hsZ k) (q:=q) (L:=L) m
  have hM3:=dn_sub (H:=hsZ k) (q:=q) (L:=L) m
  clear hW
  generalize dnL (hsZ k) q L m = M at *
  have hMf:Fit M:=hf.sub hM3
  have hris:=xa4t hM1 hsg
  have hfd':=hfd.symm
  have hdp:=xb4d hris hfd'
  have hat:=(fnd_at hris).1 hfd'
  have hall:=kd_all hsg hfd'
  have hone:=xb7m hfd'
  rw [← hpl] at hdp hat
  have hdl:∀ y∈delP q M,y∈M:=fun y hy=>((xa4f y).1 hy).1
  have HDl:=hide hdl
  have HDP:=hide hdp
  have HAl:=hide hall
  have HOne:=hide hone
  have HB:=hide hb
  have hpf:=xa2w (hMf.sub hdl)
  have hlt:=Nat.le_of_lt (xb3k hfd')
  have HPB:=hide (show (pairB (delP q M)).length≤1000000000000 by omega)
  have HTb:=hide hT
  have HSg:=hide (xa1k.2 (fun x hx y hy=>xa1k.1 hsg x (hdl x hx) y (hdl y hy)):sgl (hsZ k) (delP q M) = true)
  have hDg:=((hsZ_ok hk).dg q).1
  obtain ⟨D,hD⟩:∃ D,(hsZ k).kd q = D:=⟨_,rfl⟩
  rw [hD] at hDg HAl ⊢
  obtain ⟨pv,hSg,hh,hne,hkr⟩:=hb
  have hkd:((hsZ k).kd (M.headD ([],[])).1).length = 32:=xa0r _ _
  have c1:=(bk_row hh hkd).2.1
  obtain ⟨b,off,cap,l,rfl,hpr,hrd,hc1,hc2⟩:=hkr.pr
  have hll:=hpr.1
  have HK0:=hide ((Kept.refl [] w).alloc (.cells (wayC k D cr (.pointer (some ⟨g,0,none⟩)) pl true).toArray 67))
  have HG0:=hide (heap_alloc_new w (.cells (wayC k D cr (.pointer (some ⟨g,0,none⟩)) pl true).toArray 67))
  obtain ⟨cw0,cw1,cw2,cw3,cw4,cw5⟩:=xa0k (uh HG0) hDg
  have HW0:=hide cw0
  have HW1:=hide cw1
  have HWY:=hide (xa0m [] (wayC k D cr (.pointer (some ⟨g,0,none⟩)) pl true) [] (by rw [List.nil_append,List.append_nil]; exact uh HG0) rfl)
  have HC1:=hide ((uh HK0).cell c1 (by simp))
  have c1':=uh HC1
  obtain ⟨n,hnn⟩:∃ n,l.length = n:=⟨_,rfl⟩
  rw [hnn] at hll c1' HC1
  have HML:=hide hll
  have HM2:=hide hM2
  have HPl:=hide hat.1
  clear hll hpr hrd hkr hh hpf hlt hdl hdp hone hris hfd hfd' hM1 hM2 hM3 hsg hne c1 cw0 cw1 cw2 cw4 cw5 hnn hat hpl
  go_enter Tryd.func27,Tryd.ntmps27
  by_cases hn1:n = 1
  · subst hn1
    go_wp2_with fail
    go_ret
    exact ⟨_,rfl,Or.inl ⟨uh HOne (uh HML).symm,rfl⟩,uh HK0⟩
  · have hi1:¬ ((n:Int) = 1):=by omega
    have hi2:decide ((n:Int) = 1) = false:=by rw [decide_eq_false_iff_not]; exact hi1
    have hnd:delP q M≠[]:=by
      intro e
      have h1:=congrArg List.length (uh HDP)
      rw [e,List.length_append,List.length_take,List.length_drop] at h1
      have h2:=uh HPl
      have h3:=uh HML
      simp at h1
      omega
    go_upto_region 3 with fail
    refine ln_eo (by kernel_rfl) (by kernel_rfl) rfl (fun W=>Kept [] (w.alloc (.cells (wayC k D cr (.pointer (some ⟨g,0,none⟩)) pl true).toArray 67)) W) (Kept.refl [] _).drew ?_
    refine LinY.rd (.pointer (some ⟨w.heap.size,0,none⟩)) (fun W hW=>by go_simp) (by simp only [Act.put,sa1,sa2,sa3]; rfl) ?_
    refine LinY.rd (.int .i64 k) (fun W hW=>by have h9:=hW.cell (uh HW0) (by simp); go_simp) (by simp only [Act.put,sa1,sa2,sa3]; rfl) ?_
    refine LinY.rd (.pointer (some ⟨w.heap.size,1,none⟩)) (fun W hW=>by go_simp) (by simp only [Act.put,sa1,sa2,sa3]; rfl) ?_
    refine LinY.ld 36 (.tmp 12) rfl w.heap.size 1 rfl (D.map u8) _ (fun W hW=>hW.rng (uh HW1) (by simp)) Tryd.underlying36 rfl (by rw [List.length_map,hDg]; exact Tryd.size_dig) (by simp only [Act.put,sa1,sa2,sa3]; rfl) ?_
    refine LinY.ld 67 (.tmp 1) rfl w.heap.size 0 rfl (wayC k D cr (.pointer (some ⟨g,0,none⟩)) pl true) _ (fun W hW=>hW.rng (uh HWY) (by simp)) Tryd.underlying67 rfl (by rw [xa0q hDg]; exact Tryd.size_way) (by simp only [Act.put,sa1,sa2,sa3]; rfl) ?_
    refine ChL.call rfl Tryd.call37 [.agg (wayC k D cr (.pointer (some ⟨g,0,none⟩)) pl true).toArray,.slice none 0 0] rfl (xa5s S k D cr g pl true M (.slice none 0 0) [] [] _ hDg ((uh HB).agr (Agr.nil ((uh HK0).drew))) (by rw [if_pos rfl]; exact uh HPl) (by have:=uh HM2; omega) (RdC.nil 2 _) (PR.nil S _) (by simp) (by have h8:=hnd; rw [uh HDP] at h8; simpa using h8) (fun y hy=>hS y (by have:=(uh HK0).size; simp at hy; omega))) ?_
    rintro e w2 ⟨ao,n2,c2,rfl,hkr2,k2⟩
    have hkw:=((Kept.refl [] (w.alloc (.cells (wayC k D cr (.pointer (some ⟨g,0,none⟩)) pl true).toArray 67))).drew).trans k2 (by simp)
    have HK2:=hide ((uh HK0).trans hkw (by simp))
    have hkr3:KRow S w2 (.slice ao n2 c2) (delP q M):=by rw [uh HDP]; simpa using hkr2
    refine ⟨_,rfl,hkw,?_⟩
    simp only [Act.put,sa1,sa2,sa3]
    refine ChL.call rfl Tryd.call36 [.int .i64 k,.agg (brow D),.slice ao n2 c2] rfl (xa1o k D ao n2 c2 (delP q M) w2 hk hDg hkr3.rdK (uh HPB) ((uh HTb).k (uh HK2))) ?_
    rintro e w3 ⟨g3,rfl,hg3,hc3,k3⟩
    have hkw3:=hkw.trans k3 (by simp)
    have hk3:=(uh HK2).trans k3 (by simp)
    refine ⟨_,rfl,hkw3,?_⟩
    simp only [Act.put,sa1,sa2,sa3]
    have hbk:=bk_of (S:=S) (hS g3 (by have:=(uh HK2).size; omega)) hc3 hnd (fun y hy=>uh HAl y (uh HDl y hy)) (hkr3.agr (Agr.nil k3))
    refine ChL.op (bkV g3) (by go_simp) hkw3 (by simp only [Act.put,sa1,sa2,sa3]; rfl) ?_
    refine ChL.op (bkV g3) (by go_simp) hkw3 (by simp only [Act.put,sa1,sa2,sa3]; rfl) (ChL.fin ?_)
    go_wp2
    go_ret
    exact ⟨_,rfl,Or.inr (TreeAt.ofBk _ hbk (uh HSg)),hk3⟩
theorem Tryd.size_pair:(Tryd.prog.info? 50).map (·.size) = some 2:=by kernel_rfl
theorem infoQ:(Tryd.prog.info? 50).map (fun i=>(i.zero,i.size)) = some (some (.agg #[.slice none 0 0,.slice none 0 0]),2):=by kernel_rfl
theorem infoQp:∃ i,Tryd.prog.info? 50 = some i∧i.zero = some (.agg #[.slice none 0 0,.slice none 0 0])∧i.size = 2:=by
  have h:=infoQ
  generalize Tryd.prog.info? 50 = o at h
  cases o with
  | none=>cases h
  | some i=>exact ⟨i,rfl,(Prod.mk.inj (Option.some.inj h)).1,(Prod.mk.inj (Option.some.inj h)).2⟩
theorem fillQ (x y:Value):Instr.fill (fun i=>some (i * 2,2)) ((Array.range (1 * 2)).map ((Value.agg #[.slice none 0 0,.slice none 0 0]).cells[· % (Value.agg #[.slice none 0 0,.slice none 0 0]).cells.size]!)) [(0,.agg #[x,y])] = some #[x,y]:=by kernel_rfl
theorem xa6o {o:Oper} {a:Act} (w:World) (x:Operand) (ho:o.op = .buildSlice 32 1 #[(0,x)]) (ku vu:Value) (hx:a.eval x = .agg #[ku,vu]):(execOp a.eval o).run Tryd.prog w = .ok (.value (.slice (some ⟨w.heap.size,0,none⟩) 1 1)) (w.alloc (.cells #[ku,vu] 50)):=by
  obtain ⟨i0,hi,hz0,hz1⟩:=infoQp
  have hb:=run_buildSlice w 32 50 1 #[(0,.agg #[ku,vu])] #[ku,vu] i0 _ Tryd.underlying32 hi hz0 (by rw [hz1]; decide) (by rw [hz1]; decide) (by rw [hz1]; exact fillQ ku vu)
  unfold execOp
  simp only [ho,List.map_toArray,List.map_cons,List.map_nil,hx,Sem.run_bind,hb,Result.andThen_ok]
  rfl
theorem xa2k {ops:Array Oper} {rest:List Oper} {o:Oper} {a:Act} {w:World} {Q:Exit→Act→World→Prop} (hw:Region.wanted o (yielded ops a.tmps) = true) (x:Operand) (ho:o.op = .buildSlice 32 1 #[(0,x)]) (ku vu:Value) (hx:a.eval x = .agg #[ku,vu])
    (h:wpList Tryd.prog ops Q rest (a.put o.dst (.slice (some ⟨w.heap.size,0,none⟩) 1 1)) (w.alloc (.cells #[ku,vu] 50))):wpList Tryd.prog ops Q (o :: rest) a w :=
  wpList_want hw fun _ hK=>by
    unfold Oper.wp
    rw [xa6o w x ho ku vu hx]
    exact hK _ _ h
theorem kr_lit {S:Nat→Prop} {w:World} {kv vv:Value} {q v:List Nat} (hS:S w.heap.size) (hk:Sty S w (fun w=>Rd w kv q)) (hv:Sty S w (fun w=>Rd w vv v)):KRow S (w.alloc (.cells #[kv,vv] 50)) (.slice (some ⟨w.heap.size,0,none⟩) 1 1) [(q,v)]:=by
  have ha:Agr S w (w.alloc (.cells #[kv,vv] 50)):=Agr.nil ((Kept.refl [] w).alloc _)
  refine ⟨w.heap.size,0,1,[(kv,vv)],rfl,Nat.le_refl _,by omega,hS,rfl,fun i hi=>?_,fun i hi=>?_⟩
  · have h0:i = 0:=by simp at hi; omega
    subst h0
    constructor
    · rw [cell_of_row _ _ _ _ _ _ (heap_alloc_new w (.cells #[kv,vv] 50))]; rfl
    · rw [cell_of_row _ _ _ _ _ _ (heap_alloc_new w (.cells #[kv,vv] 50))]; rfl
  · have h0:i = 0:=by simp at hi; omega
    subst h0
    exact fun w' k=>⟨hk w' (ha.trans k),hv w' (ha.trans k)⟩
theorem xb7s (H:Hs) (q v:List Nat):insP H q v [] = [(q,v)]:=rfl
theorem xb5t (H:Hs) (q v:List Nat):sgl H [(q,v)] = true:=xa1k.2 (fun x hx y hy=>by
  have e1:x = (q,v):=by simpa using hx
  have e2:y = (q,v):=by simpa using hy
  rw [e1,e2])
theorem xb8f {k m:Nat} {q v DA:List Nat} {M:Prs} (hk:1≤k∧k≤32) (hs:Srt (hsZ k) M) (hn:M≠[]) (ha:∀ y∈M,(hsZ k).kd y.1 = DA) (hon:On (hsZ k) m q M) (hne:DA≠(hsZ k).kd q):∃ part,m≤part∧Fork (hsZ k) part q v M DA:=by
  obtain ⟨y,hy⟩:∃ y,y∈M:=by cases M with
    | nil=>exact absurd rfl hn
    | cons y M=>exact ⟨y,by simp⟩
  have hDA:=ha y hy
  obtain ⟨_,s2,s3,s4⟩:=xa4n DA ((hsZ k).kd q) (2 * k) 0
  have hlt:comL DA ((hsZ k).kd q) (2 * k) 0 < 0 + 2 * k:=by
    refine Nat.lt_of_le_of_ne s2 (fun e=>hne ?_)
    rw [← hDA] at s3 e ⊢
    exact kd_ext (hsZ_ok hk) (fun j hj=>s3 j (by omega) (by rw [e]; have:(hsZ k).wd = k:=rfl; omega))
  have hpne:=s4 hlt
  refine ⟨comL DA ((hsZ k).kd q) (2 * k) 0,?_,⟨hs,hn,ha,?_,fun j hj=>s3 j (by omega) hj,hpne,?_⟩⟩
  · refine Nat.le_of_not_lt (fun g=>hpne ?_)
    rw [← hDA]
    rw [← hDA] at g
    exact hon y hy _ g
  · rw [← hDA]; exact (hsZ_ok hk).dg y.1
  · have:(hsZ k).wd = k:=rfl
    omega
set_option maxHeartbeats 4000000 in
theorem xa4i (S:Nat→Prop) (k m:Nat) (q v:List Nat) (L:Prs) (cr en kv vv:Value) (pl:Nat) (fd:Bool) (w:World) (hk:1≤k∧k≤32) (hS:∀ y,w.heap.size≤y→S y) (hW:WayAt S k w q L m cr en pl fd) (hs:Srt (hsZ k) L) (hf:Fit L) (hn:L.length≤1000000000) (hq:q.length≤64) (hv:v.length≤256)
    (hkv:Sty S w (fun w=>Rd w kv q)) (hvv:Sty S w (fun w=>Rd w vv v)) (hT:Tabs w) :
    Calls Tryd.prog 26 #[.agg (wayC k ((hsZ k).kd q) cr en pl fd).toArray,.agg #[kv,vv]] w fun e w'=>∃ t,e = .returned t∧TreeAt S (hsZ k) w' (64 - m) t (insP (hsZ k) q v (dnL (hsZ k) q L m))∧Kept [] w w':=by
  have hon:=dn_on (H:=hsZ k) (q:=q) (L:=L) m
  have hM1:=dn_srt (q:=q) hs m
  have hM2:=dn_len (H:=hsZ k) (q:=q) (L:=L) m
  have hM3:=dn_sub (H:=hsZ k) (q:=q) (L:=L) m
  have hend:=hW.en
  obtain ⟨gs,hgl,hrd,_⟩:=hW.cr
  obtain ⟨ao,n,c,rfl,hnl,_⟩:=hrd
  have hnm:n = m:=by rw [← hnl,ptrs,List.length_map,hgl]
  subst hnm
  have hdeep:=hW.deep
  clear hW hnl hgl
  generalize dnL (hsZ k) q L n = M at *
  have hMf:Fit M:=hf.sub hM3
  have hfq:Fit [(q,v)]:=fun p hp=>by
    have:p = (q,v):=by simpa using hp
    subst this; exact ⟨hq,hv⟩
  have hDg:=((hsZ_ok hk).dg q).1
  obtain ⟨D,hD⟩:∃ D,(hsZ k).kd q = D:=⟨_,rfl⟩
  rw [hD] at hDg ⊢
  have hk0:=((Kept.refl [] w).alloc (.cells (wayC k D (.slice ao n c) en pl fd).toArray 67)).alloc (.cells #[kv,vv] 50)
  have hg0:=((Kept.refl [] (w.alloc (.cells (wayC k D (.slice ao n c) en pl fd).toArray 67))).alloc (.cells #[kv,vv] 50)).heap (heap_alloc_new w (.cells (wayC k D (.slice ao n c) en pl fd).toArray 67)) (by simp)
  have hp0:=xa2d w (.cells (wayC k D (.slice ao n c) en pl fd).toArray 67) (.cells #[kv,vv] 50)
  have hz0:((w.alloc (.cells (wayC k D (.slice ao n c) en pl fd).toArray 67)).alloc (.cells #[kv,vv] 50)).heap.size = w.heap.size + 2:=by simp
  go_enter Tryd.func26,Tryd.ntmps26
  go_upto_region 1 with fail
  generalize (w.alloc (.cells (wayC k D (.slice ao n c) en pl fd).toArray 67)).alloc (.cells #[kv,vv] 50) = W0 at hk0 hg0 hp0 hz0 ⊢
  obtain ⟨cw0,cw1,cw2,cw3,cw4,cw5⟩:=xa0k hg0 hDg
  have HK0:=hide hk0
  have HW0:=hide cw0
  have HW1:=hide cw1
  have HW2:=hide cw2
  have HW3:=hide cw3
  have HWY:=hide (xa0m [] (wayC k D (.slice ao n c) en pl fd) [] (by rw [List.nil_append,List.append_nil]; exact hg0) rfl)
  have HWP:=hide (xa0m [] [kv,vv] [] hp0 rfl)
  have HP0:=hide hp0
  have HKV:=hide (hkv.agr (Agr.nil hk0))
  have HVV:=hide (hvv.agr (Agr.nil hk0))
  have HTb:=hide (hT.k hk0)
  have hS0:∀ y,W0.heap.size≤y→S y:=fun y hy=>hS y (by omega)
  have HOn:=hide hon
  have HMs:=hide hM1
  have HMl:=hide hM2
  have HMf:=hide hMf
  have HPB1:=hide (show (pairB [(q,v)]).length≤1000000000000 by have:=xa2w hfq; simp at this; omega)
  have HDq:=hide hD
  clear cw0 cw1 cw2 cw4 cw5 hg0 hp0 hkv hvv hT hon hM1 hM2 hM3 hMf hk0 hfq hf hs
  rcases hend with ⟨hM,rfl,rfl,rfl⟩ | ⟨hsg,g,rfl,hb,hpl,hfd⟩
  · subst hM
    refine ln_eg (by kernel_rfl) (by kernel_rfl) (fun W=>Kept [] W0 W) (Kept.refl [] W0).drew ?_
    refine LinG.rd (by rfl) (.pointer (some ⟨w.heap.size,34,none⟩)) (fun W hW=>by go_simp) (by simp only [Act.put,sa1,sa2,sa3]; rfl) ?_
    refine LinG.rd (by rfl) (.pointer none) (fun W hW=>by have h9:=hW.cell (uh HW3) (by simp); go_simp) (by simp only [Act.put,sa1,sa2,sa3]; rfl) ?_
    refine LinG.rd (by rfl) (.bool false) (fun W hW=>by go_simp) (by simp only [Act.put,sa1,sa2,sa3]; rfl) ?_
    refine LinG.rd (by rfl) (.bool false) (fun W hW=>by go_simp) (by simp only [Act.put,sa1,sa2,sa3]; rfl) ?_
    refine LinG.no (by rfl) (by simp only [Act.put,sa1,sa2,sa3]; rfl) ?_
    refine LinG.no (by rfl) (by simp only [Act.put,sa1,sa2,sa3]; rfl) ?_
    refine LinG.no (by rfl) (by simp only [Act.put,sa1,sa2,sa3]; rfl) ?_
    refine LinG.no (by rfl) (by simp only [Act.put,sa1,sa2,sa3]; rfl) ?_
    refine LinG.no (by rfl) (by simp only [Act.put,sa1,sa2,sa3]; rfl) ?_
    refine LinG.no (by rfl) (by simp only [Act.put,sa1,sa2,sa3]; rfl) ?_
    refine LinG.no (by rfl) (by simp only [Act.put,sa1,sa2,sa3]; rfl) ?_
    refine LinG.no (by rfl) (by simp only [Act.put,sa1,sa2,sa3]; rfl) ?_
    refine LinG.rd (by rfl) (.bool false) (fun W hW=>by go_simp) (by simp only [Act.put,sa1,sa2,sa3]; rfl) ?_
    refine LinG.fin ?_
    have hkl:=(kr_lit (S:=S) (w:=W0) (kv:=kv) (vv:=vv) (q:=q) (v:=v) (hS0 _ (Nat.le_refl _)) (uh HKV) (uh HVV)).agr (Agr.nil (Kept.refl [] (W0.alloc (.cells #[kv,vv] 50))).drew)
    rw [hz0] at hkl
    have HKL:=hide hkl
    have HKA:=hide (((Kept.refl [] W0).alloc (.cells #[kv,vv] 50)).drew)
    clear hkl
    have h7a:=(Kept.refl [] W0).drew.cell (uh HW0) (by simp)
    go_wp2_with (first
      | (refine wpList_load_mid rfl 36 (.tmp 31) rfl w.heap.size 1 rfl (D.map u8) _ ((Kept.refl [] W0).drew.rng (uh HW1) (by simp)) Tryd.underlying36 rfl (by rw [List.length_map,hDg]; exact Tryd.size_dig) ?_)
      | (refine wpList_load_row rfl 50 (.tmp 3) rfl (w.heap.size + 1) rfl 50 #[kv,vv] (0,0) _ ((Kept.refl [] W0).drew.heap (uh HP0) (by simp)) Tryd.underlying50 rfl Tryd.size_pair ?_)
      | (refine xa2k rfl (.tmp 33) rfl kv vv rfl ?_))
    refine Calls.mono (xa1o k D (some ⟨w.heap.size + 2,0,none⟩) 1 1 [(q,v)] _ hk hDg (uh HKL).rdK (uh HPB1) ((uh HTb).k (uh HKA))) ?_
    rintro e w3 ⟨g3,rfl,hg3,hc3,k3⟩
    have hk3:=(uh HKA).trans k3 (by simp)
    have hbk:=bk_of (S:=S) (hS0 g3 (by have:=(uh HKA).size; omega)) hc3 (by simp) (fun y hy=>by rw [show y = (q,v) by simpa using hy]; exact uh HDq) ((uh HKL).agr (Agr.nil k3))
    have HBK:=hide hbk
    have HK3:=hide hk3
    clear hbk hk3 hc3 k3
    have h9:=(uh HK3).cell (uh HW3) (by simp)
    go_wp2_with fail
    go_ret
    rw [xb7s]
    exact ⟨_,rfl,TreeAt.ofBk _ (uh HBK) (xb5t _ _ _),(uh HK0).trans (uh HK3) (by simp)⟩
  · obtain ⟨pv,hSg,hh,hne,hkr⟩:=id hb
    have hkd:((hsZ k).kd (M.headD ([],[])).1).length = 32:=xa0r _ _
    have b0:=(bk_row hh hkd).1
    have hall:∀ y∈M,(hsZ k).kd y.1 = (hsZ k).kd (M.headD ([],[])).1:=fun y hy=>xa1k.1 hsg y hy _ (by cases M with
      | nil=>exact absurd rfl hne
      | cons z M=>simp)
    generalize (hsZ k).kd (M.headD ([],[])).1 = DA at hkd b0 hall
    have HB0:=hide ((uh HK0).rng b0 (by simp))
    have HB:=hide (hb.agr (Agr.nil (uh HK0)))
    have HAll:=hide hall
    have HSG:=hide hsg
    have HPl:=hide hpl
    have HFd:=hide hfd
    have HNe:=hide hne
    have heq:=fun W=>dig_eq W DA D hkd hDg
    obtain ⟨sm,hsm⟩:∃ sm,decide (DA = D) = sm:=⟨_,rfl⟩
    rw [hsm] at heq
    have HEQ:=hide heq
    clear hb hh hkr b0 hall hsg hpl hfd hne heq
    refine ln_eg (by kernel_rfl) (by kernel_rfl) (fun W=>Kept [] W0 W) (Kept.refl [] W0).drew ?_
    refine LinG.rd (by rfl) (.pointer (some ⟨w.heap.size,34,none⟩)) (fun W hW=>by go_simp) (by simp only [Act.put,sa1,sa2,sa3]; rfl) ?_
    refine LinG.rd (by rfl) (.pointer (some ⟨g,0,none⟩)) (fun W hW=>by have h9:=hW.cell (uh HW3) (by simp); go_simp) (by simp only [Act.put,sa1,sa2,sa3]; rfl) ?_
    refine LinG.rd (by rfl) (.bool true) (fun W hW=>by go_simp) (by simp only [Act.put,sa1,sa2,sa3]; rfl) ?_
    refine LinG.rd (by rfl) (.bool true) (fun W hW=>by go_simp) (by simp only [Act.put,sa1,sa2,sa3]; rfl) ?_
    refine LinG.rd (by rfl) (.pointer (some ⟨w.heap.size,34,none⟩)) (fun W hW=>by go_simp) (by simp only [Act.put,sa1,sa2,sa3]; rfl) ?_
    refine LinG.rd (by rfl) (.pointer (some ⟨g,0,none⟩)) (fun W hW=>by have h9:=hW.cell (uh HW3) (by simp); go_simp) (by simp only [Act.put,sa1,sa2,sa3]; rfl) ?_
    refine LinG.rd (by rfl) (.pointer (some ⟨g,0,none⟩)) (fun W hW=>by go_simp) (by simp only [Act.put,sa1,sa2,sa3]; rfl) ?_
    refine LinG.rd (by rfl) (.pointer (some ⟨g,0,none⟩)) (fun W hW=>by go_simp) (by simp only [Act.put,sa1,sa2,sa3]; rfl) ?_
    refine LinG.ld (by rfl) 36 (.tmp 13) rfl g 0 rfl (DA.map u8) _ (fun W hW=>hW.rng (uh HB0) (by simp)) Tryd.underlying36 rfl (by rw [List.length_map,hkd]; exact Tryd.size_dig) (by simp only [Act.put,sa1,sa2,sa3]; rfl) ?_
    refine LinG.rd (by rfl) (.pointer (some ⟨w.heap.size,1,none⟩)) (fun W hW=>by go_simp) (by simp only [Act.put,sa1,sa2,sa3]; rfl) ?_
    refine LinG.ld (by rfl) 36 (.tmp 15) rfl w.heap.size 1 rfl (D.map u8) _ (fun W hW=>hW.rng (uh HW1) (by simp)) Tryd.underlying36 rfl (by rw [List.length_map,hDg]; exact Tryd.size_dig) (by simp only [Act.put,sa1,sa2,sa3]; rfl) ?_
    refine LinG.rd (by rfl) (.bool sm) (fun W hW=>xa6a 36 (.tmp 14) (.tmp 16) 36 rfl (brow DA) (brow D) rfl rfl W sm (by kernel_rfl) (uh HEQ W)) (by simp only [Act.put,sa1,sa2,sa3]; rfl) ?_
    refine LinG.rd (by rfl) (.bool sm) (fun W hW=>by go_simp) (by simp only [Act.put,sa1,sa2,sa3]; rfl) ?_
    refine LinG.fin ?_
    cases sm with
    | true =>
      have hDD:DA = D:=of_decide_eq_true hsm
      subst hDD
      have hall2:∀ y∈M,(hsZ k).kd y.1 = (hsZ k).kd q:=fun y hy=>by rw [uh HAll y hy,uh HDq]
      have hris:=xa4t (uh HMs) (uh HSG)
      have hip:=xb3i (H:=hsZ k) (v:=v) hris hall2
      rw [← uh HPl,← uh HFd] at hip
      have hple:pl + (if fd = true then 1 else 0)≤M.length:=by
        have h1:=plc_le q M
        cases hfd2:fd with
        | false=>rw [uh HPl]; simpa using h1
        | true =>
          have h2:=(fnd_at (k:=q) hris).1 (by rw [← uh HFd,hfd2])
          rw [uh HPl,if_pos rfl]; exact h2.1
      have hin:∀ y∈insP (hsZ k) q v M,(hsZ k).kd y.1 = DA:=fun y hy=>by
        rcases (xa1q (uh HMs) y).1 hy with rfl | ⟨h1,_⟩
        · exact uh HDq
        · exact uh HAll y h1
      have hfi:Fit (insP (hsZ k) q v M):=fun p hp=>by
        rcases (xa1q (uh HMs) p).1 hp with rfl | ⟨h1,_⟩
        · exact ⟨hq,hv⟩
        · exact uh HMf p h1
      have hpb:=xa2w hfi
      have hlen:(insP (hsZ k) q v M).length≤M.length + 1:=by rw [hip]; simp; omega
      have HPB2:=hide (show (pairB (insP (hsZ k) q v M)).length≤1000000000000 by have:=uh HMl; omega)
      have HIP:=hide hip
      have HIN:=hide hin
      clear hpb hlen hfi hin hip hris hall2
      go_upto_region 2 with fail
      refine ln_ew (by kernel_rfl) (by kernel_rfl) rfl (fun W=>Kept [] W0 W) (Kept.refl [] W0).drew.drew ?_
      refine LinY.rd (.pointer (some ⟨w.heap.size,0,none⟩)) (fun W hW=>by go_simp) (by simp only [Act.put,sa1,sa2,sa3]; rfl) ?_
      refine LinY.rd (.int .i64 k) (fun W hW=>by have h9:=hW.cell (uh HW0) (by simp); go_simp) (by simp only [Act.put,sa1,sa2,sa3]; rfl) ?_
      refine LinY.rd (.pointer (some ⟨w.heap.size,1,none⟩)) (fun W hW=>by go_simp) (by simp only [Act.put,sa1,sa2,sa3]; rfl) ?_
      refine LinY.ld 36 (.tmp 21) rfl w.heap.size 1 rfl (DA.map u8) _ (fun W hW=>hW.rng (uh HW1) (by simp)) Tryd.underlying36 rfl (by rw [List.length_map,hDg]; exact Tryd.size_dig) (by simp only [Act.put,sa1,sa2,sa3]; rfl) ?_
      refine LinY.ld 67 (.tmp 2) rfl w.heap.size 0 rfl (wayC k DA (.slice ao n c) (.pointer (some ⟨g,0,none⟩)) pl fd) _ (fun W hW=>hW.rng (uh HWY) (by simp)) Tryd.underlying67 rfl (by rw [xa0q hDg]; exact Tryd.size_way) (by simp only [Act.put,sa1,sa2,sa3]; rfl) ?_
      refine LinY.ld 50 (.tmp 3) rfl (w.heap.size + 1) 0 rfl ([kv,vv]) _ (fun W hW=>hW.rng (uh HWP) (by simp)) Tryd.underlying50 rfl (Tryd.size_pair) (by simp only [Act.put,sa1,sa2,sa3]; rfl) ?_
      have hd2:=(Kept.refl [] W0).drew.drew
      obtain ⟨W2,hW2⟩:∃ W2,W0.drew.drew = W2:=⟨_,rfl⟩
      rw [hW2] at hd2 ⊢
      clear hW2
      have HD2:=hide hd2
      have hkl:=kr_lit (S:=S) (w:=W2) (kv:=kv) (vv:=vv) (q:=q) (v:=v) (hS0 _ hd2.size) ((uh HKV).agr (Agr.nil hd2)) ((uh HVV).agr (Agr.nil hd2))
      have hka:=hd2.alloc (.cells #[kv,vv] 50)
      have HKA:=hide hka
      refine ChL.op (.slice (some ⟨W2.heap.size,0,none⟩) 1 1) (xa6o W2 (.tmp 24) rfl kv vv rfl) hka (by simp only [Act.put,sa1,sa2,sa3]; rfl) ?_
      obtain ⟨b9,off9,cap9,l9,e9,hpr9,hrd9,_,_⟩:=hkl.pr
      have hl9:l9.length = 1:=hpr9.1
      refine ChL.call rfl Tryd.call37 [.agg (wayC k DA (.slice ao n c) (.pointer (some ⟨g,0,none⟩)) pl fd).toArray,.slice (some ⟨W2.heap.size,0,none⟩) 1 1] rfl (xa5s S k DA (.slice ao n c) g pl fd M (.slice (some ⟨W2.heap.size,0,none⟩) 1 1) l9 [(q,v)] _ hDg ((uh HB).agr (Agr.nil hka)) hple (by have:=uh HMl; omega) hrd9 hpr9 (by omega) (by simp) (fun y hy=>hS0 y (Nat.le_trans hka.size hy))) ?_
      rintro e w2 ⟨a2,n2,c2,rfl,hkr2,k2⟩
      have hkw:=hka.trans k2 (by simp)
      have hkr3:KRow S w2 (.slice a2 n2 c2) (insP (hsZ k) q v M):=by rw [uh HIP]; exact hkr2
      refine ⟨_,rfl,hkw,?_⟩
      simp only [Act.put,sa1,sa2,sa3]
      refine ChL.call rfl Tryd.call36 [.int .i64 k,.agg (brow DA),.slice a2 n2 c2] rfl (xa1o k DA a2 n2 c2 (insP (hsZ k) q v M) w2 hk hDg hkr3.rdK (uh HPB2) ((uh HTb).k hkw)) ?_
      rintro e w3 ⟨g3,rfl,hg3,hc3,k3⟩
      have hkw3:=hkw.trans k3 (by simp)
      refine ⟨_,rfl,hkw3,?_⟩
      simp only [Act.put,sa1,sa2,sa3]
      have hbk:=bk_of (S:=S) (hS0 g3 (by have:=hkw.size; omega)) hc3 ins_ne (uh HIN) (hkr3.agr (Agr.nil k3))
      refine ChL.op (bkV g3) (by go_simp) hkw3 (by simp only [Act.put,sa1,sa2,sa3]; rfl) ?_
      refine ChL.op (bkV g3) (by go_simp) hkw3 (by simp only [Act.put,sa1,sa2,sa3]; rfl) (ChL.fin ?_)
      go_wp2
      go_ret
      exact ⟨_,rfl,TreeAt.ofBk _ hbk (xa1k.2 (fun x hx y hy=>by rw [uh HIN x hx,uh HIN y hy])),(uh HK0).trans hkw3 (by simp)⟩
    | false =>
      have hDD:DA≠D:=of_decide_eq_false hsm
      obtain ⟨part,hmp,hfork⟩:=xb8f (v:=v) hk (uh HMs) (uh HNe) (uh HAll) (uh HOn) (by rw [uh HDq]; exact hDD)
      have hkl:=(kr_lit (S:=S) (w:=W0) (kv:=kv) (vv:=vv) (q:=q) (v:=v) (hS0 _ (Nat.le_refl _)) (uh HKV) (uh HVV)).agr (Agr.nil (Kept.refl [] (W0.alloc (.cells #[kv,vv] 50))).drew)
      rw [hz0] at hkl
      have HKL:=hide hkl
      have HKA:=hide (((Kept.refl [] W0).alloc (.cells #[kv,vv] 50)).drew)
      clear hkl
      have h7a:=(Kept.refl [] W0).drew.cell (uh HW0) (by simp)
      go_wp2_with (first
        | (refine wpList_load_mid rfl 36 (.tmp 31) rfl w.heap.size 1 rfl (D.map u8) _ ((Kept.refl [] W0).drew.rng (uh HW1) (by simp)) Tryd.underlying36 rfl (by rw [List.length_map,hDg]; exact Tryd.size_dig) ?_)
        | (refine wpList_load_row rfl 50 (.tmp 3) rfl (w.heap.size + 1) rfl 50 #[kv,vv] (0,0) _ ((Kept.refl [] W0).drew.heap (uh HP0) (by simp)) Tryd.underlying50 rfl Tryd.size_pair ?_)
        | (refine xa2k rfl (.tmp 33) rfl kv vv rfl ?_))
      refine Calls.mono (xa1o k D (some ⟨w.heap.size + 2,0,none⟩) 1 1 [(q,v)] _ hk hDg (uh HKL).rdK (uh HPB1) ((uh HTb).k (uh HKA))) ?_
      rintro e w3 ⟨g3,rfl,hg3,hc3,k3⟩
      have hk3:=(uh HKA).trans k3 (by simp)
      have hbk:=bk_of (S:=S) (hS0 g3 (by have:=(uh HKA).size; omega)) hc3 (by simp) (fun y hy=>by rw [show y = (q,v) by simpa using hy]; exact uh HDq) ((uh HKL).agr (Agr.nil k3))
      have HBK:=hide hbk
      have HK3:=hide hk3
      clear hbk hk3 hc3 k3
      have h9:=(uh HK3).cell (uh HW3) (by simp)
      have h8:=(uh HK3).cell (uh HW2) (by simp)
      have h7:=(uh HK3).cell (uh HW0) (by simp)
      go_wp2_with fail
      refine Calls.mono (xa9n S k n part g g3 M q v DA w3 hk (fun y hy=>hS0 y (Nat.le_trans (uh HK3).size hy)) hfork hmp ((uh HB).agr (Agr.nil (uh HK3))) (uh HBK) ((uh HTb).k (uh HK3))) ?_
      rintro e w4 ⟨tt,rfl,ht4,k4⟩
      have HT4:=hide ht4
      have HK4:=hide (((uh HK0).trans (uh HK3) (by simp)).trans k4 (by simp))
      clear ht4 k4
      go_wp2_with fail
      go_ret
      exact ⟨_,rfl,uh HT4,uh HK4⟩
end
end Go.Proofs.YtepmjkkjhjkdgaaDoor
