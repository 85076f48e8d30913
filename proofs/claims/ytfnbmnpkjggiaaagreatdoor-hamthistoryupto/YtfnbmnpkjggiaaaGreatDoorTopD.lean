import Derived.Test.YtfnbmnpkjggiaaaGreatDoorTopC
namespace Go.Proofs.YtfnbmnpkjggiaaaGreatDoor
set_option linter.unusedVariables false
set_option linter.unusedSimpArgs false
set_option maxRecDepth 100000
section
open Go.RowKit Go.BigFrame
theorem xb5d {P:Program} {o:Oper} {a:Act} (w:World) (t t2:TypeId) (y:Operand) (ho:o.op = .binOp .shl t (.const (.int .u16 1)) y t2) (k:Nat) (hk:k≤15) (hy:a.eval y = .int .i64 (k:Int)):(execOp a.eval o).run P w = .ok (.value (.int .u16 ((2 ^ k:Nat):Int))) w:=by
 have e:(Op.shift .shl .u16 1 .i64 (k:Int)).run P w = .ok (.int .u16 ((2 ^ k:Nat):Int)) w:=by
  rw [shift_shl .u16 .i64 1 (k:Int) (by omega) (by simp [IntKind.bits]; omega)]
  have h9:2 ^ k≤2 ^ 15:=Nat.pow_le_pow_right (by decide) hk
  rw [Int.toNat_natCast,Int.one_mul]
  have h8:(2 ^ k:Int) = ((2 ^ k:Nat):Int):=by simp
  rw [h8]
  obtain ⟨y,hy⟩:∃ y,2 ^ k = y:=⟨_,rfl⟩
  rw [hy] at h9 ⊢
  have h7:IntKind.u16.wrap (y:Int) = y:=by simp [IntKind.wrap,IntKind.signed,IntKind.bits]; omega
  rw [h7]
  rfl
 have h1:a.eval (.const (.int .u16 1)) = .int .u16 1:=rfl
 unfold execOp
 simp only [ho,hy,h1,eqGuard_shl,binOp_shl,Sem.run_bind,Sem.run_pure,Result.andThen_ok,e]
theorem xa3u {P:Program} {o:Oper} {a:Act} {w:World} {K:Act→World→Prop} {Q:Exit→Act→World→Prop} (ty:TypeId) (x y:Operand) (ho:o.op = .store ty x y) (g off:Nat) (t:TypeId) (cur cur':Array Value) (v:Value) (hx:a.eval x = .pointer (some ⟨g,off,none⟩)) (hy:a.eval y = v)
  (hg:w.heap[g]? = some (.cells cur t (0,0))) (hoff:off + 1≤cur.size) (hi:(P.info? ty).map (·.size) = some 1) (h1:v.oneCell' = true) (hc:(cur.toList.take off++[v]++cur.toList.drop (off + 1)).toArray = cur') (h:K (a.put o.dst undef) (w.setRow g cur')):o.wp P a w K Q:=by
 subst hc
 unfold Oper.wp execOp
 simp only [ho,hx,hy,Instr.storeAt,Instr.sureAddr,Sem.run_bind,Sem.run_pure,Result.andThen_ok,xa3y w g off t ty cur v hg hoff hi h1]
 exact h
theorem IAt.mono {T T':Nat→Prop} {k:Nat} {W:World} {v:Value} {L:Prs} (hs:∀ x,T x→T' x) (h:IAt T k W v L):IAt T' k W v L:=by
 obtain ⟨l,h1,h2,h3⟩:=h
 exact ⟨l,h1,fun x hx=>⟨hs x (h2 x hx).1,(h2 x hx).2⟩,h3.mono hs⟩
theorem IAt.shrink {T:Nat→Prop} {k:Nat} {W:World} {v:Value} {L:Prs} (h:IAt T k W v L):IAt (lowS T W) k W v L:=by
 obtain ⟨l,h1,h2,h3⟩:=h
 exact ⟨l,h1,fun x hx=>⟨h2 x hx,(h2 x hx).2⟩,h3.shrink⟩
theorem xb8j {L:List Nat} {w w':World} {v:Value} {ds:List (List Nat)} (h:RdD w v ds) (k:Kept L w w') (hn:∀ x∈blk v,x∉L):RdD w' v ds:=by
 obtain ⟨ao,len,cap,rfl,h1,h2,h3,h4,h5⟩:=h
 refine ⟨ao,len,cap,rfl,h1,h2,h3,h4,fun hp=>?_⟩
 obtain ⟨b,off,rfl,hc⟩:=h5 hp
 exact ⟨b,off,rfl,fun i hi j u hu=>k.cell (hc i hi j u hu) (hn b (by simp [blk]))⟩
def NodeOk (k f:Nat):Prop:=∀ (T:Nat→Prop) (mv:Value) (L:Prs) (w:World),IAt T k w mv L→L≠[]→Srt (hsZ k) L→Fit L→L.length≤1000000000→Pre (hsZ k) (64 - f) L→(∀ y,w.heap.size≤y→T y) →
  Calls Tryz.prog 60 #[.int .i64 k,mv,.int .i64 ((64 - f:Nat):Int)] w fun e w'=>e = .returned (.agg (brow (nodP (hsZ k) f L)))∧Kept [] w w'
set_option maxHeartbeats 8000000 in
theorem xb4d (k f:Nat) (hf:f≤63) (hN:NodeOk k f) (T:Nat→Prop) (mv:Value) (L:Prs) (w:World) (hM:IAt T k w mv L) (hne0:L≠[]) (hs:Srt (hsZ k) L) (hfit:Fit L) (hl:L.length≤1000000000) (hpre:Pre (hsZ k) (63 - f) L) :
  Calls Tryz.prog 65 #[.int .i64 k,mv,.int .i64 ((63 - f:Nat):Int)] w fun e w'=>∃ v,e = .returned (.agg #[.int .u16 (bm (hsZ k) (63 - f) L:Nat),v])∧RdD w' v ((kidsL (hsZ k) (63 - f) L).map (nodP (hsZ k) f))∧(∀ x∈blk v,w.heap.size≤x)∧Kept [] w w':=by
 obtain ⟨d,hd⟩:∃ d,63 - f = d:=⟨_,rfl⟩
 have hd1:64 - f = d + 1:=by omega
 have hdl:d < 64:=by omega
 unfold NodeOk at hN
 rw [hd1] at hN
 rw [hd] at hpre ⊢
 have HNO:=hide hN
 obtain ⟨T',hT'⟩:∃ T':Nat→Prop,T' = fun x=>lowS T w x∨w.heap.size + 1 + 1≤x:=⟨_,rfl⟩
 have HT1:=hide (show ∀ x,T' x→x≠w.heap.size + 1 by intro x hx; rw [hT'] at hx; rcases hx with h | h; have:=h.2; omega; omega)
 have HT:=hide (show ∀ y,w.heap.size + 1 + 1≤y→T' y by intro y hy; rw [hT']; exact Or.inr hy)
 have HM:=hide (show IAt T' k w mv L from hM.shrink.mono (by intro x hx; rw [hT']; exact Or.inl hx))
 clear hT' hne0
 have HS:=hide hs
 have HFI:=hide hfit
 have HPR:=hide hpre
 obtain ⟨ma,mc,ml,rfl,_⟩:=hM.parts
 clear hM
 have HG0:=hide (heap_alloc_new w (.cells #[.int .u16 0,.slice none 0 0] 72))
 have HK0:=hide ((Kept.refl [] w).alloc (.cells #[.int .u16 0,.slice none 0 0] 72))
 obtain ⟨W1,hW1⟩:∃ W1,w.alloc (.cells #[.int .u16 0,.slice none 0 0] 72) = W1:=⟨_,rfl⟩
 rw [hW1] at HG0 HK0
 have HG1:=hide (heap_alloc_new W1 (.cells #[.int .u16 0,.slice none 0 0] 72))
 have HK1:=hide ((Kept.refl [] W1).alloc (.cells #[.int .u16 0,.slice none 0 0] 72))
 have HG02:=hide ((uh HK1).heap (uh HG0) (by simp))
 obtain ⟨W2,hW2⟩:∃ W2,W1.alloc (.cells #[.int .u16 0,.slice none 0 0] 72) = W2:=⟨_,rfl⟩
 rw [hW2] at HG1 HK1 HG02
 have HKW:=hide ((uh HK0).trans (uh HK1) (by simp))
 have hz1:W1.heap.size = w.heap.size + 1:=by rw [← hW1]; simp
 have hz2:W2.heap.size = w.heap.size + 1 + 1:=by rw [← hW2]; simp [hz1]
 rw [hz1] at HG1
 have HZ2:=hide hz2
 have HZ1:=hide hz1
 have HWD:=hide (show IntKind.i64.wrap ((d:Int) + 1) = (d:Int) + 1 by simp [IntKind.wrap,IntKind.signed,IntKind.bits]; omega)
 clear hz1 hz2 hN hs hfit hpre HK0 HK1 HG0
 go_enter Tryz.func65,Tryz.ntmps65
 go_upto_region 2 with fail
 try rw [hW1]
 try rw [hW2]
 rw [uh HZ1]
 clear hW1 hW2
 go_wp2_with fail
 go_loopw [8] (fun t8 wr=>∃ (i:Nat) (v:Value),t8 = .int .i64 i∧i≤16∧Hid (wr.heap[w.heap.size + 1]? = some (.cells #[.int .u16 (bmI (hsZ k) d L i:Nat),v] 72 (0,0)))∧Hid (wr.ownsRow W2.heap.size 64 32 v (kidI (hsZ k) f d L i).length (dgR (kidI (hsZ k) f d L i)).flatten)∧Hid (Kept [w.heap.size + 1] W2 wr)) (fun t _=>16 - (intOf t).toNat)
 case atStart=>exact ⟨0,_,rfl,Nat.zero_le _,HG1,hide (World.ownsRow_nil _ _ _ _),hide (Kept.refl _ _)⟩
 case round =>
  obtain ⟨i,v,rfl,hi,HG,HO,HKr⟩:=hrel
  by_cases hlt:i < 16
  ·have hlt':(i:Int) < 16:=by omega
   have HKwr:=hide (show Kept [] w wr from (uh HKW).trans (uh HKr) (by intro x hx; simp at hx; right; omega))
   go_wp2_with fail
   refine Calls.mono (xb3k T' k d i _ L wr ((uh HM).agr (Agr.nil (uh HKwr))) hdl hlt hl (fun y hy=>uh HT y (by have:=(uh HKr).size; have:=uh HZ2; omega))) ?_
   rintro e w3 ⟨v3,rfl,hc3,k3⟩
   have HC3:=hide hc3
   have HG3:=hide (k3.heap (uh HG) (by simp))
   have HO3:=hide (k3.owns (uh HO) (by simp))
   have HK3:=hide (show Kept [w.heap.size + 1] W2 w3 from (uh HKr).trans k3 (by simp))
   obtain ⟨ca,cc,cl,rfl,_⟩:=hc3.parts
   have hcl:=ch_len (hsZ k) d i L
   have HCL:=hide (Nat.le_trans hcl hl)
   clear hc3 k3 hcl
   by_cases hne:ch (hsZ k) d i L = []
   ·have hem:(ch (hsZ k) d i L).isEmpty = true:=by rw [hne]; rfl
    have HB:=hide (bmI_no hem)
    have HKi:=hide (xc0e (f:=f) hem)
    have hln:(ch (hsZ k) d i L).length = 0:=by rw [hne]; rfl
    rw [hln]
    clear hne hem hln
    go_wp2_with fail
    refine ⟨⟨i + 1,v,by go_num,hlt,hide (by rw [uh HB]; exact uh HG3),hide (by rw [uh HKi]; exact uh HO3),HK3⟩,?_⟩
    simp [intOf]; omega
   ·have hem:(ch (hsZ k) d i L).isEmpty = false:=by cases h:ch (hsZ k) d i L with
     | nil=>exact absurd h hne
     | cons y M=>rfl
    have HB:=hide (xb9c hem)
    have HKi:=hide (xb8e (f:=f) hem)
    have hpos:0 < (ch (hsZ k) d i L).length:=by cases h:ch (hsZ k) d i L with
     | nil=>exact absurd h hne
     | cons y M=>simp
    have HNE:=hide hne
    have HSr:=hide ((uh HS).ch d i)
    have HFr:=hide (show Fit (ch (hsZ k) d i L) from (uh HFI).sub (fun x hx=>ch_sub x hx))
    have HPr:=hide (xb5n (i:=i) (uh HPR))
    have hkl:=xb8f (hsZ k) f d L i
    have hkd:=xb1b k f d L i
    have hbl:=bmI_lt (hsZ k) d L i
    have hb2:bmI (hsZ k) d L i + 2 ^ i < 65536:=by
     have h1:2 ^ (i + 1)≤2 ^ 16:=Nat.pow_le_pow_right (by omega) (by omega)
     rw [Nat.pow_succ] at h1; omega
    have hDi:Dg (nodP (hsZ k) f (ch (hsZ k) d i L)):=nod_dg k f _
    generalize bmI (hsZ k) d L i = B at HG3 HB hb2 hbl
    generalize kidI (hsZ k) f d L i = KI at HO3 HKi hkl hkd
    generalize ch (hsZ k) d i L = C at HC3 HCL HNE HSr HFr HPr hpos HB HKi hDi hem ⊢
    generalize hCn:C.length = cn at HC3 hpos ⊢
    have hgt:(cn:Int) > 0:=by omega
    have hgt2:(0:Int) < cn:=by omega
    have HCn:=hide hCn
    clear hne hem hCn
    obtain ⟨vo,vc,rfl⟩:=xa0m (uh HO3)
    have c0:w3.cell? ⟨w.heap.size + 1,0,none⟩ = some (.int .u16 (B:Nat)):=by rw [cell_of_row _ _ _ _ _ _ (uh HG3)]; rfl
    have c1:w3.cell? ⟨w.heap.size + 1,1,none⟩ = some (.slice vo KI.length vc):=by rw [cell_of_row _ _ _ _ _ _ (uh HG3)]; rfl
    have HC0:=hide c0
    have hwr1:IntKind.u16.wrap ((B:Int) + ((2 ^ i:Nat):Int)) = ((B + 2 ^ i:Nat):Int):=by
     rw [← Int.natCast_add]
     generalize B + 2 ^ i = z at hb2 ⊢
     simp [IntKind.wrap,IntKind.signed,IntKind.bits]; omega
    obtain ⟨B2,hB2⟩:∃ B2,B + 2 ^ i = B2:=⟨_,rfl⟩
    rw [hB2] at hwr1 HB
    obtain ⟨PW,hPW⟩:∃ PW:Nat,2 ^ i = PW:=⟨_,rfl⟩
    rw [hPW] at hwr1
    have HSH:=hide (fun (P:Program) (o:Oper) (a:Act) (W:World) (t t2:TypeId) (y:Operand) (ho:o.op = .binOp .shl t (.const (.int .u16 1)) y t2) (hy:a.eval y = .int .i64 (i:Int))=>by
     have h9:=xb5d (P:=P) W t t2 y ho i (by omega) hy
     rw [hPW] at h9
     exact h9)
    clear hb2 hB2 hPW hbl c0 c1
    have HOW:=hide (fun x hx=>(uh HO3).lt x hx)
    go_upto_region 7 with fail
    have hd3:=(Kept.refl [w.heap.size + 1] w3).drew
    refine lr_t7 (by kernel_rfl) (by kernel_rfl) rfl (fun W=>Kept [] w3 W) (Kept.refl [] w3).drew ?_
    refine LinY.rd (.pointer (some ⟨w.heap.size + 1,0,none⟩)) (fun W hW=>by go_simp) (by simp only [Act.put,sa1,sa2,sa3]; rfl) ?_
    refine LinY.rd (.int .u16 (B:Nat)) (fun W hW=>by have h9:=hW.cell (uh HC0) (by simp); go_simp) (by simp only [Act.put,sa1,sa2,sa3]; rfl) ?_
    refine LinY.rd (.int .i64 i) (fun W hW=>by go_simp) (by simp only [Act.put,sa1,sa2,sa3]; rfl) ?_
    refine LinY.rd (.int .u16 (PW:Nat)) (fun W hW=>uh HSH _ _ _ W _ _ _ rfl rfl) (by simp only [Act.put,sa1,sa2,sa3]; rfl) ?_
    refine LinY.rd (.int .u16 (B2:Nat)) (fun W hW=>by go_simp) (by simp only [Act.put,sa1,sa2,sa3]; rfl) ?_
    refine LinY.rd (.pointer (some ⟨w.heap.size + 1,0,none⟩)) (fun W hW=>by go_simp) (by simp only [Act.put,sa1,sa2,sa3]; rfl) ?_
    refine LinY.fin (ChL.fin (xa3u 69 (.tmp 26) (.tmp 25) rfl (w.heap.size + 1) 0 72 #[.int .u16 (B:Nat),.slice vo KI.length vc] #[.int .u16 (B2:Nat),.slice vo KI.length vc] (.int .u16 (B2:Nat)) rfl rfl ((Kept.refl [] w3).drew.heap (uh HG3) (by simp)) (by simp) Tryz.size_u16 rfl rfl ?_))
    have HG4:=hide (setRow_heap _ _ _ #[.int .u16 (B2:Nat),.slice vo KI.length vc] _ _ ((Kept.refl [] w3).drew.heap (uh HG3) (by simp)))
    have HK34:=hide (((Kept.refl [w.heap.size + 1] w3).drew).setRow (g:=w.heap.size + 1) (Or.inl (by simp)) #[.int .u16 (B2:Nat),.slice vo KI.length vc])
    have HO4:=hide ((uh HK34).owns (uh HO3) (fun x hx hm=>by have h1:=uh HOW x hx; have h2:=uh HZ2; simp at hm; omega))
    obtain ⟨W4,hW4⟩:∃ W4,w3.drew.setRow (w.heap.size + 1) #[.int .u16 (B2:Nat),.slice vo KI.length vc] = W4:=⟨_,rfl⟩
    rw [hW4] at HG4 HK34 HO4 ⊢
    clear hW4 HC0 HSH HG3 HO3
    have HK4:=hide (show Kept [w.heap.size + 1] W2 W4 from (uh HK3).trans (uh HK34) (by intro x hx; left; exact hx))
    have HKw4:=hide (show Kept [] w W4 from (uh HKW).trans (uh HK4) (by intro x hx; simp at hx; right; omega))
    have HC4:=hide (show IAt T' k W4 (.slice ca cn cc) C from (uh HC3).agr ⟨(uh HK34).size,fun x hx hl=>(uh HK34).block x hl (by
     intro hm
     simp at hm
     exact uh HT1 x hx hm)⟩)
    have c4:W4.cell? ⟨w.heap.size + 1,1,none⟩ = some (.slice vo KI.length vc):=by rw [cell_of_row _ _ _ _ _ _ (uh HG4)]; rfl
    have HC5:=hide c4
    clear c4
    go_upto_region 8 with fail
    obtain ⟨OB,hOB⟩:∃ OB,(Value.slice vo KI.length vc).ownBlock = OB:=⟨_,rfl⟩
    have hOBn:w.heap.size + 1∉OB.toList:=by
     intro hm
     rw [← hOB] at hm
     have h1:=uh HOW (w.heap.size + 1) (by simpa using hm)
     have h2:=uh HZ2
     omega
    have hd4:=(Kept.refl [] W4).drew
    refine lr_t8 (by kernel_rfl) (by kernel_rfl) rfl (fun W=>Kept OB.toList W4 W) (hd4.mono (by simp)) ?_
    refine LinY.rd (.pointer (some ⟨w.heap.size + 1,1,none⟩)) (fun W hW=>by go_simp) (by simp only [Act.put,sa1,sa2,sa3]; rfl) ?_
    refine LinY.rd (.slice vo KI.length vc) (fun W hW=>by have h9:=hW.cell (uh HC5) hOBn; go_simp) (by simp only [Act.put,sa1,sa2,sa3]; rfl) ?_
    refine LinY.rd (.int .i64 k) (fun W hW=>by go_simp) (by simp only [Act.put,sa1,sa2,sa3]; rfl) ?_
    refine LinY.rd (.slice ca cn cc) (fun W hW=>by go_simp) (by simp only [Act.put,sa1,sa2,sa3]; rfl) ?_
    refine LinY.rd (.int .i64 d) (fun W hW=>by go_simp) (by simp only [Act.put,sa1,sa2,sa3]; rfl) ?_
    refine LinY.rd (.int .i64 ((d + 1:Nat):Int)) (fun W hW=>by have h9:=uh HWD; go_simp) (by simp only [Act.put,sa1,sa2,sa3]; rfl) ?_
    refine LinY.fin (ChL.call rfl Tryz.call60 [.int .i64 k,.slice ca cn cc,.int .i64 ((d + 1:Nat):Int)] rfl (uh HNO T' _ C W4.drew ((uh HC4).agr (Agr.nil hd4)) (uh HNE) (uh HSr) (uh HFr) (uh HCL) (uh HPr) (fun y hy=>uh HT y (by have h1:=(uh HK4).size; have h2:=hd4.size; have h3:=uh HZ2; omega))) ?_)
    rintro e w5 ⟨rfl,k5⟩
    have hk5:=hd4.trans k5 (by simp)
    refine ⟨_,rfl,hk5.mono (by simp),?_⟩
    simp only [Act.put,sa1,sa2,sa3]
    obtain ⟨N,hN⟩:∃ N,nodP (hsZ k) f C = N:=⟨_,rfl⟩
    rw [hN] at HKi hDi ⊢
    clear hN
    have hka:=(Kept.refl [] w5).alloc (.cells (brow N) 64)
    have hk6:=hk5.trans hka (by simp)
    refine ChL.op (.slice (some ⟨w5.heap.size,0,none⟩) 1 1) (xb4h w5 (.tmp 33) rfl N hDi.1 rfl) (hk6.mono (by simp)) (by simp only [Act.put,sa1,sa2,sa3]; rfl) ?_
    have hrl:RdC 32 (w5.alloc (.cells (brow N) 64)) (.slice (some ⟨w5.heap.size,0,none⟩) 1 1) (dgR [N]):=⟨_,1,1,rfl,rfl,Nat.le_refl _,by omega,fun _=>⟨w5.heap.size,0,rfl,fun j hj=>by
     have h0:j = 0:=by simp [dgR] at hj; omega
     subst h0
     exact xa0j [] (N.map u8) [] (by rw [List.nil_append,List.append_nil]; exact heap_alloc_new w5 _) rfl⟩⟩
    refine ChL.app 70 64 (.tmp 28) (.tmp 34) rfl rfl _ W2.heap.size (.agg (zb 32)) 32 32 Tryz.underlying70 Tryz.infoDg3 rfl (by decide) (.slice vo KI.length vc) KI.length (dgR KI).flatten (hk6.owns (uh HO4) (by simp)) (some ⟨w5.heap.size,0,none⟩) 1 1 (dgR [N]) hrl (xb2n (by intro x hx; simp at hx; subst hx; exact hDi)) xc0c (by omega) (by omega) (by have h1:=(uh HK4).size; have h2:=hk6.size; omega) rfl rfl ?_
    intro ao7 c7 w7 HO7 HG7 HA7
    have hg7:=uh HG7
    rw [hOB] at hg7
    have hk7:=(Kept.refl OB.toList _).grown hg7 (by intro x hx; left; simp [hx])
    have hk47:=(hk6.mono (M:=OB.toList) (by simp)).trans hk7 (fun x hx=>Or.inl hx)
    refine ⟨hk47,?_⟩
    simp only [Act.put,sa1,sa2,sa3]
    refine ChL.op (.pointer (some ⟨w.heap.size + 1,1,none⟩)) (by go_simp) hk47 (by simp only [Act.put,sa1,sa2,sa3]; rfl) ?_
    have hgx:=hk47.heap (uh HG4) hOBn
    refine ChL.fin (xa3u 70 (.tmp 36) (.tmp 35) rfl (w.heap.size + 1) 1 72 #[.int .u16 (B2:Nat),.slice vo KI.length vc] #[.int .u16 (B2:Nat),.slice ao7 (KI.length + 1) c7] (.slice ao7 (KI.length + 1) c7) rfl rfl hgx (by simp) Tryz.size_dgs rfl rfl ?_)
    have HG8:=hide (setRow_heap _ _ _ #[.int .u16 (B2:Nat),.slice ao7 (KI.length + 1) c7] _ _ hgx)
    have hk78:=(Kept.refl [w.heap.size + 1] w7).setRow (g:=w.heap.size + 1) (Or.inl (by simp)) #[.int .u16 (B2:Nat),.slice ao7 (KI.length + 1) c7]
    have HO8:=hide (hk78.owns (uh HO7) (fun x hx hm=>by
     have h1:=(uh HO7).lt x hx
     have h2:=uh HZ2
     simp at hm; omega))
    have HK8:=hide (show Kept [w.heap.size + 1] W2 (w7.setRow (w.heap.size + 1) #[.int .u16 (B2:Nat),.slice ao7 (KI.length + 1) c7]) from ((uh HK4).trans hk47 (fun x hx=>by
     right
     rw [← hOB] at hx
     exact (uh HOW x (by simpa using hx)).1)).trans hk78 (fun x hx=>Or.inl hx))
    have hlen:(KI++[N]).length = KI.length + 1:=by simp
    have hrows:(dgR (KI++[N])).flatten = (dgR KI).flatten++(dgR [N]).flatten:=by simp [dgR]
    clear hk78 hgx hk47 hk7 hg7 hrl hk6 hka hk5 k5 hd4
    generalize w7.setRow (w.heap.size + 1) #[.int .u16 (B2:Nat),.slice ao7 (KI.length + 1) c7] = W8 at HG8 HO8 HK8 ⊢
    go_wp2_with fail
    refine ⟨⟨i + 1,.slice ao7 (KI.length + 1) c7,by go_num,hlt,hide (by rw [uh HB]; exact uh HG8),hide (by rw [uh HKi,hlen,hrows]; exact uh HO8),HK8⟩,?_⟩
    simp [intOf]; omega
  ·have hie:i = 16:=by omega
   subst hie
   have hlt':¬ ((16:Nat):Int) < 16:=by omega
   have hrd:=xb8m (xa1f (by rw [show (dgR (kidI (hsZ k) f d L 16)).length = (kidI (hsZ k) f d L 16).length by simp [dgR]]; exact uh HO) (xb2n (xb1b k f d L 16))) (xb1b k f d L 16)
   rw [xb7c] at hrd
   have hbm:bmI (hsZ k) d L 16 = bm (hsZ k) d L:=xc0l _ _ _
   have hG:=uh HG
   rw [hbm] at hG
   have hown:=fun x hx=>(uh HO).lt x hx
   obtain ⟨vo,vc,rfl⟩:=xa0m (uh HO)
   have hbl:∀ x∈blk (.slice vo (kidI (hsZ k) f d L 16).length vc),w.heap.size + 1 + 1≤x:=fun x hx=>by
    have h2:=uh HZ2
    rcases (uh HO).2 with ⟨e,_⟩ | ⟨g,c,cur,e,hg,_⟩
    ·injection e with e1; subst e1; simp [blk] at hx
    ·injection e with e1; subst e1; have:x = g:=by simpa [blk] using hx
     omega
   generalize (kidI (hsZ k) f d L 16).length = kl at hG hrd hbl ⊢
   have HG9:=hide hG
   have HRD:=hide hrd
   have HBL:=hide hbl
   have HZR:=hide ((uh HKr).heap (uh HG02) (by simp))
   have HKw:=hide (show Kept [] w wr from (uh HKW).trans (uh HKr) (by intro x hx; simp at hx; right; omega))
   clear hG hrd hbl hown hbm HG HO
   have c0:wr.cell? ⟨w.heap.size + 1,0,none⟩ = some (.int .u16 (bm (hsZ k) d L:Nat)):=by rw [cell_of_row _ _ _ _ _ _ (uh HG9)]; rfl
   have c1:wr.cell? ⟨w.heap.size + 1,1,none⟩ = some (.slice vo kl vc):=by rw [cell_of_row _ _ _ _ _ _ (uh HG9)]; rfl
   have r0:wr.cell? ⟨w.heap.size,0,none⟩ = some (.int .u16 0):=by rw [cell_of_row _ _ _ _ _ _ (uh HZR)]; rfl
   have r1:wr.cell? ⟨w.heap.size,1,none⟩ = some (.slice none 0 0):=by rw [cell_of_row _ _ _ _ _ _ (uh HZR)]; rfl
   have z0:=frozen_of_row _ _ 0 _ _ (uh HZR)
   have z1:=frozen_of_row _ _ 1 _ _ (uh HZR)
   go_wp2_with fail
   have k9:=((Kept.refl [w.heap.size] wr).setCell (p:=⟨w.heap.size,0,none⟩) (Or.inl (by simp)) (.int .u16 (bm (hsZ k) d L:Nat))).setCell (p:=⟨w.heap.size,1,none⟩) (Or.inl (by simp)) (.slice vo kl vc)
   refine bodyPost_ret (v:=.agg #[.int .u16 (bm (hsZ k) d L:Nat),.slice vo kl vc]) ?_ rfl ⟨.slice vo kl vc,rfl,xb8j (uh HRD) k9 (fun x hx hm=>by have:=uh HBL x hx; simp at hm; omega),fun x hx=>by have:=uh HBL x hx; omega,((uh HKw).setCell (p:=⟨w.heap.size,0,none⟩) (Or.inr (Nat.le_refl _)) _).setCell (p:=⟨w.heap.size,1,none⟩) (Or.inr (Nat.le_refl _)) _⟩
   exact results_cell_row rfl _ _ w.heap.size 72 #[.int .u16 (bm (hsZ k) d L:Nat),.slice vo kl vc] (0,0) _ rfl (by rw [heap_setCell_same _ w.heap.size 1 _ _ _ (heap_setCell_same _ w.heap.size 0 _ _ _ (uh HZR))]; rfl) Tryz.underlying72 rfl Tryz.size_stp
theorem xa7i (S:Nat→Prop) (k:Nat) (mv:Value) (L:Prs) (w:World) (hM:MapAt S k w mv L) :
  Calls Tryz.prog 24 #[mv] w fun e w'=>e = .returned (.int .i64 (L.length:Nat))∧Kept [] w w':=by
 obtain ⟨hk,hs,hfit,hlen,g,tv,rfl,hSg,hh,htop⟩:=hM
 have c1:w.cell? ⟨g,1,none⟩ = some (.int .i64 (L.length:Nat)):=by rw [cell_of_row _ _ _ _ _ _ hh]; rfl
 clear hh htop hs hfit
 go_enter Tryz.func24,Tryz.ntmps24
 go_wp2
 go_ret
 exact ⟨rfl,Kept.refl _ _⟩
theorem xb7i (S:Nat→Prop) (k:Nat) (mv:Value) (L:Prs) (w:World) (hM:MapAt S k w mv L) :
  Calls Tryz.prog 34 #[mv] w fun e w'=>e = .returned (.int .i64 k)∧Kept [] w w':=by
 obtain ⟨hk,hs,hfit,hlen,g,tv,rfl,hSg,hh,htop⟩:=hM
 have c1:w.cell? ⟨g,0,none⟩ = some (.int .i64 k):=by rw [cell_of_row _ _ _ _ _ _ hh]; rfl
 clear hh htop hs hfit
 go_enter Tryz.func34,Tryz.ntmps34
 go_wp2
 go_ret
 exact ⟨rfl,Kept.refl _ _⟩
theorem xb2w (k:Int):Tryz.prog.built 82 [(0,.int .i64 k)] = some #[.int .i64 k,.int .i64 0,.nilIface]:=by kernel_rfl
theorem xb2m (S:Nat→Prop) (k:Nat) (w:World) (hk:1≤k∧k≤32) (hS:∀ y,w.heap.size≤y→S y) :
  Calls Tryz.prog 10 #[.int .i64 k] w fun e w'=>∃ m',e = .returned (.tuple #[m',.int .i64 0])∧MapAt S k w' m' []∧Kept [] w w':=by
 have h1:¬ (k:Int) < 1:=by omega
 have h2:¬ (32:Int) < k:=by omega
 have h3:¬ (k:Int) > 32:=by omega
 go_enter Tryz.func10,Tryz.ntmps10
 go_wp2_with (refine xa0q rfl 82 _ rfl #[.int .i64 k,.int .i64 0,.nilIface] (by simp only [List.map_toArray,List.map_cons,List.map_nil]; exact xb2w k) ?_)
 go_ret2
 exact ⟨_,rfl,⟨hk,List.Pairwise.nil,fun p hp=>by simp at hp,by simp,w.heap.size,.nilIface,rfl,hS _ (Nat.le_refl _),heap_alloc_new w _,Or.inl ⟨rfl,rfl⟩⟩,(Kept.refl [] w).alloc _⟩
def rootP (k:Nat) (L:Prs):List Nat:=if L.isEmpty then cutL k (hash [5]) else nodP (hsZ k) 64 L
set_option maxHeartbeats 2000000 in
theorem xa8e (S:Nat→Prop) (k:Nat) (mv:Value) (L:Prs) (w:World) (hM:MapAt S k w mv L) (hT:Tabs w) :
  Calls Tryz.prog 32 #[mv] w fun e w'=>e = .returned (.agg (brow (rootP k L)))∧Kept [] w w':=by
 obtain ⟨hk,hs,hfit,hlen,g,tv,rfl,hSg,hh,htop⟩:=hM
 have c0:w.cell? ⟨g,0,none⟩ = some (.int .i64 k):=by rw [cell_of_row _ _ _ _ _ _ hh]; rfl
 have c2:w.cell? ⟨g,2,none⟩ = some tv:=by rw [cell_of_row _ _ _ _ _ _ hh]; rfl
 have HZ0:=hide (heap_alloc_new w (.cells (zb 32) 64))
 have HK0:=hide ((Kept.refl [] w).alloc (.cells (zb 32) 64))
 have c0a:∀ o,(w.alloc o).cell? ⟨g,0,none⟩ = some (.int .i64 k):=fun o=>((Kept.refl [] w).alloc o).cell c0 (by simp)
 have c2a:∀ o,(w.alloc o).cell? ⟨g,2,none⟩ = some tv:=fun o=>((Kept.refl [] w).alloc o).cell c2 (by simp)
 have HTb:=hide hT
 have he1:=en_bk
 have he2:=en_br
 have he3:=en_nil
 have hg1:=eg_bk
 have hg2:=eg_br
 rcases htop with ⟨rfl,rfl⟩ | ht
 ·obtain ⟨O,hO⟩:∃ O,cutL k (hash [5]) = O:=⟨_,rfl⟩
  have hOl:O.length = 32:=by rw [← hO]; exact xa0u k (hash [5]) (by omega) (xa1e [5])
  have hR:rootP k [] = O:=hO
  rw [hR]
  have HO:=hide hO
  clear hO hR hh hT c0 c2
  go_enter Tryz.func32,Tryz.ntmps32
  go_wp2_with fail
  rw [zb32]
  refine Calls.mono (xb4s k _ (by omega) (wide_k hk) ((uh HTb).k (uh HK0))) ?_
  rintro e w1 ⟨rfl,k1⟩
  rw [Int.toNat_natCast,uh HO]
  have HK1:=hide ((uh HK0).trans k1 (by simp))
  have HZ1:=hide (k1.heap (uh HZ0) (by simp))
  have hlt:=lt_of_block (uh HZ1)
  clear k1 c0a c2a
  have HN1:=hide (heap_alloc_new w1 (.cells (zb 32) 64))
  have HN2:=hide (setRow_heap _ _ _ (brow O) _ _ (uh HN1))
  have HK12:=hide ((Kept.refl [] w1).alloc (.cells (zb 32) 64) |>.setRow (g:=w1.heap.size) (Or.inr (Nat.le_refl _)) (brow O))
  have HZ2:=hide ((uh HK12).heap (uh HZ1) (by simp))
  have HK2:=hide ((uh HK1).trans (uh HK12) (by simp))
  go_wp2_with (first
   | (rw [zb32]; refine wpList_store_row rfl 64 (.tmp 3) (.tmp 21) rfl w1.heap.size (brow O) rfl rfl _ (zb 32) (uh HN1) (by rw [xa0a,hOl]; exact Tryz.size_dig) (by rw [xa0k,xa0a,hOl]) (xa0g _) ?_)
   | (refine wpList_load_row rfl 64 (.tmp 3) rfl w1.heap.size rfl 64 (brow O) (0,0) _ (uh HN2) Tryz.underlying64 rfl (by rw [xa0a,hOl]; exact Tryz.size_dig) ?_)
   | (refine wpList_store_row rfl 64 (.tmp 2) (.tmp 23) rfl w.heap.size (brow O) rfl rfl _ (zb 32) (uh HZ2) (by rw [xa0a,hOl]; exact Tryz.size_dig) (by rw [xa0k,xa0a,hOl]) (xa0g _) ?_))
  refine bodyPost_ret (v:=.agg (brow O)) ?_ rfl ⟨rfl,(uh HK2).setRow (Or.inr (Nat.le_refl _)) _⟩
  exact results_cell_row rfl _ _ w.heap.size _ (brow O) (0,0) _ rfl (setRow_heap _ _ _ _ _ _ (uh HZ2)) Tryz.underlying64 rfl (by rw [xa0a,hOl]; exact Tryz.size_dig)
 ·have hne:=ht.ne
  have hR:rootP k L = nodP (hsZ k) 64 L:=by
   unfold rootP
   cases L with
   | nil=>exact absurd rfl hne
   | cons y L=>rfl
  rw [hR]
  have hO2:=(nod_dg k 64 L).1
  have hown:=ht.own
  generalize nodP (hsZ k) 64 L = O at hown hO2
  clear hR hh hT c0 c2 ht hne
  rcases hown with ⟨g1,D,pv,hs1,rfl,hD,hh1⟩ | ⟨g1,x,kv,hs1,rfl,hh1⟩
  ·have HH:=hide (((Kept.refl [] w).alloc (.cells (zb 32) 64)).heap hh1 (by simp))
   clear hh1 hs1
   go_enter Tryz.func32,Tryz.ntmps32
   go_wp2_with fail
   rw [zb32]
   refine Calls.mono (xb2z g1 D O pv _ (uh HH) hD hO2) ?_
   rintro e w1 ⟨rfl,k1⟩
   have HK1:=hide ((uh HK0).trans k1 (by simp))
   have HZ1:=hide (k1.heap (uh HZ0) (by simp))
   clear k1 c0a c2a
   go_wp2_with (refine wpList_store_row rfl 64 (.tmp 2) (.tmp 28) rfl w.heap.size (brow O) rfl rfl _ (zb 32) (uh HZ1) (by rw [xa0a,hO2]; exact Tryz.size_dig) (by rw [xa0k,xa0a,hO2]) (xa0g _) ?_)
   refine bodyPost_ret (v:=.agg (brow O)) ?_ rfl ⟨rfl,(uh HK1).setRow (Or.inr (Nat.le_refl _)) _⟩
   exact results_cell_row rfl _ _ w.heap.size _ (brow O) (0,0) _ rfl (setRow_heap _ _ _ _ _ _ (uh HZ1)) Tryz.underlying64 rfl (by rw [xa0a,hO2]; exact Tryz.size_dig)
  ·have HH:=hide (((Kept.refl [] w).alloc (.cells (zb 32) 64)).heap hh1 (by simp))
   clear hh1 hs1
   go_enter Tryz.func32,Tryz.ntmps32
   go_wp2_with fail
   rw [zb32]
   refine Calls.mono (xb3g g1 x O kv _ (uh HH) hO2) ?_
   rintro e w1 ⟨rfl,k1⟩
   have HK1:=hide ((uh HK0).trans k1 (by simp))
   have HZ1:=hide (k1.heap (uh HZ0) (by simp))
   clear k1 c0a c2a
   go_wp2_with (refine wpList_store_row rfl 64 (.tmp 2) (.tmp 28) rfl w.heap.size (brow O) rfl rfl _ (zb 32) (uh HZ1) (by rw [xa0a,hO2]; exact Tryz.size_dig) (by rw [xa0k,xa0a,hO2]) (xa0g _) ?_)
   refine bodyPost_ret (v:=.agg (brow O)) ?_ rfl ⟨rfl,(uh HK1).setRow (Or.inr (Nat.le_refl _)) _⟩
   exact results_cell_row rfl _ _ w.heap.size _ (brow O) (0,0) _ rfl (setRow_heap _ _ _ _ _ _ (uh HZ1)) Tryz.underlying64 rfl (by rw [xa0a,hO2]; exact Tryz.size_dig)
set_option maxHeartbeats 4000000 in
theorem xa9k (k:Nat) (hk:1≤k∧k≤32):∀ f,f≤64→NodeOk k f
 | f,hf=>by
  intro T mv L w hM hne hs hfit hl hpre hT
  have HM:=hide hM
  obtain ⟨ao,c,l,rfl,hc1,hc2,hll,hpr,hcell⟩:=hM.parts
  have HZ0:=hide (heap_alloc_new w (.cells (zb 32) 64))
  have HK0:=hide ((Kept.refl [] w).alloc (.cells (zb 32) 64))
  have hNd:=nod_dg k f L
  have HPB:=hide (show (pairB L).length≤1000000000000 by have:=xa3h hfit; omega)
  have HS:=hide hs
  have HFI:=hide hfit
  have HPR:=hide hpre
  cases hsg:sgl (hsZ k) L with
  | true =>
   have hE:nodP (hsZ k) f L = sumD (k:Int) (buckB L):=xb5y hsg
   obtain ⟨C,hC⟩:∃ C,nodP (hsZ k) f L = C:=⟨_,rfl⟩
   rw [hC] at hE hNd ⊢
   have HE:=hide hE
   have HSG:=hide hsg
   have hcl:=hNd.1
   have HS2:=hide (by rw [xa0a,hcl]; exact Tryz.size_dig:(Tryz.prog.info? 64).map (·.size) = some (brow C).size)
   clear hM hcell hpr hs hfit hpre hE hC hsg hNd
   go_enter Tryz.func60,Tryz.ntmps60
   go_wp2_with fail
   rw [zb32]
   refine Calls.mono (xa6u T k _ L _ hk ((uh HM).agr (Agr.nil (uh HK0))) (uh HS) hl) ?_
   rintro e w1 ⟨rfl,k1⟩
   rw [uh HSG]
   have HK1:=hide ((uh HK0).trans k1 (by simp))
   have HZ1:=hide (k1.heap (uh HZ0) (by simp))
   clear k1
   go_wp2_with fail
   refine Calls.mono (xa7w T k _ L w1 ((uh HM).agr (Agr.nil (uh HK1))) hl) ?_
   rintro e w2 ⟨v2,rfl,r2,k2⟩
   have HR2:=hide r2
   have HK2:=hide ((uh HK1).trans k2 (by simp))
   have HZ2:=hide (k2.heap (uh HZ1) (by simp))
   clear r2 k2
   go_wp2_with fail
   refine Calls.mono (xa6p k v2 L w2 hk (uh HR2) (uh HPB)) ?_
   rintro e w3 ⟨rfl,k3⟩
   rw [← uh HE]
   have HK3:=hide ((uh HK2).trans k3 (by simp))
   have HZ3:=hide (k3.heap (uh HZ2) (by simp))
   clear k3
   go_wp2_with (refine wpList_store_row rfl 64 _ _ rfl w.heap.size (brow C) rfl rfl _ (zb 32) (uh HZ3) (uh HS2) (by rw [xa0k,xa0a,hcl]) (xa0g _) ?_)
   refine bodyPost_ret (v:=.agg (brow C)) ?_ rfl ⟨rfl,(uh HK3).setRow (Or.inr (Nat.le_refl _)) _⟩
   exact results_cell_row rfl _ _ w.heap.size _ (brow C) (0,0) _ rfl (setRow_heap _ _ _ _ _ _ (uh HZ3)) Tryz.underlying64 rfl (uh HS2)
  | false =>
   match f,hf with
   | 0,_=>exact absurd (xb6o (hsZ_ok hk) hpre (by have:(hsZ k).wd = k:=rfl; omega)) (by rw [hsg]; simp)
   | f + 1,hf =>
    have IH:=hide (xa9k k hk f (by omega))
    have hE:nodP (hsZ k) (f + 1) L = sumD (k:Int) (branchB (k:Int) (bm (hsZ k) (63 - f) L) ((kidsL (hsZ k) (63 - f) L).map (nodP (hsZ k) f))):=by
     rw [nod_br hsg]; unfold kidsL; rw [List.map_map]; rfl
    obtain ⟨C,hC⟩:∃ C,nodP (hsZ k) (f + 1) L = C:=⟨_,rfl⟩
    rw [hC] at hE hNd ⊢
    have HE:=hide hE
    have HSG:=hide hsg
    have hcl:=hNd.1
    have hd:64 - (f + 1) = 63 - f:=by omega
    rw [hd] at HPR ⊢
    have HS2:=hide (by rw [xa0a,hcl]; exact Tryz.size_dig:(Tryz.prog.info? 64).map (·.size) = some (brow C).size)
    have hbl:=bm_lt (hsZ k) (63 - f) L
    have hkl:((kidsL (hsZ k) (63 - f) L).map (nodP (hsZ k) f)).length≤16:=by rw [List.length_map,xa3e]; exact cnt_le _ _
    have HST:=hide (fun w hM=>xb4d k f (by omega) (uh IH) T (.slice ao L.length c) L w hM hne (uh HS) (uh HFI) hl (uh HPR))
    generalize bm (hsZ k) (63 - f) L = BM at HE hbl HST
    generalize (kidsL (hsZ k) (63 - f) L).map (nodP (hsZ k) f) = KS at HE hkl HST
    generalize 63 - f = d at HST ⊢
    clear hM hcell hpr hs hfit hpre hE hC hsg hNd hd
    go_enter Tryz.func60,Tryz.ntmps60
    go_wp2_with fail
    rw [zb32]
    refine Calls.mono (xa6u T k _ L _ hk ((uh HM).agr (Agr.nil (uh HK0))) (uh HS) hl) ?_
    rintro e w1 ⟨rfl,k1⟩
    rw [uh HSG]
    have HK1:=hide ((uh HK0).trans k1 (by simp))
    have HZ1:=hide (k1.heap (uh HZ0) (by simp))
    clear k1
    go_wp2_with fail
    refine Calls.mono (uh HST w1 ((uh HM).agr (Agr.nil (uh HK1)))) ?_
    rintro e w2 ⟨v2,rfl,r2,n2,k2⟩
    obtain ⟨p1,p2,p3,rfl,_⟩:=id r2
    have HK2:=hide ((uh HK1).trans k2 (by simp))
    have HZ2:=hide (k2.heap (uh HZ1) (by simp))
    have HKS:=hide ((Kept.refl [] w2).alloc (.cells #[.int .u16 (BM:Nat),.slice p1 p2 p3] 72))
    have HR2:=hide (r2.old (uh HKS))
    have HQ:=hide (heap_alloc_new w2 (.cells #[.int .u16 (BM:Nat),.slice p1 p2 p3] 72))
    have HK3:=hide ((uh HK2).trans (uh HKS) (by simp))
    have HZ3:=hide ((uh HKS).heap (uh HZ2) (by simp))
    clear r2 k2 n2
    have c0:(w2.alloc (.cells #[.int .u16 (BM:Nat),.slice p1 p2 p3] 72)).cell? ⟨w2.heap.size,0,none⟩ = some (.int .u16 (BM:Nat)):=by rw [cell_of_row _ _ _ _ _ _ (uh HQ)]; rfl
    have c1:(w2.alloc (.cells #[.int .u16 (BM:Nat),.slice p1 p2 p3] 72)).cell? ⟨w2.heap.size,1,none⟩ = some (.slice p1 p2 p3):=by rw [cell_of_row _ _ _ _ _ _ (uh HQ)]; rfl
    go_wp2_with fail
    refine Calls.mono (xa6w k BM _ KS _ hk hbl (uh HR2) hkl) ?_
    rintro e w4 ⟨rfl,k4⟩
    rw [← uh HE]
    have HK4:=hide ((uh HK3).trans k4 (by simp))
    have HZ4:=hide (k4.heap (uh HZ3) (by simp))
    clear k4 c0 c1
    go_wp2_with (refine wpList_store_row rfl 64 _ _ rfl w.heap.size (brow C) rfl rfl _ (zb 32) (uh HZ4) (uh HS2) (by rw [xa0k,xa0a,hcl]) (xa0g _) ?_)
    refine bodyPost_ret (v:=.agg (brow C)) ?_ rfl ⟨rfl,(uh HK4).setRow (Or.inr (Nat.le_refl _)) _⟩
    exact results_cell_row rfl _ _ w.heap.size _ (brow C) (0,0) _ rfl (setRow_heap _ _ _ _ _ _ (uh HZ4)) Tryz.underlying64 rfl (uh HS2)
set_option maxHeartbeats 2000000 in
theorem xb0a (T:Nat→Prop) (k:Nat) (hk:1≤k∧k≤32) (mv:Value) (L:Prs) (w:World) (hM:IAt T k w mv L) (hs:Srt (hsZ k) L) (hfit:Fit L) (hl:L.length≤1000000000) (hT:∀ y,w.heap.size≤y→T y) :
  Calls Tryz.prog 35 #[.int .i64 k,mv] w fun e w'=>e = .returned (.agg (brow (rootP k L)))∧Kept [] w w':=by
 have HM:=hide hM
 obtain ⟨ao,c,l,rfl,hc1,hc2,hll,hpr,hcell⟩:=hM.parts
 have HZ0:=hide (heap_alloc_new w (.cells (zb 32) 64))
 have HK0:=hide ((Kept.refl [] w).alloc (.cells (zb 32) 64))
 clear hM hcell hpr
 by_cases h0:L = []
 ·subst h0
  obtain ⟨C,hC⟩:∃ C,cutL k (hash [5]) = C:=⟨_,rfl⟩
  have hcl:C.length = 32:=by rw [← hC]; exact xa0u k (hash [5]) (by omega) (xa1e [5])
  have hR:rootP k [] = C:=hC
  rw [hR]
  have HC:=hide hC
  have HS2:=hide (by rw [xa0a,hcl]; exact Tryz.size_dig:(Tryz.prog.info? 64).map (·.size) = some (brow C).size)
  clear hC hR
  go_enter Tryz.func35,Tryz.ntmps35
  go_wp2_with fail
  rw [zb32]
  refine Calls.mono (xa7r k _ (by omega)) ?_
  rintro e w1 ⟨rfl,k1⟩
  rw [uh HC]
  have HK1:=hide ((uh HK0).trans k1 (by simp))
  have HZ1:=hide (k1.heap (uh HZ0) (by simp))
  clear k1
  go_wp2_with (refine wpList_store_row rfl 64 _ _ rfl w.heap.size (brow C) rfl rfl _ (zb 32) (uh HZ1) (uh HS2) (by rw [xa0k,xa0a,hcl]) (xa0g _) ?_)
  refine bodyPost_ret (v:=.agg (brow C)) ?_ rfl ⟨rfl,(uh HK1).setRow (Or.inr (Nat.le_refl _)) _⟩
  exact results_cell_row rfl _ _ w.heap.size _ (brow C) (0,0) _ rfl (setRow_heap _ _ _ _ _ _ (uh HZ1)) Tryz.underlying64 rfl (uh HS2)
 ·have hR:rootP k L = nodP (hsZ k) 64 L:=by
   unfold rootP
   cases L with
   | nil=>exact absurd rfl h0
   | cons y L=>rfl
  have hp:0 < L.length:=by cases L with
   | nil=>exact absurd rfl h0
   | cons y L=>simp
  rw [hR]
  have hcl:=(nod_dg k 64 L).1
  have HN:=hide (fun w hM hT=>xa9k k hk 64 (Nat.le_refl _) T (.slice ao L.length c) L w hM h0 hs hfit hl (Pre.zero _ _) hT)
  rw [show ((64 - 64:Nat):Int) = 0 from rfl] at HN
  generalize nodP (hsZ k) 64 L = C at hcl HN ⊢
  have HS2:=hide (by rw [xa0a,hcl]; exact Tryz.size_dig:(Tryz.prog.info? 64).map (·.size) = some (brow C).size)
  have HT:=hide hT
  generalize hn:L.length = n at HM HN hp ⊢
  have q1:((n:Int) == 0) = false:=by rw [beq_eq_false_iff_ne]; omega
  have q2:¬ n = 0:=by omega
  clear hR hs hfit h0 hT hll hc1 hn
  go_enter Tryz.func35,Tryz.ntmps35
  go_wp2_with fail
  rw [zb32]
  refine Calls.mono (uh HN _ ((uh HM).agr (Agr.nil (uh HK0))) (fun y hy=>uh HT y (by have:=(uh HK0).size; omega))) ?_
  rintro e w1 ⟨rfl,k1⟩
  have HK1:=hide ((uh HK0).trans k1 (by simp))
  have HZ1:=hide (k1.heap (uh HZ0) (by simp))
  clear k1
  go_wp2_with (refine wpList_store_row rfl 64 _ _ rfl w.heap.size (brow C) rfl rfl _ (zb 32) (uh HZ1) (uh HS2) (by rw [xa0k,xa0a,hcl]) (xa0g _) ?_)
  refine bodyPost_ret (v:=.agg (brow C)) ?_ rfl ⟨rfl,(uh HK1).setRow (Or.inr (Nat.le_refl _)) _⟩
  exact results_cell_row rfl _ _ w.heap.size _ (brow C) (0,0) _ rfl (setRow_heap _ _ _ _ _ _ (uh HZ1)) Tryz.underlying64 rfl (uh HS2)

theorem xb2c {w w1:World} {row:Option Nat} {b:Nat} {o:Obj} (h:w.grownBy w1 row) (hb:w.heap[b]? = some o) (hn:row≠some b):w1.heap[b]? = some o:=by
 have k:=(Kept.refl row.toList w).grown h (by intro x hx; left; simp [hx])
 exact k.heap hb (by intro hm; exact hn (by simpa using hm))
theorem xb6x {H:Hs} {q v:List Nat} {s:Bool × Prs} {y:List Nat × List Nat}:putS H q v s y = (s.1 || decide (kc H q y.1≤0),(if s.1 = false∧kc H q y.1≤0 then s.2++[(q,v)] else s.2)++(if kc H q y.1 = 0 then [] else [y])):=rfl
set_option maxHeartbeats 8000000 in
theorem xb2q (T:Nat→Prop) (k:Nat) (mv qv uv:Value) (q u:List Nat) (L:Prs) (w:World) (hk:1≤k∧k≤32) (hM:IAt T k w mv L) (hs:Srt (hsZ k) L) (hq:Rd w qv q) (hu:Rd w uv u) (hql:q.length≤140737488351232) (hl:L.length≤1000000000) (hT:∀ y,w.heap.size≤y→T y) :
  Calls Tryz.prog 39 #[.int .i64 k,mv,qv,uv] w fun e w'=>∃ v',e = .returned v'∧IAt T k w' v' (insP (hsZ k) q u L)∧Kept [] w w':=by
 have HM:=hide hM
 obtain ⟨ao,c,l,rfl,hc1,hc2,hll,hpr,hcell⟩:=hM.parts
 have HCE:=hide hcell
 have HPR:=hide hpr
 obtain ⟨n,hn⟩:∃ n,L.length = n:=⟨_,rfl⟩
 have HN:=hide hn
 rw [hn] at hc1 hl hll HCE ⊢
 have HSR:=hide (xb6v (hsZ k) q u L hs)
 rw [hn] at HSR
 obtain ⟨R,hR⟩:∃ R,insP (hsZ k) q u L = R:=⟨_,rfl⟩
 rw [hR] at HSR ⊢
 have HQ:=hide hq
 have HU:=hide hu
 clear hM hcell hpr hn hq hu hs hR
 go_enter Tryz.func39,Tryz.ntmps39
 go_wp2_with fail
 refine Calls.mono (xb7z k qv uv q u w hk (uh HQ) (uh HU) hql) ?_
 rintro e w1 ⟨kz,vz,rfl,hkv,hnew,k1⟩
 obtain ⟨z1,z2,z3,rfl,_⟩:=id hkv.1
 obtain ⟨y1,y2,y3,rfl,_⟩:=id hkv.2
 obtain ⟨D0,hD0⟩:∃ D0,(hsZ k).kd q = D0:=⟨_,rfl⟩
 have hD0l:D0.length = 32:=by rw [← hD0]; exact xa0e _ _
 rw [hD0]
 have HD0:=hide hD0
 have HZ1:=hide (heap_alloc_new w1 (.cells zit 120))
 have HX0:=hide (setRow_heap _ _ _ (itC D0 (.slice z1 z2 z3) (.slice y1 y2 y3)).toArray _ _ (uh HZ1))
 have HK12:=hide ((Kept.refl [] w1).alloc (.cells zit 120) |>.setRow (g:=w1.heap.size) (Or.inr (Nat.le_refl _)) (itC D0 (.slice z1 z2 z3) (.slice y1 y2 y3)).toArray)
 obtain ⟨W0,hW0⟩:∃ W0,(w1.alloc (.cells zit 120)).setRow w1.heap.size (itC D0 (.slice z1 z2 z3) (.slice y1 y2 y3)).toArray = W0:=⟨_,rfl⟩
 rw [hW0] at HX0 HK12
 have HKW:=hide (k1.trans (uh HK12) (by simp))
 have HT0:=hide (show ∀ y,W0.heap.size≤y→T y from fun y hy=>hT y (by have:=(uh HKW).size; omega))
 have HSTQ:=hide (show Sty T W0 (fun w=>Rd w (.slice z1 z2 z3) q∧Rd w (.slice y1 y2 y3) u) from fun w' a=>⟨Sty.rd (hkv.1.old (uh HK12) (by simp)) (fun x hx=>hT x (hnew x (Or.inl hx))) w' a,Sty.rd (hkv.2.old (uh HK12) (by simp)) (fun x hx=>hT x (hnew x (Or.inr hx))) w' a⟩)
 have hM0:=(uh HM).agr (Agr.nil (uh HKW))
 have HPR:=hide ((uh HPR).agr (Agr.nil (uh HKW)))
 have HCE:=hide (fun h0:0 < n=>by
  obtain ⟨b,off,e,hTb,hcl⟩:=uh HCE h0
  exact (⟨b,off,e,hTb,fun i hi u z hz=>(uh HKW).cell (hcl i hi u z hz) (by simp)⟩:∃ b off,ao = some ⟨b,off,none⟩∧T b∧∀ i,i < n→W0.rangeAt b (off + i * 34) (itC ((hsZ k).kd (L.getD i ([],[])).1) (l.getD i (undef,undef)).1 (l.getD i (undef,undef)).2)))
 clear hM0 hkv hnew k1 hD0 HM
 go_wp2_with (rw [lit_it]; refine wpList_store_row rfl 120 (.tmp 9) (.tmp 18) rfl w1.heap.size (itC D0 (.slice z1 z2 z3) (.slice y1 y2 y3)).toArray rfl rfl _ zit (uh HZ1) (by rw [xa1a hD0l]; exact Tryz.size_it) (by rw [xa1a hD0l]; rfl) (xa7e rfl rfl) ?_; rw [hW0]; simp only [Act.put])
 go_loopw [10,11,21] (fun t10 t11 t21 wr=>∃ (j:Nat) (v:Value) (lx:List VP) (sb:Bool) (sl:Prs),t21 = .int .i64 j∧t10 = v∧t11 = .bool sb∧j≤n∧Hid (putI (hsZ k) q u L j = (sb,sl))∧Hid (ILay T W0.heap.size k wr v lx sl)∧Hid (Kept [] W0 wr)) (fun _ _ t _=>n - (intOf t).toNat)
 case atStart=>exact ⟨0,.slice none 0 0,[],false,[],rfl,rfl,rfl,Nat.zero_le _,hide rfl,hide (ILay.nil _ _ _ _),hide (Kept.refl _ _)⟩
 case round =>
  obtain ⟨j,v,lx,sb,sl,rfl,rfl,rfl,hj,HPI,HLx,HKr⟩:=hrel
  have HBND:=hide (show lx.length≤2000000000 by
   have h1:=xb3a (hsZ k) q u L j (by have:=uh HN; omega)
   rw [uh HPI] at h1
   have h2:=(uh HLx).pr.1
   have h3:sl.length≤2 * j:=h1
   omega)
  have HX:=hide ((uh HKr).heap (uh HX0) (by simp))
  by_cases hlt:j < n
  ·have hlt':(j:Int) < n:=by omega
   have HPS:=hide (show putI (hsZ k) q u L (j + 1) = putS (hsZ k) q u (sb,sl) (L.getD j ([],[])) by rw [← uh HPI]; exact xa9l (hsZ k) q u L j (by have:=uh HN; omega))
   obtain ⟨b,off,rfl,hTb,hcl⟩:=uh HCE (by omega)
   have hRG:=hcl j hlt
   have hone:=(uh HPR).one' j (by omega)
   have hrd:=(uh HPR).2 j (by omega)
   generalize (l.getD j (undef,undef)).1 = kx at hRG hone hrd
   generalize (l.getD j (undef,undef)).2 = vx at hRG hone hrd
   have HSNOC:=hide (show L.take (j + 1) = L.take j++[L.getD j ([],[])] by
    have hjL:j < L.length:=by have:=uh HN; omega
    rw [List.take_succ_eq_append_getElem hjL,List.getD_eq_getElem?_getD,List.getElem?_eq_getElem hjL]; rfl)
   generalize L.getD j ([],[]) = ej at hRG hrd HSNOC HPS
   obtain ⟨ka,va⟩:=ej
   have hDg:Dg ((hsZ k).kd ka):=xa2u _ _
   obtain ⟨D,hD⟩:∃ D,(hsZ k).kd ka = D:=⟨_,rfl⟩
   simp only [hD] at hRG
   rw [hD] at hDg
   have HD:=hide hD
   have HSTY:=hide hrd
   have HRG:=hide (show wr.rangeAt b (off + j * 34) (itC D kx vx) from fun u z hz=>(uh HKr).cell (hRG u z hz) (by simp))
   have HZ1:=hide (heap_alloc_new wr (.cells zit 120))
   have HN2:=hide (setRow_heap _ _ _ (itC D kx vx).toArray _ _ (uh HZ1))
   have HK12:=hide ((Kept.refl [] wr).alloc (.cells zit 120) |>.setRow (g:=wr.heap.size) (Or.inr (Nat.le_refl _)) (itC D kx vx).toArray)
   obtain ⟨W2,hW2⟩:∃ W2,(wr.alloc (.cells zit 120)).setRow wr.heap.size (itC D kx vx).toArray = W2:=⟨_,rfl⟩
   rw [hW2] at HN2 HK12
   have HK2:=hide ((uh HKr).trans (uh HK12) (by simp))
   have hwsz:W0.heap.size≤wr.heap.size:=by have:=(uh HKr).size; omega
   obtain ⟨rD2,cK2,cV2⟩:=it_row (uh HN2) hDg.1
   have HRD2:=hide rD2
   have HCK2:=hide cK2
   have HCV2:=hide cV2
   have HPA2:=hide (xb2f (uh HN2) hDg.1)
   obtain ⟨kx1,kx2,kx3,rfl,_⟩:=hrd.now.1
   obtain ⟨vx1,vx2,vx3,rfl,_⟩:=hrd.now.2
   clear hrd hRG hcl rD2 hD hDg hone
   have HX2:=hide ((uh HK12).heap (uh HX) (by simp))
   go_wp2_with (first
    | (refine wpList_load_row rfl 120 (.tmp 9) rfl w1.heap.size rfl 120 (itC D0 (.slice z1 z2 z3) (.slice y1 y2 y3)).toArray (0,0) _ (uh HX2) Tryz.underlying120 rfl (by rw [xa1a hD0l]; exact Tryz.size_it) ?_)
    | (refine wpList_load_row rfl 120 (.tmp 13) rfl wr.heap.size rfl 120 (itC D (.slice kx1 kx2 kx3) (.slice vx1 vx2 vx3)).toArray (0,0) _ (uh HN2) Tryz.underlying120 rfl (by rw [xa1a (by rw [← uh HD]; exact xa0e _ _)]; exact Tryz.size_it) ?_)
    | (first
   | (refine wpList_load_mid rfl 120 (.tmp 23) rfl b (off + j * 34) rfl (itC D (.slice kx1 kx2 kx3) (.slice vx1 vx2 vx3)) _ (uh HRG) Tryz.underlying120 rfl (by rw [xa2e (by rw [← uh HD]; exact xa0e _ _)]; exact Tryz.size_it) ?_)
   | (rw [lit_it]; refine wpList_store_row rfl 120 (.tmp 13) (.tmp 24) rfl wr.heap.size (itC D (.slice kx1 kx2 kx3) (.slice vx1 vx2 vx3)).toArray rfl rfl _ zit (uh HZ1) (by rw [xa1a (by rw [← uh HD]; exact xa0e _ _)]; exact Tryz.size_it) (by rw [xa1a (by rw [← uh HD]; exact xa0e _ _)]; rfl) (xa7e rfl rfl) ?_; rw [hW2]; simp only [Act.put])))
   have hoc:=xb0p k (.slice z1 z2 z3) (.slice y1 y2 y3) (.slice kx1 kx2 kx3) (.slice vx1 vx2 vx3) q ka u va W2 (uh HSTQ W2 (Agr.nil (uh HK2))).1 (uh HSTY W2 (Agr.nil (uh HK2))).1 (uh HSTQ W2 (Agr.nil (uh HK2))).2 (uh HSTY W2 (Agr.nil (uh HK2))).2
   rw [uh HD,uh HD0] at hoc
   refine Calls.mono hoc ?_
   clear hoc
   rintro e w4 ⟨rfl,k4⟩
   have HN4:=hide (k4.heap (uh HN2) (by simp))
   have HX4:=hide (k4.heap (uh HX2) (by simp))
   have HK4:=hide ((uh HK2).trans k4 (by simp))
   have HL4:=hide (((uh HLx).agr (uh HK12)).agr k4)
   have hsg:=xb7b (hsZ k) q ka
   rw [xb6x] at HPS
   generalize ordI (hsZ k) q ka = z at hsg ⊢
   have hle:kc (hsZ k) q ka≤0↔z≤0:=by
    constructor
    ·intro h
     rcases Int.lt_or_eq_of_le h with g | g
     ·have:=hsg.1.2 g; omega
     ·have:=hsg.2.2 g; omega
    ·intro h
     rcases Int.lt_or_eq_of_le h with g | g
     ·have:=hsg.1.1 g; omega
     ·have:=hsg.2.1 g; omega
   have heq:kc (hsZ k) q ka = 0↔z = 0:=hsg.2.symm
   have HLE:=hide hle
   have HEQ:=hide heq
   clear k4 hsg hle heq
   cases sb with
   | true =>
    by_cases hz0:z = 0
    ·have HC:=hide ((uh HEQ).2 hz0)
     subst hz0
     go_wp2_with fail
     refine ⟨⟨j + 1,_,lx,true,sl,by go_num,rfl,rfl,hlt,hide (by rw [uh HPS]; simp [uh HC]),HL4,HK4⟩,?_⟩
     simp [intOf]; omega
    ·have HC:=hide (show ¬ kc (hsZ k) q ka = 0 from fun h=>hz0 ((uh HEQ).1 h))
     have hz2:((z != 0):Bool) = true:=by rw [bne_iff_ne]; exact hz0
     obtain ⟨vo,vc,rfl⟩:=xa0m (uh HL4).own
     have hown:∀ z,(Value.slice vo lx.length vc).ownBlock = some z→W0.heap.size≤z:=fun z hz=>((uh HL4).own.lt z hz).1
     have HW5:=hide (heap_alloc_new w4 (.cells (itC D (.slice kx1 kx2 kx3) (.slice vx1 vx2 vx3)).toArray 120))
     have HK45:=hide ((Kept.refl [] w4).alloc (.cells (itC D (.slice kx1 kx2 kx3) (.slice vx1 vx2 vx3)).toArray 120))
     have HL5:=hide ((uh HL4).agr (uh HK45))
     have HK5:=hide ((uh HK4).trans (uh HK45) (by simp))
     have HRL:=hide (lit_rd (k:=k) (q:=ka) (v:=va) (kv:=(.slice kx1 kx2 kx3)) (vv:=(.slice vx1 vx2 vx3)) (by rw [uh HD]; exact uh HW5))
     have hln:=(uh HL4).pr.1
     have hbnd:=uh HBND
     clear hln hz0
     go_wp2_with (first
   | (refine wpList_load_row rfl 120 (.tmp 13) rfl wr.heap.size rfl 120 (itC D (.slice kx1 kx2 kx3) (.slice vx1 vx2 vx3)).toArray (0,0) _ (uh HN4) Tryz.underlying120 rfl (by rw [xa1a (by rw [← uh HD]; exact xa0e _ _)]; exact Tryz.size_it) ?_)
   | (refine xa1c rfl (.tmp 41) rfl (itC D (.slice kx1 kx2 kx3) (.slice vx1 vx2 vx3)) (xa2e (by rw [← uh HD]; exact xa0e _ _) _ _) rfl ?_)
   | (at_builtin; refine xa0f rfl 35 120 (.tmp 40) (.tmp 42) rfl rfl _ W0.heap.size (.agg zit) 34 80 Tryz.underlying35 Tryz.infoIt rfl (by decide) (.slice vo lx.length vc) lx.length (itR k lx (sl)).flatten (uh HL5).own (some ⟨w4.heap.size,0,none⟩) 1 1 (itR k [((.slice kx1 kx2 kx3),(.slice vx1 vx2 vx3))] [(ka,va)]) (uh HRL) xa2p (xa4l rfl rfl) (by omega) (by omega) (uh HK5).size rfl rfl ?_; intro ao7 c7 w7 HO7 HG7 HA7))
     have HS7:=hide ((uh HL5).snoc (a:=ka) (b:=va) (sty_up (uh HSTY) (uh HK5) hown) (uh HO7) (uh HG7) (uh HA7))
     have HK7:=hide ((uh HK5).grown (uh HG7) (fun z hz=>Or.inr (hown z hz)))
     clear hown hbnd
     refine ⟨⟨j + 1,.slice ao7 (lx.length + 1) c7,_,true,sl++[(ka,va)],by go_num,rfl,rfl,hlt,hide (by rw [uh HPS]; simp [uh HC]),HS7,HK7⟩,?_⟩
     simp [intOf]; omega
   | false =>
    by_cases hz0:z = 0
    ·have HC:=hide ((uh HEQ).2 hz0)
     subst hz0
     obtain ⟨vo,vc,rfl⟩:=xa0m (uh HL4).own
     have hown:∀ z,(Value.slice vo lx.length vc).ownBlock = some z→W0.heap.size≤z:=fun z hz=>((uh HL4).own.lt z hz).1
     have HW5:=hide (heap_alloc_new w4 (.cells (itC D0 (.slice z1 z2 z3) (.slice y1 y2 y3)).toArray 120))
     have HK45:=hide ((Kept.refl [] w4).alloc (.cells (itC D0 (.slice z1 z2 z3) (.slice y1 y2 y3)).toArray 120))
     have HL5:=hide ((uh HL4).agr (uh HK45))
     have HK5:=hide ((uh HK4).trans (uh HK45) (by simp))
     have HRL:=hide (lit_rd (k:=k) (q:=q) (v:=u) (kv:=(.slice z1 z2 z3)) (vv:=(.slice y1 y2 y3)) (by rw [uh HD0]; exact uh HW5))
     have hln:=(uh HL4).pr.1
     have hbnd:=uh HBND
     clear hln
     go_wp2_with (first
   | (refine wpList_load_row rfl 120 (.tmp 9) rfl w1.heap.size rfl 120 (itC D0 (.slice z1 z2 z3) (.slice y1 y2 y3)).toArray (0,0) _ (uh HX4) Tryz.underlying120 rfl (by rw [xa1a (by rw [← uh HD0]; exact xa0e _ _)]; exact Tryz.size_it) ?_)
   | (refine xa1c rfl (.tmp 35) rfl (itC D0 (.slice z1 z2 z3) (.slice y1 y2 y3)) (xa2e (by rw [← uh HD0]; exact xa0e _ _) _ _) rfl ?_)
   | (at_builtin; refine xa0f rfl 35 120 (.tmp 34) (.tmp 36) rfl rfl _ W0.heap.size (.agg zit) 34 80 Tryz.underlying35 Tryz.infoIt rfl (by decide) (.slice vo lx.length vc) lx.length (itR k lx (sl)).flatten (uh HL5).own (some ⟨w4.heap.size,0,none⟩) 1 1 (itR k [((.slice z1 z2 z3),(.slice y1 y2 y3))] [(q,u)]) (uh HRL) xa2p (xa4l rfl rfl) (by omega) (by omega) (uh HK5).size rfl rfl ?_; intro ao7 c7 w7 HO7 HG7 HA7))
     have HS7:=hide ((uh HL5).snoc (a:=q) (b:=u) (sty_up (uh HSTQ) (uh HK5) hown) (uh HO7) (uh HG7) (uh HA7))
     have HK7:=hide ((uh HK5).grown (uh HG7) (fun z hz=>Or.inr (hown z hz)))
     clear hown hbnd
     refine ⟨⟨j + 1,.slice ao7 (lx.length + 1) c7,_,true,sl++[(q,u)],by go_num,rfl,rfl,hlt,hide (by rw [uh HPS]; simp [uh HC]),HS7,HK7⟩,?_⟩
     simp [intOf]; omega
    ·have HC:=hide (show ¬ kc (hsZ k) q ka = 0 from fun h=>hz0 ((uh HEQ).1 h))
     have hz2:((z != 0):Bool) = true:=by rw [bne_iff_ne]; exact hz0
     by_cases hz1:z≤0
     ·have HC2:=hide ((uh HLE).2 hz1)
      obtain ⟨vo,vc,rfl⟩:=xa0m (uh HL4).own
      have hown:∀ z,(Value.slice vo lx.length vc).ownBlock = some z→W0.heap.size≤z:=fun z hz=>((uh HL4).own.lt z hz).1
      have HW5:=hide (heap_alloc_new w4 (.cells (itC D0 (.slice z1 z2 z3) (.slice y1 y2 y3)).toArray 120))
      have HK45:=hide ((Kept.refl [] w4).alloc (.cells (itC D0 (.slice z1 z2 z3) (.slice y1 y2 y3)).toArray 120))
      have HL5:=hide ((uh HL4).agr (uh HK45))
      have HK5:=hide ((uh HK4).trans (uh HK45) (by simp))
      have HRL:=hide (lit_rd (k:=k) (q:=q) (v:=u) (kv:=(.slice z1 z2 z3)) (vv:=(.slice y1 y2 y3)) (by rw [uh HD0]; exact uh HW5))
      have hln:=(uh HL4).pr.1
      have hbnd:=uh HBND
      have HLT:=hide (fun z hz=>((uh HLx).own.lt z hz).2)
      clear hln hz0
      go_upto_region 12 with (first
   | (refine wpList_load_row rfl 120 (.tmp 9) rfl w1.heap.size rfl 120 (itC D0 (.slice z1 z2 z3) (.slice y1 y2 y3)).toArray (0,0) _ (uh HX4) Tryz.underlying120 rfl (by rw [xa1a (by rw [← uh HD0]; exact xa0e _ _)]; exact Tryz.size_it) ?_)
   | (refine xa1c rfl (.tmp 35) rfl (itC D0 (.slice z1 z2 z3) (.slice y1 y2 y3)) (xa2e (by rw [← uh HD0]; exact xa0e _ _) _ _) rfl ?_)
   | (at_builtin; refine xa0f rfl 35 120 (.tmp 34) (.tmp 36) rfl rfl _ W0.heap.size (.agg zit) 34 80 Tryz.underlying35 Tryz.infoIt rfl (by decide) (.slice vo lx.length vc) lx.length (itR k lx (sl)).flatten (uh HL5).own (some ⟨w4.heap.size,0,none⟩) 1 1 (itR k [((.slice z1 z2 z3),(.slice y1 y2 y3))] [(q,u)]) (uh HRL) xa2p (xa4l rfl rfl) (by omega) (by omega) (uh HK5).size rfl rfl ?_; intro ao7 c7 w7 HO7 HG7 HA7))
      have HS7:=hide ((uh HL5).snoc (a:=q) (b:=u) (sty_up (uh HSTQ) (uh HK5) hown) (uh HO7) (uh HG7) (uh HA7))
      have HK7:=hide ((uh HK5).grown (uh HG7) (fun z hz=>Or.inr (hown z hz)))
      have HN7:=hide (xb2c (uh HG7) ((uh HK45).heap (uh HN4) (by simp)) (fun e=>by have h1:=uh HLT _ e; omega))
      have hlen2:lx.length + 1 = (lx++[(((.slice z1 z2 z3):Value),((.slice y1 y2 y3):Value))]).length:=by simp
      rw [hlen2] at HS7 ⊢
      have HBN2:=hide (show (lx++[(((.slice z1 z2 z3):Value),((.slice y1 y2 y3):Value))]).length≤2000000001 by rw [← hlen2]; omega)
      clear hown hlen2 HLT hbnd HO7 HG7 HA7 HL5 HK5 HRL HW5 HK45
      generalize lx++[(((.slice z1 z2 z3):Value),((.slice y1 y2 y3):Value))] = lx2 at HS7 HBN2 ⊢
      have hown:∀ z,(Value.slice ao7 lx2.length c7).ownBlock = some z→W0.heap.size≤z:=fun z hz=>((uh HS7).own.lt z hz).1
      have HW5:=hide (heap_alloc_new w7 (.cells (itC D (.slice kx1 kx2 kx3) (.slice vx1 vx2 vx3)).toArray 120))
      have HK45:=hide ((Kept.refl [] w7).alloc (.cells (itC D (.slice kx1 kx2 kx3) (.slice vx1 vx2 vx3)).toArray 120))
      have HL5:=hide ((uh HS7).agr (uh HK45))
      have HK5:=hide ((uh HK7).trans (uh HK45) (by simp))
      have HRL:=hide (lit_rd (k:=k) (q:=ka) (v:=va) (kv:=(.slice kx1 kx2 kx3)) (vv:=(.slice vx1 vx2 vx3)) (by rw [uh HD]; exact uh HW5))
      have hln:=(uh HS7).pr.1
      have hbnd:=uh HBN2
      clear hln
      go_wp2_with (first
   | (refine wpList_load_row rfl 120 (.tmp 13) rfl wr.heap.size rfl 120 (itC D (.slice kx1 kx2 kx3) (.slice vx1 vx2 vx3)).toArray (0,0) _ (uh HN7) Tryz.underlying120 rfl (by rw [xa1a (by rw [← uh HD]; exact xa0e _ _)]; exact Tryz.size_it) ?_)
   | (refine xa1c rfl (.tmp 41) rfl (itC D (.slice kx1 kx2 kx3) (.slice vx1 vx2 vx3)) (xa2e (by rw [← uh HD]; exact xa0e _ _) _ _) rfl ?_)
   | (at_builtin; refine xa0f rfl 35 120 (.tmp 40) (.tmp 42) rfl rfl _ W0.heap.size (.agg zit) 34 80 Tryz.underlying35 Tryz.infoIt rfl (by decide) (.slice ao7 lx2.length c7) lx2.length (itR k lx2 (sl++[(q,u)])).flatten (uh HL5).own (some ⟨w7.heap.size,0,none⟩) 1 1 (itR k [((.slice kx1 kx2 kx3),(.slice vx1 vx2 vx3))] [(ka,va)]) (uh HRL) xa2p (xa4l rfl rfl) (by omega) (by omega) (uh HK5).size rfl rfl ?_; intro ao8 c8 w8 HO8 HG8 HA8))
      have HS8:=hide ((uh HL5).snoc (a:=ka) (b:=va) (sty_up (uh HSTY) (uh HK5) hown) (uh HO8) (uh HG8) (uh HA8))
      have HK8:=hide ((uh HK5).grown (uh HG8) (fun z hz=>Or.inr (hown z hz)))
      clear hown hbnd
      refine ⟨⟨j + 1,.slice ao8 (lx2.length + 1) c8,_,true,sl++[(q,u)]++[(ka,va)],by go_num,rfl,rfl,hlt,hide (by rw [uh HPS]; simp [uh HC,uh HC2]),HS8,HK8⟩,?_⟩
      simp [intOf]; omega
     ·have HC2:=hide (show ¬ kc (hsZ k) q ka≤0 from fun h=>hz1 ((uh HLE).1 h))
      obtain ⟨vo,vc,rfl⟩:=xa0m (uh HL4).own
      have hown:∀ z,(Value.slice vo lx.length vc).ownBlock = some z→W0.heap.size≤z:=fun z hz=>((uh HL4).own.lt z hz).1
      have HW5:=hide (heap_alloc_new w4 (.cells (itC D (.slice kx1 kx2 kx3) (.slice vx1 vx2 vx3)).toArray 120))
      have HK45:=hide ((Kept.refl [] w4).alloc (.cells (itC D (.slice kx1 kx2 kx3) (.slice vx1 vx2 vx3)).toArray 120))
      have HL5:=hide ((uh HL4).agr (uh HK45))
      have HK5:=hide ((uh HK4).trans (uh HK45) (by simp))
      have HRL:=hide (lit_rd (k:=k) (q:=ka) (v:=va) (kv:=(.slice kx1 kx2 kx3)) (vv:=(.slice vx1 vx2 vx3)) (by rw [uh HD]; exact uh HW5))
      have hln:=(uh HL4).pr.1
      have hbnd:=uh HBND
      clear hln hz0
      go_wp2_with (first
   | (refine wpList_load_row rfl 120 (.tmp 13) rfl wr.heap.size rfl 120 (itC D (.slice kx1 kx2 kx3) (.slice vx1 vx2 vx3)).toArray (0,0) _ (uh HN4) Tryz.underlying120 rfl (by rw [xa1a (by rw [← uh HD]; exact xa0e _ _)]; exact Tryz.size_it) ?_)
   | (refine xa1c rfl (.tmp 41) rfl (itC D (.slice kx1 kx2 kx3) (.slice vx1 vx2 vx3)) (xa2e (by rw [← uh HD]; exact xa0e _ _) _ _) rfl ?_)
   | (at_builtin; refine xa0f rfl 35 120 (.tmp 40) (.tmp 42) rfl rfl _ W0.heap.size (.agg zit) 34 80 Tryz.underlying35 Tryz.infoIt rfl (by decide) (.slice vo lx.length vc) lx.length (itR k lx (sl)).flatten (uh HL5).own (some ⟨w4.heap.size,0,none⟩) 1 1 (itR k [((.slice kx1 kx2 kx3),(.slice vx1 vx2 vx3))] [(ka,va)]) (uh HRL) xa2p (xa4l rfl rfl) (by omega) (by omega) (uh HK5).size rfl rfl ?_; intro ao7 c7 w7 HO7 HG7 HA7))
      have HS7:=hide ((uh HL5).snoc (a:=ka) (b:=va) (sty_up (uh HSTY) (uh HK5) hown) (uh HO7) (uh HG7) (uh HA7))
      have HK7:=hide ((uh HK5).grown (uh HG7) (fun z hz=>Or.inr (hown z hz)))
      clear hown hbnd
      refine ⟨⟨j + 1,.slice ao7 (lx.length + 1) c7,_,false,sl++[(ka,va)],by go_num,rfl,rfl,hlt,hide (by rw [uh HPS]; simp [uh HC,uh HC2]),HS7,HK7⟩,?_⟩
      simp [intOf]; omega
  ·have hje:j = n:=by omega
   subst hje
   have hlt':¬ (j:Int) < j:=by omega
   have HAL:=hide (show putF q u (sb,sl) = R by rw [← uh HPI]; exact uh HSR)
   cases sb with
   | true =>
    go_wp2
    go_ret
    have h9:=(uh HLx).at_ (uh HT0)
    have h8:sl = R:=uh HAL
    rw [h8] at h9
    exact ⟨_,rfl,h9,(uh HKW).trans (uh HKr) (by simp)⟩
   | false =>
    have HLw:=HLx
    have HKw:=HKr
    obtain ⟨vo,vc,rfl⟩:=xa0m (uh HLw).own
    have hown:∀ z,(Value.slice vo lx.length vc).ownBlock = some z→W0.heap.size≤z:=fun z hz=>((uh HLw).own.lt z hz).1
    have HW5:=hide (heap_alloc_new wr (.cells (itC D0 (.slice z1 z2 z3) (.slice y1 y2 y3)).toArray 120))
    have HK45:=hide ((Kept.refl [] wr).alloc (.cells (itC D0 (.slice z1 z2 z3) (.slice y1 y2 y3)).toArray 120))
    have HL5:=hide ((uh HLw).agr (uh HK45))
    have HK5:=hide ((uh HKw).trans (uh HK45) (by simp))
    have HRL:=hide (lit_rd (k:=k) (q:=q) (v:=u) (kv:=(.slice z1 z2 z3)) (vv:=(.slice y1 y2 y3)) (by rw [uh HD0]; exact uh HW5))
    have hln:=(uh HLw).pr.1
    have hbnd:lx.length≤2000000000:=uh HBND
    clear hln
    go_wp2_with (first
   | (refine wpList_load_row rfl 120 (.tmp 9) rfl w1.heap.size rfl 120 (itC D0 (.slice z1 z2 z3) (.slice y1 y2 y3)).toArray (0,0) _ (uh HX) Tryz.underlying120 rfl (by rw [xa1a (by rw [← uh HD0]; exact xa0e _ _)]; exact Tryz.size_it) ?_)
   | (refine xa1c rfl (.tmp 48) rfl (itC D0 (.slice z1 z2 z3) (.slice y1 y2 y3)) (xa2e (by rw [← uh HD0]; exact xa0e _ _) _ _) rfl ?_)
   | (at_builtin; refine xa0f rfl 35 120 (.tmp 47) (.tmp 49) rfl rfl _ W0.heap.size (.agg zit) 34 80 Tryz.underlying35 Tryz.infoIt rfl (by decide) (.slice vo lx.length vc) lx.length (itR k lx (sl)).flatten (uh HL5).own (some ⟨wr.heap.size,0,none⟩) 1 1 (itR k [((.slice z1 z2 z3),(.slice y1 y2 y3))] [(q,u)]) (uh HRL) xa2p (xa4l rfl rfl) (by omega) (by omega) (uh HK5).size rfl rfl ?_; intro ao7 c7 w7 HO7 HG7 HA7))
    have HS7:=hide ((uh HL5).snoc (a:=q) (b:=u) (sty_up (uh HSTQ) (uh HK5) hown) (uh HO7) (uh HG7) (uh HA7))
    have HK7:=hide ((uh HK5).grown (uh HG7) (fun z hz=>Or.inr (hown z hz)))
    go_ret
    have h9:=(uh HS7).at_ (uh HT0)
    have h8:sl++[(q,u)] = R:=uh HAL
    rw [h8] at h9
    exact ⟨_,rfl,h9,(uh HKW).trans (uh HK7) (by simp)⟩
end
theorem xa6k {H:Hs} {k v:List Nat} {L:Prs} (h:Srt H L) (q:List Nat):getP q (insP H k v L) = if q = k then some v else getP q L:=by
 by_cases e:q = k
 ·subst e
  rw [if_pos rfl,xa3b (h.ins q v)]
  exact (xa2f h _).2 (Or.inl rfl)
 ·rw [if_neg e]
  cases hg:getP q L with
  | none =>
   rw [xa2c] at hg ⊢
   intro y hy e2
   rcases (xa2f h y).1 hy with rfl | ⟨hm,_⟩
   ·exact e e2.symm
   ·exact hg y hm e2
  | some u =>
   rw [xa3b h] at hg
   rw [xa3b (h.ins k v)]
   exact (xa2f h _).2 (Or.inr ⟨hg,e⟩)
theorem xb9d {H:Hs} {k:List Nat} {L:Prs} (h:Srt H L) (q:List Nat):getP q (delP k L) = if q = k then none else getP q L:=by
 by_cases e:q = k
 ·subst e
  rw [if_pos rfl,xa2c]
  exact fun y hy=>((xa4x y).1 hy).2
 ·rw [if_neg e]
  cases hg:getP q L with
  | none =>
   rw [xa2c] at hg ⊢
   exact fun y hy=>hg y ((xa4x y).1 hy).1
  | some u =>
   rw [xa3b h] at hg
   rw [xa3b (h.del k)]
   exact (xa4x _).2 ⟨hg,e⟩
theorem xb9w {H:Hs} {L M:Prs} (hL:Srt H L) (hM:Srt H M) (h:∀ q,getP q L = getP q M):L = M :=
 xb6g hL hM (fun y=>by rw [show y = (y.1,y.2) from rfl,← xa3b hL,← xa3b hM,h])
def insAll (H:Hs) (L:Prs) (ps:Prs):Prs:=ps.foldl (fun M p=>insP H p.1 p.2 M) L
def delAll (L:Prs) (ps:Prs):Prs:=ps.foldl (fun M p=>delP p.1 M) L
theorem Srt.insAll {H:Hs}:∀ (ps:Prs) {L:Prs},Srt H L→Srt H (insAll H L ps)
 | [],_,h=>h
 | p :: ps,_,h=>Srt.insAll ps (h.ins p.1 p.2)
theorem Srt.delAll {H:Hs}:∀ (ps:Prs) {L:Prs},Srt H L→Srt H (delAll L ps)
 | [],_,h=>h
 | p :: ps,_,h=>Srt.delAll ps (h.del p.1)
theorem xa3k (H:Hs) (L ps:Prs) (p:List Nat × List Nat):insAll H L (ps++[p]) = insP H p.1 p.2 (insAll H L ps):=by
 unfold insAll; rw [List.foldl_append]; rfl
theorem xb0g (L ps:Prs) (p:List Nat × List Nat):delAll L (ps++[p]) = delP p.1 (delAll L ps):=by
 unfold delAll; rw [List.foldl_append]; rfl
theorem xa4n (H:Hs):Srt H []:=List.Pairwise.nil
def lv (q:List Nat):Prs→Option (List Nat)
 | []=>none
 | p :: ps=>(lv q ps).or (if p.1 = q then some p.2 else none)
theorem xb2h (q:List Nat) (p:List Nat × List Nat) (ps:Prs):lv q (p :: ps) = (lv q ps).or (if p.1 = q then some p.2 else none):=rfl
theorem lv_app (q:List Nat):∀ (a b:Prs),lv q (a++b) = (lv q b).or (lv q a)
 | [],b=>by simp [lv]
 | p :: a,b=>by simp only [List.cons_append,lv,lv_app q a b,Option.or_assoc]
theorem xa8v {q:List Nat}:∀ {ps:Prs},lv q ps = none↔∀ p∈ps,p.1≠q
 | []=>by simp [lv]
 | p :: ps=>by
  rw [xb2h,Option.or_eq_none_iff,xa8v]
  constructor
  ·rintro ⟨h1,h2⟩ x hx
   rcases List.mem_cons.1 hx with rfl | hx
   ·intro e; rw [if_pos e] at h2; cases h2
   ·exact h1 x hx
  ·intro h
   exact ⟨fun x hx=>h x (List.mem_cons_of_mem _ hx),if_neg (h p (by simp))⟩
theorem xa4j {H:Hs} (q:List Nat):∀ (ps:Prs) {L:Prs},Srt H L→getP q (insAll H L ps) = (lv q ps).or (getP q L)
 | [],_,_=>by simp [insAll,lv]
 | p :: ps,L,h=>by
  show getP q (insAll H (insP H p.1 p.2 L) ps) = _
  rw [xa4j q ps (h.ins p.1 p.2),xa6k h]
  rw [xb2h,Option.or_assoc]
  congr 1
  by_cases e:q = p.1
  ·rw [if_pos e,if_pos e.symm]; rfl
  ·rw [if_neg e,if_neg (fun g=>e g.symm)]; rfl
theorem xa6o {H:Hs} (q:List Nat):∀ (ps:Prs) {L:Prs},Srt H L→getP q (delAll L ps) = if ∃ p∈ps,p.1 = q then none else getP q L
 | [],_,_=>by simp [delAll]
 | p :: ps,L,h=>by
  show getP q (delAll (delP p.1 L) ps) = _
  rw [xa6o q ps (h.del p.1),xb9d h]
  by_cases e:∃ x∈ps,x.1 = q
  ·rw [if_pos e,if_pos (by obtain ⟨x,hx,g⟩:=e; exact ⟨x,List.mem_cons_of_mem _ hx,g⟩)]
  ·rw [if_neg e]
   by_cases g:q = p.1
   ·rw [if_pos g,if_pos ⟨p,by simp,g.symm⟩]
   ·rw [if_neg g,if_neg]
    rintro ⟨x,hx,e2⟩
    rcases List.mem_cons.1 hx with rfl | hx
    ·exact g e2.symm
    ·exact e ⟨x,hx,e2⟩
def bkL:Prs→Prs
 | []=>[]
 | p :: ps=>bkL ps++(if ps.any (fun x=>decide (x.1 = p.1)) = true then [] else [p])
theorem lv_bk (q:List Nat):∀ l:Prs,lv q (bkL l) = lv q l
 | []=>rfl
 | p :: ps=>by
  unfold bkL
  rw [lv_app,lv_bk q ps,xb2h]
  by_cases h:ps.any (fun x=>decide (x.1 = p.1)) = true
  ·rw [if_pos h]
   simp only [lv,Option.none_or]
   by_cases e:p.1 = q
   ·cases hg:lv q ps with
    | some v=>rfl
    | none =>
     exfalso
     rw [List.any_eq_true] at h
     obtain ⟨x,hx,hd⟩:=h
     exact xa8v.1 hg x hx (by rw [← e]; simpa using hd)
   ·rw [if_neg e]; cases lv q ps <;> rfl
  ·rw [if_neg h]
   simp only [lv,Option.none_or]
   by_cases e:p.1 = q
   ·rw [if_pos e]
    have:lv q ps = none:=xa8v.2 (fun x hx g=>h (by rw [List.any_eq_true]; exact ⟨x,hx,by simp [g,e]⟩))
    rw [this]; rfl
   ·rw [if_neg e]; cases lv q ps <;> rfl
theorem bk_sub:∀ (l:Prs) (x:List Nat × List Nat),x∈bkL l→x∈l
 | [],x,h=>h
 | p :: ps,x,h=>by
  unfold bkL at h
  rcases List.mem_append.1 h with h | h
  ·exact List.mem_cons_of_mem _ (bk_sub ps x h)
  ·split at h
   ·simp at h
   ·have:x = p:=by simpa using h
    rw [this]; simp
theorem history {H:Hs} {l os M:Prs} (hM:Srt H M) (hk:∀ q,getP q M≠none→(∃ p∈os,p.1 = q)∨∃ p∈bkL l,p.1 = q) :
  insAll H (delAll M os) (bkL l) = insAll H [] l:=by
 have h1:=hM.delAll os
 refine xb9w (h1.insAll _) ((xa4n H).insAll _) (fun q=>?_)
 rw [xa4j q _ h1,xa4j q _ (xa4n H),lv_bk,xa6o q os hM]
 cases hg:lv q l with
 | some v=>rfl
 | none =>
  rw [show getP q ([]:Prs) = none from rfl,Option.none_or,Option.none_or]
  by_cases e:∃ p∈os,p.1 = q
  ·rw [if_pos e]
  ·rw [if_neg e]
   apply Classical.byContradiction
   intro hn
   rcases hk q hn with g | ⟨p,hp,e2⟩
   ·exact e g
   ·exact xa8v.1 hg p (bk_sub l p hp) e2
section
open Go.RowKit Go.BigFrame
theorem ins_le (H:Hs) (q v:List Nat):∀ L:Prs,(insP H q v L).length≤L.length + 1
 | []=>by simp [insP]
 | y :: L=>by
  have ih:=ins_le H q v L
  rw [xa2j]
  split
  ·simp
  ·split
   ·simp
   ·simp only [List.length_cons]; omega
theorem xa4c (H:Hs):∀ (ps L:Prs),(insAll H L ps).length≤L.length + ps.length
 | [],L=>by simp [insAll]
 | p :: ps,L=>by
  have h1:=xa4c H ps (insP H p.1 p.2 L)
  have h2:=ins_le H p.1 p.2 L
  show (insAll H (insP H p.1 p.2 L) ps).length≤_
  rw [List.length_cons]; omega
theorem xb4r (H:Hs) (ps:Prs) (j:Nat) (hj:j < ps.length):insAll H [] (ps.take (j + 1)) = insP H (ps.getD j ([],[])).1 (ps.getD j ([],[])).2 (insAll H [] (ps.take j)):=by
 rw [List.take_succ_eq_append_getElem hj,xa3k,List.getD_eq_getElem?_getD,List.getElem?_eq_getElem hj]; rfl
set_option maxHeartbeats 4000000 in
theorem xb4l (T:Nat→Prop) (k:Nat) (pv:Value) (ps:Prs) (w:World) (hk:1≤k∧k≤32) (hP:RdK w pv ps) (hf:∀ p∈ps,p.1.length≤1000000000) (hl:ps.length≤1000000000) (hT:∀ y,w.heap.size≤y→T y) :
  Calls Tryz.prog 16 #[.int .i64 k,pv] w fun e w'=>∃ v',e = .returned v'∧IAt T k w' v' (insAll (hsZ k) [] ps)∧Kept [] w w':=by
 obtain ⟨ao,n,c,ks,vs,rfl,hn,hc1,hc2,hrd,hcell⟩:=hP
 have HN:=hide hn
 rw [hn] at hl
 have HRD:=hide hrd
 have HCE:=hide hcell
 have HF:=hide hf
 clear hn hrd hcell hf
 go_enter Tryz.func16,Tryz.ntmps16
 go_wp2
 go_loopw [5,10] (fun t5 t10 wr=>∃ (j:Nat) (v:Value),t10 = .int .i64 j∧t5 = v∧j≤n∧Hid (IAt T k wr v (insAll (hsZ k) [] (ps.take j)))∧Hid (Kept [] w wr)) (fun _ t _=>n - (intOf t).toNat)
 case atStart=>exact ⟨0,.slice none 0 0,rfl,rfl,Nat.zero_le _,hide (IAt.nil _ _ _),hide (Kept.refl _ _)⟩
 case round =>
  obtain ⟨j,v,rfl,rfl,hj,HIx,HKr⟩:=hrel
  by_cases hlt:j < n
  ·have hlt':(j:Int) < n:=by omega
   have hjL:j < ps.length:=by have:=uh HN; omega
   obtain ⟨b,off,rfl,hcl⟩:=uh HCE (by omega)
   obtain ⟨hx1,hx2⟩:=hcl j hlt
   obtain ⟨hr1,hr2⟩:=uh HRD j hlt
   have HTK:=hide (xb4r (hsZ k) ps j hjL)
   have hq:=uh HF (ps.getD j ([],[])) (by rw [List.getD_eq_getElem?_getD,List.getElem?_eq_getElem hjL]; exact List.getElem_mem hjL)
   generalize ks.getD j undef = kx at hx1 hr1
   generalize vs.getD j undef = vx at hx2 hr2
   generalize ps.getD j ([],[]) = ej at hr1 hr2 HTK hq
   obtain ⟨ka,va⟩:=ej
   have HR1:=hide hr1
   have HR2:=hide hr2
   obtain ⟨x1,x2,x3,rfl,_⟩:=id hr1
   obtain ⟨y1,y2,y3,rfl,_⟩:=id hr2
   have hm1:=(uh HKr).cell hx1 (by simp)
   have hm2:=(uh HKr).cell hx2 (by simp)
   have HRG:=hide (show wr.rangeAt b (off + j * 2) [.slice x1 x2 x3,.slice y1 y2 y3] from fun i u hi=>by
    match i,hi with
    | 0,hi=>rw [Nat.add_zero,hm1]; exact hi
    | 1,hi=>rw [hm2]; exact hi)
   have HP2:=hide (heap_alloc_new wr (.cells #[.slice x1 x2 x3,.slice y1 y2 y3] 46))
   have HK2:=hide ((Kept.refl [] wr).alloc (.cells #[.slice x1 x2 x3,.slice y1 y2 y3] 46))
   clear hx1 hx2 hr1 hr2 hm1 hm2 hcl
   go_upto_region 5 with (refine wpList_load_mid rfl 46 (.tmp 12) rfl b (off + j * 2) rfl [.slice x1 x2 x3,.slice y1 y2 y3] _ (uh HRG) Tryz.underlying46 rfl Tryz.size_pair ?_)
   try simp only [Act.put]
   generalize wr.alloc (.cells #[.slice x1 x2 x3,.slice y1 y2 y3] 46) = W2 at HP2 HK2 ⊢
   have hcp:=xa0j [] [.slice x1 x2 x3,.slice y1 y2 y3] [] (uh HP2) rfl
   have hQ1:=(show W2.cell? ⟨wr.heap.size,0,none⟩ = some (.slice x1 x2 x3) from hcp 0 _ rfl)
   have hQ2:=(show W2.cell? ⟨wr.heap.size,1,none⟩ = some (.slice y1 y2 y3) from hcp 1 _ rfl)
   have HK02:=hide ((uh HKr).trans (uh HK2) (by simp))
   have hlen:(insAll (hsZ k) [] (ps.take j)).length≤1000000000:=by
    have h1:=xa4c (hsZ k) (ps.take j) []
    rw [List.length_take] at h1; simp at h1; omega
   have HLN:=hide hlen
   clear hcp hlen
   go_wp2_with fail
   refine Calls.mono (xb2q T k _ _ _ ka va _ W2 hk ((uh HIx).agr (Agr.nil (uh HK2))) ((xa4n _).insAll _) ((uh HR1).old (uh HK02) (by simp)) ((uh HR2).old (uh HK02) (by simp)) (Nat.le_trans hq (by omega)) (uh HLN) (fun y hy=>hT y (by have:=(uh HK02).size; omega))) ?_
   rintro e w4 ⟨v4,rfl,hi4,k4⟩
   have HI4:=hide hi4
   have HK4:=hide ((uh HK02).trans k4 (by simp))
   clear hi4 k4 hQ1 hQ2
   go_wp2_with fail
   refine ⟨⟨j + 1,v4,by go_num,rfl,hlt,hide (by rw [uh HTK]; exact uh HI4),HK4⟩,?_⟩
   simp [intOf]; omega
  ·have hje:j = n:=by omega
   subst hje
   have hlt':¬ (j:Int) < j:=by omega
   go_wp2
   go_ret
   have h9:=uh HIx
   rw [List.take_of_length_le (by have:=uh HN; omega)] at h9
   exact ⟨_,rfl,h9,uh HKr⟩
theorem xb0s (g:Nat) (kv:Value) (q:List Nat) (w:World) (hku:Rd w kv q) (hq:64 < q.length) :
  Calls Tryz.prog 23 #[.pointer (some ⟨g,0,none⟩),kv] w fun e w'=>e = .returned (.tuple #[.slice none 0 0,.bool false,.int .i64 2])∧Kept [] w w':=by
 go_enter Tryz.func23,Tryz.ntmps23
 go_wp2_with fail
 refine Calls.mono (xa2w g kv q w hku hq) ?_
 rintro e w1 ⟨rfl,k1⟩
 have HZ1:=hide (heap_alloc_new w1 (.cells zwy 97))
 have HK1:=hide ((k1.alloc (.cells zwy 97)).setRow (g:=w1.heap.size) (Or.inr k1.size) zwy)
 clear k1
 go_wp2_with (rw [xa1l]; refine wpList_store_row rfl 97 (.tmp 7) (.tmp 13) rfl w1.heap.size zwy rfl rfl _ zwy (uh HZ1) (by rw [xa4p]; exact Tryz.size_way) rfl (xa0v _ _ rfl rfl) ?_; simp only [Act.put])
 go_ret3
 exact ⟨rfl,uh HK1⟩
theorem xb7u (g:Nat) (kv:Value) (vv:Value) (q:List Nat) (w:World) (hku:Rd w kv q) (hq:64 < q.length) :
  Calls Tryz.prog 20 #[.pointer (some ⟨g,0,none⟩),kv,vv] w fun e w'=>e = .returned (.tuple #[.pointer none,.int .i64 2])∧Kept [] w w':=by
 go_enter Tryz.func20,Tryz.ntmps20
 go_wp2_with fail
 refine Calls.mono (xa2w g kv q w hku hq) ?_
 rintro e w1 ⟨rfl,k1⟩
 have HZ1:=hide (heap_alloc_new w1 (.cells zwy 97))
 have HK1:=hide ((k1.alloc (.cells zwy 97)).setRow (g:=w1.heap.size) (Or.inr k1.size) zwy)
 clear k1
 go_wp2_with (rw [xa1l]; refine wpList_store_row rfl 97 (.tmp 8) (.tmp 16) rfl w1.heap.size zwy rfl rfl _ zwy (uh HZ1) (by rw [xa4p]; exact Tryz.size_way) rfl (xa0v _ _ rfl rfl) ?_; simp only [Act.put])
 go_ret2
 exact ⟨rfl,uh HK1⟩
theorem xa9r (g:Nat) (kv:Value) (q:List Nat) (w:World) (hku:Rd w kv q) (hq:64 < q.length) :
  Calls Tryz.prog 26 #[.pointer (some ⟨g,0,none⟩),kv] w fun e w'=>e = .returned (.tuple #[.slice none 0 0,.slice none 0 0,.int .i64 2])∧Kept [] w w':=by
 go_enter Tryz.func26,Tryz.ntmps26
 go_wp2_with fail
 refine Calls.mono (xa2w g kv q w hku hq) ?_
 rintro e w1 ⟨rfl,k1⟩
 have HZ1:=hide (heap_alloc_new w1 (.cells zwy 97))
 have HK1:=hide ((k1.alloc (.cells zwy 97)).setRow (g:=w1.heap.size) (Or.inr k1.size) zwy)
 clear k1
 go_wp2_with (rw [xa1l]; refine wpList_store_row rfl 97 (.tmp 7) (.tmp 16) rfl w1.heap.size zwy rfl rfl _ zwy (uh HZ1) (by rw [xa4p]; exact Tryz.size_way) rfl (xa0v _ _ rfl rfl) ?_; simp only [Act.put])
 go_ret3
 exact ⟨rfl,uh HK1⟩
set_option maxHeartbeats 2000000 in
theorem xb4p (S:Nat→Prop) (k:Nat) (mv kv vv:Value) (L:Prs) (q v:List Nat) (w:World) (hM:MapAt S k w mv L) (hku:Rd w kv q) (hvu:Rd w vv v) (hq:q.length≤64) (hv:256 < v.length) (hT:Tabs w) :
  Calls Tryz.prog 20 #[mv,kv,vv] w fun e w'=>e = .returned (.tuple #[.pointer none,.int .i64 2])∧Kept [] w w':=by
 obtain ⟨va,vn,vc,rfl,hvl,_⟩:=id hvu
 have hu1:(256:Int) < vn:=by omega
 have hu2:(vn:Int) > 256:=by omega
 clear hvl hv
 go_enter Tryz.func20,Tryz.ntmps20
 go_wp2_with fail
 refine Calls.mono (xa1u S k _ kv L q w hM hku hq hT) ?_
 rintro e w1 ⟨m,cr,en,pl,fd,rfl,hway,k1⟩
 have hon:=hway.cells
 have hDl:((hsZ k).kd q).length = 32:=xa0e _ _
 generalize (hsZ k).kd q = D at hDl ⊢
 have hws:((wayC k D cr en pl fd).toArray).size = 37:=by rw [List.size_toArray,xa0w hDl]
 have HZ1:=hide (heap_alloc_new w1 (.cells zwy 97))
 have HK1:=hide ((k1.alloc (.cells zwy 97)).setRow (g:=w1.heap.size) (Or.inr k1.size) (wayC k D cr en pl fd).toArray)
 clear k1 hway
 go_wp2_with (rw [xa1l]; refine wpList_store_row rfl 97 (.tmp 8) (.tmp 16) rfl w1.heap.size (wayC k D cr en pl fd).toArray rfl rfl _ zwy (uh HZ1) (by rw [hws]; exact Tryz.size_way) (by rw [hws]; rfl) (xa0v _ _ hon.1 hon.2) ?_; simp only [Act.put])
 go_ret2
 exact ⟨rfl,uh HK1⟩
end
section
open Go Go.RowKit Go.BigFrame
theorem lh_gr {P:Program} {Q:Exit→Act→World→Prop} {id:Nat} {o0 o1 o2 o3 o4 o5 o6 o7 o8 o9 o10 o11:Oper} {a:Act} {w:World} (hm:P.follows .mixedOrders = true) (hb:linB #[o0,o1,o2,o3,o4,o5,o6,o7,o8,o9,o10,o11] [0,1,2,4,5] [3,6,7,8] [9,10,11] = true) (hg:([o0,o1,o2,o4,o5]++([o3,o6,o7,o8]++[o9,o10,o11])).all (fun o=>o.guard.isNone) = true) (S:World→Prop) (hS:S w.drew)
  (h:LinY P S (ChL P Q S (fun a w=>S w∧LinY P S (Q .normal) [o9,o10,o11] a w) [o3,o6,o7,o8]) [o0,o1,o2,o4,o5] a w.drew):(Code.region id #[o0,o1,o2,o3,o4,o5,o6,o7,o8,o9,o10,o11] true).wp P Q a w:=wp_lin (R:=[0,1,2,4,5]) (C:=[3,6,7,8]) (T:=[9,10,11]) (rs:=[o0,o1,o2,o4,o5]) (cs:=[o3,o6,o7,o8]) (ts:=[o9,o10,o11]) hm hb rfl rfl rfl hg hS h
end
section
open Go.RowKit Go.BigFrame
theorem xb1r {k:Nat} {w:World} {q:List Nat} {L:Prs} {s p t r:Value} (h:WalkP k w q L s p) (g:WalkP k w q L t r):∃ ss ps,RdS w s ss∧RdK w p ps∧RdS w t ss∧RdK w r ps:=by
 obtain ⟨m,h1,h2,h3,h4⟩:=h
 obtain ⟨n,g1,g2,g3,g4⟩:=g
 have e:m = n:=by
  rcases Nat.lt_trichotomy m n with h | h | h
  ·have:=g3 m h; rw [h4] at this; cases this
  ·exact h
  ·have:=h3 n h; rw [g4] at this; cases this
 subst e
 exact ⟨_,_,h1,h2,g1,g2⟩
theorem xb0o {ops:Array Oper} {rest:List Oper} {o:Oper} {a:Act} {w:World} {Q:Exit→Act→World→Prop} (hw:Region.wanted o (yielded ops a.tmps) = true) (x y:Operand) (r:TypeId) (ho:o.op = .binOp .eql 64 x y r) (d e:List Nat) (hd:d.length = 32) (he:e.length = 32) (hx:a.eval x = .agg (brow d)) (hy:a.eval y = .agg (brow e))
  (h:wpList Tryz.prog ops Q rest (a.put o.dst (.bool (decide (d = e)))) w):wpList Tryz.prog ops Q (o :: rest) a w :=
 wpList_want hw fun _ hK=>by
  unfold Oper.wp
  rw [xa9d 64 x y r ho (brow d) (brow e) hx hy w _ (by kernel_rfl) (dig_eq w d e hd he)]
  exact hK _ _ h
theorem xa9a (k:Nat) (hk:1≤k∧k≤32) (L:Prs):(rootP k L).length = 32:=by
 unfold rootP
 split
 ·exact xa0u k (hash [5]) (by omega) (xa1e [5])
 ·exact (nod_dg k 64 L).1
theorem MapAt.form {S:Nat→Prop} {k:Nat} {W:World} {v:Value} {L:Prs} (h:MapAt S k W v L):∃ g,v = .pointer (some ⟨g,0,none⟩):=by
 obtain ⟨g,tv,e,_⟩:=h.at_
 exact ⟨g,e⟩
theorem xb9o (S:Nat→Prop) (k:Nat) (mv kv vv:Value) (L:Prs) (q v:List Nat) (w:World) (hM:MapAt S k w mv L) (hku:Rd w kv q) (hvu:Rd w vv v) (hL:L.length < 1000000000) (hS:∀ y,w.heap.size≤y→S y) (hT:Tabs w) :
  Calls Tryz.prog 20 #[mv,kv,vv] w fun e w'=>∃ x,e = .returned (.tuple #[x,.int .i64 (if fitP q v = true then 0 else 2)])∧(fitP q v = true→MapAt S k w' x (insP (hsZ k) q v L))∧(fitP q v = false→x = .pointer none)∧Kept [] w w':=by
 by_cases hq:q.length≤64
 ·by_cases hv:v.length≤256
  ·have hf:fitP q v = true:=decide_eq_true ⟨hq,hv⟩
   rw [hf]
   exact (xa3g S k mv kv vv L q v w hM hku hvu hq hv hL hS hT).mono fun e w' ⟨m',h1,h2,h3⟩=>⟨m',h1,fun _=>h2,(fun h=>by cases h),h3⟩
  ·have hf:fitP q v = false:=decide_eq_false (fun h=>hv h.2)
   rw [hf]
   exact (xb4p S k mv kv vv L q v w hM hku hvu hq (by omega) hT).mono fun e w' ⟨h1,h3⟩=>⟨_,h1,(fun h=>by cases h),fun _=>rfl,h3⟩
 ·have hf:fitP q v = false:=decide_eq_false (fun h=>hq h.1)
  rw [hf]
  obtain ⟨g,rfl⟩:=hM.form
  exact (xb7u g kv vv q w hku (by omega)).mono fun e w' ⟨h1,h3⟩=>⟨_,h1,(fun h=>by cases h),fun _=>rfl,h3⟩
def shortP (ps:Prs):Prs:=ps.filter (fun p=>fitP p.1 p.2)
theorem xa7b (ps:Prs) (e:List Nat × List Nat):shortP (ps++[e]) = shortP ps++(if fitP e.1 e.2 = true then [e] else []):=by
 unfold shortP
 rw [List.filter_append,List.filter_cons]
 by_cases h:fitP e.1 e.2 = true
 ·rw [if_pos h,if_pos h]; rfl
 ·rw [if_neg h,if_neg h]; rfl
theorem xa9g (ps:Prs):Fit (shortP ps):=fun p hp=>by
 have:=(List.mem_filter.1 hp).2
 exact of_decide_eq_true this
theorem xa3n (ps:Prs):(shortP ps).length≤ps.length:=List.length_filter_le _ _
theorem rd_low {w w7:World} {v:Value} {q:List Nat} (h:Rd w v q) (k:Kept [] w w7):Sty (fun y=>y < w.heap.size) w7 (fun w=>Rd w v q):=fun w' a=>by
 obtain ⟨ao,len,cap,rfl,h1,h2,h3,h4,h5,h6⟩:=h
 refine ⟨ao,len,cap,rfl,h1,h2,h3,h4,h5,fun hp=>?_⟩
 obtain ⟨b,off,rfl,hc⟩:=h6 hp
 exact ⟨b,off,rfl,fun i hi=>a.cell (k.cell (hc i hi) (by simp)) (block_lt_of_cell (hc i hi))⟩
set_option maxHeartbeats 4000000 in
theorem xa4k (pv:Value) (ps:Prs) (w:World) (hP:RdK w pv ps) (hl:ps.length≤1000000000) :
  Calls Tryz.prog 17 #[pv] w fun e w'=>∃ v' l',e = .returned v'∧(w'.ownsRow w.heap.size 46 2 v' l'.length (kvR l').flatten∧PR (fun y=>y < w.heap.size) w' l' (shortP ps))∧Kept [] w w':=by
 obtain ⟨ao,n,c,ks,vs,rfl,hn,hc1,hc2,hrd,hcell⟩:=hP
 have HN:=hide hn
 rw [hn] at hl
 have HRD:=hide hrd
 have HCE:=hide hcell
 clear hn hrd hcell
 go_enter Tryz.func17,Tryz.ntmps17
 go_wp2
 go_loopw [3,8] (fun t3 t8 wr=>∃ (j:Nat) (v:Value) (lx:List VP),t8 = .int .i64 j∧t3 = v∧j≤n∧Hid (wr.ownsRow w.heap.size 46 2 v lx.length (kvR lx).flatten)∧Hid (PR (fun y=>y < w.heap.size) wr lx (shortP (ps.take j)))∧Hid (Kept [] w wr)) (fun _ t _=>n - (intOf t).toNat)
 case atStart=>exact ⟨0,.slice none 0 0,[],rfl,rfl,Nat.zero_le _,hide (World.ownsRow_nil _ _ _ _),hide (PR.nil _ _),hide (Kept.refl _ _)⟩
 case round =>
  obtain ⟨j,v,lx,rfl,rfl,hj,HOx,HPx,HKr⟩:=hrel
  by_cases hlt:j < n
  ·have hlt':(j:Int) < n:=by omega
   have hjL:j < ps.length:=by have:=uh HN; omega
   obtain ⟨b,off,rfl,hcl⟩:=uh HCE (by omega)
   obtain ⟨hx1,hx2⟩:=hcl j hlt
   obtain ⟨hr1,hr2⟩:=uh HRD j hlt
   have HSNOC:=hide (show ps.take (j + 1) = ps.take j++[ps.getD j ([],[])] by
    rw [List.take_succ_eq_append_getElem hjL,List.getD_eq_getElem?_getD,List.getElem?_eq_getElem hjL]; rfl)
   generalize ks.getD j undef = kx at hx1 hr1
   generalize vs.getD j undef = vx at hx2 hr2
   generalize ps.getD j ([],[]) = ej at hr1 hr2 HSNOC
   obtain ⟨ka,va⟩:=ej
   have HR1:=hide hr1
   have HR2:=hide hr2
   obtain ⟨x1,x2,x3,rfl,_⟩:=id hr1
   obtain ⟨y1,y2,y3,rfl,_⟩:=id hr2
   have hm1:=(uh HKr).cell hx1 (by simp)
   have hm2:=(uh HKr).cell hx2 (by simp)
   have HRG:=hide (show wr.rangeAt b (off + j * 2) [.slice x1 x2 x3,.slice y1 y2 y3] from fun i u hi=>by
    match i,hi with
    | 0,hi=>rw [Nat.add_zero,hm1]; exact hi
    | 1,hi=>rw [hm2]; exact hi)
   have HP2:=hide (heap_alloc_new wr (.cells #[.slice x1 x2 x3,.slice y1 y2 y3] 46))
   have HK2:=hide ((Kept.refl [] wr).alloc (.cells #[.slice x1 x2 x3,.slice y1 y2 y3] 46))
   clear hx1 hx2 hr1 hr2 hm1 hm2 hcl
   go_upto_region 5 with (refine wpList_load_mid rfl 46 (.tmp 10) rfl b (off + j * 2) rfl [.slice x1 x2 x3,.slice y1 y2 y3] _ (uh HRG) Tryz.underlying46 rfl Tryz.size_pair ?_)
   try simp only [Act.put]
   generalize wr.alloc (.cells #[.slice x1 x2 x3,.slice y1 y2 y3] 46) = W2 at HP2 HK2 ⊢
   have hcp:=xa0j [] [.slice x1 x2 x3,.slice y1 y2 y3] [] (uh HP2) rfl
   have hQ1:=(show W2.cell? ⟨wr.heap.size,0,none⟩ = some (.slice x1 x2 x3) from hcp 0 _ rfl)
   have hQ2:=(show W2.cell? ⟨wr.heap.size,1,none⟩ = some (.slice y1 y2 y3) from hcp 1 _ rfl)
   have HC1:=hide hQ1
   have HC2:=hide hQ2
   have HK02:=hide ((uh HKr).trans (uh HK2) (by simp))
   clear hcp
   have HCP:=hide (xa1r _ _ ka va W2 ((uh HR1).old (uh HK02) (by simp)) ((uh HR2).old (uh HK02) (by simp)))
   have HSN:=hide (xa7b (ps.take j) (ka,va))
   have hln:=(uh HPx).1
   have hsl:=xa3n (ps.take j)
   rw [List.length_take] at hsl
   have hbnd:lx.length + 1≤1000000001:=by omega
   have HO2:=hide ((uh HK2).owns (uh HOx) (by simp))
   obtain ⟨vo,vc,rfl⟩:=xa0m (uh HOx)
   have hown:∀ z,(Value.slice vo lx.length vc).ownBlock = some z→w.heap.size≤z:=fun z hz=>((uh HOx).lt z hz).1
   clear hln hsl
   have HSN:Hid (shortP (ps.take j++[(ka,va)]) = shortP (ps.take j)++(if fitP ka va = true then [(ka,va)] else [])):=HSN
   generalize fitP ka va = FP at HCP HSN
   cases FP with
   | true =>
    have HW5:=hide (heap_alloc_new W2 (.cells #[.slice x1 x2 x3,.slice y1 y2 y3] 46))
    have HK45:=hide ((Kept.refl [] W2).alloc (.cells #[.slice x1 x2 x3,.slice y1 y2 y3] 46))
    have HO5:=hide ((uh HK45).owns (uh HO2) (by simp))
    have HK5:=hide ((uh HK02).trans (uh HK45) (by simp))
    have HRL:=hide (show RdC 2 (W2.alloc (.cells #[.slice x1 x2 x3,.slice y1 y2 y3] 46)) (.slice (some ⟨W2.heap.size,0,none⟩) 1 1) (kvR [(.slice x1 x2 x3,.slice y1 y2 y3)]) from ⟨_,1,1,rfl,rfl,Nat.le_refl _,by omega,fun _=>⟨W2.heap.size,0,rfl,fun j hj=>by
     have h0:j = 0:=by rw [xa0p] at hj; simp at hj; omega
     subst h0
     exact xa0j [] [.slice x1 x2 x3,.slice y1 y2 y3] [] (uh HW5) rfl⟩⟩)
    go_wp2_with fail
    refine Calls.mono (uh HCP) ?_
    rintro e w7 ⟨rfl,h7⟩
    rw [h7]
    clear h7 HCP
    go_wp2_with (first
     | (refine xa1k rfl (.tmp 19) rfl (.slice x1 x2 x3) (.slice y1 y2 y3) rfl ?_)
     | (at_builtin; refine xa0f rfl 40 46 (.tmp 18) (.tmp 20) rfl rfl _ w.heap.size (.agg #[.slice none 0 0,.slice none 0 0]) 2 48 Tryz.underlying40 Tryz.infoQ rfl (by decide) (.slice vo lx.length vc) lx.length (kvR lx).flatten (uh HO5) (some ⟨W2.heap.size,0,none⟩) 1 1 (kvR [(.slice x1 x2 x3,.slice y1 y2 y3)]) (uh HRL) (by intro r hr; simp [kvR] at hr; rw [hr]; rfl) (by intro r hr u hu; simp [kvR] at hr; rw [hr] at hu; simp at hu; rcases hu with rfl | rfl <;> rfl) (by omega) (by omega) (uh HK5).size rfl rfl ?_; intro ao7 c7 w7 HO7 HG7 HA7))
    have HK7:=hide ((uh HK5).grown (uh HG7) (fun z hz=>Or.inr (hown z hz)))
    have HKR7:=hide (show Agr (fun y=>y < w.heap.size) wr w7 from ⟨by have h1:=(uh HK2).size; have h2:=(uh HK45).size; have h3:=(uh HG7).size; omega,fun x hx hl=>by
     rw [(uh HK7).block x hx (by simp),(uh HKr).block x hx (by simp)]⟩)
    have HPY:=hide (((uh HPx).agr (uh HKR7)).app (PR.one (S:=fun y=>y < w.heap.size) (W:=w7) (x:=.slice x1 x2 x3) (y:=.slice y1 y2 y3) (a:=ka) (b:=va) (rd_low (uh HR1) (uh HK7)) (rd_low (uh HR2) (uh HK7))))
    clear hown hbnd HKR7
    refine ⟨⟨j + 1,.slice ao7 (lx.length + 1) c7,lx++[(.slice x1 x2 x3,.slice y1 y2 y3)],by go_num,rfl,hlt,hide (by rw [List.length_append,xa4q,List.flatten_append]; exact uh HO7),hide (by rw [uh HSNOC,uh HSN]; first | (rw [if_pos rfl]; exact uh HPY) | (rw [if_pos trivial]; exact uh HPY)),HK7⟩,?_⟩
    simp [intOf]; omega
   | false =>
    go_wp2_with fail
    refine Calls.mono (uh HCP) ?_
    rintro e w7 ⟨rfl,h7⟩
    rw [h7]
    clear h7 HCP
    go_wp2_with fail
    refine ⟨⟨j + 1,_,lx,by go_num,rfl,hlt,HO2,hide (by rw [uh HSNOC,uh HSN,if_neg (by decide),List.append_nil]; exact (uh HPx).agr (Agr.nil (uh HK2))),HK02⟩,?_⟩
    simp [intOf]; omega
  ·have hje:j = n:=by omega
   subst hje
   have hlt':¬ (j:Int) < j:=by omega
   have h9:=uh HPx
   rw [List.take_of_length_le (by have:=uh HN; omega)] at h9
   have H9:=hide h9
   clear h9
   go_wp2
   go_ret
   first
   | exact ⟨_,rfl,⟨lx,uh HOx,uh H9⟩,uh HKr⟩
   | exact ⟨_,lx,rfl,⟨uh HOx,uh H9⟩,uh HKr⟩
theorem xb3n (pv:Value) (ps:Prs) (w:World) (hP:RdK w pv ps) (hl:ps.length≤1000000000) :
  Calls Tryz.prog 17 #[pv] w fun e w'=>∃ v',e = .returned v'∧RdK w' v' (shortP ps)∧Kept [] w w' :=
 (xa4k pv ps w hP hl).mono fun e w' ⟨v',l',h1,⟨h2,h3⟩,h4⟩=>⟨v',h1,rdk_of (xa1f (by rw [xa0p]; exact h2) h3.cell.1) h3,h4⟩
set_option maxHeartbeats 8000000 in
theorem xb4q (S:Nat→Prop) (k:Nat) (hk:1≤k∧k≤32) (pv:Value) (ps:Prs) (w:World) (hP:RdK w pv ps) (hl:ps.length≤100000000) (hS:∀ y,w.heap.size≤y→S y) (hTb:Tabs w) :
  Calls Tryz.prog 15 #[.int .i64 k,pv] w fun e w'=>∃ m',e = .returned m'∧MapAt S k w' m' (insAll (hsZ k) [] (shortP ps))∧Kept [] w w':=by
 obtain ⟨ao,n,c,ks,vs,rfl,hn,hc1,hc2,hrd,hcell⟩:=hP
 have HN:=hide hn
 rw [hn] at hl
 have HRD:=hide hrd
 have HCE:=hide hcell
 clear hn hrd hcell
 have HS:=hide hS
 have HTb:=hide hTb
 clear hS hTb
 go_enter Tryz.func15,Tryz.ntmps15
 go_wp2_with fail
 refine Calls.mono (xb2m S k w hk (uh HS)) ?_
 rintro e w1 ⟨m1,rfl,hm1,k1⟩
 have HM1:=hide hm1
 have HK1:=hide k1
 clear hm1 k1
 go_wp2_with fail
 go_loopw [5,16] (fun t5 t16 wr=>∃ (j:Nat) (v:Value),t16 = .int .i64 j∧t5 = v∧j≤n∧Hid (MapAt S k wr v (insAll (hsZ k) [] (shortP (ps.take j))))∧Hid (Kept [] w wr)) (fun _ t _=>n - (intOf t).toNat)
 case atStart=>exact ⟨0,m1,rfl,rfl,Nat.zero_le _,HM1,HK1⟩
 case round =>
  clear HM1 HK1
  obtain ⟨j,v,rfl,rfl,hj,HMx,HKr⟩:=hrel
  by_cases hlt:j < n
  ·have hlt':(j:Int) < n:=by omega
   have hjL:j < ps.length:=by have:=uh HN; omega
   obtain ⟨b,off,rfl,hcl⟩:=uh HCE (by omega)
   obtain ⟨hx1,hx2⟩:=hcl j hlt
   obtain ⟨hr1,hr2⟩:=uh HRD j hlt
   have HSNOC:=hide (show ps.take (j + 1) = ps.take j++[ps.getD j ([],[])] by
    rw [List.take_succ_eq_append_getElem hjL,List.getD_eq_getElem?_getD,List.getElem?_eq_getElem hjL]; rfl)
   generalize ks.getD j undef = kx at hx1 hr1
   generalize vs.getD j undef = vx at hx2 hr2
   generalize ps.getD j ([],[]) = ej at hr1 hr2 HSNOC
   obtain ⟨ka,va⟩:=ej
   have HR1:=hide hr1
   have HR2:=hide hr2
   obtain ⟨x1,x2,x3,rfl,_⟩:=id hr1
   obtain ⟨y1,y2,y3,rfl,_⟩:=id hr2
   have hm1:=(uh HKr).cell hx1 (by simp)
   have hm2:=(uh HKr).cell hx2 (by simp)
   have HRG:=hide (show wr.rangeAt b (off + j * 2) [.slice x1 x2 x3,.slice y1 y2 y3] from fun i u hi=>by
    match i,hi with
    | 0,hi=>rw [Nat.add_zero,hm1]; exact hi
    | 1,hi=>rw [hm2]; exact hi)
   have HP2:=hide (heap_alloc_new wr (.cells #[.slice x1 x2 x3,.slice y1 y2 y3] 46))
   have HK2:=hide ((Kept.refl [] wr).alloc (.cells #[.slice x1 x2 x3,.slice y1 y2 y3] 46))
   clear hx1 hx2 hr1 hr2 hm1 hm2 hcl
   go_upto_region 5 with (refine wpList_load_mid rfl 46 (.tmp 18) rfl b (off + j * 2) rfl [.slice x1 x2 x3,.slice y1 y2 y3] _ (uh HRG) Tryz.underlying46 rfl Tryz.size_pair ?_)
   try simp only [Act.put]
   generalize wr.alloc (.cells #[.slice x1 x2 x3,.slice y1 y2 y3] 46) = W2 at HP2 HK2 ⊢
   have hcp:=xa0j [] [.slice x1 x2 x3,.slice y1 y2 y3] [] (uh HP2) rfl
   have hQ1:=(show W2.cell? ⟨wr.heap.size,0,none⟩ = some (.slice x1 x2 x3) from hcp 0 _ rfl)
   have hQ2:=(show W2.cell? ⟨wr.heap.size,1,none⟩ = some (.slice y1 y2 y3) from hcp 1 _ rfl)
   have HC1:=hide hQ1
   have HC2:=hide hQ2
   have HK02:=hide ((uh HKr).trans (uh HK2) (by simp))
   clear hcp
   have HCP:=hide (xa1r _ _ ka va W2 ((uh HR1).old (uh HK02) (by simp)) ((uh HR2).old (uh HK02) (by simp)))
   have HSN:=hide (xa7b (ps.take j) (ka,va))
   have hsl:=xa4c (hsZ k) (shortP (ps.take j)) []
   have hsl2:=xa3n (ps.take j)
   rw [List.length_take] at hsl2
   have HLN:=hide (show (insAll (hsZ k) [] (shortP (ps.take j))).length < 1000000000 by simp at hsl; omega)
   have HMX2:=hide ((uh HMx).agr (Agr.nil (uh HK2)))
   have HQ2:=hide ((uh HR1).old (uh HK02) (by simp))
   have HV2:=hide ((uh HR2).old (uh HK02) (by simp))
   obtain ⟨g,rfl⟩:=(uh HMx).form
   have HPUT:=hide (fun (W:World) (z1 z2:Value) (hW:Kept [] W2 W) (h1:Rd W z1 ka) (h2:Rd W z2 va)=>xb9o S k _ z1 z2 _ ka va W ((uh HMX2).agr (Agr.nil hW)) h1 h2 (uh HLN) (fun y hy=>uh HS y (by have:=hW.size; have:=(uh HK02).size; omega)) (Tabs.k (uh HTb) ((uh HK02).trans hW (by simp))))
   have HINS:=hide (xa3k (hsZ k) [] (shortP (ps.take j)) (ka,va))
   clear hsl hsl2
   have HSN:Hid (shortP (ps.take j++[(ka,va)]) = shortP (ps.take j)++(if fitP ka va = true then [(ka,va)] else [])):=HSN
   generalize hFP:fitP ka va = FP at HCP HSN HPUT
   cases FP with
   | true =>
    go_wp2_with fail
    refine Calls.mono (uh HCP) ?_
    rintro e w7 ⟨rfl,h7⟩
    rw [h7]
    clear h7 HCP hFP
    go_upto_region 6 with fail
    clear hQ1 hQ2
    refine lh_gr (by kernel_rfl) (by kernel_rfl) rfl (fun W=>Kept [] W2 W) (Kept.refl _ W2).drew ?_
    refine LinY.rd (.pointer (some ⟨g,0,none⟩)) (fun W hW=>by go_simp) (by simp only [Act.put,sa1,sa2,sa3]; rfl) ?_
    refine LinY.rd (.pointer (some ⟨wr.heap.size,0,none⟩)) (fun W hW=>by go_simp) (by simp only [Act.put,sa1,sa2,sa3]; rfl) ?_
    refine LinY.rd (.slice x1 x2 x3) (fun W hW=>by have h9:=hW.cell (uh HC1) (by simp); go_simp) (by simp only [Act.put,sa1,sa2,sa3]; rfl) ?_
    refine LinY.rd (.pointer (some ⟨wr.heap.size,1,none⟩)) (fun W hW=>by go_simp) (by simp only [Act.put,sa1,sa2,sa3]; rfl) ?_
    refine LinY.rd (.slice y1 y2 y3) (fun W hW=>by have h9:=hW.cell (uh HC2) (by simp); go_simp) (by simp only [Act.put,sa1,sa2,sa3]; rfl) ?_
    have hd2:=(Kept.refl [] W2).drew
    refine LinY.fin (ChL.call rfl Tryz.call25 [.slice x1 x2 x3] rfl (xa3z _ ka W2.drew ((uh HQ2).old hd2 (by simp))) ?_)
    rintro e w4 ⟨z1,rfl,r1,_,k4⟩
    have hk4:=hd2.trans k4 (by simp)
    refine ⟨_,rfl,hk4,?_⟩
    simp only [Act.put,sa1,sa2,sa3]
    refine ChL.call rfl Tryz.call25 [.slice y1 y2 y3] rfl (xa3z _ va w4 ((uh HV2).old hk4 (by simp))) ?_
    rintro e w5 ⟨z2,rfl,r2,_,k5⟩
    have hk5:=hk4.trans k5 (by simp)
    refine ⟨_,rfl,hk5,?_⟩
    simp only [Act.put,sa1,sa2,sa3]
    refine ChL.call rfl Tryz.call20 [.pointer (some ⟨g,0,none⟩),z1,z2] rfl (uh HPUT w5 z1 z2 hk5 (r1.old k5 (by simp)) r2) ?_
    rintro e w6 ⟨x,rfl,m6,n6,k6⟩
    have hk6:=hk5.trans k6 (by simp)
    refine ⟨_,rfl,hk6,?_⟩
    simp only [Act.put,sa1,sa2,sa3]
    obtain ⟨gx,rfl⟩:=(show MapAt S k w6 x (insP (hsZ k) ka va _) from by first | exact m6 rfl | exact m6 trivial).form
    refine ChL.op (.tuple #[.pointer (some ⟨gx,0,none⟩),.int .i64 0]) (by go_simp) hk6 (by simp only [Act.put,sa1,sa2,sa3]; rfl) (ChL.fin ⟨hk6,?_⟩)
    refine LinY.rd (.pointer (some ⟨gx,0,none⟩)) (fun W hW=>by go_simp) (by simp only [Act.put,sa1,sa2,sa3]; rfl) ?_
    refine LinY.rd (.int .i64 0) (fun W hW=>by go_simp) (by simp only [Act.put,sa1,sa2,sa3]; rfl) ?_
    refine LinY.rd (.pointer (some ⟨gx,0,none⟩)) (fun W hW=>by go_simp) (by simp only [Act.put,sa1,sa2,sa3]; rfl) ?_
    refine LinY.fin ?_
    have HMX:=hide (by first | exact m6 rfl | exact m6 trivial)
    have HK6:=hide ((uh HK02).trans hk6 (by simp))
    clear m6 n6 k6 hk6 r2 r1 k5 hk5 k4 hk4 hd2 HPUT
    go_wp2_with fail
    refine ⟨⟨j + 1,_,by go_num,rfl,hlt,hide (by rw [uh HSNOC,uh HSN]; first | (rw [if_pos rfl,uh HINS]; exact uh HMX) | (rw [if_pos trivial,uh HINS]; exact uh HMX)),HK6⟩,?_⟩
    simp [intOf]; omega
   | false =>
    go_wp2_with fail
    refine Calls.mono (uh HCP) ?_
    rintro e w7 ⟨rfl,h7⟩
    rw [h7]
    clear h7 HCP hFP
    go_wp2_with fail
    refine ⟨⟨j + 1,_,by go_num,rfl,hlt,hide (by rw [uh HSNOC,uh HSN,if_neg (by decide),List.append_nil]; exact uh HMX2),HK02⟩,?_⟩
    simp [intOf]; omega
  ·have hje:j = n:=by omega
   subst hje
   have hlt':¬ (j:Int) < j:=by omega
   have h9:=uh HMx
   rw [List.take_of_length_le (by have:=uh HN; omega)] at h9
   have H9:=hide h9
   clear h9
   go_wp2
   go_ret
   exact ⟨_,rfl,uh H9,uh HKr⟩
theorem xb9h {w:World} {g:Nat} (bs:List Nat) {cs:Array Value} {fr:Nat × Nat} (h:w.heap[g]? = some (.cells cs 5 fr)) (hc:cs = (bs.map u8).toArray) (hb:∀ x∈bs,x < 256) (n:Nat) (hn:bs.length = n) (hl:n≤140737488355328):Rd w (.slice (some ⟨g,0,none⟩) n n) bs:=by
 refine ⟨_,n,n,rfl,hn,Nat.le_refl _,⟨by omega,hl⟩,fun h=>by simp at h,hb,fun hp=>⟨g,0,rfl,fun i hi=>?_⟩⟩
 subst hc
 have hi':i < bs.length:=by omega
 rw [cell_of_row _ _ _ _ _ _ h,Nat.zero_add,List.getElem?_toArray,List.getElem?_map,List.getD_eq_getElem?_getD,List.getElem?_eq_getElem hi']
 rfl
abbrev bt (x:Int):Obj:=.cells #[.int .u8 x] 5 (1,2)
theorem bt_rd (w:World) (x:Nat) (hx:x < 256):Rd (w.alloc (bt x)) (.slice (some ⟨w.heap.size,0,none⟩) 1 1) [x]:=xb9h (n:=1) [x] (heap_alloc_new w (bt x)) rfl (by intro y hy; simp at hy; omega) rfl (by decide)
def awL (k:Nat):Prs:=insP (hsZ k) [98] [] (insP (hsZ k) [97] [49] [])
theorem xa9h (k:Nat):Srt (hsZ k) (insP (hsZ k) [97] [49] []):=(xa4n _).ins _ _
theorem xb6p (k:Nat):getP [97] (awL k) = some [49]:=by
 unfold awL
 rw [xa6k (xa9h k),if_neg (by decide),xa6k (xa4n _),if_pos rfl]
theorem xb9g (k:Nat):fnd [97] (awL k) = true:=by unfold fnd; rw [xb6p]; rfl
theorem xb5z (k:Nat):(awL k).length = 2:=by
 unfold awL
 have h0:fnd [98] (insP (hsZ k) [97] [49] []) = false:=by unfold fnd; rw [xa6k (xa4n _),if_neg (by decide)]; rfl
 rw [xb2b (xa9h k),h0,if_neg (by decide)]; rfl
set_option maxHeartbeats 4000000 in
theorem xb0e (w:World) (hTb:Tabs w) :
  Calls Tryz.prog 9 #[] w fun e w'=>e = .returned (.bool true)∧Kept [] w w':=by
 have HTb:=hide hTb
 obtain ⟨S,hS⟩:∃ S:Nat→Prop,S = fun _=>True:=⟨_,rfl⟩
 have HS:=hide (show ∀ (n y:Nat),n≤y→S y from fun _ _ _=>by rw [hS]; trivial)
 clear hTb hS
 have kc:=fun (w:World) (C:Array Value) (n c:Nat)=>Lib.run_convert_bytes_const (P:=Tryz.prog) w 32 5 C n c Tryz.underlying32 Tryz.underlying5
 have kc1:=fun (w:World) (o:Obj) (C:Array Value) (n c:Nat)=>Go.Joins.run_convert_bytes_const_at (P:=Tryz.prog) (w.alloc o) 32 5 C n c (w.heap.size + 1) (by simp) Tryz.underlying32 Tryz.underlying5
 have kc2:=fun (w:World) (o o':Obj) (C:Array Value) (n c:Nat)=>Go.Joins.run_convert_bytes_const_at (P:=Tryz.prog) ((w.alloc o).alloc o') 32 5 C n c (w.heap.size + 1 + 1) (by simp) Tryz.underlying32 Tryz.underlying5
 go_enter Tryz.func9,Tryz.ntmps9
 go_wp2_with fail
 refine Calls.mono (xb2m S 4 w (by omega) (uh HS _)) ?_
 rintro e w1 ⟨m1,rfl,hm1,k1⟩
 obtain ⟨g1,rfl⟩:=hm1.form
 have HM1:=hide hm1
 have HK1:=hide k1
 clear hm1 k1
 go_wp2_with fail
 have ka:=(Kept.refl [] w1).alloc (bt 97)
 have kb:=(Kept.refl [] (w1.alloc (bt 97))).alloc (bt 49)
 have hz:(w1.alloc (bt 97)).heap.size = w1.heap.size + 1:=by simp
 have r1:=(bt_rd w1 97 (by decide)).old kb (by simp)
 have r2:=bt_rd (w1.alloc (bt 97)) 49 (by decide)
 rw [hz] at r2
 have HKA:=hide ((uh HK1).trans (ka.trans kb (by simp)) (by simp))
 have HMA:=hide ((uh HM1).agr (Agr.nil (ka.trans kb (by simp))))
 refine Calls.mono (xa3g S 4 _ _ _ [] [97] [49] _ (uh HMA) r1 r2 (by decide) (by decide) (by decide) (uh HS _) ((uh HTb).k (uh HKA))) ?_
 rintro e w2 ⟨m2,rfl,hm2,k2⟩
 obtain ⟨g2,rfl⟩:=hm2.form
 have HM2:=hide hm2
 have HK2:=hide ((uh HKA).trans k2 (by simp))
 clear hm2 k2 ka kb hz r1 r2 HKA HMA HM1 HK1
 go_wp2_with fail
 have kb:=(Kept.refl [] w2).alloc (bt 98)
 have r1:=bt_rd w2 98 (by decide)
 have HKB:=hide ((uh HK2).trans kb (by simp))
 refine Calls.mono (xa3g S 4 _ _ _ _ [98] [] _ ((uh HM2).agr (Agr.nil kb)) r1 (Rd.nil _) (by decide) (by decide) (by decide) (uh HS _) ((uh HTb).k (uh HKB))) ?_
 rintro e w3 ⟨m3,rfl,hm3,k3⟩
 obtain ⟨g3,rfl⟩:=hm3.form
 have HM3:=hide (show MapAt S 4 w3 (.pointer (some ⟨g3,0,none⟩)) (awL 4) from hm3)
 have HK3:=hide ((uh HKB).trans k3 (by simp))
 clear hm3 k3 kb r1 HKB HM2 HK2
 go_wp2_with fail
 have kb:=(Kept.refl [] w3).alloc (bt 97)
 have r1:=bt_rd w3 97 (by decide)
 have HKB:=hide ((uh HK3).trans kb (by simp))
 refine Calls.mono (xb1a S 4 _ _ (awL 4) [97] _ ((uh HM3).agr (Agr.nil kb)) r1 (by decide) ((uh HTb).k (uh HKB))) ?_
 rintro e w4 ⟨v4,rfl,r4,_,k4⟩
 rw [xb6p] at r4
 rw [xb9g]
 have HR4:=hide (show Rd w4 v4 [49] from r4)
 have HM4:=hide (((uh HM3).agr (Agr.nil kb)).agr (Agr.nil k4))
 have HK4:=hide ((uh HKB).trans k4 (by simp))
 clear r4 k4 kb r1 HKB HM3 HK3
 go_wp2_with fail
 refine Calls.mono (xa7i S 4 _ _ w4 (uh HM4)) ?_
 rintro e w5 ⟨rfl,k5⟩
 rw [xb5z]
 have HM5:=hide ((uh HM4).agr (Agr.nil k5))
 have HR5:=hide ((uh HR4).old k5 (by simp))
 have HK5:=hide ((uh HK4).trans k5 (by simp))
 clear k5
 go_wp2_with fail
 refine Calls.mono (xb7i S 4 _ _ w5 (uh HM5)) ?_
 rintro e w6 ⟨rfl,k6⟩
 have HM6:=hide ((uh HM5).agr (Agr.nil k6))
 have HR6:=hide ((uh HR5).old k6 (by simp))
 have HK6:=hide ((uh HK5).trans k6 (by simp))
 clear k6
 go_wp2_with fail
 have kb:=(Kept.refl [] w6).alloc (bt 49)
 have r1:=bt_rd w6 49 (by decide)
 refine Calls.mono (same_k _ _ [49] [49] _ ((uh HR6).old kb (by simp)) r1) ?_
 rintro e w7 ⟨rfl,k7⟩
 rw [decide_eq_true rfl]
 have HM7:=hide (((uh HM6).agr (Agr.nil kb)).agr (Agr.nil k7))
 have HK7:=hide (((uh HK6).trans kb (by simp)).trans k7 (by simp))
 clear k7 kb r1
 go_wp2_with fail
 refine Calls.mono (xa8e S 4 _ _ w7 (uh HM7) ((uh HTb).k (uh HK7))) ?_
 rintro e w8 ⟨rfl,k8⟩
 have HK8:=hide ((uh HK7).trans k8 (by simp))
 clear k8
 go_wp2_with fail
 have z1:(w8.alloc (bt 97)).heap.size = w8.heap.size + 1:=by simp
 have z2:((w8.alloc (bt 97)).alloc (bt 49)).heap.size = w8.heap.size + 1 + 1:=by simp
 have z3:(((w8.alloc (bt 97)).alloc (bt 49)).alloc (bt 98)).heap.size = w8.heap.size + 1 + 1 + 1:=by simp
 have ka:=(Kept.refl [] w8).alloc (bt 97)
 have kb:=(Kept.refl [] (w8.alloc (bt 97))).alloc (bt 49)
 have kd:=(Kept.refl [] ((w8.alloc (bt 97)).alloc (bt 49))).alloc (bt 98)
 have ke:=(Kept.refl [] (((w8.alloc (bt 97)).alloc (bt 49)).alloc (bt 98))).alloc (.cells #[.slice (some ⟨w8.heap.size,0,none⟩) 1 1,.slice (some ⟨w8.heap.size + 1,0,none⟩) 1 1,.slice (some ⟨w8.heap.size + 1 + 1,0,none⟩) 1 1,.slice none 0 0] 46)
 have r1:=(((bt_rd w8 97 (by decide)).old kb (by simp)).old kd (by simp)).old ke (by simp)
 have r2:=((bt_rd (w8.alloc (bt 97)) 49 (by decide)).old kd (by simp)).old ke (by simp)
 have r3:=(bt_rd ((w8.alloc (bt 97)).alloc (bt 49)) 98 (by decide)).old ke (by simp)
 rw [z1] at r2
 rw [z2] at r3
 have hx:=heap_alloc_new (((w8.alloc (bt 97)).alloc (bt 49)).alloc (bt 98)) (.cells #[.slice (some ⟨w8.heap.size,0,none⟩) 1 1,.slice (some ⟨w8.heap.size + 1,0,none⟩) 1 1,.slice (some ⟨w8.heap.size + 1 + 1,0,none⟩) 1 1,.slice none 0 0] 46)
 rw [z3] at hx
 have kall:=((ka.trans kb (by simp)).trans kd (by simp)).trans ke (by simp)
 have hK:=(uh HK8).trans kall (by simp)
 obtain ⟨X,hX⟩:∃ X,(((w8.alloc (bt 97)).alloc (bt 49)).alloc (bt 98)).alloc (.cells #[.slice (some ⟨w8.heap.size,0,none⟩) 1 1,.slice (some ⟨w8.heap.size + 1,0,none⟩) 1 1,.slice (some ⟨w8.heap.size + 1 + 1,0,none⟩) 1 1,.slice none 0 0] 46) = X:=⟨_,rfl⟩
 rw [hX] at r1 r2 r3 hx hK
 rw [hX]
 have hrk:RdK X (.slice (some ⟨w8.heap.size + 1 + 1 + 1,0,none⟩) 2 2) [([97],[49]),([98],[])]:=⟨_,2,2,[.slice (some ⟨w8.heap.size,0,none⟩) 1 1,.slice (some ⟨w8.heap.size + 1 + 1,0,none⟩) 1 1],[.slice (some ⟨w8.heap.size + 1,0,none⟩) 1 1,.slice none 0 0],rfl,rfl,Nat.le_refl _,by omega,fun i hi=>by
   match i,hi with
   | 0,_=>exact ⟨r1,r2⟩
   | 1,_=>exact ⟨r3,Rd.nil _⟩,fun _=>⟨_,0,rfl,fun i hi=>by
   match i,hi with
   | 0,_=>constructor <;> (rw [cell_of_row _ _ _ _ _ _ hx]; rfl)
   | 1,_=>constructor <;> (rw [cell_of_row _ _ _ _ _ _ hx]; rfl)⟩⟩
 have HRK:=hide hrk
 have HKX:=hide hK
 clear z1 z2 z3 ka kb kd ke r1 r2 r3 hx kall hK hX hrk
 refine Calls.mono (xb4l S 4 _ [([97],[49]),([98],[])] X (by omega) (uh HRK) (by intro p hp; simp at hp; rcases hp with rfl | rfl <;> simp) (by simp) (uh HS _)) ?_
 rintro e w9 ⟨v9,rfl,i9,k9⟩
 have HI9:=hide (show IAt S 4 w9 v9 (awL 4) from i9)
 have HK9:=hide ((uh HKX).trans k9 (by simp))
 have hfit:Fit (awL 4):=xa9f (xa9h 4) (xa9f (xa4n _) (fun p hp=>by simp at hp) (by decide) (by decide)) (by decide) (by decide)
 have HFI:=hide hfit
 have hrl:=xa9a 4 (by omega) (awL 4)
 clear i9 k9 hfit
 go_wp2_with fail
 refine Calls.mono (xb0a S 4 (by omega) _ (awL 4) w9 (uh HI9) ((xa9h 4).ins _ _) (uh HFI) (by rw [xb5z]; omega) (uh HS _)) ?_
 rintro e w10 ⟨rfl,k10⟩
 have HK10:=hide ((uh HK9).trans k10 (by simp))
 clear k10
 generalize rootP 4 (awL 4) = R at hrl ⊢
 go_wp2_with (refine xb0o rfl (.tmp 74) (.tmp 85) _ rfl R R hrl hrl rfl rfl ?_; rw [decide_eq_true rfl])
 go_ret
 exact ⟨rfl,uh HK10⟩
theorem xb0j {ops:Array Oper} {rest:List Oper} {o:Oper} {a:Act} {w:World} {Q:Exit→Act→World→Prop} (hw:Region.wanted o (yielded ops a.tmps) = true) (x y:Operand) (r:TypeId) (ho:o.op = .binOp .neq 64 x y r) (d e:List Nat) (hd:d.length = 32) (he:e.length = 32) (hx:a.eval x = .agg (brow d)) (hy:a.eval y = .agg (brow e))
  (h:wpList Tryz.prog ops Q rest (a.put o.dst (.bool (!decide (d = e)))) w):wpList Tryz.prog ops Q (o :: rest) a w :=
 wpList_want hw fun _ hK=>by
  unfold Oper.wp
  rw [xb5o 64 x y r ho (brow d) (brow e) hx hy w _ (by kernel_rfl) (dig_eq w d e hd he)]
  exact hK _ _ h
set_option maxHeartbeats 8000000 in
theorem xb4t (S:Nat→Prop) (k:Nat) (av bv pv:Value) (L:Prs) (ps:Prs) (w:World) (hA:MapAt S k w av L) (hB:MapAt S k w bv L) (hP:RdK w pv ps) (hl:ps.length≤1000000000) (hTb:Tabs w) :
  Calls Tryz.prog 22 #[av,bv,pv] w fun e w'=>e = .returned (.bool true)∧Kept [] w w':=by
 obtain ⟨ga,rfl⟩:=hA.form
 obtain ⟨gb,rfl⟩:=hB.form
 have hrl:=xa9a k hA.ok L
 have HA:=hide hA
 have HB:=hide hB
 have HT:=hide hTb
 obtain ⟨ao,n,c,ks,vs,rfl,hn,hc1,hc2,hrd,hcell⟩:=hP
 have HN:=hide hn
 rw [hn] at hl
 have HRD:=hide hrd
 have HCE:=hide hcell
 clear hn hrd hcell
 clear hA hB hTb
 go_enter Tryz.func22,Tryz.ntmps22
 go_wp2_with fail
 refine Calls.mono (xa7i S k _ L w (uh HA)) ?_
 rintro e w1 ⟨rfl,k1⟩
 have HK1:=hide k1
 clear k1
 go_wp2_with fail
 refine Calls.mono (xa7i S k _ L w1 ((uh HB).agr (Agr.nil (uh HK1)))) ?_
 rintro e w2 ⟨rfl,k2⟩
 have HK2:=hide ((uh HK1).trans k2 (by simp))
 clear k2
 go_wp2_with fail
 refine Calls.mono (xa8e S k _ L w2 ((uh HA).agr (Agr.nil (uh HK2))) ((uh HT).k (uh HK2))) ?_
 rintro e w3 ⟨rfl,k3⟩
 have HK3:=hide ((uh HK2).trans k3 (by simp))
 clear k3
 go_wp2_with fail
 refine Calls.mono (xa8e S k _ L w3 ((uh HB).agr (Agr.nil (uh HK3))) ((uh HT).k (uh HK3))) ?_
 rintro e w4 ⟨rfl,k4⟩
 have HK4:=hide ((uh HK3).trans k4 (by simp))
 clear k4
 generalize rootP k L = R at hrl ⊢
 go_wp2_with (refine xb0j rfl (.tmp 36) (.tmp 38) _ rfl R R hrl hrl rfl rfl ?_; rw [decide_eq_true rfl])
 refine Calls.mono (xa9p S k _ L w4 ((uh HA).agr (Agr.nil (uh HK4)))) ?_
 rintro e w5 ⟨v5,l5,rfl,hl5,k5⟩
 have HR5:=hide hl5.rdK
 have HK5:=hide ((uh HK4).trans k5 (by simp))
 clear hl5 k5
 go_wp2_with fail
 refine Calls.mono (xa9p S k _ L w5 ((uh HB).agr (Agr.nil (uh HK5)))) ?_
 rintro e w6 ⟨v6,l6,rfl,hl6,k6⟩
 have HR6:=hide hl6.rdK
 have HR56:=hide ((uh HR5).old k6)
 have HK6:=hide ((uh HK5).trans k6 (by simp))
 clear hl6 k6
 go_wp2_with fail
 refine Calls.mono (xa2b _ _ L L w6 (uh HR56) (uh HR6)) ?_
 rintro e w7 ⟨rfl,k7⟩
 have HK7:=hide ((uh HK6).trans k7 (by simp))
 rw [decide_eq_true rfl]
 clear k7 HR5 HR6 HR56
 have HA7:=hide ((uh HA).agr (Agr.nil (uh HK7)))
 have HB7:=hide ((uh HB).agr (Agr.nil (uh HK7)))
 have HT7:=hide ((uh HT).k (uh HK7))
 go_wp2_with fail
 go_loopw [51] (fun t51 wr=>∃ (j:Nat),t51 = .int .i64 j∧j≤n∧Hid (Kept [] w7 wr)) (fun t _=>n - (intOf t).toNat)
 case atStart=>exact ⟨0,rfl,Nat.zero_le _,hide (Kept.refl _ _)⟩
 case round =>
  obtain ⟨j,rfl,hj,HKj⟩:=hrel
  have HKr:=hide ((uh HK7).trans (uh HKj) (by simp))
  by_cases hlt:j < n
  ·have hlt2:(j:Int) < n:=by omega
   have hjL:j < ps.length:=by have:=uh HN; omega
   obtain ⟨b,off,rfl,hcl⟩:=uh HCE (by omega)
   obtain ⟨hx1,hx2⟩:=hcl j hlt
   obtain ⟨hr1,hr2⟩:=uh HRD j hlt
   have HSNOC:=hide (show ps.take (j + 1) = ps.take j++[ps.getD j ([],[])] by
    rw [List.take_succ_eq_append_getElem hjL,List.getD_eq_getElem?_getD,List.getElem?_eq_getElem hjL]; rfl)
   generalize ks.getD j undef = kx at hx1 hr1
   generalize vs.getD j undef = vx at hx2 hr2
   generalize ps.getD j ([],[]) = ej at hr1 hr2 HSNOC
   obtain ⟨ka,va⟩:=ej
   have HR1:=hide hr1
   have HR2:=hide hr2
   obtain ⟨x1,x2,x3,rfl,_⟩:=id hr1
   obtain ⟨y1,y2,y3,rfl,_⟩:=id hr2
   have hm1:=(uh HKr).cell hx1 (by simp)
   have hm2:=(uh HKr).cell hx2 (by simp)
   have HRG:=hide (show wr.rangeAt b (off + j * 2) [.slice x1 x2 x3,.slice y1 y2 y3] from fun i u hi=>by
    match i,hi with
    | 0,hi=>rw [Nat.add_zero,hm1]; exact hi
    | 1,hi=>rw [hm2]; exact hi)
   have HP2:=hide (heap_alloc_new wr (.cells #[.slice x1 x2 x3,.slice y1 y2 y3] 46))
   have HK2:=hide ((Kept.refl [] wr).alloc (.cells #[.slice x1 x2 x3,.slice y1 y2 y3] 46))
   clear hx1 hx2 hr1 hr2 hm1 hm2 hcl
   go_upto_region 6 with (refine wpList_load_mid rfl 46 (.tmp 53) rfl b (off + j * 2) rfl [.slice x1 x2 x3,.slice y1 y2 y3] _ (uh HRG) Tryz.underlying46 rfl Tryz.size_pair ?_)
   try simp only [Act.put]
   generalize wr.alloc (.cells #[.slice x1 x2 x3,.slice y1 y2 y3] 46) = W2 at HP2 HK2 ⊢
   have hcp:=xa0j [] [.slice x1 x2 x3,.slice y1 y2 y3] [] (uh HP2) rfl
   have hQ1:=(show W2.cell? ⟨wr.heap.size,0,none⟩ = some (.slice x1 x2 x3) from hcp 0 _ rfl)
   have hQ2:=(show W2.cell? ⟨wr.heap.size,1,none⟩ = some (.slice y1 y2 y3) from hcp 1 _ rfl)
   have HC1:=hide hQ1
   have HC2:=hide hQ2
   have HK02:=hide ((uh HKr).trans (uh HK2) (by simp))
   clear hcp
   have HQ2:=hide ((uh HR1).old (uh HK02) (by simp))
   have HK72:=hide ((uh HKj).trans (uh HK2) (by simp))
   have HAr:=hide ((uh HA7).agr (Agr.nil (uh HK72)))
   have HBr:=hide ((uh HB7).agr (Agr.nil (uh HK72)))
   have HTr:=hide (Tabs.k (uh HT7) (uh HK72))
   clear hQ2
   by_cases hql:ka.length≤64
   ·go_wp2_with fail
    refine Calls.mono (xb1o S k _ _ L ka W2 (uh HAr) (uh HQ2) hql (uh HTr)) ?_
    rintro e w8 ⟨s8,p8,rfl,hw8,k8⟩
    have HW8:=hide hw8
    have HK8:=hide k8
    have hQ8:=k8.cell hQ1 (by simp)
    clear hw8 k8
    go_wp2_with fail
    refine Calls.mono (xb1o S k _ _ L ka w8 ((uh HBr).agr (Agr.nil (uh HK8))) ((uh HQ2).old (uh HK8) (by simp)) hql (Tabs.k (uh HTr) (uh HK8))) ?_
    rintro e w9 ⟨s9,p9,rfl,hw9,k9⟩
    obtain ⟨ss,pp,a1,a2,a3,a4⟩:=xb1r ((uh HW8).old k9) hw9
    have A1:=hide a1
    have A2:=hide a2
    have A3:=hide a3
    have A4:=hide a4
    have HK9:=hide ((uh HK8).trans k9 (by simp))
    have hQ9:=k9.cell hQ8 (by simp)
    clear hw9 k9 a1 a2 a3 a4 HW8
    go_wp2_with fail
    refine Calls.mono (xb1a S k _ _ L ka w9 ((uh HAr).agr (Agr.nil (uh HK9))) ((uh HQ2).old (uh HK9) (by simp)) hql (Tabs.k (uh HTr) (uh HK9))) ?_
    rintro e w10 ⟨v10,rfl,r10,_,k10⟩
    have HR10:=hide r10
    have HK10:=hide ((uh HK9).trans k10 (by simp))
    have A1:=hide ((uh A1).old k10)
    have A2:=hide ((uh A2).old k10)
    have A3:=hide ((uh A3).old k10)
    have A4:=hide ((uh A4).old k10)
    have hQ10:=k10.cell hQ9 (by simp)
    clear r10 k10
    go_wp2_with fail
    refine Calls.mono (xb1a S k _ _ L ka w10 ((uh HBr).agr (Agr.nil (uh HK10))) ((uh HQ2).old (uh HK10) (by simp)) hql (Tabs.k (uh HTr) (uh HK10))) ?_
    rintro e w11 ⟨v11,rfl,r11,_,k11⟩
    have HR11:=hide r11
    have HR10:=hide ((uh HR10).old k11 (by simp))
    have HK11:=hide ((uh HK10).trans k11 (by simp))
    have A1:=hide ((uh A1).old k11)
    have A2:=hide ((uh A2).old k11)
    have A3:=hide ((uh A3).old k11)
    have A4:=hide ((uh A4).old k11)
    clear r11 k11 hQ1 hQ8 hQ9 hQ10
    generalize (getP ka L).getD [] = V at HR10 HR11
    generalize fnd ka L = FB
    have hfb:(FB != FB) = false:=by simp
    go_wp2_with fail
    refine Calls.mono (same_k _ _ V V w11 (uh HR10) (uh HR11)) ?_
    rintro e w12 ⟨rfl,k12⟩
    rw [decide_eq_true rfl]
    have HK12:=hide ((uh HK11).trans k12 (by simp))
    have A1:=hide ((uh A1).old k12)
    have A2:=hide ((uh A2).old k12)
    have A3:=hide ((uh A3).old k12)
    have A4:=hide ((uh A4).old k12)
    clear k12
    go_wp2_with fail
    refine Calls.mono (xa3v _ _ ss ss w12 (uh A1) (uh A3)) ?_
    rintro e w13 ⟨rfl,k13⟩
    rw [decide_eq_true rfl]
    have HK13:=hide ((uh HK12).trans k13 (by simp))
    have A2:=hide ((uh A2).old k13)
    have A4:=hide ((uh A4).old k13)
    clear k13
    go_wp2_with fail
    refine Calls.mono (xa2b _ _ pp pp w13 (uh A2) (uh A4)) ?_
    rintro e w14 ⟨rfl,k14⟩
    rw [decide_eq_true rfl]
    have HK14:=hide ((uh HK72).trans ((uh HK13).trans k14 (by simp)) (by simp))
    clear k14
    go_wp2_with fail
    refine ⟨⟨j + 1,by go_num,hlt,HK14⟩,?_⟩
    simp [intOf]; omega
   ·have hlo:64 < ka.length:=by omega
    go_wp2_with fail
    refine Calls.mono (xa9r ga _ ka W2 (uh HQ2) hlo) ?_
    rintro e w8 ⟨rfl,k8⟩
    have HK8:=hide k8
    have hQ8:=k8.cell hQ1 (by simp)
    clear k8
    go_wp2_with fail
    refine Calls.mono (xa9r gb _ ka w8 ((uh HQ2).old (uh HK8) (by simp)) hlo) ?_
    rintro e w9 ⟨rfl,k9⟩
    have HK9:=hide ((uh HK8).trans k9 (by simp))
    have hQ9:=k9.cell hQ8 (by simp)
    clear k9
    go_wp2_with fail
    refine Calls.mono (xb0s ga _ ka w9 ((uh HQ2).old (uh HK9) (by simp)) hlo) ?_
    rintro e w10 ⟨rfl,k10⟩
    have HK10:=hide ((uh HK9).trans k10 (by simp))
    have hQ10:=k10.cell hQ9 (by simp)
    clear k10
    go_wp2_with fail
    refine Calls.mono (xb0s gb _ ka w10 ((uh HQ2).old (uh HK10) (by simp)) hlo) ?_
    rintro e w11 ⟨rfl,k11⟩
    have HK11:=hide ((uh HK10).trans k11 (by simp))
    clear k11 hQ1 hQ8 hQ9 hQ10
    go_wp2_with fail
    refine Calls.mono (same_k _ _ [] [] w11 (Rd.nil _) (Rd.nil _)) ?_
    rintro e w12 ⟨rfl,k12⟩
    rw [decide_eq_true rfl]
    have HK12:=hide ((uh HK11).trans k12 (by simp))
    clear k12
    go_wp2_with fail
    refine Calls.mono (xa3v _ _ [] [] w12 (SLay.nil 0 w12).rdS (SLay.nil 0 w12).rdS) ?_
    rintro e w13 ⟨rfl,k13⟩
    rw [decide_eq_true rfl]
    have HK13:=hide ((uh HK12).trans k13 (by simp))
    clear k13
    go_wp2_with fail
    refine Calls.mono (xa2b _ _ [] [] w13 (LayAt.nil 0 w13).rdK (LayAt.nil 0 w13).rdK) ?_
    rintro e w14 ⟨rfl,k14⟩
    rw [decide_eq_true rfl]
    have HK14:=hide ((uh HK72).trans ((uh HK13).trans k14 (by simp)) (by simp))
    clear k14
    go_wp2_with fail
    refine ⟨⟨j + 1,by go_num,hlt,HK14⟩,?_⟩
    simp [intOf]; omega
  ·have hje:j = n:=by omega
   have hlt2:¬ (j:Int) < n:=by omega
   go_wp2_with fail
   go_ret
   exact ⟨rfl,uh HKr⟩
theorem xb1n:∀ ps:Prs,2 * ps.length≤kwt ps
 | []=>by simp [kwt]
 | p :: ps=>by
  have ih:=xb1n ps
  have e:kwt (p :: ps) = p.1.length + p.2.length + 2 + kwt ps:=by simp [kwt]
  rw [e,List.length_cons]; omega
theorem xb1c {z:Int} (h:widthB z = true):∃ k:Nat,z = k∧1≤k∧k≤32:=by
 have h1:1≤z∧z≤32:=by simpa [widthB] using h
 exact ⟨z.toNat,by omega,by omega,by omega⟩
end
section
open Go Go.RowKit Go.BigFrame
section
variable {P:Program} {Q:Exit→Act→World→Prop} {S:World→Prop}
def ChG (P:Program) (O:Array Oper) (Q:Exit→Act→World→Prop) (S:World→Prop) (F:Act→World→Prop):List Oper→Act→World→Prop
 | [],a,w=>F a w
 | o :: r,a,w=>(Region.wanted o (yielded O a.tmps) = true∧o.wp P a w (fun a' w'=>S w'∧ChG P O Q S F r a' w') (NoPanic Q))∨(Region.wanted o (yielded O a.tmps) = false∧S w∧ChG P O Q S F r (a.put o.dst undef) w)
theorem xa4d {O:Array Oper} {F:Act→World→Prop} {m:Nat} {D:Array Bool} (hF:∀ a w,F a w→wpAnyH P .any O (NoPanic Q) S m D a w):∀ (C:List Nat) (cs:List Oper) (d:Array Bool) (a:Act) (w:World),C.map (O[·]?) = cs.map some→linC O C d = true→linD C d = D→ChG P O Q S F cs a w→wpAnyH P .any O (NoPanic Q) S (C.length + m) d a w
 | [],[],d,a,w,_,_,hD,h=>by rw [List.length_nil,Nat.zero_add]; have e:d = D:=hD; rw [e]; exact hF a w h
 | [],_ :: _,_,_,_,he,_,_,_=>by simp at he
 | i :: C,[],_,_,_,he,_,_,_=>by simp at he
 | i :: C,o :: cs,d,a,w,he,hb,hD,h=>by
  simp only [List.map_cons,List.cons.injEq] at he
  simp only [linC,Bool.and_eq_true,decide_eq_true_eq] at hb
  rw [List.length_cons,show C.length + 1 + m = (C.length + m) + 1 by omega]
  refine wpAnyH_all (rs:=[i]) hb.1 (by simp) (fun j hj=>?_)
  rw [List.mem_singleton] at hj
  subst hj
  unfold wpOp
  simp only [he.1]
  rcases h with ⟨hw,h⟩ | ⟨hw,hS,h⟩
  ·rw [if_pos hw]
   refine Or.inl (Oper.wp_mono (fun a' w' h2=>⟨h2.1,?_⟩) h)
   exact xa4d hF C cs _ a' w' he.2 hb.2 hD h2.2
  ·rw [if_neg (by rw [hw]; decide)]
   exact ⟨hS,xa4d hF C cs _ _ w he.2 hb.2 hD h⟩
theorem xb2k {id:Nat} {O:Array Oper} {a:Act} {w:World} {R C T:List Nat} {rs cs ts:List Oper} (hm:P.follows .mixedOrders = true) (hb:linB O R C T = true) (hR:R.map (O[·]?) = rs.map some) (hC:C.map (O[·]?) = cs.map some) (hT:T.map (O[·]?) = ts.map some)
  (hS:S w.drew) (h:LinG P O S (ChG P O Q S (fun a w=>S w∧LinG P O S (Q .normal) ts a w) cs) rs a w.drew):(Code.region id O true).wp P Q a w:=by
 unfold linB at hb
 simp only [Bool.and_eq_true,decide_eq_true_eq] at hb
 obtain ⟨⟨b1,b2⟩,b3,b4,b5,b6⟩:=hb
 refine wp_region_noPanic ?_
 refine wp_region_held_drew (S:=S) hm hS (fun _=>?_)
 rw [b2]
 have h3:∀ a w,(S w∧LinG P O S (Q .normal) ts a w)→wpAnyH P .any O (NoPanic Q) S (T.length + 0) (linD C (linD R (linS O))) a w:=fun a w h=>xa2h b1 (xa2x (decide_eq_true b6)) T ts _ a w hT b5 rfl h.1 h.2
 have h2:=fun a w h=>xa4d (P:=P) (Q:=Q) (S:=S) h3 C cs (linD R (linS O)) a w hC b4 rfl h
 have:=xa2h (P:=P) (Q:=Q) (S:=S) b1 h2 R rs (linS O) a w.drew hR b3 rfl hS h
 unfold linS at this
 rw [b2] at this
 exact this
theorem ChG.op {O:Array Oper} {F:Act→World→Prop} {cs:List Oper} {o:Oper} {a A:Act} {w w':World} (hw:Region.wanted o (yielded O a.tmps) = true) (v:Value) (hv:(execOp a.eval o).run P w = .ok (.value v) w') (hS:S w') (p:a.put o.dst v = A) (h:ChG P O Q S F cs A w'):ChG P O Q S F (o :: cs) a w:=by
 refine Or.inl ⟨hw,?_⟩
 unfold Oper.wp
 rw [hv]
 rw [← p] at h
 exact ⟨hS,h⟩
theorem ChG.no {O:Array Oper} {F:Act→World→Prop} {cs:List Oper} {o:Oper} {a A:Act} {w:World} (hw:Region.wanted o (yielded O a.tmps) = false) (hS:S w) (p:a.put o.dst undef = A) (h:ChG P O Q S F cs A w):ChG P O Q S F (o :: cs) a w :=
 Or.inr ⟨hw,hS,by rw [p]; exact h⟩
theorem ChG.fin {O:Array Oper} {F:Act→World→Prop} {a:Act} {w:World} (h:F a w):ChG P O Q S F [] a w:=h
end
theorem ChG.call {O:Array Oper} {Q:Exit→Act→World→Prop} {S:World→Prop} {F:Act→World→Prop} {cs:List Oper} {o:Oper} {a:Act} {w:World} {f:FuncId} {xs:Array Operand} {ts:Array TypeId} (hw:Region.wanted o (yielded O a.tmps) = true) (ho:o.op = .call { callee:=.value (.func f),args:=xs,argTypes:=ts })
  (hcl:∀ args W,(callFunc f args).run Tryz.prog W = .ok (.enter f args) W) (us:List Value) (he:xs.toList.map a.eval = us) {R:Ending→World→Prop}
  (hc:Calls Tryz.prog f us.toArray w R) (h:∀ e w',R e w'→∃ v,e = .returned v∧S w'∧ChG Tryz.prog O Q S F cs (a.put o.dst v) w'):ChG Tryz.prog O Q S F (o :: cs) a w:=by
 unfold ChG
 exact Or.inl ⟨hw,xb3c ho hcl us he hc h⟩
theorem lg_y15 {P:Program} {Q:Exit→Act→World→Prop} {id:Nat} {o0 o1 o2 o3 o4 o5 o6 o7 o8 o9 o10 o11 o12:Oper} {a:Act} {w:World} (hm:P.follows .mixedOrders = true) (hb:linB #[o0,o1,o2,o3,o4,o5,o6,o7,o8,o9,o10,o11,o12] [0,1,2,3,4,5,6,7,8] [9,10,11,12] [] = true) (S:World→Prop) (hS:S w.drew)
  (h:LinG P #[o0,o1,o2,o3,o4,o5,o6,o7,o8,o9,o10,o11,o12] S (ChG P #[o0,o1,o2,o3,o4,o5,o6,o7,o8,o9,o10,o11,o12] Q S (fun a w=>S w∧LinG P #[o0,o1,o2,o3,o4,o5,o6,o7,o8,o9,o10,o11,o12] S (Q .normal) [] a w) [o9,o10,o11,o12]) [o0,o1,o2,o3,o4,o5,o6,o7,o8] a w.drew):(Code.region id #[o0,o1,o2,o3,o4,o5,o6,o7,o8,o9,o10,o11,o12] true).wp P Q a w:=xb2k (R:=[0,1,2,3,4,5,6,7,8]) (C:=[9,10,11,12]) (T:=[]) (rs:=[o0,o1,o2,o3,o4,o5,o6,o7,o8]) (cs:=[o9,o10,o11,o12]) (ts:=[]) hm hb rfl rfl rfl hS h
theorem lg_y23 {P:Program} {Q:Exit→Act→World→Prop} {id:Nat} {o0 o1 o2 o3 o4 o5 o6 o7 o8 o9 o10 o11 o12 o13 o14 o15 o16 o17 o18 o19 o20 o21 o22 o23 o24 o25:Oper} {a:Act} {w:World} (hm:P.follows .mixedOrders = true) (hb:linB #[o0,o1,o2,o3,o4,o5,o6,o7,o8,o9,o10,o11,o12,o13,o14,o15,o16,o17,o18,o19,o20,o21,o22,o23,o24,o25] [0,1,2,3,4,5,6,7,8,9,10,11,12,13,14,15,16,17,18,19,20,21,22] [23,24,25] [] = true) (S:World→Prop) (hS:S w.drew)
  (h:LinG P #[o0,o1,o2,o3,o4,o5,o6,o7,o8,o9,o10,o11,o12,o13,o14,o15,o16,o17,o18,o19,o20,o21,o22,o23,o24,o25] S (ChG P #[o0,o1,o2,o3,o4,o5,o6,o7,o8,o9,o10,o11,o12,o13,o14,o15,o16,o17,o18,o19,o20,o21,o22,o23,o24,o25] Q S (fun a w=>S w∧LinG P #[o0,o1,o2,o3,o4,o5,o6,o7,o8,o9,o10,o11,o12,o13,o14,o15,o16,o17,o18,o19,o20,o21,o22,o23,o24,o25] S (Q .normal) [] a w) [o23,o24,o25]) [o0,o1,o2,o3,o4,o5,o6,o7,o8,o9,o10,o11,o12,o13,o14,o15,o16,o17,o18,o19,o20,o21,o22] a w.drew):(Code.region id #[o0,o1,o2,o3,o4,o5,o6,o7,o8,o9,o10,o11,o12,o13,o14,o15,o16,o17,o18,o19,o20,o21,o22,o23,o24,o25] true).wp P Q a w:=xb2k (R:=[0,1,2,3,4,5,6,7,8,9,10,11,12,13,14,15,16,17,18,19,20,21,22]) (C:=[23,24,25]) (T:=[]) (rs:=[o0,o1,o2,o3,o4,o5,o6,o7,o8,o9,o10,o11,o12,o13,o14,o15,o16,o17,o18,o19,o20,o21,o22]) (cs:=[o23,o24,o25]) (ts:=[]) hm hb rfl rfl rfl hS h
theorem lg_y24 {P:Program} {Q:Exit→Act→World→Prop} {id:Nat} {o0 o1 o2 o3 o4 o5 o6 o7 o8 o9 o10 o11 o12 o13 o14 o15 o16:Oper} {a:Act} {w:World} (hm:P.follows .mixedOrders = true) (hb:linB #[o0,o1,o2,o3,o4,o5,o6,o7,o8,o9,o10,o11,o12,o13,o14,o15,o16] [0,1,2,3,4,5,6,7,8,9,10] [11,12] [13,14,15,16] = true) (hg:([o0,o1,o2,o3,o4,o5,o6,o7,o8,o9,o10]++([o11,o12]++[o13,o14,o15,o16])).all (fun o=>o.guard.isNone) = true) (S:World→Prop) (hS:S w.drew)
  (h:LinY P S (ChL P Q S (fun a w=>S w∧LinY P S (Q .normal) [o13,o14,o15,o16] a w) [o11,o12]) [o0,o1,o2,o3,o4,o5,o6,o7,o8,o9,o10] a w.drew):(Code.region id #[o0,o1,o2,o3,o4,o5,o6,o7,o8,o9,o10,o11,o12,o13,o14,o15,o16] true).wp P Q a w:=wp_lin (R:=[0,1,2,3,4,5,6,7,8,9,10]) (C:=[11,12]) (T:=[13,14,15,16]) (rs:=[o0,o1,o2,o3,o4,o5,o6,o7,o8,o9,o10]) (cs:=[o11,o12]) (ts:=[o13,o14,o15,o16]) hm hb rfl rfl rfl hg hS h
end
section
open Go.RowKit Go.BigFrame
theorem xa9y (ps:Prs):shortP (shortP ps) = shortP ps:=by unfold shortP; rw [List.filter_filter]; simp
theorem xc0j {l:Prs} {i:Nat} (h:i < l.length):bkL (l.drop i) = bkL (l.drop (i + 1))++(if (l.drop (i + 1)).any (fun x=>decide (x.1 = (l.getD i ([],[])).1)) = true then [] else [l.getD i ([],[])]):=by
 rw [List.drop_eq_getElem_cons h,List.getD_eq_getElem?_getD,List.getElem?_eq_getElem h]; rfl
theorem bkl_le:∀ l:Prs,(bkL l).length≤l.length
 | []=>by simp [bkL]
 | p :: ps=>by
  have ih:=bkl_le ps
  unfold bkL
  rw [List.length_append,List.length_cons]
  split
  ·simp; omega
  ·simp; omega
theorem xb7k {l:Prs} {m:Nat} (h:m < l.length) (f:List Nat × List Nat→Bool):(l.take (m + 1)).any f = ((l.take m).any f || f (l.getD m ([],[]))):=by
 rw [List.take_succ_eq_append_getElem h,List.any_append,List.getD_eq_getElem?_getD,List.getElem?_eq_getElem h]; simp
theorem any_t {A:Bool} (h:true = !A):A = false:=by cases A <;> simp_all
theorem any_f {A:Bool} (h:false = !A):A = true:=by cases A <;> simp_all
theorem xc0t {A s:Bool} (h:true = !A):(!s) = !(A || s):=by rw [any_t h]; rfl
theorem xb9n {A s:Bool} (h:false = !A):false = !(A || s):=by rw [any_f h]; rfl
theorem xa8z:∀ ps L:Prs,(delAll L ps).length≤L.length
 | [],L=>Nat.le_refl _
 | p :: ps,L=>by
  have h1:=xa8z ps (delP p.1 L)
  have h2:(delP p.1 L).length≤L.length:=by unfold delP; exact List.length_filter_le _ _
  show (delAll (delP p.1 L) ps).length≤_
  omega
theorem hk_ins {H:Hs} {q v:List Nat} {M:Prs} {K:List Nat→Prop} (h:Srt H M) (hk:∀ x,getP x M≠none→K x) (hq:K q):∀ x,getP x (insP H q v M)≠none→K x:=fun x hx=>by
 rw [xa6k h] at hx
 by_cases e:x = q
 ·rw [e]; exact hq
 ·rw [if_neg e] at hx; exact hk x hx
theorem PR.big {S T:Nat→Prop} {W:World} {l:List VP} {L:Prs} (h:PR S W l L) (hs:∀ x,S x→T x):PR T W l L:=⟨h.1,fun i hi w' a=>h.2 i hi w' ⟨a.1,fun x hx hl=>a.2 x (hs x hx) hl⟩⟩
set_option maxHeartbeats 8000000 in
theorem hamtHistory_walk (z:Int) (pv:Value) (ps:Prs) (ov:Value) (os:Prs) (w:World) (hz:-9223372036854775808≤z∧z≤9223372036854775807) (hP:RdK w pv ps) (hx:kwt ps≤1048576) (hO:RdK w ov os) (hy:kwt os≤1048576) (hT:Tabs w) :
  Calls Tryz.prog 5 #[.int .i64 z,pv,ov] w fun e w'=>e = .returned (.bool true)∧Below w.heap.size w w':=by
 have hpl:=xb1n ps
 have hol:=xb1n os
 have HPL:=hide (show ps.length≤1000000 by omega)
 have HOL:=hide (show os.length≤1000000 by omega)
 obtain ⟨S,hS⟩:∃ S:Nat→Prop,S = fun _=>True:=⟨_,rfl⟩
 have HS:=hide (show ∀ (n y:Nat),n≤y→S y from fun _ _ _=>by rw [hS]; trivial)
 have HT:=hide hT
 have HP:=hide hP
 have HO:=hide hO
 obtain ⟨pa,pn,pc,_,_,rfl,_⟩:=id hP
 obtain ⟨oa,on,oc,oks,ovs,rfl,hon,hoc1,hoc2,hord,hocell⟩:=id hO
 have HON:=hide hon
 have HOR:=hide hord
 have HOE:=hide hocell
 clear hT hS hpl hol hx hy hP hO hon hord hocell
 go_enter Tryz.func5,Tryz.ntmps5
 go_wp2_with fail
 refine Calls.mono (xb0e w (uh HT)) ?_
 rintro e w1 ⟨rfl,k1⟩
 have HK1:=hide k1
 clear k1
 go_wp2_with fail
 refine Calls.mono (xb2y z w1 hz) ?_
 rintro e w2 ⟨rfl,h2⟩
 rw [h2]
 clear h2
 cases hw:widthB z with
 | false =>
  go_wp2_with fail
  go_ret
  exact ⟨rfl,(uh HK1).below (Nat.le_refl _) (by simp)⟩
 | true =>
  obtain ⟨k,rfl,hk⟩:=xb1c hw
  clear hw hz
  go_wp2_with fail
  refine Calls.mono (xa4k _ ps w1 ((uh HP).old (uh HK1)) (by have:=uh HPL; omega)) ?_
  rintro e w3 ⟨v3,l3,rfl,⟨o3,p3⟩,k3⟩
  have hr3:=rdk_of (xa1f (by rw [xa0p]; exact o3) p3.cell.1) p3
  have hss:=xa9y ps
  have hsl:=xa3n ps
  have hl:(shortP ps).length≤1000000:=by have:=uh HPL; omega
  have HFT:=hide (xa9g ps)
  generalize shortP ps = ls at hr3 hss hl HFT p3
  have HW3:=hide o3
  have HP3:=hide p3
  have HL:=hide hr3
  have HSS:=hide hss
  have HLL:=hide hl
  have HK3:=hide ((uh HK1).trans k3 (by simp))
  have HO3:=hide ((uh HO).old (uh HK3))
  have HS13:=hide (show w1.heap.size≤w3.heap.size from k3.size)
  clear k3 hss hsl o3 p3
  obtain ⟨ao,n,c,ks,vs,rfl,hn,hc1,hc2,hrd,hcell⟩:=id hr3
  have HN:=hide hn
  rw [hn] at hl
  have HRD:=hide hrd
  have HCE:=hide hcell
  clear hn hrd hcell hr3 HO
  go_wp2_with fail
  refine Calls.mono (xb4q S k hk _ ls w3 (uh HL) (by have:=uh HLL; omega) (uh HS _) ((uh HT).k (uh HK3))) ?_
  rintro e w4 ⟨m4,rfl,hm4,k4⟩
  rw [uh HSS] at hm4
  obtain ⟨ga,rfl⟩:=hm4.form
  have HMA:=hide hm4
  have HK34:=hide k4
  have HK4:=hide ((uh HK3).trans k4 (by simp))
  have hwn:IntKind.i64.wrap ((n:Int) - 1) = (n:Int) - 1:=by simp [IntKind.wrap,IntKind.signed,IntKind.bits]; omega
  clear hm4 k4 HSS
  go_wp2_with fail
  go_loopw [9,10] (fun t9 t10 wr=>∃ (j:Nat) (v:Value) (lx:List VP),t10 = .int .i64 ((j:Int) - 1)∧t9 = v∧j≤n∧Hid (wr.ownsRow w4.heap.size 46 2 v lx.length (kvR lx).flatten)∧Hid (PR (fun y=>y < w4.heap.size) wr lx (bkL (ls.drop j)))∧Hid (Kept [] w4 wr)) (fun _ t _=>(intOf t + 1).toNat)
  case atStart=>exact ⟨n,.slice none 0 0,[],by first | rfl | rw [hwn],rfl,Nat.le_refl _,hide (World.ownsRow_nil _ _ _ _),hide (by rw [List.drop_of_length_le (by have:=uh HN; omega)]; exact PR.nil _ _),hide (Kept.refl _ _)⟩
  case round =>
   obtain ⟨j,v,lx,rfl,rfl,hj,HOx,HPx,HKr4⟩:=hrel
   have HKr:=hide ((uh HK34).trans (uh HKr4) (by simp))
   cases j with
   | succ i =>
    rw [show (((i + 1:Nat):Int) - 1) = (i:Int) by omega]
    have hi0:(0:Int)≤i:=by omega
    have hin:i < n:=by omega
    have hil:i < ls.length:=by have:=uh HN; omega
    obtain ⟨b,off,rfl,hcl⟩:=uh HCE (by omega)
    have HCL:=hide hcl
    obtain ⟨hx1,hx2⟩:=hcl i hin
    obtain ⟨hr1,hr2⟩:=uh HRD i hin
    have HBK:=hide (xc0j hil)
    generalize ks.getD i undef = kx at hx1 hr1
    generalize vs.getD i undef = vx at hx2 hr2
    generalize ls.getD i ([],[]) = ei at hr1 hr2 HBK
    obtain ⟨ki,vi⟩:=ei
    have HR1:=hide hr1
    have HR2:=hide hr2
    obtain ⟨x1,x2,x3,rfl,_⟩:=id hr1
    obtain ⟨y1,y2,y3,rfl,_⟩:=id hr2
    have HX1:=hide ((uh HKr).cell hx1 (by simp))
    have HX2:=hide ((uh HKr).cell hx2 (by simp))
    clear hx1 hx2 hr1 hr2 hcl
    have hwd:IntKind.i64.wrap ((i:Int) - 1) = (i:Int) - 1:=by simp [IntKind.wrap,IntKind.signed,IntKind.bits]; omega
    have HB9:=hide (uh HOx)
    obtain ⟨vo,vc,rfl⟩:=xa0m (uh HOx)
    have hown:∀ z,(Value.slice vo lx.length vc).ownBlock = some z→w4.heap.size≤z:=fun z hz=>((uh HOx).lt z hz).1
    have HOWN:=hide hown
    have HLX:=hide (show lx.length≤1000000 by have h1:=(uh HPx).1; have h2:=bkl_le (ls.drop (i + 1)); have h3:=uh HLL; rw [List.length_drop] at h2; omega)
    clear hown
    have hwi:IntKind.i64.wrap ((i:Int) + 1) = (i:Int) + 1:=by simp [IntKind.wrap,IntKind.signed,IntKind.bits]; omega
    obtain ⟨wo,hwo⟩:∃ wo,wo = wr:=⟨_,rfl⟩
    subst hwo
    by_cases hce:c = i + 1
    ·subst hce
     have hnn:n - (i + 1) = 0:=by omega
     go_wp2_with fail
     go_loopw [11,43] (fun t11 t43 wr=>∃ (m:Nat) (lb:Bool),t43 = .int .i64 m∧m≤n - (i + 1)∧t11 = .bool lb∧Hid (lb = !(((ls.drop (i + 1)).take m).any (fun x=>decide (x.1 = ki))))∧Hid (Kept [] wo wr)) (fun _ t _=>(n - (i + 1)) - (intOf t).toNat)
     case atStart=>exact ⟨0,true,rfl,Nat.zero_le _,rfl,hide (by simp),hide (Kept.refl _ _)⟩
     case round =>
      obtain ⟨m,lb,rfl,hm,rfl,HLB,HKi⟩:=hrel
      have HKe:=hide ((uh HKr).trans (uh HKi) (by simp))
      by_cases hlt:m < n - (i + 1)
      ·exfalso; omega
      ·have hlt2:¬ (m:Int) < (n - (i + 1):Nat):=by omega
       have HLB2:Hid (lb = !((ls.drop (i + 1)).any (fun x=>decide (x.1 = ki)))):=by
        have h9:=uh HLB
        rw [List.take_of_length_le (by rw [List.length_drop]; have:=uh HN; omega)] at h9
        exact h9
       have HBK:Hid (bkL (ls.drop i) = bkL (ls.drop (i + 1))++(if (ls.drop (i + 1)).any (fun x=>decide (x.1 = ki)) = true then [] else [(ki,vi)])):=HBK
       generalize (ls.drop (i + 1)).any (fun x=>decide (x.1 = ki)) = A at HLB2 HBK
       have HKo:=hide ((uh HKr4).trans (uh HKi) (by simp))
       have HX1i:=hide ((uh HKi).cell (uh HX1) (by simp))
       have HX2i:=hide ((uh HKi).cell (uh HX2) (by simp))
       clear HLB
       cases lb with
       | true =>
        have hA:A = false:=any_t (uh HLB2)
        subst hA
        have HRI:=hide (show wr.rangeAt b (off + i * 2) [.slice x1 x2 x3,.slice y1 y2 y3] from fun y u hy=>by
         match y,hy with
         | 0,hy=>rw [Nat.add_zero,uh HX1i]; exact hy
         | 1,hy=>rw [uh HX2i]; exact hy)
        have ka:=(Kept.refl [] wr).alloc (.cells #[.slice x1 x2 x3,.slice y1 y2 y3] 46)
        have HRL:=hide (show RdC 2 (wr.alloc (.cells #[.slice x1 x2 x3,.slice y1 y2 y3] 46)) (.slice (some ⟨wr.heap.size,0,none⟩) 1 1) (kvR [(.slice x1 x2 x3,.slice y1 y2 y3)]) from ⟨_,1,1,rfl,rfl,Nat.le_refl _,by omega,fun _=>⟨wr.heap.size,0,rfl,fun j hj=>by
         have h0:j = 0:=by rw [xa0p] at hj; simp at hj; omega
         subst h0
         exact xa0j [] [.slice x1 x2 x3,.slice y1 y2 y3] [] (heap_alloc_new wr _) rfl⟩⟩)
        have HKA:=hide ka
        have HO5:=hide (ka.owns ((uh HKi).owns (uh HOx) (by simp)) (by simp))
        have HK5:=hide ((uh HKo).trans ka (by simp))
        have hlx:=uh HLX
        have hb5:=(uh HK5).size
        clear ka
        go_wp2_with (first
         | (refine wpList_load_mid rfl 46 (.tmp 64) rfl b (off + i * 2) rfl [.slice x1 x2 x3,.slice y1 y2 y3] _ (uh HRI) Tryz.underlying46 rfl Tryz.size_pair ?_)
         | (refine xa1k rfl (.tmp 65) rfl (.slice x1 x2 x3) (.slice y1 y2 y3) rfl ?_)
         | (at_builtin; refine xa0f rfl 40 46 (.tmp 61) (.tmp 66) rfl rfl _ w4.heap.size (.agg #[.slice none 0 0,.slice none 0 0]) 2 48 Tryz.underlying40 Tryz.infoQ rfl (by decide) (.slice vo lx.length vc) lx.length (kvR lx).flatten (uh HO5) (some ⟨wr.heap.size,0,none⟩) 1 1 (kvR [(.slice x1 x2 x3,.slice y1 y2 y3)]) (uh HRL) (by intro r hr; simp [kvR] at hr; rw [hr]; rfl) (by intro r hr u hu; simp [kvR] at hr; rw [hr] at hu; simp at hu; rcases hu with rfl | rfl <;> rfl) (by omega) (by omega) hb5 rfl rfl ?_; intro ao7 c7 w7 HO7 HG7 HA7))
        have HK7:=hide ((uh HK5).grown (uh HG7) (fun z hz=>Or.inr (uh HOWN z hz)))
        have HAG:=hide (show Agr (fun y=>y < w4.heap.size) wo w7 from ⟨by have h1:=(uh HKi).size; have h2:=(uh HG7).size; have h3:=(uh HKA).size; omega,fun x hx hl=>by
         rw [(uh HK7).block x hx (by simp),(uh HKr4).block x hx (by simp)]⟩)
        have HPY:=hide (((uh HPx).agr (uh HAG)).app (PR.one (S:=fun y=>y < w4.heap.size) (W:=w7) (x:=.slice x1 x2 x3) (y:=.slice y1 y2 y3) (a:=ki) (b:=vi) (rd_low ((uh HR1).old (uh HK34) (by simp)) (uh HK7)) (rd_low ((uh HR2).old (uh HK34) (by simp)) (uh HK7))))
        clear hlx hb5 HAG
        refine ⟨⟨i,.slice ao7 (lx.length + 1) c7,lx++[(.slice x1 x2 x3,.slice y1 y2 y3)],by first | rfl | rw [hwd],rfl,by omega,hide (by rw [List.length_append,xa4q,List.flatten_append]; exact uh HO7),hide (by rw [uh HBK,if_neg (by decide)]; exact uh HPY),HK7⟩,?_⟩
        simp [intOf]; try omega
       | false =>
        have hA:A = true:=any_f (uh HLB2)
        subst hA
        go_wp2_with fail
        refine ⟨⟨i,_,lx,by first | rfl | rw [hwd],rfl,by omega,hide ((uh HKi).owns (uh HOx) (by simp)),hide (by rw [uh HBK,if_pos rfl,List.append_nil]; exact (uh HPx).agr (Agr.nil (uh HKi))),HKo⟩,?_⟩
        simp [intOf]; try omega
    ·have hce1:i + 1 < c:=by omega
     go_wp2_with fail
     go_loopw [11,43] (fun t11 t43 wr=>∃ (m:Nat) (lb:Bool),t43 = .int .i64 m∧m≤n - (i + 1)∧t11 = .bool lb∧Hid (lb = !(((ls.drop (i + 1)).take m).any (fun x=>decide (x.1 = ki))))∧Hid (Kept [] wo wr)) (fun _ t _=>(n - (i + 1)) - (intOf t).toNat)
     case atStart=>exact ⟨0,true,rfl,Nat.zero_le _,rfl,hide (by simp),hide (Kept.refl _ _)⟩
     case round =>
      obtain ⟨m,lb,rfl,hm,rfl,HLB,HKi⟩:=hrel
      have HKe:=hide ((uh HKr).trans (uh HKi) (by simp))
      by_cases hlt:m < n - (i + 1)
      ·have hlt2:(m:Int) < (n - (i + 1):Nat):=by omega
       have hen:i + 1 + m < n:=by omega
       obtain ⟨hz1,hz2⟩:=uh HCL (i + 1 + m) hen
       obtain ⟨hs1,hs2⟩:=uh HRD (i + 1 + m) hen
       have HAT:=hide (show ((ls.drop (i + 1)).take (m + 1)).any (fun x=>decide (x.1 = ki)) = (((ls.drop (i + 1)).take m).any (fun x=>decide (x.1 = ki)) || decide ((ls.getD (i + 1 + m) ([],[])).1 = ki)) by
        rw [xb7k (by rw [List.length_drop]; have:=uh HN; omega)]; simp [List.getD_eq_getElem?_getD,List.getElem?_drop])
       generalize ks.getD (i + 1 + m) undef = kx at hz1 hs1
       generalize vs.getD (i + 1 + m) undef = vx at hz2 hs2
       generalize ls.getD (i + 1 + m) ([],[]) = ee at hs1 hs2 HAT
       obtain ⟨ke,ve⟩:=ee
       have HS1:=hide hs1
       obtain ⟨s1,s2,s3,rfl,_⟩:=id hs1
       obtain ⟨u1,u2,u3,rfl,_⟩:=id hs2
       have hm1:=(uh HKe).cell hz1 (by simp)
       have hm2:=(uh HKe).cell hz2 (by simp)
       have HRG:=hide (show wr.rangeAt b (off + (i + 1) * 2 + m * 2) [.slice s1 s2 s3,.slice u1 u2 u3] from fun y u hy=>by
        match y,hy with
        | 0,hy=>rw [Nat.add_zero,show off + (i + 1) * 2 + m * 2 = off + (i + 1 + m) * 2 by omega,hm1]; exact hy
        | 1,hy=>rw [show off + (i + 1) * 2 + m * 2 + 1 = off + (i + 1 + m) * 2 + 1 by omega,hm2]; exact hy)
       have HP2:=hide (heap_alloc_new wr (.cells #[.slice s1 s2 s3,.slice u1 u2 u3] 46))
       have HK2:=hide ((Kept.refl [] wr).alloc (.cells #[.slice s1 s2 s3,.slice u1 u2 u3] 46))
       clear hz1 hz2 hs1 hs2 hm1 hm2
       go_upto_region 15 with (refine wpList_load_mid rfl 46 (.tmp 45) rfl b (off + (i + 1) * 2 + m * 2) rfl [.slice s1 s2 s3,.slice u1 u2 u3] _ (uh HRG) Tryz.underlying46 rfl Tryz.size_pair ?_)
       try simp only [Act.put]
       generalize wr.alloc (.cells #[.slice s1 s2 s3,.slice u1 u2 u3] 46) = W2 at HP2 HK2 ⊢
       have hcp:=xa0j [] [.slice s1 s2 s3,.slice u1 u2 u3] [] (uh HP2) rfl
       have C1:=hide (show W2.cell? ⟨wr.heap.size,0,none⟩ = some (.slice s1 s2 s3) from hcp 0 _ rfl)
       have C2:=hide ((uh HK2).cell ((uh HKi).cell (uh HX1) (by simp)) (by simp))
       have HKw:=hide ((uh HKe).trans (uh HK2) (by simp))
       have hd2:=(Kept.refl [] W2).drew
       have HKd:=hide ((uh HKi).trans ((uh HK2).trans hd2 (by simp)) (by simp))
       clear hcp HRG HP2
       refine lg_y15 (by kernel_rfl) (by kernel_rfl) (fun W=>Kept [] W2 W) hd2 ?_
       have hsm:=same_k (.slice s1 s2 s3) (.slice x1 x2 x3) ke ki W2.drew ((uh HS1).old ((uh HKw).trans hd2 (by simp)) (by simp)) ((uh HR1).old ((uh HKw).trans hd2 (by simp)) (by simp))
       obtain ⟨sb,hsb⟩:∃ sb,sb = decide (ke = ki):=⟨_,rfl⟩
       rw [← hsb] at hsm
       have HAT:Hid (((ls.drop (i + 1)).take (m + 1)).any (fun x=>decide (x.1 = ki)) = (((ls.drop (i + 1)).take m).any (fun x=>decide (x.1 = ki)) || sb)):=by rw [hsb]; exact HAT
       clear hsb
       cases lb with
       | true =>
        refine LinG.rd (by rfl) (.bool true) (fun W hW=>by go_simp) (by simp only [Act.put,sa1,sa2,sa3]; rfl) ?_
        refine LinG.rd (by rfl) (.bool true) (fun W hW=>by go_simp) (by simp only [Act.put,sa1,sa2,sa3]; rfl) ?_
        refine LinG.rd (by rfl) (.pointer (some ⟨wr.heap.size,0,none⟩)) (fun W hW=>by go_simp) (by simp only [Act.put,sa1,sa2,sa3]; rfl) ?_
        refine LinG.rd (by rfl) (.slice s1 s2 s3) (fun W hW=>by have h9:=hW.cell (uh C1) (by simp); go_simp) (by simp only [Act.put,sa1,sa2,sa3]; rfl) ?_
        refine LinG.rd (by rfl) (.slice (some ⟨b,off,none⟩) n c) (fun W hW=>by go_simp) (by simp only [Act.put,sa1,sa2,sa3]; rfl) ?_
        refine LinG.rd (by rfl) (.int .i64 i) (fun W hW=>by go_simp) (by simp only [Act.put,sa1,sa2,sa3]; rfl) ?_
        refine LinG.rd (by rfl) (.pointer (some ⟨b,off + i * 2,none⟩)) (fun W hW=>by go_simp) (by simp only [Act.put,sa1,sa2,sa3]; rfl) ?_
        refine LinG.rd (by rfl) (.pointer (some ⟨b,off + i * 2,none⟩)) (fun W hW=>by go_simp) (by simp only [Act.put,sa1,sa2,sa3]; rfl) ?_
        refine LinG.rd (by rfl) (.slice x1 x2 x3) (fun W hW=>by have h9:=hW.cell (uh C2) (by simp); go_simp) (by simp only [Act.put,sa1,sa2,sa3]; rfl) ?_
        refine LinG.fin (ChG.call (by rfl) rfl Tryz.call18 [.slice s1 s2 s3,.slice x1 x2 x3] rfl hsm ?_)
        rintro e w8 ⟨rfl,k8⟩
        have hk8:=hd2.trans k8 (by simp)
        refine ⟨_,rfl,hk8,?_⟩
        simp only [Act.put,sa1,sa2,sa3]
        refine ChG.op (by rfl) (.bool (!sb)) (by go_simp) hk8 (by simp only [Act.put,sa1,sa2,sa3]; rfl) ?_
        refine ChG.op (by rfl) (.bool (!sb)) (by go_simp) hk8 (by simp only [Act.put,sa1,sa2,sa3]; rfl) ?_
        refine ChG.op (by rfl) (.bool (!sb)) (by go_simp) hk8 (by simp only [Act.put,sa1,sa2,sa3]; rfl) (ChG.fin ⟨hk8,LinG.fin ?_⟩)
        have HK8:=hide ((uh HKi).trans ((uh HK2).trans hk8 (by simp)) (by simp))
        clear hk8 k8 hd2 hsm
        go_wp2_with fail
        refine ⟨⟨m + 1,!sb,by go_num,hlt,rfl,hide (by rw [uh HAT]; exact xc0t (uh HLB)),HK8⟩,?_⟩
        simp [intOf]; omega
       | false =>
        refine LinG.rd (by rfl) (.bool false) (fun W hW=>by go_simp) (by simp only [Act.put,sa1,sa2,sa3]; rfl) ?_
        refine LinG.rd (by rfl) (.bool false) (fun W hW=>by go_simp) (by simp only [Act.put,sa1,sa2,sa3]; rfl) ?_
        refine LinG.no (by rfl) (by simp only [Act.put,sa1,sa2,sa3]; rfl) ?_
        refine LinG.no (by rfl) (by simp only [Act.put,sa1,sa2,sa3]; rfl) ?_
        refine LinG.no (by rfl) (by simp only [Act.put,sa1,sa2,sa3]; rfl) ?_
        refine LinG.no (by rfl) (by simp only [Act.put,sa1,sa2,sa3]; rfl) ?_
        refine LinG.no (by rfl) (by simp only [Act.put,sa1,sa2,sa3]; rfl) ?_
        refine LinG.no (by rfl) (by simp only [Act.put,sa1,sa2,sa3]; rfl) ?_
        refine LinG.no (by rfl) (by simp only [Act.put,sa1,sa2,sa3]; rfl) ?_
        refine LinG.fin ?_
        refine ChG.no (by rfl) hd2 (by simp only [Act.put,sa1,sa2,sa3]; rfl) ?_
        refine ChG.no (by rfl) hd2 (by simp only [Act.put,sa1,sa2,sa3]; rfl) ?_
        refine ChG.op (by rfl) (.bool false) (by go_simp) hd2 (by simp only [Act.put,sa1,sa2,sa3]; rfl) ?_
        refine ChG.op (by rfl) (.bool false) (by go_simp) hd2 (by simp only [Act.put,sa1,sa2,sa3]; rfl) (ChG.fin ⟨hd2,LinG.fin ?_⟩)
        clear hd2 hsm
        go_wp2_with fail
        refine ⟨⟨m + 1,false,by go_num,hlt,rfl,hide (by rw [uh HAT]; exact xb9n (uh HLB)),HKd⟩,?_⟩
        simp [intOf]; omega
      ·have hlt2:¬ (m:Int) < (n - (i + 1):Nat):=by omega
       have HLB2:Hid (lb = !((ls.drop (i + 1)).any (fun x=>decide (x.1 = ki)))):=by
        have h9:=uh HLB
        rw [List.take_of_length_le (by rw [List.length_drop]; have:=uh HN; omega)] at h9
        exact h9
       have HBK:Hid (bkL (ls.drop i) = bkL (ls.drop (i + 1))++(if (ls.drop (i + 1)).any (fun x=>decide (x.1 = ki)) = true then [] else [(ki,vi)])):=HBK
       generalize (ls.drop (i + 1)).any (fun x=>decide (x.1 = ki)) = A at HLB2 HBK
       have HKo:=hide ((uh HKr4).trans (uh HKi) (by simp))
       have HX1i:=hide ((uh HKi).cell (uh HX1) (by simp))
       have HX2i:=hide ((uh HKi).cell (uh HX2) (by simp))
       clear HLB
       cases lb with
       | true =>
        have hA:A = false:=any_t (uh HLB2)
        subst hA
        have HRI:=hide (show wr.rangeAt b (off + i * 2) [.slice x1 x2 x3,.slice y1 y2 y3] from fun y u hy=>by
         match y,hy with
         | 0,hy=>rw [Nat.add_zero,uh HX1i]; exact hy
         | 1,hy=>rw [uh HX2i]; exact hy)
        have ka:=(Kept.refl [] wr).alloc (.cells #[.slice x1 x2 x3,.slice y1 y2 y3] 46)
        have HRL:=hide (show RdC 2 (wr.alloc (.cells #[.slice x1 x2 x3,.slice y1 y2 y3] 46)) (.slice (some ⟨wr.heap.size,0,none⟩) 1 1) (kvR [(.slice x1 x2 x3,.slice y1 y2 y3)]) from ⟨_,1,1,rfl,rfl,Nat.le_refl _,by omega,fun _=>⟨wr.heap.size,0,rfl,fun j hj=>by
         have h0:j = 0:=by rw [xa0p] at hj; simp at hj; omega
         subst h0
         exact xa0j [] [.slice x1 x2 x3,.slice y1 y2 y3] [] (heap_alloc_new wr _) rfl⟩⟩)
        have HKA:=hide ka
        have HO5:=hide (ka.owns ((uh HKi).owns (uh HOx) (by simp)) (by simp))
        have HK5:=hide ((uh HKo).trans ka (by simp))
        have hlx:=uh HLX
        have hb5:=(uh HK5).size
        clear ka
        go_wp2_with (first
         | (refine wpList_load_mid rfl 46 (.tmp 64) rfl b (off + i * 2) rfl [.slice x1 x2 x3,.slice y1 y2 y3] _ (uh HRI) Tryz.underlying46 rfl Tryz.size_pair ?_)
         | (refine xa1k rfl (.tmp 65) rfl (.slice x1 x2 x3) (.slice y1 y2 y3) rfl ?_)
         | (at_builtin; refine xa0f rfl 40 46 (.tmp 61) (.tmp 66) rfl rfl _ w4.heap.size (.agg #[.slice none 0 0,.slice none 0 0]) 2 48 Tryz.underlying40 Tryz.infoQ rfl (by decide) (.slice vo lx.length vc) lx.length (kvR lx).flatten (uh HO5) (some ⟨wr.heap.size,0,none⟩) 1 1 (kvR [(.slice x1 x2 x3,.slice y1 y2 y3)]) (uh HRL) (by intro r hr; simp [kvR] at hr; rw [hr]; rfl) (by intro r hr u hu; simp [kvR] at hr; rw [hr] at hu; simp at hu; rcases hu with rfl | rfl <;> rfl) (by omega) (by omega) hb5 rfl rfl ?_; intro ao7 c7 w7 HO7 HG7 HA7))
        have HK7:=hide ((uh HK5).grown (uh HG7) (fun z hz=>Or.inr (uh HOWN z hz)))
        have HAG:=hide (show Agr (fun y=>y < w4.heap.size) wo w7 from ⟨by have h1:=(uh HKi).size; have h2:=(uh HG7).size; have h3:=(uh HKA).size; omega,fun x hx hl=>by
         rw [(uh HK7).block x hx (by simp),(uh HKr4).block x hx (by simp)]⟩)
        have HPY:=hide (((uh HPx).agr (uh HAG)).app (PR.one (S:=fun y=>y < w4.heap.size) (W:=w7) (x:=.slice x1 x2 x3) (y:=.slice y1 y2 y3) (a:=ki) (b:=vi) (rd_low ((uh HR1).old (uh HK34) (by simp)) (uh HK7)) (rd_low ((uh HR2).old (uh HK34) (by simp)) (uh HK7))))
        clear hlx hb5 HAG
        refine ⟨⟨i,.slice ao7 (lx.length + 1) c7,lx++[(.slice x1 x2 x3,.slice y1 y2 y3)],by first | rfl | rw [hwd],rfl,by omega,hide (by rw [List.length_append,xa4q,List.flatten_append]; exact uh HO7),hide (by rw [uh HBK,if_neg (by decide)]; exact uh HPY),HK7⟩,?_⟩
        simp [intOf]; try omega
       | false =>
        have hA:A = true:=any_f (uh HLB2)
        subst hA
        go_wp2_with fail
        refine ⟨⟨i,_,lx,by first | rfl | rw [hwd],rfl,by omega,hide ((uh HKi).owns (uh HOx) (by simp)),hide (by rw [uh HBK,if_pos rfl,List.append_nil]; exact (uh HPx).agr (Agr.nil (uh HKi))),HKo⟩,?_⟩
        simp [intOf]; try omega
   | zero =>
    rw [show (((0:Nat):Int) - 1) = (-1:Int) by omega]
    obtain ⟨w5,hw5⟩:∃ w5,w5 = wr:=⟨_,rfl⟩
    subst hw5
    have hbr:=rdk_of (xa1f (by rw [xa0p]; exact uh HOx) (uh HPx).cell.1) (uh HPx)
    rw [List.drop_zero] at hbr
    have HBL:=hide (show (bkL ls).length≤1000000 by have:=bkl_le ls; have:=uh HLL; omega)
    have HBF:=hide (show Fit (bkL ls) from fun p hp=>uh HFT p (bk_sub ls p hp))
    have HHI:=hide (fun (M:Prs) (hM:Srt (hsZ k) M) hk=>history (l:=ls) (os:=shortP os) hM hk)
    have HHI:Hid (∀ (M:Prs),Srt (hsZ k) M→(∀ q,getP q M≠none→(∃ p∈shortP os,p.1 = q)∨∃ p∈bkL ls,p.1 = q)→insAll (hsZ k) (delAll M (shortP os)) (bkL ls) = insAll (hsZ k) [] ls):=HHI
    generalize bkL ls = bs at hbr HBL HBF HHI
    have HKs:=hide ((uh HK4).trans (uh HKr4) (by simp))
    have HM4:=hide ((uh HMA).agr (Agr.nil (uh HKr4)))
    have HW5:=hide ((uh HKr).owns (uh HW3) (by simp))
    have HP5:=hide ((uh HP3).agr (Agr.nil (uh HKr)))
    have HL5:=hide ((uh HL).old (uh HKr))
    generalize insAll (hsZ k) [] ls = LA at HM4 HHI
    obtain ⟨bao,bn,bc,bks,bvs,rfl,hbn,hbc1,hbc2,hbrd,hbce⟩:=hbr
    have HbN:=hide hbn
    have HbRD:=hide hbrd
    have HbCE:=hide hbce
    clear hbn hbrd hbce
    have hhb:bn≤1000000:=by have h1:=uh HBL; have h2:=uh HbN; omega
    have hho:on≤1000000:=by have h1:=uh HOL; have h2:=uh HON; omega
    have HOS:=hide ((uh HO3).old (uh HKr))
    have HS5:=hide (show w1.heap.size≤w5.heap.size by have h1:=uh HS13; have h2:=(uh HKr).size; omega)
    clear HOx HPx HKr HKr4 HMA HK34 HW3 HP3 HCE HRD hwn
    go_wp2_with fail
    refine Calls.mono (xb2m S k w5 hk (uh HS _)) ?_
    rintro e w6 ⟨m6,rfl,hm6,k6⟩
    have HM6:=hide hm6
    have HK56:=hide k6
    obtain ⟨g6,rfl⟩:=hm6.form
    clear hm6 k6
    go_wp2_with fail
    go_loopw [14,15,16] (fun t14 t15 t16 wr=>∃ (i g:Nat) (M:Prs),t16 = .int .i64 i∧t14 = .pointer (some ⟨g,0,none⟩)∧t15 = .int .i64 0∧i≤bn + on∧Hid (MapAt S k wr (.pointer (some ⟨g,0,none⟩)) M)∧Hid (M.length≤2 * i)∧Hid (∀ q,getP q M≠none→(∃ p∈shortP os,p.1 = q)∨∃ p∈bs,p.1 = q)∧Hid (Kept [] w5 wr)) (fun _ _ t _=>bn + on - (intOf t).toNat)
    case atStart=>exact ⟨0,g6,[],rfl,rfl,rfl,Nat.zero_le _,HM6,hide (Nat.le_refl _),hide (fun q h=>absurd rfl h),HK56⟩
    case round =>
     obtain ⟨i,g,M,rfl,rfl,rfl,hi,HM,HML0,HHK,HK5r⟩:=hrel
     have HKwr:=hide ((uh HKs).trans (uh HK5r) (by simp))
     by_cases hlo:i < on
     ·have hlo2:(i:Int) < on:=by omega
      by_cases hlb:i < bn
      ·have hlb2:(i:Int) < bn:=by omega
       obtain ⟨ob,ooff,rfl,hcl⟩:=uh HOE (by omega)
       obtain ⟨hx1,hx2⟩:=hcl i hlo
       obtain ⟨hr1,hr2⟩:=uh HOR i hlo
       have hjL:i < os.length:=by have:=uh HON; omega
       have HMEM:=hide (show os.getD i ([],[])∈os by rw [List.getD_eq_getElem?_getD,List.getElem?_eq_getElem hjL]; exact List.getElem_mem hjL)
       generalize oks.getD i undef = kx at hx1 hr1
       generalize ovs.getD i undef = vx at hx2 hr2
       generalize os.getD i ([],[]) = ej at hr1 hr2 HMEM
       obtain ⟨ka,va⟩:=ej
       have HRa:=hide hr1
       have HRb:=hide hr2
       obtain ⟨x1,x2,x3,rfl,_⟩:=id hr1
       obtain ⟨y1,y2,y3,rfl,_⟩:=id hr2
       have HX1:=hide ((uh HKwr).cell hx1 (by simp))
       have HX2:=hide ((uh HKwr).cell hx2 (by simp))
       clear hx1 hx2 hr1 hr2 hjL hcl
       go_upto_region 23 with fail
       have hd1:=(Kept.refl [] wr).drew
       have HD1:=hide hd1
       refine lg_y23 (by kernel_rfl) (by kernel_rfl) (fun W=>Kept [] wr W) hd1 ?_
       have hcp:=xa1r (.slice x1 x2 x3) (.slice y1 y2 y3) ka va wr.drew ((uh HRa).old ((uh HKwr).trans hd1 (by simp)) (by simp)) ((uh HRb).old ((uh HKwr).trans hd1 (by simp)) (by simp))
       have HFP:Hid (fitP ka va = true→(ka.length≤64∧va.length≤256)∧(ka,va)∈shortP os):=hide (fun h=>⟨of_decide_eq_true h,List.mem_filter.2 ⟨uh HMEM,h⟩⟩)
       obtain ⟨fp,hfp⟩:∃ fp,fp = fitP ka va:=⟨_,rfl⟩
       rw [← hfp] at hcp HFP
       clear hfp HMEM
       refine LinG.rd (by rfl) (.int .i64 i) (fun W hW=>by go_simp) (by simp only [Act.put,sa1,sa2,sa3]; rfl) ?_
       refine LinG.rd (by rfl) (.slice (some ⟨ob,ooff,none⟩) on oc) (fun W hW=>by go_simp) (by simp only [Act.put,sa1,sa2,sa3]; rfl) ?_
       refine LinG.rd (by rfl) (.int .i64 on) (fun W hW=>by go_simp) (by simp only [Act.put,sa1,sa2,sa3]; rfl) ?_
       refine LinG.rd (by rfl) (.bool true) (fun W hW=>by go_simp) (by simp only [Act.put,sa1,sa2,sa3]; rfl) ?_
       refine LinG.rd (by rfl) (.bool true) (fun W hW=>by go_simp) (by simp only [Act.put,sa1,sa2,sa3]; rfl) ?_
       refine LinG.rd (by rfl) (.int .i64 0) (fun W hW=>by go_simp) (by simp only [Act.put,sa1,sa2,sa3]; rfl) ?_
       refine LinG.rd (by rfl) (.bool true) (fun W hW=>by go_simp) (by simp only [Act.put,sa1,sa2,sa3]; rfl) ?_
       refine LinG.rd (by rfl) (.bool true) (fun W hW=>by go_simp) (by simp only [Act.put,sa1,sa2,sa3]; rfl) ?_
       refine LinG.rd (by rfl) (.bool true) (fun W hW=>by go_simp) (by simp only [Act.put,sa1,sa2,sa3]; rfl) ?_
       refine LinG.rd (by rfl) (.pointer (some ⟨g,0,none⟩)) (fun W hW=>by go_simp) (by simp only [Act.put,sa1,sa2,sa3]; rfl) ?_
       refine LinG.rd (by rfl) (.bool true) (fun W hW=>by go_simp) (by simp only [Act.put,sa1,sa2,sa3]; rfl) ?_
       refine LinG.rd (by rfl) (.bool true) (fun W hW=>by go_simp) (by simp only [Act.put,sa1,sa2,sa3]; rfl) ?_
       refine LinG.rd (by rfl) (.bool true) (fun W hW=>by go_simp) (by simp only [Act.put,sa1,sa2,sa3]; rfl) ?_
       refine LinG.rd (by rfl) (.slice (some ⟨ob,ooff,none⟩) on oc) (fun W hW=>by go_simp) (by simp only [Act.put,sa1,sa2,sa3]; rfl) ?_
       refine LinG.rd (by rfl) (.int .i64 i) (fun W hW=>by go_simp) (by simp only [Act.put,sa1,sa2,sa3]; rfl) ?_
       refine LinG.rd (by rfl) (.pointer (some ⟨ob,ooff + i * 2,none⟩)) (fun W hW=>by go_simp) (by simp only [Act.put,sa1,sa2,sa3]; rfl) ?_
       refine LinG.rd (by rfl) (.pointer (some ⟨ob,ooff + i * 2,none⟩)) (fun W hW=>by go_simp) (by simp only [Act.put,sa1,sa2,sa3]; rfl) ?_
       refine LinG.rd (by rfl) (.slice x1 x2 x3) (fun W hW=>by have h9:=hW.cell (uh HX1) (by simp); go_simp) (by simp only [Act.put,sa1,sa2,sa3]; rfl) ?_
       refine LinG.rd (by rfl) (.slice (some ⟨ob,ooff,none⟩) on oc) (fun W hW=>by go_simp) (by simp only [Act.put,sa1,sa2,sa3]; rfl) ?_
       refine LinG.rd (by rfl) (.int .i64 i) (fun W hW=>by go_simp) (by simp only [Act.put,sa1,sa2,sa3]; rfl) ?_
       refine LinG.rd (by rfl) (.pointer (some ⟨ob,ooff + i * 2,none⟩)) (fun W hW=>by go_simp) (by simp only [Act.put,sa1,sa2,sa3]; rfl) ?_
       refine LinG.rd (by rfl) (.pointer (some ⟨ob,ooff + i * 2 + 1,none⟩)) (fun W hW=>by go_simp) (by simp only [Act.put,sa1,sa2,sa3]; rfl) ?_
       refine LinG.rd (by rfl) (.slice y1 y2 y3) (fun W hW=>by have h9:=hW.cell (uh HX2) (by simp); go_simp) (by simp only [Act.put,sa1,sa2,sa3]; rfl) ?_
       refine LinG.fin (ChG.call (by rfl) rfl Tryz.call19 [.slice x1 x2 x3,.slice y1 y2 y3] rfl hcp ?_)
       rintro e w8 ⟨rfl,rfl⟩
       refine ⟨_,rfl,hd1,?_⟩
       simp only [Act.put,sa1,sa2,sa3]
       cases fp with
       | true =>
        obtain ⟨⟨hf1,hf2⟩,hsh⟩:=uh HFP rfl
        have HF1:=hide hf1
        have HF2:=hide hf2
        have HSH:=hide hsh
        refine ChG.op (by rfl) (.bool true) (by go_simp) hd1 (by simp only [Act.put,sa1,sa2,sa3]; rfl) ?_
        refine ChG.op (by rfl) (.bool true) (by go_simp) hd1 (by simp only [Act.put,sa1,sa2,sa3]; rfl) (ChG.fin ⟨hd1,LinG.fin ?_⟩)
        have HMw:=hide ((uh HM).agr (Agr.nil hd1))
        have HKw:=hide ((uh HKwr).trans hd1 (by simp))
        have HK5w:=hide ((uh HK5r).trans hd1 (by simp))
        have D1:=hide (hd1.cell (uh HX1) (by simp))
        have D2:=hide (hd1.cell (uh HX2) (by simp))
        have HML:=hide (show M.length < 1000000000 by have:=uh HML0; omega)
        generalize wr.drew = W3 at HMw HKw HK5w D1 D2 ⊢
        clear hd1 HD1 hcp hf1 hf2 hsh HFP
        go_upto_region 24 with fail
        have hd2:=(Kept.refl [] W3).drew
        refine lg_y24 (by kernel_rfl) (by kernel_rfl) rfl (fun W=>Kept [] W3 W) hd2 ?_
        refine LinY.rd (.pointer (some ⟨g,0,none⟩)) (fun W hW=>by go_simp) (by simp only [Act.put,sa1,sa2,sa3]; rfl) ?_
        refine LinY.rd (.slice (some ⟨ob,ooff,none⟩) on oc) (fun W hW=>by go_simp) (by simp only [Act.put,sa1,sa2,sa3]; rfl) ?_
        refine LinY.rd (.int .i64 i) (fun W hW=>by go_simp) (by simp only [Act.put,sa1,sa2,sa3]; rfl) ?_
        refine LinY.rd (.pointer (some ⟨ob,ooff + i * 2,none⟩)) (fun W hW=>by go_simp) (by simp only [Act.put,sa1,sa2,sa3]; rfl) ?_
        refine LinY.rd (.pointer (some ⟨ob,ooff + i * 2,none⟩)) (fun W hW=>by go_simp) (by simp only [Act.put,sa1,sa2,sa3]; rfl) ?_
        refine LinY.rd (.slice x1 x2 x3) (fun W hW=>by have h9:=hW.cell (uh D1) (by simp); go_simp) (by simp only [Act.put,sa1,sa2,sa3]; rfl) ?_
        refine LinY.rd (.slice (some ⟨ob,ooff,none⟩) on oc) (fun W hW=>by go_simp) (by simp only [Act.put,sa1,sa2,sa3]; rfl) ?_
        refine LinY.rd (.int .i64 i) (fun W hW=>by go_simp) (by simp only [Act.put,sa1,sa2,sa3]; rfl) ?_
        refine LinY.rd (.pointer (some ⟨ob,ooff + i * 2,none⟩)) (fun W hW=>by go_simp) (by simp only [Act.put,sa1,sa2,sa3]; rfl) ?_
        refine LinY.rd (.pointer (some ⟨ob,ooff + i * 2 + 1,none⟩)) (fun W hW=>by go_simp) (by simp only [Act.put,sa1,sa2,sa3]; rfl) ?_
        refine LinY.rd (.slice y1 y2 y3) (fun W hW=>by have h9:=hW.cell (uh D2) (by simp); go_simp) (by simp only [Act.put,sa1,sa2,sa3]; rfl) ?_
        refine LinY.fin (ChL.call rfl Tryz.call20 [.pointer (some ⟨g,0,none⟩),.slice x1 x2 x3,.slice y1 y2 y3] rfl (xa3g S k _ _ _ M ka va W3.drew ((uh HMw).agr (Agr.nil hd2)) ((uh HRa).old ((uh HKw).trans hd2 (by simp)) (by simp)) ((uh HRb).old ((uh HKw).trans hd2 (by simp)) (by simp)) (uh HF1) (uh HF2) (uh HML) (uh HS _) ((uh HT).k ((uh HKw).trans hd2 (by simp)))) ?_)
        rintro e wp ⟨mp,rfl,hmp,kp⟩
        have hkp:=hd2.trans kp (by simp)
        refine ⟨_,rfl,hkp,?_⟩
        simp only [Act.put,sa1,sa2,sa3]
        obtain ⟨gp,rfl⟩:=hmp.form
        refine ChL.op (.tuple #[.pointer (some ⟨gp,0,none⟩),.int .i64 0]) (by go_simp) hkp (by simp only [Act.put,sa1,sa2,sa3]; rfl) (ChL.fin ⟨hkp,?_⟩)
        refine LinY.rd (.pointer (some ⟨gp,0,none⟩)) (fun W hW=>by go_simp) (by simp only [Act.put,sa1,sa2,sa3]; rfl) ?_
        refine LinY.rd (.int .i64 0) (fun W hW=>by go_simp) (by simp only [Act.put,sa1,sa2,sa3]; rfl) ?_
        refine LinY.rd (.pointer (some ⟨gp,0,none⟩)) (fun W hW=>by go_simp) (by simp only [Act.put,sa1,sa2,sa3]; rfl) ?_
        refine LinY.rd (.int .i64 0) (fun W hW=>by go_simp) (by simp only [Act.put,sa1,sa2,sa3]; rfl) ?_
        refine LinY.fin ?_
        have HM1:=hide hmp
        have HK1w:=hide ((uh HK5w).trans hkp (by simp))
        have HML1:=hide (show (insP (hsZ k) ka va M).length≤2 * i + 1 by have h1:=ins_le (hsZ k) ka va M; have h2:=uh HML0; omega)
        have HHK1:=hide (hk_ins (v:=va) (uh HM).srt (uh HHK) (Or.inl ⟨(ka,va),uh HSH,rfl⟩))
        clear hmp kp hkp hd2
        generalize insP (hsZ k) ka va M = M1 at HM1 HML1 HHK1
        clear HM HMw HML HML0 HHK D1 D2 HX1 HX2 HRa HRb HF1 HF2 HSH HKw HK5w
        have HKw:=hide ((uh HKs).trans (uh HK1w) (by simp))
        obtain ⟨bb,boff,rfl,hcl⟩:=uh HbCE (by omega)
        obtain ⟨hx1,hx2⟩:=hcl i (by omega)
        obtain ⟨hr1,hr2⟩:=uh HbRD i (by omega)
        have hjL:i < bs.length:=by have:=uh HbN; omega
        have HSNOC:=hide (show bs.take (i + 1) = bs.take i++[bs.getD i ([],[])] by
         rw [List.take_succ_eq_append_getElem hjL,List.getD_eq_getElem?_getD,List.getElem?_eq_getElem hjL]; rfl)
        have HMEM:=hide (show bs.getD i ([],[])∈bs by rw [List.getD_eq_getElem?_getD,List.getElem?_eq_getElem hjL]; exact List.getElem_mem hjL)
        generalize bks.getD i undef = kx at hx1 hr1
        generalize bvs.getD i undef = vx at hx2 hr2
        generalize bs.getD i ([],[]) = ej at hr1 hr2 HSNOC HMEM
        obtain ⟨ka,va⟩:=ej
        have HRa:=hide hr1
        have HRb:=hide hr2
        obtain ⟨x1,x2,x3,rfl,_⟩:=id hr1
        obtain ⟨y1,y2,y3,rfl,_⟩:=id hr2
        have D1:=hide ((uh HK1w).cell hx1 (by simp))
        have D2:=hide ((uh HK1w).cell hx2 (by simp))
        clear hx1 hx2 hr1 hr2 hjL hcl
        have HF1:=hide (uh HBF (ka,va) (uh HMEM)).1
        have HF2:=hide (uh HBF (ka,va) (uh HMEM)).2
        have HML:=hide (show M1.length < 1000000000 by have:=uh HML1; omega)
        go_upto_region 26 with fail
        have hd2:=(Kept.refl [] wp).drew
        refine lg_y24 (by kernel_rfl) (by kernel_rfl) rfl (fun W=>Kept [] wp W) hd2 ?_
        refine LinY.rd (.pointer (some ⟨gp,0,none⟩)) (fun W hW=>by go_simp) (by simp only [Act.put,sa1,sa2,sa3]; rfl) ?_
        refine LinY.rd (.slice (some ⟨bb,boff,none⟩) bn bc) (fun W hW=>by go_simp) (by simp only [Act.put,sa1,sa2,sa3]; rfl) ?_
        refine LinY.rd (.int .i64 i) (fun W hW=>by go_simp) (by simp only [Act.put,sa1,sa2,sa3]; rfl) ?_
        refine LinY.rd (.pointer (some ⟨bb,boff + i * 2,none⟩)) (fun W hW=>by go_simp) (by simp only [Act.put,sa1,sa2,sa3]; rfl) ?_
        refine LinY.rd (.pointer (some ⟨bb,boff + i * 2,none⟩)) (fun W hW=>by go_simp) (by simp only [Act.put,sa1,sa2,sa3]; rfl) ?_
        refine LinY.rd (.slice x1 x2 x3) (fun W hW=>by have h9:=hW.cell (uh D1) (by simp); go_simp) (by simp only [Act.put,sa1,sa2,sa3]; rfl) ?_
        refine LinY.rd (.slice (some ⟨bb,boff,none⟩) bn bc) (fun W hW=>by go_simp) (by simp only [Act.put,sa1,sa2,sa3]; rfl) ?_
        refine LinY.rd (.int .i64 i) (fun W hW=>by go_simp) (by simp only [Act.put,sa1,sa2,sa3]; rfl) ?_
        refine LinY.rd (.pointer (some ⟨bb,boff + i * 2,none⟩)) (fun W hW=>by go_simp) (by simp only [Act.put,sa1,sa2,sa3]; rfl) ?_
        refine LinY.rd (.pointer (some ⟨bb,boff + i * 2 + 1,none⟩)) (fun W hW=>by go_simp) (by simp only [Act.put,sa1,sa2,sa3]; rfl) ?_
        refine LinY.rd (.slice y1 y2 y3) (fun W hW=>by have h9:=hW.cell (uh D2) (by simp); go_simp) (by simp only [Act.put,sa1,sa2,sa3]; rfl) ?_
        refine LinY.fin (ChL.call rfl Tryz.call20 [.pointer (some ⟨gp,0,none⟩),.slice x1 x2 x3,.slice y1 y2 y3] rfl (xa3g S k _ _ _ M1 ka va wp.drew ((uh HM1).agr (Agr.nil hd2)) ((uh HRa).old ((uh HK1w).trans hd2 (by simp)) (by simp)) ((uh HRb).old ((uh HK1w).trans hd2 (by simp)) (by simp)) (uh HF1) (uh HF2) (uh HML) (uh HS _) ((uh HT).k ((uh HKw).trans hd2 (by simp)))) ?_)
        rintro e wz ⟨mp,rfl,hmp,kp⟩
        have hkp:=hd2.trans kp (by simp)
        refine ⟨_,rfl,hkp,?_⟩
        simp only [Act.put,sa1,sa2,sa3]
        obtain ⟨gz,rfl⟩:=hmp.form
        refine ChL.op (.tuple #[.pointer (some ⟨gz,0,none⟩),.int .i64 0]) (by go_simp) hkp (by simp only [Act.put,sa1,sa2,sa3]; rfl) (ChL.fin ⟨hkp,?_⟩)
        refine LinY.rd (.pointer (some ⟨gz,0,none⟩)) (fun W hW=>by go_simp) (by simp only [Act.put,sa1,sa2,sa3]; rfl) ?_
        refine LinY.rd (.int .i64 0) (fun W hW=>by go_simp) (by simp only [Act.put,sa1,sa2,sa3]; rfl) ?_
        refine LinY.rd (.pointer (some ⟨gz,0,none⟩)) (fun W hW=>by go_simp) (by simp only [Act.put,sa1,sa2,sa3]; rfl) ?_
        refine LinY.rd (.int .i64 0) (fun W hW=>by go_simp) (by simp only [Act.put,sa1,sa2,sa3]; rfl) ?_
        refine LinY.fin ?_
        have HMz:=hide hmp
        have HKz:=hide ((uh HK1w).trans hkp (by simp))
        have HMLz:=hide (show (insP (hsZ k) ka va M1).length≤2 * (i + 1) by have h1:=ins_le (hsZ k) ka va M1; have h2:=uh HML1; omega)
        have HHKz:=hide (hk_ins (v:=va) (uh HM1).srt (uh HHK1) (Or.inr ⟨(ka,va),uh HMEM,rfl⟩))
        clear hmp kp hkp hd2
        generalize insP (hsZ k) ka va M1 = Mz at HMz HMLz HHKz
        go_wp2_with fail
        refine ⟨⟨i + 1,gz,Mz,by go_num,rfl,rfl,by omega,HMz,HMLz,HHKz,HKz⟩,?_⟩
        simp [intOf]; omega
       | false =>
        refine ChG.op (by rfl) (.bool false) (by go_simp) hd1 (by simp only [Act.put,sa1,sa2,sa3]; rfl) ?_
        refine ChG.op (by rfl) (.bool false) (by go_simp) hd1 (by simp only [Act.put,sa1,sa2,sa3]; rfl) (ChG.fin ⟨hd1,LinG.fin ?_⟩)
        have HM1:=hide ((uh HM).agr (Agr.nil hd1))
        have HK1w:=hide ((uh HK5r).trans hd1 (by simp))
        have HML1:=hide (show M.length≤2 * i + 1 by have h2:=uh HML0; omega)
        have HHK1:=HHK
        clear hd1 HD1 hcp HFP HX1 HX2 HRa HRb HHK HML0 HM
        generalize wr.drew = wp at HM1 HK1w ⊢
        have HKw:=hide ((uh HKs).trans (uh HK1w) (by simp))
        obtain ⟨bb,boff,rfl,hcl⟩:=uh HbCE (by omega)
        obtain ⟨hx1,hx2⟩:=hcl i (by omega)
        obtain ⟨hr1,hr2⟩:=uh HbRD i (by omega)
        have hjL:i < bs.length:=by have:=uh HbN; omega
        have HSNOC:=hide (show bs.take (i + 1) = bs.take i++[bs.getD i ([],[])] by
         rw [List.take_succ_eq_append_getElem hjL,List.getD_eq_getElem?_getD,List.getElem?_eq_getElem hjL]; rfl)
        have HMEM:=hide (show bs.getD i ([],[])∈bs by rw [List.getD_eq_getElem?_getD,List.getElem?_eq_getElem hjL]; exact List.getElem_mem hjL)
        generalize bks.getD i undef = kx at hx1 hr1
        generalize bvs.getD i undef = vx at hx2 hr2
        generalize bs.getD i ([],[]) = ej at hr1 hr2 HSNOC HMEM
        obtain ⟨ka,va⟩:=ej
        have HRa:=hide hr1
        have HRb:=hide hr2
        obtain ⟨x1,x2,x3,rfl,_⟩:=id hr1
        obtain ⟨y1,y2,y3,rfl,_⟩:=id hr2
        have D1:=hide ((uh HK1w).cell hx1 (by simp))
        have D2:=hide ((uh HK1w).cell hx2 (by simp))
        clear hx1 hx2 hr1 hr2 hjL hcl
        have HF1:=hide (uh HBF (ka,va) (uh HMEM)).1
        have HF2:=hide (uh HBF (ka,va) (uh HMEM)).2
        have HML:=hide (show M.length < 1000000000 by have:=uh HML1; omega)
        go_upto_region 26 with fail
        have hd2:=(Kept.refl [] wp).drew
        refine lg_y24 (by kernel_rfl) (by kernel_rfl) rfl (fun W=>Kept [] wp W) hd2 ?_
        refine LinY.rd (.pointer (some ⟨g,0,none⟩)) (fun W hW=>by go_simp) (by simp only [Act.put,sa1,sa2,sa3]; rfl) ?_
        refine LinY.rd (.slice (some ⟨bb,boff,none⟩) bn bc) (fun W hW=>by go_simp) (by simp only [Act.put,sa1,sa2,sa3]; rfl) ?_
        refine LinY.rd (.int .i64 i) (fun W hW=>by go_simp) (by simp only [Act.put,sa1,sa2,sa3]; rfl) ?_
        refine LinY.rd (.pointer (some ⟨bb,boff + i * 2,none⟩)) (fun W hW=>by go_simp) (by simp only [Act.put,sa1,sa2,sa3]; rfl) ?_
        refine LinY.rd (.pointer (some ⟨bb,boff + i * 2,none⟩)) (fun W hW=>by go_simp) (by simp only [Act.put,sa1,sa2,sa3]; rfl) ?_
        refine LinY.rd (.slice x1 x2 x3) (fun W hW=>by have h9:=hW.cell (uh D1) (by simp); go_simp) (by simp only [Act.put,sa1,sa2,sa3]; rfl) ?_
        refine LinY.rd (.slice (some ⟨bb,boff,none⟩) bn bc) (fun W hW=>by go_simp) (by simp only [Act.put,sa1,sa2,sa3]; rfl) ?_
        refine LinY.rd (.int .i64 i) (fun W hW=>by go_simp) (by simp only [Act.put,sa1,sa2,sa3]; rfl) ?_
        refine LinY.rd (.pointer (some ⟨bb,boff + i * 2,none⟩)) (fun W hW=>by go_simp) (by simp only [Act.put,sa1,sa2,sa3]; rfl) ?_
        refine LinY.rd (.pointer (some ⟨bb,boff + i * 2 + 1,none⟩)) (fun W hW=>by go_simp) (by simp only [Act.put,sa1,sa2,sa3]; rfl) ?_
        refine LinY.rd (.slice y1 y2 y3) (fun W hW=>by have h9:=hW.cell (uh D2) (by simp); go_simp) (by simp only [Act.put,sa1,sa2,sa3]; rfl) ?_
        refine LinY.fin (ChL.call rfl Tryz.call20 [.pointer (some ⟨g,0,none⟩),.slice x1 x2 x3,.slice y1 y2 y3] rfl (xa3g S k _ _ _ M ka va wp.drew ((uh HM1).agr (Agr.nil hd2)) ((uh HRa).old ((uh HK1w).trans hd2 (by simp)) (by simp)) ((uh HRb).old ((uh HK1w).trans hd2 (by simp)) (by simp)) (uh HF1) (uh HF2) (uh HML) (uh HS _) ((uh HT).k ((uh HKw).trans hd2 (by simp)))) ?_)
        rintro e wz ⟨mp,rfl,hmp,kp⟩
        have hkp:=hd2.trans kp (by simp)
        refine ⟨_,rfl,hkp,?_⟩
        simp only [Act.put,sa1,sa2,sa3]
        obtain ⟨gz,rfl⟩:=hmp.form
        refine ChL.op (.tuple #[.pointer (some ⟨gz,0,none⟩),.int .i64 0]) (by go_simp) hkp (by simp only [Act.put,sa1,sa2,sa3]; rfl) (ChL.fin ⟨hkp,?_⟩)
        refine LinY.rd (.pointer (some ⟨gz,0,none⟩)) (fun W hW=>by go_simp) (by simp only [Act.put,sa1,sa2,sa3]; rfl) ?_
        refine LinY.rd (.int .i64 0) (fun W hW=>by go_simp) (by simp only [Act.put,sa1,sa2,sa3]; rfl) ?_
        refine LinY.rd (.pointer (some ⟨gz,0,none⟩)) (fun W hW=>by go_simp) (by simp only [Act.put,sa1,sa2,sa3]; rfl) ?_
        refine LinY.rd (.int .i64 0) (fun W hW=>by go_simp) (by simp only [Act.put,sa1,sa2,sa3]; rfl) ?_
        refine LinY.fin ?_
        have HMz:=hide hmp
        have HKz:=hide ((uh HK1w).trans hkp (by simp))
        have HMLz:=hide (show (insP (hsZ k) ka va M).length≤2 * (i + 1) by have h1:=ins_le (hsZ k) ka va M; have h2:=uh HML1; omega)
        have HHKz:=hide (hk_ins (v:=va) (uh HM1).srt (uh HHK1) (Or.inr ⟨(ka,va),uh HMEM,rfl⟩))
        clear hmp kp hkp hd2
        generalize insP (hsZ k) ka va M = Mz at HMz HMLz HHKz
        go_wp2_with fail
        refine ⟨⟨i + 1,gz,Mz,by go_num,rfl,rfl,by omega,HMz,HMLz,HHKz,HKz⟩,?_⟩
        simp [intOf]; omega
      ·have hlb2:¬ (i:Int) < bn:=by omega
       obtain ⟨ob,ooff,rfl,hcl⟩:=uh HOE (by omega)
       obtain ⟨hx1,hx2⟩:=hcl i hlo
       obtain ⟨hr1,hr2⟩:=uh HOR i hlo
       have hjL:i < os.length:=by have:=uh HON; omega
       have HMEM:=hide (show os.getD i ([],[])∈os by rw [List.getD_eq_getElem?_getD,List.getElem?_eq_getElem hjL]; exact List.getElem_mem hjL)
       generalize oks.getD i undef = kx at hx1 hr1
       generalize ovs.getD i undef = vx at hx2 hr2
       generalize os.getD i ([],[]) = ej at hr1 hr2 HMEM
       obtain ⟨ka,va⟩:=ej
       have HRa:=hide hr1
       have HRb:=hide hr2
       obtain ⟨x1,x2,x3,rfl,_⟩:=id hr1
       obtain ⟨y1,y2,y3,rfl,_⟩:=id hr2
       have HX1:=hide ((uh HKwr).cell hx1 (by simp))
       have HX2:=hide ((uh HKwr).cell hx2 (by simp))
       clear hx1 hx2 hr1 hr2 hjL hcl
       go_upto_region 23 with fail
       have hd1:=(Kept.refl [] wr).drew
       have HD1:=hide hd1
       refine lg_y23 (by kernel_rfl) (by kernel_rfl) (fun W=>Kept [] wr W) hd1 ?_
       have hcp:=xa1r (.slice x1 x2 x3) (.slice y1 y2 y3) ka va wr.drew ((uh HRa).old ((uh HKwr).trans hd1 (by simp)) (by simp)) ((uh HRb).old ((uh HKwr).trans hd1 (by simp)) (by simp))
       have HFP:Hid (fitP ka va = true→(ka.length≤64∧va.length≤256)∧(ka,va)∈shortP os):=hide (fun h=>⟨of_decide_eq_true h,List.mem_filter.2 ⟨uh HMEM,h⟩⟩)
       obtain ⟨fp,hfp⟩:∃ fp,fp = fitP ka va:=⟨_,rfl⟩
       rw [← hfp] at hcp HFP
       clear hfp HMEM
       refine LinG.rd (by rfl) (.int .i64 i) (fun W hW=>by go_simp) (by simp only [Act.put,sa1,sa2,sa3]; rfl) ?_
       refine LinG.rd (by rfl) (.slice (some ⟨ob,ooff,none⟩) on oc) (fun W hW=>by go_simp) (by simp only [Act.put,sa1,sa2,sa3]; rfl) ?_
       refine LinG.rd (by rfl) (.int .i64 on) (fun W hW=>by go_simp) (by simp only [Act.put,sa1,sa2,sa3]; rfl) ?_
       refine LinG.rd (by rfl) (.bool true) (fun W hW=>by go_simp) (by simp only [Act.put,sa1,sa2,sa3]; rfl) ?_
       refine LinG.rd (by rfl) (.bool true) (fun W hW=>by go_simp) (by simp only [Act.put,sa1,sa2,sa3]; rfl) ?_
       refine LinG.rd (by rfl) (.int .i64 0) (fun W hW=>by go_simp) (by simp only [Act.put,sa1,sa2,sa3]; rfl) ?_
       refine LinG.rd (by rfl) (.bool true) (fun W hW=>by go_simp) (by simp only [Act.put,sa1,sa2,sa3]; rfl) ?_
       refine LinG.rd (by rfl) (.bool true) (fun W hW=>by go_simp) (by simp only [Act.put,sa1,sa2,sa3]; rfl) ?_
       refine LinG.rd (by rfl) (.bool true) (fun W hW=>by go_simp) (by simp only [Act.put,sa1,sa2,sa3]; rfl) ?_
       refine LinG.rd (by rfl) (.pointer (some ⟨g,0,none⟩)) (fun W hW=>by go_simp) (by simp only [Act.put,sa1,sa2,sa3]; rfl) ?_
       refine LinG.rd (by rfl) (.bool true) (fun W hW=>by go_simp) (by simp only [Act.put,sa1,sa2,sa3]; rfl) ?_
       refine LinG.rd (by rfl) (.bool true) (fun W hW=>by go_simp) (by simp only [Act.put,sa1,sa2,sa3]; rfl) ?_
       refine LinG.rd (by rfl) (.bool true) (fun W hW=>by go_simp) (by simp only [Act.put,sa1,sa2,sa3]; rfl) ?_
       refine LinG.rd (by rfl) (.slice (some ⟨ob,ooff,none⟩) on oc) (fun W hW=>by go_simp) (by simp only [Act.put,sa1,sa2,sa3]; rfl) ?_
       refine LinG.rd (by rfl) (.int .i64 i) (fun W hW=>by go_simp) (by simp only [Act.put,sa1,sa2,sa3]; rfl) ?_
       refine LinG.rd (by rfl) (.pointer (some ⟨ob,ooff + i * 2,none⟩)) (fun W hW=>by go_simp) (by simp only [Act.put,sa1,sa2,sa3]; rfl) ?_
       refine LinG.rd (by rfl) (.pointer (some ⟨ob,ooff + i * 2,none⟩)) (fun W hW=>by go_simp) (by simp only [Act.put,sa1,sa2,sa3]; rfl) ?_
       refine LinG.rd (by rfl) (.slice x1 x2 x3) (fun W hW=>by have h9:=hW.cell (uh HX1) (by simp); go_simp) (by simp only [Act.put,sa1,sa2,sa3]; rfl) ?_
       refine LinG.rd (by rfl) (.slice (some ⟨ob,ooff,none⟩) on oc) (fun W hW=>by go_simp) (by simp only [Act.put,sa1,sa2,sa3]; rfl) ?_
       refine LinG.rd (by rfl) (.int .i64 i) (fun W hW=>by go_simp) (by simp only [Act.put,sa1,sa2,sa3]; rfl) ?_
       refine LinG.rd (by rfl) (.pointer (some ⟨ob,ooff + i * 2,none⟩)) (fun W hW=>by go_simp) (by simp only [Act.put,sa1,sa2,sa3]; rfl) ?_
       refine LinG.rd (by rfl) (.pointer (some ⟨ob,ooff + i * 2 + 1,none⟩)) (fun W hW=>by go_simp) (by simp only [Act.put,sa1,sa2,sa3]; rfl) ?_
       refine LinG.rd (by rfl) (.slice y1 y2 y3) (fun W hW=>by have h9:=hW.cell (uh HX2) (by simp); go_simp) (by simp only [Act.put,sa1,sa2,sa3]; rfl) ?_
       refine LinG.fin (ChG.call (by rfl) rfl Tryz.call19 [.slice x1 x2 x3,.slice y1 y2 y3] rfl hcp ?_)
       rintro e w8 ⟨rfl,rfl⟩
       refine ⟨_,rfl,hd1,?_⟩
       simp only [Act.put,sa1,sa2,sa3]
       cases fp with
       | true =>
        obtain ⟨⟨hf1,hf2⟩,hsh⟩:=uh HFP rfl
        have HF1:=hide hf1
        have HF2:=hide hf2
        have HSH:=hide hsh
        refine ChG.op (by rfl) (.bool true) (by go_simp) hd1 (by simp only [Act.put,sa1,sa2,sa3]; rfl) ?_
        refine ChG.op (by rfl) (.bool true) (by go_simp) hd1 (by simp only [Act.put,sa1,sa2,sa3]; rfl) (ChG.fin ⟨hd1,LinG.fin ?_⟩)
        have HMw:=hide ((uh HM).agr (Agr.nil hd1))
        have HKw:=hide ((uh HKwr).trans hd1 (by simp))
        have HK5w:=hide ((uh HK5r).trans hd1 (by simp))
        have D1:=hide (hd1.cell (uh HX1) (by simp))
        have D2:=hide (hd1.cell (uh HX2) (by simp))
        have HML:=hide (show M.length < 1000000000 by have:=uh HML0; omega)
        generalize wr.drew = W3 at HMw HKw HK5w D1 D2 ⊢
        clear hd1 HD1 hcp hf1 hf2 hsh HFP
        go_upto_region 24 with fail
        have hd2:=(Kept.refl [] W3).drew
        refine lg_y24 (by kernel_rfl) (by kernel_rfl) rfl (fun W=>Kept [] W3 W) hd2 ?_
        refine LinY.rd (.pointer (some ⟨g,0,none⟩)) (fun W hW=>by go_simp) (by simp only [Act.put,sa1,sa2,sa3]; rfl) ?_
        refine LinY.rd (.slice (some ⟨ob,ooff,none⟩) on oc) (fun W hW=>by go_simp) (by simp only [Act.put,sa1,sa2,sa3]; rfl) ?_
        refine LinY.rd (.int .i64 i) (fun W hW=>by go_simp) (by simp only [Act.put,sa1,sa2,sa3]; rfl) ?_
        refine LinY.rd (.pointer (some ⟨ob,ooff + i * 2,none⟩)) (fun W hW=>by go_simp) (by simp only [Act.put,sa1,sa2,sa3]; rfl) ?_
        refine LinY.rd (.pointer (some ⟨ob,ooff + i * 2,none⟩)) (fun W hW=>by go_simp) (by simp only [Act.put,sa1,sa2,sa3]; rfl) ?_
        refine LinY.rd (.slice x1 x2 x3) (fun W hW=>by have h9:=hW.cell (uh D1) (by simp); go_simp) (by simp only [Act.put,sa1,sa2,sa3]; rfl) ?_
        refine LinY.rd (.slice (some ⟨ob,ooff,none⟩) on oc) (fun W hW=>by go_simp) (by simp only [Act.put,sa1,sa2,sa3]; rfl) ?_
        refine LinY.rd (.int .i64 i) (fun W hW=>by go_simp) (by simp only [Act.put,sa1,sa2,sa3]; rfl) ?_
        refine LinY.rd (.pointer (some ⟨ob,ooff + i * 2,none⟩)) (fun W hW=>by go_simp) (by simp only [Act.put,sa1,sa2,sa3]; rfl) ?_
        refine LinY.rd (.pointer (some ⟨ob,ooff + i * 2 + 1,none⟩)) (fun W hW=>by go_simp) (by simp only [Act.put,sa1,sa2,sa3]; rfl) ?_
        refine LinY.rd (.slice y1 y2 y3) (fun W hW=>by have h9:=hW.cell (uh D2) (by simp); go_simp) (by simp only [Act.put,sa1,sa2,sa3]; rfl) ?_
        refine LinY.fin (ChL.call rfl Tryz.call20 [.pointer (some ⟨g,0,none⟩),.slice x1 x2 x3,.slice y1 y2 y3] rfl (xa3g S k _ _ _ M ka va W3.drew ((uh HMw).agr (Agr.nil hd2)) ((uh HRa).old ((uh HKw).trans hd2 (by simp)) (by simp)) ((uh HRb).old ((uh HKw).trans hd2 (by simp)) (by simp)) (uh HF1) (uh HF2) (uh HML) (uh HS _) ((uh HT).k ((uh HKw).trans hd2 (by simp)))) ?_)
        rintro e wp ⟨mp,rfl,hmp,kp⟩
        have hkp:=hd2.trans kp (by simp)
        refine ⟨_,rfl,hkp,?_⟩
        simp only [Act.put,sa1,sa2,sa3]
        obtain ⟨gp,rfl⟩:=hmp.form
        refine ChL.op (.tuple #[.pointer (some ⟨gp,0,none⟩),.int .i64 0]) (by go_simp) hkp (by simp only [Act.put,sa1,sa2,sa3]; rfl) (ChL.fin ⟨hkp,?_⟩)
        refine LinY.rd (.pointer (some ⟨gp,0,none⟩)) (fun W hW=>by go_simp) (by simp only [Act.put,sa1,sa2,sa3]; rfl) ?_
        refine LinY.rd (.int .i64 0) (fun W hW=>by go_simp) (by simp only [Act.put,sa1,sa2,sa3]; rfl) ?_
        refine LinY.rd (.pointer (some ⟨gp,0,none⟩)) (fun W hW=>by go_simp) (by simp only [Act.put,sa1,sa2,sa3]; rfl) ?_
        refine LinY.rd (.int .i64 0) (fun W hW=>by go_simp) (by simp only [Act.put,sa1,sa2,sa3]; rfl) ?_
        refine LinY.fin ?_
        have HM1:=hide hmp
        have HK1w:=hide ((uh HK5w).trans hkp (by simp))
        have HML1:=hide (show (insP (hsZ k) ka va M).length≤2 * i + 1 by have h1:=ins_le (hsZ k) ka va M; have h2:=uh HML0; omega)
        have HHK1:=hide (hk_ins (v:=va) (uh HM).srt (uh HHK) (Or.inl ⟨(ka,va),uh HSH,rfl⟩))
        clear hmp kp hkp hd2
        generalize insP (hsZ k) ka va M = M1 at HM1 HML1 HHK1
        clear HM HMw HML HML0 HHK D1 D2 HX1 HX2 HRa HRb HF1 HF2 HSH HKw HK5w
        go_wp2_with fail
        refine ⟨⟨i + 1,gp,M1,by go_num,rfl,rfl,by omega,HM1,hide (by have:=uh HML1; omega),HHK1,HK1w⟩,?_⟩
        simp [intOf]; omega
       | false =>
        refine ChG.op (by rfl) (.bool false) (by go_simp) hd1 (by simp only [Act.put,sa1,sa2,sa3]; rfl) ?_
        refine ChG.op (by rfl) (.bool false) (by go_simp) hd1 (by simp only [Act.put,sa1,sa2,sa3]; rfl) (ChG.fin ⟨hd1,LinG.fin ?_⟩)
        have HM1:=hide ((uh HM).agr (Agr.nil hd1))
        have HK1w:=hide ((uh HK5r).trans hd1 (by simp))
        have HML1:=hide (show M.length≤2 * i + 1 by have h2:=uh HML0; omega)
        have HHK1:=HHK
        clear hd1 HD1 hcp HFP HX1 HX2 HRa HRb HHK HML0 HM
        generalize wr.drew = wp at HM1 HK1w ⊢
        go_wp2_with fail
        refine ⟨⟨i + 1,g,M,by go_num,rfl,rfl,by omega,HM1,hide (by have:=uh HML1; omega),HHK1,HK1w⟩,?_⟩
        simp [intOf]; omega
     ·by_cases hlb:i < bn
      ·have hlo2:¬ (i:Int) < on:=by omega
       have hlb2:(i:Int) < bn:=by omega
       go_upto_region 23 with fail
       have hd1:=(Kept.refl [] wr).drew
       refine lg_y23 (by kernel_rfl) (by kernel_rfl) (fun W=>Kept [] wr W) hd1 ?_
       refine LinG.rd (by rfl) (.int .i64 i) (fun W hW=>by go_simp) (by simp only [Act.put,sa1,sa2,sa3]; rfl) ?_
       refine LinG.rd (by rfl) (.slice oa on oc) (fun W hW=>by go_simp) (by simp only [Act.put,sa1,sa2,sa3]; rfl) ?_
       refine LinG.rd (by rfl) (.int .i64 on) (fun W hW=>by go_simp) (by simp only [Act.put,sa1,sa2,sa3]; rfl) ?_
       refine LinG.rd (by rfl) (.bool false) (fun W hW=>by go_simp) (by simp only [Act.put,sa1,sa2,sa3]; rfl) ?_
       refine LinG.rd (by rfl) (.bool false) (fun W hW=>by go_simp) (by simp only [Act.put,sa1,sa2,sa3]; rfl) ?_
       refine LinG.no (by rfl) (by simp only [Act.put,sa1,sa2,sa3]; rfl) ?_
       refine LinG.no (by rfl) (by simp only [Act.put,sa1,sa2,sa3]; rfl) ?_
       refine LinG.rd (by rfl) (.bool false) (fun W hW=>by go_simp) (by simp only [Act.put,sa1,sa2,sa3]; rfl) ?_
       refine LinG.rd (by rfl) (.bool false) (fun W hW=>by go_simp) (by simp only [Act.put,sa1,sa2,sa3]; rfl) ?_
       refine LinG.no (by rfl) (by simp only [Act.put,sa1,sa2,sa3]; rfl) ?_
       refine LinG.no (by rfl) (by simp only [Act.put,sa1,sa2,sa3]; rfl) ?_
       refine LinG.rd (by rfl) (.bool false) (fun W hW=>by go_simp) (by simp only [Act.put,sa1,sa2,sa3]; rfl) ?_
       refine LinG.rd (by rfl) (.bool false) (fun W hW=>by go_simp) (by simp only [Act.put,sa1,sa2,sa3]; rfl) ?_
       refine LinG.no (by rfl) (by simp only [Act.put,sa1,sa2,sa3]; rfl) ?_
       refine LinG.no (by rfl) (by simp only [Act.put,sa1,sa2,sa3]; rfl) ?_
       refine LinG.no (by rfl) (by simp only [Act.put,sa1,sa2,sa3]; rfl) ?_
       refine LinG.no (by rfl) (by simp only [Act.put,sa1,sa2,sa3]; rfl) ?_
       refine LinG.no (by rfl) (by simp only [Act.put,sa1,sa2,sa3]; rfl) ?_
       refine LinG.no (by rfl) (by simp only [Act.put,sa1,sa2,sa3]; rfl) ?_
       refine LinG.no (by rfl) (by simp only [Act.put,sa1,sa2,sa3]; rfl) ?_
       refine LinG.no (by rfl) (by simp only [Act.put,sa1,sa2,sa3]; rfl) ?_
       refine LinG.no (by rfl) (by simp only [Act.put,sa1,sa2,sa3]; rfl) ?_
       refine LinG.no (by rfl) (by simp only [Act.put,sa1,sa2,sa3]; rfl) ?_
       refine LinG.fin ?_
       refine ChG.no (by rfl) hd1 (by simp only [Act.put,sa1,sa2,sa3]; rfl) ?_
       refine ChG.no (by rfl) hd1 (by simp only [Act.put,sa1,sa2,sa3]; rfl) ?_
       refine ChG.op (by rfl) (.bool false) (by go_simp) hd1 (by simp only [Act.put,sa1,sa2,sa3]; rfl) (ChG.fin ⟨hd1,LinG.fin ?_⟩)
       have HM1:=hide ((uh HM).agr (Agr.nil hd1))
       have HK1w:=hide ((uh HK5r).trans hd1 (by simp))
       have HML1:=hide (show M.length≤2 * i + 1 by have h2:=uh HML0; omega)
       have HHK1:=HHK
       clear hd1 HHK HML0 HM
       generalize wr.drew = wp at HM1 HK1w ⊢
       have HKw:=hide ((uh HKs).trans (uh HK1w) (by simp))
       obtain ⟨bb,boff,rfl,hcl⟩:=uh HbCE (by omega)
       obtain ⟨hx1,hx2⟩:=hcl i (by omega)
       obtain ⟨hr1,hr2⟩:=uh HbRD i (by omega)
       have hjL:i < bs.length:=by have:=uh HbN; omega
       have HSNOC:=hide (show bs.take (i + 1) = bs.take i++[bs.getD i ([],[])] by
        rw [List.take_succ_eq_append_getElem hjL,List.getD_eq_getElem?_getD,List.getElem?_eq_getElem hjL]; rfl)
       have HMEM:=hide (show bs.getD i ([],[])∈bs by rw [List.getD_eq_getElem?_getD,List.getElem?_eq_getElem hjL]; exact List.getElem_mem hjL)
       generalize bks.getD i undef = kx at hx1 hr1
       generalize bvs.getD i undef = vx at hx2 hr2
       generalize bs.getD i ([],[]) = ej at hr1 hr2 HSNOC HMEM
       obtain ⟨ka,va⟩:=ej
       have HRa:=hide hr1
       have HRb:=hide hr2
       obtain ⟨x1,x2,x3,rfl,_⟩:=id hr1
       obtain ⟨y1,y2,y3,rfl,_⟩:=id hr2
       have D1:=hide ((uh HK1w).cell hx1 (by simp))
       have D2:=hide ((uh HK1w).cell hx2 (by simp))
       clear hx1 hx2 hr1 hr2 hjL hcl
       have HF1:=hide (uh HBF (ka,va) (uh HMEM)).1
       have HF2:=hide (uh HBF (ka,va) (uh HMEM)).2
       have HML:=hide (show M.length < 1000000000 by have:=uh HML1; omega)
       go_upto_region 26 with fail
       have hd2:=(Kept.refl [] wp).drew
       refine lg_y24 (by kernel_rfl) (by kernel_rfl) rfl (fun W=>Kept [] wp W) hd2 ?_
       refine LinY.rd (.pointer (some ⟨g,0,none⟩)) (fun W hW=>by go_simp) (by simp only [Act.put,sa1,sa2,sa3]; rfl) ?_
       refine LinY.rd (.slice (some ⟨bb,boff,none⟩) bn bc) (fun W hW=>by go_simp) (by simp only [Act.put,sa1,sa2,sa3]; rfl) ?_
       refine LinY.rd (.int .i64 i) (fun W hW=>by go_simp) (by simp only [Act.put,sa1,sa2,sa3]; rfl) ?_
       refine LinY.rd (.pointer (some ⟨bb,boff + i * 2,none⟩)) (fun W hW=>by go_simp) (by simp only [Act.put,sa1,sa2,sa3]; rfl) ?_
       refine LinY.rd (.pointer (some ⟨bb,boff + i * 2,none⟩)) (fun W hW=>by go_simp) (by simp only [Act.put,sa1,sa2,sa3]; rfl) ?_
       refine LinY.rd (.slice x1 x2 x3) (fun W hW=>by have h9:=hW.cell (uh D1) (by simp); go_simp) (by simp only [Act.put,sa1,sa2,sa3]; rfl) ?_
       refine LinY.rd (.slice (some ⟨bb,boff,none⟩) bn bc) (fun W hW=>by go_simp) (by simp only [Act.put,sa1,sa2,sa3]; rfl) ?_
       refine LinY.rd (.int .i64 i) (fun W hW=>by go_simp) (by simp only [Act.put,sa1,sa2,sa3]; rfl) ?_
       refine LinY.rd (.pointer (some ⟨bb,boff + i * 2,none⟩)) (fun W hW=>by go_simp) (by simp only [Act.put,sa1,sa2,sa3]; rfl) ?_
       refine LinY.rd (.pointer (some ⟨bb,boff + i * 2 + 1,none⟩)) (fun W hW=>by go_simp) (by simp only [Act.put,sa1,sa2,sa3]; rfl) ?_
       refine LinY.rd (.slice y1 y2 y3) (fun W hW=>by have h9:=hW.cell (uh D2) (by simp); go_simp) (by simp only [Act.put,sa1,sa2,sa3]; rfl) ?_
       refine LinY.fin (ChL.call rfl Tryz.call20 [.pointer (some ⟨g,0,none⟩),.slice x1 x2 x3,.slice y1 y2 y3] rfl (xa3g S k _ _ _ M ka va wp.drew ((uh HM1).agr (Agr.nil hd2)) ((uh HRa).old ((uh HK1w).trans hd2 (by simp)) (by simp)) ((uh HRb).old ((uh HK1w).trans hd2 (by simp)) (by simp)) (uh HF1) (uh HF2) (uh HML) (uh HS _) ((uh HT).k ((uh HKw).trans hd2 (by simp)))) ?_)
       rintro e wz ⟨mp,rfl,hmp,kp⟩
       have hkp:=hd2.trans kp (by simp)
       refine ⟨_,rfl,hkp,?_⟩
       simp only [Act.put,sa1,sa2,sa3]
       obtain ⟨gz,rfl⟩:=hmp.form
       refine ChL.op (.tuple #[.pointer (some ⟨gz,0,none⟩),.int .i64 0]) (by go_simp) hkp (by simp only [Act.put,sa1,sa2,sa3]; rfl) (ChL.fin ⟨hkp,?_⟩)
       refine LinY.rd (.pointer (some ⟨gz,0,none⟩)) (fun W hW=>by go_simp) (by simp only [Act.put,sa1,sa2,sa3]; rfl) ?_
       refine LinY.rd (.int .i64 0) (fun W hW=>by go_simp) (by simp only [Act.put,sa1,sa2,sa3]; rfl) ?_
       refine LinY.rd (.pointer (some ⟨gz,0,none⟩)) (fun W hW=>by go_simp) (by simp only [Act.put,sa1,sa2,sa3]; rfl) ?_
       refine LinY.rd (.int .i64 0) (fun W hW=>by go_simp) (by simp only [Act.put,sa1,sa2,sa3]; rfl) ?_
       refine LinY.fin ?_
       have HMz:=hide hmp
       have HKz:=hide ((uh HK1w).trans hkp (by simp))
       have HMLz:=hide (show (insP (hsZ k) ka va M).length≤2 * (i + 1) by have h1:=ins_le (hsZ k) ka va M; have h2:=uh HML1; omega)
       have HHKz:=hide (hk_ins (v:=va) (uh HM1).srt (uh HHK1) (Or.inr ⟨(ka,va),uh HMEM,rfl⟩))
       clear hmp kp hkp hd2
       generalize insP (hsZ k) ka va M = Mz at HMz HMLz HHKz
       go_wp2_with fail
       refine ⟨⟨i + 1,gz,Mz,by go_num,rfl,rfl,by omega,HMz,HMLz,HHKz,HKz⟩,?_⟩
       simp [intOf]; omega
      ·have hlo2:¬ (i:Int) < on:=by omega
       have hlb2:¬ (i:Int) < bn:=by omega
       have HOSr:=hide ((uh HOS).old (uh HK5r))
       have HM4r:=hide ((uh HM4).agr (Agr.nil (uh HK5r)))
       have HMLr:=hide (show M.length≤4000000 by have h2:=uh HML0; omega)
       obtain ⟨w7,hw7⟩:∃ w7,w7 = wr:=⟨_,rfl⟩
       subst hw7
       clear HM6 HK56 HML0
       go_wp2_with fail
       refine Calls.mono (xb3n _ os w7 (uh HOSr) (by have:=uh HOL; omega)) ?_
       rintro e w8 ⟨v8,rfl,r8,k8⟩
       have HQL:=hide (show (shortP os).length≤1000000 by have h1:=xa3n os; have h2:=uh HOL; omega)
       have HQF:=hide (xa9g os)
       have HLAST:=hide (uh HHI M (uh HM).srt (uh HHK))
       have HLAST:Hid (insAll (hsZ k) (delAll M (shortP os)) bs = LA):=HLAST
       generalize shortP os = sq at r8 HQL HQF HLAST
       have HM8:=hide ((uh HM).agr (Agr.nil k8))
       have HK58:=hide ((uh HK5r).trans k8 (by simp))
       have HKw8:=hide ((uh HKwr).trans k8 (by simp))
       clear HHI HHK HM k8 HOSr HKwr HM4r
       obtain ⟨qao,qn,qc,qks,qvs,rfl,hqn,hqc1,hqc2,hqrd,hqce⟩:=r8
       have HqN:=hide hqn
       have HqRD:=hide hqrd
       have HqCE:=hide hqce
       clear hqn hqrd hqce
       have hhq:qn≤1000000:=by have h1:=uh HQL; have h2:=uh HqN; omega
       go_wp2_with fail
       go_loopw [14,15,162] (fun t14 t15 t162 wr=>∃ (j g:Nat),t162 = .int .i64 j∧t14 = .pointer (some ⟨g,0,none⟩)∧t15 = .int .i64 0∧j≤qn∧Hid (MapAt S k wr (.pointer (some ⟨g,0,none⟩)) (delAll M (sq.take j)))∧Hid (Kept [] w8 wr)) (fun _ _ t _=>qn - (intOf t).toNat)
       case atStart=>exact ⟨0,g,rfl,rfl,rfl,Nat.zero_le _,hide (by rw [List.take_zero]; exact uh HM8),hide (Kept.refl _ _)⟩
       case round =>
        obtain ⟨j,g9,rfl,rfl,rfl,hj,HMj,HK8r⟩:=hrel
        by_cases hlt:j < qn
        ·have hlt2:(j:Int) < qn:=by omega
         obtain ⟨qb,qoff,rfl,hcl⟩:=uh HqCE (by omega)
         obtain ⟨hx1,hx2⟩:=hcl j (by omega)
         obtain ⟨hr1,hr2⟩:=uh HqRD j (by omega)
         have hjL:j < sq.length:=by have:=uh HqN; omega
         have HSNOC:=hide (show sq.take (j + 1) = sq.take j++[sq.getD j ([],[])] by
          rw [List.take_succ_eq_append_getElem hjL,List.getD_eq_getElem?_getD,List.getElem?_eq_getElem hjL]; rfl)
         have HMEM:=hide (show sq.getD j ([],[])∈sq by rw [List.getD_eq_getElem?_getD,List.getElem?_eq_getElem hjL]; exact List.getElem_mem hjL)
         generalize qks.getD j undef = kx at hx1 hr1
         generalize qvs.getD j undef = vx at hx2 hr2
         generalize sq.getD j ([],[]) = ej at hr1 hr2 HSNOC HMEM
         obtain ⟨ka,va⟩:=ej
         have HR1:=hide hr1
         have HR2:=hide hr2
         obtain ⟨x1,x2,x3,rfl,_⟩:=id hr1
         obtain ⟨y1,y2,y3,rfl,_⟩:=id hr2
         have HX1:=hide ((uh HK8r).cell hx1 (by simp))
         have HX2:=hide ((uh HK8r).cell hx2 (by simp))
         clear hx1 hx2 hr1 hr2 hjL hcl
         have HRG:=hide (show wr.rangeAt qb (qoff + j * 2) [.slice x1 x2 x3,.slice y1 y2 y3] from fun y u hy=>by
          match y,hy with
          | 0,hy=>rw [Nat.add_zero,uh HX1]; exact hy
          | 1,hy=>rw [uh HX2]; exact hy)
         have HP2:=hide (heap_alloc_new wr (.cells #[.slice x1 x2 x3,.slice y1 y2 y3] 46))
         have HK2:=hide ((Kept.refl [] wr).alloc (.cells #[.slice x1 x2 x3,.slice y1 y2 y3] 46))
         go_upto_region 32 with (refine wpList_load_mid rfl 46 (.tmp 164) rfl qb (qoff + j * 2) rfl [.slice x1 x2 x3,.slice y1 y2 y3] _ (uh HRG) Tryz.underlying46 rfl Tryz.size_pair ?_)
         try simp only [Act.put]
         generalize wr.alloc (.cells #[.slice x1 x2 x3,.slice y1 y2 y3] 46) = W2 at HP2 HK2 ⊢
         have hcp:=xa0j [] [.slice x1 x2 x3,.slice y1 y2 y3] [] (uh HP2) rfl
         have hQ1:=(show W2.cell? ⟨wr.heap.size,0,none⟩ = some (.slice x1 x2 x3) from hcp 0 _ rfl)
         have hQ2:=(show W2.cell? ⟨wr.heap.size,1,none⟩ = some (.slice y1 y2 y3) from hcp 1 _ rfl)
         clear hcp HRG HP2
         have HKW:=hide ((uh HK8r).trans (uh HK2) (by simp))
         have HMW:=hide ((uh HMj).agr (Agr.nil (uh HK2)))
         have HFK:=hide (uh HQF (ka,va) (uh HMEM)).1
         go_wp2_with fail
         refine Calls.mono (xb2e S k _ _ _ ka W2 (uh HMW) ((uh HR1).old (uh HKW) (by simp)) (uh HFK) (uh HS _) ((uh HT).k ((uh HKw8).trans (uh HKW) (by simp)))) ?_
         rintro e w9 ⟨m9,rfl,hm9,k9⟩
         obtain ⟨gz,rfl⟩:=hm9.form
         have HM9:=hide (show MapAt S k w9 (.pointer (some ⟨gz,0,none⟩)) (delAll M (sq.take (j + 1))) by rw [uh HSNOC,xb0g]; exact hm9)
         have HK9:=hide ((uh HKW).trans k9 (by simp))
         generalize fnd ka (delAll M (sq.take j)) = fb
         clear hm9 k9 hQ1 hQ2 HMj HMW
         go_wp2_with fail
         refine ⟨⟨j + 1,gz,by go_num,rfl,rfl,hlt,HM9,HK9⟩,?_⟩
         simp [intOf]; omega
        ·have hlt2:¬ (j:Int) < qn:=by omega
         have HMD:=hide (show MapAt S k wr (.pointer (some ⟨g9,0,none⟩)) (delAll M sq) by have h9:=uh HMj; rw [List.take_of_length_le (by have:=uh HqN; omega)] at h9; exact h9)
         have HK510:=hide ((uh HK58).trans (uh HK8r) (by simp))
         have HKw10:=hide ((uh HKw8).trans (uh HK8r) (by simp))
         obtain ⟨w10,hw10⟩:∃ w10,w10 = wr:=⟨_,rfl⟩
         subst hw10
         clear HMj HK8r HM8 HKw8 HK58
         go_wp2_with fail
         go_loopw [14,15,183] (fun t14 t15 t183 wr=>∃ (j g:Nat),t183 = .int .i64 j∧t14 = .pointer (some ⟨g,0,none⟩)∧t15 = .int .i64 0∧j≤bn∧Hid (MapAt S k wr (.pointer (some ⟨g,0,none⟩)) (insAll (hsZ k) (delAll M sq) (bs.take j)))∧Hid (Kept [] w10 wr)) (fun _ _ t _=>bn - (intOf t).toNat)
         case atStart=>exact ⟨0,g9,rfl,rfl,rfl,Nat.zero_le _,hide (by rw [List.take_zero]; exact uh HMD),hide (Kept.refl _ _)⟩
         case round =>
          obtain ⟨y,g11,rfl,rfl,rfl,hy,HMy,HK10r⟩:=hrel
          have HK5y:=hide ((uh HK510).trans (uh HK10r) (by simp))
          by_cases hlt:y < bn
          ·have hlt2:(y:Int) < bn:=by omega
           obtain ⟨bb,boff,rfl,hcl⟩:=uh HbCE (by omega)
           obtain ⟨hx1,hx2⟩:=hcl y (by omega)
           obtain ⟨hr1,hr2⟩:=uh HbRD y (by omega)
           have hjL:y < bs.length:=by have:=uh HbN; omega
           have HSNOC:=hide (show bs.take (y + 1) = bs.take y++[bs.getD y ([],[])] by
            rw [List.take_succ_eq_append_getElem hjL,List.getD_eq_getElem?_getD,List.getElem?_eq_getElem hjL]; rfl)
           have HMEM:=hide (show bs.getD y ([],[])∈bs by rw [List.getD_eq_getElem?_getD,List.getElem?_eq_getElem hjL]; exact List.getElem_mem hjL)
           generalize bks.getD y undef = kx at hx1 hr1
           generalize bvs.getD y undef = vx at hx2 hr2
           generalize bs.getD y ([],[]) = ej at hr1 hr2 HSNOC HMEM
           obtain ⟨ka,va⟩:=ej
           have HR1:=hide hr1
           have HR2:=hide hr2
           obtain ⟨x1,x2,x3,rfl,_⟩:=id hr1
           obtain ⟨y1,y2,y3,rfl,_⟩:=id hr2
           have HX1:=hide ((uh HK5y).cell hx1 (by simp))
           have HX2:=hide ((uh HK5y).cell hx2 (by simp))
           clear hx1 hx2 hr1 hr2 hjL hcl
           have HRG:=hide (show wr.rangeAt bb (boff + y * 2) [.slice x1 x2 x3,.slice y1 y2 y3] from fun y u hy=>by
            match y,hy with
            | 0,hy=>rw [Nat.add_zero,uh HX1]; exact hy
            | 1,hy=>rw [uh HX2]; exact hy)
           have HP2:=hide (heap_alloc_new wr (.cells #[.slice x1 x2 x3,.slice y1 y2 y3] 46))
           have HK2:=hide ((Kept.refl [] wr).alloc (.cells #[.slice x1 x2 x3,.slice y1 y2 y3] 46))
           go_upto_region 39 with (refine wpList_load_mid rfl 46 (.tmp 185) rfl bb (boff + y * 2) rfl [.slice x1 x2 x3,.slice y1 y2 y3] _ (uh HRG) Tryz.underlying46 rfl Tryz.size_pair ?_)
           try simp only [Act.put]
           generalize wr.alloc (.cells #[.slice x1 x2 x3,.slice y1 y2 y3] 46) = W2 at HP2 HK2 ⊢
           have hcp:=xa0j [] [.slice x1 x2 x3,.slice y1 y2 y3] [] (uh HP2) rfl
           have hQ1:=(show W2.cell? ⟨wr.heap.size,0,none⟩ = some (.slice x1 x2 x3) from hcp 0 _ rfl)
           have hQ2:=(show W2.cell? ⟨wr.heap.size,1,none⟩ = some (.slice y1 y2 y3) from hcp 1 _ rfl)
           clear hcp HRG HP2
           have HKW:=hide ((uh HK10r).trans (uh HK2) (by simp))
           have HK5W:=hide ((uh HK510).trans (uh HKW) (by simp))
           have HMW:=hide ((uh HMy).agr (Agr.nil (uh HK2)))
           have HF1:=hide (uh HBF (ka,va) (uh HMEM)).1
           have HF2:=hide (uh HBF (ka,va) (uh HMEM)).2
           have HML:=hide (show (insAll (hsZ k) (delAll M sq) (bs.take y)).length < 1000000000 by have h1:=xa4c (hsZ k) (bs.take y) (delAll M sq); have h2:=xa8z sq M; have h3:=uh HMLr; rw [List.length_take] at h1; omega)
           go_wp2_with fail
           refine Calls.mono (xa3g S k _ _ _ _ ka va W2 (uh HMW) ((uh HR1).old (uh HK5W) (by simp)) ((uh HR2).old (uh HK5W) (by simp)) (uh HF1) (uh HF2) (uh HML) (uh HS _) ((uh HT).k ((uh HKw10).trans (uh HKW) (by simp)))) ?_
           rintro e w11 ⟨m11,rfl,hm11,k11⟩
           obtain ⟨gz,rfl⟩:=hm11.form
           have HM11:=hide (show MapAt S k w11 (.pointer (some ⟨gz,0,none⟩)) (insAll (hsZ k) (delAll M sq) (bs.take (y + 1))) by rw [uh HSNOC,xa3k]; exact hm11)
           have HK11:=hide ((uh HKW).trans k11 (by simp))
           clear hm11 k11 hQ1 hQ2 HMy HMW HML
           go_wp2_with fail
           refine ⟨⟨y + 1,gz,by go_num,rfl,rfl,hlt,HM11,HK11⟩,?_⟩
           simp [intOf]; omega
          ·have hlt2:¬ (y:Int) < bn:=by omega
           have HMB:=hide (show MapAt S k wr (.pointer (some ⟨g11,0,none⟩)) LA by have h9:=uh HMy; rw [List.take_of_length_le (by have:=uh HbN; omega),uh HLAST] at h9; exact h9)
           have HMA2:=hide ((uh HM4).agr (Agr.nil (uh HK5y)))
           have HOSr:=hide ((uh HOS).old (uh HK5y))
           have HKwr:=hide ((uh HKw10).trans (uh HK10r) (by simp))
           clear HMy HMD HM4
           go_wp2_with fail
           refine Calls.mono (xa4k _ os wr (uh HOSr) (by have:=uh HOL; omega)) ?_
           rintro e w30 ⟨v30,l30,rfl,⟨o30,p30⟩,k30⟩
           obtain ⟨so,sc,rfl⟩:=xa0m o30
           have hln2:l30.length≤1000000:=by have h1:=p30.1; have h2:=xa3n os; have h3:=uh HOL; omega
           have HL3:=hide (show l3.length = n by rw [(uh HP5).1]; exact uh HN)
           have HK530:=hide ((uh HK5y).trans k30 (by simp))
           have HRL:=hide (show RdC 2 w30 (.slice ao n c) (kvR l3) from xa1f (by rw [xa0p]; exact (uh HK530).owns (uh HW5) (by simp)) (uh HP5).cell.1)
           have HO31:=hide o30
           have HP31:=hide p30
           have HK31:=hide k30
           have hb31:=k30.size
           clear o30 p30 k30
           go_wp2_with (at_builtin; refine xa0f rfl 40 46 (.tmp 206) (.tmp 207) rfl rfl _ wr.heap.size (.agg #[.slice none 0 0,.slice none 0 0]) 2 48 Tryz.underlying40 Tryz.infoQ rfl (by decide) (.slice so l30.length sc) l30.length (kvR l30).flatten (uh HO31) ao n c (kvR l3) (uh HRL) (fun r hr=>(uh HP5).cell.1 r hr) (fun r hr u hu=>(uh HP5).cell.2 r hr u hu) (by omega) (by omega) hb31 rfl rfl ?_; intro ao32 c32 w32 HO32 HG32 HA32)
           have hk32:=(uh HK31).grown (uh HG32) (fun x hx=>Or.inr ((uh HO31).lt x hx).1)
           have hk532:=(uh HK5y).trans hk32 (by simp)
           have hpw:PR (fun y=>y < wr.heap.size) w32 l30 (shortP os):=(uh HP31).agr ⟨(uh HG32).size,fun x hx hl=>by
            rw [hk32.block x hx (by simp),(uh HK31).block x hx (by simp)]⟩
           have hpk:=hpw.app (((uh HP5).agr (Agr.nil hk532)).big (fun x hx=>by have h1:=uh HS5; have h2:=(uh HK5y).size; omega))
           have HRK:=hide (rdk_of (xa1f (rows:=kvR (l30++l3)) (by rw [xa0p,List.length_append,uh HL3,xa4q,List.flatten_append]; exact uh HO32) hpk.cell.1) hpk)
           have HKF:=hide ((uh HKwr).trans hk32 (by simp))
           have HMA3:=hide ((uh HMA2).agr (Agr.nil hk32))
           have HMB3:=hide ((uh HMB).agr (Agr.nil hk32))
           have HKL:=hide (show (shortP os++ls).length≤1000000000 by have h1:=xa3n os; have h2:=uh HOL; have h3:=uh HLL; rw [List.length_append]; omega)
           clear hb31 hln2 hk32 hk532 hpw hpk HO32 HG32 HA32 HO31 HP31 HRL
           refine Calls.mono (xb4t S k _ _ _ LA (shortP os++ls) w32 (uh HMA3) (uh HMB3) (uh HRK) (uh HKL) ((uh HT).k (uh HKF))) ?_
           rintro e w33 ⟨rfl,k33⟩
           have HKZ:=hide ((uh HKF).trans k33 (by simp))
           clear k33
           go_wp2_with fail
           go_ret
           exact ⟨rfl,(uh HKZ).below (Nat.le_refl _) (by simp)⟩
end
section
open Go.ChangeShapes Go.WideShapes Go.ChangeAt Go.RowKit Go.Deep
theorem own:ownKnob Tryz.prog.godebug = none:=by kernel_rfl
theorem laidOut:laidOutB Tryz.prog = true:=by kernel_rfl
theorem xa6r {x:Int} (h:(Lit.int .u8 x).wf = true):0≤x∧x < 256:=by
 simp [Lit.wf,IntKind.min,IntKind.max,IntKind.signed,IntKind.bits] at h
 exact ⟨by omega,by omega⟩
theorem xb4k {x:Int} (h:(Lit.int .i64 x).wf = true):-9223372036854775808≤x∧x≤9223372036854775807:=by
 simp [Lit.wf,IntKind.min,IntKind.max,IntKind.signed,IntKind.bits] at h
 exact ⟨by omega,by omega⟩
theorem xb7d {H:Type} (d:DataW H):1≤Rows.uptoBulk d:=by
 cases d with
 | lit l=>cases l <;> simp [Rows.uptoBulk]
 | nil=>simp [Rows.uptoBulk]
 | ptr d=>simp [Rows.uptoBulk]
 | slice elems spare=>simp [Rows.uptoBulk]
 | agg parts=>simp [Rows.uptoBulk]
 | iface t d=>simp [Rows.uptoBulk]
 | map entries=>simp [Rows.uptoBulk]
 | held h=>simp [Rows.uptoBulk]
theorem xb7m {H:Type} (l:List (DataW H)):l.length≤Rows.uptoBulkAll l:=by
 induction l with
 | nil=>simp [Rows.uptoBulkAll]
 | cons x r ih=>have:=xb7d x; simp only [Rows.uptoBulkAll,List.length_cons]; omega
section
variable {H:Type} {enc:TypeId × Value→H} {W:World}
theorem xa7a {fuel:Nat} {cs:List Value} {x:DataW H × List MemPlace} (h:DataW.trod enc Tryz.prog W 0 (fun _=>true) true fuel 32 cs = some x) :
  ∃ v bs,cs = [v]∧(bs.length≤140737488355328→Rd W v bs)∧((bs = []∧x.1 = .nil)∨∃ elems spare,x.1 = .slice elems spare∧elems.length = bs.length):=by
 rcases open_ints Tryz.underlying32 Tryz.underlying5 (by kernel_rfl) h with ⟨rfl,rfl⟩ | ⟨a,len,cap,zs,rfl,_,hl,hm,hz,rfl,hcell,hwz⟩
 ·exact ⟨_,[],rfl,fun _=>Rd.nil W,.inl ⟨rfl,rfl⟩⟩
 ·have h2:(lits (H:=H) .u8 (zs.take len)).length = len:=by simp only [lits,List.length_map,List.length_take]; simp at hz; omega
  have hbl:((zs.take len).map Int.toNat).length = len:=by simp at hz; simp; omega
  refine ⟨_,(zs.take len).map Int.toNat,rfl,fun hB=>⟨_,_,_,rfl,hbl,hl,⟨by unfold maxLen at hm; omega,by omega⟩,by simp,?_,?_⟩,.inr ⟨_,_,rfl,by rw [h2,hbl]⟩⟩
  ·intro y hy
   obtain ⟨z,hz1,rfl⟩:=List.mem_map.1 hy
   have:=xa6r (hwz z (List.mem_of_mem_take hz1)); omega
  ·intro hp
   simp at hz
   have hc0:=hcell 0 (by omega)
   obtain ⟨b,off,spot⟩:=a
   have hspot:spot = none:=by simpa [Addr.add] using World.cell?_spot hc0
   subst hspot
   refine ⟨b,off,rfl,fun i hi=>?_⟩
   have hc:=hcell i (by omega)
   have hzi:i < zs.length:=by omega
   rw [Addr.add_mid] at hc
   rw [hc]
   have hw:=xa6r (hwz (zs[i]) (List.getElem_mem hzi))
   simp only [List.getD_eq_getElem?_getD,List.getElem?_eq_getElem hzi,Option.getD_some,List.getElem?_map,List.getElem?_take,hi,if_true,Option.map_some]
   simp [u8]; omega
theorem xa7d {d:DataW H} {bs:List Nat} (hx:(bs = []∧d = .nil)∨∃ elems spare,d = .slice elems spare∧elems.length = bs.length):bs.length + 1≤Rows.uptoBulk d:=by
 rcases hx with ⟨rfl,rfl⟩ | ⟨elems,spare,rfl,he⟩
 ·simp [Rows.uptoBulk]
 ·have:=xb7m elems
  simp only [Rows.uptoBulk]; omega
end
section
variable {H:Type} {enc:TypeId × Value→H} {W:World}
theorem xa7l {d:DataW H} {l:List (DataW H)} (h:d∈l):Rows.uptoBulk d≤Rows.uptoBulkAll l:=by
 induction l with
 | nil=>cases h
 | cons x r ih =>
  simp only [Rows.uptoBulkAll]
  cases List.mem_cons.1 h with
  | inl e=>subst e; omega
  | inr e=>have:=ih e; omega
theorem xa7k (f:Nat→List Nat × List Nat) (D0 D1:Nat→DataW H) (l:List Nat) (h:∀ i∈l,(f i).1.length + 1≤Rows.uptoBulk (D0 i)∧(f i).2.length + 1≤Rows.uptoBulk (D1 i)):kwt (l.map f)≤Rows.uptoBulkAll (l.map fun i=>.agg [D0 i,D1 i]):=by
 induction l with
 | nil=>simp [kwt]
 | cons a l ih =>
  have h1:=h a (by simp)
  have h2:=ih (fun i hi=>h i (by simp [hi]))
  simp only [kwt,List.map_cons,List.sum_cons,Rows.uptoBulkAll,Rows.uptoBulk] at h2 ⊢
  omega
theorem xa6g {fuel:Nat} {cs:List Value} {x:DataW H × List MemPlace} (h:DataW.trod enc Tryz.prog W 0 (fun _=>true) true fuel 40 cs = some x) (hB:Rows.uptoBulk x.1≤1048576) :
  ∃ v ps,cs = [v]∧RdK W v ps∧kwt ps≤1048576:=by
 rcases open_slice_pairs Tryz.underlying40 Tryz.underlying46 (by kernel_rfl) rfl rfl (by kernel_rfl) (by kernel_rfl) h with ⟨rfl,rfl⟩ | ⟨a,len,cap,m,n,V0,V1,D0,D1,P0,P1,rfl,_,hl,hm,hmm,rfl,hx⟩
 ·exact ⟨_,[],rfl,⟨none,0,0,[],[],rfl,rfl,Nat.le_refl _,by omega,fun i h=>by omega,fun h=>by omega⟩,by simp [kwt]⟩
 ·simp only [if_true] at hmm
  simp only [Rows.uptoBulk] at hB
  obtain ⟨f,hf⟩:=choose_lt (α:=List Nat × List Nat) (n:=len) (p:=fun i o=>(Rd W (V0 i) o.1∧Rd W (V1 i) o.2)∧o.1.length + 1≤Rows.uptoBulk (D0 i)∧o.2.length + 1≤Rows.uptoBulk (D1 i)) (by
   intro i hi
   obtain ⟨_,_,h0,h1⟩:=hx i (by omega)
   have hDi:Rows.uptoBulk (.agg [D0 i,D1 i])≤Rows.uptoBulkAll ((List.range len).map fun i=>.agg [D0 i,D1 i]):=xa7l (List.mem_map.2 ⟨i,List.mem_range.2 hi,rfl⟩)
   simp only [Rows.uptoBulk,Rows.uptoBulkAll] at hDi
   obtain ⟨v,bs,e0,hr0,hb0⟩:=xa7a h0
   obtain ⟨v',bs',e1,hr1,hb1⟩:=xa7a h1
   simp only [List.cons.injEq,and_true] at e0 e1
   subst e0
   subst e1
   have g0:=xa7d hb0
   have g1:=xa7d hb1
   exact ⟨(bs,bs'),⟨hr0 (by simp only at g0; omega),hr1 (by simp only at g1; omega)⟩,g0,g1⟩)
  refine ⟨_,(List.range len).map f,rfl,⟨some a,len,cap,(List.range len).map V0,(List.range len).map V1,rfl,by simp,hl,by unfold maxLen at hm; omega,?_,?_⟩,?_⟩
  ·intro i hi
   have hc:=(hf i hi).1
   simpa [List.getD_eq_getElem?_getD,hi] using hc
  ·intro hp
   obtain ⟨b,off,spot⟩:=a
   have hc0:=(hx 0 (by omega)).1
   have hspot:spot = none:=by simpa [Addr.add] using World.cell?_spot hc0
   subst hspot
   refine ⟨b,off,rfl,fun i hi=>?_⟩
   have hc:=hx i (by omega)
   rw [Addr.add_mid,Addr.add_mid] at hc
   have:=And.intro hc.1 hc.2.1
   simpa [List.getD_eq_getElem?_getD,hi,Nat.add_assoc] using this
  ·have:=xa7k f D0 D1 (List.range len) (fun i hi=>(hf i (List.mem_range.1 hi)).2)
   omega
end
end
end Go.Proofs.YtfnbmnpkjggiaaaGreatDoor
