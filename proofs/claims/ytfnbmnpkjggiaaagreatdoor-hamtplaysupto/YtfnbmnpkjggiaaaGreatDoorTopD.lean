import Derived.Test.YtfnbmnpkjggiaaaGreatDoorTopC
namespace Go.Proofs.YtfnbmnpkjggiaaaGreatDoor
set_option linter.unusedVariables false
set_option linter.unusedSimpArgs false
set_option maxRecDepth 100000
section
open Go.RowKit Go.BigFrame
theorem xb3k {P:Program} {o:Oper} {a:Act} (w:World) (t t2:TypeId) (y:Operand) (ho:o.op = .binOp .shl t (.const (.int .u16 1)) y t2) (k:Nat) (hk:k≤15) (hy:a.eval y = .int .i64 (k:Int)):(execOp a.eval o).run P w = .ok (.value (.int .u16 ((2 ^ k:Nat):Int))) w:=by
 have e:(Op.shift .shl .u16 1 .i64 (k:Int)).run P w = .ok (.int .u16 ((2 ^ k:Nat):Int)) w:=by
  rw [shift_shl .u16 .i64 1 (k:Int) (by omega) (by simp [IntKind.bits]; omega)]
  have h9:2 ^ k≤2 ^ 15:=Nat.pow_le_pow_right (by decide) hk
  rw [Int.toNat_natCast,Int.one_mul]
  have h8:(2 ^ k:Int) = ((2 ^ k:Nat):Int):=by simp
  rw [h8]
  obtain ⟨y,hy⟩:∃ y,2 ^ k = y:=⟨_,rfl⟩
  rw [hy] at h9 ⊢
  have h7:IntKind.u16.wrap (y:Int) = y:=by simp [IntKind.wrap,IntKind.signed,IntKind.bits]; omega
  rw [h7]
  rfl
 have h1:a.eval (.const (.int .u16 1)) = .int .u16 1:=rfl
 unfold execOp
 simp only [ho,hy,h1,eqGuard_shl,binOp_shl,Sem.run_bind,Sem.run_pure,Result.andThen_ok,e]
theorem xa3r {P:Program} {o:Oper} {a:Act} {w:World} {K:Act→World→Prop} {Q:Exit→Act→World→Prop} (ty:TypeId) (x y:Operand) (ho:o.op = .store ty x y) (g off:Nat) (t:TypeId) (cur cur':Array Value) (v:Value) (hx:a.eval x = .pointer (some ⟨g,off,none⟩)) (hy:a.eval y = v)
  (hg:w.heap[g]? = some (.cells cur t (0,0))) (hoff:off + 1≤cur.size) (hi:(P.info? ty).map (·.size) = some 1) (h1:v.oneCell' = true) (hc:(cur.toList.take off++[v]++cur.toList.drop (off + 1)).toArray = cur') (h:K (a.put o.dst undef) (w.setRow g cur')):o.wp P a w K Q:=by
 subst hc
 unfold Oper.wp execOp
 simp only [ho,hx,hy,Instr.storeAt,Instr.sureAddr,Sem.run_bind,Sem.run_pure,Result.andThen_ok,xa3v w g off t ty cur v hg hoff hi h1]
 exact h
theorem IAt.mono {T T':Nat→Prop} {k:Nat} {W:World} {v:Value} {L:Prs} (hs:∀ x,T x→T' x) (h:IAt T k W v L):IAt T' k W v L:=by
 obtain ⟨l,h1,h2,h3⟩:=h
 exact ⟨l,h1,fun x hx=>⟨hs x (h2 x hx).1,(h2 x hx).2⟩,h3.mono hs⟩
theorem IAt.shrink {T:Nat→Prop} {k:Nat} {W:World} {v:Value} {L:Prs} (h:IAt T k W v L):IAt (lowS T W) k W v L:=by
 obtain ⟨l,h1,h2,h3⟩:=h
 exact ⟨l,h1,fun x hx=>⟨h2 x hx,(h2 x hx).2⟩,h3.shrink⟩
theorem xb7z {L:List Nat} {w w':World} {v:Value} {ds:List (List Nat)} (h:RdD w v ds) (k:Kept L w w') (hn:∀ x∈blk v,x∉L):RdD w' v ds:=by
 obtain ⟨ao,len,cap,rfl,h1,h2,h3,h4,h5⟩:=h
 refine ⟨ao,len,cap,rfl,h1,h2,h3,h4,fun hp=>?_⟩
 obtain ⟨b,off,rfl,hc⟩:=h5 hp
 exact ⟨b,off,rfl,fun i hi j u hu=>k.cell (hc i hi j u hu) (hn b (by simp [blk]))⟩
def NodeOk (k f:Nat):Prop:=∀ (T:Nat→Prop) (mv:Value) (L:Prs) (w:World),IAt T k w mv L→L≠[]→Srt (hsZ k) L→Fit L→L.length≤1000000000→Pre (hsZ k) (64 - f) L→(∀ y,w.heap.size≤y→T y) →
  Calls Tryz.prog 60 #[.int .i64 k,mv,.int .i64 ((64 - f:Nat):Int)] w fun e w'=>e = .returned (.agg (brow (nodP (hsZ k) f L)))∧Kept [] w w'
set_option maxHeartbeats 8000000 in
theorem xa9j (k f:Nat) (hf:f≤63) (hN:NodeOk k f) (T:Nat→Prop) (mv:Value) (L:Prs) (w:World) (hM:IAt T k w mv L) (hne0:L≠[]) (hs:Srt (hsZ k) L) (hfit:Fit L) (hl:L.length≤1000000000) (hpre:Pre (hsZ k) (63 - f) L) :
  Calls Tryz.prog 65 #[.int .i64 k,mv,.int .i64 ((63 - f:Nat):Int)] w fun e w'=>∃ v,e = .returned (.agg #[.int .u16 (bm (hsZ k) (63 - f) L:Nat),v])∧RdD w' v ((kidsL (hsZ k) (63 - f) L).map (nodP (hsZ k) f))∧(∀ x∈blk v,w.heap.size≤x)∧Kept [] w w':=by
 obtain ⟨d,hd⟩:∃ d,63 - f = d:=⟨_,rfl⟩
 have hd1:64 - f = d + 1:=by omega
 have hdl:d < 64:=by omega
 unfold NodeOk at hN
 rw [hd1] at hN
 rw [hd] at hpre ⊢
 have HNO:=hide hN
 obtain ⟨T',hT'⟩:∃ T':Nat→Prop,T' = fun x=>lowS T w x∨w.heap.size + 1 + 1≤x:=⟨_,rfl⟩
 have HT1:=hide (show ∀ x,T' x→x≠w.heap.size + 1 by intro x hx; rw [hT'] at hx; rcases hx with h | h; have:=h.2; omega; omega)
 have HT:=hide (show ∀ y,w.heap.size + 1 + 1≤y→T' y by intro y hy; rw [hT']; exact Or.inr hy)
 have HM:=hide (show IAt T' k w mv L from hM.shrink.mono (by intro x hx; rw [hT']; exact Or.inl hx))
 clear hT' hne0
 have HS:=hide hs
 have HFI:=hide hfit
 have HPR:=hide hpre
 obtain ⟨ma,mc,ml,rfl,_⟩:=hM.parts
 clear hM
 have HG0:=hide (heap_alloc_new w (.cells #[.int .u16 0,.slice none 0 0] 72))
 have HK0:=hide ((Kept.refl [] w).alloc (.cells #[.int .u16 0,.slice none 0 0] 72))
 obtain ⟨W1,hW1⟩:∃ W1,w.alloc (.cells #[.int .u16 0,.slice none 0 0] 72) = W1:=⟨_,rfl⟩
 rw [hW1] at HG0 HK0
 have HG1:=hide (heap_alloc_new W1 (.cells #[.int .u16 0,.slice none 0 0] 72))
 have HK1:=hide ((Kept.refl [] W1).alloc (.cells #[.int .u16 0,.slice none 0 0] 72))
 have HG02:=hide ((uh HK1).heap (uh HG0) (by simp))
 obtain ⟨W2,hW2⟩:∃ W2,W1.alloc (.cells #[.int .u16 0,.slice none 0 0] 72) = W2:=⟨_,rfl⟩
 rw [hW2] at HG1 HK1 HG02
 have HKW:=hide ((uh HK0).trans (uh HK1) (by simp))
 have hz1:W1.heap.size = w.heap.size + 1:=by rw [← hW1]; simp
 have hz2:W2.heap.size = w.heap.size + 1 + 1:=by rw [← hW2]; simp [hz1]
 rw [hz1] at HG1
 have HZ2:=hide hz2
 have HZ1:=hide hz1
 have HWD:=hide (show IntKind.i64.wrap ((d:Int) + 1) = (d:Int) + 1 by simp [IntKind.wrap,IntKind.signed,IntKind.bits]; omega)
 clear hz1 hz2 hN hs hfit hpre HK0 HK1 HG0
 go_enter Tryz.func65,Tryz.ntmps65
 go_upto_region 2 with fail
 try rw [hW1]
 try rw [hW2]
 rw [uh HZ1]
 clear hW1 hW2
 go_wp2_with fail
 go_loopw [8] (fun t8 wr=>∃ (i:Nat) (v:Value),t8 = .int .i64 i∧i≤16∧Hid (wr.heap[w.heap.size + 1]? = some (.cells #[.int .u16 (bmI (hsZ k) d L i:Nat),v] 72 (0,0)))∧Hid (wr.ownsRow W2.heap.size 64 32 v (kidI (hsZ k) f d L i).length (dgR (kidI (hsZ k) f d L i)).flatten)∧Hid (Kept [w.heap.size + 1] W2 wr)) (fun t _=>16 - (intOf t).toNat)
 case atStart=>exact ⟨0,_,rfl,Nat.zero_le _,HG1,hide (World.ownsRow_nil _ _ _ _),hide (Kept.refl _ _)⟩
 case round =>
  obtain ⟨i,v,rfl,hi,HG,HO,HKr⟩:=hrel
  by_cases hlt:i < 16
  ·have hlt':(i:Int) < 16:=by omega
   have HKwr:=hide (show Kept [] w wr from (uh HKW).trans (uh HKr) (by intro x hx; simp at hx; right; omega))
   go_wp2_with fail
   refine Calls.mono (xa5z T' k d i _ L wr ((uh HM).agr (Agr.nil (uh HKwr))) hdl hlt hl (fun y hy=>uh HT y (by have:=(uh HKr).size; have:=uh HZ2; omega))) ?_
   rintro e w3 ⟨v3,rfl,hc3,k3⟩
   have HC3:=hide hc3
   have HG3:=hide (k3.heap (uh HG) (by simp))
   have HO3:=hide (k3.owns (uh HO) (by simp))
   have HK3:=hide (show Kept [w.heap.size + 1] W2 w3 from (uh HKr).trans k3 (by simp))
   obtain ⟨ca,cc,cl,rfl,_⟩:=hc3.parts
   have hcl:=ch_len (hsZ k) d i L
   have HCL:=hide (Nat.le_trans hcl hl)
   clear hc3 k3 hcl
   by_cases hne:ch (hsZ k) d i L = []
   ·have hem:(ch (hsZ k) d i L).isEmpty = true:=by rw [hne]; rfl
    have HB:=hide (bmI_no hem)
    have HKi:=hide (xc0k (f:=f) hem)
    have hln:(ch (hsZ k) d i L).length = 0:=by rw [hne]; rfl
    rw [hln]
    clear hne hem hln
    go_wp2_with fail
    refine ⟨⟨i + 1,v,by go_num,hlt,hide (by rw [uh HB]; exact uh HG3),hide (by rw [uh HKi]; exact uh HO3),HK3⟩,?_⟩
    simp [intOf]; omega
   ·have hem:(ch (hsZ k) d i L).isEmpty = false:=by cases h:ch (hsZ k) d i L with
     | nil=>exact absurd h hne
     | cons y M=>rfl
    have HB:=hide (xb9k hem)
    have HKi:=hide (xb8m (f:=f) hem)
    have hpos:0 < (ch (hsZ k) d i L).length:=by cases h:ch (hsZ k) d i L with
     | nil=>exact absurd h hne
     | cons y M=>simp
    have HNE:=hide hne
    have HSr:=hide ((uh HS).ch d i)
    have HFr:=hide (show Fit (ch (hsZ k) d i L) from (uh HFI).sub (fun x hx=>ch_sub x hx))
    have HPr:=hide (xb5j (i:=i) (uh HPR))
    have hkl:=xb6y (hsZ k) f d L i
    have hkd:=xb3b k f d L i
    have hbl:=bmI_lt (hsZ k) d L i
    have hb2:bmI (hsZ k) d L i + 2 ^ i < 65536:=by
     have h1:2 ^ (i + 1)≤2 ^ 16:=Nat.pow_le_pow_right (by omega) (by omega)
     rw [Nat.pow_succ] at h1; omega
    have hDi:Dg (nodP (hsZ k) f (ch (hsZ k) d i L)):=nod_dg k f _
    generalize bmI (hsZ k) d L i = B at HG3 HB hb2 hbl
    generalize kidI (hsZ k) f d L i = KI at HO3 HKi hkl hkd
    generalize ch (hsZ k) d i L = C at HC3 HCL HNE HSr HFr HPr hpos HB HKi hDi hem ⊢
    generalize hCn:C.length = cn at HC3 hpos ⊢
    have hgt:(cn:Int) > 0:=by omega
    have hgt2:(0:Int) < cn:=by omega
    have HCn:=hide hCn
    clear hne hem hCn
    obtain ⟨vo,vc,rfl⟩:=xa0l (uh HO3)
    have c0:w3.cell? ⟨w.heap.size + 1,0,none⟩ = some (.int .u16 (B:Nat)):=by rw [cell_of_row _ _ _ _ _ _ (uh HG3)]; rfl
    have c1:w3.cell? ⟨w.heap.size + 1,1,none⟩ = some (.slice vo KI.length vc):=by rw [cell_of_row _ _ _ _ _ _ (uh HG3)]; rfl
    have HC0:=hide c0
    have hwr1:IntKind.u16.wrap ((B:Int) + ((2 ^ i:Nat):Int)) = ((B + 2 ^ i:Nat):Int):=by
     rw [← Int.natCast_add]
     generalize B + 2 ^ i = z at hb2 ⊢
     simp [IntKind.wrap,IntKind.signed,IntKind.bits]; omega
    obtain ⟨B2,hB2⟩:∃ B2,B + 2 ^ i = B2:=⟨_,rfl⟩
    rw [hB2] at hwr1 HB
    obtain ⟨PW,hPW⟩:∃ PW:Nat,2 ^ i = PW:=⟨_,rfl⟩
    rw [hPW] at hwr1
    have HSH:=hide (fun (P:Program) (o:Oper) (a:Act) (W:World) (t t2:TypeId) (y:Operand) (ho:o.op = .binOp .shl t (.const (.int .u16 1)) y t2) (hy:a.eval y = .int .i64 (i:Int))=>by
     have h9:=xb3k (P:=P) W t t2 y ho i (by omega) hy
     rw [hPW] at h9
     exact h9)
    clear hb2 hB2 hPW hbl c0 c1
    have HOW:=hide (fun x hx=>(uh HO3).lt x hx)
    go_upto_region 7 with fail
    have hd3:=(Kept.refl [w.heap.size + 1] w3).drew
    refine lr_t7 (by kernel_rfl) (by kernel_rfl) rfl (fun W=>Kept [] w3 W) (Kept.refl [] w3).drew ?_
    refine LinY.rd (.pointer (some ⟨w.heap.size + 1,0,none⟩)) (fun W hW=>by go_simp) (by simp only [Act.put,sa1,sa2,sa3]; rfl) ?_
    refine LinY.rd (.int .u16 (B:Nat)) (fun W hW=>by have h9:=hW.cell (uh HC0) (by simp); go_simp) (by simp only [Act.put,sa1,sa2,sa3]; rfl) ?_
    refine LinY.rd (.int .i64 i) (fun W hW=>by go_simp) (by simp only [Act.put,sa1,sa2,sa3]; rfl) ?_
    refine LinY.rd (.int .u16 (PW:Nat)) (fun W hW=>uh HSH _ _ _ W _ _ _ rfl rfl) (by simp only [Act.put,sa1,sa2,sa3]; rfl) ?_
    refine LinY.rd (.int .u16 (B2:Nat)) (fun W hW=>by go_simp) (by simp only [Act.put,sa1,sa2,sa3]; rfl) ?_
    refine LinY.rd (.pointer (some ⟨w.heap.size + 1,0,none⟩)) (fun W hW=>by go_simp) (by simp only [Act.put,sa1,sa2,sa3]; rfl) ?_
    refine LinY.fin (ChL.fin (xa3r 69 (.tmp 26) (.tmp 25) rfl (w.heap.size + 1) 0 72 #[.int .u16 (B:Nat),.slice vo KI.length vc] #[.int .u16 (B2:Nat),.slice vo KI.length vc] (.int .u16 (B2:Nat)) rfl rfl ((Kept.refl [] w3).drew.heap (uh HG3) (by simp)) (by simp) Tryz.size_u16 rfl rfl ?_))
    have HG4:=hide (setRow_heap _ _ _ #[.int .u16 (B2:Nat),.slice vo KI.length vc] _ _ ((Kept.refl [] w3).drew.heap (uh HG3) (by simp)))
    have HK34:=hide (((Kept.refl [w.heap.size + 1] w3).drew).setRow (g:=w.heap.size + 1) (Or.inl (by simp)) #[.int .u16 (B2:Nat),.slice vo KI.length vc])
    have HO4:=hide ((uh HK34).owns (uh HO3) (fun x hx hm=>by have h1:=uh HOW x hx; have h2:=uh HZ2; simp at hm; omega))
    obtain ⟨W4,hW4⟩:∃ W4,w3.drew.setRow (w.heap.size + 1) #[.int .u16 (B2:Nat),.slice vo KI.length vc] = W4:=⟨_,rfl⟩
    rw [hW4] at HG4 HK34 HO4 ⊢
    clear hW4 HC0 HSH HG3 HO3
    have HK4:=hide (show Kept [w.heap.size + 1] W2 W4 from (uh HK3).trans (uh HK34) (by intro x hx; left; exact hx))
    have HKw4:=hide (show Kept [] w W4 from (uh HKW).trans (uh HK4) (by intro x hx; simp at hx; right; omega))
    have HC4:=hide (show IAt T' k W4 (.slice ca cn cc) C from (uh HC3).agr ⟨(uh HK34).size,fun x hx hl=>(uh HK34).block x hl (by
     intro hm
     simp at hm
     exact uh HT1 x hx hm)⟩)
    have c4:W4.cell? ⟨w.heap.size + 1,1,none⟩ = some (.slice vo KI.length vc):=by rw [cell_of_row _ _ _ _ _ _ (uh HG4)]; rfl
    have HC5:=hide c4
    clear c4
    go_upto_region 8 with fail
    obtain ⟨OB,hOB⟩:∃ OB,(Value.slice vo KI.length vc).ownBlock = OB:=⟨_,rfl⟩
    have hOBn:w.heap.size + 1∉OB.toList:=by
     intro hm
     rw [← hOB] at hm
     have h1:=uh HOW (w.heap.size + 1) (by simpa using hm)
     have h2:=uh HZ2
     omega
    have hd4:=(Kept.refl [] W4).drew
    refine lr_t8 (by kernel_rfl) (by kernel_rfl) rfl (fun W=>Kept OB.toList W4 W) (hd4.mono (by simp)) ?_
    refine LinY.rd (.pointer (some ⟨w.heap.size + 1,1,none⟩)) (fun W hW=>by go_simp) (by simp only [Act.put,sa1,sa2,sa3]; rfl) ?_
    refine LinY.rd (.slice vo KI.length vc) (fun W hW=>by have h9:=hW.cell (uh HC5) hOBn; go_simp) (by simp only [Act.put,sa1,sa2,sa3]; rfl) ?_
    refine LinY.rd (.int .i64 k) (fun W hW=>by go_simp) (by simp only [Act.put,sa1,sa2,sa3]; rfl) ?_
    refine LinY.rd (.slice ca cn cc) (fun W hW=>by go_simp) (by simp only [Act.put,sa1,sa2,sa3]; rfl) ?_
    refine LinY.rd (.int .i64 d) (fun W hW=>by go_simp) (by simp only [Act.put,sa1,sa2,sa3]; rfl) ?_
    refine LinY.rd (.int .i64 ((d + 1:Nat):Int)) (fun W hW=>by have h9:=uh HWD; go_simp) (by simp only [Act.put,sa1,sa2,sa3]; rfl) ?_
    refine LinY.fin (ChL.call rfl Tryz.call60 [.int .i64 k,.slice ca cn cc,.int .i64 ((d + 1:Nat):Int)] rfl (uh HNO T' _ C W4.drew ((uh HC4).agr (Agr.nil hd4)) (uh HNE) (uh HSr) (uh HFr) (uh HCL) (uh HPr) (fun y hy=>uh HT y (by have h1:=(uh HK4).size; have h2:=hd4.size; have h3:=uh HZ2; omega))) ?_)
    rintro e w5 ⟨rfl,k5⟩
    have hk5:=hd4.trans k5 (by simp)
    refine ⟨_,rfl,hk5.mono (by simp),?_⟩
    simp only [Act.put,sa1,sa2,sa3]
    obtain ⟨N,hN⟩:∃ N,nodP (hsZ k) f C = N:=⟨_,rfl⟩
    rw [hN] at HKi hDi ⊢
    clear hN
    have hka:=(Kept.refl [] w5).alloc (.cells (brow N) 64)
    have hk6:=hk5.trans hka (by simp)
    refine ChL.op (.slice (some ⟨w5.heap.size,0,none⟩) 1 1) (xb3s w5 (.tmp 33) rfl N hDi.1 rfl) (hk6.mono (by simp)) (by simp only [Act.put,sa1,sa2,sa3]; rfl) ?_
    have hrl:RdC 32 (w5.alloc (.cells (brow N) 64)) (.slice (some ⟨w5.heap.size,0,none⟩) 1 1) (dgR [N]):=⟨_,1,1,rfl,rfl,Nat.le_refl _,by omega,fun _=>⟨w5.heap.size,0,rfl,fun j hj=>by
     have h0:j = 0:=by simp [dgR] at hj; omega
     subst h0
     exact xa0o [] (N.map u8) [] (by rw [List.nil_append,List.append_nil]; exact heap_alloc_new w5 _) rfl⟩⟩
    refine ChL.app 70 64 (.tmp 28) (.tmp 34) rfl rfl _ W2.heap.size (.agg (zb 32)) 32 32 Tryz.underlying70 Tryz.infoDg3 rfl (by decide) (.slice vo KI.length vc) KI.length (dgR KI).flatten (hk6.owns (uh HO4) (by simp)) (some ⟨w5.heap.size,0,none⟩) 1 1 (dgR [N]) hrl (xb1l (by intro x hx; simp at hx; subst hx; exact hDi)) xb9p (by omega) (by omega) (by have h1:=(uh HK4).size; have h2:=hk6.size; omega) rfl rfl ?_
    intro ao7 c7 w7 HO7 HG7 HA7
    have hg7:=uh HG7
    rw [hOB] at hg7
    have hk7:=(Kept.refl OB.toList _).grown hg7 (by intro x hx; left; simp [hx])
    have hk47:=(hk6.mono (M:=OB.toList) (by simp)).trans hk7 (fun x hx=>Or.inl hx)
    refine ⟨hk47,?_⟩
    simp only [Act.put,sa1,sa2,sa3]
    refine ChL.op (.pointer (some ⟨w.heap.size + 1,1,none⟩)) (by go_simp) hk47 (by simp only [Act.put,sa1,sa2,sa3]; rfl) ?_
    have hgx:=hk47.heap (uh HG4) hOBn
    refine ChL.fin (xa3r 70 (.tmp 36) (.tmp 35) rfl (w.heap.size + 1) 1 72 #[.int .u16 (B2:Nat),.slice vo KI.length vc] #[.int .u16 (B2:Nat),.slice ao7 (KI.length + 1) c7] (.slice ao7 (KI.length + 1) c7) rfl rfl hgx (by simp) Tryz.size_dgs rfl rfl ?_)
    have HG8:=hide (setRow_heap _ _ _ #[.int .u16 (B2:Nat),.slice ao7 (KI.length + 1) c7] _ _ hgx)
    have hk78:=(Kept.refl [w.heap.size + 1] w7).setRow (g:=w.heap.size + 1) (Or.inl (by simp)) #[.int .u16 (B2:Nat),.slice ao7 (KI.length + 1) c7]
    have HO8:=hide (hk78.owns (uh HO7) (fun x hx hm=>by
     have h1:=(uh HO7).lt x hx
     have h2:=uh HZ2
     simp at hm; omega))
    have HK8:=hide (show Kept [w.heap.size + 1] W2 (w7.setRow (w.heap.size + 1) #[.int .u16 (B2:Nat),.slice ao7 (KI.length + 1) c7]) from ((uh HK4).trans hk47 (fun x hx=>by
     right
     rw [← hOB] at hx
     exact (uh HOW x (by simpa using hx)).1)).trans hk78 (fun x hx=>Or.inl hx))
    have hlen:(KI++[N]).length = KI.length + 1:=by simp
    have hrows:(dgR (KI++[N])).flatten = (dgR KI).flatten++(dgR [N]).flatten:=by simp [dgR]
    clear hk78 hgx hk47 hk7 hg7 hrl hk6 hka hk5 k5 hd4
    generalize w7.setRow (w.heap.size + 1) #[.int .u16 (B2:Nat),.slice ao7 (KI.length + 1) c7] = W8 at HG8 HO8 HK8 ⊢
    go_wp2_with fail
    refine ⟨⟨i + 1,.slice ao7 (KI.length + 1) c7,by go_num,hlt,hide (by rw [uh HB]; exact uh HG8),hide (by rw [uh HKi,hlen,hrows]; exact uh HO8),HK8⟩,?_⟩
    simp [intOf]; omega
  ·have hie:i = 16:=by omega
   subst hie
   have hlt':¬ ((16:Nat):Int) < 16:=by omega
   have hrd:=xb7b (xa2t (by rw [show (dgR (kidI (hsZ k) f d L 16)).length = (kidI (hsZ k) f d L 16).length by simp [dgR]]; exact uh HO) (xb1l (xb3b k f d L 16))) (xb3b k f d L 16)
   rw [xb6x] at hrd
   have hbm:bmI (hsZ k) d L 16 = bm (hsZ k) d L:=xb9o _ _ _
   have hG:=uh HG
   rw [hbm] at hG
   have hown:=fun x hx=>(uh HO).lt x hx
   obtain ⟨vo,vc,rfl⟩:=xa0l (uh HO)
   have hbl:∀ x∈blk (.slice vo (kidI (hsZ k) f d L 16).length vc),w.heap.size + 1 + 1≤x:=fun x hx=>by
    have h2:=uh HZ2
    rcases (uh HO).2 with ⟨e,_⟩ | ⟨g,c,cur,e,hg,_⟩
    ·injection e with e1; subst e1; simp [blk] at hx
    ·injection e with e1; subst e1; have:x = g:=by simpa [blk] using hx
     omega
   generalize (kidI (hsZ k) f d L 16).length = kl at hG hrd hbl ⊢
   have HG9:=hide hG
   have HRD:=hide hrd
   have HBL:=hide hbl
   have HZR:=hide ((uh HKr).heap (uh HG02) (by simp))
   have HKw:=hide (show Kept [] w wr from (uh HKW).trans (uh HKr) (by intro x hx; simp at hx; right; omega))
   clear hG hrd hbl hown hbm HG HO
   have c0:wr.cell? ⟨w.heap.size + 1,0,none⟩ = some (.int .u16 (bm (hsZ k) d L:Nat)):=by rw [cell_of_row _ _ _ _ _ _ (uh HG9)]; rfl
   have c1:wr.cell? ⟨w.heap.size + 1,1,none⟩ = some (.slice vo kl vc):=by rw [cell_of_row _ _ _ _ _ _ (uh HG9)]; rfl
   have r0:wr.cell? ⟨w.heap.size,0,none⟩ = some (.int .u16 0):=by rw [cell_of_row _ _ _ _ _ _ (uh HZR)]; rfl
   have r1:wr.cell? ⟨w.heap.size,1,none⟩ = some (.slice none 0 0):=by rw [cell_of_row _ _ _ _ _ _ (uh HZR)]; rfl
   have z0:=frozen_of_row _ _ 0 _ _ (uh HZR)
   have z1:=frozen_of_row _ _ 1 _ _ (uh HZR)
   go_wp2_with fail
   have k9:=((Kept.refl [w.heap.size] wr).setCell (p:=⟨w.heap.size,0,none⟩) (Or.inl (by simp)) (.int .u16 (bm (hsZ k) d L:Nat))).setCell (p:=⟨w.heap.size,1,none⟩) (Or.inl (by simp)) (.slice vo kl vc)
   refine bodyPost_ret (v:=.agg #[.int .u16 (bm (hsZ k) d L:Nat),.slice vo kl vc]) ?_ rfl ⟨.slice vo kl vc,rfl,xb7z (uh HRD) k9 (fun x hx hm=>by have:=uh HBL x hx; simp at hm; omega),fun x hx=>by have:=uh HBL x hx; omega,((uh HKw).setCell (p:=⟨w.heap.size,0,none⟩) (Or.inr (Nat.le_refl _)) _).setCell (p:=⟨w.heap.size,1,none⟩) (Or.inr (Nat.le_refl _)) _⟩
   exact results_cell_row rfl _ _ w.heap.size 72 #[.int .u16 (bm (hsZ k) d L:Nat),.slice vo kl vc] (0,0) _ rfl (by rw [heap_setCell_same _ w.heap.size 1 _ _ _ (heap_setCell_same _ w.heap.size 0 _ _ _ (uh HZR))]; rfl) Tryz.underlying72 rfl Tryz.size_stp
theorem xb2w (S:Nat→Prop) (k:Nat) (mv:Value) (L:Prs) (w:World) (hM:MapAt S k w mv L) :
  Calls Tryz.prog 24 #[mv] w fun e w'=>e = .returned (.int .i64 (L.length:Nat))∧Kept [] w w':=by
 obtain ⟨hk,hs,hfit,hlen,g,tv,rfl,hSg,hh,htop⟩:=hM
 have c1:w.cell? ⟨g,1,none⟩ = some (.int .i64 (L.length:Nat)):=by rw [cell_of_row _ _ _ _ _ _ hh]; rfl
 clear hh htop hs hfit
 go_enter Tryz.func24,Tryz.ntmps24
 go_wp2
 go_ret
 exact ⟨rfl,Kept.refl _ _⟩
theorem xb1i (S:Nat→Prop) (k:Nat) (mv:Value) (L:Prs) (w:World) (hM:MapAt S k w mv L) :
  Calls Tryz.prog 34 #[mv] w fun e w'=>e = .returned (.int .i64 k)∧Kept [] w w':=by
 obtain ⟨hk,hs,hfit,hlen,g,tv,rfl,hSg,hh,htop⟩:=hM
 have c1:w.cell? ⟨g,0,none⟩ = some (.int .i64 k):=by rw [cell_of_row _ _ _ _ _ _ hh]; rfl
 clear hh htop hs hfit
 go_enter Tryz.func34,Tryz.ntmps34
 go_wp2
 go_ret
 exact ⟨rfl,Kept.refl _ _⟩
theorem xb2l (k:Int):Tryz.prog.built 82 [(0,.int .i64 k)] = some #[.int .i64 k,.int .i64 0,.nilIface]:=by kernel_rfl
theorem xb5e (S:Nat→Prop) (k:Nat) (w:World) (hk:1≤k∧k≤32) (hS:∀ y,w.heap.size≤y→S y) :
  Calls Tryz.prog 10 #[.int .i64 k] w fun e w'=>∃ m',e = .returned (.tuple #[m',.int .i64 0])∧MapAt S k w' m' []∧Kept [] w w':=by
 have h1:¬ (k:Int) < 1:=by omega
 have h2:¬ (32:Int) < k:=by omega
 have h3:¬ (k:Int) > 32:=by omega
 go_enter Tryz.func10,Tryz.ntmps10
 go_wp2_with (refine xa0p rfl 82 _ rfl #[.int .i64 k,.int .i64 0,.nilIface] (by simp only [List.map_toArray,List.map_cons,List.map_nil]; exact xb2l k) ?_)
 go_ret2
 exact ⟨_,rfl,⟨hk,List.Pairwise.nil,fun p hp=>by simp at hp,by simp,w.heap.size,.nilIface,rfl,hS _ (Nat.le_refl _),heap_alloc_new w _,Or.inl ⟨rfl,rfl⟩⟩,(Kept.refl [] w).alloc _⟩
theorem xb9e (z:Int) (w:World) (hz:widthB z = false) :
  Calls Tryz.prog 10 #[.int .i64 z] w fun e w'=>e = .returned (.tuple #[.pointer none,.int .i64 1])∧Kept [] w w':=by
 have h0:¬ (1≤z∧z≤32):=by simpa [widthB] using hz
 by_cases h1:z < 1
 ·go_enter Tryz.func10,Tryz.ntmps10
  go_wp2
  go_ret2
  exact ⟨rfl,Kept.refl _ _⟩
 ·have h2:z > 32:=by omega
  have h3:(32:Int) < z:=by omega
  clear h0
  go_enter Tryz.func10,Tryz.ntmps10
  go_wp2
  go_ret2
  exact ⟨rfl,Kept.refl _ _⟩
def rootP (k:Nat) (L:Prs):List Nat:=if L.isEmpty then cutL k (hash [5]) else nodP (hsZ k) 64 L
set_option maxHeartbeats 2000000 in
theorem xb2k (S:Nat→Prop) (k:Nat) (mv:Value) (L:Prs) (w:World) (hM:MapAt S k w mv L) (hT:Tabs w) :
  Calls Tryz.prog 32 #[mv] w fun e w'=>e = .returned (.agg (brow (rootP k L)))∧Kept [] w w':=by
 obtain ⟨hk,hs,hfit,hlen,g,tv,rfl,hSg,hh,htop⟩:=hM
 have c0:w.cell? ⟨g,0,none⟩ = some (.int .i64 k):=by rw [cell_of_row _ _ _ _ _ _ hh]; rfl
 have c2:w.cell? ⟨g,2,none⟩ = some tv:=by rw [cell_of_row _ _ _ _ _ _ hh]; rfl
 have HZ0:=hide (heap_alloc_new w (.cells (zb 32) 64))
 have HK0:=hide ((Kept.refl [] w).alloc (.cells (zb 32) 64))
 have c0a:∀ o,(w.alloc o).cell? ⟨g,0,none⟩ = some (.int .i64 k):=fun o=>((Kept.refl [] w).alloc o).cell c0 (by simp)
 have c2a:∀ o,(w.alloc o).cell? ⟨g,2,none⟩ = some tv:=fun o=>((Kept.refl [] w).alloc o).cell c2 (by simp)
 have HTb:=hide hT
 have he1:=en_bk
 have he2:=en_br
 have he3:=en_nil
 have hg1:=eg_bk
 have hg2:=eg_br
 rcases htop with ⟨rfl,rfl⟩ | ht
 ·obtain ⟨O,hO⟩:∃ O,cutL k (hash [5]) = O:=⟨_,rfl⟩
  have hOl:O.length = 32:=by rw [← hO]; exact xa0w k (hash [5]) (by omega) (xa1e [5])
  have hR:rootP k [] = O:=hO
  rw [hR]
  have HO:=hide hO
  clear hO hR hh hT c0 c2
  go_enter Tryz.func32,Tryz.ntmps32
  go_wp2_with fail
  rw [zb32]
  refine Calls.mono (xb4e k _ (by omega) (wide_k hk) ((uh HTb).k (uh HK0))) ?_
  rintro e w1 ⟨rfl,k1⟩
  rw [Int.toNat_natCast,uh HO]
  have HK1:=hide ((uh HK0).trans k1 (by simp))
  have HZ1:=hide (k1.heap (uh HZ0) (by simp))
  have hlt:=lt_of_block (uh HZ1)
  clear k1 c0a c2a
  have HN1:=hide (heap_alloc_new w1 (.cells (zb 32) 64))
  have HN2:=hide (setRow_heap _ _ _ (brow O) _ _ (uh HN1))
  have HK12:=hide ((Kept.refl [] w1).alloc (.cells (zb 32) 64) |>.setRow (g:=w1.heap.size) (Or.inr (Nat.le_refl _)) (brow O))
  have HZ2:=hide ((uh HK12).heap (uh HZ1) (by simp))
  have HK2:=hide ((uh HK1).trans (uh HK12) (by simp))
  go_wp2_with (first
   | (rw [zb32]; refine wpList_store_row rfl 64 (.tmp 3) (.tmp 21) rfl w1.heap.size (brow O) rfl rfl _ (zb 32) (uh HN1) (by rw [xa0a,hOl]; exact Tryz.size_dig) (by rw [xa0j,xa0a,hOl]) (xa0g _) ?_)
   | (refine wpList_load_row rfl 64 (.tmp 3) rfl w1.heap.size rfl 64 (brow O) (0,0) _ (uh HN2) Tryz.underlying64 rfl (by rw [xa0a,hOl]; exact Tryz.size_dig) ?_)
   | (refine wpList_store_row rfl 64 (.tmp 2) (.tmp 23) rfl w.heap.size (brow O) rfl rfl _ (zb 32) (uh HZ2) (by rw [xa0a,hOl]; exact Tryz.size_dig) (by rw [xa0j,xa0a,hOl]) (xa0g _) ?_))
  refine bodyPost_ret (v:=.agg (brow O)) ?_ rfl ⟨rfl,(uh HK2).setRow (Or.inr (Nat.le_refl _)) _⟩
  exact results_cell_row rfl _ _ w.heap.size _ (brow O) (0,0) _ rfl (setRow_heap _ _ _ _ _ _ (uh HZ2)) Tryz.underlying64 rfl (by rw [xa0a,hOl]; exact Tryz.size_dig)
 ·have hne:=ht.ne
  have hR:rootP k L = nodP (hsZ k) 64 L:=by
   unfold rootP
   cases L with
   | nil=>exact absurd rfl hne
   | cons y L=>rfl
  rw [hR]
  have hO2:=(nod_dg k 64 L).1
  have hown:=ht.own
  generalize nodP (hsZ k) 64 L = O at hown hO2
  clear hR hh hT c0 c2 ht hne
  rcases hown with ⟨g1,D,pv,hs1,rfl,hD,hh1⟩ | ⟨g1,x,kv,hs1,rfl,hh1⟩
  ·have HH:=hide (((Kept.refl [] w).alloc (.cells (zb 32) 64)).heap hh1 (by simp))
   clear hh1 hs1
   go_enter Tryz.func32,Tryz.ntmps32
   go_wp2_with fail
   rw [zb32]
   refine Calls.mono (xb0w g1 D O pv _ (uh HH) hD hO2) ?_
   rintro e w1 ⟨rfl,k1⟩
   have HK1:=hide ((uh HK0).trans k1 (by simp))
   have HZ1:=hide (k1.heap (uh HZ0) (by simp))
   clear k1 c0a c2a
   go_wp2_with (refine wpList_store_row rfl 64 (.tmp 2) (.tmp 28) rfl w.heap.size (brow O) rfl rfl _ (zb 32) (uh HZ1) (by rw [xa0a,hO2]; exact Tryz.size_dig) (by rw [xa0j,xa0a,hO2]) (xa0g _) ?_)
   refine bodyPost_ret (v:=.agg (brow O)) ?_ rfl ⟨rfl,(uh HK1).setRow (Or.inr (Nat.le_refl _)) _⟩
   exact results_cell_row rfl _ _ w.heap.size _ (brow O) (0,0) _ rfl (setRow_heap _ _ _ _ _ _ (uh HZ1)) Tryz.underlying64 rfl (by rw [xa0a,hO2]; exact Tryz.size_dig)
  ·have HH:=hide (((Kept.refl [] w).alloc (.cells (zb 32) 64)).heap hh1 (by simp))
   clear hh1 hs1
   go_enter Tryz.func32,Tryz.ntmps32
   go_wp2_with fail
   rw [zb32]
   refine Calls.mono (xb2n g1 x O kv _ (uh HH) hO2) ?_
   rintro e w1 ⟨rfl,k1⟩
   have HK1:=hide ((uh HK0).trans k1 (by simp))
   have HZ1:=hide (k1.heap (uh HZ0) (by simp))
   clear k1 c0a c2a
   go_wp2_with (refine wpList_store_row rfl 64 (.tmp 2) (.tmp 28) rfl w.heap.size (brow O) rfl rfl _ (zb 32) (uh HZ1) (by rw [xa0a,hO2]; exact Tryz.size_dig) (by rw [xa0j,xa0a,hO2]) (xa0g _) ?_)
   refine bodyPost_ret (v:=.agg (brow O)) ?_ rfl ⟨rfl,(uh HK1).setRow (Or.inr (Nat.le_refl _)) _⟩
   exact results_cell_row rfl _ _ w.heap.size _ (brow O) (0,0) _ rfl (setRow_heap _ _ _ _ _ _ (uh HZ1)) Tryz.underlying64 rfl (by rw [xa0a,hO2]; exact Tryz.size_dig)
set_option maxHeartbeats 4000000 in
theorem xa5i (k:Nat) (hk:1≤k∧k≤32):∀ f,f≤64→NodeOk k f
 | f,hf=>by
  intro T mv L w hM hne hs hfit hl hpre hT
  have HM:=hide hM
  obtain ⟨ao,c,l,rfl,hc1,hc2,hll,hpr,hcell⟩:=hM.parts
  have HZ0:=hide (heap_alloc_new w (.cells (zb 32) 64))
  have HK0:=hide ((Kept.refl [] w).alloc (.cells (zb 32) 64))
  have hNd:=nod_dg k f L
  have HPB:=hide (show (pairB L).length≤1000000000000 by have:=xa3g hfit; omega)
  have HS:=hide hs
  have HFI:=hide hfit
  have HPR:=hide hpre
  cases hsg:sgl (hsZ k) L with
  | true =>
   have hE:nodP (hsZ k) f L = sumD (k:Int) (buckB L):=xb5o hsg
   obtain ⟨C,hC⟩:∃ C,nodP (hsZ k) f L = C:=⟨_,rfl⟩
   rw [hC] at hE hNd ⊢
   have HE:=hide hE
   have HSG:=hide hsg
   have hcl:=hNd.1
   have HS2:=hide (by rw [xa0a,hcl]; exact Tryz.size_dig:(Tryz.prog.info? 64).map (·.size) = some (brow C).size)
   clear hM hcell hpr hs hfit hpre hE hC hsg hNd
   go_enter Tryz.func60,Tryz.ntmps60
   go_wp2_with fail
   rw [zb32]
   refine Calls.mono (xa4d T k _ L _ hk ((uh HM).agr (Agr.nil (uh HK0))) (uh HS) hl) ?_
   rintro e w1 ⟨rfl,k1⟩
   rw [uh HSG]
   have HK1:=hide ((uh HK0).trans k1 (by simp))
   have HZ1:=hide (k1.heap (uh HZ0) (by simp))
   clear k1
   go_wp2_with fail
   refine Calls.mono (xa2v T k _ L w1 ((uh HM).agr (Agr.nil (uh HK1))) hl) ?_
   rintro e w2 ⟨v2,rfl,r2,k2⟩
   have HR2:=hide r2
   have HK2:=hide ((uh HK1).trans k2 (by simp))
   have HZ2:=hide (k2.heap (uh HZ1) (by simp))
   clear r2 k2
   go_wp2_with fail
   refine Calls.mono (xa6c k v2 L w2 hk (uh HR2) (uh HPB)) ?_
   rintro e w3 ⟨rfl,k3⟩
   rw [← uh HE]
   have HK3:=hide ((uh HK2).trans k3 (by simp))
   have HZ3:=hide (k3.heap (uh HZ2) (by simp))
   clear k3
   go_wp2_with (refine wpList_store_row rfl 64 _ _ rfl w.heap.size (brow C) rfl rfl _ (zb 32) (uh HZ3) (uh HS2) (by rw [xa0j,xa0a,hcl]) (xa0g _) ?_)
   refine bodyPost_ret (v:=.agg (brow C)) ?_ rfl ⟨rfl,(uh HK3).setRow (Or.inr (Nat.le_refl _)) _⟩
   exact results_cell_row rfl _ _ w.heap.size _ (brow C) (0,0) _ rfl (setRow_heap _ _ _ _ _ _ (uh HZ3)) Tryz.underlying64 rfl (uh HS2)
  | false =>
   match f,hf with
   | 0,_=>exact absurd (xb5g (hsZ_ok hk) hpre (by have:(hsZ k).wd = k:=rfl; omega)) (by rw [hsg]; simp)
   | f + 1,hf =>
    have IH:=hide (xa5i k hk f (by omega))
    have hE:nodP (hsZ k) (f + 1) L = sumD (k:Int) (branchB (k:Int) (bm (hsZ k) (63 - f) L) ((kidsL (hsZ k) (63 - f) L).map (nodP (hsZ k) f))):=by
     rw [nod_br hsg]; unfold kidsL; rw [List.map_map]; rfl
    obtain ⟨C,hC⟩:∃ C,nodP (hsZ k) (f + 1) L = C:=⟨_,rfl⟩
    rw [hC] at hE hNd ⊢
    have HE:=hide hE
    have HSG:=hide hsg
    have hcl:=hNd.1
    have hd:64 - (f + 1) = 63 - f:=by omega
    rw [hd] at HPR ⊢
    have HS2:=hide (by rw [xa0a,hcl]; exact Tryz.size_dig:(Tryz.prog.info? 64).map (·.size) = some (brow C).size)
    have hbl:=bm_lt (hsZ k) (63 - f) L
    have hkl:((kidsL (hsZ k) (63 - f) L).map (nodP (hsZ k) f)).length≤16:=by rw [List.length_map,xa3c]; exact cnt_le _ _
    have HST:=hide (fun w hM=>xa9j k f (by omega) (uh IH) T (.slice ao L.length c) L w hM hne (uh HS) (uh HFI) hl (uh HPR))
    generalize bm (hsZ k) (63 - f) L = BM at HE hbl HST
    generalize (kidsL (hsZ k) (63 - f) L).map (nodP (hsZ k) f) = KS at HE hkl HST
    generalize 63 - f = d at HST ⊢
    clear hM hcell hpr hs hfit hpre hE hC hsg hNd hd
    go_enter Tryz.func60,Tryz.ntmps60
    go_wp2_with fail
    rw [zb32]
    refine Calls.mono (xa4d T k _ L _ hk ((uh HM).agr (Agr.nil (uh HK0))) (uh HS) hl) ?_
    rintro e w1 ⟨rfl,k1⟩
    rw [uh HSG]
    have HK1:=hide ((uh HK0).trans k1 (by simp))
    have HZ1:=hide (k1.heap (uh HZ0) (by simp))
    clear k1
    go_wp2_with fail
    refine Calls.mono (uh HST w1 ((uh HM).agr (Agr.nil (uh HK1)))) ?_
    rintro e w2 ⟨v2,rfl,r2,n2,k2⟩
    obtain ⟨p1,p2,p3,rfl,_⟩:=id r2
    have HK2:=hide ((uh HK1).trans k2 (by simp))
    have HZ2:=hide (k2.heap (uh HZ1) (by simp))
    have HKS:=hide ((Kept.refl [] w2).alloc (.cells #[.int .u16 (BM:Nat),.slice p1 p2 p3] 72))
    have HR2:=hide (r2.old (uh HKS))
    have HQ:=hide (heap_alloc_new w2 (.cells #[.int .u16 (BM:Nat),.slice p1 p2 p3] 72))
    have HK3:=hide ((uh HK2).trans (uh HKS) (by simp))
    have HZ3:=hide ((uh HKS).heap (uh HZ2) (by simp))
    clear r2 k2 n2
    have c0:(w2.alloc (.cells #[.int .u16 (BM:Nat),.slice p1 p2 p3] 72)).cell? ⟨w2.heap.size,0,none⟩ = some (.int .u16 (BM:Nat)):=by rw [cell_of_row _ _ _ _ _ _ (uh HQ)]; rfl
    have c1:(w2.alloc (.cells #[.int .u16 (BM:Nat),.slice p1 p2 p3] 72)).cell? ⟨w2.heap.size,1,none⟩ = some (.slice p1 p2 p3):=by rw [cell_of_row _ _ _ _ _ _ (uh HQ)]; rfl
    go_wp2_with fail
    refine Calls.mono (xa6q k BM _ KS _ hk hbl (uh HR2) hkl) ?_
    rintro e w4 ⟨rfl,k4⟩
    rw [← uh HE]
    have HK4:=hide ((uh HK3).trans k4 (by simp))
    have HZ4:=hide (k4.heap (uh HZ3) (by simp))
    clear k4 c0 c1
    go_wp2_with (refine wpList_store_row rfl 64 _ _ rfl w.heap.size (brow C) rfl rfl _ (zb 32) (uh HZ4) (uh HS2) (by rw [xa0j,xa0a,hcl]) (xa0g _) ?_)
    refine bodyPost_ret (v:=.agg (brow C)) ?_ rfl ⟨rfl,(uh HK4).setRow (Or.inr (Nat.le_refl _)) _⟩
    exact results_cell_row rfl _ _ w.heap.size _ (brow C) (0,0) _ rfl (setRow_heap _ _ _ _ _ _ (uh HZ4)) Tryz.underlying64 rfl (uh HS2)
set_option maxHeartbeats 2000000 in
theorem xa4t (T:Nat→Prop) (k:Nat) (hk:1≤k∧k≤32) (mv:Value) (L:Prs) (w:World) (hM:IAt T k w mv L) (hs:Srt (hsZ k) L) (hfit:Fit L) (hl:L.length≤1000000000) (hT:∀ y,w.heap.size≤y→T y) :
  Calls Tryz.prog 35 #[.int .i64 k,mv] w fun e w'=>e = .returned (.agg (brow (rootP k L)))∧Kept [] w w':=by
 have HM:=hide hM
 obtain ⟨ao,c,l,rfl,hc1,hc2,hll,hpr,hcell⟩:=hM.parts
 have HZ0:=hide (heap_alloc_new w (.cells (zb 32) 64))
 have HK0:=hide ((Kept.refl [] w).alloc (.cells (zb 32) 64))
 clear hM hcell hpr
 by_cases h0:L = []
 ·subst h0
  obtain ⟨C,hC⟩:∃ C,cutL k (hash [5]) = C:=⟨_,rfl⟩
  have hcl:C.length = 32:=by rw [← hC]; exact xa0w k (hash [5]) (by omega) (xa1e [5])
  have hR:rootP k [] = C:=hC
  rw [hR]
  have HC:=hide hC
  have HS2:=hide (by rw [xa0a,hcl]; exact Tryz.size_dig:(Tryz.prog.info? 64).map (·.size) = some (brow C).size)
  clear hC hR
  go_enter Tryz.func35,Tryz.ntmps35
  go_wp2_with fail
  rw [zb32]
  refine Calls.mono (xa8d k _ (by omega)) ?_
  rintro e w1 ⟨rfl,k1⟩
  rw [uh HC]
  have HK1:=hide ((uh HK0).trans k1 (by simp))
  have HZ1:=hide (k1.heap (uh HZ0) (by simp))
  clear k1
  go_wp2_with (refine wpList_store_row rfl 64 _ _ rfl w.heap.size (brow C) rfl rfl _ (zb 32) (uh HZ1) (uh HS2) (by rw [xa0j,xa0a,hcl]) (xa0g _) ?_)
  refine bodyPost_ret (v:=.agg (brow C)) ?_ rfl ⟨rfl,(uh HK1).setRow (Or.inr (Nat.le_refl _)) _⟩
  exact results_cell_row rfl _ _ w.heap.size _ (brow C) (0,0) _ rfl (setRow_heap _ _ _ _ _ _ (uh HZ1)) Tryz.underlying64 rfl (uh HS2)
 ·have hR:rootP k L = nodP (hsZ k) 64 L:=by
   unfold rootP
   cases L with
   | nil=>exact absurd rfl h0
   | cons y L=>rfl
  have hp:0 < L.length:=by cases L with
   | nil=>exact absurd rfl h0
   | cons y L=>simp
  rw [hR]
  have hcl:=(nod_dg k 64 L).1
  have HN:=hide (fun w hM hT=>xa5i k hk 64 (Nat.le_refl _) T (.slice ao L.length c) L w hM h0 hs hfit hl (Pre.zero _ _) hT)
  rw [show ((64 - 64:Nat):Int) = 0 from rfl] at HN
  generalize nodP (hsZ k) 64 L = C at hcl HN ⊢
  have HS2:=hide (by rw [xa0a,hcl]; exact Tryz.size_dig:(Tryz.prog.info? 64).map (·.size) = some (brow C).size)
  have HT:=hide hT
  generalize hn:L.length = n at HM HN hp ⊢
  have q1:((n:Int) == 0) = false:=by rw [beq_eq_false_iff_ne]; omega
  have q2:¬ n = 0:=by omega
  clear hR hs hfit h0 hT hll hc1 hn
  go_enter Tryz.func35,Tryz.ntmps35
  go_wp2_with fail
  rw [zb32]
  refine Calls.mono (uh HN _ ((uh HM).agr (Agr.nil (uh HK0))) (fun y hy=>uh HT y (by have:=(uh HK0).size; omega))) ?_
  rintro e w1 ⟨rfl,k1⟩
  have HK1:=hide ((uh HK0).trans k1 (by simp))
  have HZ1:=hide (k1.heap (uh HZ0) (by simp))
  clear k1
  go_wp2_with (refine wpList_store_row rfl 64 _ _ rfl w.heap.size (brow C) rfl rfl _ (zb 32) (uh HZ1) (uh HS2) (by rw [xa0j,xa0a,hcl]) (xa0g _) ?_)
  refine bodyPost_ret (v:=.agg (brow C)) ?_ rfl ⟨rfl,(uh HK1).setRow (Or.inr (Nat.le_refl _)) _⟩
  exact results_cell_row rfl _ _ w.heap.size _ (brow C) (0,0) _ rfl (setRow_heap _ _ _ _ _ _ (uh HZ1)) Tryz.underlying64 rfl (uh HS2)
theorem xb0e {ops:Array Oper} {rest:List Oper} {o:Oper} {a:Act} {w:World} {Q:Exit→Act→World→Prop} (hw:Region.wanted o (yielded ops a.tmps) = true) (x:Operand) (ho:o.op = .buildSlice 60 1 #[(0,x)]) (n:Int) (vu:Value) (hx:a.eval x = .agg #[.int .u16 n,vu])
  (h:wpList Tryz.prog ops Q rest (a.put o.dst (.slice (some ⟨w.heap.size,0,none⟩) 1 1)) (w.alloc (.cells #[.int .u16 n,vu] 72))):wpList Tryz.prog ops Q (o :: rest) a w :=
 wpList_want hw fun _ hK=>by
  unfold Oper.wp
  rw [xb2v w x ho n vu hx]
  exact hK _ _ h
theorem xc0e {x:Nat} {v:Value} (h:v.oneCell' = true):∀ r∈stR [(x,v)],∀ u∈r,u.oneCell' = true:=by
 intro r hr u hu
 simp [stR] at hr
 rw [hr] at hu
 simp at hu
 rcases hu with rfl | rfl
 ·rfl
 ·exact h
theorem xb4i {T:Nat→Prop} {k:Nat} {w w1:World} {v v' u:Value} {L:Prs} (h:IAt (tS T v) k w u L) (hn:L≠[]) (hg:w.grownBy w1 v.ownBlock) (hb:v'.ownBlock = v.ownBlock∨v'.ownBlock = some w.heap.size):IAt (tS T v') k w1 u L:=by
 have hK:=(Kept.refl v.ownBlock.toList w).grown hg (by intro x hx; left; simp [hx])
 have ha:Agr (lowS (tS T v) w) w w1:=⟨hK.size,fun x hx hl=>hK.block x hl (by
  intro hm
  have:v.ownBlock = some x:=by simpa using hm
  exact hx.1.2 this)⟩
 refine (h.shrink.agr ha).mono (fun x hx=>⟨hx.1.1,?_⟩)
 rcases hb with e | e
 ·rw [e]; exact hx.1.2
 ·rw [e]; intro e2; have h2:=hx.2; injection e2 with e3; omega
set_option maxHeartbeats 8000000 in
theorem xb3z (T:Nat→Prop) (k:Nat) (hk:1≤k∧k≤32) (mv qv:Value) (q:List Nat) (L:Prs) (w:World) (hM:IAt T k w mv L) (hq:Rd w qv q) (hql:q.length≤140737488351232) (hs:Srt (hsZ k) L) (hfit:Fit L) (hl:L.length≤1000000000) (hT:∀ y,w.heap.size≤y→T y) :
  Calls Tryz.prog 42 #[.int .i64 k,mv,qv] w fun e w'=>∃ sv pv,e = .returned (.tuple #[sv,pv])∧WalkP k w' q L sv pv∧Kept [] w w':=by
 have hH:=hsZ_ok hk
 have HM:=hide hM
 have HQ:=hide hq
 have HS:=hide hs
 have HFI:=hide hfit
 have HT:=hide hT
 have hDg:Dg ((hsZ k).kd q):=hH.dg q
 have hDe:sumD (k:Int) (2 :: q) = (hsZ k).kd q:=rfl
 clear hM hq hs hfit hT
 go_enter Tryz.func42,Tryz.ntmps42
 go_wp2_with fail
 refine Calls.mono (xa6l k qv q w hk (uh HQ) hql) ?_
 rintro e w1 ⟨rfl,k1⟩
 rw [hDe]
 obtain ⟨D,hD⟩:∃ D,(hsZ k).kd q = D:=⟨_,rfl⟩
 rw [hD] at hDg ⊢
 have HD:=hide hD
 have hDl:=hDg.1
 have HZ1:=hide (heap_alloc_new w1 (.cells (zb 32) 64))
 have HX0:=hide (setRow_heap _ _ _ (brow D) _ _ (uh HZ1))
 have HK12:=hide ((Kept.refl [] w1).alloc (.cells (zb 32) 64) |>.setRow (g:=w1.heap.size) (Or.inr (Nat.le_refl _)) (brow D))
 obtain ⟨W0,hW0⟩:∃ W0,(w1.alloc (.cells (zb 32) 64)).setRow w1.heap.size (brow D) = W0:=⟨_,rfl⟩
 rw [hW0] at HX0 HK12
 have HKW:=hide (k1.trans (uh HK12) (by simp))
 have HM0:=hide ((uh HM).agr (Agr.nil (uh HKW)))
 have HS1:=hide (by rw [xa0a,hDl]; exact Tryz.size_dig:(Tryz.prog.info? 64).map (·.size) = some (brow D).size)
 clear k1 hD hDe
 go_wp2_with (rw [zb32]; refine wpList_store_row rfl 64 (.tmp 9) (.tmp 13) rfl w1.heap.size (brow D) rfl rfl _ (zb 32) (uh HZ1) (uh HS1) (by rw [xa0j,xa0a,hDl]) (xa0g _) ?_; rw [hW0]; simp only [Act.put])
 go_loopw [1,8,10] (fun t1 t8 t10 wr=>∃ (i:Nat) (iv v:Value) (sl:List (Nat × Value)),t10 = .int .i64 i∧t1 = iv∧t8 = v∧i≤64∧Hid (IAt (tS T v) k wr iv (dnL (hsZ k) q L i))∧Hid (SLay W0.heap.size wr v sl ((List.range i).map (stp k q L)))∧Hid (∀ j,j < i→sgl (hsZ k) (dnL (hsZ k) q L j) = false)∧Hid (Kept [] W0 wr)) (fun _ _ t _=>64 - (intOf t).toNat)
 case atStart=>exact ⟨0,mv,_,[],rfl,rfl,rfl,Nat.zero_le _,hide ((uh HM0).mono (fun x hx=>⟨hx,by simp [Value.ownBlock]⟩)),hide (SLay.nil _ _),hide (fun j hj=>by omega),hide (Kept.refl _ _)⟩
 case round =>
  clear HM0
  obtain ⟨i,iv,v,sl,rfl,rfl,rfl,hi,HI,HSL,HNS,HKr⟩:=hrel
  have hln:=dn_len (H:=hsZ k) (q:=q) (L:=L) i
  have HLN:=hide (show (dnL (hsZ k) q L i).length≤1000000000 by omega)
  have HSr:=hide (dn_srt (H:=hsZ k) (q:=q) (uh HS) i)
  have HFr:=hide (show Fit (dnL (hsZ k) q L i) from (uh HFI).sub (fun x hx=>dn_sub i x hx))
  have HOn:=hide (dn_on (H:=hsZ k) (q:=q) (L:=L) i).pre
  clear hln
  go_wp2_with fail
  refine Calls.mono (xa4d _ k _ _ wr hk (uh HI) (uh HSr) (uh HLN)) ?_
  rintro e w3 ⟨rfl,k3⟩
  have HK3:=hide ((uh HKr).trans k3 (by simp))
  have HI3:=hide ((uh HI).agr (Agr.nil k3))
  have HSL3:=hide ((uh HSL).agr k3)
  clear k3
  cases hsg:sgl (hsZ k) (dnL (hsZ k) q L i) with
  | true =>
   have HSG:=hide hsg
   clear hsg
   go_wp2_with fail
   refine Calls.mono (xa2v _ k _ _ w3 (uh HI3) (uh HLN)) ?_
   rintro e w4 ⟨v4,rfl,r4,k4⟩
   have HR4:=hide r4
   have HK4:=hide ((uh HK3).trans k4 (by simp))
   have HRS:=hide ((uh HSL3).rdS.old k4)
   clear r4 k4
   go_wp2_with fail
   go_ret2
   first
   | exact ⟨_,_,rfl,⟨i,uh HRS,uh HR4,uh HNS,uh HSG⟩,(uh HKW).trans (uh HK4) (by simp)⟩
  | false =>
   have hne:dnL (hsZ k) q L i≠[]:=fun e=>by rw [e,xa9b] at hsg; cases hsg
   have hdp:=deep hH (uh HOn) hsg
   have hwd:(hsZ k).wd = k:=rfl
   have hi63:i≤63:=by omega
   have HNS2:=hide (show ∀ j,j < i + 1→sgl (hsZ k) (dnL (hsZ k) q L j) = false from fun j hj=>by
    rcases Nat.lt_or_ge j i with h | h
    ·exact uh HNS j h
    ·rw [show j = i by omega]; exact hsg)
   have h63:63 - (63 - i) = i:=by omega
   have HST:=hide (xa9j k (63 - i) (by omega) (xa5i k hk (63 - i) (by omega)) _ _ _ w3 (uh HI3) hne (uh HSr) (uh HFr) (uh HLN) (by rw [h63]; exact uh HOn))
   rw [h63] at HST
   have HSTP:=hide (show stp k q L i = (bm (hsZ k) i (dnL (hsZ k) q L i),(kidsL (hsZ k) i (dnL (hsZ k) q L i)).map (nodP (hsZ k) (63 - i))) from rfl)
   have hbl:=bm_lt (hsZ k) i (dnL (hsZ k) q L i)
   generalize bm (hsZ k) i (dnL (hsZ k) q L i) = BM at HST HSTP hbl
   generalize (kidsL (hsZ k) i (dnL (hsZ k) q L i)).map (nodP (hsZ k) (63 - i)) = KS at HST HSTP
   have HNE:=hide hne
   clear hne hdp hwd hsg h63
   have HCH:=hide (fun (T:Nat→Prop) (u:Value) (W:World) (hI:IAt T k W u (dnL (hsZ k) q L i)) (hT:∀ y,W.heap.size≤y→T y)=>xa5z T k i (dgt D i) u (dnL (hsZ k) q L i) W hI (by omega) (dgt_lt hDg.2 i) (uh HLN) hT)
   have hdn:ch (hsZ k) i (dgt D i) (dnL (hsZ k) q L i) = dnL (hsZ k) q L (i + 1):=by rw [← uh HD]; rfl
   rw [hdn] at HCH
   clear hdn
   go_wp2_with fail
   refine Calls.mono (uh HST) ?_
   clear HST
   rintro e w4 ⟨v2,rfl,r2,n2,k4⟩
   obtain ⟨p1,p2,p3,rfl,_⟩:=id r2
   have HK4:=hide ((uh HK3).trans k4 (by simp))
   have HI4:=hide ((uh HI3).agr (Agr.nil k4))
   have HSL4:=hide ((uh HSL3).agr k4)
   obtain ⟨vo,vc,rfl⟩:=xa0l (uh HSL4).own
   have HOWN:=hide (fun z hz=>(uh HSL3).own.lt z hz)
   have hka:=(Kept.refl [] w4).alloc (.cells #[.int .u16 (BM:Nat),.slice p1 p2 p3] 72)
   have HKA:=hide hka
   have HSL5:=hide ((uh HSL4).agr hka)
   have HK5:=hide ((uh HK4).trans hka (by simp))
   have HSTY:=hide (show Sty (tB W0.heap.size (.slice vo sl.length vc)) (w4.alloc (.cells #[.int .u16 (BM:Nat),.slice p1 p2 p3] 72)) (fun w=>RdD w (.slice p1 p2 p3) KS) from Sty.rdD (r2.old hka) (fun y hy=>⟨by have:=n2 y hy; have:=(uh HK3).size; omega,fun e=>by have h1:=(uh HOWN y e).2; have h2:=n2 y hy; omega⟩))
   have HRL:=hide (show RdC 2 (w4.alloc (.cells #[.int .u16 (BM:Nat),.slice p1 p2 p3] 72)) (.slice (some ⟨w4.heap.size,0,none⟩) 1 1) (stR [(BM,.slice p1 p2 p3)]) from ⟨_,1,1,rfl,rfl,Nat.le_refl _,by omega,fun _=>⟨w4.heap.size,0,rfl,fun j hj=>by
     have h0:j = 0:=by simp [stR] at hj; omega
     subst h0
     exact xa0o [] [.int .u16 (BM:Nat),.slice p1 p2 p3] [] (heap_alloc_new w4 _) rfl⟩⟩)
   have hsll:=(uh HSL).len
   rw [List.length_map,List.length_range] at hsll
   have hbnd:sl.length + 1≤100:=by omega
   have hown:∀ z,(Value.slice vo sl.length vc).ownBlock = some z→W0.heap.size≤z:=fun z hz=>(uh HOWN z hz).1
   clear r2 n2 k4 hka hsll
   go_upto_region 7 with (first
    | (refine xb0e rfl (.tmp 23) rfl (BM:Nat) (.slice p1 p2 p3) rfl ?_)
    | (at_builtin; refine xa0e rfl 60 72 (.tmp 19) (.tmp 24) rfl rfl _ W0.heap.size (.agg #[.int .u16 0,.slice none 0 0]) 2 32 Tryz.underlying60 Tryz.infoSt rfl (by decide) (.slice vo sl.length vc) sl.length (stR sl).flatten (uh HSL5).own (some ⟨w4.heap.size,0,none⟩) 1 1 (stR [(BM,.slice p1 p2 p3)]) (uh HRL) (by intro r hr; simp [stR] at hr; rw [hr]; rfl) (xc0e rfl) (by omega) (by omega) (uh HK5).size rfl rfl ?_; intro ao7 c7 w7 HO7 HG7 HA7))
   have HS7:=hide ((uh HSL5).snoc hbl (uh HSTY) (uh HO7) (uh HG7) (uh HA7))
   have HK7:=hide ((uh HK5).grown (uh HG7) (fun z hz=>Or.inr (hown z hz)))
   have HX7:=hide ((uh HK7).heap (uh HX0) (by simp))
   have HI7:=hide (xb4i (((uh HI4).agr (Agr.nil (uh HKA)))) (uh HNE) (uh HG7) (uh HA7))
   have HT7:=hide (show ∀ y,w7.heap.size≤y→tS T (.slice ao7 (sl.length + 1) c7) y from fun y hy=>⟨uh HT y (by have:=(uh HK7).size; have:=(uh HKW).size; omega),fun e=>by have:=((uh HO7).lt y e).2; omega⟩)
   clear hown hbnd HO7 HG7 HA7 HSL5 HK5 HSTY HRL HSL4 HI4
   go_wp2_with (refine wpList_load_row rfl 64 (.tmp 9) rfl w1.heap.size rfl 64 (brow D) (0,0) _ (uh HX7) Tryz.underlying64 rfl (uh HS1) ?_)
   refine Calls.mono (xa6k D i w7 hDg (by omega)) ?_
   rintro e w8 ⟨rfl,k8⟩
   have HI8:=hide ((uh HI7).agr (Agr.nil k8))
   have HS8:=hide ((uh HS7).agr k8)
   have HK8:=hide ((uh HK7).trans k8 (by simp))
   have HT8:=hide (show ∀ y,w8.heap.size≤y→tS T (.slice ao7 (sl.length + 1) c7) y from fun y hy=>uh HT7 y (by have:=k8.size; omega))
   clear k8
   go_wp2_with fail
   refine Calls.mono (uh HCH _ _ w8 (uh HI8) (uh HT8)) ?_
   rintro e w9 ⟨v9,rfl,hi9,k9⟩
   have HI9:=hide hi9
   have HS9:=hide ((uh HS8).agr k9)
   have HK9:=hide ((uh HK8).trans k9 (by simp))
   clear hi9 k9 HCH
   go_wp2_with fail
   refine ⟨⟨i + 1,v9,.slice ao7 (sl.length + 1) c7,_,by go_num,rfl,rfl,by omega,HI9,hide (by rw [List.range_succ,List.map_append,List.map_cons,List.map_nil,uh HSTP]; exact uh HS9),HNS2,HK9⟩,?_⟩
   simp [intOf]; omega
theorem xb1h {w w1:World} {row:Option Nat} {b:Nat} {o:Obj} (h:w.grownBy w1 row) (hb:w.heap[b]? = some o) (hn:row≠some b):w1.heap[b]? = some o:=by
 have k:=(Kept.refl row.toList w).grown h (by intro x hx; left; simp [hx])
 exact k.heap hb (by intro hm; exact hn (by simpa using hm))
theorem xb6w {H:Hs} {q v:List Nat} {s:Bool × Prs} {y:List Nat × List Nat}:putS H q v s y = (s.1 || decide (kc H q y.1≤0),(if s.1 = false∧kc H q y.1≤0 then s.2++[(q,v)] else s.2)++(if kc H q y.1 = 0 then [] else [y])):=rfl
set_option maxHeartbeats 8000000 in
theorem xa6x (T:Nat→Prop) (k:Nat) (mv qv uv:Value) (q u:List Nat) (L:Prs) (w:World) (hk:1≤k∧k≤32) (hM:IAt T k w mv L) (hs:Srt (hsZ k) L) (hq:Rd w qv q) (hu:Rd w uv u) (hql:q.length≤140737488351232) (hl:L.length≤1000000000) (hT:∀ y,w.heap.size≤y→T y) :
  Calls Tryz.prog 39 #[.int .i64 k,mv,qv,uv] w fun e w'=>∃ v',e = .returned v'∧IAt T k w' v' (insP (hsZ k) q u L)∧Kept [] w w':=by
 have HM:=hide hM
 obtain ⟨ao,c,l,rfl,hc1,hc2,hll,hpr,hcell⟩:=hM.parts
 have HCE:=hide hcell
 have HPR:=hide hpr
 obtain ⟨n,hn⟩:∃ n,L.length = n:=⟨_,rfl⟩
 have HN:=hide hn
 rw [hn] at hc1 hl hll HCE ⊢
 have HSR:=hide (xb7p (hsZ k) q u L hs)
 rw [hn] at HSR
 obtain ⟨R,hR⟩:∃ R,insP (hsZ k) q u L = R:=⟨_,rfl⟩
 rw [hR] at HSR ⊢
 have HQ:=hide hq
 have HU:=hide hu
 clear hM hcell hpr hn hq hu hs hR
 go_enter Tryz.func39,Tryz.ntmps39
 go_wp2_with fail
 refine Calls.mono (xb7j k qv uv q u w hk (uh HQ) (uh HU) hql) ?_
 rintro e w1 ⟨kz,vz,rfl,hkv,hnew,k1⟩
 obtain ⟨z1,z2,z3,rfl,_⟩:=id hkv.1
 obtain ⟨y1,y2,y3,rfl,_⟩:=id hkv.2
 obtain ⟨D0,hD0⟩:∃ D0,(hsZ k).kd q = D0:=⟨_,rfl⟩
 have hD0l:D0.length = 32:=by rw [← hD0]; exact xa0c _ _
 rw [hD0]
 have HD0:=hide hD0
 have HZ1:=hide (heap_alloc_new w1 (.cells zit 120))
 have HX0:=hide (setRow_heap _ _ _ (itC D0 (.slice z1 z2 z3) (.slice y1 y2 y3)).toArray _ _ (uh HZ1))
 have HK12:=hide ((Kept.refl [] w1).alloc (.cells zit 120) |>.setRow (g:=w1.heap.size) (Or.inr (Nat.le_refl _)) (itC D0 (.slice z1 z2 z3) (.slice y1 y2 y3)).toArray)
 obtain ⟨W0,hW0⟩:∃ W0,(w1.alloc (.cells zit 120)).setRow w1.heap.size (itC D0 (.slice z1 z2 z3) (.slice y1 y2 y3)).toArray = W0:=⟨_,rfl⟩
 rw [hW0] at HX0 HK12
 have HKW:=hide (k1.trans (uh HK12) (by simp))
 have HT0:=hide (show ∀ y,W0.heap.size≤y→T y from fun y hy=>hT y (by have:=(uh HKW).size; omega))
 have HSTQ:=hide (show Sty T W0 (fun w=>Rd w (.slice z1 z2 z3) q∧Rd w (.slice y1 y2 y3) u) from fun w' a=>⟨Sty.rd (hkv.1.old (uh HK12) (by simp)) (fun x hx=>hT x (hnew x (Or.inl hx))) w' a,Sty.rd (hkv.2.old (uh HK12) (by simp)) (fun x hx=>hT x (hnew x (Or.inr hx))) w' a⟩)
 have hM0:=(uh HM).agr (Agr.nil (uh HKW))
 have HPR:=hide ((uh HPR).agr (Agr.nil (uh HKW)))
 have HCE:=hide (fun h0:0 < n=>by
  obtain ⟨b,off,e,hTb,hcl⟩:=uh HCE h0
  exact (⟨b,off,e,hTb,fun i hi u z hz=>(uh HKW).cell (hcl i hi u z hz) (by simp)⟩:∃ b off,ao = some ⟨b,off,none⟩∧T b∧∀ i,i < n→W0.rangeAt b (off + i * 34) (itC ((hsZ k).kd (L.getD i ([],[])).1) (l.getD i (undef,undef)).1 (l.getD i (undef,undef)).2)))
 clear hM0 hkv hnew k1 hD0 HM
 go_wp2_with (rw [lit_it]; refine wpList_store_row rfl 120 (.tmp 9) (.tmp 18) rfl w1.heap.size (itC D0 (.slice z1 z2 z3) (.slice y1 y2 y3)).toArray rfl rfl _ zit (uh HZ1) (by rw [xa0s hD0l]; exact Tryz.size_it) (by rw [xa0s hD0l]; rfl) (xa4h rfl rfl) ?_; rw [hW0]; simp only [Act.put])
 go_loopw [10,11,21] (fun t10 t11 t21 wr=>∃ (j:Nat) (v:Value) (lx:List VP) (sb:Bool) (sl:Prs),t21 = .int .i64 j∧t10 = v∧t11 = .bool sb∧j≤n∧Hid (putI (hsZ k) q u L j = (sb,sl))∧Hid (ILay T W0.heap.size k wr v lx sl)∧Hid (Kept [] W0 wr)) (fun _ _ t _=>n - (intOf t).toNat)
 case atStart=>exact ⟨0,.slice none 0 0,[],false,[],rfl,rfl,rfl,Nat.zero_le _,hide rfl,hide (ILay.nil _ _ _ _),hide (Kept.refl _ _)⟩
 case round =>
  obtain ⟨j,v,lx,sb,sl,rfl,rfl,rfl,hj,HPI,HLx,HKr⟩:=hrel
  have HBND:=hide (show lx.length≤2000000000 by
   have h1:=xb1v (hsZ k) q u L j (by have:=uh HN; omega)
   rw [uh HPI] at h1
   have h2:=(uh HLx).pr.1
   have h3:sl.length≤2 * j:=h1
   omega)
  have HX:=hide ((uh HKr).heap (uh HX0) (by simp))
  by_cases hlt:j < n
  ·have hlt':(j:Int) < n:=by omega
   have HPS:=hide (show putI (hsZ k) q u L (j + 1) = putS (hsZ k) q u (sb,sl) (L.getD j ([],[])) by rw [← uh HPI]; exact xa8y (hsZ k) q u L j (by have:=uh HN; omega))
   obtain ⟨b,off,rfl,hTb,hcl⟩:=uh HCE (by omega)
   have hRG:=hcl j hlt
   have hone:=(uh HPR).one' j (by omega)
   have hrd:=(uh HPR).2 j (by omega)
   generalize (l.getD j (undef,undef)).1 = kx at hRG hone hrd
   generalize (l.getD j (undef,undef)).2 = vx at hRG hone hrd
   have HSNOC:=hide (show L.take (j + 1) = L.take j++[L.getD j ([],[])] by
    have hjL:j < L.length:=by have:=uh HN; omega
    rw [List.take_succ_eq_append_getElem hjL,List.getD_eq_getElem?_getD,List.getElem?_eq_getElem hjL]; rfl)
   generalize L.getD j ([],[]) = ej at hRG hrd HSNOC HPS
   obtain ⟨ka,va⟩:=ej
   have hDg:Dg ((hsZ k).kd ka):=xa2c _ _
   obtain ⟨D,hD⟩:∃ D,(hsZ k).kd ka = D:=⟨_,rfl⟩
   simp only [hD] at hRG
   rw [hD] at hDg
   have HD:=hide hD
   have HSTY:=hide hrd
   have HRG:=hide (show wr.rangeAt b (off + j * 34) (itC D kx vx) from fun u z hz=>(uh HKr).cell (hRG u z hz) (by simp))
   have HZ1:=hide (heap_alloc_new wr (.cells zit 120))
   have HN2:=hide (setRow_heap _ _ _ (itC D kx vx).toArray _ _ (uh HZ1))
   have HK12:=hide ((Kept.refl [] wr).alloc (.cells zit 120) |>.setRow (g:=wr.heap.size) (Or.inr (Nat.le_refl _)) (itC D kx vx).toArray)
   obtain ⟨W2,hW2⟩:∃ W2,(wr.alloc (.cells zit 120)).setRow wr.heap.size (itC D kx vx).toArray = W2:=⟨_,rfl⟩
   rw [hW2] at HN2 HK12
   have HK2:=hide ((uh HKr).trans (uh HK12) (by simp))
   have hwsz:W0.heap.size≤wr.heap.size:=by have:=(uh HKr).size; omega
   obtain ⟨rD2,cK2,cV2⟩:=it_row (uh HN2) hDg.1
   have HRD2:=hide rD2
   have HCK2:=hide cK2
   have HCV2:=hide cV2
   have HPA2:=hide (xa6a (uh HN2) hDg.1)
   obtain ⟨kx1,kx2,kx3,rfl,_⟩:=hrd.now.1
   obtain ⟨vx1,vx2,vx3,rfl,_⟩:=hrd.now.2
   clear hrd hRG hcl rD2 hD hDg hone
   have HX2:=hide ((uh HK12).heap (uh HX) (by simp))
   go_wp2_with (first
    | (refine wpList_load_row rfl 120 (.tmp 9) rfl w1.heap.size rfl 120 (itC D0 (.slice z1 z2 z3) (.slice y1 y2 y3)).toArray (0,0) _ (uh HX2) Tryz.underlying120 rfl (by rw [xa0s hD0l]; exact Tryz.size_it) ?_)
    | (refine wpList_load_row rfl 120 (.tmp 13) rfl wr.heap.size rfl 120 (itC D (.slice kx1 kx2 kx3) (.slice vx1 vx2 vx3)).toArray (0,0) _ (uh HN2) Tryz.underlying120 rfl (by rw [xa0s (by rw [← uh HD]; exact xa0c _ _)]; exact Tryz.size_it) ?_)
    | (first
   | (refine wpList_load_mid rfl 120 (.tmp 23) rfl b (off + j * 34) rfl (itC D (.slice kx1 kx2 kx3) (.slice vx1 vx2 vx3)) _ (uh HRG) Tryz.underlying120 rfl (by rw [xa1l (by rw [← uh HD]; exact xa0c _ _)]; exact Tryz.size_it) ?_)
   | (rw [lit_it]; refine wpList_store_row rfl 120 (.tmp 13) (.tmp 24) rfl wr.heap.size (itC D (.slice kx1 kx2 kx3) (.slice vx1 vx2 vx3)).toArray rfl rfl _ zit (uh HZ1) (by rw [xa0s (by rw [← uh HD]; exact xa0c _ _)]; exact Tryz.size_it) (by rw [xa0s (by rw [← uh HD]; exact xa0c _ _)]; rfl) (xa4h rfl rfl) ?_; rw [hW2]; simp only [Act.put])))
   have hoc:=xb1t k (.slice z1 z2 z3) (.slice y1 y2 y3) (.slice kx1 kx2 kx3) (.slice vx1 vx2 vx3) q ka u va W2 (uh HSTQ W2 (Agr.nil (uh HK2))).1 (uh HSTY W2 (Agr.nil (uh HK2))).1 (uh HSTQ W2 (Agr.nil (uh HK2))).2 (uh HSTY W2 (Agr.nil (uh HK2))).2
   rw [uh HD,uh HD0] at hoc
   refine Calls.mono hoc ?_
   clear hoc
   rintro e w4 ⟨rfl,k4⟩
   have HN4:=hide (k4.heap (uh HN2) (by simp))
   have HX4:=hide (k4.heap (uh HX2) (by simp))
   have HK4:=hide ((uh HK2).trans k4 (by simp))
   have HL4:=hide (((uh HLx).agr (uh HK12)).agr k4)
   have hsg:=xb8k (hsZ k) q ka
   rw [xb6w] at HPS
   generalize ordI (hsZ k) q ka = z at hsg ⊢
   have hle:kc (hsZ k) q ka≤0↔z≤0:=by
    constructor
    ·intro h
     rcases Int.lt_or_eq_of_le h with g | g
     ·have:=hsg.1.2 g; omega
     ·have:=hsg.2.2 g; omega
    ·intro h
     rcases Int.lt_or_eq_of_le h with g | g
     ·have:=hsg.1.1 g; omega
     ·have:=hsg.2.1 g; omega
   have heq:kc (hsZ k) q ka = 0↔z = 0:=hsg.2.symm
   have HLE:=hide hle
   have HEQ:=hide heq
   clear k4 hsg hle heq
   cases sb with
   | true =>
    by_cases hz0:z = 0
    ·have HC:=hide ((uh HEQ).2 hz0)
     subst hz0
     go_wp2_with fail
     refine ⟨⟨j + 1,_,lx,true,sl,by go_num,rfl,rfl,hlt,hide (by rw [uh HPS]; simp [uh HC]),HL4,HK4⟩,?_⟩
     simp [intOf]; omega
    ·have HC:=hide (show ¬ kc (hsZ k) q ka = 0 from fun h=>hz0 ((uh HEQ).1 h))
     have hz2:((z != 0):Bool) = true:=by rw [bne_iff_ne]; exact hz0
     obtain ⟨vo,vc,rfl⟩:=xa0l (uh HL4).own
     have hown:∀ z,(Value.slice vo lx.length vc).ownBlock = some z→W0.heap.size≤z:=fun z hz=>((uh HL4).own.lt z hz).1
     have HW5:=hide (heap_alloc_new w4 (.cells (itC D (.slice kx1 kx2 kx3) (.slice vx1 vx2 vx3)).toArray 120))
     have HK45:=hide ((Kept.refl [] w4).alloc (.cells (itC D (.slice kx1 kx2 kx3) (.slice vx1 vx2 vx3)).toArray 120))
     have HL5:=hide ((uh HL4).agr (uh HK45))
     have HK5:=hide ((uh HK4).trans (uh HK45) (by simp))
     have HRL:=hide (lit_rd (k:=k) (q:=ka) (v:=va) (kv:=(.slice kx1 kx2 kx3)) (vv:=(.slice vx1 vx2 vx3)) (by rw [uh HD]; exact uh HW5))
     have hln:=(uh HL4).pr.1
     have hbnd:=uh HBND
     clear hln hz0
     go_wp2_with (first
   | (refine wpList_load_row rfl 120 (.tmp 13) rfl wr.heap.size rfl 120 (itC D (.slice kx1 kx2 kx3) (.slice vx1 vx2 vx3)).toArray (0,0) _ (uh HN4) Tryz.underlying120 rfl (by rw [xa0s (by rw [← uh HD]; exact xa0c _ _)]; exact Tryz.size_it) ?_)
   | (refine xa0z rfl (.tmp 41) rfl (itC D (.slice kx1 kx2 kx3) (.slice vx1 vx2 vx3)) (xa1l (by rw [← uh HD]; exact xa0c _ _) _ _) rfl ?_)
   | (at_builtin; refine xa0e rfl 35 120 (.tmp 40) (.tmp 42) rfl rfl _ W0.heap.size (.agg zit) 34 80 Tryz.underlying35 Tryz.infoIt rfl (by decide) (.slice vo lx.length vc) lx.length (itR k lx (sl)).flatten (uh HL5).own (some ⟨w4.heap.size,0,none⟩) 1 1 (itR k [((.slice kx1 kx2 kx3),(.slice vx1 vx2 vx3))] [(ka,va)]) (uh HRL) xa1y (xa3t rfl rfl) (by omega) (by omega) (uh HK5).size rfl rfl ?_; intro ao7 c7 w7 HO7 HG7 HA7))
     have HS7:=hide ((uh HL5).snoc (a:=ka) (b:=va) (sty_up (uh HSTY) (uh HK5) hown) (uh HO7) (uh HG7) (uh HA7))
     have HK7:=hide ((uh HK5).grown (uh HG7) (fun z hz=>Or.inr (hown z hz)))
     clear hown hbnd
     refine ⟨⟨j + 1,.slice ao7 (lx.length + 1) c7,_,true,sl++[(ka,va)],by go_num,rfl,rfl,hlt,hide (by rw [uh HPS]; simp [uh HC]),HS7,HK7⟩,?_⟩
     simp [intOf]; omega
   | false =>
    by_cases hz0:z = 0
    ·have HC:=hide ((uh HEQ).2 hz0)
     subst hz0
     obtain ⟨vo,vc,rfl⟩:=xa0l (uh HL4).own
     have hown:∀ z,(Value.slice vo lx.length vc).ownBlock = some z→W0.heap.size≤z:=fun z hz=>((uh HL4).own.lt z hz).1
     have HW5:=hide (heap_alloc_new w4 (.cells (itC D0 (.slice z1 z2 z3) (.slice y1 y2 y3)).toArray 120))
     have HK45:=hide ((Kept.refl [] w4).alloc (.cells (itC D0 (.slice z1 z2 z3) (.slice y1 y2 y3)).toArray 120))
     have HL5:=hide ((uh HL4).agr (uh HK45))
     have HK5:=hide ((uh HK4).trans (uh HK45) (by simp))
     have HRL:=hide (lit_rd (k:=k) (q:=q) (v:=u) (kv:=(.slice z1 z2 z3)) (vv:=(.slice y1 y2 y3)) (by rw [uh HD0]; exact uh HW5))
     have hln:=(uh HL4).pr.1
     have hbnd:=uh HBND
     clear hln
     go_wp2_with (first
   | (refine wpList_load_row rfl 120 (.tmp 9) rfl w1.heap.size rfl 120 (itC D0 (.slice z1 z2 z3) (.slice y1 y2 y3)).toArray (0,0) _ (uh HX4) Tryz.underlying120 rfl (by rw [xa0s (by rw [← uh HD0]; exact xa0c _ _)]; exact Tryz.size_it) ?_)
   | (refine xa0z rfl (.tmp 35) rfl (itC D0 (.slice z1 z2 z3) (.slice y1 y2 y3)) (xa1l (by rw [← uh HD0]; exact xa0c _ _) _ _) rfl ?_)
   | (at_builtin; refine xa0e rfl 35 120 (.tmp 34) (.tmp 36) rfl rfl _ W0.heap.size (.agg zit) 34 80 Tryz.underlying35 Tryz.infoIt rfl (by decide) (.slice vo lx.length vc) lx.length (itR k lx (sl)).flatten (uh HL5).own (some ⟨w4.heap.size,0,none⟩) 1 1 (itR k [((.slice z1 z2 z3),(.slice y1 y2 y3))] [(q,u)]) (uh HRL) xa1y (xa3t rfl rfl) (by omega) (by omega) (uh HK5).size rfl rfl ?_; intro ao7 c7 w7 HO7 HG7 HA7))
     have HS7:=hide ((uh HL5).snoc (a:=q) (b:=u) (sty_up (uh HSTQ) (uh HK5) hown) (uh HO7) (uh HG7) (uh HA7))
     have HK7:=hide ((uh HK5).grown (uh HG7) (fun z hz=>Or.inr (hown z hz)))
     clear hown hbnd
     refine ⟨⟨j + 1,.slice ao7 (lx.length + 1) c7,_,true,sl++[(q,u)],by go_num,rfl,rfl,hlt,hide (by rw [uh HPS]; simp [uh HC]),HS7,HK7⟩,?_⟩
     simp [intOf]; omega
    ·have HC:=hide (show ¬ kc (hsZ k) q ka = 0 from fun h=>hz0 ((uh HEQ).1 h))
     have hz2:((z != 0):Bool) = true:=by rw [bne_iff_ne]; exact hz0
     by_cases hz1:z≤0
     ·have HC2:=hide ((uh HLE).2 hz1)
      obtain ⟨vo,vc,rfl⟩:=xa0l (uh HL4).own
      have hown:∀ z,(Value.slice vo lx.length vc).ownBlock = some z→W0.heap.size≤z:=fun z hz=>((uh HL4).own.lt z hz).1
      have HW5:=hide (heap_alloc_new w4 (.cells (itC D0 (.slice z1 z2 z3) (.slice y1 y2 y3)).toArray 120))
      have HK45:=hide ((Kept.refl [] w4).alloc (.cells (itC D0 (.slice z1 z2 z3) (.slice y1 y2 y3)).toArray 120))
      have HL5:=hide ((uh HL4).agr (uh HK45))
      have HK5:=hide ((uh HK4).trans (uh HK45) (by simp))
      have HRL:=hide (lit_rd (k:=k) (q:=q) (v:=u) (kv:=(.slice z1 z2 z3)) (vv:=(.slice y1 y2 y3)) (by rw [uh HD0]; exact uh HW5))
      have hln:=(uh HL4).pr.1
      have hbnd:=uh HBND
      have HLT:=hide (fun z hz=>((uh HLx).own.lt z hz).2)
      clear hln hz0
      go_upto_region 12 with (first
   | (refine wpList_load_row rfl 120 (.tmp 9) rfl w1.heap.size rfl 120 (itC D0 (.slice z1 z2 z3) (.slice y1 y2 y3)).toArray (0,0) _ (uh HX4) Tryz.underlying120 rfl (by rw [xa0s (by rw [← uh HD0]; exact xa0c _ _)]; exact Tryz.size_it) ?_)
   | (refine xa0z rfl (.tmp 35) rfl (itC D0 (.slice z1 z2 z3) (.slice y1 y2 y3)) (xa1l (by rw [← uh HD0]; exact xa0c _ _) _ _) rfl ?_)
   | (at_builtin; refine xa0e rfl 35 120 (.tmp 34) (.tmp 36) rfl rfl _ W0.heap.size (.agg zit) 34 80 Tryz.underlying35 Tryz.infoIt rfl (by decide) (.slice vo lx.length vc) lx.length (itR k lx (sl)).flatten (uh HL5).own (some ⟨w4.heap.size,0,none⟩) 1 1 (itR k [((.slice z1 z2 z3),(.slice y1 y2 y3))] [(q,u)]) (uh HRL) xa1y (xa3t rfl rfl) (by omega) (by omega) (uh HK5).size rfl rfl ?_; intro ao7 c7 w7 HO7 HG7 HA7))
      have HS7:=hide ((uh HL5).snoc (a:=q) (b:=u) (sty_up (uh HSTQ) (uh HK5) hown) (uh HO7) (uh HG7) (uh HA7))
      have HK7:=hide ((uh HK5).grown (uh HG7) (fun z hz=>Or.inr (hown z hz)))
      have HN7:=hide (xb1h (uh HG7) ((uh HK45).heap (uh HN4) (by simp)) (fun e=>by have h1:=uh HLT _ e; omega))
      have hlen2:lx.length + 1 = (lx++[(((.slice z1 z2 z3):Value),((.slice y1 y2 y3):Value))]).length:=by simp
      rw [hlen2] at HS7 ⊢
      have HBN2:=hide (show (lx++[(((.slice z1 z2 z3):Value),((.slice y1 y2 y3):Value))]).length≤2000000001 by rw [← hlen2]; omega)
      clear hown hlen2 HLT hbnd HO7 HG7 HA7 HL5 HK5 HRL HW5 HK45
      generalize lx++[(((.slice z1 z2 z3):Value),((.slice y1 y2 y3):Value))] = lx2 at HS7 HBN2 ⊢
      have hown:∀ z,(Value.slice ao7 lx2.length c7).ownBlock = some z→W0.heap.size≤z:=fun z hz=>((uh HS7).own.lt z hz).1
      have HW5:=hide (heap_alloc_new w7 (.cells (itC D (.slice kx1 kx2 kx3) (.slice vx1 vx2 vx3)).toArray 120))
      have HK45:=hide ((Kept.refl [] w7).alloc (.cells (itC D (.slice kx1 kx2 kx3) (.slice vx1 vx2 vx3)).toArray 120))
      have HL5:=hide ((uh HS7).agr (uh HK45))
      have HK5:=hide ((uh HK7).trans (uh HK45) (by simp))
      have HRL:=hide (lit_rd (k:=k) (q:=ka) (v:=va) (kv:=(.slice kx1 kx2 kx3)) (vv:=(.slice vx1 vx2 vx3)) (by rw [uh HD]; exact uh HW5))
      have hln:=(uh HS7).pr.1
      have hbnd:=uh HBN2
      clear hln
      go_wp2_with (first
   | (refine wpList_load_row rfl 120 (.tmp 13) rfl wr.heap.size rfl 120 (itC D (.slice kx1 kx2 kx3) (.slice vx1 vx2 vx3)).toArray (0,0) _ (uh HN7) Tryz.underlying120 rfl (by rw [xa0s (by rw [← uh HD]; exact xa0c _ _)]; exact Tryz.size_it) ?_)
   | (refine xa0z rfl (.tmp 41) rfl (itC D (.slice kx1 kx2 kx3) (.slice vx1 vx2 vx3)) (xa1l (by rw [← uh HD]; exact xa0c _ _) _ _) rfl ?_)
   | (at_builtin; refine xa0e rfl 35 120 (.tmp 40) (.tmp 42) rfl rfl _ W0.heap.size (.agg zit) 34 80 Tryz.underlying35 Tryz.infoIt rfl (by decide) (.slice ao7 lx2.length c7) lx2.length (itR k lx2 (sl++[(q,u)])).flatten (uh HL5).own (some ⟨w7.heap.size,0,none⟩) 1 1 (itR k [((.slice kx1 kx2 kx3),(.slice vx1 vx2 vx3))] [(ka,va)]) (uh HRL) xa1y (xa3t rfl rfl) (by omega) (by omega) (uh HK5).size rfl rfl ?_; intro ao8 c8 w8 HO8 HG8 HA8))
      have HS8:=hide ((uh HL5).snoc (a:=ka) (b:=va) (sty_up (uh HSTY) (uh HK5) hown) (uh HO8) (uh HG8) (uh HA8))
      have HK8:=hide ((uh HK5).grown (uh HG8) (fun z hz=>Or.inr (hown z hz)))
      clear hown hbnd
      refine ⟨⟨j + 1,.slice ao8 (lx2.length + 1) c8,_,true,sl++[(q,u)]++[(ka,va)],by go_num,rfl,rfl,hlt,hide (by rw [uh HPS]; simp [uh HC,uh HC2]),HS8,HK8⟩,?_⟩
      simp [intOf]; omega
     ·have HC2:=hide (show ¬ kc (hsZ k) q ka≤0 from fun h=>hz1 ((uh HLE).1 h))
      obtain ⟨vo,vc,rfl⟩:=xa0l (uh HL4).own
      have hown:∀ z,(Value.slice vo lx.length vc).ownBlock = some z→W0.heap.size≤z:=fun z hz=>((uh HL4).own.lt z hz).1
      have HW5:=hide (heap_alloc_new w4 (.cells (itC D (.slice kx1 kx2 kx3) (.slice vx1 vx2 vx3)).toArray 120))
      have HK45:=hide ((Kept.refl [] w4).alloc (.cells (itC D (.slice kx1 kx2 kx3) (.slice vx1 vx2 vx3)).toArray 120))
      have HL5:=hide ((uh HL4).agr (uh HK45))
      have HK5:=hide ((uh HK4).trans (uh HK45) (by simp))
      have HRL:=hide (lit_rd (k:=k) (q:=ka) (v:=va) (kv:=(.slice kx1 kx2 kx3)) (vv:=(.slice vx1 vx2 vx3)) (by rw [uh HD]; exact uh HW5))
      have hln:=(uh HL4).pr.1
      have hbnd:=uh HBND
      clear hln hz0
      go_wp2_with (first
   | (refine wpList_load_row rfl 120 (.tmp 13) rfl wr.heap.size rfl 120 (itC D (.slice kx1 kx2 kx3) (.slice vx1 vx2 vx3)).toArray (0,0) _ (uh HN4) Tryz.underlying120 rfl (by rw [xa0s (by rw [← uh HD]; exact xa0c _ _)]; exact Tryz.size_it) ?_)
   | (refine xa0z rfl (.tmp 41) rfl (itC D (.slice kx1 kx2 kx3) (.slice vx1 vx2 vx3)) (xa1l (by rw [← uh HD]; exact xa0c _ _) _ _) rfl ?_)
   | (at_builtin; refine xa0e rfl 35 120 (.tmp 40) (.tmp 42) rfl rfl _ W0.heap.size (.agg zit) 34 80 Tryz.underlying35 Tryz.infoIt rfl (by decide) (.slice vo lx.length vc) lx.length (itR k lx (sl)).flatten (uh HL5).own (some ⟨w4.heap.size,0,none⟩) 1 1 (itR k [((.slice kx1 kx2 kx3),(.slice vx1 vx2 vx3))] [(ka,va)]) (uh HRL) xa1y (xa3t rfl rfl) (by omega) (by omega) (uh HK5).size rfl rfl ?_; intro ao7 c7 w7 HO7 HG7 HA7))
      have HS7:=hide ((uh HL5).snoc (a:=ka) (b:=va) (sty_up (uh HSTY) (uh HK5) hown) (uh HO7) (uh HG7) (uh HA7))
      have HK7:=hide ((uh HK5).grown (uh HG7) (fun z hz=>Or.inr (hown z hz)))
      clear hown hbnd
      refine ⟨⟨j + 1,.slice ao7 (lx.length + 1) c7,_,false,sl++[(ka,va)],by go_num,rfl,rfl,hlt,hide (by rw [uh HPS]; simp [uh HC,uh HC2]),HS7,HK7⟩,?_⟩
      simp [intOf]; omega
  ·have hje:j = n:=by omega
   subst hje
   have hlt':¬ (j:Int) < j:=by omega
   have HAL:=hide (show putF q u (sb,sl) = R by rw [← uh HPI]; exact uh HSR)
   cases sb with
   | true =>
    go_wp2
    go_ret
    have h9:=(uh HLx).at_ (uh HT0)
    have h8:sl = R:=uh HAL
    rw [h8] at h9
    exact ⟨_,rfl,h9,(uh HKW).trans (uh HKr) (by simp)⟩
   | false =>
    have HLw:=HLx
    have HKw:=HKr
    obtain ⟨vo,vc,rfl⟩:=xa0l (uh HLw).own
    have hown:∀ z,(Value.slice vo lx.length vc).ownBlock = some z→W0.heap.size≤z:=fun z hz=>((uh HLw).own.lt z hz).1
    have HW5:=hide (heap_alloc_new wr (.cells (itC D0 (.slice z1 z2 z3) (.slice y1 y2 y3)).toArray 120))
    have HK45:=hide ((Kept.refl [] wr).alloc (.cells (itC D0 (.slice z1 z2 z3) (.slice y1 y2 y3)).toArray 120))
    have HL5:=hide ((uh HLw).agr (uh HK45))
    have HK5:=hide ((uh HKw).trans (uh HK45) (by simp))
    have HRL:=hide (lit_rd (k:=k) (q:=q) (v:=u) (kv:=(.slice z1 z2 z3)) (vv:=(.slice y1 y2 y3)) (by rw [uh HD0]; exact uh HW5))
    have hln:=(uh HLw).pr.1
    have hbnd:lx.length≤2000000000:=uh HBND
    clear hln
    go_wp2_with (first
   | (refine wpList_load_row rfl 120 (.tmp 9) rfl w1.heap.size rfl 120 (itC D0 (.slice z1 z2 z3) (.slice y1 y2 y3)).toArray (0,0) _ (uh HX) Tryz.underlying120 rfl (by rw [xa0s (by rw [← uh HD0]; exact xa0c _ _)]; exact Tryz.size_it) ?_)
   | (refine xa0z rfl (.tmp 48) rfl (itC D0 (.slice z1 z2 z3) (.slice y1 y2 y3)) (xa1l (by rw [← uh HD0]; exact xa0c _ _) _ _) rfl ?_)
   | (at_builtin; refine xa0e rfl 35 120 (.tmp 47) (.tmp 49) rfl rfl _ W0.heap.size (.agg zit) 34 80 Tryz.underlying35 Tryz.infoIt rfl (by decide) (.slice vo lx.length vc) lx.length (itR k lx (sl)).flatten (uh HL5).own (some ⟨wr.heap.size,0,none⟩) 1 1 (itR k [((.slice z1 z2 z3),(.slice y1 y2 y3))] [(q,u)]) (uh HRL) xa1y (xa3t rfl rfl) (by omega) (by omega) (uh HK5).size rfl rfl ?_; intro ao7 c7 w7 HO7 HG7 HA7))
    have HS7:=hide ((uh HL5).snoc (a:=q) (b:=u) (sty_up (uh HSTQ) (uh HK5) hown) (uh HO7) (uh HG7) (uh HA7))
    have HK7:=hide ((uh HK5).grown (uh HG7) (fun z hz=>Or.inr (hown z hz)))
    go_ret
    have h9:=(uh HS7).at_ (uh HT0)
    have h8:sl++[(q,u)] = R:=uh HAL
    rw [h8] at h9
    exact ⟨_,rfl,h9,(uh HKW).trans (uh HK7) (by simp)⟩
end
theorem xb3d {H:Hs} {k v:List Nat} {L:Prs} (h:Srt H L) (q:List Nat):getP q (insP H k v L) = if q = k then some v else getP q L:=by
 by_cases e:q = k
 ·subst e
  rw [if_pos rfl,xa6s (h.ins q v)]
  exact (xa2m h _).2 (Or.inl rfl)
 ·rw [if_neg e]
  cases hg:getP q L with
  | none =>
   rw [xa2h] at hg ⊢
   intro y hy e2
   rcases (xa2m h y).1 hy with rfl | ⟨hm,_⟩
   ·exact e e2.symm
   ·exact hg y hm e2
  | some u =>
   rw [xa6s h] at hg
   rw [xa6s (h.ins k v)]
   exact (xa2m h _).2 (Or.inr ⟨hg,e⟩)
def insAll (H:Hs) (L:Prs) (ps:Prs):Prs:=ps.foldl (fun M p=>insP H p.1 p.2 M) L
theorem Srt.insAll {H:Hs}:∀ (ps:Prs) {L:Prs},Srt H L→Srt H (insAll H L ps)
 | [],_,h=>h
 | p :: ps,_,h=>Srt.insAll ps (h.ins p.1 p.2)
theorem xa9z (H:Hs) (L ps:Prs) (p:List Nat × List Nat):insAll H L (ps++[p]) = insP H p.1 p.2 (insAll H L ps):=by
 unfold insAll; rw [List.foldl_append]; rfl
theorem xa6n (H:Hs):Srt H []:=List.Pairwise.nil
def lv (q:List Nat):Prs→Option (List Nat)
 | []=>none
 | p :: ps=>(lv q ps).or (if p.1 = q then some p.2 else none)
section
open Go.RowKit Go.BigFrame
theorem ins_le (H:Hs) (q v:List Nat):∀ L:Prs,(insP H q v L).length≤L.length + 1
 | []=>by simp [insP]
 | y :: L=>by
  have ih:=ins_le H q v L
  rw [xa2l]
  split
  ·simp
  ·split
   ·simp
   ·simp only [List.length_cons]; omega
theorem xa9r (H:Hs):∀ (ps L:Prs),(insAll H L ps).length≤L.length + ps.length
 | [],L=>by simp [insAll]
 | p :: ps,L=>by
  have h1:=xa9r H ps (insP H p.1 p.2 L)
  have h2:=ins_le H p.1 p.2 L
  show (insAll H (insP H p.1 p.2 L) ps).length≤_
  rw [List.length_cons]; omega
theorem xb3v (H:Hs) (ps:Prs) (j:Nat) (hj:j < ps.length):insAll H [] (ps.take (j + 1)) = insP H (ps.getD j ([],[])).1 (ps.getD j ([],[])).2 (insAll H [] (ps.take j)):=by
 rw [List.take_succ_eq_append_getElem hj,xa9z,List.getD_eq_getElem?_getD,List.getElem?_eq_getElem hj]; rfl
set_option maxHeartbeats 4000000 in
theorem xb5a (T:Nat→Prop) (k:Nat) (pv:Value) (ps:Prs) (w:World) (hk:1≤k∧k≤32) (hP:RdK w pv ps) (hf:∀ p∈ps,p.1.length≤1000000000) (hl:ps.length≤1000000000) (hT:∀ y,w.heap.size≤y→T y) :
  Calls Tryz.prog 16 #[.int .i64 k,pv] w fun e w'=>∃ v',e = .returned v'∧IAt T k w' v' (insAll (hsZ k) [] ps)∧Kept [] w w':=by
 obtain ⟨ao,n,c,ks,vs,rfl,hn,hc1,hc2,hrd,hcell⟩:=hP
 have HN:=hide hn
 rw [hn] at hl
 have HRD:=hide hrd
 have HCE:=hide hcell
 have HF:=hide hf
 clear hn hrd hcell hf
 go_enter Tryz.func16,Tryz.ntmps16
 go_wp2
 go_loopw [5,10] (fun t5 t10 wr=>∃ (j:Nat) (v:Value),t10 = .int .i64 j∧t5 = v∧j≤n∧Hid (IAt T k wr v (insAll (hsZ k) [] (ps.take j)))∧Hid (Kept [] w wr)) (fun _ t _=>n - (intOf t).toNat)
 case atStart=>exact ⟨0,.slice none 0 0,rfl,rfl,Nat.zero_le _,hide (IAt.nil _ _ _),hide (Kept.refl _ _)⟩
 case round =>
  obtain ⟨j,v,rfl,rfl,hj,HIx,HKr⟩:=hrel
  by_cases hlt:j < n
  ·have hlt':(j:Int) < n:=by omega
   have hjL:j < ps.length:=by have:=uh HN; omega
   obtain ⟨b,off,rfl,hcl⟩:=uh HCE (by omega)
   obtain ⟨hx1,hx2⟩:=hcl j hlt
   obtain ⟨hr1,hr2⟩:=uh HRD j hlt
   have HTK:=hide (xb3v (hsZ k) ps j hjL)
   have hq:=uh HF (ps.getD j ([],[])) (by rw [List.getD_eq_getElem?_getD,List.getElem?_eq_getElem hjL]; exact List.getElem_mem hjL)
   generalize ks.getD j undef = kx at hx1 hr1
   generalize vs.getD j undef = vx at hx2 hr2
   generalize ps.getD j ([],[]) = ej at hr1 hr2 HTK hq
   obtain ⟨ka,va⟩:=ej
   have HR1:=hide hr1
   have HR2:=hide hr2
   obtain ⟨x1,x2,x3,rfl,_⟩:=id hr1
   obtain ⟨y1,y2,y3,rfl,_⟩:=id hr2
   have hm1:=(uh HKr).cell hx1 (by simp)
   have hm2:=(uh HKr).cell hx2 (by simp)
   have HRG:=hide (show wr.rangeAt b (off + j * 2) [.slice x1 x2 x3,.slice y1 y2 y3] from fun i u hi=>by
    match i,hi with
    | 0,hi=>rw [Nat.add_zero,hm1]; exact hi
    | 1,hi=>rw [hm2]; exact hi)
   have HP2:=hide (heap_alloc_new wr (.cells #[.slice x1 x2 x3,.slice y1 y2 y3] 46))
   have HK2:=hide ((Kept.refl [] wr).alloc (.cells #[.slice x1 x2 x3,.slice y1 y2 y3] 46))
   clear hx1 hx2 hr1 hr2 hm1 hm2 hcl
   go_upto_region 5 with (refine wpList_load_mid rfl 46 (.tmp 12) rfl b (off + j * 2) rfl [.slice x1 x2 x3,.slice y1 y2 y3] _ (uh HRG) Tryz.underlying46 rfl Tryz.size_pair ?_)
   try simp only [Act.put]
   generalize wr.alloc (.cells #[.slice x1 x2 x3,.slice y1 y2 y3] 46) = W2 at HP2 HK2 ⊢
   have hcp:=xa0o [] [.slice x1 x2 x3,.slice y1 y2 y3] [] (uh HP2) rfl
   have hQ1:=(show W2.cell? ⟨wr.heap.size,0,none⟩ = some (.slice x1 x2 x3) from hcp 0 _ rfl)
   have hQ2:=(show W2.cell? ⟨wr.heap.size,1,none⟩ = some (.slice y1 y2 y3) from hcp 1 _ rfl)
   have HK02:=hide ((uh HKr).trans (uh HK2) (by simp))
   have hlen:(insAll (hsZ k) [] (ps.take j)).length≤1000000000:=by
    have h1:=xa9r (hsZ k) (ps.take j) []
    rw [List.length_take] at h1; simp at h1; omega
   have HLN:=hide hlen
   clear hcp hlen
   go_wp2_with fail
   refine Calls.mono (xa6x T k _ _ _ ka va _ W2 hk ((uh HIx).agr (Agr.nil (uh HK2))) ((xa6n _).insAll _) ((uh HR1).old (uh HK02) (by simp)) ((uh HR2).old (uh HK02) (by simp)) (Nat.le_trans hq (by omega)) (uh HLN) (fun y hy=>hT y (by have:=(uh HK02).size; omega))) ?_
   rintro e w4 ⟨v4,rfl,hi4,k4⟩
   have HI4:=hide hi4
   have HK4:=hide ((uh HK02).trans k4 (by simp))
   clear hi4 k4 hQ1 hQ2
   go_wp2_with fail
   refine ⟨⟨j + 1,v4,by go_num,rfl,hlt,hide (by rw [uh HTK]; exact uh HI4),HK4⟩,?_⟩
   simp [intOf]; omega
  ·have hje:j = n:=by omega
   subst hje
   have hlt':¬ (j:Int) < j:=by omega
   go_wp2
   go_ret
   have h9:=uh HIx
   rw [List.take_of_length_le (by have:=uh HN; omega)] at h9
   exact ⟨_,rfl,h9,uh HKr⟩
theorem xb8f (g:Nat) (kv:Value) (q:List Nat) (w:World) (hku:Rd w kv q) (hq:64 < q.length) :
  Calls Tryz.prog 23 #[.pointer (some ⟨g,0,none⟩),kv] w fun e w'=>e = .returned (.tuple #[.slice none 0 0,.bool false,.int .i64 2])∧Kept [] w w':=by
 go_enter Tryz.func23,Tryz.ntmps23
 go_wp2_with fail
 refine Calls.mono (xa1z g kv q w hku hq) ?_
 rintro e w1 ⟨rfl,k1⟩
 have HZ1:=hide (heap_alloc_new w1 (.cells zwy 97))
 have HK1:=hide ((k1.alloc (.cells zwy 97)).setRow (g:=w1.heap.size) (Or.inr k1.size) zwy)
 clear k1
 go_wp2_with (rw [xa1f]; refine wpList_store_row rfl 97 (.tmp 7) (.tmp 13) rfl w1.heap.size zwy rfl rfl _ zwy (uh HZ1) (by rw [xa3m]; exact Tryz.size_way) rfl (xa0t _ _ rfl rfl) ?_; simp only [Act.put])
 go_ret3
 exact ⟨rfl,uh HK1⟩
theorem xb8b (g:Nat) (kv:Value) (vv:Value) (q:List Nat) (w:World) (hku:Rd w kv q) (hq:64 < q.length) :
  Calls Tryz.prog 20 #[.pointer (some ⟨g,0,none⟩),kv,vv] w fun e w'=>e = .returned (.tuple #[.pointer none,.int .i64 2])∧Kept [] w w':=by
 go_enter Tryz.func20,Tryz.ntmps20
 go_wp2_with fail
 refine Calls.mono (xa1z g kv q w hku hq) ?_
 rintro e w1 ⟨rfl,k1⟩
 have HZ1:=hide (heap_alloc_new w1 (.cells zwy 97))
 have HK1:=hide ((k1.alloc (.cells zwy 97)).setRow (g:=w1.heap.size) (Or.inr k1.size) zwy)
 clear k1
 go_wp2_with (rw [xa1f]; refine wpList_store_row rfl 97 (.tmp 8) (.tmp 16) rfl w1.heap.size zwy rfl rfl _ zwy (uh HZ1) (by rw [xa3m]; exact Tryz.size_way) rfl (xa0t _ _ rfl rfl) ?_; simp only [Act.put])
 go_ret2
 exact ⟨rfl,uh HK1⟩
theorem xb0l (g:Nat) (kv:Value) (q:List Nat) (w:World) (hku:Rd w kv q) (hq:64 < q.length) :
  Calls Tryz.prog 21 #[.pointer (some ⟨g,0,none⟩),kv] w fun e w'=>e = .returned (.tuple #[.pointer none,.bool false,.int .i64 2])∧Kept [] w w':=by
 go_enter Tryz.func21,Tryz.ntmps21
 go_wp2_with fail
 refine Calls.mono (xa1z g kv q w hku hq) ?_
 rintro e w1 ⟨rfl,k1⟩
 have HZ1:=hide (heap_alloc_new w1 (.cells zwy 97))
 have HK1:=hide ((k1.alloc (.cells zwy 97)).setRow (g:=w1.heap.size) (Or.inr k1.size) zwy)
 clear k1
 go_wp2_with (rw [xa1f]; refine wpList_store_row rfl 97 (.tmp 7) (.tmp 13) rfl w1.heap.size zwy rfl rfl _ zwy (uh HZ1) (by rw [xa3m]; exact Tryz.size_way) rfl (xa0t _ _ rfl rfl) ?_; simp only [Act.put])
 go_ret3
 exact ⟨rfl,uh HK1⟩
theorem xb3g (g:Nat) (kv:Value) (q:List Nat) (w:World) (hku:Rd w kv q) (hq:64 < q.length) :
  Calls Tryz.prog 26 #[.pointer (some ⟨g,0,none⟩),kv] w fun e w'=>e = .returned (.tuple #[.slice none 0 0,.slice none 0 0,.int .i64 2])∧Kept [] w w':=by
 go_enter Tryz.func26,Tryz.ntmps26
 go_wp2_with fail
 refine Calls.mono (xa1z g kv q w hku hq) ?_
 rintro e w1 ⟨rfl,k1⟩
 have HZ1:=hide (heap_alloc_new w1 (.cells zwy 97))
 have HK1:=hide ((k1.alloc (.cells zwy 97)).setRow (g:=w1.heap.size) (Or.inr k1.size) zwy)
 clear k1
 go_wp2_with (rw [xa1f]; refine wpList_store_row rfl 97 (.tmp 7) (.tmp 16) rfl w1.heap.size zwy rfl rfl _ zwy (uh HZ1) (by rw [xa3m]; exact Tryz.size_way) rfl (xa0t _ _ rfl rfl) ?_; simp only [Act.put])
 go_ret3
 exact ⟨rfl,uh HK1⟩
set_option maxHeartbeats 2000000 in
theorem xb3u (S:Nat→Prop) (k:Nat) (mv kv vv:Value) (L:Prs) (q v:List Nat) (w:World) (hM:MapAt S k w mv L) (hku:Rd w kv q) (hvu:Rd w vv v) (hq:q.length≤64) (hv:256 < v.length) (hT:Tabs w) :
  Calls Tryz.prog 20 #[mv,kv,vv] w fun e w'=>e = .returned (.tuple #[.pointer none,.int .i64 2])∧Kept [] w w':=by
 obtain ⟨va,vn,vc,rfl,hvl,_⟩:=id hvu
 have hu1:(256:Int) < vn:=by omega
 have hu2:(vn:Int) > 256:=by omega
 clear hvl hv
 go_enter Tryz.func20,Tryz.ntmps20
 go_wp2_with fail
 refine Calls.mono (xa1w S k _ kv L q w hM hku hq hT) ?_
 rintro e w1 ⟨m,cr,en,pl,fd,rfl,hway,k1⟩
 have hon:=hway.cells
 have hDl:((hsZ k).kd q).length = 32:=xa0c _ _
 generalize (hsZ k).kd q = D at hDl ⊢
 have hws:((wayC k D cr en pl fd).toArray).size = 37:=by rw [List.size_toArray,xa0x hDl]
 have HZ1:=hide (heap_alloc_new w1 (.cells zwy 97))
 have HK1:=hide ((k1.alloc (.cells zwy 97)).setRow (g:=w1.heap.size) (Or.inr k1.size) (wayC k D cr en pl fd).toArray)
 clear k1 hway
 go_wp2_with (rw [xa1f]; refine wpList_store_row rfl 97 (.tmp 8) (.tmp 16) rfl w1.heap.size (wayC k D cr en pl fd).toArray rfl rfl _ zwy (uh HZ1) (by rw [hws]; exact Tryz.size_way) (by rw [hws]; rfl) (xa0t _ _ hon.1 hon.2) ?_; simp only [Act.put])
 go_ret2
 exact ⟨rfl,uh HK1⟩
end
section
open Go Go.RowKit Go.BigFrame
theorem lh_ch {P:Program} {Q:Exit→Act→World→Prop} {id:Nat} {o0 o1 o2 o3 o4 o5 o6 o7 o8 o9 o10 o11 o12:Oper} {a:Act} {w:World} (hm:P.follows .mixedOrders = true) (hb:linB #[o0,o1,o2,o3,o4,o5,o6,o7,o8,o9,o10,o11,o12] [0,1,2,4,5] [3,6,7,8] [9,10,11,12] = true) (hg:([o0,o1,o2,o4,o5]++([o3,o6,o7,o8]++[o9,o10,o11,o12])).all (fun o=>o.guard.isNone) = true) (S:World→Prop) (hS:S w.drew)
  (h:LinY P S (ChL P Q S (fun a w=>S w∧LinY P S (Q .normal) [o9,o10,o11,o12] a w) [o3,o6,o7,o8]) [o0,o1,o2,o4,o5] a w.drew):(Code.region id #[o0,o1,o2,o3,o4,o5,o6,o7,o8,o9,o10,o11,o12] true).wp P Q a w:=wp_lin (R:=[0,1,2,4,5]) (C:=[3,6,7,8]) (T:=[9,10,11,12]) (rs:=[o0,o1,o2,o4,o5]) (cs:=[o3,o6,o7,o8]) (ts:=[o9,o10,o11,o12]) hm hb rfl rfl rfl hg hS h
end
section
open Go.RowKit Go.BigFrame
theorem xb2s {k:Nat} {w:World} {q:List Nat} {L:Prs} {s p t r:Value} (h:WalkP k w q L s p) (g:WalkP k w q L t r):∃ ss ps,RdS w s ss∧RdK w p ps∧RdS w t ss∧RdK w r ps:=by
 obtain ⟨m,h1,h2,h3,h4⟩:=h
 obtain ⟨n,g1,g2,g3,g4⟩:=g
 have e:m = n:=by
  rcases Nat.lt_trichotomy m n with h | h | h
  ·have:=g3 m h; rw [h4] at this; cases this
  ·exact h
  ·have:=h3 n h; rw [g4] at this; cases this
 subst e
 exact ⟨_,_,h1,h2,g1,g2⟩
theorem xa4p {ops:Array Oper} {rest:List Oper} {o:Oper} {a:Act} {w:World} {Q:Exit→Act→World→Prop} (hw:Region.wanted o (yielded ops a.tmps) = true) (x y:Operand) (r:TypeId) (ho:o.op = .binOp .eql 64 x y r) (d e:List Nat) (hd:d.length = 32) (he:e.length = 32) (hx:a.eval x = .agg (brow d)) (hy:a.eval y = .agg (brow e))
  (h:wpList Tryz.prog ops Q rest (a.put o.dst (.bool (decide (d = e)))) w):wpList Tryz.prog ops Q (o :: rest) a w :=
 wpList_want hw fun _ hK=>by
  unfold Oper.wp
  rw [xa8p 64 x y r ho (brow d) (brow e) hx hy w _ (by kernel_rfl) (dig_eq w d e hd he)]
  exact hK _ _ h
theorem xa9p (k:Nat) (hk:1≤k∧k≤32) (L:Prs):(rootP k L).length = 32:=by
 unfold rootP
 split
 ·exact xa0w k (hash [5]) (by omega) (xa1e [5])
 ·exact (nod_dg k 64 L).1
theorem MapAt.form {S:Nat→Prop} {k:Nat} {W:World} {v:Value} {L:Prs} (h:MapAt S k W v L):∃ g,v = .pointer (some ⟨g,0,none⟩):=by
 obtain ⟨g,tv,e,_⟩:=h.at_
 exact ⟨g,e⟩
set_option maxHeartbeats 4000000 in
theorem xa3x (S T:Nat→Prop) (k:Nat) (mv uv:Value) (L:Prs) (w:World) (hM:MapAt S k w mv L) (hI:IAt T k w uv L) (hT:∀ y,w.heap.size≤y→T y) (hTb:Tabs w) :
  Calls Tryz.prog 12 #[.int .i64 k,mv,uv] w fun e w'=>e = .returned (.bool true)∧Kept [] w w':=by
 obtain ⟨g,rfl⟩:=hM.form
 obtain ⟨ao,c,l,rfl,_⟩:=hI.parts
 have hk:=hM.ok
 have HM:=hide hM
 have HI:=hide hI
 have HS:=hide hM.srt
 have HF:=hide hM.fit
 have HL:=hide hM.len
 have HT:=hide hT
 have HTb:=hide hTb
 have hrl:=xa9p k hk L
 clear hM hI hT hTb
 go_enter Tryz.func12,Tryz.ntmps12
 go_wp2_with fail
 refine Calls.mono (xb1i S k _ L w (uh HM)) ?_
 rintro e w1 ⟨rfl,k1⟩
 have HK1:=hide k1
 clear k1
 go_wp2_with fail
 refine Calls.mono (xb2w S k _ L w1 ((uh HM).agr (Agr.nil (uh HK1)))) ?_
 rintro e w2 ⟨rfl,k2⟩
 have HK2:=hide ((uh HK1).trans k2 (by simp))
 clear k2
 go_wp2_with fail
 refine Calls.mono (xb2k S k _ L w2 ((uh HM).agr (Agr.nil (uh HK2))) ((uh HTb).k (uh HK2))) ?_
 rintro e w3 ⟨rfl,k3⟩
 have HK3:=hide ((uh HK2).trans k3 (by simp))
 clear k3
 go_wp2_with fail
 refine Calls.mono (xa4t T k hk _ L w3 ((uh HI).agr (Agr.nil (uh HK3))) (uh HS) (uh HF) (uh HL) (fun y hy=>uh HT y (by have:=(uh HK3).size; omega))) ?_
 rintro e w4 ⟨rfl,k4⟩
 have HK4:=hide ((uh HK3).trans k4 (by simp))
 clear k4
 generalize rootP k L = R at hrl ⊢
 go_wp2_with (refine xa4p rfl (.tmp 24) (.tmp 27) _ rfl R R hrl hrl rfl rfl ?_; rw [decide_eq_true rfl])
 refine Calls.mono (xb4l S k _ L w4 ((uh HM).agr (Agr.nil (uh HK4)))) ?_
 rintro e w5 ⟨v5,l5,rfl,hl5,k5⟩
 have HR5:=hide hl5.rdK
 have HK5:=hide ((uh HK4).trans k5 (by simp))
 clear hl5 k5
 go_wp2_with fail
 refine Calls.mono (xa2v T k _ L w5 ((uh HI).agr (Agr.nil (uh HK5))) (uh HL)) ?_
 rintro e w6 ⟨v6,rfl,r6,k6⟩
 have HR6:=hide r6
 have HR56:=hide ((uh HR5).old k6)
 have HK6:=hide ((uh HK5).trans k6 (by simp))
 clear r6 k6
 go_wp2_with fail
 refine Calls.mono (xa3f _ _ L L w6 (uh HR56) (uh HR6)) ?_
 rintro e w7 ⟨rfl,k7⟩
 have HK7:=hide ((uh HK6).trans k7 (by simp))
 clear k7
 rw [decide_eq_true rfl]
 go_wp2_with fail
 go_ret
 exact ⟨rfl,uh HK7⟩
set_option maxHeartbeats 4000000 in
theorem xa8q (S T:Nat→Prop) (k:Nat) (mv uv qv:Value) (q:List Nat) (L:Prs) (w:World) (hM:MapAt S k w mv L) (hI:IAt T k w uv L) (hq:Rd w qv q) (hT:∀ y,w.heap.size≤y→T y) (hTb:Tabs w) :
  Calls Tryz.prog 14 #[.int .i64 k,mv,uv,qv] w fun e w'=>e = .returned (.bool true)∧Kept [] w w':=by
 obtain ⟨g,rfl⟩:=hM.form
 have hk:=hM.ok
 obtain ⟨qa,qn,qc,rfl,hqn,_⟩:=id hq
 have HM:=hide hM
 have HI:=hide hI
 have HQ:=hide hq
 have HS:=hide hM.srt
 have HF:=hide hM.fit
 have HL:=hide hM.len
 have HT:=hide hT
 have HTb:=hide hTb
 clear hM hI hT hTb hq
 by_cases hlong:q.length≤64
 ·have q1:¬ (64:Int) < qn:=by omega
  have q2:¬ (qn:Int) > 64:=by omega
  have HLo:=hide hlong
  clear hqn hlong
  go_enter Tryz.func14,Tryz.ntmps14
  go_wp2_with fail
  refine Calls.mono (xa1h _ q w (uh HQ)) ?_
  rintro e w1 ⟨v1,rfl,r1,_,k1⟩
  have HR1:=hide r1
  have HK1:=hide k1
  clear r1 k1
  go_wp2_with fail
  refine Calls.mono (xb5d S k _ v1 L q w1 ((uh HM).agr (Agr.nil (uh HK1))) (uh HR1) (uh HLo) ((uh HTb).k (uh HK1))) ?_
  rintro e w2 ⟨v2,rfl,r2,_,k2⟩
  have HR2:=hide r2
  have HK2:=hide ((uh HK1).trans k2 (by simp))
  clear r2 k2
  go_wp2_with fail
  refine Calls.mono (xa1h _ q w2 ((uh HQ).old (uh HK2) (by simp))) ?_
  rintro e w3 ⟨v3,rfl,r3,_,k3⟩
  have HR3:=hide r3
  have HR2:=hide ((uh HR2).old k3 (by simp))
  have HK3:=hide ((uh HK2).trans k3 (by simp))
  clear r3 k3
  go_wp2_with fail
  refine Calls.mono (xb7m S k _ v3 L q w3 ((uh HM).agr (Agr.nil (uh HK3))) (uh HR3) (uh HLo) ((uh HTb).k (uh HK3))) ?_
  rintro e w4 ⟨sv,pv,rfl,hw4,k4⟩
  have HW4:=hide hw4
  have HR2:=hide ((uh HR2).old k4 (by simp))
  have HK4:=hide ((uh HK3).trans k4 (by simp))
  clear hw4 k4
  go_wp2_with fail
  refine Calls.mono (xb1r T k _ _ q L w4 ((uh HI).agr (Agr.nil (uh HK4))) ((uh HQ).old (uh HK4) (by simp)) (uh HL)) ?_
  rintro e w5 ⟨v5,rfl,r5,k5⟩
  have HR5:=hide r5
  have HR2:=hide ((uh HR2).old k5 (by simp))
  have HW5:=hide ((uh HW4).old k5)
  have HK5:=hide ((uh HK4).trans k5 (by simp))
  clear r5 k5
  go_wp2_with fail
  refine Calls.mono (xb3z T k hk _ _ q L w5 ((uh HI).agr (Agr.nil (uh HK5))) ((uh HQ).old (uh HK5) (by simp)) (by have:=uh HLo; omega) (uh HS) (uh HF) (uh HL) (fun y hy=>uh HT y (by have:=(uh HK5).size; omega))) ?_
  rintro e w6 ⟨tv,rv,rfl,hw6,k6⟩
  obtain ⟨ss,ps,a1,a2,a3,a4⟩:=xb2s ((uh HW5).old k6) hw6
  have A1:=hide a1
  have A2:=hide a2
  have A3:=hide a3
  have A4:=hide a4
  have HR2:=hide ((uh HR2).old k6 (by simp))
  have HR5:=hide ((uh HR5).old k6 (by simp))
  have HK6:=hide ((uh HK5).trans k6 (by simp))
  generalize (getP q L).getD [] = V at HR2 HR5
  generalize fnd q L = FB
  clear hw6 k6 a1 a2 a3 a4
  go_wp2_with fail
  refine Calls.mono (same_k _ _ V V w6 (uh HR2) (uh HR5)) ?_
  rintro e w7 ⟨rfl,k7⟩
  rw [decide_eq_true rfl]
  have HK7:=hide ((uh HK6).trans k7 (by simp))
  have A1:=hide ((uh A1).old k7)
  have A2:=hide ((uh A2).old k7)
  have A3:=hide ((uh A3).old k7)
  have A4:=hide ((uh A4).old k7)
  clear k7
  go_wp2_with fail
  refine Calls.mono (xa7j _ _ ss ss w7 (uh A1) (uh A3)) ?_
  rintro e w8 ⟨rfl,k8⟩
  rw [decide_eq_true rfl]
  have HK8:=hide ((uh HK7).trans k8 (by simp))
  have A2:=hide ((uh A2).old k8)
  have A4:=hide ((uh A4).old k8)
  clear k8
  go_wp2_with fail
  refine Calls.mono (xa3f _ _ ps ps w8 (uh A2) (uh A4)) ?_
  rintro e w9 ⟨rfl,k9⟩
  rw [decide_eq_true rfl]
  have HK9:=hide ((uh HK8).trans k9 (by simp))
  clear k9
  go_wp2_with fail
  go_ret
  exact ⟨rfl,uh HK9⟩
 ·have q1:(64:Int) < qn:=by omega
  have q2:(qn:Int) > 64:=by omega
  have HLo:=hide (show 64 < q.length by omega)
  clear hqn hlong
  go_enter Tryz.func14,Tryz.ntmps14
  go_wp2_with fail
  refine Calls.mono (xa1h _ q w (uh HQ)) ?_
  rintro e w1 ⟨v1,rfl,r1,_,k1⟩
  have HR1:=hide r1
  have HK1:=hide k1
  clear r1 k1
  go_wp2_with fail
  refine Calls.mono (xb8f g v1 q w1 (uh HR1) (uh HLo)) ?_
  rintro e w2 ⟨rfl,k2⟩
  have HK2:=hide ((uh HK1).trans k2 (by simp))
  clear k2
  go_wp2_with fail
  refine Calls.mono (xa1h _ q w2 ((uh HQ).old (uh HK2) (by simp))) ?_
  rintro e w3 ⟨v3,rfl,r3,_,k3⟩
  have HR3:=hide r3
  have HK3:=hide ((uh HK2).trans k3 (by simp))
  clear r3 k3
  go_wp2_with fail
  refine Calls.mono (xb3g g v3 q w3 (uh HR3) (uh HLo)) ?_
  rintro e w4 ⟨rfl,k4⟩
  have HK4:=hide ((uh HK3).trans k4 (by simp))
  clear k4
  go_wp2_with fail
  go_ret
  exact ⟨rfl,uh HK4⟩
theorem xb8u (S:Nat→Prop) (k:Nat) (mv kv vv:Value) (L:Prs) (q v:List Nat) (w:World) (hM:MapAt S k w mv L) (hku:Rd w kv q) (hvu:Rd w vv v) (hL:L.length < 1000000000) (hS:∀ y,w.heap.size≤y→S y) (hT:Tabs w) :
  Calls Tryz.prog 20 #[mv,kv,vv] w fun e w'=>∃ x,e = .returned (.tuple #[x,.int .i64 (if fitP q v = true then 0 else 2)])∧(fitP q v = true→MapAt S k w' x (insP (hsZ k) q v L))∧(fitP q v = false→x = .pointer none)∧Kept [] w w':=by
 by_cases hq:q.length≤64
 ·by_cases hv:v.length≤256
  ·have hf:fitP q v = true:=decide_eq_true ⟨hq,hv⟩
   rw [hf]
   exact (xb1d S k mv kv vv L q v w hM hku hvu hq hv hL hS hT).mono fun e w' ⟨m',h1,h2,h3⟩=>⟨m',h1,fun _=>h2,(fun h=>by cases h),h3⟩
  ·have hf:fitP q v = false:=decide_eq_false (fun h=>hv h.2)
   rw [hf]
   exact (xb3u S k mv kv vv L q v w hM hku hvu hq (by omega) hT).mono fun e w' ⟨h1,h3⟩=>⟨_,h1,(fun h=>by cases h),fun _=>rfl,h3⟩
 ·have hf:fitP q v = false:=decide_eq_false (fun h=>hq h.1)
  rw [hf]
  obtain ⟨g,rfl⟩:=hM.form
  exact (xb8b g kv vv q w hku (by omega)).mono fun e w' ⟨h1,h3⟩=>⟨_,h1,(fun h=>by cases h),fun _=>rfl,h3⟩
theorem xb2r (S:Nat→Prop) (k:Nat) (mv kv:Value) (L:Prs) (q:List Nat) (w:World) (hM:MapAt S k w mv L) (hku:Rd w kv q) (hS:∀ y,w.heap.size≤y→S y) (hT:Tabs w) :
  Calls Tryz.prog 21 #[mv,kv] w fun e w'=>∃ x b,e = .returned (.tuple #[x,.bool b,.int .i64 (if q.length≤64 then 0 else 2)])∧(q.length≤64→b = fnd q L∧MapAt S k w' x (delP q L))∧(¬ q.length≤64→b = false∧x = .pointer none)∧Kept [] w w':=by
 by_cases hq:q.length≤64
 ·rw [if_pos hq]
  exact (xb0q S k mv kv L q w hM hku hq hS hT).mono fun e w' ⟨m',h1,h2,h3⟩=>⟨m',_,h1,fun _=>⟨rfl,h2⟩,fun h=>absurd hq h,h3⟩
 ·rw [if_neg hq]
  obtain ⟨g,rfl⟩:=hM.form
  exact (xb0l g kv q w hku (by omega)).mono fun e w' ⟨h1,h3⟩=>⟨_,_,h1,fun h=>absurd h hq,fun _=>⟨rfl,rfl⟩,h3⟩
def chL (k:Nat) (kd:Int) (q v:List Nat) (L:Prs):Prs:=if kd = 1 then (if fitP q v = true then insP (hsZ k) q v L else L) else if q.length≤64 then delP q L else L
def ChP (S T:Nat→Prop) (k:Nat) (w':World) (x l:Value) (M:Prs):Prop:=MapAt S k w' x M∧IAt T k w' l M
set_option maxHeartbeats 8000000 in
theorem xa7h (S T:Nat→Prop) (k:Nat) (mv uv kv vv:Value) (kd fr:Int) (q v:List Nat) (L:Prs) (w:World) (hkd:kd = 1∨kd = 2) (hM:MapAt S k w mv L) (hI:IAt T k w uv L) (hq:Rd w kv q) (hv:Rd w vv v) (hL:L.length < 1000000000) (hS:∀ y,w.heap.size≤y→S y) (hT:∀ y,w.heap.size≤y→T y) (hTb:Tabs w) :
  Calls Tryz.prog 13 #[.int .i64 k,mv,uv,.agg #[.int .i64 kd,.int .i64 fr,kv,vv]] w fun e w'=>∃ x l,e = .returned (.tuple #[x,l,.bool true])∧ChP S T k w' x l (chL k kd q v L)∧Kept [] w w':=by
 obtain ⟨g,rfl⟩:=hM.form
 have hk:=hM.ok
 obtain ⟨qa,qn,qc,rfl,hqn,_⟩:=id hq
 obtain ⟨va,vn,vc,rfl,hvn,_⟩:=id hv
 have HQ:=hide hq
 have HV:=hide hv
 have HK0:=hide ((Kept.refl [] w).alloc (.cells #[.int .i64 kd,.int .i64 fr,.slice qa qn qc,.slice va vn vc] 34))
 have HB:=hide (heap_alloc_new w (.cells #[.int .i64 kd,.int .i64 fr,.slice qa qn qc,.slice va vn vc] 34))
 obtain ⟨W1,hW1⟩:∃ W1,w.alloc (.cells #[.int .i64 kd,.int .i64 fr,.slice qa qn qc,.slice va vn vc] 34) = W1:=⟨_,rfl⟩
 rw [hW1] at HK0 HB
 have c0:W1.cell? ⟨w.heap.size,0,none⟩ = some (.int .i64 kd):=by rw [cell_of_row _ _ _ _ _ _ (uh HB)]; rfl
 have HC1:=hide (show W1.cell? ⟨w.heap.size,2,none⟩ = some (.slice qa qn qc) by rw [cell_of_row _ _ _ _ _ _ (uh HB)]; rfl)
 have HC2:=hide (show W1.cell? ⟨w.heap.size,3,none⟩ = some (.slice va vn vc) by rw [cell_of_row _ _ _ _ _ _ (uh HB)]; rfl)
 have HQ2:=hide ((uh HQ).old (uh HK0) (by simp))
 have HV2:=hide ((uh HV).old (uh HK0) (by simp))
 have HM1:=hide (hM.agr (Agr.nil (uh HK0)))
 have HI1:=hide (hI.agr (Agr.nil (uh HK0)))
 have HTb1:=hide (Tabs.k hTb (uh HK0))
 have HS:=hide (show ∀ y,W1.heap.size≤y→S y from fun y hy=>hS y (by have:=(uh HK0).size; omega))
 have HT:=hide (show ∀ y,W1.heap.size≤y→T y from fun y hy=>hT y (by have:=(uh HK0).size; omega))
 have HSr:=hide hM.srt
 have HL:=hide hL
 have HP0:=hide (show ∀ w',Kept [] W1 w'→Kept [] w w' from fun w' h=>(uh HK0).trans h (by simp))
 clear hM hI hq hv hS hT hTb
 obtain ⟨M,hM⟩:∃ M,chL k kd q v L = M:=⟨_,rfl⟩
 rw [hM]
 have HMM:=hide hM
 have HQN:=hide hqn
 clear hM hqn hvn
 rcases hkd with rfl | rfl
 ·have HPUT:=hide (fun (W:World) (z1 z2:Value) (hW:Kept [] W1 W) (h1:Rd W z1 q) (h2:Rd W z2 v)=>xb8u S k _ z1 z2 L q v W ((uh HM1).agr (Agr.nil hW)) h1 h2 (uh HL) (fun y hy=>uh HS y (by have:=hW.size; omega)) (Tabs.k (uh HTb1) hW))
  have HCP:=hide (fun (W:World) (hW:Kept [] W1 W)=>xa6r _ _ q v W ((uh HQ2).old hW (by simp)) ((uh HV2).old hW (by simp)))
  have HM2:=hide (show (if fitP q v = true then insP (hsZ k) q v L else L) = M by rw [← uh HMM]; unfold chL; rw [if_pos rfl])
  have HFQ:=hide (show fitP q v = true→q.length≤140737488351232 from fun h=>by have:=(of_decide_eq_true h).1; omega)
  generalize fitP q v = FP at HPUT HCP HM2 HFQ
  go_enter Tryz.func13,Tryz.ntmps13
  go_upto_region 2 with fail
  try rw [hW1]
  clear c0
  refine lh_ch (by kernel_rfl) (by kernel_rfl) rfl (fun W=>Kept [] W1 W) (Kept.refl _ W1).drew ?_
  refine LinY.rd (.pointer (some ⟨g,0,none⟩)) (fun W hW=>by go_simp) (by simp only [Act.put,sa1,sa2,sa3]; rfl) ?_
  refine LinY.rd (.pointer (some ⟨w.heap.size,2,none⟩)) (fun W hW=>by go_simp) (by simp only [Act.put,sa1,sa2,sa3]; rfl) ?_
  refine LinY.rd (.slice qa qn qc) (fun W hW=>by have h9:=hW.cell (uh HC1) (by simp); go_simp) (by simp only [Act.put,sa1,sa2,sa3]; rfl) ?_
  refine LinY.rd (.pointer (some ⟨w.heap.size,3,none⟩)) (fun W hW=>by go_simp) (by simp only [Act.put,sa1,sa2,sa3]; rfl) ?_
  refine LinY.rd (.slice va vn vc) (fun W hW=>by have h9:=hW.cell (uh HC2) (by simp); go_simp) (by simp only [Act.put,sa1,sa2,sa3]; rfl) ?_
  have hd2:=(Kept.refl [] W1).drew
  refine LinY.fin (ChL.call rfl Tryz.call25 [.slice qa qn qc] rfl (xa1h _ q W1.drew ((uh HQ2).old hd2 (by simp))) ?_)
  rintro e w4 ⟨z1,rfl,r1,_,k4⟩
  have hk4:=hd2.trans k4 (by simp)
  refine ⟨_,rfl,hk4,?_⟩
  simp only [Act.put,sa1,sa2,sa3]
  refine ChL.call rfl Tryz.call25 [.slice va vn vc] rfl (xa1h _ v w4 ((uh HV2).old hk4 (by simp))) ?_
  rintro e w5 ⟨z2,rfl,r2,_,k5⟩
  have hk5:=hk4.trans k5 (by simp)
  refine ⟨_,rfl,hk5,?_⟩
  simp only [Act.put,sa1,sa2,sa3]
  refine ChL.call rfl Tryz.call20 [.pointer (some ⟨g,0,none⟩),z1,z2] rfl (uh HPUT w5 z1 z2 hk5 (r1.old k5 (by simp)) r2) ?_
  rintro e w6 ⟨x,rfl,m6,n6,k6⟩
  have hk6:=hk5.trans k6 (by simp)
  refine ⟨_,rfl,hk6,?_⟩
  simp only [Act.put,sa1,sa2,sa3]
  cases FP with
  | true =>
   obtain ⟨gx,rfl⟩:=(m6 rfl).form
   refine ChL.op (.tuple #[.pointer (some ⟨gx,0,none⟩),.int .i64 0]) (by go_simp) hk6 (by simp only [Act.put,sa1,sa2,sa3]; rfl) (ChL.fin ⟨hk6,?_⟩)
   refine LinY.rd (.pointer (some ⟨gx,0,none⟩)) (fun W hW=>by go_simp) (by simp only [Act.put,sa1,sa2,sa3]; rfl) ?_
   refine LinY.rd (.int .i64 0) (fun W hW=>by go_simp) (by simp only [Act.put,sa1,sa2,sa3]; rfl) ?_
   refine LinY.rd (.pointer (some ⟨gx,0,none⟩)) (fun W hW=>by go_simp) (by simp only [Act.put,sa1,sa2,sa3]; rfl) ?_
   refine LinY.rd (.int .i64 0) (fun W hW=>by go_simp) (by simp only [Act.put,sa1,sa2,sa3]; rfl) ?_
   refine LinY.fin ?_
   have HMX:=hide (m6 rfl)
   have HK6:=hide hk6
   have d2:=hk6.cell (uh HC1) (by simp)
   have d3:=hk6.cell (uh HC2) (by simp)
   clear m6 n6 k6 hk6 r2 r1 k5 hk5 k4 hk4 hd2 HPUT
   go_wp2_with fail
   refine Calls.mono (uh HCP w6 (uh HK6)) ?_
   rintro e w7 ⟨rfl,h7⟩
   rw [h7]
   clear h7
   go_wp2_with fail
   refine Calls.mono (xa6x T k _ _ _ q v L w6 hk ((uh HI1).agr (Agr.nil (uh HK6))) (uh HSr) ((uh HQ2).old (uh HK6) (by simp)) ((uh HV2).old (uh HK6) (by simp)) (by first | exact uh HFQ rfl | exact uh HFQ trivial) (by have:=uh HL; omega) (fun y hy=>uh HT y (by have:=(uh HK6).size; omega))) ?_
   rintro e w8 ⟨l8,rfl,i8,k8⟩
   have HI8:=hide i8
   have HMX8:=hide ((uh HMX).agr (Agr.nil k8))
   have HK8:=hide ((uh HK6).trans k8 (by simp))
   clear i8 k8 d2 d3
   go_wp2_with fail
   refine Calls.mono (xa3x S T k _ _ _ w8 (uh HMX8) (uh HI8) (fun y hy=>uh HT y (by have:=(uh HK8).size; omega)) (Tabs.k (uh HTb1) (uh HK8))) ?_
   rintro e w9 ⟨rfl,k9⟩
   have HCX:=hide (show ChP S T k w9 (.pointer (some ⟨gx,0,none⟩)) l8 M from ⟨by rw [← uh HM2]; exact (uh HMX8).agr (Agr.nil k9),by rw [← uh HM2]; exact (uh HI8).agr (Agr.nil k9)⟩)
   have HK9:=hide ((uh HK8).trans k9 (by simp))
   clear k9
   go_wp2_with fail
   go_ret3
   exact ⟨_,_,rfl,uh HCX,uh HP0 _ (uh HK9)⟩
  | false =>
   obtain rfl:=n6 rfl
   refine ChL.op (.tuple #[.pointer none,.int .i64 2]) (by go_simp) hk6 (by simp only [Act.put,sa1,sa2,sa3]; rfl) (ChL.fin ⟨hk6,?_⟩)
   refine LinY.rd (.pointer none) (fun W hW=>by go_simp) (by simp only [Act.put,sa1,sa2,sa3]; rfl) ?_
   refine LinY.rd (.int .i64 2) (fun W hW=>by go_simp) (by simp only [Act.put,sa1,sa2,sa3]; rfl) ?_
   refine LinY.rd (.pointer none) (fun W hW=>by go_simp) (by simp only [Act.put,sa1,sa2,sa3]; rfl) ?_
   refine LinY.rd (.int .i64 2) (fun W hW=>by go_simp) (by simp only [Act.put,sa1,sa2,sa3]; rfl) ?_
   refine LinY.fin ?_
   have HK6:=hide hk6
   have d2:=hk6.cell (uh HC1) (by simp)
   have d3:=hk6.cell (uh HC2) (by simp)
   clear m6 n6 k6 hk6 r2 r1 k5 hk5 k4 hk4 hd2 HPUT
   go_wp2_with fail
   refine Calls.mono (uh HCP w6 (uh HK6)) ?_
   rintro e w7 ⟨rfl,h7⟩
   rw [h7]
   clear h7
   have HCX:=hide (show ChP S T k w6 (.pointer (some ⟨g,0,none⟩)) uv M from ⟨by rw [← uh HM2]; exact (uh HM1).agr (Agr.nil (uh HK6)),by rw [← uh HM2]; exact (uh HI1).agr (Agr.nil (uh HK6))⟩)
   go_wp2_with fail
   go_ret3
   exact ⟨_,_,rfl,uh HCX,uh HP0 _ (uh HK6)⟩
 ·have HM2:=hide (show (if q.length≤64 then delP q L else L) = M by rw [← uh HMM]; unfold chL; rw [if_neg (show ¬ (2:Int) = 1 by decide)])
  have HDEL:=hide (fun (W:World) (z1:Value) (hW:Kept [] W1 W) (h1:Rd W z1 q)=>xb2r S k _ z1 L q W ((uh HM1).agr (Agr.nil hW)) h1 (fun y hy=>uh HS y (by have:=hW.size; omega)) (Tabs.k (uh HTb1) hW))
  have d2:=uh HC1
  go_enter Tryz.func13,Tryz.ntmps13
  go_upto_region 7 with fail
  try rw [hW1]
  clear c0
  go_wp2_with fail
  refine Calls.mono (xa1h _ q W1 (uh HQ2)) ?_
  rintro e w4 ⟨z1,rfl,r1,_,k4⟩
  have HR1:=hide r1
  have HK4:=hide k4
  clear r1 k4
  go_wp2_with fail
  refine Calls.mono (uh HDEL w4 z1 (uh HK4) (uh HR1)) ?_
  rintro e w5 ⟨x,b,rfl,m5,n5,k5⟩
  have HM5:=hide m5
  have HN5:=hide n5
  have HK5:=hide ((uh HK4).trans k5 (by simp))
  clear m5 n5 k5 d2
  have d2:=(uh HK5).cell (uh HC1) (by simp)
  by_cases hql:q.length≤64
  ·obtain ⟨rfl,hmx⟩:=uh HM5 hql
   obtain ⟨gx,rfl⟩:=hmx.form
   have HMX:=hide hmx
   have q1:¬ (64:Int) < qn:=by have:=uh HQN; omega
   have q2:¬ (qn:Int) > 64:=by omega
   rw [if_pos hql] at HM2 ⊢
   clear hmx HM5 HN5
   go_wp2_with fail
   refine Calls.mono (xa6o T k _ _ q L w5 ((uh HI1).agr (Agr.nil (uh HK5))) ((uh HQ2).old (uh HK5) (by simp)) (by have:=uh HL; omega) (fun y hy=>uh HT y (by have:=(uh HK5).size; omega))) ?_
   rintro e w8 ⟨l8,rfl,i8,k8⟩
   have HI8:=hide i8
   have HMX8:=hide ((uh HMX).agr (Agr.nil k8))
   have HK8:=hide ((uh HK5).trans k8 (by simp))
   clear i8 k8 d2
   generalize fnd q L = FB
   go_wp2_with fail
   refine Calls.mono (xa3x S T k _ _ _ w8 (uh HMX8) (uh HI8) (fun y hy=>uh HT y (by have:=(uh HK8).size; omega)) (Tabs.k (uh HTb1) (uh HK8))) ?_
   rintro e w9 ⟨rfl,k9⟩
   have HCX:=hide (show ChP S T k w9 (.pointer (some ⟨gx,0,none⟩)) l8 M from ⟨by rw [← uh HM2]; exact (uh HMX8).agr (Agr.nil k9),by rw [← uh HM2]; exact (uh HI8).agr (Agr.nil k9)⟩)
   have HK9:=hide ((uh HK8).trans k9 (by simp))
   clear k9
   go_wp2_with fail
   go_ret3
   exact ⟨_,_,rfl,uh HCX,uh HP0 _ (uh HK9)⟩
  ·obtain ⟨rfl,rfl⟩:=uh HN5 hql
   have q1:(64:Int) < qn:=by have:=uh HQN; omega
   have q2:(qn:Int) > 64:=by omega
   rw [if_neg hql] at HM2 ⊢
   clear HM5 HN5
   have HCX:=hide (show ChP S T k w5 (.pointer (some ⟨g,0,none⟩)) uv M from ⟨by rw [← uh HM2]; exact (uh HM1).agr (Agr.nil (uh HK5)),by rw [← uh HM2]; exact (uh HI1).agr (Agr.nil (uh HK5))⟩)
   go_wp2_with fail
   go_ret3
   exact ⟨_,_,rfl,uh HCX,uh HP0 _ (uh HK5)⟩

theorem xc0m {w:World} {g:Nat} (bs:List Nat) {cs:Array Value} {fr:Nat × Nat} (h:w.heap[g]? = some (.cells cs 5 fr)) (hc:cs = (bs.map u8).toArray) (hb:∀ x∈bs,x < 256) (n:Nat) (hn:bs.length = n) (hl:n≤140737488355328):Rd w (.slice (some ⟨g,0,none⟩) n n) bs:=by
 refine ⟨_,n,n,rfl,hn,Nat.le_refl _,⟨by omega,hl⟩,fun h=>by simp at h,hb,fun hp=>⟨g,0,rfl,fun i hi=>?_⟩⟩
 subst hc
 have hi':i < bs.length:=by omega
 rw [cell_of_row _ _ _ _ _ _ h,Nat.zero_add,List.getElem?_toArray,List.getElem?_map,List.getD_eq_getElem?_getD,List.getElem?_eq_getElem hi']
 rfl
abbrev bt (x:Int):Obj:=.cells #[.int .u8 x] 5 (1,2)
theorem bt_rd (w:World) (x:Nat) (hx:x < 256):Rd (w.alloc (bt x)) (.slice (some ⟨w.heap.size,0,none⟩) 1 1) [x]:=xc0m (n:=1) [x] (heap_alloc_new w (bt x)) rfl (by intro y hy; simp at hy; omega) rfl (by decide)
def awL (k:Nat):Prs:=insP (hsZ k) [98] [] (insP (hsZ k) [97] [49] [])
theorem xa8t (k:Nat):Srt (hsZ k) (insP (hsZ k) [97] [49] []):=(xa6n _).ins _ _
theorem xb5k (k:Nat):getP [97] (awL k) = some [49]:=by
 unfold awL
 rw [xb3d (xa8t k),if_neg (by decide),xb3d (xa6n _),if_pos rfl]
theorem xb9u (k:Nat):fnd [97] (awL k) = true:=by unfold fnd; rw [xb5k]; rfl
theorem xb5w (k:Nat):(awL k).length = 2:=by
 unfold awL
 have h0:fnd [98] (insP (hsZ k) [97] [49] []) = false:=by unfold fnd; rw [xb3d (xa6n _),if_neg (by decide)]; rfl
 rw [xb1e (xa8t k),h0,if_neg (by decide)]; rfl
set_option maxHeartbeats 4000000 in
theorem xb0d (w:World) (hTb:Tabs w) :
  Calls Tryz.prog 9 #[] w fun e w'=>e = .returned (.bool true)∧Kept [] w w':=by
 have HTb:=hide hTb
 obtain ⟨S,hS⟩:∃ S:Nat→Prop,S = fun _=>True:=⟨_,rfl⟩
 have HS:=hide (show ∀ (n y:Nat),n≤y→S y from fun _ _ _=>by rw [hS]; trivial)
 clear hTb hS
 have kc:=fun (w:World) (C:Array Value) (n c:Nat)=>Lib.run_convert_bytes_const (P:=Tryz.prog) w 32 5 C n c Tryz.underlying32 Tryz.underlying5
 have kc1:=fun (w:World) (o:Obj) (C:Array Value) (n c:Nat)=>Go.Joins.run_convert_bytes_const_at (P:=Tryz.prog) (w.alloc o) 32 5 C n c (w.heap.size + 1) (by simp) Tryz.underlying32 Tryz.underlying5
 have kc2:=fun (w:World) (o o':Obj) (C:Array Value) (n c:Nat)=>Go.Joins.run_convert_bytes_const_at (P:=Tryz.prog) ((w.alloc o).alloc o') 32 5 C n c (w.heap.size + 1 + 1) (by simp) Tryz.underlying32 Tryz.underlying5
 go_enter Tryz.func9,Tryz.ntmps9
 go_wp2_with fail
 refine Calls.mono (xb5e S 4 w (by omega) (uh HS _)) ?_
 rintro e w1 ⟨m1,rfl,hm1,k1⟩
 obtain ⟨g1,rfl⟩:=hm1.form
 have HM1:=hide hm1
 have HK1:=hide k1
 clear hm1 k1
 go_wp2_with fail
 have ka:=(Kept.refl [] w1).alloc (bt 97)
 have kb:=(Kept.refl [] (w1.alloc (bt 97))).alloc (bt 49)
 have hz:(w1.alloc (bt 97)).heap.size = w1.heap.size + 1:=by simp
 have r1:=(bt_rd w1 97 (by decide)).old kb (by simp)
 have r2:=bt_rd (w1.alloc (bt 97)) 49 (by decide)
 rw [hz] at r2
 have HKA:=hide ((uh HK1).trans (ka.trans kb (by simp)) (by simp))
 have HMA:=hide ((uh HM1).agr (Agr.nil (ka.trans kb (by simp))))
 refine Calls.mono (xb1d S 4 _ _ _ [] [97] [49] _ (uh HMA) r1 r2 (by decide) (by decide) (by decide) (uh HS _) ((uh HTb).k (uh HKA))) ?_
 rintro e w2 ⟨m2,rfl,hm2,k2⟩
 obtain ⟨g2,rfl⟩:=hm2.form
 have HM2:=hide hm2
 have HK2:=hide ((uh HKA).trans k2 (by simp))
 clear hm2 k2 ka kb hz r1 r2 HKA HMA HM1 HK1
 go_wp2_with fail
 have kb:=(Kept.refl [] w2).alloc (bt 98)
 have r1:=bt_rd w2 98 (by decide)
 have HKB:=hide ((uh HK2).trans kb (by simp))
 refine Calls.mono (xb1d S 4 _ _ _ _ [98] [] _ ((uh HM2).agr (Agr.nil kb)) r1 (Rd.nil _) (by decide) (by decide) (by decide) (uh HS _) ((uh HTb).k (uh HKB))) ?_
 rintro e w3 ⟨m3,rfl,hm3,k3⟩
 obtain ⟨g3,rfl⟩:=hm3.form
 have HM3:=hide (show MapAt S 4 w3 (.pointer (some ⟨g3,0,none⟩)) (awL 4) from hm3)
 have HK3:=hide ((uh HKB).trans k3 (by simp))
 clear hm3 k3 kb r1 HKB HM2 HK2
 go_wp2_with fail
 have kb:=(Kept.refl [] w3).alloc (bt 97)
 have r1:=bt_rd w3 97 (by decide)
 have HKB:=hide ((uh HK3).trans kb (by simp))
 refine Calls.mono (xb5d S 4 _ _ (awL 4) [97] _ ((uh HM3).agr (Agr.nil kb)) r1 (by decide) ((uh HTb).k (uh HKB))) ?_
 rintro e w4 ⟨v4,rfl,r4,_,k4⟩
 rw [xb5k] at r4
 rw [xb9u]
 have HR4:=hide (show Rd w4 v4 [49] from r4)
 have HM4:=hide (((uh HM3).agr (Agr.nil kb)).agr (Agr.nil k4))
 have HK4:=hide ((uh HKB).trans k4 (by simp))
 clear r4 k4 kb r1 HKB HM3 HK3
 go_wp2_with fail
 refine Calls.mono (xb2w S 4 _ _ w4 (uh HM4)) ?_
 rintro e w5 ⟨rfl,k5⟩
 rw [xb5w]
 have HM5:=hide ((uh HM4).agr (Agr.nil k5))
 have HR5:=hide ((uh HR4).old k5 (by simp))
 have HK5:=hide ((uh HK4).trans k5 (by simp))
 clear k5
 go_wp2_with fail
 refine Calls.mono (xb1i S 4 _ _ w5 (uh HM5)) ?_
 rintro e w6 ⟨rfl,k6⟩
 have HM6:=hide ((uh HM5).agr (Agr.nil k6))
 have HR6:=hide ((uh HR5).old k6 (by simp))
 have HK6:=hide ((uh HK5).trans k6 (by simp))
 clear k6
 go_wp2_with fail
 have kb:=(Kept.refl [] w6).alloc (bt 49)
 have r1:=bt_rd w6 49 (by decide)
 refine Calls.mono (same_k _ _ [49] [49] _ ((uh HR6).old kb (by simp)) r1) ?_
 rintro e w7 ⟨rfl,k7⟩
 rw [decide_eq_true rfl]
 have HM7:=hide (((uh HM6).agr (Agr.nil kb)).agr (Agr.nil k7))
 have HK7:=hide (((uh HK6).trans kb (by simp)).trans k7 (by simp))
 clear k7 kb r1
 go_wp2_with fail
 refine Calls.mono (xb2k S 4 _ _ w7 (uh HM7) ((uh HTb).k (uh HK7))) ?_
 rintro e w8 ⟨rfl,k8⟩
 have HK8:=hide ((uh HK7).trans k8 (by simp))
 clear k8
 go_wp2_with fail
 have z1:(w8.alloc (bt 97)).heap.size = w8.heap.size + 1:=by simp
 have z2:((w8.alloc (bt 97)).alloc (bt 49)).heap.size = w8.heap.size + 1 + 1:=by simp
 have z3:(((w8.alloc (bt 97)).alloc (bt 49)).alloc (bt 98)).heap.size = w8.heap.size + 1 + 1 + 1:=by simp
 have ka:=(Kept.refl [] w8).alloc (bt 97)
 have kb:=(Kept.refl [] (w8.alloc (bt 97))).alloc (bt 49)
 have kd:=(Kept.refl [] ((w8.alloc (bt 97)).alloc (bt 49))).alloc (bt 98)
 have ke:=(Kept.refl [] (((w8.alloc (bt 97)).alloc (bt 49)).alloc (bt 98))).alloc (.cells #[.slice (some ⟨w8.heap.size,0,none⟩) 1 1,.slice (some ⟨w8.heap.size + 1,0,none⟩) 1 1,.slice (some ⟨w8.heap.size + 1 + 1,0,none⟩) 1 1,.slice none 0 0] 46)
 have r1:=(((bt_rd w8 97 (by decide)).old kb (by simp)).old kd (by simp)).old ke (by simp)
 have r2:=((bt_rd (w8.alloc (bt 97)) 49 (by decide)).old kd (by simp)).old ke (by simp)
 have r3:=(bt_rd ((w8.alloc (bt 97)).alloc (bt 49)) 98 (by decide)).old ke (by simp)
 rw [z1] at r2
 rw [z2] at r3
 have hx:=heap_alloc_new (((w8.alloc (bt 97)).alloc (bt 49)).alloc (bt 98)) (.cells #[.slice (some ⟨w8.heap.size,0,none⟩) 1 1,.slice (some ⟨w8.heap.size + 1,0,none⟩) 1 1,.slice (some ⟨w8.heap.size + 1 + 1,0,none⟩) 1 1,.slice none 0 0] 46)
 rw [z3] at hx
 have kall:=((ka.trans kb (by simp)).trans kd (by simp)).trans ke (by simp)
 have hK:=(uh HK8).trans kall (by simp)
 obtain ⟨X,hX⟩:∃ X,(((w8.alloc (bt 97)).alloc (bt 49)).alloc (bt 98)).alloc (.cells #[.slice (some ⟨w8.heap.size,0,none⟩) 1 1,.slice (some ⟨w8.heap.size + 1,0,none⟩) 1 1,.slice (some ⟨w8.heap.size + 1 + 1,0,none⟩) 1 1,.slice none 0 0] 46) = X:=⟨_,rfl⟩
 rw [hX] at r1 r2 r3 hx hK
 rw [hX]
 have hrk:RdK X (.slice (some ⟨w8.heap.size + 1 + 1 + 1,0,none⟩) 2 2) [([97],[49]),([98],[])]:=⟨_,2,2,[.slice (some ⟨w8.heap.size,0,none⟩) 1 1,.slice (some ⟨w8.heap.size + 1 + 1,0,none⟩) 1 1],[.slice (some ⟨w8.heap.size + 1,0,none⟩) 1 1,.slice none 0 0],rfl,rfl,Nat.le_refl _,by omega,fun i hi=>by
   match i,hi with
   | 0,_=>exact ⟨r1,r2⟩
   | 1,_=>exact ⟨r3,Rd.nil _⟩,fun _=>⟨_,0,rfl,fun i hi=>by
   match i,hi with
   | 0,_=>constructor <;> (rw [cell_of_row _ _ _ _ _ _ hx]; rfl)
   | 1,_=>constructor <;> (rw [cell_of_row _ _ _ _ _ _ hx]; rfl)⟩⟩
 have HRK:=hide hrk
 have HKX:=hide hK
 clear z1 z2 z3 ka kb kd ke r1 r2 r3 hx kall hK hX hrk
 refine Calls.mono (xb5a S 4 _ [([97],[49]),([98],[])] X (by omega) (uh HRK) (by intro p hp; simp at hp; rcases hp with rfl | rfl <;> simp) (by simp) (uh HS _)) ?_
 rintro e w9 ⟨v9,rfl,i9,k9⟩
 have HI9:=hide (show IAt S 4 w9 v9 (awL 4) from i9)
 have HK9:=hide ((uh HKX).trans k9 (by simp))
 have hfit:Fit (awL 4):=xa9h (xa8t 4) (xa9h (xa6n _) (fun p hp=>by simp at hp) (by decide) (by decide)) (by decide) (by decide)
 have HFI:=hide hfit
 have hrl:=xa9p 4 (by omega) (awL 4)
 clear i9 k9 hfit
 go_wp2_with fail
 refine Calls.mono (xa4t S 4 (by omega) _ (awL 4) w9 (uh HI9) ((xa8t 4).ins _ _) (uh HFI) (by rw [xb5w]; omega) (uh HS _)) ?_
 rintro e w10 ⟨rfl,k10⟩
 have HK10:=hide ((uh HK9).trans k10 (by simp))
 clear k10
 generalize rootP 4 (awL 4) = R at hrl ⊢
 go_wp2_with (refine xa4p rfl (.tmp 74) (.tmp 85) _ rfl R R hrl hrl rfl rfl ?_; rw [decide_eq_true rfl])
 go_ret
 exact ⟨rfl,uh HK10⟩
end
section
open Go Go.RowKit Go.BigFrame
theorem lh_p14 {P:Program} {Q:Exit→Act→World→Prop} {id:Nat} {o0 o1 o2 o3 o4 o5 o6 o7 o8 o9 o10 o11:Oper} {a:Act} {w:World} (hm:P.follows .mixedOrders = true) (hb:linB #[o0,o1,o2,o3,o4,o5,o6,o7,o8,o9,o10,o11] [0,1,2,3,4,5,6,7,8,9] [10,11] [] = true) (hg:([o0,o1,o2,o3,o4,o5,o6,o7,o8,o9]++([o10,o11]++[])).all (fun o=>o.guard.isNone) = true) (S:World→Prop) (hS:S w.drew)
  (h:LinY P S (ChL P Q S (Q .normal) [o10,o11]) [o0,o1,o2,o3,o4,o5,o6,o7,o8,o9] a w.drew):(Code.region id #[o0,o1,o2,o3,o4,o5,o6,o7,o8,o9,o10,o11] true).wp P Q a w:=xa0v (R:=[0,1,2,3,4,5,6,7,8,9]) (C:=[10,11]) (rs:=[o0,o1,o2,o3,o4,o5,o6,o7,o8,o9]) (cs:=[o10,o11]) hm hb rfl rfl hg hS h
theorem lh_te {P:Program} {Q:Exit→Act→World→Prop} {id:Nat} {o0 o1 o2 o3 o4 o5 o6 o7 o8 o9 o10:Oper} {a:Act} {w:World} (hm:P.follows .mixedOrders = true) (hb:linB #[o0,o1,o2,o3,o4,o5,o6,o7,o8,o9,o10] [0,1,2,3,4,5,6,7,8] [9,10] [] = true) (hg:([o0,o1,o2,o3,o4,o5,o6,o7,o8]++([o9,o10]++[])).all (fun o=>o.guard.isNone) = true) (S:World→Prop) (hS:S w.drew)
  (h:LinY P S (ChL P Q S (Q .normal) [o9,o10]) [o0,o1,o2,o3,o4,o5,o6,o7,o8] a w.drew):(Code.region id #[o0,o1,o2,o3,o4,o5,o6,o7,o8,o9,o10] true).wp P Q a w:=xa0v (R:=[0,1,2,3,4,5,6,7,8]) (C:=[9,10]) (rs:=[o0,o1,o2,o3,o4,o5,o6,o7,o8]) (cs:=[o9,o10]) hm hb rfl rfl hg hS h
end
section
open Go.RowKit Go.BigFrame
theorem MapAt.mono {S T:Nat→Prop} {k:Nat} {W:World} {v:Value} {L:Prs} (hs:∀ x,T x→S x) (h:MapAt T k W v L):MapAt S k W v L:=by
 obtain ⟨h1,h2,h3,h4,g,tv,h5,h6,h7,h8⟩:=h
 refine ⟨h1,h2,h3,h4,g,tv,h5,hs g h6,h7,?_⟩
 rcases h8 with h | h
 ·exact Or.inl h
 ·exact Or.inr (h.mono hs)
theorem MapAt.shrink {S:Nat→Prop} {k:Nat} {W:World} {v:Value} {L:Prs} (h:MapAt S k W v L):MapAt (lowS S W) k W v L:=by
 have hk:=h.ok
 obtain ⟨h1,h2,h3,h4,g,tv,h5,h6,h7,h8⟩:=h
 refine ⟨h1,h2,h3,h4,g,tv,h5,⟨h6,lt_of_block h7⟩,h7,?_⟩
 rcases h8 with h | h
 ·exact Or.inl h
 ·exact Or.inr (h.shrink (hsZ_ok hk))
def mS (v7 v8:Value):Nat→Prop:=fun y=>v7.ownBlock≠some y∧v8.ownBlock≠some y
structure PlayAt (B k:Nat) (w:World) (v7 v8:Value) (xs ys:List Value) (ms:List (Value × Value × Prs)):Prop where
 o7:w.ownsRow B 24 1 v7 xs.length xs
 o8:w.ownsRow B 35 1 v8 ys.length ys
 el:∀ t∈ms,MapAt (mS v7 v8) k w t.1 t.2.2∧IAt (mS v7 v8) k w t.2.1 t.2.2∧t.2.2.length≤ms.length
theorem PlayAt.agr {B k:Nat} {w w':World} {v7 v8:Value} {xs ys:List Value} {ms:List (Value × Value × Prs)} (h:PlayAt B k w v7 v8 xs ys ms) (kk:Kept [] w w'):PlayAt B k w' v7 v8 xs ys ms :=
 ⟨kk.owns h.o7 (by simp),kk.owns h.o8 (by simp),fun t ht=>⟨(h.el t ht).1.agr (Agr.nil kk),(h.el t ht).2.1.agr (Agr.nil kk),(h.el t ht).2.2⟩⟩
theorem xa8s {w:World} {B B' e e' s s' n n':Nat} {v v':Value} {xs ys:List Value} (h:w.ownsRow B e s v n xs) (g:w.ownsRow B' e' s' v' n' ys) (hne:e'≠e):∀ b,v.ownBlock = some b→v'.ownBlock≠some b:=fun b hb=>by
 rcases h.2 with ⟨e1,_⟩ | ⟨g1,c,cur,e1,_,hg,_⟩
 ·rw [e1] at hb; simp [Value.ownBlock] at hb
 ·rw [e1] at hb
  simp [Value.ownBlock] at hb
  subst hb
  exact xa2x g hg hne
theorem xa6y {w w1:World} {row:Option Nat} {B e s n:Nat} {v:Value} {xs:List Value} (hg:w.grownBy w1 row) (h:w.ownsRow B e s v n xs) (hn:∀ b,row = some b→v.ownBlock≠some b):w1.ownsRow B e s v n xs:=by
 have k:=(Kept.refl row.toList w).grown hg (by intro x hx; left; simp [hx])
 exact k.owns h (fun b hb hm=>hn b (by simpa using hm) hb)
theorem xa9o {S:Nat→Prop} {w w1:World} {row:Option Nat} (hg:w.grownBy w1 row) (hS:∀ x,S x→row≠some x):Agr (lowS S w) w w1:=by
 have k:=(Kept.refl row.toList w).grown hg (by intro x hx; left; simp [hx])
 exact ⟨k.size,fun x hx hl=>k.block x hl (fun hm=>hS x hx.1 (by simpa using hm))⟩
theorem PlayAt.push7 {B k:Nat} {w w1:World} {v7 v8 v7':Value} {xs ys xs':List Value} {ms:List (Value × Value × Prs)} (h:PlayAt B k w v7 v8 xs ys ms) (ho:w1.ownsRow B 24 1 v7' xs'.length xs') (hg:w.grownBy w1 v7.ownBlock) (hb:v7'.ownBlock = v7.ownBlock∨v7'.ownBlock = some w.heap.size):PlayAt B k w1 v7' v8 xs' ys ms:=by
 have ha:=xa9o (S:=mS v7 v8) hg (fun x hx=>hx.1)
 have hs:∀ x,lowS (mS v7 v8) w x→mS v7' v8 x:=fun x hx=>⟨by
  rcases hb with e | e
  ·rw [e]; exact hx.1.1
  ·rw [e]; intro e2; have h2:=hx.2; injection e2 with e3; omega,hx.1.2⟩
 exact ⟨ho,xa6y hg h.o8 (xa8s h.o7 h.o8 (by decide)),fun t ht=>⟨((h.el t ht).1.shrink.agr ha).mono hs,((h.el t ht).2.1.shrink.agr ha).mono hs,(h.el t ht).2.2⟩⟩
theorem PlayAt.push8 {B k:Nat} {w w1:World} {v7 v8 v8':Value} {xs ys ys':List Value} {ms:List (Value × Value × Prs)} (h:PlayAt B k w v7 v8 xs ys ms) (ho:w1.ownsRow B 35 1 v8' ys'.length ys') (hg:w.grownBy w1 v8.ownBlock) (hb:v8'.ownBlock = v8.ownBlock∨v8'.ownBlock = some w.heap.size):PlayAt B k w1 v7 v8' xs ys' ms:=by
 have ha:=xa9o (S:=mS v7 v8) hg (fun x hx=>hx.2)
 have hs:∀ x,lowS (mS v7 v8) w x→mS v7 v8' x:=fun x hx=>⟨hx.1.1,by
  rcases hb with e | e
  ·rw [e]; exact hx.1.2
  ·rw [e]; intro e2; have h2:=hx.2; injection e2 with e3; omega⟩
 exact ⟨xa6y hg h.o7 (xa8s h.o8 h.o7 (by decide)),ho,fun t ht=>⟨((h.el t ht).1.shrink.agr ha).mono hs,((h.el t ht).2.1.shrink.agr ha).mono hs,(h.el t ht).2.2⟩⟩
theorem PlayAt.add {B k:Nat} {w:World} {v7 v8:Value} {xs ys:List Value} {ms:List (Value × Value × Prs)} (h:PlayAt B k w v7 v8 xs ys ms) (t:Value × Value × Prs) (h1:MapAt (mS v7 v8) k w t.1 t.2.2) (h2:IAt (mS v7 v8) k w t.2.1 t.2.2) (h3:t.2.2.length≤ms.length + 1):PlayAt B k w v7 v8 xs ys (ms++[t]) :=
 ⟨h.o7,h.o8,fun s hs=>by
  rw [List.length_append,List.length_singleton]
  rcases List.mem_append.1 hs with hs | hs
  ·exact ⟨(h.el s hs).1,(h.el s hs).2.1,by have:=(h.el s hs).2.2; omega⟩
  ·rw [List.mem_singleton] at hs; subst hs; exact ⟨h1,h2,h3⟩⟩
theorem own_at {w:World} {B e:Nat} {v:Value} {xs:List Value} (h:w.ownsRow B e 1 v xs.length xs) (hn:0 < xs.length):∃ g c,v = .slice (some ⟨g,0,none⟩) xs.length c∧xs.length≤c∧B≤g∧∀ k x,xs[k]? = some x→w.cell? ⟨g,k,none⟩ = some x:=by
 rcases h.2 with ⟨e1,h0⟩ | ⟨g,c,cur,e1,hB,hg,hc,_⟩
 ·omega
 ·refine ⟨g,c,e1,hc,hB,fun k x hx=>?_⟩
  have h9:=h.cells (g:=g) (by rw [e1]; rfl) k x hx
  rw [Addr.add_mid,Nat.zero_add] at h9
  exact h9
theorem xb5y (w:World) (B e:Nat) (x:Value) (hb:B≤w.heap.size):(w.alloc (.cells #[x] e)).ownsRow B e 1 (.slice (some ⟨w.heap.size,0,none⟩) 1 1) 1 [x] :=
 ⟨by simp,.inr ⟨w.heap.size,1,#[x],rfl,hb,heap_alloc_new w _,Nat.le_refl _,by unfold maxLen; omega,rfl,by simp⟩⟩
theorem xa9g (w:World) (e:TypeId) (x:Value):RdC 1 (w.alloc (.cells #[x] e)) (.slice (some ⟨w.heap.size,0,none⟩) 1 1) [[x]]:=⟨_,1,1,rfl,rfl,Nat.le_refl _,by omega,fun _=>⟨w.heap.size,0,rfl,fun j hj=>by
  have h0:j = 0:=by simp at hj; omega
  subst h0
  exact xa0o [] [x] [] (heap_alloc_new w _) rfl⟩⟩
theorem Tryz.infoPM:(Tryz.prog.info? 24).map (fun i=>(i.zero,i.size,i.bytes)) = some (some (.pointer none),1,8):=by kernel_rfl
theorem Tryz.infoIs:(Tryz.prog.info? 35).map (fun i=>(i.zero,i.size,i.bytes)) = some (some (.slice none 0 0),1,24):=by kernel_rfl
structure HOp where
 kd:Int
 fr:Int
 kv:Value
 vv:Value
 q:List Nat
 v:List Nat
instance:Inhabited HOp:=⟨⟨0,0,undef,undef,[],[]⟩⟩
def hopC (o:HOp):List Value:=[.int .i64 o.kd,.int .i64 o.fr,o.kv,o.vv]
structure OkHop (W:World) (o:HOp):Prop where
 kd:-9223372036854775808≤o.kd∧o.kd≤9223372036854775807
 fr:-9223372036854775808≤o.fr∧o.fr≤9223372036854775807
 q:Rd W o.kv o.q
 v:Rd W o.vv o.v
def RdHops (W:World) (v:Value) (os:List HOp):Prop:=RdC 4 W v (os.map hopC)∧∀ o∈os,OkHop W o
theorem xb6b (k:Nat) (kd:Int) (q v:List Nat) (L:Prs):(chL k kd q v L).length≤L.length + 1:=by
 unfold chL
 split
 ·split
  ·exact ins_le _ _ _ _
  ·omega
 ·split
  ·have:=del_le q L; omega
  ·omega
theorem xb2z {z:Int} (h:widthB z = true):∃ k:Nat,z = k∧1≤k∧k≤32:=by
 have h1:1≤z∧z≤32:=by simpa [widthB] using h
 exact ⟨z.toNat,by omega,by omega,by omega⟩
theorem Tryz.size_hop:(Tryz.prog.info? 34).map (·.size) = some 4:=by kernel_rfl
set_option maxHeartbeats 8000000 in
theorem hamtPlays_walk (z:Int) (sv:Value) (os:List HOp) (w:World) (hz:-9223372036854775808≤z∧z≤9223372036854775807) (hO:RdHops w sv os) (hx:os.length≤1048576) (hT:Tabs w) :
  Calls Tryz.prog 3 #[.int .i64 z,sv] w fun e w'=>e = .returned (.bool true)∧Below w.heap.size w w':=by
 obtain ⟨hO1,hO2⟩:=hO
 obtain ⟨ao,n,c,rfl,hn,hc1,hc2,hcell⟩:=hO1
 rw [List.length_map] at hn
 obtain ⟨S,hS⟩:∃ S:Nat→Prop,S = fun _=>True:=⟨_,rfl⟩
 have HS:=hide (show ∀ (n y:Nat),n≤y→S y from fun _ _ _=>by rw [hS]; trivial)
 have HT:=hide hT
 have HN:=hide hn
 have HCE:=hide hcell
 have HOK:=hide hO2
 have hnl:n≤1048576:=by omega
 clear hcell hO2 hT hS hn hx
 go_enter Tryz.func3,Tryz.ntmps3
 go_wp2_with fail
 refine Calls.mono (xb0d w (uh HT)) ?_
 rintro e w1 ⟨rfl,k1⟩
 have HK1:=hide k1
 clear k1
 cases hw:widthB z with
 | false =>
  go_wp2_with fail
  refine Calls.mono (xb9e z w1 hw) ?_
  rintro e w2 ⟨rfl,k2⟩
  have HK2:=hide ((uh HK1).trans k2 (by simp))
  clear k2
  go_wp2_with fail
  refine Calls.mono (xa6w z w2 hz) ?_
  rintro e w3 ⟨rfl,h3⟩
  rw [h3,hw]
  clear h3
  go_wp2_with fail
  go_ret
  exact ⟨rfl,(uh HK2).below (Nat.le_refl _) (by simp)⟩
 | true =>
  have HW:=hide hw
  obtain ⟨k,rfl,hk⟩:=xb2z hw
  clear hw
  go_wp2_with fail
  refine Calls.mono (xb5e S k w1 hk (uh HS _)) ?_
  rintro e w2 ⟨m2,rfl,hm2,k2⟩
  obtain ⟨g2,rfl⟩:=hm2.form
  have HM2:=hide hm2
  have HK2:=hide ((uh HK1).trans k2 (by simp))
  clear k2 hm2
  go_wp2_with fail
  refine Calls.mono (xa6w k w2 hz) ?_
  rintro e w3 ⟨rfl,h3⟩
  rw [h3,uh HW]
  clear h3 hz
  go_wp2_with fail
  refine Calls.mono (xa3x S S k _ _ [] w2 (uh HM2) (IAt.nil _ _ _) (uh HS _) ((uh HT).k (uh HK2))) ?_
  rintro e w3 ⟨rfl,k3⟩
  have HM3:=hide ((uh HM2).agr (Agr.nil k3))
  have HK3:=hide ((uh HK2).trans k3 (by simp))
  clear k3
  have ka:=(Kept.refl [] w3).alloc (.cells #[.pointer (some ⟨g2,0,none⟩)] 24)
  have kb:=(Kept.refl [] (w3.alloc (.cells #[.pointer (some ⟨g2,0,none⟩)] 24))).alloc (.cells #[.slice none 0 0] 35)
  have hz3:(w3.alloc (.cells #[.pointer (some ⟨g2,0,none⟩)] 24)).heap.size = w3.heap.size + 1:=by simp
  have o7:=kb.owns (xb5y w3 w3.heap.size 24 (.pointer (some ⟨g2,0,none⟩)) (Nat.le_refl _)) (by simp)
  have o8:=xb5y (w3.alloc (.cells #[.pointer (some ⟨g2,0,none⟩)] 24)) w3.heap.size 35 (.slice none 0 0) (by omega)
  rw [hz3] at o8
  have hlow:∀ x,lowS S w3 x→mS (.slice (some ⟨w3.heap.size,0,none⟩) 1 1) (.slice (some ⟨w3.heap.size + 1,0,none⟩) 1 1) x:=fun x hx=>by
   have h2:=hx.2
   constructor
   ·intro e; simp [Value.ownBlock] at e; omega
   ·intro e; simp [Value.ownBlock] at e; omega
  have kab:=ka.trans kb (by simp)
  have HPL:=hide (show PlayAt w3.heap.size k ((w3.alloc (.cells #[.pointer (some ⟨g2,0,none⟩)] 24)).alloc (.cells #[.slice none 0 0] 35)) (.slice (some ⟨w3.heap.size,0,none⟩) 1 1) (.slice (some ⟨w3.heap.size + 1,0,none⟩) 1 1) (List.map (·.1) [((.pointer (some ⟨g2,0,none⟩):Value),(.slice none 0 0:Value),([]:Prs))]) (List.map (·.2.1) [((.pointer (some ⟨g2,0,none⟩):Value),(.slice none 0 0:Value),([]:Prs))]) [((.pointer (some ⟨g2,0,none⟩):Value),(.slice none 0 0:Value),([]:Prs))] from ⟨o7,o8,fun t ht=>by
   rw [List.mem_singleton] at ht
   subst ht
   exact ⟨((uh HM3).shrink.mono hlow).agr (Agr.nil kab),IAt.nil _ _ _,by simp⟩⟩)
  have HKab:=hide kab
  clear ka kb hz3 o7 o8 hlow kab HM3 HM2
  go_wp2_with fail
  obtain ⟨W4,hW4⟩:∃ W4,(w3.alloc (.cells #[.pointer (some ⟨g2,0,none⟩)] 24)).alloc (.cells #[.slice none 0 0] 35) = W4:=⟨_,rfl⟩
  rw [hW4] at HPL HKab
  try rw [hW4]
  clear hW4
  go_loopw [7,8,46] (fun t7 t8 t46 wr=>∃ (j:Nat) (ms:List (Value × Value × Prs)),t46 = .int .i64 j∧j≤n∧1≤ms.length∧ms.length≤j + 1∧Hid (PlayAt w3.heap.size k wr t7 t8 (ms.map (·.1)) (ms.map (·.2.1)) ms)∧Hid (Kept [] w3 wr)) (fun _ _ t _=>n - (intOf t).toNat)
  case atStart=>exact ⟨0,_,rfl,Nat.zero_le _,Nat.le_refl _,Nat.le_refl _,HPL,HKab⟩
  case round =>
   clear HPL HKab
   obtain ⟨j,ms,rfl,hj,hm1,hm2,HPx,HKr⟩:=hrel
   have HKw:=hide ((uh HK3).trans (uh HKr) (by simp))
   obtain ⟨g7,c7,e7,hc7,hB7,hcl7⟩:=own_at (uh HPx).o7 (by rw [List.length_map]; omega)
   obtain ⟨g8,c8,e8,hc8,hB8,hcl8⟩:=own_at (uh HPx).o8 (by rw [List.length_map]; omega)
   rw [List.length_map] at e7 e8 hc7 hc8
   obtain ⟨N,hN⟩:∃ N,ms.length = N:=⟨_,rfl⟩
   have HMN:=hide hN
   rw [hN] at e7 e8 hc7 hc8 hm1 hm2
   subst e7 e8
   have HC7:=hide hcl7
   have HC8:=hide hcl8
   clear hcl7 hcl8 hN
   by_cases hlt:j < n
   ·have hlt':(j:Int) < n:=by omega
    have hjL:j < os.length:=by have:=uh HN; omega
    obtain ⟨b,off,rfl,hcl⟩:=uh HCE (by omega)
    have hro:=hcl j (by rw [List.length_map]; exact hjL)
    have hok:=uh HOK (os[j]) (List.getElem_mem hjL)
    rw [List.getElem_map] at hro
    generalize os[j] = o at hro hok
    obtain ⟨kd,fr,kv,vv,q,v⟩:=o
    obtain ⟨hkd,hfr,hq,hv⟩:=hok
    simp only at hkd hfr hq hv
    obtain ⟨x1,x2,x3,rfl,_⟩:=id hq
    obtain ⟨y1,y2,y3,rfl,_⟩:=id hv
    have HQ:=hide hq
    have HV:=hide hv
    have HRG:=hide (show wr.rangeAt b (off + j * 4) [.int .i64 kd,.int .i64 fr,.slice x1 x2 x3,.slice y1 y2 y3] from fun i u hi=>(uh HKw).cell (hro i u hi) (by simp))
    have HP2:=hide (heap_alloc_new wr (.cells #[.int .i64 kd,.int .i64 fr,.slice x1 x2 x3,.slice y1 y2 y3] 34))
    have HK2:=hide ((Kept.refl [] wr).alloc (.cells #[.int .i64 kd,.int .i64 fr,.slice x1 x2 x3,.slice y1 y2 y3] 34))
    clear hro hcl hq hv
    go_upto_region 13 with (refine wpList_load_mid rfl 34 (.tmp 48) rfl b (off + j * 4) rfl [.int .i64 kd,.int .i64 fr,.slice x1 x2 x3,.slice y1 y2 y3] _ (uh HRG) Tryz.underlying34 rfl Tryz.size_hop ?_)
    try simp only [Act.put]
    generalize wr.alloc (.cells #[.int .i64 kd,.int .i64 fr,.slice x1 x2 x3,.slice y1 y2 y3] 34) = W2 at HP2 HK2 ⊢
    have hcp:=xa0o [] [.int .i64 kd,.int .i64 fr,.slice x1 x2 x3,.slice y1 y2 y3] [] (uh HP2) rfl
    have c0:W2.cell? ⟨wr.heap.size,0,none⟩ = some (.int .i64 kd):=hcp 0 _ rfl
    have c1:W2.cell? ⟨wr.heap.size,1,none⟩ = some (.int .i64 fr):=hcp 1 _ rfl
    have c2:W2.cell? ⟨wr.heap.size,2,none⟩ = some (.slice x1 x2 x3):=hcp 2 _ rfl
    have c3:W2.cell? ⟨wr.heap.size,3,none⟩ = some (.slice y1 y2 y3):=hcp 3 _ rfl
    have HPy:=hide ((uh HPx).agr (uh HK2))
    have HKr2:=hide ((uh HKr).trans (uh HK2) (by simp))
    have HKw2:=hide ((uh HKw).trans (uh HK2) (by simp))
    clear hcp
    by_cases hneg:fr < 0
    ·go_wp2_with fail
     refine ⟨⟨j + 1,ms,by go_num,hlt,by have:=uh HMN; omega,by have:=uh HMN; omega,HPy,HKr2⟩,?_⟩
     simp [intOf]; omega
    ·by_cases hbig:fr ≥ N
     ·have hbig2:(N:Int)≤fr:=hbig
      go_wp2_with fail
      refine ⟨⟨j + 1,ms,by go_num,hlt,by have:=uh HMN; omega,by have:=uh HMN; omega,HPy,HKr2⟩,?_⟩
      simp [intOf]; omega
     ·obtain ⟨i,rfl⟩:∃ i:Nat,fr = i:=⟨fr.toNat,by omega⟩
      have hiN:i < N:=by omega
      have hiN':(i:Int) < N:=by omega
      have him:i < ms.length:=by have:=uh HMN; omega
      obtain ⟨hma,hia,hla⟩:=(uh HPy).el ms[i] (List.getElem_mem him)
      have h7:=(uh HK2).cell (uh HC7 i ms[i].1 (by rw [List.getElem?_map,List.getElem?_eq_getElem him]; rfl)) (by simp)
      have h8:=(uh HK2).cell (uh HC8 i ms[i].2.1 (by rw [List.getElem?_map,List.getElem?_eq_getElem him]; rfl)) (by simp)
      generalize ms[i] = t at hma hia hla h7 h8
      obtain ⟨mv,lv,L⟩:=t
      simp only at hma hia hla h7 h8
      obtain ⟨gm,rfl⟩:=hma.form
      obtain ⟨la,lc,ll,rfl,_⟩:=hia.parts
      have HMA:=hide hma
      have HIA:=hide hia
      have H7:=hide h7
      have H8:=hide h8
      have C1:=hide c1
      have hLN:L.length≤N:=by have:=uh HMN; omega
      have HQ2:=hide ((uh HQ).old (uh HKw2) (by simp))
      have HV2:=hide ((uh HV).old (uh HKw2) (by simp))
      have HTb:=hide ((uh HT).k (uh HKw2))
      have HOL7:=hide (fun z hz=>((uh HPy).o7.lt z hz).2)
      have HOL8:=hide (fun z hz=>((uh HPy).o8.lt z hz).2)
      have HMS:=hide (show ∀ (W:World),W2.heap.size≤W.heap.size→∀ y,W.heap.size≤y→mS (.slice (some ⟨g7,0,none⟩) N c7) (.slice (some ⟨g8,0,none⟩) N c8) y from fun W hW y hy=>⟨fun e=>by have:=uh HOL7 y e; omega,fun e=>by have:=uh HOL8 y e; omega⟩)
      clear hma hia h7 h8 hla hneg hbig him HRG
      go_upto_region 14 with fail
      have hd2:=(Kept.refl [] W2).drew
      refine lh_p14 (by kernel_rfl) (by kernel_rfl) rfl (fun W=>Kept [] W2 W) hd2 ?_
      refine LinY.rd (.slice (some ⟨g7,0,none⟩) N c7) (fun W hW=>by go_simp) (by simp only [Act.put,sa1,sa2,sa3]; rfl) ?_
      refine LinY.rd (.pointer (some ⟨wr.heap.size,1,none⟩)) (fun W hW=>by go_simp) (by simp only [Act.put,sa1,sa2,sa3]; rfl) ?_
      refine LinY.rd (.int .i64 i) (fun W hW=>by have h9:=hW.cell (uh C1) (by simp); go_simp) (by simp only [Act.put,sa1,sa2,sa3]; rfl) ?_
      refine LinY.rd (.pointer (some ⟨g7,i,none⟩)) (fun W hW=>by go_simp) (by simp only [Act.put,sa1,sa2,sa3]; rfl) ?_
      refine LinY.rd (.pointer (some ⟨gm,0,none⟩)) (fun W hW=>by have h9:=hW.cell (uh H7) (by simp); go_simp) (by simp only [Act.put,sa1,sa2,sa3]; rfl) ?_
      refine LinY.rd (.slice (some ⟨g8,0,none⟩) N c8) (fun W hW=>by go_simp) (by simp only [Act.put,sa1,sa2,sa3]; rfl) ?_
      refine LinY.rd (.pointer (some ⟨wr.heap.size,1,none⟩)) (fun W hW=>by go_simp) (by simp only [Act.put,sa1,sa2,sa3]; rfl) ?_
      refine LinY.rd (.int .i64 i) (fun W hW=>by have h9:=hW.cell (uh C1) (by simp); go_simp) (by simp only [Act.put,sa1,sa2,sa3]; rfl) ?_
      refine LinY.rd (.pointer (some ⟨g8,i,none⟩)) (fun W hW=>by go_simp) (by simp only [Act.put,sa1,sa2,sa3]; rfl) ?_
      refine LinY.rd (.slice la L.length lc) (fun W hW=>by have h9:=hW.cell (uh H8) (by simp); go_simp) (by simp only [Act.put,sa1,sa2,sa3]; rfl) ?_
      refine LinY.fin (ChL.op (.pointer (some ⟨gm,0,none⟩)) (by go_simp) hd2 (by simp only [Act.put,sa1,sa2,sa3]; rfl) ?_)
      refine ChL.op (.slice la L.length lc) (by go_simp) hd2 (by simp only [Act.put,sa1,sa2,sa3]; rfl) (ChL.fin ?_)
      have d0:=hd2.cell c0 (by simp)
      have d1:=hd2.cell c1 (by simp)
      have d2:=hd2.cell c2 (by simp)
      have d3:=hd2.cell c3 (by simp)
      have HKd:=hide hd2
      have HPz:=hide ((uh HPy).agr hd2)
      have HMA2:=hide ((uh HMA).agr (Agr.nil hd2))
      have HIA2:=hide ((uh HIA).agr (Agr.nil hd2))
      have HQ3:=hide ((uh HQ2).old hd2 (by simp))
      have HV3:=hide ((uh HV2).old hd2 (by simp))
      have HTd:=hide (Tabs.k (uh HTb) hd2)
      have HMS2:=hide (show ∀ y,W2.drew.heap.size≤y→mS (.slice (some ⟨g7,0,none⟩) N c7) (.slice (some ⟨g8,0,none⟩) N c8) y from uh HMS _ hd2.size)
      have HKr3:=hide ((uh HKr2).trans hd2 (by simp))
      generalize W2.drew = W3 at d0 d1 d2 d3 HKd HPz HMA2 HIA2 HQ3 HV3 HTd HMS2 HKr3 ⊢
      clear c0 c1 c2 c3 hd2
      by_cases h1:kd = 1
      ·subst h1
       have hcg:=xa7h (mS (.slice (some ⟨g7,0,none⟩) N c7) (.slice (some ⟨g8,0,none⟩) N c8)) (mS (.slice (some ⟨g7,0,none⟩) N c7) (.slice (some ⟨g8,0,none⟩) N c8)) k _ _ _ _ 1 i q v L W3 (by simp) (uh HMA2) (uh HIA2) (uh HQ3) (uh HV3) (by omega) (uh HMS2) (uh HMS2) (uh HTd)
       have hM0:=xb6b k 1 q v L
       generalize chL k 1 q v L = M at hcg hM0
       have HCG:=hide hcg
       clear hcg
       go_wp2_with fail
       refine Calls.mono (uh HCG) ?_
       rintro e w5 ⟨xv,lv5,rfl,⟨hmx,hix⟩,k5⟩
       obtain ⟨gx,rfl⟩:=hmx.form
       obtain ⟨ia,ic,il,rfl,_⟩:=hix.parts
       have hP5:=((uh HPz).agr k5).add (.pointer (some ⟨gx,0,none⟩),.slice ia M.length ic,M) hmx hix (by have:=uh HMN; show M.length≤_; omega)
       have ka:=(Kept.refl [] w5).alloc (.cells #[.pointer (some ⟨gx,0,none⟩)] 24)
       have HP6:=hide (hP5.agr ka)
       have HKA:=hide ((uh HKr3).trans (k5.trans ka (by simp)) (by simp))
       have HRL:=hide (xa9g w5 24 (.pointer (some ⟨gx,0,none⟩)))
       have hxl:(ms.map (·.1)).length = N:=by rw [List.length_map]; exact uh HMN
       have hyl:(ms.map (·.2.1)).length = N:=by rw [List.length_map]; exact uh HMN
       have HO6:=hide (show (w5.alloc (.cells #[.pointer (some ⟨gx,0,none⟩)] 24)).ownsRow w3.heap.size 24 1 (.slice (some ⟨g7,0,none⟩) N c7) N (ms.map (·.1)) by have h9:=(uh HP6).o7; rw [hxl] at h9; exact h9)
       have HXL:=hide hxl
       have HYL:=hide hyl
       clear hmx hix k5 hP5 ka hxl hyl
       have hb6:=(uh HKA).size
       have hNb:N + 1≤1100000:=by omega
       go_upto_region 22 with (at_builtin; refine xa0e rfl 30 24 (.tmp 86) (.tmp 88) rfl rfl _ w3.heap.size (.pointer none) 1 8 Tryz.underlying30 Tryz.infoPM rfl (by decide) (.slice (some ⟨g7,0,none⟩) N c7) N (ms.map (·.1)) (uh HO6) (some ⟨w5.heap.size,0,none⟩) 1 1 [[.pointer (some ⟨gx,0,none⟩)]] (uh HRL) (by intro r hr; simp at hr; subst hr; rfl) (by intro r hr u hu; simp at hr; subst hr; simp at hu; subst hu; rfl) (by omega) (by omega) hb6 rfl rfl ?_; intro ao7 cc7 w7 HO7 HG7 HA7)
       have HP7:=hide ((uh HP6).push7 (v7':=.slice ao7 (N + 1) cc7) (xs':=(ms++[((.pointer (some ⟨gx,0,none⟩):Value),(.slice ia M.length ic:Value),M)]).map (·.1)) (by rw [List.map_append,List.length_append,List.length_map,uh HMN]; exact uh HO7) (uh HG7) (uh HA7))
       have HK7:=hide ((uh HKA).grown (uh HG7) (fun x hx=>Or.inr ((uh HO6).lt x hx).1))
       have kb:=(Kept.refl [] w7).alloc (.cells #[.slice ia M.length ic] 35)
       have HP8:=hide ((uh HP7).agr kb)
       have HKB:=hide ((uh HK7).trans kb (by simp))
       have HRL8:=hide (xa9g w7 35 (.slice ia M.length ic))
       have HO8:=hide (show (w7.alloc (.cells #[.slice ia M.length ic] 35)).ownsRow w3.heap.size 35 1 (.slice (some ⟨g8,0,none⟩) N c8) N (ms.map (·.2.1)) by have h9:=(uh HP8).o8; rw [uh HYL] at h9; exact h9)
       clear kb hb6 HO7 HG7 HA7 HP6 HP7 HRL HO6
       have hb8:=(uh HKB).size
       go_wp2_with (at_builtin; refine xa0e rfl 31 35 (.tmp 90) (.tmp 92) rfl rfl _ w3.heap.size (.slice none 0 0) 1 24 Tryz.underlying31 Tryz.infoIs rfl (by decide) (.slice (some ⟨g8,0,none⟩) N c8) N (ms.map (·.2.1)) (uh HO8) (some ⟨w7.heap.size,0,none⟩) 1 1 [[.slice ia M.length ic]] (uh HRL8) (by intro r hr; simp at hr; subst hr; rfl) (by intro r hr u hu; simp at hr; subst hr; simp at hu; subst hu; rfl) (by omega) (by omega) hb8 rfl rfl ?_; intro ao8 cc8 w9 HO9 HG9 HA9)
       have HP9:=hide ((uh HP8).push8 (v8':=.slice ao8 (N + 1) cc8) (ys':=(ms++[((.pointer (some ⟨gx,0,none⟩):Value),(.slice ia M.length ic:Value),M)]).map (·.2.1)) (by rw [List.map_append,List.length_append,List.length_map,uh HMN]; exact uh HO9) (uh HG9) (uh HA9))
       have HK9:=hide ((uh HKB).grown (uh HG9) (fun x hx=>Or.inr ((uh HO8).lt x hx).1))
       clear hb8 hNb
       refine ⟨⟨j + 1,ms++[((.pointer (some ⟨gx,0,none⟩):Value),(.slice ia M.length ic:Value),M)],by go_num,hlt,by simp,by rw [List.length_append,List.length_singleton,uh HMN]; omega,HP9,HK9⟩,?_⟩
       simp [intOf]; omega
      ·by_cases h2:kd = 2
       ·subst h2
        have hcg:=xa7h (mS (.slice (some ⟨g7,0,none⟩) N c7) (.slice (some ⟨g8,0,none⟩) N c8)) (mS (.slice (some ⟨g7,0,none⟩) N c7) (.slice (some ⟨g8,0,none⟩) N c8)) k _ _ _ _ 2 i q v L W3 (by simp) (uh HMA2) (uh HIA2) (uh HQ3) (uh HV3) (by omega) (uh HMS2) (uh HMS2) (uh HTd)
        have hM0:=xb6b k 2 q v L
        generalize chL k 2 q v L = M at hcg hM0
        have HCG:=hide hcg
        clear hcg
        go_wp2_with fail
        refine Calls.mono (uh HCG) ?_
        rintro e w5 ⟨xv,lv5,rfl,⟨hmx,hix⟩,k5⟩
        obtain ⟨gx,rfl⟩:=hmx.form
        obtain ⟨ia,ic,il,rfl,_⟩:=hix.parts
        have hP5:=((uh HPz).agr k5).add (.pointer (some ⟨gx,0,none⟩),.slice ia M.length ic,M) hmx hix (by have:=uh HMN; show M.length≤_; omega)
        have ka:=(Kept.refl [] w5).alloc (.cells #[.pointer (some ⟨gx,0,none⟩)] 24)
        have HP6:=hide (hP5.agr ka)
        have HKA:=hide ((uh HKr3).trans (k5.trans ka (by simp)) (by simp))
        have HRL:=hide (xa9g w5 24 (.pointer (some ⟨gx,0,none⟩)))
        have hxl:(ms.map (·.1)).length = N:=by rw [List.length_map]; exact uh HMN
        have hyl:(ms.map (·.2.1)).length = N:=by rw [List.length_map]; exact uh HMN
        have HO6:=hide (show (w5.alloc (.cells #[.pointer (some ⟨gx,0,none⟩)] 24)).ownsRow w3.heap.size 24 1 (.slice (some ⟨g7,0,none⟩) N c7) N (ms.map (·.1)) by have h9:=(uh HP6).o7; rw [hxl] at h9; exact h9)
        have HXL:=hide hxl
        have HYL:=hide hyl
        clear hmx hix k5 hP5 ka hxl hyl
        have hb6:=(uh HKA).size
        have hNb:N + 1≤1100000:=by omega
        go_upto_region 22 with (at_builtin; refine xa0e rfl 30 24 (.tmp 86) (.tmp 88) rfl rfl _ w3.heap.size (.pointer none) 1 8 Tryz.underlying30 Tryz.infoPM rfl (by decide) (.slice (some ⟨g7,0,none⟩) N c7) N (ms.map (·.1)) (uh HO6) (some ⟨w5.heap.size,0,none⟩) 1 1 [[.pointer (some ⟨gx,0,none⟩)]] (uh HRL) (by intro r hr; simp at hr; subst hr; rfl) (by intro r hr u hu; simp at hr; subst hr; simp at hu; subst hu; rfl) (by omega) (by omega) hb6 rfl rfl ?_; intro ao7 cc7 w7 HO7 HG7 HA7)
        have HP7:=hide ((uh HP6).push7 (v7':=.slice ao7 (N + 1) cc7) (xs':=(ms++[((.pointer (some ⟨gx,0,none⟩):Value),(.slice ia M.length ic:Value),M)]).map (·.1)) (by rw [List.map_append,List.length_append,List.length_map,uh HMN]; exact uh HO7) (uh HG7) (uh HA7))
        have HK7:=hide ((uh HKA).grown (uh HG7) (fun x hx=>Or.inr ((uh HO6).lt x hx).1))
        have kb:=(Kept.refl [] w7).alloc (.cells #[.slice ia M.length ic] 35)
        have HP8:=hide ((uh HP7).agr kb)
        have HKB:=hide ((uh HK7).trans kb (by simp))
        have HRL8:=hide (xa9g w7 35 (.slice ia M.length ic))
        have HO8:=hide (show (w7.alloc (.cells #[.slice ia M.length ic] 35)).ownsRow w3.heap.size 35 1 (.slice (some ⟨g8,0,none⟩) N c8) N (ms.map (·.2.1)) by have h9:=(uh HP8).o8; rw [uh HYL] at h9; exact h9)
        clear kb hb6 HO7 HG7 HA7 HP6 HP7 HRL HO6
        have hb8:=(uh HKB).size
        go_wp2_with (at_builtin; refine xa0e rfl 31 35 (.tmp 90) (.tmp 92) rfl rfl _ w3.heap.size (.slice none 0 0) 1 24 Tryz.underlying31 Tryz.infoIs rfl (by decide) (.slice (some ⟨g8,0,none⟩) N c8) N (ms.map (·.2.1)) (uh HO8) (some ⟨w7.heap.size,0,none⟩) 1 1 [[.slice ia M.length ic]] (uh HRL8) (by intro r hr; simp at hr; subst hr; rfl) (by intro r hr u hu; simp at hr; subst hr; simp at hu; subst hu; rfl) (by omega) (by omega) hb8 rfl rfl ?_; intro ao8 cc8 w9 HO9 HG9 HA9)
        have HP9:=hide ((uh HP8).push8 (v8':=.slice ao8 (N + 1) cc8) (ys':=(ms++[((.pointer (some ⟨gx,0,none⟩):Value),(.slice ia M.length ic:Value),M)]).map (·.2.1)) (by rw [List.map_append,List.length_append,List.length_map,uh HMN]; exact uh HO9) (uh HG9) (uh HA9))
        have HK9:=hide ((uh HKB).grown (uh HG9) (fun x hx=>Or.inr ((uh HO8).lt x hx).1))
        clear hb8 hNb
        refine ⟨⟨j + 1,ms++[((.pointer (some ⟨gx,0,none⟩):Value),(.slice ia M.length ic:Value),M)],by go_num,hlt,by simp,by rw [List.length_append,List.length_singleton,uh HMN]; omega,HP9,HK9⟩,?_⟩
        simp [intOf]; omega
       ·by_cases h3:kd = 3
        ·subst h3
         go_wp2_with fail
         refine Calls.mono (xa8q _ _ k _ _ _ q L W3 (uh HMA2) (uh HIA2) (uh HQ3) (uh HMS2) (uh HTd)) ?_
         rintro e w5 ⟨rfl,k5⟩
         have HP5:=hide ((uh HPz).agr k5)
         have HK5:=hide ((uh HKr3).trans k5 (by simp))
         clear k5
         go_wp2_with fail
         refine ⟨⟨j + 1,ms,by go_num,hlt,by have:=uh HMN; omega,by have:=uh HMN; omega,HP5,HK5⟩,?_⟩
         simp [intOf]; omega
        ·by_cases h4:kd = 4
         ·subst h4
          go_wp2_with fail
          refine Calls.mono (xa8q _ _ k _ _ _ q L W3 (uh HMA2) (uh HIA2) (uh HQ3) (uh HMS2) (uh HTd)) ?_
          rintro e w5 ⟨rfl,k5⟩
          have HP5:=hide ((uh HPz).agr k5)
          have HK5:=hide ((uh HKr3).trans k5 (by simp))
          clear k5
          go_wp2_with fail
          refine ⟨⟨j + 1,ms,by go_num,hlt,by have:=uh HMN; omega,by have:=uh HMN; omega,HP5,HK5⟩,?_⟩
          simp [intOf]; omega
         ·have b1:(kd == 1) = false:=by rw [beq_eq_false_iff_ne]; exact h1
          have b2:(kd == 2) = false:=by rw [beq_eq_false_iff_ne]; exact h2
          have b3:(kd == 3) = false:=by rw [beq_eq_false_iff_ne]; exact h3
          have b4:(kd == 4) = false:=by rw [beq_eq_false_iff_ne]; exact h4
          clear h1 h2 h3 h4
          go_wp2_with fail
          refine ⟨⟨j + 1,ms,by go_num,hlt,by have:=uh HMN; omega,by have:=uh HMN; omega,HPz,HKr3⟩,?_⟩
          simp [intOf]; omega
   ·have hje:j = n:=by omega
    have hlt':¬ (j:Int) < n:=by omega
    obtain ⟨w7,hw7⟩:∃ w7,w7 = wr:=⟨_,rfl⟩
    subst hw7
    have HOL7:=hide (fun z hz=>((uh HPx).o7.lt z hz).2)
    have HOL8:=hide (fun z hz=>((uh HPx).o8.lt z hz).2)
    go_wp2_with fail
    go_loopw [16] (fun t16 wr=>∃ (i:Nat),t16 = .int .i64 i∧i≤N∧Hid (Kept [] w7 wr)) (fun t _=>N - (intOf t).toNat)
    case atStart=>exact ⟨0,rfl,Nat.zero_le _,hide (Kept.refl _ _)⟩
    case round =>
     obtain ⟨i,rfl,hi,HKi⟩:=hrel
     by_cases hil:i < N
     ·have hil':(i:Int) < N:=by omega
      have him:i < ms.length:=by have:=uh HMN; omega
      obtain ⟨hma,hia,hla⟩:=(uh HPx).el ms[i] (List.getElem_mem him)
      have H7:=hide ((uh HKi).cell (uh HC7 i ms[i].1 (by rw [List.getElem?_map,List.getElem?_eq_getElem him]; rfl)) (by simp))
      have H8:=hide ((uh HKi).cell (uh HC8 i ms[i].2.1 (by rw [List.getElem?_map,List.getElem?_eq_getElem him]; rfl)) (by simp))
      generalize ms[i] = t at hma hia hla H7 H8
      obtain ⟨mv,lv,L⟩:=t
      simp only at hma hia hla H7 H8
      have HMA:=hide (hma.agr (Agr.nil (uh HKi)))
      have HIA:=hide (hia.agr (Agr.nil (uh HKi)))
      obtain ⟨gm,rfl⟩:=hma.form
      obtain ⟨la,lc,ll,rfl,_⟩:=hia.parts
      have HMS:=hide (show ∀ (W:World),w7.heap.size≤W.heap.size→∀ y,W.heap.size≤y→mS (.slice (some ⟨g7,0,none⟩) N c7) (.slice (some ⟨g8,0,none⟩) N c8) y from fun W hW y hy=>⟨fun e=>by have:=uh HOL7 y e; omega,fun e=>by have:=uh HOL8 y e; omega⟩)
      have HTb:=hide ((uh HT).k ((uh HKw).trans (uh HKi) (by simp)))
      clear hma hia hla him
      go_upto_region 31 with fail
      have hd2:=(Kept.refl [] wr).drew
      refine lh_te (by kernel_rfl) (by kernel_rfl) rfl (fun W=>Kept [] wr W) hd2 ?_
      refine LinY.rd (.int .i64 k) (fun W hW=>by go_simp) (by simp only [Act.put,sa1,sa2,sa3]; rfl) ?_
      refine LinY.rd (.slice (some ⟨g7,0,none⟩) N c7) (fun W hW=>by go_simp) (by simp only [Act.put,sa1,sa2,sa3]; rfl) ?_
      refine LinY.rd (.int .i64 i) (fun W hW=>by go_simp) (by simp only [Act.put,sa1,sa2,sa3]; rfl) ?_
      refine LinY.rd (.pointer (some ⟨g7,i,none⟩)) (fun W hW=>by go_simp) (by simp only [Act.put,sa1,sa2,sa3]; rfl) ?_
      refine LinY.rd (.pointer (some ⟨gm,0,none⟩)) (fun W hW=>by have h9:=hW.cell (uh H7) (by simp); go_simp) (by simp only [Act.put,sa1,sa2,sa3]; rfl) ?_
      refine LinY.rd (.slice (some ⟨g8,0,none⟩) N c8) (fun W hW=>by go_simp) (by simp only [Act.put,sa1,sa2,sa3]; rfl) ?_
      refine LinY.rd (.int .i64 i) (fun W hW=>by go_simp) (by simp only [Act.put,sa1,sa2,sa3]; rfl) ?_
      refine LinY.rd (.pointer (some ⟨g8,i,none⟩)) (fun W hW=>by go_simp) (by simp only [Act.put,sa1,sa2,sa3]; rfl) ?_
      refine LinY.rd (.slice la L.length lc) (fun W hW=>by have h9:=hW.cell (uh H8) (by simp); go_simp) (by simp only [Act.put,sa1,sa2,sa3]; rfl) ?_
      refine LinY.fin (ChL.call rfl Tryz.call12 [.int .i64 k,.pointer (some ⟨gm,0,none⟩),.slice la L.length lc] rfl (xa3x _ _ k _ _ L wr.drew ((uh HMA).agr (Agr.nil hd2)) ((uh HIA).agr (Agr.nil hd2)) (uh HMS _ (Nat.le_trans (uh HKi).size hd2.size)) (Tabs.k (uh HTb) hd2)) ?_)
      rintro e w8 ⟨rfl,k8⟩
      have hk8:=hd2.trans k8 (by simp)
      refine ⟨_,rfl,hk8,?_⟩
      simp only [Act.put,sa1,sa2,sa3]
      refine ChL.op (.bool false) (by go_simp) hk8 (by simp only [Act.put,sa1,sa2,sa3]; rfl) (ChL.fin ?_)
      have HK8:=hide ((uh HKi).trans hk8 (by simp))
      clear hk8 k8 hd2
      go_wp2_with fail
      refine ⟨⟨i + 1,by go_num,hil,HK8⟩,?_⟩
      simp [intOf]; omega
     ·have hil':¬ (i:Int) < N:=by omega
      go_wp2_with fail
      go_ret
      exact ⟨rfl,((uh HKw).trans (uh HKi) (by simp)).below (Nat.le_refl _) (by simp)⟩
end
section
open Go.ChangeShapes Go.WideShapes Go.ChangeAt Go.RowKit Go.Deep
theorem own:ownKnob Tryz.prog.godebug = none:=by kernel_rfl
theorem laidOut:laidOutB Tryz.prog = true:=by kernel_rfl
theorem xa6d {x:Int} (h:(Lit.int .u8 x).wf = true):0≤x∧x < 256:=by
 simp [Lit.wf,IntKind.min,IntKind.max,IntKind.signed,IntKind.bits] at h
 exact ⟨by omega,by omega⟩
theorem xa5t {x:Int} (h:(Lit.int .i64 x).wf = true):-9223372036854775808≤x∧x≤9223372036854775807:=by
 simp [Lit.wf,IntKind.min,IntKind.max,IntKind.signed,IntKind.bits] at h
 exact ⟨by omega,by omega⟩
theorem xb7e {H:Type} (d:DataW H):1≤Rows.uptoBulk d:=by
 cases d with
 | lit l=>cases l <;> simp [Rows.uptoBulk]
 | nil=>simp [Rows.uptoBulk]
 | ptr d=>simp [Rows.uptoBulk]
 | slice elems spare=>simp [Rows.uptoBulk]
 | agg parts=>simp [Rows.uptoBulk]
 | iface t d=>simp [Rows.uptoBulk]
 | map entries=>simp [Rows.uptoBulk]
 | held h=>simp [Rows.uptoBulk]
theorem xb8e {H:Type} (l:List (DataW H)):l.length≤Rows.uptoBulkAll l:=by
 induction l with
 | nil=>simp [Rows.uptoBulkAll]
 | cons x r ih=>have:=xb7e x; simp only [Rows.uptoBulkAll,List.length_cons]; omega
section
variable {H:Type} {enc:TypeId × Value→H} {W:World}
theorem xa6f {fuel:Nat} {cs:List Value} {x:DataW H × List MemPlace} (h:DataW.trod enc Tryz.prog W 0 (fun _=>true) true fuel 32 cs = some x) :
  ∃ v bs,cs = [v]∧(bs.length≤140737488355328→Rd W v bs)∧((bs = []∧x.1 = .nil)∨∃ elems spare,x.1 = .slice elems spare∧elems.length = bs.length):=by
 rcases open_ints Tryz.underlying32 Tryz.underlying5 (by kernel_rfl) h with ⟨rfl,rfl⟩ | ⟨a,len,cap,zs,rfl,_,hl,hm,hz,rfl,hcell,hwz⟩
 ·exact ⟨_,[],rfl,fun _=>Rd.nil W,.inl ⟨rfl,rfl⟩⟩
 ·have h2:(lits (H:=H) .u8 (zs.take len)).length = len:=by simp only [lits,List.length_map,List.length_take]; simp at hz; omega
  have hbl:((zs.take len).map Int.toNat).length = len:=by simp at hz; simp; omega
  refine ⟨_,(zs.take len).map Int.toNat,rfl,fun hB=>⟨_,_,_,rfl,hbl,hl,⟨by unfold maxLen at hm; omega,by omega⟩,by simp,?_,?_⟩,.inr ⟨_,_,rfl,by rw [h2,hbl]⟩⟩
  ·intro y hy
   obtain ⟨z,hz1,rfl⟩:=List.mem_map.1 hy
   have:=xa6d (hwz z (List.mem_of_mem_take hz1)); omega
  ·intro hp
   simp at hz
   have hc0:=hcell 0 (by omega)
   obtain ⟨b,off,spot⟩:=a
   have hspot:spot = none:=by simpa [Addr.add] using World.cell?_spot hc0
   subst hspot
   refine ⟨b,off,rfl,fun i hi=>?_⟩
   have hc:=hcell i (by omega)
   have hzi:i < zs.length:=by omega
   rw [Addr.add_mid] at hc
   rw [hc]
   have hw:=xa6d (hwz (zs[i]) (List.getElem_mem hzi))
   simp only [List.getD_eq_getElem?_getD,List.getElem?_eq_getElem hzi,Option.getD_some,List.getElem?_map,List.getElem?_take,hi,if_true,Option.map_some]
   simp [u8]; omega
theorem xa7c {d:DataW H} {bs:List Nat} (hx:(bs = []∧d = .nil)∨∃ elems spare,d = .slice elems spare∧elems.length = bs.length):bs.length + 1≤Rows.uptoBulk d:=by
 rcases hx with ⟨rfl,rfl⟩ | ⟨elems,spare,rfl,he⟩
 ·simp [Rows.uptoBulk]
 ·have:=xb8e elems
  simp only [Rows.uptoBulk]; omega
end
section
variable {H:Type} {enc:TypeId × Value→H} {W:World}
theorem xb9x {d:DataW H} {l:List (DataW H)} (h:d∈l):Rows.uptoBulk d≤Rows.uptoBulkAll l:=by
 induction l with
 | nil=>simp at h
 | cons a l ih =>
  simp only [Rows.uptoBulkAll]
  rcases List.mem_cons.1 h with rfl | h
  ·omega
  ·have:=ih h; omega
theorem ho_sum {α:Type} (D:Nat→DataW H) (f:Nat→α) (μ:α→Nat) (l:List Nat) (h:∀ i∈l,μ (f i)≤Rows.uptoBulk (D i)):((l.map f).map μ).sum≤Rows.uptoBulkAll (l.map D):=by
 induction l with
 | nil=>simp
 | cons a l ih =>
  have h1:=h a (by simp)
  have h2:=ih (fun i hi=>h i (by simp [hi]))
  simp only [List.map_cons,Rows.uptoBulkAll,List.sum_cons]
  omega
theorem xa5j (cs:List Value) (a n:Nat):cs.drop a = (cs.drop a).take n++cs.drop (a + n):=by
 rw [← List.drop_drop,List.take_append_drop]
theorem xc0r {T E:TypeId} {s:Nat} (hu:Tryz.prog.underlying T = some (.slice E)) (hC:Tryz.prog.cellsOf E = s) {α:Type} [Inhabited α] (mk:α→List Value) (hne:∀ a,(mk a).length = s) (hs0:0 < s) (Q:α→Prop) (μ:α→Nat)
  (hel:∀ (n:Nat) (cs:List Value) (y:DataW H × List MemPlace),DataW.trod enc Tryz.prog W 0 (fun _=>true) true n E cs = some y→Rows.uptoBulk y.1≤1048576→∃ a,cs = mk a∧Q a∧μ a≤Rows.uptoBulk y.1)
  {fuel:Nat} {cs:List Value} {x:DataW H × List MemPlace} (h:DataW.trod enc Tryz.prog W 0 (fun _=>true) true fuel T cs = some x) (hB:Rows.uptoBulk x.1≤1048576) :
  ∃ (v:Value) (l:List α),cs = [v]∧RdC s W v (l.map mk)∧(∀ a∈l,Q a)∧(l.map μ).sum + 1≤Rows.uptoBulk x.1:=by
 rcases open_slice hu h with ⟨rfl,rfl⟩ | ⟨a,len,cap,m,n,D,Pl,rfl,_,hl,hm,hmm,rfl,hx⟩
 ·exact ⟨_,[],rfl,RdC.nil s W,by simp,by simp [Rows.uptoBulk]⟩
 ·rw [hC] at hx
  simp only [if_true] at hmm
  simp only [Rows.uptoBulk] at hB ⊢
  obtain ⟨f,hf⟩:=choose_lt (α:=α) (n:=len) (p:=fun i o=>((∀ j v,(mk o)[j]? = some v→W.cell? ((a.add (i * s)).add j) = some v)∧Q o)∧μ o≤Rows.uptoBulk (D i)) (by
   intro i hi
   obtain ⟨cs',h1,h2⟩:=hx i (by omega)
   have hDi:Rows.uptoBulk (D i)≤Rows.uptoBulkAll ((List.range len).map D):=xb9x (List.mem_map.2 ⟨i,List.mem_range.2 hi,rfl⟩)
   obtain ⟨o,rfl,ho,hbb⟩:=hel _ _ _ h2 (by simp only; omega)
   obtain ⟨_,hlen,hc⟩:=World.cells?_some h1
   refine ⟨o,⟨fun j v hv=>?_,ho⟩,hbb⟩
   have hj:=(List.getElem?_eq_some_iff.1 hv).1
   have:=hc j (by rw [hne] at hj; exact hj)
   rw [this,← hv,List.getElem?_eq_getElem hj])
  refine ⟨_,(List.range len).map f,rfl,⟨some a,len,cap,rfl,by simp,hl,by unfold maxLen at hm; omega,?_⟩,?_,?_⟩
  ·intro hp
   obtain ⟨b,off,spot⟩:=a
   have h0:=(hf 0 hp).1.1
   have hc0:=h0 0 _ (List.getElem?_eq_getElem (by rw [hne]; exact hs0))
   have hspot:spot = none:=by simpa [Addr.add] using World.cell?_spot hc0
   subst hspot
   refine ⟨b,off,rfl,fun i hi j v hv=>?_⟩
   have hi':i < len:=by simpa using hi
   have e9:(((List.range len).map f).map mk)[i] = mk (f i):=by simp
   rw [e9] at hv
   have:=(hf i hi').1.1 j v hv
   rw [Addr.add_mid,Addr.add_mid] at this
   exact this
  ·intro o ho
   obtain ⟨i,hi,rfl⟩:=List.mem_map.1 ho
   exact (hf i (List.mem_range.1 hi)).1.2
  ·have:=ho_sum D f μ (List.range len) (fun i hi=>(hf i (List.mem_range.1 hi)).2)
   omega
theorem xb9d {α:Type} (l:List α):(l.map fun _=>1).sum = l.length:=by
 induction l with
 | nil=>rfl
 | cons a r ih=>simp only [List.map_cons,List.sum_cons,List.length_cons,ih]; omega
theorem xb8n {fuel:Nat} {cs:List Value} {x:DataW H × List MemPlace} (h:DataW.trod enc Tryz.prog W 0 (fun _=>true) true fuel 34 cs = some x) (hB:Rows.uptoBulk x.1≤1048576) :
  ∃ o:HOp,cs = hopC o∧OkHop W o∧1≤Rows.uptoBulk x.1:=by
 obtain ⟨xs,n,_,rfl,hl,hlen,hf⟩:=DataW.trod_struct Tryz.underlying34 h
 rw [show Tryz.prog.cellsOf 34 = 4 from by kernel_rfl] at hl
 match xs,hlen with
 | [y0,y1,y2,y3],_ =>
  have ci:Tryz.prog.cellsOf 3 = 1:=by kernel_rfl
  have cb:Tryz.prog.cellsOf 32 = 1:=by kernel_rfl
  have f0:DataW.trod enc Tryz.prog W 0 (fun _=>true) true n 3 ((cs.drop 0).take 1) = some y0:=by rw [← ci]; exact hf 0 _ rfl
  have f1:DataW.trod enc Tryz.prog W 0 (fun _=>true) true n 3 ((cs.drop 1).take 1) = some y1:=by rw [← ci]; exact hf 1 _ rfl
  have f2:DataW.trod enc Tryz.prog W 0 (fun _=>true) true n 32 ((cs.drop 2).take 1) = some y2:=by rw [← cb]; exact hf 2 _ rfl
  have f3:DataW.trod enc Tryz.prog W 0 (fun _=>true) true n 32 ((cs.drop 3).take 1) = some y3:=by rw [← cb]; exact hf 3 _ rfl
  simp only [List.map_cons,List.map_nil,Rows.uptoBulk,Rows.uptoBulkAll] at hB ⊢
  obtain ⟨z0,e0,q0,w0⟩:=DataW.trod_int Tryz.underlying3 f0
  have g0:=xa5t w0
  obtain ⟨z1,e1,q1,w1⟩:=DataW.trod_int Tryz.underlying3 f1
  have g1:=xa5t w1
  obtain ⟨v2,z2,e2,hr2,hb2⟩:=xa6f f2
  have b2:=xa7c hb2
  have r2:=hr2 (by omega)
  obtain ⟨v3,z3,e3,hr3,hb3⟩:=xa6f f3
  have b3:=xa7c hb3
  have r3:=hr3 (by omega)
  have hd:cs.drop 4 = []:=List.drop_eq_nil_of_le (by omega)
  have this:=xa5j cs 0 1
  rw [e0,xa5j cs 1 1,e1,xa5j cs 2 1,e2,xa5j cs 3 1,e3,hd,List.drop_zero] at this
  exact ⟨⟨z0,z1,v2,v3,z2,z3⟩,by rw [this]; rfl,⟨g0,g1,r2,r3⟩,Nat.le_add_left 1 _⟩
theorem xb4u {fuel:Nat} {cs:List Value} {x:DataW H × List MemPlace} (h:DataW.trod enc Tryz.prog W 0 (fun _=>true) true fuel 22 cs = some x) (hB:Rows.uptoBulk x.1≤1048576) :
  ∃ (v:Value) (l:List HOp),cs = [v]∧RdHops W v l∧l.length≤1048576:=by
 obtain ⟨v,l,h1,h2,h3,h4⟩:=xc0r Tryz.underlying22 (by kernel_rfl:Tryz.prog.cellsOf 34 = 4) hopC (by intro a; rfl) (by decide) (OkHop W) (fun _=>1) (fun n cs y h hB=>xb8n h hB) h hB
 rw [xb9d] at h4
 exact ⟨v,l,h1,⟨h2,h3⟩,Nat.le_of_succ_le (Nat.le_trans h4 hB)⟩
end
end
end Go.Proofs.YtfnbmnpkjggiaaaGreatDoor
