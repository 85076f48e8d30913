import Derived.Test.YtiopaaeejppnnaaGreatDoorTopC
namespace Go.Proofs.YtiopaaeejppnnaaGreatDoor
set_option linter.unusedVariables false
set_option linter.unusedSimpArgs false
set_option maxRecDepth 100000
section
open Go Go.RowKit Go.BigFrame
theorem lr_t7 {P:Program} {Q:Exit→Act→World→Prop} {id:Nat} {o0 o1 o2 o3 o4 o5 o6:Oper} {a:Act} {w:World} (hm:P.follows .mixedOrders = true) (hb:linBT #[o0,o1,o2,o3,o4,o5,o6] [0,1,2,3,4,5] [] 6 = true) (hg:([o0,o1,o2,o3,o4,o5]++([]++[o6])).all (fun o=>o.guard.isNone) = true) (T:World→Prop) (hT:T w.drew)
  (h:LinY P T (ChL P Q T (fun a w=>o6.wp P a w (Q .normal) (NoPanic Q)) []) [o0,o1,o2,o3,o4,o5] a w.drew):(Code.region id #[o0,o1,o2,o3,o4,o5,o6] true).wp P Q a w:=xb2n (R:=[0,1,2,3,4,5]) (C:=[]) (t:=6) (rs:=[o0,o1,o2,o3,o4,o5]) (cs:=[]) hm hb rfl rfl rfl hg hT h
theorem lr_t8 {P:Program} {Q:Exit→Act→World→Prop} {id:Nat} {o0 o1 o2 o3 o4 o5 o6 o7 o8 o9 o10:Oper} {a:Act} {w:World} (hm:P.follows .mixedOrders = true) (hb:linBT #[o0,o1,o2,o3,o4,o5,o6,o7,o8,o9,o10] [0,1,2,3,4,5] [6,7,8,9] 10 = true) (hg:([o0,o1,o2,o3,o4,o5]++([o6,o7,o8,o9]++[o10])).all (fun o=>o.guard.isNone) = true) (T:World→Prop) (hT:T w.drew)
  (h:LinY P T (ChL P Q T (fun a w=>o10.wp P a w (Q .normal) (NoPanic Q)) [o6,o7,o8,o9]) [o0,o1,o2,o3,o4,o5] a w.drew):(Code.region id #[o0,o1,o2,o3,o4,o5,o6,o7,o8,o9,o10] true).wp P Q a w:=xb2n (R:=[0,1,2,3,4,5]) (C:=[6,7,8,9]) (t:=10) (rs:=[o0,o1,o2,o3,o4,o5]) (cs:=[o6,o7,o8,o9]) hm hb rfl rfl rfl hg hT h
end
section
open Go.RowKit Go.BigFrame
theorem xb4v {P:Program} {o:Oper} {a:Act} (w:World) (t t2:TypeId) (y:Operand) (ho:o.op = .binOp .shl t (.const (.int .u16 1)) y t2) (k:Nat) (hk:k≤15) (hy:a.eval y = .int .i64 (k:Int)):(execOp a.eval o).run P w = .ok (.value (.int .u16 ((2 ^ k:Nat):Int))) w:=by
 have e:(Op.shift .shl .u16 1 .i64 (k:Int)).run P w = .ok (.int .u16 ((2 ^ k:Nat):Int)) w:=by
  rw [shift_shl .u16 .i64 1 (k:Int) (by omega) (by simp [IntKind.bits]; omega)]
  have h9:2 ^ k≤2 ^ 15:=Nat.pow_le_pow_right (by decide) hk
  rw [Int.toNat_natCast,Int.one_mul]
  have h8:(2 ^ k:Int) = ((2 ^ k:Nat):Int):=by simp
  rw [h8]
  obtain ⟨y,hy⟩:∃ y,2 ^ k = y:=⟨_,rfl⟩
  rw [hy] at h9 ⊢
  have h7:IntKind.u16.wrap (y:Int) = y:=by simp [IntKind.wrap,IntKind.signed,IntKind.bits]; omega
  rw [h7]
  rfl
 have h1:a.eval (.const (.int .u16 1)) = .int .u16 1:=rfl
 unfold execOp
 simp only [ho,hy,h1,eqGuard_shl,binOp_shl,Sem.run_bind,Sem.run_pure,Result.andThen_ok,e]
theorem xa1r {P:Program} {o:Oper} {a:Act} {w:World} {K:Act→World→Prop} {Q:Exit→Act→World→Prop} (ty:TypeId) (x y:Operand) (ho:o.op = .store ty x y) (g off:Nat) (t:TypeId) (cur cur':Array Value) (v:Value) (hx:a.eval x = .pointer (some ⟨g,off,none⟩)) (hy:a.eval y = v)
  (hg:w.heap[g]? = some (.cells cur t (0,0))) (hoff:off + 1≤cur.size) (hi:(P.info? ty).map (·.size) = some 1) (h1:v.oneCell' = true) (hc:(cur.toList.take off++[v]++cur.toList.drop (off + 1)).toArray = cur') (h:K (a.put o.dst undef) (w.setRow g cur')):o.wp P a w K Q:=by
 subst hc
 unfold Oper.wp execOp
 simp only [ho,hx,hy,Instr.storeAt,Instr.sureAddr,Sem.run_bind,Sem.run_pure,Result.andThen_ok,xa3v w g off t ty cur v hg hoff hi h1]
 exact h
theorem IAt.mono {T T':Nat→Prop} {k:Nat} {W:World} {v:Value} {L:Prs} (hs:∀ x,T x→T' x) (h:IAt T k W v L):IAt T' k W v L:=by
 obtain ⟨l,h1,h2,h3⟩:=h
 exact ⟨l,h1,fun x hx=>⟨hs x (h2 x hx).1,(h2 x hx).2⟩,h3.mono hs⟩
theorem IAt.shrink {T:Nat→Prop} {k:Nat} {W:World} {v:Value} {L:Prs} (h:IAt T k W v L):IAt (lowS T W) k W v L:=by
 obtain ⟨l,h1,h2,h3⟩:=h
 exact ⟨l,h1,fun x hx=>⟨h2 x hx,(h2 x hx).2⟩,h3.shrink⟩
theorem xb3n {L:List Nat} {w w':World} {v:Value} {ds:List (List Nat)} (h:RdD w v ds) (k:Kept L w w') (hn:∀ x∈blk v,x∉L):RdD w' v ds:=by
 obtain ⟨ao,len,cap,rfl,h1,h2,h3,h4,h5⟩:=h
 refine ⟨ao,len,cap,rfl,h1,h2,h3,h4,fun hp=>?_⟩
 obtain ⟨b,off,rfl,hc⟩:=h5 hp
 exact ⟨b,off,rfl,fun i hi j u hu=>k.cell (hc i hi j u hu) (hn b (by simp [blk]))⟩
def NodeOk (k f:Nat):Prop:=∀ (T:Nat→Prop) (mv:Value) (L:Prs) (w:World),IAt T k w mv L→L≠[]→Srt (hsZ k) L→Fit L→L.length≤1000000000→Pre (hsZ k) (64 - f) L→(∀ y,w.heap.size≤y→T y) →
  Calls Tryz.prog 120 #[.int .i64 k,mv,.int .i64 ((64 - f:Nat):Int)] w fun e w'=>e = .returned (.agg (brow (nodP (hsZ k) f L)))∧Kept [] w w'
set_option maxHeartbeats 8000000 in
theorem xa9i (k f:Nat) (hf:f≤63) (hN:NodeOk k f) (T:Nat→Prop) (mv:Value) (L:Prs) (w:World) (hM:IAt T k w mv L) (hne0:L≠[]) (hs:Srt (hsZ k) L) (hfit:Fit L) (hl:L.length≤1000000000) (hpre:Pre (hsZ k) (63 - f) L) :
  Calls Tryz.prog 89 #[.int .i64 k,mv,.int .i64 ((63 - f:Nat):Int)] w fun e w'=>∃ v,e = .returned (.agg #[.int .u16 (bm (hsZ k) (63 - f) L:Nat),v])∧RdD w' v ((kidsL (hsZ k) (63 - f) L).map (nodP (hsZ k) f))∧(∀ x∈blk v,w.heap.size≤x)∧Kept [] w w':=by
 obtain ⟨d,hd⟩:∃ d,63 - f = d:=⟨_,rfl⟩
 have hd1:64 - f = d + 1:=by omega
 have hdl:d < 64:=by omega
 unfold NodeOk at hN
 rw [hd1] at hN
 rw [hd] at hpre ⊢
 have HNO:=hide hN
 obtain ⟨T',hT'⟩:∃ T':Nat→Prop,T' = fun x=>lowS T w x∨w.heap.size + 1 + 1≤x:=⟨_,rfl⟩
 have HT1:=hide (show ∀ x,T' x→x≠w.heap.size + 1 by intro x hx; rw [hT'] at hx; rcases hx with h | h; have:=h.2; omega; omega)
 have HT:=hide (show ∀ y,w.heap.size + 1 + 1≤y→T' y by intro y hy; rw [hT']; exact Or.inr hy)
 have HM:=hide (show IAt T' k w mv L from hM.shrink.mono (by intro x hx; rw [hT']; exact Or.inl hx))
 clear hT' hne0
 have HS:=hide hs
 have HFI:=hide hfit
 have HPR:=hide hpre
 obtain ⟨ma,mc,ml,rfl,_⟩:=hM.parts
 clear hM
 have HG0:=hide (heap_alloc_new w (.cells #[.int .u16 0,.slice none 0 0] 64))
 have HK0:=hide ((Kept.refl [] w).alloc (.cells #[.int .u16 0,.slice none 0 0] 64))
 obtain ⟨W1,hW1⟩:∃ W1,w.alloc (.cells #[.int .u16 0,.slice none 0 0] 64) = W1:=⟨_,rfl⟩
 rw [hW1] at HG0 HK0
 have HG1:=hide (heap_alloc_new W1 (.cells #[.int .u16 0,.slice none 0 0] 64))
 have HK1:=hide ((Kept.refl [] W1).alloc (.cells #[.int .u16 0,.slice none 0 0] 64))
 have HG02:=hide ((uh HK1).heap (uh HG0) (by simp))
 obtain ⟨W2,hW2⟩:∃ W2,W1.alloc (.cells #[.int .u16 0,.slice none 0 0] 64) = W2:=⟨_,rfl⟩
 rw [hW2] at HG1 HK1 HG02
 have HKW:=hide ((uh HK0).trans (uh HK1) (by simp))
 have hz1:W1.heap.size = w.heap.size + 1:=by rw [← hW1]; simp
 have hz2:W2.heap.size = w.heap.size + 1 + 1:=by rw [← hW2]; simp [hz1]
 rw [hz1] at HG1
 have HZ2:=hide hz2
 have HZ1:=hide hz1
 have HWD:=hide (show IntKind.i64.wrap ((d:Int) + 1) = (d:Int) + 1 by simp [IntKind.wrap,IntKind.signed,IntKind.bits]; omega)
 clear hz1 hz2 hN hs hfit hpre HK0 HK1 HG0
 go_enter Tryz.func89,Tryz.ntmps89
 go_upto_region 2 with fail
 try rw [hW1]
 try rw [hW2]
 rw [uh HZ1]
 clear hW1 hW2
 go_wp2_with fail
 go_loopw [8] (fun t8 wr=>∃ (i:Nat) (v:Value),t8 = .int .i64 i∧i≤16∧Hid (wr.heap[w.heap.size + 1]? = some (.cells #[.int .u16 (bmI (hsZ k) d L i:Nat),v] 64 (0,0)))∧Hid (wr.ownsRow W2.heap.size 50 32 v (kidI (hsZ k) f d L i).length (dgR (kidI (hsZ k) f d L i)).flatten)∧Hid (Kept [w.heap.size + 1] W2 wr)) (fun t _=>16 - (intOf t).toNat)
 case atStart=>exact ⟨0,_,rfl,Nat.zero_le _,HG1,hide (World.ownsRow_nil _ _ _ _),hide (Kept.refl _ _)⟩
 case round =>
  obtain ⟨i,v,rfl,hi,HG,HO,HKr⟩:=hrel
  by_cases hlt:i < 16
  ·have hlt':(i:Int) < 16:=by omega
   have HKwr:=hide (show Kept [] w wr from (uh HKW).trans (uh HKr) (by intro x hx; simp at hx; right; omega))
   go_wp2_with fail
   refine Calls.mono (xa7s T' k d i _ L wr ((uh HM).agr (Agr.nil (uh HKwr))) hdl hlt hl (fun y hy=>uh HT y (by have:=(uh HKr).size; have:=uh HZ2; omega))) ?_
   rintro e w3 ⟨v3,rfl,hc3,k3⟩
   have HC3:=hide hc3
   have HG3:=hide (k3.heap (uh HG) (by simp))
   have HO3:=hide (k3.owns (uh HO) (by simp))
   have HK3:=hide (show Kept [w.heap.size + 1] W2 w3 from (uh HKr).trans k3 (by simp))
   obtain ⟨ca,cc,cl,rfl,_⟩:=hc3.parts
   have hcl:=ch_len (hsZ k) d i L
   have HCL:=hide (Nat.le_trans hcl hl)
   clear hc3 k3 hcl
   by_cases hne:ch (hsZ k) d i L = []
   ·have hem:(ch (hsZ k) d i L).isEmpty = true:=by rw [hne]; rfl
    have HB:=hide (bmI_no hem)
    have HKi:=hide (xc1w (f:=f) hem)
    have hln:(ch (hsZ k) d i L).length = 0:=by rw [hne]; rfl
    rw [hln]
    clear hne hem hln
    go_wp2_with fail
    refine ⟨⟨i + 1,v,by go_num,hlt,hide (by rw [uh HB]; exact uh HG3),hide (by rw [uh HKi]; exact uh HO3),HK3⟩,?_⟩
    simp [intOf]; omega
   ·have hem:(ch (hsZ k) d i L).isEmpty = false:=by cases h:ch (hsZ k) d i L with
     | nil=>exact absurd h hne
     | cons y M=>rfl
    have HB:=hide (xc0f hem)
    have HKi:=hide (xb9i (f:=f) hem)
    have hpos:0 < (ch (hsZ k) d i L).length:=by cases h:ch (hsZ k) d i L with
     | nil=>exact absurd h hne
     | cons y M=>simp
    have HNE:=hide hne
    have HSr:=hide ((uh HS).ch d i)
    have HFr:=hide (show Fit (ch (hsZ k) d i L) from (uh HFI).sub (fun x hx=>ch_sub x hx))
    have HPr:=hide (xb6v (i:=i) (uh HPR))
    have hkl:=xb9f (hsZ k) f d L i
    have hkd:=xb3x k f d L i
    have hbl:=bmI_lt (hsZ k) d L i
    have hb2:bmI (hsZ k) d L i + 2 ^ i < 65536:=by
     have h1:2 ^ (i + 1)≤2 ^ 16:=Nat.pow_le_pow_right (by omega) (by omega)
     rw [Nat.pow_succ] at h1; omega
    have hDi:Dg (nodP (hsZ k) f (ch (hsZ k) d i L)):=nod_dg k f _
    generalize bmI (hsZ k) d L i = B at HG3 HB hb2 hbl
    generalize kidI (hsZ k) f d L i = KI at HO3 HKi hkl hkd
    generalize ch (hsZ k) d i L = C at HC3 HCL HNE HSr HFr HPr hpos HB HKi hDi hem ⊢
    generalize hCn:C.length = cn at HC3 hpos ⊢
    have hgt:(cn:Int) > 0:=by omega
    have hgt2:(0:Int) < cn:=by omega
    have HCn:=hide hCn
    clear hne hem hCn
    obtain ⟨vo,vc,rfl⟩:=xa0h (uh HO3)
    have c0:w3.cell? ⟨w.heap.size + 1,0,none⟩ = some (.int .u16 (B:Nat)):=by rw [cell_of_row _ _ _ _ _ _ (uh HG3)]; rfl
    have c1:w3.cell? ⟨w.heap.size + 1,1,none⟩ = some (.slice vo KI.length vc):=by rw [cell_of_row _ _ _ _ _ _ (uh HG3)]; rfl
    have HC0:=hide c0
    have hwr1:IntKind.u16.wrap ((B:Int) + ((2 ^ i:Nat):Int)) = ((B + 2 ^ i:Nat):Int):=by
     rw [← Int.natCast_add]
     generalize B + 2 ^ i = z at hb2 ⊢
     simp [IntKind.wrap,IntKind.signed,IntKind.bits]; omega
    obtain ⟨B2,hB2⟩:∃ B2,B + 2 ^ i = B2:=⟨_,rfl⟩
    rw [hB2] at hwr1 HB
    obtain ⟨PW,hPW⟩:∃ PW:Nat,2 ^ i = PW:=⟨_,rfl⟩
    rw [hPW] at hwr1
    have HSH:=hide (fun (P:Program) (o:Oper) (a:Act) (W:World) (t t2:TypeId) (y:Operand) (ho:o.op = .binOp .shl t (.const (.int .u16 1)) y t2) (hy:a.eval y = .int .i64 (i:Int))=>by
     have h9:=xb4v (P:=P) W t t2 y ho i (by omega) hy
     rw [hPW] at h9
     exact h9)
    clear hb2 hB2 hPW hbl c0 c1
    have HOW:=hide (fun x hx=>(uh HO3).lt x hx)
    go_upto_region 7 with fail
    have hd3:=(Kept.refl [w.heap.size + 1] w3).drew
    refine lr_t7 (by kernel_rfl) (by kernel_rfl) rfl (fun W=>Kept [] w3 W) (Kept.refl [] w3).drew ?_
    refine LinY.rd (.pointer (some ⟨w.heap.size + 1,0,none⟩)) (fun W hW=>by go_simp) (by simp only [Act.put,sa1,sa2,sa3]; rfl) ?_
    refine LinY.rd (.int .u16 (B:Nat)) (fun W hW=>by have h9:=hW.cell (uh HC0) (by simp); go_simp) (by simp only [Act.put,sa1,sa2,sa3]; rfl) ?_
    refine LinY.rd (.int .i64 i) (fun W hW=>by go_simp) (by simp only [Act.put,sa1,sa2,sa3]; rfl) ?_
    refine LinY.rd (.int .u16 (PW:Nat)) (fun W hW=>uh HSH _ _ _ W _ _ _ rfl rfl) (by simp only [Act.put,sa1,sa2,sa3]; rfl) ?_
    refine LinY.rd (.int .u16 (B2:Nat)) (fun W hW=>by go_simp) (by simp only [Act.put,sa1,sa2,sa3]; rfl) ?_
    refine LinY.rd (.pointer (some ⟨w.heap.size + 1,0,none⟩)) (fun W hW=>by go_simp) (by simp only [Act.put,sa1,sa2,sa3]; rfl) ?_
    refine LinY.fin (ChL.fin (xa1r 61 (.tmp 26) (.tmp 25) rfl (w.heap.size + 1) 0 64 #[.int .u16 (B:Nat),.slice vo KI.length vc] #[.int .u16 (B2:Nat),.slice vo KI.length vc] (.int .u16 (B2:Nat)) rfl rfl ((Kept.refl [] w3).drew.heap (uh HG3) (by simp)) (by simp) Tryz.size_u16 rfl rfl ?_))
    have HG4:=hide (setRow_heap _ _ _ #[.int .u16 (B2:Nat),.slice vo KI.length vc] _ _ ((Kept.refl [] w3).drew.heap (uh HG3) (by simp)))
    have HK34:=hide (((Kept.refl [w.heap.size + 1] w3).drew).setRow (g:=w.heap.size + 1) (Or.inl (by simp)) #[.int .u16 (B2:Nat),.slice vo KI.length vc])
    have HO4:=hide ((uh HK34).owns (uh HO3) (fun x hx hm=>by have h1:=uh HOW x hx; have h2:=uh HZ2; simp at hm; omega))
    obtain ⟨W4,hW4⟩:∃ W4,w3.drew.setRow (w.heap.size + 1) #[.int .u16 (B2:Nat),.slice vo KI.length vc] = W4:=⟨_,rfl⟩
    rw [hW4] at HG4 HK34 HO4 ⊢
    clear hW4 HC0 HSH HG3 HO3
    have HK4:=hide (show Kept [w.heap.size + 1] W2 W4 from (uh HK3).trans (uh HK34) (by intro x hx; left; exact hx))
    have HKw4:=hide (show Kept [] w W4 from (uh HKW).trans (uh HK4) (by intro x hx; simp at hx; right; omega))
    have HC4:=hide (show IAt T' k W4 (.slice ca cn cc) C from (uh HC3).agr ⟨(uh HK34).size,fun x hx hl=>(uh HK34).block x hl (by
     intro hm
     simp at hm
     exact uh HT1 x hx hm)⟩)
    have c4:W4.cell? ⟨w.heap.size + 1,1,none⟩ = some (.slice vo KI.length vc):=by rw [cell_of_row _ _ _ _ _ _ (uh HG4)]; rfl
    have HC5:=hide c4
    clear c4
    go_upto_region 8 with fail
    obtain ⟨OB,hOB⟩:∃ OB,(Value.slice vo KI.length vc).ownBlock = OB:=⟨_,rfl⟩
    have hOBn:w.heap.size + 1∉OB.toList:=by
     intro hm
     rw [← hOB] at hm
     have h1:=uh HOW (w.heap.size + 1) (by simpa using hm)
     have h2:=uh HZ2
     omega
    have hd4:=(Kept.refl [] W4).drew
    refine lr_t8 (by kernel_rfl) (by kernel_rfl) rfl (fun W=>Kept OB.toList W4 W) (hd4.mono (by simp)) ?_
    refine LinY.rd (.pointer (some ⟨w.heap.size + 1,1,none⟩)) (fun W hW=>by go_simp) (by simp only [Act.put,sa1,sa2,sa3]; rfl) ?_
    refine LinY.rd (.slice vo KI.length vc) (fun W hW=>by have h9:=hW.cell (uh HC5) hOBn; go_simp) (by simp only [Act.put,sa1,sa2,sa3]; rfl) ?_
    refine LinY.rd (.int .i64 k) (fun W hW=>by go_simp) (by simp only [Act.put,sa1,sa2,sa3]; rfl) ?_
    refine LinY.rd (.slice ca cn cc) (fun W hW=>by go_simp) (by simp only [Act.put,sa1,sa2,sa3]; rfl) ?_
    refine LinY.rd (.int .i64 d) (fun W hW=>by go_simp) (by simp only [Act.put,sa1,sa2,sa3]; rfl) ?_
    refine LinY.rd (.int .i64 ((d + 1:Nat):Int)) (fun W hW=>by have h9:=uh HWD; go_simp) (by simp only [Act.put,sa1,sa2,sa3]; rfl) ?_
    refine LinY.fin (ChL.call rfl Tryz.call120 [.int .i64 k,.slice ca cn cc,.int .i64 ((d + 1:Nat):Int)] rfl (uh HNO T' _ C W4.drew ((uh HC4).agr (Agr.nil hd4)) (uh HNE) (uh HSr) (uh HFr) (uh HCL) (uh HPr) (fun y hy=>uh HT y (by have h1:=(uh HK4).size; have h2:=hd4.size; have h3:=uh HZ2; omega))) ?_)
    rintro e w5 ⟨rfl,k5⟩
    have hk5:=hd4.trans k5 (by simp)
    refine ⟨_,rfl,hk5.mono (by simp),?_⟩
    simp only [Act.put,sa1,sa2,sa3]
    obtain ⟨N,hN⟩:∃ N,nodP (hsZ k) f C = N:=⟨_,rfl⟩
    rw [hN] at HKi hDi ⊢
    clear hN
    have hka:=(Kept.refl [] w5).alloc (.cells (brow N) 50)
    have hk6:=hk5.trans hka (by simp)
    refine ChL.op (.slice (some ⟨w5.heap.size,0,none⟩) 1 1) (xb0h w5 (.tmp 33) rfl N hDi.1 rfl) (hk6.mono (by simp)) (by simp only [Act.put,sa1,sa2,sa3]; rfl) ?_
    have hrl:RdC 32 (w5.alloc (.cells (brow N) 50)) (.slice (some ⟨w5.heap.size,0,none⟩) 1 1) (dgR [N]):=⟨_,1,1,rfl,rfl,Nat.le_refl _,by omega,fun _=>⟨w5.heap.size,0,rfl,fun j hj=>by
     have h0:j = 0:=by simp [dgR] at hj; omega
     subst h0
     exact xa0k [] (N.map u8) [] (by rw [List.nil_append,List.append_nil]; exact heap_alloc_new w5 _) rfl⟩⟩
    refine ChL.app 62 50 (.tmp 28) (.tmp 34) rfl rfl _ W2.heap.size (.agg (zb 32)) 32 32 Tryz.underlying62 Tryz.infoDg3 rfl (by decide) (.slice vo KI.length vc) KI.length (dgR KI).flatten (hk6.owns (uh HO4) (by simp)) (some ⟨w5.heap.size,0,none⟩) 1 1 (dgR [N]) hrl (xa6h (by intro x hx; simp at hx; subst hx; exact hDi)) xb6t (by omega) (by omega) (by have h1:=(uh HK4).size; have h2:=hk6.size; omega) rfl rfl ?_
    intro ao7 c7 w7 HO7 HG7 HA7
    have hg7:=uh HG7
    rw [hOB] at hg7
    have hk7:=(Kept.refl OB.toList _).grown hg7 (by intro x hx; left; simp [hx])
    have hk47:=(hk6.mono (M:=OB.toList) (by simp)).trans hk7 (fun x hx=>Or.inl hx)
    refine ⟨hk47,?_⟩
    simp only [Act.put,sa1,sa2,sa3]
    refine ChL.op (.pointer (some ⟨w.heap.size + 1,1,none⟩)) (by go_simp) hk47 (by simp only [Act.put,sa1,sa2,sa3]; rfl) ?_
    have hgx:=hk47.heap (uh HG4) hOBn
    refine ChL.fin (xa1r 62 (.tmp 36) (.tmp 35) rfl (w.heap.size + 1) 1 64 #[.int .u16 (B2:Nat),.slice vo KI.length vc] #[.int .u16 (B2:Nat),.slice ao7 (KI.length + 1) c7] (.slice ao7 (KI.length + 1) c7) rfl rfl hgx (by simp) Tryz.size_dgs rfl rfl ?_)
    have HG8:=hide (setRow_heap _ _ _ #[.int .u16 (B2:Nat),.slice ao7 (KI.length + 1) c7] _ _ hgx)
    have hk78:=(Kept.refl [w.heap.size + 1] w7).setRow (g:=w.heap.size + 1) (Or.inl (by simp)) #[.int .u16 (B2:Nat),.slice ao7 (KI.length + 1) c7]
    have HO8:=hide (hk78.owns (uh HO7) (fun x hx hm=>by
     have h1:=(uh HO7).lt x hx
     have h2:=uh HZ2
     simp at hm; omega))
    have HK8:=hide (show Kept [w.heap.size + 1] W2 (w7.setRow (w.heap.size + 1) #[.int .u16 (B2:Nat),.slice ao7 (KI.length + 1) c7]) from ((uh HK4).trans hk47 (fun x hx=>by
     right
     rw [← hOB] at hx
     exact (uh HOW x (by simpa using hx)).1)).trans hk78 (fun x hx=>Or.inl hx))
    have hlen:(KI++[N]).length = KI.length + 1:=by simp
    have hrows:(dgR (KI++[N])).flatten = (dgR KI).flatten++(dgR [N]).flatten:=by simp [dgR]
    clear hk78 hgx hk47 hk7 hg7 hrl hk6 hka hk5 k5 hd4
    generalize w7.setRow (w.heap.size + 1) #[.int .u16 (B2:Nat),.slice ao7 (KI.length + 1) c7] = W8 at HG8 HO8 HK8 ⊢
    go_wp2_with fail
    refine ⟨⟨i + 1,.slice ao7 (KI.length + 1) c7,by go_num,hlt,hide (by rw [uh HB]; exact uh HG8),hide (by rw [uh HKi,hlen,hrows]; exact uh HO8),HK8⟩,?_⟩
    simp [intOf]; omega
  ·have hie:i = 16:=by omega
   subst hie
   have hlt':¬ ((16:Nat):Int) < 16:=by omega
   have hrd:=xb1j (xa1z (by rw [show (dgR (kidI (hsZ k) f d L 16)).length = (kidI (hsZ k) f d L 16).length by simp [dgR]]; exact uh HO) (xa6h (xb3x k f d L 16))) (xb3x k f d L 16)
   rw [xb9r] at hrd
   have hbm:bmI (hsZ k) d L 16 = bm (hsZ k) d L:=xc1a _ _ _
   have hG:=uh HG
   rw [hbm] at hG
   have hown:=fun x hx=>(uh HO).lt x hx
   obtain ⟨vo,vc,rfl⟩:=xa0h (uh HO)
   have hbl:∀ x∈blk (.slice vo (kidI (hsZ k) f d L 16).length vc),w.heap.size + 1 + 1≤x:=fun x hx=>by
    have h2:=uh HZ2
    rcases (uh HO).2 with ⟨e,_⟩ | ⟨g,c,cur,e,hg,_⟩
    ·injection e with e1; subst e1; simp [blk] at hx
    ·injection e with e1; subst e1; have:x = g:=by simpa [blk] using hx
     omega
   generalize (kidI (hsZ k) f d L 16).length = kl at hG hrd hbl ⊢
   have HG9:=hide hG
   have HRD:=hide hrd
   have HBL:=hide hbl
   have HZR:=hide ((uh HKr).heap (uh HG02) (by simp))
   have HKw:=hide (show Kept [] w wr from (uh HKW).trans (uh HKr) (by intro x hx; simp at hx; right; omega))
   clear hG hrd hbl hown hbm HG HO
   have c0:wr.cell? ⟨w.heap.size + 1,0,none⟩ = some (.int .u16 (bm (hsZ k) d L:Nat)):=by rw [cell_of_row _ _ _ _ _ _ (uh HG9)]; rfl
   have c1:wr.cell? ⟨w.heap.size + 1,1,none⟩ = some (.slice vo kl vc):=by rw [cell_of_row _ _ _ _ _ _ (uh HG9)]; rfl
   have r0:wr.cell? ⟨w.heap.size,0,none⟩ = some (.int .u16 0):=by rw [cell_of_row _ _ _ _ _ _ (uh HZR)]; rfl
   have r1:wr.cell? ⟨w.heap.size,1,none⟩ = some (.slice none 0 0):=by rw [cell_of_row _ _ _ _ _ _ (uh HZR)]; rfl
   have z0:=frozen_of_row _ _ 0 _ _ (uh HZR)
   have z1:=frozen_of_row _ _ 1 _ _ (uh HZR)
   go_wp2_with fail
   have k9:=((Kept.refl [w.heap.size] wr).setCell (p:=⟨w.heap.size,0,none⟩) (Or.inl (by simp)) (.int .u16 (bm (hsZ k) d L:Nat))).setCell (p:=⟨w.heap.size,1,none⟩) (Or.inl (by simp)) (.slice vo kl vc)
   refine bodyPost_ret (v:=.agg #[.int .u16 (bm (hsZ k) d L:Nat),.slice vo kl vc]) ?_ rfl ⟨.slice vo kl vc,rfl,xb3n (uh HRD) k9 (fun x hx hm=>by have:=uh HBL x hx; simp at hm; omega),fun x hx=>by have:=uh HBL x hx; omega,((uh HKw).setCell (p:=⟨w.heap.size,0,none⟩) (Or.inr (Nat.le_refl _)) _).setCell (p:=⟨w.heap.size,1,none⟩) (Or.inr (Nat.le_refl _)) _⟩
   exact results_cell_row rfl _ _ w.heap.size 64 #[.int .u16 (bm (hsZ k) d L:Nat),.slice vo kl vc] (0,0) _ rfl (by rw [heap_setCell_same _ w.heap.size 1 _ _ _ (heap_setCell_same _ w.heap.size 0 _ _ _ (uh HZR))]; rfl) Tryz.underlying64 rfl Tryz.size_stp
end
section
open Go Go.RowKit Go.BigFrame
section
variable {P:Program} {Q:Exit→Act→World→Prop} {S:World→Prop}
def ChG (P:Program) (O:Array Oper) (Q:Exit→Act→World→Prop) (S:World→Prop) (F:Act→World→Prop):List Oper→Act→World→Prop
 | [],a,w=>F a w
 | o :: r,a,w=>(Region.wanted o (yielded O a.tmps) = true∧o.wp P a w (fun a' w'=>S w'∧ChG P O Q S F r a' w') (NoPanic Q))∨(Region.wanted o (yielded O a.tmps) = false∧S w∧ChG P O Q S F r (a.put o.dst undef) w)
theorem xa4r {O:Array Oper} {F:Act→World→Prop} {m:Nat} {D:Array Bool} (hF:∀ a w,F a w→wpAnyH P .any O (NoPanic Q) S m D a w):∀ (C:List Nat) (cs:List Oper) (d:Array Bool) (a:Act) (w:World),C.map (O[·]?) = cs.map some→linC O C d = true→linD C d = D→ChG P O Q S F cs a w→wpAnyH P .any O (NoPanic Q) S (C.length + m) d a w
 | [],[],d,a,w,_,_,hD,h=>by rw [List.length_nil,Nat.zero_add]; have e:d = D:=hD; rw [e]; exact hF a w h
 | [],_ :: _,_,_,_,he,_,_,_=>by simp at he
 | i :: C,[],_,_,_,he,_,_,_=>by simp at he
 | i :: C,o :: cs,d,a,w,he,hb,hD,h=>by
  simp only [List.map_cons,List.cons.injEq] at he
  simp only [linC,Bool.and_eq_true,decide_eq_true_eq] at hb
  rw [List.length_cons,show C.length + 1 + m = (C.length + m) + 1 by omega]
  refine wpAnyH_all (rs:=[i]) hb.1 (by simp) (fun j hj=>?_)
  rw [List.mem_singleton] at hj
  subst hj
  unfold wpOp
  simp only [he.1]
  rcases h with ⟨hw,h⟩ | ⟨hw,hS,h⟩
  ·rw [if_pos hw]
   refine Or.inl (Oper.wp_mono (fun a' w' h2=>⟨h2.1,?_⟩) h)
   exact xa4r hF C cs _ a' w' he.2 hb.2 hD h2.2
  ·rw [if_neg (by rw [hw]; decide)]
   exact ⟨hS,xa4r hF C cs _ _ w he.2 hb.2 hD h⟩
theorem xb8k {id:Nat} {O:Array Oper} {a:Act} {w:World} {R C T:List Nat} {rs cs ts:List Oper} (hm:P.follows .mixedOrders = true) (hb:linB O R C T = true) (hR:R.map (O[·]?) = rs.map some) (hC:C.map (O[·]?) = cs.map some) (hT:T.map (O[·]?) = ts.map some)
  (hS:S w.drew) (h:LinG P O S (ChG P O Q S (fun a w=>S w∧LinG P O S (Q .normal) ts a w) cs) rs a w.drew):(Code.region id O true).wp P Q a w:=by
 unfold linB at hb
 simp only [Bool.and_eq_true,decide_eq_true_eq] at hb
 obtain ⟨⟨b1,b2⟩,b3,b4,b5,b6⟩:=hb
 refine wp_region_noPanic ?_
 refine wp_region_held_drew (S:=S) hm hS (fun _=>?_)
 rw [b2]
 have h3:∀ a w,(S w∧LinG P O S (Q .normal) ts a w)→wpAnyH P .any O (NoPanic Q) S (T.length + 0) (linD C (linD R (linS O))) a w:=fun a w h=>xa2k b1 (xa2y (decide_eq_true b6)) T ts _ a w hT b5 rfl h.1 h.2
 have h2:=fun a w h=>xa4r (P:=P) (Q:=Q) (S:=S) h3 C cs (linD R (linS O)) a w hC b4 rfl h
 have:=xa2k (P:=P) (Q:=Q) (S:=S) b1 h2 R rs (linS O) a w.drew hR b3 rfl hS h
 unfold linS at this
 rw [b2] at this
 exact this
theorem ChG.op {O:Array Oper} {F:Act→World→Prop} {cs:List Oper} {o:Oper} {a A:Act} {w w':World} (hw:Region.wanted o (yielded O a.tmps) = true) (v:Value) (hv:(execOp a.eval o).run P w = .ok (.value v) w') (hS:S w') (p:a.put o.dst v = A) (h:ChG P O Q S F cs A w'):ChG P O Q S F (o :: cs) a w:=by
 refine Or.inl ⟨hw,?_⟩
 unfold Oper.wp
 rw [hv]
 rw [← p] at h
 exact ⟨hS,h⟩
theorem ChG.fin {O:Array Oper} {F:Act→World→Prop} {a:Act} {w:World} (h:F a w):ChG P O Q S F [] a w:=h
end
theorem ChG.call {O:Array Oper} {Q:Exit→Act→World→Prop} {S:World→Prop} {F:Act→World→Prop} {cs:List Oper} {o:Oper} {a:Act} {w:World} {f:FuncId} {xs:Array Operand} {ts:Array TypeId} (hw:Region.wanted o (yielded O a.tmps) = true) (ho:o.op = .call { callee:=.value (.func f),args:=xs,argTypes:=ts })
  (hcl:∀ args W,(callFunc f args).run Tryz.prog W = .ok (.enter f args) W) (us:List Value) (he:xs.toList.map a.eval = us) {R:Ending→World→Prop}
  (hc:Calls Tryz.prog f us.toArray w R) (h:∀ e w',R e w'→∃ v,e = .returned v∧S w'∧ChG Tryz.prog O Q S F cs (a.put o.dst v) w'):ChG Tryz.prog O Q S F (o :: cs) a w:=by
 unfold ChG
 exact Or.inl ⟨hw,xb3h ho hcl us he hc h⟩
theorem lp_de {P:Program} {Q:Exit→Act→World→Prop} {id:Nat} {o0 o1 o2 o3 o4 o5 o6 o7:Oper} {a:Act} {w:World} (hm:P.follows .mixedOrders = true) (hb:linB #[o0,o1,o2,o3,o4,o5,o6,o7] [0,1,2,3,4,5] [6,7] [] = true) (hg:([o0,o1,o2,o3,o4,o5]++([o6,o7]++[])).all (fun o=>o.guard.isNone) = true) (S:World→Prop) (hS:S w.drew)
  (h:LinY P S (ChL P Q S (Q .normal) [o6,o7]) [o0,o1,o2,o3,o4,o5] a w.drew):(Code.region id #[o0,o1,o2,o3,o4,o5,o6,o7] true).wp P Q a w:=xa0u (R:=[0,1,2,3,4,5]) (C:=[6,7]) (rs:=[o0,o1,o2,o3,o4,o5]) (cs:=[o6,o7]) hm hb rfl rfl hg hS h
theorem lp_ah {P:Program} {Q:Exit→Act→World→Prop} {id:Nat} {o0 o1 o2 o3 o4 o5 o6 o7:Oper} {a:Act} {w:World} (hm:P.follows .mixedOrders = true) (hb:linB #[o0,o1,o2,o3,o4,o5,o6,o7] [0,1,2,3,4,5,6,7] [] [] = true) (hg:([o0,o1,o2,o3,o4,o5,o6,o7]++([]++[])).all (fun o=>o.guard.isNone) = true) (S:World→Prop) (hS:S w.drew)
  (h:LinY P S (ChL P Q S (Q .normal) []) [o0,o1,o2,o3,o4,o5,o6,o7] a w.drew):(Code.region id #[o0,o1,o2,o3,o4,o5,o6,o7] true).wp P Q a w:=xa0u (R:=[0,1,2,3,4,5,6,7]) (C:=[]) (rs:=[o0,o1,o2,o3,o4,o5,o6,o7]) (cs:=[]) hm hb rfl rfl hg hS h
theorem lp_rp {P:Program} {Q:Exit→Act→World→Prop} {id:Nat} {o0 o1 o2 o3 o4 o5 o6 o7 o8 o9 o10:Oper} {a:Act} {w:World} (hm:P.follows .mixedOrders = true) (hb:linBT #[o0,o1,o2,o3,o4,o5,o6,o7,o8,o9,o10] [0,1,2,3,4] [5,6,7,8,9] 10 = true) (hg:([o0,o1,o2,o3,o4]++([o5,o6,o7,o8,o9]++[o10])).all (fun o=>o.guard.isNone) = true) (T:World→Prop) (hT:T w.drew)
  (h:LinY P T (ChL P Q T (fun a w=>o10.wp P a w (Q .normal) (NoPanic Q)) [o5,o6,o7,o8,o9]) [o0,o1,o2,o3,o4] a w.drew):(Code.region id #[o0,o1,o2,o3,o4,o5,o6,o7,o8,o9,o10] true).wp P Q a w:=xb2n (R:=[0,1,2,3,4]) (C:=[5,6,7,8,9]) (t:=10) (rs:=[o0,o1,o2,o3,o4]) (cs:=[o5,o6,o7,o8,o9]) hm hb rfl rfl rfl hg hT h
theorem lp_aw {P:Program} {Q:Exit→Act→World→Prop} {id:Nat} {o0 o1 o2 o3 o4 o5 o6 o7 o8 o9 o10 o11 o12 o13 o14 o15 o16 o17 o18:Oper} {a:Act} {w:World} (hm:P.follows .mixedOrders = true) (hb:linB #[o0,o1,o2,o3,o4,o5,o6,o7,o8,o9,o10,o11,o12,o13,o14,o15,o16,o17,o18] [0,1,2,3,4] [5,6,7,8] [9,10,11,12,13,14,15,16,17,18] = true) (S:World→Prop) (hS:S w.drew)
  (h:LinG P #[o0,o1,o2,o3,o4,o5,o6,o7,o8,o9,o10,o11,o12,o13,o14,o15,o16,o17,o18] S (ChG P #[o0,o1,o2,o3,o4,o5,o6,o7,o8,o9,o10,o11,o12,o13,o14,o15,o16,o17,o18] Q S (fun a w=>S w∧LinG P #[o0,o1,o2,o3,o4,o5,o6,o7,o8,o9,o10,o11,o12,o13,o14,o15,o16,o17,o18] S (Q .normal) [o9,o10,o11,o12,o13,o14,o15,o16,o17,o18] a w) [o5,o6,o7,o8]) [o0,o1,o2,o3,o4] a w.drew):(Code.region id #[o0,o1,o2,o3,o4,o5,o6,o7,o8,o9,o10,o11,o12,o13,o14,o15,o16,o17,o18] true).wp P Q a w:=xb8k (R:=[0,1,2,3,4]) (C:=[5,6,7,8]) (T:=[9,10,11,12,13,14,15,16,17,18]) (rs:=[o0,o1,o2,o3,o4]) (cs:=[o5,o6,o7,o8]) (ts:=[o9,o10,o11,o12,o13,o14,o15,o16,o17,o18]) hm hb rfl rfl rfl hS h
end
section
open Go.RowKit Go.BigFrame
theorem xb9p (b j:Nat):b / 2 ^ j % 2 = (if b.testBit j = true then 1 else 0):=by
 rw [Nat.testBit_eq_decide_div_mod_eq]
 by_cases h:b / 2 ^ j % 2 = 1
 ·rw [h]; simp
 ·rw [decide_eq_false h]; simp; omega
theorem p_cntn (b j:Nat):cnt b (j + 1) = cnt b j + b / 2 ^ j % 2:=by
 rw [cnt_up,xb9p]
 cases b.testBit j <;> rfl
theorem p_shr {P:Program} {o:Oper} {a:Act} (w:World) (t t2:TypeId) (x y:Operand) (ho:o.op = .binOp .shr t x y t2) (b i q:Nat) (hi:i < 16) (hx:a.eval x = .int .u16 (b:Int)) (hy:a.eval y = .int .i64 (i:Int)) (hq:(b:Int) / 2 ^ i = (q:Int)):(execOp a.eval o).run P w = .ok (.value (.int .u16 (q:Int))) w:=by
 have e:(Op.shift .shr .u16 (b:Int) .i64 (i:Int)).run P w = .ok (.int .u16 (q:Int)) w:=by
  rw [shift_shr .u16 .i64 (b:Int) (i:Int) (by omega) (by simp [IntKind.bits]; omega),Int.toNat_natCast,hq]
  rfl
 unfold execOp
 simp only [ho,hx,hy,binOp,eqGuard,Sem.run_bind,Bool.not_false,if_true,Sem.run_pure,Result.andThen_ok,e]
theorem p_and1 {q:Nat} (h:q < 65536):bits .and .u16 (q:Int) 1 = ((q % 2:Nat):Int):=by
 have h2:=u16_and_nat q 1 h (by omega)
 rw [Nat.and_one_is_mod] at h2
 exact h2
set_option maxHeartbeats 2000000 in
theorem xb5t (b c:Nat) (w:World) (hb:b < 65536) (hc:c < 16) :
  Calls Tryz.prog 91 #[.int .u16 b,.int .i64 c] w fun e w'=>e = .returned (.tuple #[.int .i64 (cnt b c:Nat),.bool (b.testBit c)])∧Kept [] w w':=by
 go_enter Tryz.func91,Tryz.ntmps91
 go_wp2_with fail
 go_loopw [6,7] (fun t6 t7 wr=>∃ (j:Nat),j≤c∧t7 = .int .i64 j∧t6 = .int .i64 (cnt b j:Nat)∧wr = w) (fun _ t _=>c - (intOf t).toNat)
 case atStart=>exact ⟨0,Nat.zero_le _,rfl,rfl,rfl⟩
 case round =>
  obtain ⟨j,hj,rfl,rfl,rfl⟩:=hrel
  obtain ⟨q,hq⟩:∃ q,b / 2 ^ j = q:=⟨_,rfl⟩
  have HQ:=hide (by rw [← hq,Int.natCast_ediv]; simp:(b:Int) / 2 ^ j = (q:Int))
  have hcl:=cnt_le b j
  have hql:q < 65536:=by rw [← hq]; exact Nat.lt_of_le_of_lt (Nat.div_le_self _ _) hb
  have hq3:=p_and1 hql
  by_cases hlt:j < c
  ·have hlt':(j:Int) < c:=by omega
   have hst:=p_cntn b j
   rw [hq] at hst
   have HST:=hide hst
   obtain ⟨r,hr⟩:∃ r,q % 2 = r:=⟨_,rfl⟩
   have hrl:r < 2:=by omega
   rw [hr] at hq3 hst HST
   have hq4:(q:Int) % 2 = (r:Int):=by omega
   generalize cnt b j = C at hcl HST ⊢
   clear hst hq hr
   go_wp2_with (refine xb0s rfl _ _ _ _ rfl b j _ (by omega) rfl rfl (uh HQ) ?_)
   refine ⟨⟨j + 1,hlt,by go_num,by rw [uh HST]; go_num,trivial⟩,?_⟩
   simp [intOf]; omega
  ·have hje:j = c:=by omega
   subst hje
   have hlt':¬ (j:Int) < j:=by omega
   have htb:b.testBit j = decide (q % 2 = 1):=by rw [Nat.testBit_eq_decide_div_mod_eq,hq]
   obtain ⟨B,hB⟩:∃ B,b.testBit j = B:=⟨_,rfl⟩
   obtain ⟨C,hC⟩:∃ C,cnt b j = C:=⟨_,rfl⟩
   have HB:=hide (show B = decide (q % 2 = 1) by rw [← hB]; exact htb)
   have HFI:=hide (show b.testBit j = B∧cnt b j = C from ⟨hB,hC⟩)
   rw [hC] at hcl ⊢
   clear htb hq hB hC
   go_upto_region 6 with fail
   refine lp_ah (by kernel_rfl) (by kernel_rfl) rfl (fun W=>Kept [] wr W) (Kept.refl _ wr).drew ?_
   refine LinY.rd (.int .i64 C) (fun W hW=>by go_simp) (by simp only [Act.put,sa1,sa2,sa3]; rfl) ?_
   refine LinY.rd (.int .u16 b) (fun W hW=>by go_simp) (by simp only [Act.put,sa1,sa2,sa3]; rfl) ?_
   refine LinY.rd (.int .i64 j) (fun W hW=>by go_simp) (by simp only [Act.put,sa1,sa2,sa3]; rfl) ?_
   refine LinY.rd (.int .u16 q) (fun W hW=>p_shr W _ _ _ _ rfl b j q hc rfl rfl (uh HQ)) (by simp only [Act.put,sa1,sa2,sa3]; rfl) ?_
   refine LinY.rd (.int .u16 ((q % 2:Nat):Int)) (fun W hW=>by go_simp) (by simp only [Act.put,sa1,sa2,sa3]; rfl) ?_
   refine LinY.rd (.bool B) (fun W hW=>by go_simp; rw [uh HB,Bool.eq_iff_iff]; simp; omega) (by simp only [Act.put,sa1,sa2,sa3]; rfl) ?_
   refine LinY.rd (.int .i64 C) (fun W hW=>by go_simp) (by simp only [Act.put,sa1,sa2,sa3]; rfl) ?_
   refine LinY.rd (.bool B) (fun W hW=>by go_simp) (by simp only [Act.put,sa1,sa2,sa3]; rfl) ?_
   refine LinY.fin (ChL.fin ?_)
   go_wp2_with fail
   go_ret2
   exact ⟨by rw [(uh HFI).1,(uh HFI).2]; rfl,(Kept.refl [] wr).drew⟩
def woE (H:Bool) (at_:Nat) (l:List (List Nat)):List (List Nat):=if H = true then l.eraseIdx at_ else l
theorem xc1n (H:Bool) (n:Nat):woE H n [] = []:=by unfold woE; split <;> simp
theorem xc0s (H:Bool) (n:Nat) (l:List (List Nat)):(woE H n l).length≤l.length:=by
 unfold woE
 split
 ·exact List.length_eraseIdx_le _ _
 ·exact Nat.le_refl _
theorem xb9m {H:Bool} {n:Nat} {l:List (List Nat)} {d:List Nat} (h:H = false∨l.length≠n):woE H n (l++[d]) = woE H n l++[d]:=by
 unfold woE
 cases H with
 | false=>rfl
 | true =>
  rw [if_pos rfl,if_pos rfl]
  have hn:l.length≠n:=by rcases h with h | h; cases h; exact h
  rcases Nat.lt_or_ge n l.length with g | g
  ·exact List.eraseIdx_append_of_lt_length g _
  ·rw [List.eraseIdx_of_length_le (by simp; omega),List.eraseIdx_of_length_le (by omega)]
theorem xb8m {n:Nat} {l:List (List Nat)} {d:List Nat} (h:l.length = n):woE true n (l++[d]) = woE true n l:=by
 unfold woE
 rw [if_pos rfl,if_pos rfl,List.eraseIdx_append_of_length_le (by omega),List.eraseIdx_of_length_le (l:=l) (by omega),h,Nat.sub_self]
 simp
theorem woE_dg {H:Bool} {n:Nat} {l:List (List Nat)} (h:∀ d∈l,Dg d):∀ d∈woE H n l,Dg d:=fun d hd=>by
 unfold woE at hd
 split at hd
 ·exact h d (List.mem_of_mem_eraseIdx hd)
 ·exact h d hd
theorem xa9w {ops:Array Oper} {rest:List Oper} {o:Oper} {a:Act} {w:World} {Q:Exit→Act→World→Prop} (hw:Region.wanted o (yielded ops a.tmps) = true) (ty:TypeId) (x y:Operand) (ho:o.op = .store ty x y) (g off:Nat) (t:TypeId) (cur cur':Array Value) (v:Value) (hx:a.eval x = .pointer (some ⟨g,off,none⟩)) (hy:a.eval y = v)
  (hg:w.heap[g]? = some (.cells cur t (0,0))) (hoff:off + 1≤cur.size) (hi:(Tryz.prog.info? ty).map (·.size) = some 1) (h1:v.oneCell' = true) (hc:(cur.toList.take off++[v]++cur.toList.drop (off + 1)).toArray = cur') (h:wpList Tryz.prog ops Q rest (a.put o.dst undef) (w.setRow g cur')):wpList Tryz.prog ops Q (o :: rest) a w :=
 wpList_want hw fun _ hK=>xa1r ty x y ho g off t cur cur' v hx hy hg hoff hi h1 hc (hK _ _ h)
theorem xa8g {ops:Array Oper} {rest:List Oper} {o:Oper} {a:Act} {w:World} {Q:Exit→Act→World→Prop} (hw:Region.wanted o (yielded ops a.tmps) = true) (x:Operand) (ho:o.op = .buildSlice 62 1 #[(0,x)]) (d:List Nat) (hd:d.length = 32) (hx:a.eval x = .agg (brow d))
  (h:wpList Tryz.prog ops Q rest (a.put o.dst (.slice (some ⟨w.heap.size,0,none⟩) 1 1)) (w.alloc (.cells (brow d) 50))):wpList Tryz.prog ops Q (o :: rest) a w :=
 wpList_want hw fun _ hK=>by
  unfold Oper.wp
  rw [xb0h w x ho d hd hx]
  exact hK _ _ h
theorem xb5x (x:Int):Tryz.prog.built 64 [(0,.int .u16 x)] = some #[.int .u16 x,.slice none 0 0]:=by kernel_rfl
theorem xc1j {W:World} {g:Nat} {d:List Nat} (h:W.heap[g]? = some (.cells (brow d) 50 (0,0))):RdC 32 W (.slice (some ⟨g,0,none⟩) 1 1) (dgR [d]) :=
 ⟨_,1,1,rfl,rfl,Nat.le_refl _,by omega,fun _=>⟨g,0,rfl,fun j hj=>by
  have h0:j = 0:=by simp [dgR] at hj; omega
  subst h0
  exact xa0k [] (d.map u8) [] (by rw [List.nil_append,List.append_nil]; exact h) rfl⟩⟩
set_option maxHeartbeats 8000000 in
theorem xa8m (x c:Nat) (dv:Value) (ds:List (List Nat)) (w:World) (hx:x < 65536) (hc:c < 16) (hd:RdD w dv ds) (hl:ds.length≤1000000) :
  Calls Tryz.prog 60 #[.agg #[.int .u16 (x:Nat),dv],.int .i64 c] w fun e w'=>∃ v,e = .returned (.agg #[.int .u16 (x:Nat),v])∧RdD w' v (wod (x,ds) c).2∧(∀ y∈blk v,w.heap.size≤y)∧Kept [] w w':=by
 obtain ⟨da,dn,dc,rfl,h1,h2,h3,h4,h5⟩:=hd
 have HL:=hide h1
 have H4:=hide h4
 have H5:=hide h5
 have hdn:dn≤1000000:=by omega
 have HW:=hide (show (wod (x,ds) c).2 = woE (x.testBit c) (cnt x c) ds from rfl)
 have hcl:=cnt_le x c
 clear h1 h4 h5 hl
 have HG0:=hide (heap_alloc_new w (.cells #[.int .u16 (x:Nat),.slice da dn dc] 64))
 have HK0:=hide ((Kept.refl [] w).alloc (.cells #[.int .u16 (x:Nat),.slice da dn dc] 64))
 obtain ⟨W1,hW1⟩:∃ W1,w.alloc (.cells #[.int .u16 (x:Nat),.slice da dn dc] 64) = W1:=⟨_,rfl⟩
 rw [hW1] at HG0 HK0
 have HG1:=hide (heap_alloc_new W1 (.cells #[.int .u16 0,.slice none 0 0] 64))
 have HK1:=hide ((Kept.refl [] W1).alloc (.cells #[.int .u16 0,.slice none 0 0] 64))
 have HG02:=hide ((uh HK1).heap (uh HG0) (by simp))
 obtain ⟨W2,hW2⟩:∃ W2,W1.alloc (.cells #[.int .u16 0,.slice none 0 0] 64) = W2:=⟨_,rfl⟩
 rw [hW2] at HG1 HK1 HG02
 have HKW:=hide ((uh HK0).trans (uh HK1) (by simp))
 have hz1:W1.heap.size = w.heap.size + 1:=by rw [← hW1]; simp
 rw [hz1] at HG1
 have HZ1:=hide hz1
 have c0:W2.cell? ⟨w.heap.size,0,none⟩ = some (.int .u16 (x:Nat)):=cell_of_row _ _ 0 _ _ _ (uh HG02)
 clear hz1 HK0 HK1 HG0
 go_enter Tryz.func60,Tryz.ntmps60
 go_upto_region 1 with fail
 try rw [hW1]
 try rw [hW2]
 rw [uh HZ1]
 clear hW1 hW2
 go_wp2_with fail
 refine Calls.mono (xb5t x c W2 hx hc) ?_
 rintro e w3 ⟨rfl,k3⟩
 have HK3:=hide k3
 have HB3:=hide (k3.heap (uh HG02) (by simp))
 have HZ3:=hide (k3.heap (uh HG1) (by simp))
 have c0':w3.cell? ⟨w.heap.size,0,none⟩ = some (.int .u16 (x:Nat)):=cell_of_row _ _ 0 _ _ _ (uh HB3)
 clear k3 c0
 generalize x.testBit c = H at HW ⊢
 generalize cnt x c = AT at HW hcl ⊢
 have HN3:=hide (show w.heap.size + 1 < w3.heap.size from lt_of_block (uh HZ3))
 have HZA:=hide (heap_alloc_new w3 (.cells #[.int .u16 0,.slice none 0 0] 64))
 have HGA:=hide (setRow_heap _ _ _ #[.int .u16 (x:Nat),.slice none 0 0] _ _ (uh HZA))
 have HKA:=hide ((Kept.refl [] w3).alloc (.cells #[.int .u16 0,.slice none 0 0] 64) |>.setRow (g:=w3.heap.size) (Or.inr (Nat.le_refl _)) #[.int .u16 (x:Nat),.slice none 0 0])
 obtain ⟨W3,hW3⟩:∃ W3,(w3.alloc (.cells #[.int .u16 0,.slice none 0 0] 64)).setRow w3.heap.size #[.int .u16 (x:Nat),.slice none 0 0] = W3:=⟨_,rfl⟩
 rw [hW3] at HGA HKA
 have c1:W3.cell? ⟨w.heap.size,1,none⟩ = some (.slice da dn dc):=(uh HKA).cell (cell_of_row _ _ 1 _ _ _ (uh HB3)) (by simp)
 have HK03:=hide (((uh HKW).trans (uh HK3) (by simp)).trans (uh HKA) (by simp))
 have HZW:=hide ((uh HKA).heap (uh HZ3) (by simp))
 have hg7:w3.heap.size < W3.heap.size:=lt_of_block (uh HGA)
 go_upto_region 3 with (first
  | (refine xa0p rfl 64 _ rfl #[.int .u16 (x:Nat),.slice none 0 0] (by simp only [List.map_toArray,List.map_cons,List.map_nil]; exact xb5x x) ?_)
  | (refine wpList_store_row rfl 64 (.tmp 7) (.tmp 19) rfl w3.heap.size #[.int .u16 (x:Nat),.slice none 0 0] rfl rfl _ #[.int .u16 0,.slice none 0 0] (uh HZA) Tryz.size_stp rfl (p_two1 rfl rfl) ?_; rw [hW3]; simp only [Act.put]))
 clear hW3 c0' HZA
 go_wp2_with fail
 go_loopw [23] (fun t23 wr=>∃ (j:Nat) (v:Value),t23 = .int .i64 j∧j≤dn∧Hid (wr.heap[w3.heap.size]? = some (.cells #[.int .u16 (x:Nat),v] 64 (0,0)))∧Hid (wr.ownsRow W3.heap.size 50 32 v (woE H AT (ds.take j)).length (dgR (woE H AT (ds.take j))).flatten)∧Hid (Kept [w3.heap.size] W3 wr)) (fun t _=>dn - (intOf t).toNat)
 case atStart=>exact ⟨0,_,rfl,Nat.zero_le _,HGA,hide (by rw [List.take_zero,xc1n]; exact World.ownsRow_nil _ _ _ _),hide (Kept.refl _ _)⟩
 case round =>
  clear c1
  obtain ⟨j,v,rfl,hj,HG,HO,HKr⟩:=hrel
  have HKw:=hide (show Kept [] w wr from (uh HK03).trans (uh HKr) (fun y hy=>Or.inr (by rw [List.mem_singleton.1 hy]; have h1:=(uh HK3).size; have h2:=(uh HKW).size; omega)))
  by_cases hlt:j < dn
  ·have hlt':(j:Int) < dn:=by omega
   have hjd:j < ds.length:=by have:=uh HL; omega
   obtain ⟨b,o,rfl,hcl⟩:=uh H5 (by omega)
   have hrg:=hcl j hlt
   have hDj:=uh H4 (ds.getD j []) (by rw [List.getD_eq_getElem?_getD,List.getElem?_eq_getElem hjd]; exact List.getElem_mem hjd)
   have hsn:ds.take (j + 1) = ds.take j++[ds.getD j []]:=by rw [List.take_succ_eq_append_getElem hjd,List.getD_eq_getElem?_getD,List.getElem?_eq_getElem hjd]; rfl
   have htl:(ds.take j).length = j:=by rw [List.length_take]; omega
   have hwl:=xc0s H AT (ds.take j)
   rw [htl] at hwl
   have HKP:=hide (fun (h:H = false∨j≠AT)=>show woE H AT (ds.take (j + 1)) = woE H AT (ds.take j)++[ds.getD j []] by rw [hsn]; exact xb9m (by rw [htl]; exact h))
   have HSK:=hide (fun (h:H = true) (h2:j = AT)=>show woE H AT (ds.take (j + 1)) = woE H AT (ds.take j) by rw [hsn,h]; exact xb8m (by rw [htl]; exact h2))
   generalize ds.getD j [] = d at hrg hDj HKP
   generalize woE H AT (ds.take j) = E at HO hwl HKP HSK
   have hdl:=hDj.1
   have HRG:=hide (show wr.rangeAt b (o + j * 32) (d.map Go.Proofs.YtiopaaeejppnnaaGreatDoor.u8) from fun u z hz=>(uh HKw).cell (hrg u z hz) (by simp))
   have HZ1:=hide (heap_alloc_new wr (.cells (zb 32) 50))
   have HX0:=hide (setRow_heap _ _ _ (brow d) _ _ (uh HZ1))
   have HKq:=hide ((Kept.refl [] wr).alloc (.cells (zb 32) 50) |>.setRow (g:=wr.heap.size) (Or.inr (Nat.le_refl _)) (brow d))
   have HSD:=hide (by rw [xa0a,hdl]; exact Tryz.size_dig:(Tryz.prog.info? 50).map (·.size) = some (brow d).size)
   obtain ⟨wq,hwq⟩:∃ wq,(wr.alloc (.cells (zb 32) 50)).setRow wr.heap.size (brow d) = wq:=⟨_,rfl⟩
   rw [hwq] at HX0 HKq
   have HGq:=hide ((uh HKq).heap (uh HG) (by simp))
   have HOq:=hide ((uh HKq).owns (uh HO) (by simp))
   obtain ⟨vo,vc,rfl⟩:=xa0h (uh HOq)
   have hc1:wq.cell? ⟨w3.heap.size,1,none⟩ = some (.slice vo E.length vc):=cell_of_row _ _ 1 _ _ _ (uh HGq)
   clear hrg hcl hsn htl hjd
   go_upto_region 6 with (first
    | (refine wpList_load_mid rfl 50 (.tmp 26) rfl b (o + j * 32) rfl (d.map Go.Proofs.YtiopaaeejppnnaaGreatDoor.u8) _ (uh HRG) Tryz.underlying50 rfl (by rw [List.length_map,hdl]; exact Tryz.size_dig) ?_)
    | (rw [zb32]; refine wpList_store_row rfl 50 (.tmp 9) (.tmp 27) rfl wr.heap.size (brow d) rfl rfl _ (zb 32) (uh HZ1) (uh HSD) (by rw [xa0l,xa0a,hdl]) (xa0f _) ?_; rw [hwq]; simp only [Act.put]))
   clear hwq HZ1
   have HJ:=hide (show E.length≤1000000 by omega)
   by_cases hskip:H = true∧j = AT
   ·obtain ⟨rfl,rfl⟩:=hskip
    have HE:=hide (uh HSK rfl rfl)
    clear HKP HSK
    have hbq:((j:Int) != (j:Int)) = false:=by simp
    go_wp2_with fail
    refine ⟨⟨j + 1,_,by go_num,hlt,HGq,hide (by rw [uh HE]; exact uh HOq),hide ((uh HKr).trans (uh HKq) (by simp))⟩,?_⟩
    simp [intOf]; omega
   ·have hkeep:H = false∨j≠AT:=by
     cases H with
     | false=>exact Or.inl rfl
     | true=>exact Or.inr (fun e=>hskip ⟨rfl,e⟩)
    have HE:=hide (uh HKP hkeep)
    clear HKP HSK hskip
    cases H
    case' false=>go_upto_region 7 with fail
    case' true =>
     have hbq:((j:Int) != (AT:Int)) = true:=by rw [bne_iff_ne]; rcases hkeep with h | h; cases h; omega
     go_upto_region 7 with fail
    all_goals
     have HLN:=hide (heap_alloc_new wq (.cells (brow d) 50))
     have HKl:=hide ((Kept.refl [] wq).alloc (.cells (brow d) 50))
     have HOl:=hide ((uh HKl).owns (uh HOq) (by simp))
     have HGl:=hide ((uh HKl).heap (uh HGq) (by simp))
     obtain ⟨wl,hwl2⟩:∃ wl,wq.alloc (.cells (brow d) 50) = wl:=⟨_,rfl⟩
     rw [hwl2] at HLN HKl HOl HGl
     have HRL:=hide (xc1j (uh HLN))
     have HBS:=hide (show W3.heap.size≤wl.heap.size from Nat.le_trans (uh HKr).size (Nat.le_trans (uh HKq).size (uh HKl).size))
     have HOLT:=hide (fun y hy=>(uh HOl).lt y hy)
     iterate 8 (first | (refine wpList_load_row rfl 50 (.tmp 9) rfl wr.heap.size rfl 50 (brow d) (0,0) _ (uh HX0) Tryz.underlying50 rfl (uh HSD) ?_) | go_values | go_skip | go_guarded | go_step | go_upon)
     try simp only [Act.put,sa1,sa2,sa3]
     (refine xa8g rfl (.tmp 37) rfl d hdl rfl ?_; rw [hwl2])
     try simp only [Act.put,sa1,sa2,sa3]
     at_builtin
     refine xa0j rfl 62 50 (.tmp 36) (.tmp 38) rfl rfl _ W3.heap.size (.agg (zb 32)) 32 32 Tryz.underlying62 Tryz.infoDg3 rfl (by decide) (.slice vo E.length vc) E.length (dgR E).flatten (uh HOl) (some ⟨wq.heap.size,0,none⟩) 1 1 (dgR [d]) (uh HRL) (xa6h (by intro y hy; simp at hy; rw [hy]; exact hDj)) xb6t (by have:=uh HJ; omega) (by have:=uh HJ; omega) (uh HBS) rfl rfl ?_
     intro ao7 c7 w7 HO7 HG7 HA7
     clear hwl2
     try simp only [Act.put,sa1,sa2,sa3]
     go_upto_region 8 with (refine xa9w rfl 62 (.tmp 40) (.tmp 39) rfl w3.heap.size 1 64 #[.int .u16 (x:Nat),.slice vo E.length vc] #[.int .u16 (x:Nat),.slice ao7 (E.length + 1) c7] (.slice ao7 (E.length + 1) c7) rfl rfl (((Kept.refl (Value.slice vo E.length vc).ownBlock.toList wl).grown (uh HG7) (by intro y hy; left; simp [hy])).heap (uh HGl) (fun hm=>by have h1:=(uh HOLT _ (by simpa using hm)).1; omega)) (by simp) Tryz.size_dgs rfl rfl ?_)
     have hgx:=((Kept.refl (Value.slice vo E.length vc).ownBlock.toList wl).grown (uh HG7) (by intro y hy; left; simp [hy])).heap (uh HGl) (fun hm=>by have h1:=(uh HOLT _ (by simpa using hm)).1; omega)
     have HG8:=hide (setRow_heap _ _ _ #[.int .u16 (x:Nat),.slice ao7 (E.length + 1) c7] _ _ hgx)
     have hk78:=(Kept.refl [w3.heap.size] w7).setRow (g:=w3.heap.size) (Or.inl (by simp)) #[.int .u16 (x:Nat),.slice ao7 (E.length + 1) c7]
     have HO8:=hide (hk78.owns (uh HO7) (fun y hy hm=>by
      have h1:=(uh HO7).lt y hy
      have h2:=List.mem_singleton.1 hm
      omega))
     have HK8:=hide (((((uh HKr).trans (uh HKq) (by simp)).trans (uh HKl) (by simp)).grown (uh HG7) (fun y hy=>Or.inr (uh HOLT y hy).1)).trans hk78 (fun y hy=>Or.inl hy))
     have hlen:(E++[d]).length = E.length + 1:=by simp
     have hrows:(dgR (E++[d])).flatten = (dgR E).flatten++(dgR [d]).flatten:=by simp [dgR]
     clear hk78 hgx
     generalize w7.setRow w3.heap.size #[.int .u16 (x:Nat),.slice ao7 (E.length + 1) c7] = W8 at HG8 HO8 HK8 ⊢
     go_wp2_with fail
     refine ⟨⟨j + 1,.slice ao7 (E.length + 1) c7,by go_num,hlt,HG8,hide (by rw [uh HE,hlen,hrows]; exact uh HO8),HK8⟩,?_⟩
     simp [intOf]; omega
  ·have hje:j = dn:=by omega
   subst hje
   have hlt':¬ (j:Int) < j:=by omega
   have htk:ds.take j = ds:=List.take_of_length_le (by have:=uh HL; omega)
   rw [htk] at HO
   have hdg:∀ d∈woE H AT ds,Dg d:=woE_dg (uh H4)
   have hrd:=xb1j (xa1z (by rw [show (dgR (woE H AT ds)).length = (woE H AT ds).length by simp [dgR]]; exact uh HO) (xa6h hdg)) hdg
   rw [← uh HW] at hrd
   obtain ⟨vo,vc,rfl⟩:=xa0h (uh HO)
   have hbl:∀ y∈blk (.slice vo (woE H AT ds).length vc),W3.heap.size≤y:=fun y hy=>by
    rcases (uh HO).2 with ⟨e,_⟩ | ⟨g,c,cur,e,hg,_⟩
    ·injection e with e1; subst e1; simp [blk] at hy
    ·injection e with e1; subst e1; have:y = g:=by simpa [blk] using hy
     omega
   generalize (woE H AT ds).length = kl at hrd hbl HG HO ⊢
   have HRD:=hide hrd
   have HBL:=hide hbl
   have hn3:=uh HN3
   have HZR:=hide ((uh HKr).heap (uh HZW) (by simp; omega))
   have HB3:=hide (show w.heap.size + 1 < W3.heap.size by omega)
   have c0:wr.cell? ⟨w3.heap.size,0,none⟩ = some (.int .u16 (x:Nat)):=by rw [cell_of_row _ _ _ _ _ _ (uh HG)]; rfl
   have c1:wr.cell? ⟨w3.heap.size,1,none⟩ = some (.slice vo kl vc):=by rw [cell_of_row _ _ _ _ _ _ (uh HG)]; rfl
   have r0:wr.cell? ⟨w.heap.size + 1,0,none⟩ = some (.int .u16 0):=by rw [cell_of_row _ _ _ _ _ _ (uh HZR)]; rfl
   have r1:wr.cell? ⟨w.heap.size + 1,1,none⟩ = some (.slice none 0 0):=by rw [cell_of_row _ _ _ _ _ _ (uh HZR)]; rfl
   have z0:=frozen_of_row _ _ 0 _ _ (uh HZR)
   have z1:=frozen_of_row _ _ 1 _ _ (uh HZR)
   clear hrd hbl htk hdg HO
   go_wp2_with fail
   have k9:=((Kept.refl [w.heap.size + 1] wr).setCell (p:=⟨w.heap.size + 1,0,none⟩) (Or.inl (by simp)) (.int .u16 (x:Nat))).setCell (p:=⟨w.heap.size + 1,1,none⟩) (Or.inl (by simp)) (.slice vo kl vc)
   refine bodyPost_ret (v:=.agg #[.int .u16 (x:Nat),.slice vo kl vc]) ?_ rfl ⟨.slice vo kl vc,rfl,xb3n (uh HRD) k9 (fun y hy hm=>by have:=uh HBL y hy; have:=uh HB3; simp at hm; omega),fun y hy=>by have:=uh HBL y hy; have:=uh HB3; omega,((uh HKw).setCell (p:=⟨w.heap.size + 1,0,none⟩) (Or.inr (Nat.le_succ _)) _).setCell (p:=⟨w.heap.size + 1,1,none⟩) (Or.inr (Nat.le_succ _)) _⟩
   exact results_cell_row rfl _ _ (w.heap.size + 1) 64 #[.int .u16 (x:Nat),.slice vo kl vc] (0,0) _ rfl (by rw [heap_setCell_same _ (w.heap.size + 1) 1 _ _ _ (heap_setCell_same _ (w.heap.size + 1) 0 _ _ _ (uh HZR))]; rfl) Tryz.underlying64 rfl Tryz.size_stp
set_option maxHeartbeats 4000000 in
theorem xa9f (k:Nat) (hk:1≤k∧k≤32):∀ f,f≤64→NodeOk k f
 | f,hf=>by
  intro T mv L w hM hne hs hfit hl hpre hT
  have HM:=hide hM
  obtain ⟨ao,c,l,rfl,hc1,hc2,hll,hpr,hcell⟩:=hM.parts
  have HZ0:=hide (heap_alloc_new w (.cells (zb 32) 50))
  have HK0:=hide ((Kept.refl [] w).alloc (.cells (zb 32) 50))
  have hNd:=nod_dg k f L
  have HPB:=hide (show (pairB L).length≤1000000000000 by have:=xa3g hfit; omega)
  have HS:=hide hs
  have HFI:=hide hfit
  have HPR:=hide hpre
  cases hsg:sgl (hsZ k) L with
  | true =>
   have hE:nodP (hsZ k) f L = sumD (k:Int) (buckB L):=xb7i hsg
   obtain ⟨C,hC⟩:∃ C,nodP (hsZ k) f L = C:=⟨_,rfl⟩
   rw [hC] at hE hNd ⊢
   have HE:=hide hE
   have HSG:=hide hsg
   have hcl:=hNd.1
   have HS2:=hide (by rw [xa0a,hcl]; exact Tryz.size_dig:(Tryz.prog.info? 50).map (·.size) = some (brow C).size)
   clear hM hcell hpr hs hfit hpre hE hC hsg hNd
   go_enter Tryz.func120,Tryz.ntmps120
   go_wp2_with fail
   rw [zb32]
   refine Calls.mono (xa4l T k _ L _ hk ((uh HM).agr (Agr.nil (uh HK0))) (uh HS) hl) ?_
   rintro e w1 ⟨rfl,k1⟩
   rw [uh HSG]
   have HK1:=hide ((uh HK0).trans k1 (by simp))
   have HZ1:=hide (k1.heap (uh HZ0) (by simp))
   clear k1
   go_wp2_with fail
   refine Calls.mono (xa4m T k _ L w1 ((uh HM).agr (Agr.nil (uh HK1))) hl) ?_
   rintro e w2 ⟨v2,rfl,r2,k2⟩
   have HR2:=hide r2
   have HK2:=hide ((uh HK1).trans k2 (by simp))
   have HZ2:=hide (k2.heap (uh HZ1) (by simp))
   clear r2 k2
   go_wp2_with fail
   refine Calls.mono (xa6y k v2 L w2 hk (uh HR2) (uh HPB)) ?_
   rintro e w3 ⟨rfl,k3⟩
   rw [← uh HE]
   have HK3:=hide ((uh HK2).trans k3 (by simp))
   have HZ3:=hide (k3.heap (uh HZ2) (by simp))
   clear k3
   go_wp2_with (refine wpList_store_row rfl 50 _ _ rfl w.heap.size (brow C) rfl rfl _ (zb 32) (uh HZ3) (uh HS2) (by rw [xa0l,xa0a,hcl]) (xa0f _) ?_)
   refine bodyPost_ret (v:=.agg (brow C)) ?_ rfl ⟨rfl,(uh HK3).setRow (Or.inr (Nat.le_refl _)) _⟩
   exact results_cell_row rfl _ _ w.heap.size _ (brow C) (0,0) _ rfl (setRow_heap _ _ _ _ _ _ (uh HZ3)) Tryz.underlying50 rfl (uh HS2)
  | false =>
   match f,hf with
   | 0,_=>exact absurd (xb6n (hsZ_ok hk) hpre (by have:(hsZ k).wd = k:=rfl; omega)) (by rw [hsg]; simp)
   | f + 1,hf =>
    have IH:=hide (xa9f k hk f (by omega))
    have hE:nodP (hsZ k) (f + 1) L = sumD (k:Int) (branchB (k:Int) (bm (hsZ k) (63 - f) L) ((kidsL (hsZ k) (63 - f) L).map (nodP (hsZ k) f))):=by
     rw [nod_br hsg]; unfold kidsL; rw [List.map_map]; rfl
    obtain ⟨C,hC⟩:∃ C,nodP (hsZ k) (f + 1) L = C:=⟨_,rfl⟩
    rw [hC] at hE hNd ⊢
    have HE:=hide hE
    have HSG:=hide hsg
    have hcl:=hNd.1
    have hd:64 - (f + 1) = 63 - f:=by omega
    rw [hd] at HPR ⊢
    have HS2:=hide (by rw [xa0a,hcl]; exact Tryz.size_dig:(Tryz.prog.info? 50).map (·.size) = some (brow C).size)
    have hbl:=bm_lt (hsZ k) (63 - f) L
    have hkl:((kidsL (hsZ k) (63 - f) L).map (nodP (hsZ k) f)).length≤16:=by rw [List.length_map,xa1q]; exact cnt_le _ _
    have HST:=hide (fun w hM=>xa9i k f (by omega) (uh IH) T (.slice ao L.length c) L w hM hne (uh HS) (uh HFI) hl (uh HPR))
    generalize bm (hsZ k) (63 - f) L = BM at HE hbl HST
    generalize (kidsL (hsZ k) (63 - f) L).map (nodP (hsZ k) f) = KS at HE hkl HST
    generalize 63 - f = d at HST ⊢
    clear hM hcell hpr hs hfit hpre hE hC hsg hNd hd
    go_enter Tryz.func120,Tryz.ntmps120
    go_wp2_with fail
    rw [zb32]
    refine Calls.mono (xa4l T k _ L _ hk ((uh HM).agr (Agr.nil (uh HK0))) (uh HS) hl) ?_
    rintro e w1 ⟨rfl,k1⟩
    rw [uh HSG]
    have HK1:=hide ((uh HK0).trans k1 (by simp))
    have HZ1:=hide (k1.heap (uh HZ0) (by simp))
    clear k1
    go_wp2_with fail
    refine Calls.mono (uh HST w1 ((uh HM).agr (Agr.nil (uh HK1)))) ?_
    rintro e w2 ⟨v2,rfl,r2,n2,k2⟩
    obtain ⟨p1,p2,p3,rfl,_⟩:=id r2
    have HK2:=hide ((uh HK1).trans k2 (by simp))
    have HZ2:=hide (k2.heap (uh HZ1) (by simp))
    have HKS:=hide ((Kept.refl [] w2).alloc (.cells #[.int .u16 (BM:Nat),.slice p1 p2 p3] 64))
    have HR2:=hide (r2.old (uh HKS))
    have HQ:=hide (heap_alloc_new w2 (.cells #[.int .u16 (BM:Nat),.slice p1 p2 p3] 64))
    have HK3:=hide ((uh HK2).trans (uh HKS) (by simp))
    have HZ3:=hide ((uh HKS).heap (uh HZ2) (by simp))
    clear r2 k2 n2
    have c0:(w2.alloc (.cells #[.int .u16 (BM:Nat),.slice p1 p2 p3] 64)).cell? ⟨w2.heap.size,0,none⟩ = some (.int .u16 (BM:Nat)):=by rw [cell_of_row _ _ _ _ _ _ (uh HQ)]; rfl
    have c1:(w2.alloc (.cells #[.int .u16 (BM:Nat),.slice p1 p2 p3] 64)).cell? ⟨w2.heap.size,1,none⟩ = some (.slice p1 p2 p3):=by rw [cell_of_row _ _ _ _ _ _ (uh HQ)]; rfl
    go_wp2_with fail
    refine Calls.mono (xa6w k BM _ KS _ hk hbl (uh HR2) hkl) ?_
    rintro e w4 ⟨rfl,k4⟩
    rw [← uh HE]
    have HK4:=hide ((uh HK3).trans k4 (by simp))
    have HZ4:=hide (k4.heap (uh HZ3) (by simp))
    clear k4 c0 c1
    go_wp2_with (refine wpList_store_row rfl 50 _ _ rfl w.heap.size (brow C) rfl rfl _ (zb 32) (uh HZ4) (uh HS2) (by rw [xa0l,xa0a,hcl]) (xa0f _) ?_)
    refine bodyPost_ret (v:=.agg (brow C)) ?_ rfl ⟨rfl,(uh HK4).setRow (Or.inr (Nat.le_refl _)) _⟩
    exact results_cell_row rfl _ _ w.heap.size _ (brow C) (0,0) _ rfl (setRow_heap _ _ _ _ _ _ (uh HZ4)) Tryz.underlying50 rfl (uh HS2)
theorem xb1d {ops:Array Oper} {rest:List Oper} {o:Oper} {a:Act} {w:World} {Q:Exit→Act→World→Prop} (hw:Region.wanted o (yielded ops a.tmps) = true) (x:Operand) (ho:o.op = .buildSlice 33 1 #[(0,x)]) (n:Int) (vu:Value) (hx:a.eval x = .agg #[.int .u16 n,vu])
  (h:wpList Tryz.prog ops Q rest (a.put o.dst (.slice (some ⟨w.heap.size,0,none⟩) 1 1)) (w.alloc (.cells #[.int .u16 n,vu] 64))):wpList Tryz.prog ops Q (o :: rest) a w :=
 wpList_want hw fun _ hK=>by
  unfold Oper.wp
  rw [xa8f w x ho n vu hx]
  exact hK _ _ h
theorem xc1s {x:Nat} {v:Value} (h:v.oneCell' = true):∀ r∈stR [(x,v)],∀ u∈r,u.oneCell' = true:=by
 intro r hr u hu
 simp [stR] at hr
 rw [hr] at hu
 simp at hu
 rcases hu with rfl | rfl
 ·rfl
 ·exact h
theorem xb5q {T:Nat→Prop} {k:Nat} {w w1:World} {v v' u:Value} {L:Prs} (h:IAt (tS T v) k w u L) (hn:L≠[]) (hg:w.grownBy w1 v.ownBlock) (hb:v'.ownBlock = v.ownBlock∨v'.ownBlock = some w.heap.size):IAt (tS T v') k w1 u L:=by
 have hK:=(Kept.refl v.ownBlock.toList w).grown hg (by intro x hx; left; simp [hx])
 have ha:Agr (lowS (tS T v) w) w w1:=⟨hK.size,fun x hx hl=>hK.block x hl (by
  intro hm
  have:v.ownBlock = some x:=by simpa using hm
  exact hx.1.2 this)⟩
 refine (h.shrink.agr ha).mono (fun x hx=>⟨hx.1.1,?_⟩)
 rcases hb with e | e
 ·rw [e]; exact hx.1.2
 ·rw [e]; intro e2; have h2:=hx.2; injection e2 with e3; omega
set_option maxHeartbeats 8000000 in
theorem xb2t (T:Nat→Prop) (k:Nat) (hk:1≤k∧k≤32) (mv qv:Value) (q:List Nat) (L:Prs) (w:World) (hM:IAt T k w mv L) (hq:Rd w qv q) (hql:q.length≤140737488351232) (hs:Srt (hsZ k) L) (hfit:Fit L) (hl:L.length≤1000000000) (hT:∀ y,w.heap.size≤y→T y) :
  Calls Tryz.prog 59 #[.int .i64 k,mv,qv] w fun e w'=>∃ sv pv,e = .returned (.tuple #[sv,pv])∧WalkP k w' q L sv pv∧(∀ y∈blk pv,w.heap.size≤y)∧Kept [] w w':=by
 have hH:=hsZ_ok hk
 have HM:=hide hM
 have HQ:=hide hq
 have HS:=hide hs
 have HFI:=hide hfit
 have HT:=hide hT
 have hDg:Dg ((hsZ k).kd q):=hH.dg q
 have hDe:sumD (k:Int) (2 :: q) = (hsZ k).kd q:=rfl
 clear hM hq hs hfit hT
 go_enter Tryz.func59,Tryz.ntmps59
 go_wp2_with fail
 refine Calls.mono (xa4s k qv q w hk (uh HQ) hql) ?_
 rintro e w1 ⟨rfl,k1⟩
 rw [hDe]
 obtain ⟨D,hD⟩:∃ D,(hsZ k).kd q = D:=⟨_,rfl⟩
 rw [hD] at hDg ⊢
 have HD:=hide hD
 have hDl:=hDg.1
 have HZ1:=hide (heap_alloc_new w1 (.cells (zb 32) 50))
 have HX0:=hide (setRow_heap _ _ _ (brow D) _ _ (uh HZ1))
 have HK12:=hide ((Kept.refl [] w1).alloc (.cells (zb 32) 50) |>.setRow (g:=w1.heap.size) (Or.inr (Nat.le_refl _)) (brow D))
 obtain ⟨W0,hW0⟩:∃ W0,(w1.alloc (.cells (zb 32) 50)).setRow w1.heap.size (brow D) = W0:=⟨_,rfl⟩
 rw [hW0] at HX0 HK12
 have HKW:=hide (k1.trans (uh HK12) (by simp))
 have HM0:=hide ((uh HM).agr (Agr.nil (uh HKW)))
 have HS1:=hide (by rw [xa0a,hDl]; exact Tryz.size_dig:(Tryz.prog.info? 50).map (·.size) = some (brow D).size)
 clear k1 hD hDe
 go_wp2_with (rw [zb32]; refine wpList_store_row rfl 50 (.tmp 9) (.tmp 13) rfl w1.heap.size (brow D) rfl rfl _ (zb 32) (uh HZ1) (uh HS1) (by rw [xa0l,xa0a,hDl]) (xa0f _) ?_; rw [hW0]; simp only [Act.put])
 go_loopw [1,8,10] (fun t1 t8 t10 wr=>∃ (i:Nat) (iv v:Value) (sl:List (Nat × Value)),t10 = .int .i64 i∧t1 = iv∧t8 = v∧i≤64∧Hid (IAt (tS T v) k wr iv (dnL (hsZ k) q L i))∧Hid (SLay W0.heap.size wr v sl ((List.range i).map (stp k q L)))∧Hid (∀ j,j < i→sgl (hsZ k) (dnL (hsZ k) q L j) = false)∧Hid (Kept [] W0 wr)) (fun _ _ t _=>64 - (intOf t).toNat)
 case atStart=>exact ⟨0,mv,_,[],rfl,rfl,rfl,Nat.zero_le _,hide ((uh HM0).mono (fun x hx=>⟨hx,by simp [Value.ownBlock]⟩)),hide (SLay.nil _ _),hide (fun j hj=>by omega),hide (Kept.refl _ _)⟩
 case round =>
  clear HM0
  obtain ⟨i,iv,v,sl,rfl,rfl,rfl,hi,HI,HSL,HNS,HKr⟩:=hrel
  have hln:=dn_len (H:=hsZ k) (q:=q) (L:=L) i
  have HLN:=hide (show (dnL (hsZ k) q L i).length≤1000000000 by omega)
  have HSr:=hide (dn_srt (H:=hsZ k) (q:=q) (uh HS) i)
  have HFr:=hide (show Fit (dnL (hsZ k) q L i) from (uh HFI).sub (fun x hx=>dn_sub i x hx))
  have HOn:=hide (dn_on (H:=hsZ k) (q:=q) (L:=L) i).pre
  clear hln
  go_wp2_with fail
  refine Calls.mono (xa4l _ k _ _ wr hk (uh HI) (uh HSr) (uh HLN)) ?_
  rintro e w3 ⟨rfl,k3⟩
  have HK3:=hide ((uh HKr).trans k3 (by simp))
  have HI3:=hide ((uh HI).agr (Agr.nil k3))
  have HSL3:=hide ((uh HSL).agr k3)
  clear k3
  cases hsg:sgl (hsZ k) (dnL (hsZ k) q L i) with
  | true =>
   have HSG:=hide hsg
   clear hsg
   go_wp2_with fail
   refine Calls.mono (xa3s _ k _ _ w3 (uh HI3) (uh HLN)) ?_
   rintro e w4 ⟨v4,rfl,r4,n4,k4⟩
   have HR4:=hide r4
   have HN4:=hide (show ∀ y∈blk v4,w.heap.size≤y from fun y hy=>by have h1:=n4 y hy; have h2:=(uh HKW).size; have h3:=(uh HK3).size; omega)
   have HK4:=hide ((uh HK3).trans k4 (by simp))
   have HRS:=hide ((uh HSL3).rdS.old k4)
   clear r4 k4 n4
   go_wp2_with fail
   go_ret2
   first
   | exact ⟨_,_,rfl,⟨i,uh HRS,uh HR4,uh HNS,uh HSG⟩,uh HN4,(uh HKW).trans (uh HK4) (by simp)⟩
  | false =>
   have hne:dnL (hsZ k) q L i≠[]:=fun e=>by rw [e,xb0d] at hsg; cases hsg
   have hdp:=deep hH (uh HOn) hsg
   have hwd:(hsZ k).wd = k:=rfl
   have hi63:i≤63:=by omega
   have HNS2:=hide (show ∀ j,j < i + 1→sgl (hsZ k) (dnL (hsZ k) q L j) = false from fun j hj=>by
    rcases Nat.lt_or_ge j i with h | h
    ·exact uh HNS j h
    ·rw [show j = i by omega]; exact hsg)
   have h63:63 - (63 - i) = i:=by omega
   have HST:=hide (xa9i k (63 - i) (by omega) (xa9f k hk (63 - i) (by omega)) _ _ _ w3 (uh HI3) hne (uh HSr) (uh HFr) (uh HLN) (by rw [h63]; exact uh HOn))
   rw [h63] at HST
   have HSTP:=hide (show stp k q L i = (bm (hsZ k) i (dnL (hsZ k) q L i),(kidsL (hsZ k) i (dnL (hsZ k) q L i)).map (nodP (hsZ k) (63 - i))) from rfl)
   have hbl:=bm_lt (hsZ k) i (dnL (hsZ k) q L i)
   generalize bm (hsZ k) i (dnL (hsZ k) q L i) = BM at HST HSTP hbl
   generalize (kidsL (hsZ k) i (dnL (hsZ k) q L i)).map (nodP (hsZ k) (63 - i)) = KS at HST HSTP
   have HNE:=hide hne
   clear hne hdp hwd hsg h63
   have HCH:=hide (fun (T:Nat→Prop) (u:Value) (W:World) (hI:IAt T k W u (dnL (hsZ k) q L i)) (hT:∀ y,W.heap.size≤y→T y)=>xa7s T k i (dgt D i) u (dnL (hsZ k) q L i) W hI (by omega) (dgt_lt hDg.2 i) (uh HLN) hT)
   have hdn:ch (hsZ k) i (dgt D i) (dnL (hsZ k) q L i) = dnL (hsZ k) q L (i + 1):=by rw [← uh HD]; rfl
   rw [hdn] at HCH
   clear hdn
   go_wp2_with fail
   refine Calls.mono (uh HST) ?_
   clear HST
   rintro e w4 ⟨v2,rfl,r2,n2,k4⟩
   obtain ⟨p1,p2,p3,rfl,_⟩:=id r2
   have HK4:=hide ((uh HK3).trans k4 (by simp))
   have HI4:=hide ((uh HI3).agr (Agr.nil k4))
   have HSL4:=hide ((uh HSL3).agr k4)
   obtain ⟨vo,vc,rfl⟩:=xa0h (uh HSL4).own
   have HOWN:=hide (fun z hz=>(uh HSL3).own.lt z hz)
   have hka:=(Kept.refl [] w4).alloc (.cells #[.int .u16 (BM:Nat),.slice p1 p2 p3] 64)
   have HKA:=hide hka
   have HSL5:=hide ((uh HSL4).agr hka)
   have HK5:=hide ((uh HK4).trans hka (by simp))
   have HSTY:=hide (show Sty (tB W0.heap.size (.slice vo sl.length vc)) (w4.alloc (.cells #[.int .u16 (BM:Nat),.slice p1 p2 p3] 64)) (fun w=>RdD w (.slice p1 p2 p3) KS) from Sty.rdD (r2.old hka) (fun y hy=>⟨by have:=n2 y hy; have:=(uh HK3).size; omega,fun e=>by have h1:=(uh HOWN y e).2; have h2:=n2 y hy; omega⟩))
   have HRL:=hide (show RdC 2 (w4.alloc (.cells #[.int .u16 (BM:Nat),.slice p1 p2 p3] 64)) (.slice (some ⟨w4.heap.size,0,none⟩) 1 1) (stR [(BM,.slice p1 p2 p3)]) from ⟨_,1,1,rfl,rfl,Nat.le_refl _,by omega,fun _=>⟨w4.heap.size,0,rfl,fun j hj=>by
     have h0:j = 0:=by simp [stR] at hj; omega
     subst h0
     exact xa0k [] [.int .u16 (BM:Nat),.slice p1 p2 p3] [] (heap_alloc_new w4 _) rfl⟩⟩)
   have hsll:=(uh HSL).len
   rw [List.length_map,List.length_range] at hsll
   have hbnd:sl.length + 1≤100:=by omega
   have hown:∀ z,(Value.slice vo sl.length vc).ownBlock = some z→W0.heap.size≤z:=fun z hz=>(uh HOWN z hz).1
   clear r2 n2 k4 hka hsll
   go_upto_region 7 with (first
    | (refine xb1d rfl (.tmp 23) rfl (BM:Nat) (.slice p1 p2 p3) rfl ?_)
    | (at_builtin; refine xa0j rfl 33 64 (.tmp 19) (.tmp 24) rfl rfl _ W0.heap.size (.agg #[.int .u16 0,.slice none 0 0]) 2 32 Tryz.underlying33 Tryz.infoSt rfl (by decide) (.slice vo sl.length vc) sl.length (stR sl).flatten (uh HSL5).own (some ⟨w4.heap.size,0,none⟩) 1 1 (stR [(BM,.slice p1 p2 p3)]) (uh HRL) (by intro r hr; simp [stR] at hr; rw [hr]; rfl) (xc1s rfl) (by omega) (by omega) (uh HK5).size rfl rfl ?_; intro ao7 c7 w7 HO7 HG7 HA7))
   have HS7:=hide ((uh HSL5).snoc hbl (uh HSTY) (uh HO7) (uh HG7) (uh HA7))
   have HK7:=hide ((uh HK5).grown (uh HG7) (fun z hz=>Or.inr (hown z hz)))
   have HX7:=hide ((uh HK7).heap (uh HX0) (by simp))
   have HI7:=hide (xb5q (((uh HI4).agr (Agr.nil (uh HKA)))) (uh HNE) (uh HG7) (uh HA7))
   have HT7:=hide (show ∀ y,w7.heap.size≤y→tS T (.slice ao7 (sl.length + 1) c7) y from fun y hy=>⟨uh HT y (by have:=(uh HK7).size; have:=(uh HKW).size; omega),fun e=>by have:=((uh HO7).lt y e).2; omega⟩)
   clear hown hbnd HO7 HG7 HA7 HSL5 HK5 HSTY HRL HSL4 HI4
   go_wp2_with (refine wpList_load_row rfl 50 (.tmp 9) rfl w1.heap.size rfl 50 (brow D) (0,0) _ (uh HX7) Tryz.underlying50 rfl (uh HS1) ?_)
   refine Calls.mono (xa4k D i w7 hDg (by omega)) ?_
   rintro e w8 ⟨rfl,k8⟩
   have HI8:=hide ((uh HI7).agr (Agr.nil k8))
   have HS8:=hide ((uh HS7).agr k8)
   have HK8:=hide ((uh HK7).trans k8 (by simp))
   have HT8:=hide (show ∀ y,w8.heap.size≤y→tS T (.slice ao7 (sl.length + 1) c7) y from fun y hy=>uh HT7 y (by have:=k8.size; omega))
   clear k8
   go_wp2_with fail
   refine Calls.mono (uh HCH _ _ w8 (uh HI8) (uh HT8)) ?_
   rintro e w9 ⟨v9,rfl,hi9,k9⟩
   have HI9:=hide hi9
   have HS9:=hide ((uh HS8).agr k9)
   have HK9:=hide ((uh HK8).trans k9 (by simp))
   clear hi9 k9 HCH
   go_wp2_with fail
   refine ⟨⟨i + 1,v9,.slice ao7 (sl.length + 1) c7,_,by go_num,rfl,rfl,by omega,HI9,hide (by rw [List.range_succ,List.map_append,List.map_cons,List.map_nil,uh HSTP]; exact uh HS9),HNS2,HK9⟩,?_⟩
   simp [intOf]; omega
theorem SNew.base {B C:Nat} {w:World} {v:Value} {gs:List (Nat × Nat)} {ss:List Stp} (h:SNew B w v gs ss) (hc:C≤B):SNew C w v gs ss:=by
 refine ⟨⟨h.own.1,?_⟩,h.len,fun i hi=>?_,h.dis⟩
 ·rcases h.own.2 with h1 | ⟨g,cap,cur,h1,h2,h3⟩
  ·exact Or.inl h1
  ·exact Or.inr ⟨g,cap,cur,h1,Nat.le_trans hc h2,h3⟩
 ·exact { h.kid i hi with new:=Nat.le_trans hc (h.kid i hi).new }
theorem SNew.lts {B:Nat} {w:World} {v:Value} {gs:List (Nat × Nat)} {ss:List Stp} (h:SNew B w v gs ss):(∀ p∈gs,p.1 < w.heap.size)∧∀ b,v.ownBlock = some b→b < w.heap.size:=by
 refine ⟨fun p hp=>?_,fun b hb=>(h.own.lt b hb).2⟩
 obtain ⟨j,hj,rfl⟩:=List.getElem_of_mem hp
 have h8:=(h.kid j (by have:=h.len; omega)).lt
 rw [List.getD_eq_getElem?_getD,List.getElem?_eq_getElem hj,Option.getD_some] at h8
 exact h8
theorem LayAt.far {C:Nat} {w w':World} {v:Value} {l:List VP} {L:Prs} {M:List Nat} (h:LayAt C w v l L) (k:Kept M w w') (hM:∀ x∈M,x < C):LayAt C w' v l L :=
 ⟨k.owns h.own (fun b hb hm=>by have h1:=(h.own.lt b hb).1; have h2:=hM b hm; omega),h.pr.agr ⟨k.size,fun x hx hl=>k.block x hl (fun hm=>by have h1:=hM x hm; have h2:=hx.1; omega)⟩⟩
structure SLP (B:Nat) (w:World) (sv pv:Value) (gs:List (Nat × Nat)) (ss:List Stp) (E:Prs) (C:Nat) (l:List VP):Prop where
 st:SNew B w sv gs ss
 ly:LayAt C w pv l E
 lo:(∀ p∈gs,p.1 < C)∧∀ b,sv.ownBlock = some b→b < C
 bc:B≤C
theorem SLP.kept {B:Nat} {w w':World} {sv pv:Value} {gs:List (Nat × Nat)} {ss:List Stp} {E:Prs} {C:Nat} {l:List VP} (h:SLP B w sv pv gs ss E C l) (k:Kept [] w w'):SLP B w' sv pv gs ss E C l:=⟨h.st.kept k,h.ly.agr k,h.lo,h.bc⟩
theorem SLP.far {B:Nat} {w w':World} {sv pv:Value} {gs:List (Nat × Nat)} {ss:List Stp} {E:Prs} {C:Nat} {l:List VP} {M:List Nat} (h:SLP B w sv pv gs ss E C l) (k:Kept M w w') (hM:∀ x∈M,x < B):SLP B w' sv pv gs ss E C l :=
 ⟨⟨k.owns h.st.own (fun b hb hm=>by have h1:=(h.st.own.lt b hb).1; have h2:=hM b hm; omega),h.st.len,fun i hi=>(h.st.kid i hi).kept k (fun hm=>by have h1:=(h.st.kid i hi).new; have h2:=hM _ hm; omega),h.st.dis⟩,h.ly.far k (fun x hx=>Nat.lt_of_lt_of_le (hM x hx) h.bc),h.lo,h.bc⟩
theorem SLP.base {B B':Nat} {w:World} {sv pv:Value} {gs:List (Nat × Nat)} {ss:List Stp} {E:Prs} {C:Nat} {l:List VP} (h:SLP B w sv pv gs ss E C l) (hb:B'≤B):SLP B' w sv pv gs ss E C l:=⟨h.st.base hb,h.ly,h.lo,Nat.le_trans hb h.bc⟩
def WalkN (k B:Nat) (w:World) (q:List Nat) (L:Prs) (sv pv:Value):Prop:=∃ m gs C l,SLP B w sv pv gs ((List.range m).map (stp k q L)) (dnL (hsZ k) q L m) C l∧WayM k q L m∧∀ i,i < m→(gs.getD i (0,0)).2 = (stp k q L i).2.length
set_option maxHeartbeats 4000000 in
theorem xb5n (S:Nat→Prop) (k:Nat) (mv kv:Value) (L:Prs) (q:List Nat) (w:World) (hM:MapAt S k w mv L) (hku:Rd w kv q) (hq:q.length≤64) (hT:Tabs w) :
  Calls Tryz.prog 22 #[mv,kv] w fun e w'=>∃ sv pv,e = .returned (.tuple #[sv,pv,.int .i64 0])∧WalkN k w.heap.size w' q L sv pv∧Kept [] w w':=by
 have HM:=hide hM
 obtain ⟨hk,hs,hfit,hlen,g,tv,rfl,hSg,hh,htop⟩:=hM
 have hH:=hsZ_ok hk
 have HKU:=hide hku
 have HTb:=hide hT
 have HSr:=hide hs
 clear hh htop hT hs hku hfit hSg
 go_enter Tryz.func22,Tryz.ntmps22
 go_wp2_with fail
 refine Calls.mono (xa2p S k _ kv L q w (uh HM) (uh HKU) hq (uh HTb)) ?_
 rintro e w1 ⟨m,cr,en,pl,fd,rfl,hway,k1⟩
 have hon:=hway.cells
 have HWay:=hide hway
 have hDl:((hsZ k).kd q).length = 32:=(hH.dg q).1
 obtain ⟨D,hD⟩:∃ D,(hsZ k).kd q = D:=⟨_,rfl⟩
 rw [hD] at hDl ⊢
 clear hD hway
 have hws:((wayC k D cr en pl fd).toArray).size = 37:=by rw [List.size_toArray,xa0w hDl]
 have HZ1:=hide (heap_alloc_new w1 (.cells zwy 88))
 have HN2:=hide (setRow_heap _ _ _ (wayC k D cr en pl fd).toArray _ _ (uh HZ1))
 have HK12:=hide ((Kept.refl [] w1).alloc (.cells zwy 88) |>.setRow (g:=w1.heap.size) (Or.inr (Nat.le_refl _)) (wayC k D cr en pl fd).toArray)
 have HK2:=hide (k1.trans (uh HK12) (by simp))
 clear k1
 obtain ⟨W2,hW2⟩:∃ W2,(w1.alloc (.cells zwy 88)).setRow w1.heap.size (wayC k D cr en pl fd).toArray = W2:=⟨_,rfl⟩
 rw [hW2] at HN2 HK12 HK2
 obtain ⟨⟨gs,hgl,hrd,htr⟩,hend,hdeep⟩:=(uh HWay).old (uh HK12)
 obtain ⟨ao,c,b,off,rfl,hc1,hc2,hao,hcell⟩:=xb3b hrd
 rw [hgl] at hc1 hao hcell hon hws HN2 hW2 ⊢
 obtain ⟨cw0,cw1,cw2,cw3,cw4,cw5⟩:=xa0s (uh HN2) hDl
 have HC:=hide hcell
 have HTR:=hide htr
 have HEn:=hide hend
 have HAO:=hide hao
 have HW3:=hide cw3
 have hL0:=hide (SNew.nil W2.heap.size W2)
 have hKa:=hide (Kept.refl [] W2)
 clear cw0 cw1 cw3 cw4 cw5 hcell htr hrd hend hao HWay
 go_wp2_with (rw [xa2t]; refine wpList_store_row rfl 88 (.tmp 7) (.tmp 16) rfl w1.heap.size (wayC k D (.slice ao m c) en pl fd).toArray rfl rfl _ zwy (uh HZ1) (by rw [hws]; exact Tryz.size_way) (by rw [hws]; rfl) (xa1k _ _ hon.1 hon.2) ?_; rw [hW2]; simp only [Act.put])
 go_loopw [9,24] (fun t9 t24 wr=>∃ (i:Nat) (v:Value) (gz:List (Nat × Nat)),t24 = .int .i64 i∧t9 = v∧i≤m∧Hid (SNew W2.heap.size wr v gz ((List.range i).map (stp k q L)))∧Hid (∀ j,j < i→(gz.getD j (0,0)).2 = (stp k q L j).2.length)∧Hid (Kept [] W2 wr)) (fun _ t _=>m - (intOf t).toNat)
 case atStart=>exact ⟨0,_,[],rfl,rfl,Nat.zero_le _,hL0,hide (fun j hj=>by omega),hKa⟩
 case round =>
  clear hL0 hKa cw2
  obtain ⟨i,v,gz,rfl,rfl,hi,HSL,HCP,HKr⟩:=hrel
  by_cases hlt:i < m
  ·have hlt':(i:Int) < m:=by omega
   have haod:=uh HAO (by omega)
   subst haod
   have hx1:=(uh HKr).cell (uh HC i hlt) (by simp)
   obtain ⟨ht,hsg⟩:=uh HTR i hlt
   generalize gs.getD i 0 = gi at hx1 ht
   obtain ⟨f,hf⟩:∃ f,64 - i = f + 1:=⟨63 - i,by omega⟩
   have hfi:63 - f = i:=by omega
   have hif:63 - i = f:=by omega
   rw [hf] at ht
   obtain ⟨g',kvv,vs,e,hSg,hh,hrow,hle,hkd⟩:=ht.2 hsg
   have eg:g' = gi:=by injection e with _ e2; injection e2 with e3; injection e3 with e4; injection e4 with e5; exact e5.symm
   subst eg
   rw [hfi] at hh hle hkd
   obtain ⟨b0,b1,_⟩:=br_row hh
   have hst:stp k q L i = (bm (hsZ k) i (dnL (hsZ k) q L i),(kidsL (hsZ k) i (dnL (hsZ k) q L i)).map (nodP (hsZ k) f)):=by unfold stp; rw [hif]
   have hbl:=bm_lt (hsZ k) i (dnL (hsZ k) q L i)
   have hkp:=(xa5t hH (d:=i) ht.ne).1
   have hkl:=xa1q (hsZ k) i (dnL (hsZ k) q L i)
   have hkc:=cnt_le (bm (hsZ k) i (dnL (hsZ k) q L i)) 16
   have hdg:∀ d∈(kidsL (hsZ k) i (dnL (hsZ k) q L i)).map (nodP (hsZ k) f),Dg d:=fun d hd=>by
    obtain ⟨K,_,rfl⟩:=List.mem_map.1 hd
    exact nod_dg k f K
   rw [← hkl] at hkc
   have HSt:=hide hst
   generalize bm (hsZ k) i (dnL (hsZ k) q L i) = x at b0 hbl hst HSt
   generalize kidsL (hsZ k) i (dnL (hsZ k) q L i) = Ks at hle hkd hkp hkc hdg hst HSt
   have hrow':=hrow.agr (Agr.nil (uh HKr))
   have HRow:=hide hrow'
   have hkd':=hide (fun j (hj:j < vs.length)=>(hkd j hj).agr (Agr.nil (uh HKr)))
   obtain ⟨b2,off2,cap2,rfl,_⟩:=hrow
   have HB0:=hide ((uh HKr).cell b0 (by simp))
   have HB1:=hide ((uh HKr).cell b1 (by simp))
   obtain ⟨SS,hSS⟩:∃ SS,(List.range i).map (stp k q L) = SS:=⟨_,rfl⟩
   rw [hSS] at HSL
   have HSS:=hide hSS
   obtain ⟨vo,vc,rfl⟩:=xa0h (uh HSL).own
   have hown:∀ y,(Value.slice vo SS.length vc).ownBlock = some y→W2.heap.size≤y∧y < wr.heap.size:=fun y hy=>(uh HSL).own.lt y hy
   have hgs:=lt_of_block hh
   have HSLn:=hide (show SS.length≤64 by rw [← hSS]; simp; omega)
   have HGL:=hide (fun (p:Nat × Nat) (hp:p∈gz)=>by
    obtain ⟨j,hj,rfl⟩:=List.getElem_of_mem hp
    have h8:=((uh HSL).kid j (by have:=(uh HSL).len; omega)).lt
    rw [List.getD_eq_getElem?_getD,List.getElem?_eq_getElem hj,Option.getD_some] at h8
    exact h8:∀ p∈gz,p.1 < wr.heap.size)
   obtain ⟨OB,hOB⟩:∃ OB,(Value.slice vo SS.length vc).ownBlock = OB:=⟨_,rfl⟩
   rw [hOB] at hown
   have hno:g'∉OB.toList:=by
    intro hm
    have:=hown g' (by simpa using hm)
    omega
   clear hh hkd b0 b1 hst ht hsg e hSS hrow'
   go_upto_region 8 with fail
   refine ln_wa (by kernel_rfl) (by kernel_rfl) rfl (fun W=>Kept OB.toList wr W) (Kept.refl _ wr).drew ?_
   refine LinY.mv (x:=.tmp 9) rfl (.slice vo SS.length vc) rfl (by simp only [Act.put,sa1,sa2,sa3]; rfl) ?_
   refine LinY.mv (x:=.tmp 11) rfl (.pointer (some ⟨g',0,none⟩)) rfl (by simp only [Act.put,sa1,sa2,sa3]; rfl) ?_
   refine LinY.rd (.pointer (some ⟨g',0,none⟩)) (fun W hW=>by go_simp) (by simp only [Act.put,sa1,sa2,sa3]; rfl) ?_
   refine LinY.rd (.pointer (some ⟨g',0,none⟩)) (fun W hW=>by go_simp) (by simp only [Act.put,sa1,sa2,sa3]; rfl) ?_
   refine LinY.rd (.int .u16 x) (fun W hW=>by have h9:=hW.cell (uh HB0) hno; go_simp) (by simp only [Act.put,sa1,sa2,sa3]; rfl) ?_
   refine LinY.mv (x:=.tmp 11) rfl (.pointer (some ⟨g',0,none⟩)) rfl (by simp only [Act.put,sa1,sa2,sa3]; rfl) ?_
   refine LinY.rd (.pointer (some ⟨g',0,none⟩)) (fun W hW=>by go_simp) (by simp only [Act.put,sa1,sa2,sa3]; rfl) ?_
   refine LinY.rd (.pointer (some ⟨g',1,none⟩)) (fun W hW=>by go_simp) (by simp only [Act.put,sa1,sa2,sa3]; rfl) ?_
   refine LinY.rd (.slice (some ⟨b2,off2,none⟩) vs.length cap2) (fun W hW=>by have h9:=hW.cell (uh HB1) hno; go_simp) (by simp only [Act.put,sa1,sa2,sa3]; rfl) ?_
   have hd2:=(Kept.refl [] wr).drew
   refine ChL.call rfl Tryz.call47 [.slice (some ⟨b2,off2,none⟩) vs.length cap2] rfl (xa9m S k f _ vs Ks wr.drew ((uh HRow).agr (Agr.nil hd2)) hle (by omega) (fun j hj=>(uh hkd' j hj).agr (Agr.nil hd2))) ?_
   rintro e w4 ⟨g4,n4,rfl,hn4,hg4,hh4,k4⟩
   have hk4:=hd2.trans k4 (by simp)
   refine ⟨_,rfl,hk4.mono (by simp),?_⟩
   simp only [Act.put,sa1,sa2,sa3]
   have hn5:n4 = (Ks.map (nodP (hsZ k) f)).length:=by rw [List.length_map,hn4,hle]
   have hrdd:=xb7l hh4 hdg (by rw [← hn5]; omega)
   rw [← hn5] at hrdd
   refine ChL.op (.agg #[.int .u16 x,.slice (some ⟨g4,0,none⟩) n4 n4]) (xb5w w4 ⟨rfl,rfl,rfl⟩) (hk4.mono (by simp)) (by simp only [Act.put,sa1,sa2,sa3]; rfl) ?_
   have hka:=(Kept.refl [] w4).alloc (.cells #[.int .u16 x,.slice (some ⟨g4,0,none⟩) n4 n4] 64)
   have hk6:=hk4.trans hka (by simp)
   refine ChL.op (.slice (some ⟨w4.heap.size,0,none⟩) 1 1) (xa8f w4 (.tmp 38) rfl x _ rfl) (hk6.mono (by simp)) (by simp only [Act.put,sa1,sa2,sa3]; rfl) ?_
   have hrl:RdC 2 (w4.alloc (.cells #[.int .u16 x,.slice (some ⟨g4,0,none⟩) n4 n4] 64)) (.slice (some ⟨w4.heap.size,0,none⟩) 1 1) (stR [(x,.slice (some ⟨g4,0,none⟩) n4 n4)]):=⟨_,1,1,rfl,rfl,Nat.le_refl _,by omega,fun _=>⟨w4.heap.size,0,rfl,fun j hj=>by
     have h0:j = 0:=by simp [stR] at hj; omega
     subst h0
     exact xa0k [] [.int .u16 x,.slice (some ⟨g4,0,none⟩) n4 n4] [] (heap_alloc_new w4 _) rfl⟩⟩
   have hly:=(uh HSL).kept hk6
   have hk06:=(uh HKr).trans hk6 (by simp)
   refine ChL.app 33 64 (.tmp 28) (.tmp 39) rfl rfl _ W2.heap.size (.agg #[.int .u16 0,.slice none 0 0]) 2 32 Tryz.underlying33 Tryz.infoSt rfl (by decide) (.slice vo SS.length vc) SS.length (snR SS gz).flatten hly.own (some ⟨w4.heap.size,0,none⟩) 1 1 (stR [(x,.slice (some ⟨g4,0,none⟩) n4 n4)]) hrl (by intro r hr; simp [stR] at hr; rw [hr]; rfl) (by intro r hr u hu; simp [stR] at hr; rw [hr] at hu; simp at hu; rcases hu with rfl | rfl <;> rfl) (by have:=uh HSLn; omega) (by have:=uh HSLn; omega) hk06.size rfl rfl ?_
   intro ao7 c7 w7 HO7 HG7 HA7
   have hg7:=uh HG7
   rw [hOB] at hg7
   have hk7:=(Kept.refl OB.toList _).grown hg7 (by intro x hx; left; simp [hx])
   have hk27:=(hk6.mono (M:=OB.toList) (by simp)).trans hk7 (fun x hx=>Or.inl hx)
   refine ⟨hk27,?_⟩
   simp only [Act.put,sa1,sa2,sa3]
   refine ChL.op (.slice ao7 (SS.length + 1) c7) (by go_simp) hk27 (by simp only [Act.put,sa1,sa2,sa3]; rfl) (ChL.fin ?_)
   have hz4:=hd2.size
   have hfr:W2.heap.size≤g4∧∀ y,OB = some y→y≠g4:=⟨by have:=(uh HKr).size; omega,fun y hy e=>by have:=(hown y hy).2; omega⟩
   have hsn:=hly.snoc (s:=(x,Ks.map (nodP (hsZ k) f))) (p:=(g4,n4)) ⟨hfr.1,by rw [hOB]; exact fun e=>hfr.2 _ e rfl,⟨[],by rw [List.append_nil]; exact hka.heap hh4 (by simp),by rw [← hn5]; simp,by simp⟩,⟨by rw [← hn5]; exact Nat.le_refl _,by rw [hn5,List.length_map]; exact hkc⟩,hbl,hdg⟩ (fun p hp e=>by have:=uh HGL p hp; omega) (by
    have h8:=uh HO7
    rw [show stV (x,Ks.map (nodP (hsZ k) f)) (g4,n4) = (stR [(x,.slice (some ⟨g4,0,none⟩) n4 n4)]).flatten by rw [hn5]; rfl]
    exact h8) (uh HG7) (uh HA7)
   have hk07:=hk06.grown (uh HG7) (fun x hx=>Or.inr (by rw [hOB] at hx; exact (hown x hx).1))
   have HSN:=hide hsn
   have HK7:=hide hk07
   clear hsn hk07 hk27 hk7 hk6 hk06 hly hrl hrdd hh4 k4 hka hg7
   go_wp2
   refine ⟨⟨i + 1,.slice ao7 (SS.length + 1) c7,_,by go_num,rfl,hlt,hide (by rw [List.range_succ,List.map_append,List.map_cons,List.map_nil,uh HSS,uh HSt]; exact uh HSN),hide (fun j hj=>by
    rw [xa7g]
    have hgl:=(uh HSL).len
    rw [← uh HSS,List.length_map,List.length_range] at hgl
    by_cases hj2:j < i
    ·rw [if_pos (by omega)]; exact uh HCP j hj2
    ·rw [if_neg (by omega),if_pos (by omega),show j = i by omega,uh HSt]; exact hn5),HK7⟩,?_⟩
   simp [intOf]; omega
  ·have hie:i = m:=by omega
   subst hie
   have hlt':¬ (i:Int) < i:=by omega
   have h3:=(uh HKr).cell (uh HW3) (by simp)
   have hsgs:=fun j hj=>(uh HTR j hj).2
   have hrs:=(uh HSL).base (show w.heap.size≤W2.heap.size from (uh HK2).size)
   rcases uh HEn with ⟨hm,rfl,_,_⟩ | ⟨hsg,g1,rfl,hb,_⟩
   ·go_wp2_with fail
    go_ret3
    exact ⟨_,.slice none 0 0,rfl,⟨i,gz,wr.heap.size,[],⟨hrs,by rw [hm]; exact LayAt.nil _ _,hrs.lts,Nat.le_trans (uh HK2).size (uh HKr).size⟩,⟨hsgs,by rw [hm]; rfl⟩,uh HCP⟩,(uh HK2).trans (uh HKr) (by simp)⟩
   ·have HRS:=hide hrs
    have HSG:=hide hsgs
    have HL:=hide (show (dnL (hsZ k) q L i).length≤1000000000 from Nat.le_trans (dn_len i) hlen)
    clear hrs hsgs
    go_wp2_with fail
    refine Calls.mono (xa8o S k g1 (dnL (hsZ k) q L i) [] _ [] wr wr (hb.agr (Agr.nil (uh HKr))) (Kept.refl _ _) (LayAt.nil _ _) (by have:=uh HL; simpa using this)) ?_
    rintro e w5 ⟨v5,l5,rfl,hl5,k5⟩
    have HL5:=hide hl5
    have HK5:=hide k5
    clear hl5 k5
    go_wp2_with fail
    go_ret3
    exact ⟨_,_,rfl,⟨i,gz,wr.heap.size,_,⟨(uh HRS).kept (uh HK5),uh HL5,(uh HRS).lts,Nat.le_trans (uh HK2).size (uh HKr).size⟩,⟨uh HSG,hsg⟩,uh HCP⟩,((uh HK2).trans (uh HKr) (by simp)).trans (uh HK5) (by simp)⟩
theorem xb4n (w:World):(zeroValue 50).run Tryz.prog w = .ok (.agg (zb 32)) w:=by
 kernel_rfl
theorem xb0w:(Builtin.zeroCells (Value.agg (zb 32)).cells 1).toList = (zb 32).toList:=by kernel_rfl
theorem zb_one (v:Value) (h:v∈(zb 32).toList):v.oneCell' = true:=by
 have e:v = .int .u8 0:=by simpa [zb,brow,u8] using h
 subst e; rfl
theorem xa7c {P:Program} (w:World) (t e ty:TypeId) (z:Value) (cs:List Value) (ht:P.underlying t = some (.slice e)) (hv:(zeroValue e).run P w = .ok z w) (hzc:(Builtin.zeroCells z.cells 1).toList = cs) (h1:∀ v∈cs,v.oneCell' = true) (b o c:Nat) (hc:∀ j,j < cs.length→(w.cell? ⟨b,o + j,none⟩).isSome = true) (hf:∀ j,j < cs.length→w.frozen? ⟨b,o + j,none⟩ = false) :
  (Builtin.clear_ #[t] ty #[.slice (some ⟨b,o,none⟩) 1 c]).run P w = .ok (.tuple #[]) (w.setCells b o cs):=by
 have hst:=run_storeCells_cells (P:=P) b o cs 0 w (by simpa using hc) (by simpa using hf) h1
 simp only [Nat.add_zero] at hst
 simp [Builtin.clear_,run_underlying ht,hv,hzc,hst]
theorem xa7l (w:World) (ty:TypeId) (g o c:Nat) (hc:∀ j,j < 32→(w.cell? ⟨g,o + j,none⟩).isSome = true) (hf:∀ j,j < 32→w.frozen? ⟨g,o + j,none⟩ = false) :
  (Builtin.clear_ #[62] ty #[.slice (some ⟨g,o,none⟩) 1 c]).run Tryz.prog w = .ok (.tuple #[]) (w.setCells g o (zb 32).toList):=by
 have hl:(zb 32).toList.length = 32:=by rfl
 exact xa7c w _ 50 ty _ _ Tryz.underlying62 (xb4n w) xb0w zb_one g o c (by rw [hl]; exact hc) (by rw [hl]; exact hf)
theorem xb5a {P:Program} {o:Oper} {a:Act} {w w1:World} {T:TypeId} (s x:Operand) (ho:o.op = .call { callee:=.builtin .append,args:=#[s,x],argTypes:=#[T,T] }) (hty:o.type = T) (v u r:Value) (hs:a.eval s = v) (hx:a.eval x = u) (hrun:(Builtin.append_ #[T,T] T #[v,u]).run P w = .ok r w1):(execOp a.eval o).run P w = .ok (.value r) w1:=by
 unfold execOp
 simp only [ho,hty,resolve,invoke,builtin,Sem.run_bind,Sem.run_pure,Result.andThen_ok,List.map_toArray,List.map_cons,List.map_nil,hs,hx,hrun]
theorem xb0l {ds:List (List Nat)} (j:Nat):flatD ds = flatD (ds.take j)++flatD (ds.drop j):=by rw [← xa5v,List.take_append_drop]
set_option maxHeartbeats 4000000 in
theorem xb9v (g n i j:Nat) (ds:List (List Nat)) (w:World) (hh:w.heap[g]? = some (.cells (flatD ds).toArray 50 (0,0))) (hn:ds.length = n) (hij:j = i + 1) (hj:j≤n) (hd:∀ d∈ds,d.length = 32) (hm:n≤1000000) :
  Calls Tryz.prog 66 #[.slice (some ⟨g,0,none⟩) n n,.int .i64 i,.int .i64 j] w fun e w'=>e = .returned (.slice (some ⟨g,0,none⟩) (i + (n - j)) n)∧w'.heap[g]? = some (.cells (flatD (ds.eraseIdx i)++(zb 32).toList).toArray 50 (0,0))∧Kept [g] w w':=by
 have hfl:∀ m,(flatD (ds.take m)).length = (min m n) * 32:=fun m=>by rw [xa3d (fun d h=>hd d (List.mem_of_mem_take h)),List.length_take,hn]
 have hfd:∀ m,(flatD (ds.drop m)).length = (n - m) * 32:=fun m=>by rw [xa3d (fun d h=>hd d (List.mem_of_mem_drop h)),List.length_drop,hn]
 obtain ⟨news,hnews⟩:∃ news,news = flatD (ds.drop j):=⟨_,rfl⟩
 have hlen:news.length = (n - j) * 32:=by rw [hnews,hfd]
 obtain ⟨A,hA,hsrc⟩:∃ A:Addr,(if n = j then (some ⟨g,0,none⟩:Option Addr) else some ⟨g,j * 32,none⟩) = some A∧Hid (∀ t u,news[t]? = some u→w.drew.cell? (A.add t) = some u):=by
  by_cases h:n = j
  ·refine ⟨⟨g,0,none⟩,by simp [h],fun t u hu=>?_⟩
   have h0:news.length = 0:=by rw [hlen]; omega
   rw [List.length_eq_zero_iff.1 h0] at hu
   simp at hu
  ·refine ⟨⟨g,j * 32,none⟩,by simp [h],fun t u hu=>?_⟩
   rw [Addr.add_lit]
   show w.cell? _ = _
   rw [cell_of_row _ _ _ _ _ _ hh,List.getElem?_toArray,xb0l j,List.getElem?_append_right (by rw [hfl,Nat.min_eq_left hj]; omega),hfl,Nat.min_eq_left hj,show j * 32 + t - j * 32 = t by omega,← hnews]
   exact hu
 have s1:Hid (news.length = (n - j) * 32):=hlen
 have s2:Hid (∀ u∈news,u.oneCell' = true):=by rw [hnews]; exact xb6a _
 have hsz:(flatD ds).length = n * 32:=by rw [xa3d hd,hn]
 have s3:Hid (∀ t,t < news.length→(w.drew.cell? ⟨g,0 + i * 32 + t,none⟩).isSome = true∧w.drew.frozen? ⟨g,0 + i * 32 + t,none⟩ = false):=by
  intro t ht
  rw [hlen] at ht
  refine ⟨?_,frozen_of_row (w.drew) g _ _ _ hh⟩
  show (w.cell? _).isSome = true
  rw [cell_of_row _ _ _ _ _ _ hh,List.getElem?_toArray,List.getElem?_eq_getElem (by rw [hsz]; omega)]; rfl
 obtain ⟨W1,hW1⟩:∃ W1,W1 = w.drew.setCells g (0 + i * 32) news:=⟨_,rfl⟩
 have hli:(flatD (ds.take i)).length = i * 32:=by rw [hfl,Nat.min_eq_left (by omega)]
 have hrest:=hfd i
 have hh1:W1.heap[g]? = some (.cells (flatD (ds.take i)++(news++(flatD (ds.drop i)).drop ((n - j) * 32))).toArray 50 (0,0)):=by
  rw [hW1,show 0 + i * 32 = (flatD (ds.take i)).length by rw [hli]; omega]
  refine xa7w g 50 news (flatD (ds.take i)) ((flatD (ds.drop i)).take ((n - j) * 32)) _ w.drew (by rw [List.length_take,hrest,hlen]; omega) ?_
  rw [List.take_append_drop,← xb0l i]; exact hh
 have hK1:Kept [g] w W1:=by rw [hW1]; exact xa5z g (Or.inl (by simp)) news _ _ ((Kept.refl [g] w).drew)
 have hpost:((flatD (ds.drop i)).drop ((n - j) * 32)).length = 32:=by rw [List.length_drop,hrest]; omega
 have hpre:(flatD (ds.take i)++news).length = (i + (n - j)) * 32:=by rw [List.length_append,hli,hlen]; omega
 have hh2:(W1.setCells g ((i + (n - j)) * 32) (zb 32).toList).heap[g]? = some (.cells (flatD (ds.eraseIdx i)++(zb 32).toList).toArray 50 (0,0)):=by
  have h9:=xa7w g 50 (zb 32).toList (flatD (ds.take i)++news) ((flatD (ds.drop i)).drop ((n - j) * 32)) [] W1 (by rw [hpost]; rfl) (by rw [List.append_nil,List.append_assoc]; exact hh1)
  rw [hpre,List.append_nil,hnews,← xa5v] at h9
  rw [List.eraseIdx_eq_take_drop_succ,← hij]
  exact h9
 have hK2:Kept [g] w (W1.setCells g ((i + (n - j)) * 32) (zb 32).toList):=xa5z g (Or.inl (by simp)) _ _ _ hK1
 have hcl:∀ ty c,(Builtin.clear_ #[62] ty #[.slice (some ⟨g,(i + (n - j)) * 32,none⟩) 1 c]).run Tryz.prog W1 = .ok (.tuple #[]) (W1.setCells g ((i + (n - j)) * 32) (zb 32).toList):=fun ty c=>xa7l W1 ty g _ c (fun t ht=>by
  rw [cell_of_row _ _ _ _ _ _ hh1,List.getElem?_toArray,List.getElem?_eq_getElem (by rw [← List.append_assoc,List.length_append,hpre,hpost]; omega)]; rfl) (fun t ht=>frozen_of_row W1 g _ _ _ hh1)
 obtain ⟨i0,hi0,hz0,hz1,hz2⟩:=info_parts Tryz.infoD
 have hrun:=run_append_room_cells (P:=Tryz.prog) w.drew 62 62 50 i0 Tryz.underlying62 hi0 g 0 i n A (n - j) (n - j) news (by rw [hz1]; exact s1.out) hsrc.out s2.out (by omega) (fun t ht=>by rw [hz1]; exact (s3.out t ht).1) (fun t ht=>by rw [hz1]; exact (s3.out t ht).2)
 rw [hz1,← hW1] at hrun
 have HRUN:=hide hrun
 have HK1:=hide hK1
 have HH2:=hide hh2
 have HK2:=hide hK2
 have hic:i≤n:=by omega
 have hbq:((i:Int) == (j:Int)) = false:=by rw [beq_eq_false_iff_ne]; omega
 have hltj:i < j:=by omega
 have hle:i≤j:=by omega
 have HONE:=hide (show n - (i + (n - j)) = 1 by omega)
 have HLT:=hide (show i + (n - j) < n by omega)
 clear hrun hi0 s1 s2 s3 hsrc hW1 hh1 hK1 hh hnews hlen hpre hpost hrest hli hfl hfd hsz hh2 hK2 hd hz0 hz1 hz2
 have HIJ:=hide hij
 have HA:=hide hA
 have HM:=hide hm
 clear hij hA hm hn
 go_enter Tryz.func66,Tryz.ntmps66
 go_upto_region 5 with fail
 refine lp_de (by kernel_rfl) (by kernel_rfl) rfl (fun W=>Kept [g] w W) (Kept.refl _ w).drew ?_
 refine LinY.rd (.slice (some ⟨g,0,none⟩) n n) (fun W hW=>by go_simp) (by simp only [Act.put,sa1,sa2,sa3]; rfl) ?_
 refine LinY.rd (.int .i64 i) (fun W hW=>by go_simp) (by simp only [Act.put,sa1,sa2,sa3]; rfl) ?_
 refine LinY.rd (.slice (some ⟨g,0,none⟩) i n) (fun W hW=>by go_simp) (by simp only [Act.put,sa1,sa2,sa3]; rfl) ?_
 refine LinY.rd (.slice (some ⟨g,0,none⟩) n n) (fun W hW=>by go_simp) (by simp only [Act.put,sa1,sa2,sa3]; rfl) ?_
 refine LinY.rd (.int .i64 j) (fun W hW=>by go_simp) (by simp only [Act.put,sa1,sa2,sa3]; rfl) ?_
 refine LinY.rd (.slice (some A) (n - j) (n - j)) (fun W hW=>by have h9:=uh HA; go_simp) (by simp only [Act.put,sa1,sa2,sa3]; rfl) ?_
 refine LinY.fin (ChL.op (.slice (some ⟨g,0,none⟩) (i + (n - j)) n) (xb5a (.tmp 22) (.tmp 25) rfl rfl _ _ _ rfl rfl (uh HRUN)) (uh HK1) (by simp only [Act.put,sa1,sa2,sa3]; rfl) ?_)
 refine ChL.op (.slice (some ⟨g,0,none⟩) (i + (n - j)) n) (by go_simp) (uh HK1) (by simp only [Act.put,sa1,sa2,sa3]; rfl) (ChL.fin ?_)
 have hone:=uh HONE
 have hlt1:=uh HLT
 go_wp2
 go_ret
 exact ⟨rfl,uh HH2,uh HK2⟩
set_option maxHeartbeats 4000000 in
theorem xa8i (x c g n:Nat) (ds:List (List Nat)) (w:World) (hx:x < 65536) (hc:c < 16) (hh:w.heap[g]? = some (.cells (flatD ds).toArray 50 (0,0))) (hn:ds.length = n) (hd:∀ d∈ds,d.length = 32) (hm:n≤16) (hat:x.testBit c = true→cnt x c < n) :
  Calls Tryz.prog 39 #[.agg #[.int .u16 (x:Nat),.slice (some ⟨g,0,none⟩) n n],.int .i64 c] w fun e w'=>∃ zs:List Value,e = .returned (.slice (some ⟨g,0,none⟩) (wod (x,ds) c).2.length n)∧w'.heap[g]? = some (.cells (flatD (wod (x,ds) c).2++zs).toArray 50 (0,0))∧zs.length = (n - (wod (x,ds) c).2.length) * 32∧(∀ u∈zs,u.oneCell' = true)∧Kept [g] w w':=by
 have HG0:=hide (heap_alloc_new w (.cells #[.int .u16 (x:Nat),.slice (some ⟨g,0,none⟩) n n] 64))
 have HK0:=hide ((Kept.refl [] w).alloc (.cells #[.int .u16 (x:Nat),.slice (some ⟨g,0,none⟩) n n] 64))
 have HH0:=hide ((uh HK0).heap hh (by simp))
 obtain ⟨W,hW⟩:∃ W,w.alloc (.cells #[.int .u16 (x:Nat),.slice (some ⟨g,0,none⟩) n n] 64) = W:=⟨_,rfl⟩
 rw [hW] at HG0 HK0 HH0
 have c0:W.cell? ⟨w.heap.size,0,none⟩ = some (.int .u16 (x:Nat)):=cell_of_row _ _ 0 _ _ _ (uh HG0)
 have HD:=hide hd
 have hhas:=xb7u x c (by omega)
 have hrk:rankB x (c:Int) = cnt x c:=by
  unfold rankB
  rw [if_neg (by omega),if_pos (by omega),Int.toNat_natCast]
 have hwo:(wod (x,ds) c).2 = if x.testBit c = true then ds.eraseIdx (cnt x c) else ds:=rfl
 clear hd hh
 go_enter Tryz.func39,Tryz.ntmps39
 go_upto_region 1 with fail
 try rw [hW]
 clear hW
 go_wp2_with fail
 refine Calls.mono (xb3y x c W hx (by omega)) ?_
 rintro e w1 ⟨rfl,k1⟩
 have HK1:=hide k1
 have HG1:=hide (k1.heap (uh HG0) (by simp))
 have HH1:=hide (k1.heap (uh HH0) (by simp))
 have d0:w1.cell? ⟨w.heap.size,0,none⟩ = some (.int .u16 (x:Nat)):=cell_of_row _ _ 0 _ _ _ (uh HG1)
 have d1:w1.cell? ⟨w.heap.size,1,none⟩ = some (.slice (some ⟨g,0,none⟩) n n):=cell_of_row _ _ 1 _ _ _ (uh HG1)
 rw [hhas]
 clear k1 c0 hhas
 by_cases hb:x.testBit c = true
 ·rw [if_pos hb] at hwo
  have hci:=hat hb
  rw [hb]
  have HWO:=hide hwo
  clear hb hat hwo
  go_wp2_with fail
  refine Calls.mono (xa6k x c w1 hx (by omega)) ?_
  rintro e w2 ⟨rfl,k2⟩
  rw [hrk]
  have HK2:=hide ((uh HK1).trans k2 (by simp))
  have HG2:=hide (k2.heap (uh HG1) (by simp))
  have HH2:=hide (k2.heap (uh HH1) (by simp))
  have e1:w2.cell? ⟨w.heap.size,1,none⟩ = some (.slice (some ⟨g,0,none⟩) n n):=cell_of_row _ _ 1 _ _ _ (uh HG2)
  clear k2 d0 d1 hrk
  generalize cnt x c = C at hci HWO ⊢
  obtain ⟨J,hJ⟩:∃ J,J = C + 1:=⟨_,rfl⟩
  have hJi:(C:Int) + 1 = (J:Int):=by omega
  have hDL:=xb9v g n C J ds w2 (uh HH2) hn hJ (by omega) (uh HD) (by omega)
  have HDL:=hide hDL
  have HL:=hide (show (ds.eraseIdx C).length = C + (n - J) by rw [List.length_eraseIdx_of_lt (by omega)]; omega)
  have HL2:=hide (show 32 = (n - (C + (n - J))) * 32 by omega)
  clear hDL hJ
  go_upto_region 4 with fail
  go_wp2_with fail
  refine Calls.mono (uh HDL) ?_
  rintro e w3 ⟨rfl,hh3,k3⟩
  have HH3:=hide hh3
  have HK3:=hide ((((uh HK0).trans (uh HK2) (by simp)).mono (M:=[g]) (by simp)).trans k3 (fun x hx=>Or.inl hx))
  clear hh3 k3 e1
  go_wp2_with fail
  go_ret
  refine ⟨(zb 32).toList,?_,?_,?_,zb_one,uh HK3⟩
  ·rw [uh HWO,uh HL]; rfl
  ·rw [uh HWO]; exact uh HH3
  ·rw [uh HWO,uh HL]; exact uh HL2
 ·rw [if_neg hb] at hwo
  have hb2:x.testBit c = false:=by simpa using hb
  rw [hb2]
  have HWO:=hide hwo
  clear hb hat hwo hb2
  go_wp2_with fail
  go_ret
  refine ⟨[],?_,?_,?_,by simp,(((uh HK0).trans (uh HK1) (by simp)).mono (M:=[g]) (by simp))⟩
  ·rw [uh HWO,hn]; rfl
  ·rw [uh HWO,List.append_nil]; exact uh HH1
  ·rw [uh HWO,hn]; simp

theorem xb8t {a1 b1:Option Addr} {a2 a3 b2 b3:Nat}:Tryz.prog.built 35 [(0,.slice a1 a2 a3),(1,.slice b1 b2 b3)] = some #[.slice a1 a2 a3,.slice b1 b2 b3]:=by kernel_rfl
theorem Tryz.size_kp:(Tryz.prog.info? 35).map (·.size) = some 2:=by kernel_rfl
theorem Tryz.size_stpP:(Tryz.prog.info? 64).map (·.size) = some 2:=by kernel_rfl
theorem xa3u {S:Nat→Prop} {k:Nat} {W:World} {v:Value} {L:Prs} (h:MapAt S k W v L):∃ g,v = .pointer (some ⟨g,0,none⟩):=by
 obtain ⟨g,tv,e,_⟩:=h.at_
 exact ⟨g,e⟩
def mixL (k:Nat) (q:List Nat) (L:Prs) (m i:Nat):List Stp:=(List.range m).map (fun j=>if j < i then prf k q L j else stp k q L j)
theorem xa5u (k:Nat) (q:List Nat) (L:Prs) (m i:Nat):(mixL k q L m i).length = m:=by simp [mixL]
theorem xb5e (k:Nat) (q:List Nat) (L:Prs) (m:Nat):mixL k q L m 0 = (List.range m).map (stp k q L):=by
 unfold mixL
 exact List.map_congr_left (fun j _=>by rw [if_neg (by omega)])
theorem xb8c (k:Nat) (q:List Nat) (L:Prs) (m:Nat):mixL k q L m m = prfL k q L m:=by
 unfold mixL prfL
 exact List.map_congr_left (fun j hj=>by rw [if_pos (by simpa using hj)])
theorem xb1w {k:Nat} {q:List Nat} {L:Prs} {m i:Nat} (hi:i < m):(mixL k q L m i).getD i (0,[]) = stp k q L i:=by
 unfold mixL
 rw [List.getD_eq_getElem?_getD,List.getElem?_map,List.getElem?_range hi]
 simp
theorem xb4y {k:Nat} {q:List Nat} {L:Prs} {m i:Nat} (hi:i < m):(mixL k q L m i).set i (prf k q L i) = mixL k q L m (i + 1):=by
 apply List.ext_getElem
 ·simp [mixL]
 ·intro j h1 h2
  simp only [mixL,List.length_map,List.length_range] at h2
  simp only [mixL,List.getElem_set,List.getElem_map,List.getElem_range]
  by_cases e:i = j
  ·subst e; simp
  ·rw [if_neg e]
   by_cases g:j < i
   ·rw [if_pos g,if_pos (by omega)]
   ·rw [if_neg g,if_neg (by omega)]
def ProofN (k B:Nat) (w:World) (q:List Nat) (L:Prs) (sv pv:Value):Prop:=∃ m gs C l,SLP B w sv pv gs (prfL k q L m) (dnL (hsZ k) q L m) C l∧WayM k q L m
def ProofP (k:Nat) (w:World) (q:List Nat) (L:Prs) (sv pv:Value):Prop:=∃ m,RdS w sv (prfL k q L m)∧RdK w pv (dnL (hsZ k) q L m)∧WayM k q L m
theorem ProofN.p {k B:Nat} {w:World} {q:List Nat} {L:Prs} {sv pv:Value} (h:ProofN k B w q L sv pv):ProofP k w q L sv pv:=by
 obtain ⟨m,gs,C,l,h1,h2⟩:=h
 exact ⟨m,h1.st.rdS,h1.ly.rdK,h2⟩
theorem ProofP.old {k:Nat} {w w':World} {q:List Nat} {L:Prs} {sv pv:Value} (h:ProofP k w q L sv pv) (kk:Kept [] w w'):ProofP k w' q L sv pv:=by
 obtain ⟨m,h1,h2,h3⟩:=h
 exact ⟨m,h1.old kk,h2.old kk,h3⟩
theorem xb4f {k:Nat} (hk:1≤k∧k≤32) {q:List Nat} {L:Prs} {m i:Nat} (h:WayM k q L m):(stp k q L i).1.testBit (dgt ((hsZ k).kd q) i) = true→cnt (stp k q L i).1 (dgt ((hsZ k).kd q) i) < (stp k q L i).2.length:=fun hb=>(p_kid (hsZ_ok hk) (f:=63 - i) hb).1
set_option maxHeartbeats 8000000 in
theorem xa6m (S:Nat→Prop) (k:Nat) (mv kv:Value) (L:Prs) (q:List Nat) (w:World) (hM:MapAt S k w mv L) (hku:Rd w kv q) (hq:q.length≤64) (hT:Tabs w) :
  Calls Tryz.prog 12 #[mv,kv] w fun e w'=>∃ sv pv,e = .returned (.tuple #[.agg #[sv,pv],.int .i64 0])∧ProofN k w.heap.size w' q L sv pv∧Kept [] w w':=by
 have HM:=hide hM
 have hk:=hM.ok
 have HKU:=hide hku
 have HTb:=hide hT
 have hH:=hsZ_ok hk
 obtain ⟨mg,rfl⟩:=(xa3u hM)
 obtain ⟨ka,kn,kc,rfl,hkn,_⟩:=id hku
 have hkn2:¬ (kn:Int) > 64:=by omega
 have hkn3:¬ (64:Int) < kn:=by omega
 have HQ:=hide hq
 have HG0:=hide (heap_alloc_new w (.cells #[.slice none 0 0,.slice none 0 0] 35))
 have HK0:=hide ((Kept.refl [] w).alloc (.cells #[.slice none 0 0,.slice none 0 0] 35))
 obtain ⟨W,hW⟩:∃ W,w.alloc (.cells #[.slice none 0 0,.slice none 0 0] 35) = W:=⟨_,rfl⟩
 rw [hW] at HG0 HK0
 have hDg:Dg ((hsZ k).kd q):=hH.dg q
 have HWN:=hide (xb5n S k _ _ L q W ((uh HM).agr (Agr.nil (uh HK0))) ((uh HKU).old (uh HK0) (by simp)) hq ((uh HTb).k (uh HK0)))
 clear hM hku hT hq hkn
 go_enter Tryz.func12,Tryz.ntmps12
 go_upto_region 1 with fail
 try rw [hW]
 clear hW
 go_wp2_with fail
 refine Calls.mono (uh HWN) ?_
 clear HWN
 rintro e w1 ⟨sv,pv,rfl,⟨m,gs,C,l,hsn,hway,hcap⟩,k1⟩
 have HK1:=hide ((uh HK0).trans k1 (by simp))
 have HG1:=hide (k1.heap (uh HG0) (by simp))
 have HS1:=hide hsn
 have HWY:=hide hway
 have HCAP:=hide hcap
 have hm2:=hway.le hk
 obtain ⟨so,sc,rfl⟩:=xa0h hsn.st.own
 obtain ⟨po,pc,rfl⟩:=xa0h hsn.ly.own
 have hml:((List.range m).map (stp k q L)).length = m:=by simp
 rw [hml]
 obtain ⟨pn,hpn⟩:∃ pn,l.length = pn:=⟨_,rfl⟩
 rw [hpn]
 rw [hpn,hml] at HS1
 have HBW:=hide (show w.heap.size < W.heap.size from lt_of_block (uh HG0))
 clear k1 hsn hway hcap hpn
 go_wp2_with fail
 refine Calls.mono (xb7z S k _ L w1 ((uh HM).agr (Agr.nil (uh HK1)))) ?_
 rintro e w2 ⟨rfl,k2⟩
 have HK2:=hide ((uh HK1).trans k2 (by simp))
 have HG2:=hide (k2.heap (uh HG1) (by simp))
 have HS2:=hide ((uh HS1).kept k2)
 clear k2
 go_wp2_with fail
 refine Calls.mono (xb6j (k:Int) _ q w2 (by omega) ((uh HKU).old (uh HK2) (by simp)) (by have:=uh HQ; omega) ((uh HTb).k (uh HK2))) ?_
 rintro e w3 ⟨rfl,k3⟩
 have hDe:sumD (k:Int) (2 :: q) = (hsZ k).kd q:=rfl
 have hse:sumE (k:Int) = 0:=by unfold sumE; rw [wide_k hk]; rfl
 rw [hDe,hse]
 obtain ⟨D,hD⟩:∃ D,(hsZ k).kd q = D:=⟨_,rfl⟩
 rw [hD] at hDg ⊢
 have hDl:=hDg.1
 have HAT:=hide (show ∀ i,i < m→atC (k:Int) D (i:Int) = dgt D i from fun i hi=>by rw [← hD]; exact p_dgt hk q (by omega))
 have HPF:=hide (show ∀ i,prf k q L i = wod (stp k q L i) (dgt D i) from fun i=>by rw [← hD]; rfl)
 have HCT:=hide (show ∀ i,(stp k q L i).1.testBit (dgt D i) = true→cnt (stp k q L i).1 (dgt D i) < (stp k q L i).2.length from fun i=>by rw [← hD]; exact xb4f hk (uh HWY))
 have HK3:=hide ((uh HK2).trans k3 (by simp))
 have HG3:=hide (k3.heap (uh HG2) (by simp))
 have HS3:=hide ((uh HS2).kept k3)
 have HZ1:=hide (heap_alloc_new w3 (.cells (zb 32) 50))
 have HX0:=hide (setRow_heap _ _ _ (brow D) _ _ (uh HZ1))
 have HK34:=hide ((Kept.refl [] w3).alloc (.cells (zb 32) 50) |>.setRow (g:=w3.heap.size) (Or.inr (Nat.le_refl _)) (brow D))
 obtain ⟨W0,hW0⟩:∃ W0,(w3.alloc (.cells (zb 32) 50)).setRow w3.heap.size (brow D) = W0:=⟨_,rfl⟩
 rw [hW0] at HX0 HK34
 have HK4:=hide ((uh HK3).trans (uh HK34) (by simp))
 have HG4:=hide ((uh HK34).heap (uh HG3) (by simp))
 have HS4:=hide ((uh HS3).kept (uh HK34))
 have HSD:=hide (by rw [xa0a,hDl]; exact Tryz.size_dig:(Tryz.prog.info? 50).map (·.size) = some (brow D).size)
 have HLT:=hide (uh HS3).st.lts
 have HGL:=hide (show gs.length = m by have h1:=(uh HS3).st.len; rw [hml] at h1; exact h1)
 have HS5:Hid (SLP W.heap.size W0 (.slice so m sc) (.slice po pn pc) gs (mixL k q L m 0) (dnL (hsZ k) q L m) C l):=hide (by rw [xb5e]; exact uh HS4)
 obtain ⟨E,hE⟩:∃ E,dnL (hsZ k) q L m = E:=⟨_,rfl⟩
 rw [hE] at HS5
 have HE:=hide hE
 clear hE
 clear k3 hD hDe hse HG1 HG2 HG3 HS1 HS2 HS3 HS4 HK34 HK1 HK2 HK3 HG0 HM HKU
 go_wp2_with (rw [zb32]; refine wpList_store_row rfl 50 (.tmp 10) (.tmp 37) rfl w3.heap.size (brow D) rfl rfl _ (zb 32) (uh HZ1) (uh HSD) (by rw [xa0l,xa0a,hDl]) (xa0f _) ?_; rw [hW0]; simp only [Act.put])
 clear hW0 HZ1
 go_loopw [41] (fun t41 wr=>∃ (i:Nat),t41 = .int .i64 i∧i≤m∧Hid (SLP W.heap.size wr (.slice so m sc) (.slice po pn pc) gs (mixL k q L m i) E C l)∧Hid (wr.heap[w3.heap.size]? = some (.cells (brow D) 50 (0,0)))∧Hid (wr.heap[w.heap.size]? = some (.cells #[.slice none 0 0,.slice none 0 0] 35 (0,0)))∧Hid (Kept [] w wr)) (fun t _=>m - (intOf t).toNat)
 case atStart=>exact ⟨0,rfl,Nat.zero_le _,HS5,HX0,HG4,HK4⟩
 case round =>
  clear HS5 HX0 HG4 HK4
  obtain ⟨i,rfl,hi,HSr,HXr,HGr,HKr⟩:=hrel
  by_cases hlt:i < m
  ·have hlt':(i:Int) < m:=by omega
   have hil:i < (mixL k q L m i).length:=by rw [xa5u]; exact hlt
   obtain ⟨g,c,hv,hBg,hrg,cur,hcur⟩:=(uh HSr).st.at_ hil
   have hkid:=(uh HSr).st.kid i hil
   have hmn:(mixL k q L m i).length = m:=xa5u _ _ _ _ _
   rw [hmn] at hv
   have hso:so = some ⟨g,0,none⟩:=by injection hv
   have hsc:sc = c:=by injection hv
   subst hso
   subst hsc
   clear hv
   rw [xb1w hlt] at hrg hkid
   have hgC:=(uh HSr).lo.2 g rfl
   have hg3:=(uh HLT).2 g rfl
   have hmem:gs.getD i (0,0)∈gs:=by
    have:=uh HGL
    rw [List.getD_eq_getElem?_getD,List.getElem?_eq_getElem (by omega)]; exact List.getElem_mem _
   have hpC:=(uh HSr).lo.1 _ hmem
   have hp3:=(uh HLT).1 _ hmem
   have hcap:=uh HCAP i hlt
   have hPF:=uh HPF i
   have hct:=uh HCT i
   have hat:=uh HAT i hlt
   obtain ⟨ST,hST⟩:∃ ST,stp k q L i = ST:=⟨_,rfl⟩
   rw [hST] at hrg hkid hcap hPF hct
   have HST:=hide hST
   obtain ⟨P,hP⟩:∃ P,gs.getD i (0,0) = P:=⟨_,rfl⟩
   rw [hP] at hrg hkid hcap hpC hp3
   have HP:=hide hP
   obtain ⟨x,ds⟩:=ST
   obtain ⟨p1,p2⟩:=P
   obtain ⟨hnw,hne,⟨zs,hrow,hzs,hz1⟩,hcp,hbm,hdg⟩:=hkid
   simp only at hrg hcap hPF hct hpC hp3 hnw hne hrow hzs hcp hbm hdg
   subst hcap
   have hzn:zs = []:=List.eq_nil_of_length_eq_zero (by rw [hzs,Nat.sub_self])
   subst hzn
   rw [List.append_nil] at hrow
   have hgp:p1≠g:=fun e=>hne (by rw [e]; rfl)
   obtain ⟨n,hn⟩:∃ n,ds.length = n:=⟨_,rfl⟩
   have hstv:stV (x,ds) (p1,ds.length) = [.int .u16 (x:Int),.slice (some ⟨p1,0,none⟩) n n]:=by unfold stV; rw [hn]
   rw [hn] at hct hcp
   rw [hstv] at hrg
   have HRG:=hide hrg
   have HCUR:=hide hcur
   obtain ⟨dg,hdgt⟩:∃ dg,dgt D i = dg:=⟨_,rfl⟩
   rw [hdgt] at hPF hct hat
   have hdl16:dg < 16:=by rw [← hdgt]; exact dgt_lt hDg.2 i
   have hA:=heap_alloc_new wr (.cells #[.int .u16 (x:Int),.slice (some ⟨p1,0,none⟩) n n] 64)
   have hkA:=(Kept.refl [] wr).alloc (.cells #[.int .u16 (x:Int),.slice (some ⟨p1,0,none⟩) n n] 64)
   have HA:=hide hA
   have HKA:=hide hkA
   have HXA:=hide (hkA.heap (uh HXr) (by simp))
   have HIR:=hide (show p1 < wr.heap.size∧g < wr.heap.size from ⟨lt_of_block hrow,block_lt_of_cell (hrg 0 _ rfl)⟩)
   have HRW:=hide hrow
   obtain ⟨wa,hwa⟩:∃ wa,wr.alloc (.cells #[.int .u16 (x:Int),.slice (some ⟨p1,0,none⟩) n n] 64) = wa:=⟨_,rfl⟩
   rw [hwa] at HA HKA HXA
   clear hA hkA hrg hcur hdgt hST hP hmem hstv hil hmn hrow
   go_upto_region 11 with (refine wpList_load_mid rfl 64 (.tmp 44) rfl g (i * 2) rfl [.int .u16 (x:Int),.slice (some ⟨p1,0,none⟩) n n] _ (uh HRG) Tryz.underlying64 rfl Tryz.size_stpP ?_)
   try simp only [Act.put]
   try rw [hwa]
   clear hwa
   go_wp2_with (refine wpList_load_row rfl 50 (.tmp 10) rfl w3.heap.size rfl 50 (brow D) (0,0) _ (uh HXA) Tryz.underlying50 rfl (uh HSD) ?_)
   refine Calls.mono (at_any (k:Int) D (i:Int) wa (by omega) (by omega) hDg) ?_
   rintro e wb ⟨rfl,kb⟩
   rw [hat]
   have HB:=hide (kb.heap (uh HA) (by simp))
   have HKrb:=hide ((uh HKA).trans kb (by simp))
   have HWC:=hide (xa8i x dg p1 n ds wb hbm hdl16 ((uh HKrb).heap (uh HRW) (by simp)) hn (fun d hd=>(hdg d hd).1) hcp.2 hct)
   clear kb hat hct
   go_wp2_with (refine wpList_load_row rfl 64 (.tmp 13) rfl wr.heap.size rfl 64 #[.int .u16 (x:Int),.slice (some ⟨p1,0,none⟩) n n] (0,0) _ (uh HB) Tryz.underlying64 rfl Tryz.size_stpP ?_)
   refine Calls.mono (uh HWC) ?_
   clear HWC
   rintro e wc ⟨zs,rfl,hhc,hzl,hzo,kc⟩
   have hq1:wb.cell? ⟨g,i * 2 + 1,none⟩ = some (.slice (some ⟨p1,0,none⟩) n n):=(uh HKrb).cell (uh HRG 1 _ rfl) (by simp)
   have hq2:wc.cell? ⟨g,i * 2 + 1,none⟩ = some (.slice (some ⟨p1,0,none⟩) n n):=kc.cell hq1 (by simp; exact fun e=>hgp e.symm)
   have hq3:wc.frozen? ⟨g,i * 2 + 1,none⟩ = false:=frozen_of_row _ _ _ _ _ (kc.heap ((uh HKrb).heap (uh HCUR) (by simp)) (by simp; exact fun e=>hgp e.symm))
   obtain ⟨d2,hd2⟩:∃ d2,(wod (x,ds) dg).2 = d2:=⟨_,rfl⟩
   rw [hd2] at hhc hzl ⊢
   have hl2:d2.length≤n:=by
    rw [← hd2,← hn]
    show (if _ then _ else _:List (List Nat)).length≤_
    split
    ·exact List.length_eraseIdx_le _ _
    ·exact Nat.le_refl _
   have hdd2:∀ d∈d2,Dg d:=fun d hd=>by
    rw [← hd2] at hd
    have hd3:d∈(if x.testBit dg = true then ds.eraseIdx (cnt x dg) else ds):=hd
    split at hd3
    ·exact hdg d (List.mem_of_mem_eraseIdx hd3)
    ·exact hdg d hd3
   have hPD:=uh HP
   rw [hn] at hPD
   have hprf:prf k q L i = (x,d2):=by rw [hPF,← hd2]; rfl
   have hsb:=(uh HSr).kept (uh HKrb)
   have hkc:KidB W.heap.size wc (.slice (some ⟨g,0,none⟩) m sc) (((mixL k q L m i).getD i (0,[])).1,d2) (gs.getD i (0,0)):=by
    rw [xb1w hlt,uh HST,hPD]
    exact ⟨hnw,hne,⟨zs,hhc,hzl,hzo⟩,⟨hl2,hcp.2⟩,hbm,hdd2⟩
   have hpt:=hsb.st.put (i:=i) (by rw [xa5u]; exact hlt) (g:=g) (c:=sc) (by rw [xa5u]) (by rw [hPD]; exact kc) hkc
   rw [xb1w hlt,uh HST,hPD] at hpt
   simp only at hpt
   rw [← hprf,xb4y hlt] at hpt
   have hKg:=(Kept.refl [g] wc).setCell (p:=⟨g,i * 2 + 1,none⟩) (Or.inl (by simp)) (.slice (some ⟨p1,0,none⟩) d2.length n)
   have hly:=(hsb.ly.far kc (fun y hy=>by rw [List.mem_singleton.1 hy]; exact hpC)).far hKg (fun y hy=>by rw [List.mem_singleton.1 hy]; exact hgC)
   have HSd:=hide (show SLP W.heap.size _ _ _ _ _ _ _ _ from ⟨hpt,hly,hsb.lo,hsb.bc⟩)
   have hxb:=(uh HKrb).heap (uh HXr) (by simp)
   have hgb:=(uh HKrb).heap (uh HGr) (by simp)
   have hbw:=uh HBW
   have HXd:=hide (hKg.heap (kc.heap hxb (by simp; omega)) (by simp; omega))
   have HGd:=hide (hKg.heap (kc.heap hgb (by simp; omega)) (by simp; omega))
   have HKd:=hide ((((uh HKr).trans (uh HKrb) (by simp)).trans kc (fun y hy=>Or.inr (by rw [List.mem_singleton.1 hy]; omega))).setCell (p:=⟨g,i * 2 + 1,none⟩) (Or.inr (show w.heap.size≤g by omega)) (.slice (some ⟨p1,0,none⟩) d2.length n))
   clear hq1 hhc hzl hzo kc hd2 hl2 hdd2 hPD hprf hsb hkc hpt hKg hly hxb hgb hbw hPF hdg hn
   go_wp2_with fail
   refine ⟨⟨i + 1,by go_num,hlt,HSd,HXd,HGd,HKd⟩,?_⟩
   simp [intOf]; omega
  ·have hie:i = m:=by omega
   subst hie
   have hlt':¬ (i:Int) < i:=by omega
   have HWP:=hide (setRow_heap _ _ _ #[.slice so i sc,.slice po pn pc] _ _ (uh HGr))
   have hKz:=(Kept.refl [w.heap.size] wr).setRow (g:=w.heap.size) (Or.inl (by simp)) #[.slice so i sc,.slice po pn pc]
   have HSz:=hide ((uh HSr).far hKz (fun y hy=>by rw [List.mem_singleton.1 hy]; exact uh HBW))
   have HKz:=hide ((uh HKr).setRow (g:=w.heap.size) (Or.inr (Nat.le_refl _)) #[.slice so i sc,.slice po pn pc])
   clear hKz
   go_wp2_with (first
    | (refine xa0p rfl 35 _ rfl #[.slice so i sc,.slice po pn pc] (by simp only [List.map_toArray,List.map_cons,List.map_nil]; exact xb8t) ?_)
    | (refine wpList_store_row rfl 35 (.tmp 4) (.tmp 63) rfl w.heap.size #[.slice so i sc,.slice po pn pc] rfl rfl _ #[.slice none 0 0,.slice none 0 0] (uh HGr) Tryz.size_kp rfl (p_two1 rfl rfl) ?_))
   refine bodyPost_ret (v:=.tuple #[.agg #[.slice so i sc,.slice po pn pc],.int .i64 0]) ?_ rfl ?_
   ·exact xa0g rfl _ _ w.heap.size _ #[.slice so i sc,.slice po pn pc] (0,0) _ rfl (uh HWP) Tryz.underlying35 rfl Tryz.size_kp (.int .i64 0) rfl
   ·have h9:=uh HSz
    rw [xb8c,← uh HE] at h9
    exact ⟨_,_,rfl,⟨i,gs,C,l,h9.base (uh HK0).size,uh HWY⟩,uh HKz⟩
theorem SLay.far {B:Nat} {w w':World} {v:Value} {l:List (Nat × Value)} {ss:List Stp} {M:List Nat} (h:SLay B w v l ss) (k:Kept M w w') (hM:∀ y∈M,y < B):SLay B w' v l ss :=
 ⟨k.owns h.own (fun b hb hm=>by have h1:=(h.own.lt b hb).1; have h2:=hM b hm; omega),h.len,fun i hi=>⟨(h.pr i hi).1,(h.pr i hi).2.1,(h.pr i hi).2.2.agr ⟨k.size,fun x hx hl=>k.block x hl (fun hm=>by have h1:=hM x hm; have h2:=hx.1; omega)⟩⟩⟩
theorem Tryz.size_sts:(Tryz.prog.info? 33).map (·.size) = some 1:=by kernel_rfl
theorem Tryz.size_prs:(Tryz.prog.info? 22).map (·.size) = some 1:=by kernel_rfl
theorem rd_far {w w':World} {g:Nat} {v:Value} {q:List Nat} {a1 a2:Option Addr} {b1 b2 c1 c2:Nat} {t:TypeId} (h:Rd w v q) (k:Kept [g] w w') (hg:w.heap[g]? = some (.cells #[.slice a1 b1 c1,.slice a2 b2 c2] t (0,0))):Rd w' v q:=by
 obtain ⟨ao,len,cap,rfl,h1,h2,h3,h4,h5,h6⟩:=h
 refine ⟨ao,len,cap,rfl,h1,h2,h3,h4,h5,fun hp=>?_⟩
 obtain ⟨b,off,rfl,hc⟩:=h6 hp
 refine ⟨b,off,rfl,fun i hi=>k.cell (hc i hi) (fun hm=>?_)⟩
 have e:=List.mem_singleton.1 hm
 have e2:b = g:=e
 subst e2
 have h9:=hc i hi
 rw [cell_of_row _ _ _ _ _ _ hg] at h9
 have h10:off + i = 0∨off + i = 1∨2≤off + i:=by omega
 rcases h10 with e3 | e3 | e3
 ·rw [e3] at h9; simp [u8] at h9
 ·rw [e3] at h9; simp [u8] at h9
 ·rw [Array.getElem?_eq_none (by simpa using e3)] at h9; cases h9
theorem RdK.far {w w':World} {g:Nat} {v:Value} {ps:Prs} {a1 a2:Option Addr} {b1 b2 c1 c2:Nat} {t:TypeId} (h:RdK w v ps) (k:Kept [g] w w') (hb:g∉blk v) (hg:w.heap[g]? = some (.cells #[.slice a1 b1 c1,.slice a2 b2 c2] t (0,0))):RdK w' v ps:=by
 obtain ⟨ao,n,c,ks,vs,rfl,h1,h2,h3,h4,h5⟩:=h
 refine ⟨ao,n,c,ks,vs,rfl,h1,h2,h3,fun i hi=>⟨rd_far (h4 i hi).1 k hg,rd_far (h4 i hi).2 k hg⟩,fun hp=>?_⟩
 obtain ⟨b,off,rfl,hc⟩:=h5 hp
 have hn:b∉[g]:=fun hm=>hb (by rw [← List.mem_singleton.1 hm]; simp [blk])
 exact ⟨b,off,rfl,fun i hi=>⟨k.cell (hc i hi).1 hn,k.cell (hc i hi).2 hn⟩⟩
theorem SLay.base {B B':Nat} {w:World} {v:Value} {l:List (Nat × Value)} {ss:List Stp} (h:SLay B w v l ss) (hb:B'≤B):SLay B' w v l ss :=
 ⟨⟨h.own.1,h.own.2.elim Or.inl (fun ⟨g,cap,cur,hv,hg,r⟩=>Or.inr ⟨g,cap,cur,hv,Nat.le_trans hb hg,r⟩)⟩,h.len,fun i hi=>⟨(h.pr i hi).1,(h.pr i hi).2.1,(h.pr i hi).2.2.mono (fun x hx=>⟨Nat.le_trans hb hx.1,hx.2⟩)⟩⟩
def ProofR (k B:Nat) (w:World) (q:List Nat) (L:Prs) (sv pv:Value):Prop:=∃ m sl,SLay B w sv sl (prfL k q L m)∧RdK w pv (dnL (hsZ k) q L m)∧(∀ y∈blk pv,B≤y)∧WayM k q L m
theorem ProofR.p {k B:Nat} {w:World} {q:List Nat} {L:Prs} {sv pv:Value} (h:ProofR k B w q L sv pv):ProofP k w q L sv pv:=by
 obtain ⟨m,sl,h1,h2,_,h4⟩:=h
 exact ⟨m,h1.rdS,h2,h4⟩
theorem ProofP.form {k:Nat} {w:World} {q:List Nat} {L:Prs} {sv pv:Value} (h:ProofP k w q L sv pv):∃ s1 s2 s3 p1 p2 p3,sv = .slice s1 s2 s3∧pv = .slice p1 p2 p3:=by
 obtain ⟨m,⟨s1,s2,s3,_,e2,_⟩,⟨p1,p2,p3,_,_,e,_⟩,_⟩:=h
 exact ⟨s1,s2,s3,p1,p2,p3,e2,e⟩
theorem SLay.at_ {w:World} {v:Value} {ss:List Stp} (h:RdS w v ss):∃ ao c,v = .slice ao ss.length c:=by
 obtain ⟨ao,len,cap,vs,e,h1,_⟩:=h
 exact ⟨ao,cap,by rw [e,h1]⟩
set_option maxHeartbeats 8000000 in
theorem xb1a (T:Nat→Prop) (k:Nat) (hk:1≤k∧k≤32) (mv qv:Value) (q:List Nat) (L:Prs) (w:World) (hM:IAt T k w mv L) (hq:Rd w qv q) (hql:q.length≤140737488351232) (hs:Srt (hsZ k) L) (hfit:Fit L) (hl:L.length≤1000000000) (hT:∀ y,w.heap.size≤y→T y) :
  Calls Tryz.prog 33 #[.int .i64 k,mv,qv] w fun e w'=>∃ sv pv,e = .returned (.agg #[sv,pv])∧ProofR k w.heap.size w' q L sv pv∧Kept [] w w':=by
 have hH:=hsZ_ok hk
 have HM:=hide hM
 have HQ:=hide hq
 have HS:=hide hs
 have HFI:=hide hfit
 have HT:=hide hT
 have hDg:Dg ((hsZ k).kd q):=hH.dg q
 have hDe:sumD (k:Int) (2 :: q) = (hsZ k).kd q:=rfl
 have HG0:=hide (heap_alloc_new w (.cells #[.slice none 0 0,.slice none 0 0] 35))
 have HK0:=hide ((Kept.refl [] w).alloc (.cells #[.slice none 0 0,.slice none 0 0] 35))
 obtain ⟨W,hW⟩:∃ W,w.alloc (.cells #[.slice none 0 0,.slice none 0 0] 35) = W:=⟨_,rfl⟩
 rw [hW] at HG0 HK0
 have HW0L:=hide (show w.heap.size < W.heap.size from lt_of_block (uh HG0))
 have HWK:=hide (xb2t T k hk mv qv q L W ((uh HM).agr (Agr.nil (uh HK0))) ((uh HQ).old (uh HK0) (by simp)) hql (uh HS) (uh HFI) hl (fun y hy=>uh HT y (by have:=(uh HK0).size; omega)))
 have HQL:=hide hql
 clear hM hq hs hfit hT hl hql
 go_enter Tryz.func33,Tryz.ntmps33
 go_upto_region 1 with fail
 try rw [hW]
 clear hW
 go_wp2_with fail
 refine Calls.mono (uh HWK) ?_
 clear HWK
 rintro e w1 ⟨sv,pv,rfl,⟨m,hrs,hrk,hns,hsg⟩,npv,k1⟩
 have HWY:=hide (show WayM k q L m from ⟨hns,hsg⟩)
 have HK1:=hide ((uh HK0).trans k1 (by simp))
 have HG1:=hide (k1.heap (uh HG0) (by simp))
 have HRS1:=hide hrs
 have HNPV:=hide npv
 have HRK1:=hide hrk
 have hm2:=(uh HWY).le hk
 obtain ⟨so,sc,rfl⟩:=SLay.at_ hrs
 have hml:((List.range m).map (stp k q L)).length = m:=by simp
 rw [hml] at HRS1 ⊢
 obtain ⟨po,pn,pc,_,_,rfl,_⟩:=id hrk
 clear k1 hrs hrk hns hsg hml npv
 go_wp2_with fail
 refine Calls.mono (xa4s k qv q w1 hk ((uh HQ).old (uh HK1) (by simp)) (uh HQL)) ?_
 rintro e w3 ⟨rfl,k3⟩
 rw [hDe]
 obtain ⟨D,hD⟩:∃ D,(hsZ k).kd q = D:=⟨_,rfl⟩
 rw [hD] at hDg ⊢
 have hDl:=hDg.1
 have HPF:=hide (show ∀ i,prf k q L i = wod (stp k q L i) (dgt D i) from fun i=>by rw [← hD]; rfl)
 have HK3:=hide ((uh HK1).trans k3 (by simp))
 have HG3:=hide (k3.heap (uh HG1) (by simp))
 have HRS3:=hide ((uh HRS1).old k3)
 have HRK3:=hide ((uh HRK1).old k3)
 have HZ1:=hide (heap_alloc_new w3 (.cells (zb 32) 50))
 have HX0:=hide (setRow_heap _ _ _ (brow D) _ _ (uh HZ1))
 have HK34:=hide ((Kept.refl [] w3).alloc (.cells (zb 32) 50) |>.setRow (g:=w3.heap.size) (Or.inr (Nat.le_refl _)) (brow D))
 obtain ⟨W0,hW0⟩:∃ W0,(w3.alloc (.cells (zb 32) 50)).setRow w3.heap.size (brow D) = W0:=⟨_,rfl⟩
 rw [hW0] at HX0 HK34
 have HSD:=hide (by rw [xa0a,hDl]; exact Tryz.size_dig:(Tryz.prog.info? 50).map (·.size) = some (brow D).size)
 go_upto_region 3 with (rw [zb32]; refine wpList_store_row rfl 50 (.tmp 9) (.tmp 22) rfl w3.heap.size (brow D) rfl rfl _ (zb 32) (uh HZ1) (uh HSD) (by rw [xa0l,xa0a,hDl]) (xa0f _) ?_; rw [hW0]; simp only [Act.put])
 clear hW0 HZ1
 have HP0:=hide (heap_alloc_new W0 (.cells #[.slice none 0 0,.slice none 0 0] 35))
 have HKp:=hide ((Kept.refl [] W0).alloc (.cells #[.slice none 0 0,.slice none 0 0] 35))
 obtain ⟨P,hP⟩:∃ P,W0.heap.size = P:=⟨_,rfl⟩
 rw [hP] at HP0
 obtain ⟨W5,hW5⟩:∃ W5,W0.alloc (.cells #[.slice none 0 0,.slice none 0 0] 35) = W5:=⟨_,rfl⟩
 rw [hW5] at HP0 HKp
 have HX5:=hide ((uh HKp).heap (uh HX0) (by simp))
 have HK35:=hide ((uh HK34).trans (uh HKp) (by simp))
 have HK5:=hide ((uh HK3).trans (uh HK35) (by simp))
 have HZP:=hide (show w.heap.size < w3.heap.size∧w3.heap.size < P∧P < W5.heap.size from ⟨lt_of_block (uh HG3),by rw [← hP]; exact lt_of_block (uh HX0),lt_of_block (uh HP0)⟩)
 clear k3 hD hDe HG0 HG1 HRS1 HRK1 HK1 HK3 HK34 HKp HX0 HM HS HFI HT
 go_wp2_with fail
 try rw [hP]
 try rw [hW5]
 clear hP hW5
 go_loopw [25] (fun t25 wr=>∃ (i:Nat) (v:Value) (sl:List (Nat × Value)),t25 = .int .i64 i∧i≤m∧Hid (wr.heap[P]? = some (.cells #[v,.slice none 0 0] 35 (0,0)))∧Hid (SLay W5.heap.size wr v sl ((List.range i).map (prf k q L)))∧Hid (Kept [P] W5 wr)) (fun t _=>m - (intOf t).toNat)
 case atStart=>exact ⟨0,_,[],rfl,Nat.zero_le _,HP0,hide (SLay.nil _ _),hide (Kept.refl _ _)⟩
 case round =>
  obtain ⟨i,v,sl,rfl,hi,HPr,HSL,HKr⟩:=hrel
  have HKw:=hide (show Kept [] w wr from (uh HK5).trans (uh HKr) (fun y hy=>Or.inr (by rw [List.mem_singleton.1 hy]; have:=uh HZP; omega)))
  have HK3r:=hide (show Kept [] w3 wr from (uh HK35).trans (uh HKr) (fun y hy=>Or.inr (by rw [List.mem_singleton.1 hy]; have:=uh HZP; omega)))
  by_cases hlt:i < m
  ·have hlt':(i:Int) < m:=by omega
   have hil:i < ((List.range m).map (stp k q L)).length:=by simp; exact hlt
   have hRS3:=uh HRS3
   obtain ⟨b,o,dv,rfl,hr,hb,hd⟩:=hRS3.at_ hil
   have hst:((List.range m).map (stp k q L)).getD i (0,[]) = stp k q L i:=by
    rw [List.getD_eq_getElem?_getD,List.getElem?_map,List.getElem?_range hlt]; rfl
   rw [hst] at hr hb hd
   have hPF:=uh HPF i
   obtain ⟨ST,hST⟩:∃ ST,stp k q L i = ST:=⟨_,rfl⟩
   rw [hST] at hr hb hd hPF
   have hks:ST.2.length≤16:=by
    rw [← hST]
    show ((kidsL (hsZ k) i (dnL (hsZ k) q L i)).map (nodP (hsZ k) (63 - i))).length≤16
    rw [List.length_map,xa1q]; exact cnt_le _ _
   clear hst hST hRS3
   obtain ⟨x,ds⟩:=ST
   simp only at hr hb hd hks
   obtain ⟨dg,hdg⟩:∃ dg,dgt D i = dg:=⟨_,rfl⟩
   have hdl16:dg < 16:=by rw [← hdg]; exact dgt_lt hDg.2 i
   have HRDI:=hide (fun (W:World)=>xa4k D i W hDg (by omega))
   rw [hdg] at HRDI hPF
   have HRG:=hide (show wr.rangeAt b (o + i * 2) [.int .u16 (x:Int),dv] from fun j u hj=>(uh HK3r).cell (hr j u hj) (by simp))
   have HDV:=hide (hd.old (uh HK3r))
   obtain ⟨da,dn,dc,rfl,_⟩:=id hd
   have hA:=heap_alloc_new wr (.cells #[.int .u16 (x:Int),.slice da dn dc] 64)
   have hkA:=(Kept.refl [] wr).alloc (.cells #[.int .u16 (x:Int),.slice da dn dc] 64)
   have HA:=hide hA
   have HKA:=hide hkA
   have HDA:=hide ((uh HDV).old hkA)
   have HXA:=hide (hkA.heap ((uh HKr).heap (uh HX5) (by simp; have:=uh HZP; omega)) (by simp))
   have HPA:=hide (hkA.heap (uh HPr) (by simp))
   obtain ⟨vo,vc,rfl⟩:=xa0h (uh HSL).own
   have HOW:=hide (fun z hz=>(uh HSL).own.lt z hz)
   have hsll:=(uh HSL).len
   rw [List.length_map,List.length_range] at hsll
   have HBS:=hide (show W5.heap.size≤wr.heap.size from (uh HKr).size)
   obtain ⟨wa,hwa⟩:∃ wa,wr.alloc (.cells #[.int .u16 (x:Int),.slice da dn dc] 64) = wa:=⟨_,rfl⟩
   have HSZ:=hide (show wr.heap.size < wa.heap.size by rw [← hwa]; simp)
   rw [hwa] at HA HKA HXA HPA HDA
   have cp0:wa.cell? ⟨P,0,none⟩ = some (.slice vo sl.length vc):=cell_of_row _ _ 0 _ _ _ (uh HPA)
   have HCP:=hide cp0
   clear hA hkA hr hd hdg cp0
   go_upto_region 7 with (refine wpList_load_mid rfl 64 (.tmp 28) rfl b (o + i * 2) rfl [.int .u16 (x:Int),.slice da dn dc] _ (uh HRG) Tryz.underlying64 rfl Tryz.size_stpP ?_)
   try simp only [Act.put]
   try rw [hwa]
   clear hwa
   obtain ⟨OB,hOB⟩:∃ OB,(Value.slice vo sl.length vc).ownBlock = OB:=⟨_,rfl⟩
   have hOBn:P∉OB.toList:=by
    intro hm
    rw [← hOB] at hm
    have h1:=uh HOW P (by simpa using hm)
    have h2:=uh HZP
    omega
   have hOBx:w3.heap.size∉OB.toList:=by
    intro hm
    rw [← hOB] at hm
    have h1:=uh HOW w3.heap.size (by simpa using hm)
    have h2:=uh HZP
    omega
   have hOBw:wr.heap.size∉OB.toList:=by
    intro hm
    rw [← hOB] at hm
    have h1:=uh HOW wr.heap.size (by simpa using hm)
    omega
   have HRA:=hide (xa0k [] [.int .u16 (x:Int),.slice da dn dc] [] (uh HA) rfl:wa.rangeAt wr.heap.size 0 [.int .u16 (x:Int),.slice da dn dc])
   have HRX:=hide (xa0k [] (D.map u8) [] (by rw [List.nil_append,List.append_nil]; exact uh HXA) rfl:wa.rangeAt w3.heap.size 0 (D.map u8))
   have hd4:=(Kept.refl [] wa).drew
   refine lp_rp (by kernel_rfl) (by kernel_rfl) rfl (fun W=>Kept OB.toList wa W) (hd4.mono (by simp)) ?_
   refine LinY.rd (.pointer (some ⟨P,0,none⟩)) (fun W hW=>by go_simp) (by simp only [Act.put,sa1,sa2,sa3]; rfl) ?_
   refine LinY.rd (.slice vo sl.length vc) (fun W hW=>by have h9:=hW.cell (uh HCP) hOBn; go_simp) (by simp only [Act.put,sa1,sa2,sa3]; rfl) ?_
   refine LinY.ld 64 (.tmp 12) rfl wr.heap.size 0 rfl [.int .u16 (x:Int),.slice da dn dc] _ (fun W hW=>hW.rng (uh HRA) hOBw) Tryz.underlying64 rfl Tryz.size_stpP (by simp only [Act.put,sa1,sa2,sa3]; rfl) ?_
   refine LinY.ld 50 (.tmp 9) rfl w3.heap.size 0 rfl (D.map u8) _ (fun W hW=>hW.rng (uh HRX) hOBx) Tryz.underlying50 rfl (by rw [List.length_map,hDl]; exact Tryz.size_dig) (by simp only [Act.put,sa1,sa2,sa3]; rfl) ?_
   refine LinY.rd (.int .i64 i) (fun W hW=>by go_simp) (by simp only [Act.put,sa1,sa2,sa3]; rfl) ?_
   refine LinY.fin (ChL.call rfl Tryz.call61 [.agg (brow D),.int .i64 i] rfl (uh HRDI wa.drew) ?_)
   rintro e w4 ⟨rfl,k4⟩
   have hk4:=hd4.trans k4 (by simp)
   refine ⟨_,rfl,hk4.mono (by simp),?_⟩
   simp only [Act.put,sa1,sa2,sa3]
   refine ChL.call rfl Tryz.call60 [.agg #[.int .u16 (x:Int),.slice da dn dc],.int .i64 dg] rfl (xa8m x dg _ ds w4 hb hdl16 ((uh HDA).old hk4) (by omega)) ?_
   rintro e w5 ⟨v5,rfl,r5,n5,k5⟩
   have hk5:=hk4.trans k5 (by simp)
   refine ⟨_,rfl,hk5.mono (by simp),?_⟩
   simp only [Act.put,sa1,sa2,sa3]
   obtain ⟨d2,hd2⟩:∃ d2,(wod (x,ds) dg).2 = d2:=⟨_,rfl⟩
   rw [hd2] at r5
   obtain ⟨ua,un,uc,rfl,_⟩:=id r5
   have hka:=(Kept.refl [] w5).alloc (.cells #[.int .u16 (x:Int),.slice ua un uc] 64)
   have hk6:=hk5.trans hka (by simp)
   refine ChL.op (.slice (some ⟨w5.heap.size,0,none⟩) 1 1) (xa8f w5 (.tmp 36) rfl (x:Int) _ rfl) (hk6.mono (by simp)) (by simp only [Act.put,sa1,sa2,sa3]; rfl) ?_
   have hrl:RdC 2 (w5.alloc (.cells #[.int .u16 (x:Int),.slice ua un uc] 64)) (.slice (some ⟨w5.heap.size,0,none⟩) 1 1) (stR [(x,.slice ua un uc)]):=⟨_,1,1,rfl,rfl,Nat.le_refl _,by omega,fun _=>⟨w5.heap.size,0,rfl,fun j hj=>by
     have h0:j = 0:=by simp [stR] at hj; omega
     subst h0
     exact xa0k [] [.int .u16 (x:Int),.slice ua un uc] [] (heap_alloc_new w5 _) rfl⟩⟩
   have hly:=((uh HSL).agr (uh HKA)).agr hk6
   have hbs:=uh HBS
   have hsz:=uh HSZ
   refine ChL.app 33 64 (.tmp 31) (.tmp 37) rfl rfl _ W5.heap.size (.agg #[.int .u16 0,.slice none 0 0]) 2 32 Tryz.underlying33 Tryz.infoSt rfl (by decide) (.slice vo sl.length vc) sl.length (stR sl).flatten hly.own (some ⟨w5.heap.size,0,none⟩) 1 1 (stR [(x,.slice ua un uc)]) hrl (by intro r hr; simp [stR] at hr; rw [hr]; rfl) (by intro r hr u hu; simp [stR] at hr; rw [hr] at hu; simp at hu; rcases hu with rfl | rfl <;> rfl) (by omega) (by omega) (by have h2:=hk6.size; omega) rfl rfl ?_
   intro ao7 c7 w7 HO7 HG7 HA7
   have hg7:=uh HG7
   rw [hOB] at hg7
   have hk7:=(Kept.refl OB.toList _).grown hg7 (by intro x hx; left; simp [hx])
   have hk47:=(hk6.mono (M:=OB.toList) (by simp)).trans hk7 (fun x hx=>Or.inl hx)
   refine ⟨hk47,?_⟩
   simp only [Act.put,sa1,sa2,sa3]
   refine ChL.op (.pointer (some ⟨P,0,none⟩)) (by go_simp) hk47 (by simp only [Act.put,sa1,sa2,sa3]; rfl) ?_
   have hgx:=hk47.heap (uh HPA) hOBn
   refine ChL.fin (xa1r 33 (.tmp 39) (.tmp 38) rfl P 0 35 #[.slice vo sl.length vc,.slice none 0 0] #[.slice ao7 (sl.length + 1) c7,.slice none 0 0] (.slice ao7 (sl.length + 1) c7) rfl rfl hgx (by simp) Tryz.size_sts rfl rfl ?_)
   have hsn:=hly.snoc hb (Sty.rdD (r5.old hka) (fun y hy=>by
    have h1:=n5 y hy
    have h2:=hk4.size
    refine ⟨by omega,fun e=>?_⟩
    have:=(uh HOW y e).2
    omega)) (uh HO7) (uh HG7) (uh HA7)
   have HG8:=hide (setRow_heap _ _ _ #[.slice ao7 (sl.length + 1) c7,.slice none 0 0] _ _ hgx)
   have hk78:=(Kept.refl [P] w7).setRow (g:=P) (Or.inl (by simp)) #[.slice ao7 (sl.length + 1) c7,.slice none 0 0]
   have HS8:=hide (hsn.far hk78 (fun y hy=>by rw [List.mem_singleton.1 hy]; exact (uh HZP).2.2))
   have HK8:=hide (show Kept [P] W5 (w7.setRow P #[.slice ao7 (sl.length + 1) c7,.slice none 0 0]) from (((uh HKr).trans (uh HKA) (by simp)).trans hk47 (fun y hy=>by
    right
    rw [← hOB] at hy
    exact (uh HOW y (by simpa using hy)).1)).trans hk78 (fun y hy=>Or.inl hy))
   have hprf:prf k q L i = (x,d2):=by rw [hPF,← hd2]; rfl
   have HPRF:=hide hprf
   clear hk78 hgx hk47 hk7 hg7 hrl hk6 hka hk5 k5 hk4 k4 hd4 hsn hly hprf hPF hd2 n5 r5 hsz hbs
   generalize w7.setRow P #[.slice ao7 (sl.length + 1) c7,.slice none 0 0] = W8 at HG8 HS8 HK8 ⊢
   go_wp2_with fail
   refine ⟨⟨i + 1,.slice ao7 (sl.length + 1) c7,_,by go_num,hlt,HG8,hide (by rw [List.range_succ,List.map_append,List.map_cons,List.map_nil,uh HPRF]; exact uh HS8),HK8⟩,?_⟩
   simp [intOf]; omega
  ·have hie:i = m:=by omega
   subst hie
   have hlt':¬ (i:Int) < i:=by omega
   have hzp:=uh HZP
   obtain ⟨vo,vc,rfl⟩:=xa0h (uh HSL).own
   have hlen:=(uh HSL).len
   rw [List.length_map,List.length_range] at hlen
   have HP9:=hide (setRow_heap _ _ _ #[.slice vo sl.length vc,.slice po pn pc] _ _ (uh HPr))
   have hk9:=(Kept.refl [P] wr).setRow (g:=P) (Or.inl (by simp)) #[.slice vo sl.length vc,.slice po pn pc]
   have HG9:=hide (hk9.heap ((uh HK3r).heap (uh HG3) (by simp)) (by simp; omega))
   have HRS9:=hide ((uh HSL).far hk9 (fun y hy=>by rw [List.mem_singleton.1 hy]; exact hzp.2.2))
   have HK9:=hide ((uh HKw).setRow (g:=P) (Or.inr (by omega)) #[.slice vo sl.length vc,.slice po pn pc])
   have HRK9:=hide ((uh HRK3).old (show Kept [] w3 (wr.setRow P #[.slice vo sl.length vc,.slice po pn pc]) from (uh HK3r).setRow (g:=P) (Or.inr (by omega)) _))
   clear hk9 hlen
   have HBW:=hide (show w.heap.size < W5.heap.size by omega)
   go_wp2_with (first
    | (refine xa9w rfl 22 (.tmp 42) (.tmp 41) rfl P 1 35 #[.slice vo sl.length vc,.slice none 0 0] #[.slice vo sl.length vc,.slice po pn pc] (.slice po pn pc) rfl rfl (uh HPr) (by simp) Tryz.size_prs rfl rfl ?_)
    | (refine wpList_load_row rfl 35 (.tmp 10) rfl P rfl 35 #[.slice vo sl.length vc,.slice po pn pc] (0,0) _ (uh HP9) Tryz.underlying35 rfl Tryz.size_kp ?_)
    | (refine wpList_store_row rfl 35 (.tmp 6) (.tmp 43) rfl w.heap.size #[.slice vo sl.length vc,.slice po pn pc] rfl rfl _ #[.slice none 0 0,.slice none 0 0] (uh HG9) Tryz.size_kp rfl (p_two1 rfl rfl) ?_))
   have hkz:=(Kept.refl [w.heap.size] (wr.setRow P #[.slice vo sl.length vc,.slice po pn pc])).setRow (g:=w.heap.size) (Or.inl (by simp)) #[.slice vo sl.length vc,.slice po pn pc]
   refine bodyPost_ret (v:=.agg #[.slice vo sl.length vc,.slice po pn pc]) ?_ rfl ⟨_,_,rfl,⟨i,sl,(((uh HRS9).far hkz (fun y hy=>by rw [List.mem_singleton.1 hy]; exact uh HBW)).base (Nat.le_of_lt (uh HBW))),?_,fun y hy=>by have h1:=uh HNPV y hy; have h2:=uh HW0L; omega,uh HWY⟩,(uh HK9).setRow (g:=w.heap.size) (Or.inr (Nat.le_refl _)) _⟩
   ·exact results_cell_row rfl _ _ w.heap.size 35 #[.slice vo sl.length vc,.slice po pn pc] (0,0) _ rfl (setRow_heap _ _ _ _ _ _ (uh HG9)) Tryz.underlying35 rfl Tryz.size_kp
   ·refine (uh HRK9).far hkz (fun hm=>?_) (uh HG9)
    have h1:=uh HNPV _ hm
    have h2:=uh HW0L
    omega
theorem xb2q (T:Nat→Prop) (k:Nat) (hk:1≤k∧k≤32) (mv qv:Value) (q:List Nat) (L:Prs) (w:World) (hM:IAt T k w mv L) (hq:Rd w qv q) (hql:q.length≤140737488351232) (hs:Srt (hsZ k) L) (hfit:Fit L) (hl:L.length≤1000000000) (hT:∀ y,w.heap.size≤y→T y) :
  Calls Tryz.prog 33 #[.int .i64 k,mv,qv] w fun e w'=>∃ sv pv,e = .returned (.agg #[sv,pv])∧ProofP k w' q L sv pv∧Kept [] w w' :=
 (xb1a T k hk mv qv q L w hM hq hql hs hfit hl hT).mono fun e w' ⟨sv,pv,h1,h2,h3⟩=>⟨sv,pv,h1,h2.p,h3⟩
theorem xb5b:Tryz.prog.built 35 [] = some #[.slice none 0 0,.slice none 0 0]:=by kernel_rfl
set_option maxHeartbeats 4000000 in
theorem xa7m (mv kv:Value) (q:List Nat) (w:World) (hku:Rd w kv q) (hq:64 < q.length) :
  Calls Tryz.prog 12 #[mv,kv] w fun e w'=>e = .returned (.tuple #[.agg #[.slice none 0 0,.slice none 0 0],.int .i64 2])∧Kept [] w w':=by
 obtain ⟨ka,kn,kc,rfl,hkn,_⟩:=id hku
 have hkn2:(kn:Int) > 64:=by omega
 have hkn3:(64:Int) < kn:=by omega
 have HG0:=hide (heap_alloc_new w (.cells #[.slice none 0 0,.slice none 0 0] 35))
 have HK0:=hide ((Kept.refl [] w).alloc (.cells #[.slice none 0 0,.slice none 0 0] 35))
 clear hku hq hkn
 go_enter Tryz.func12,Tryz.ntmps12
 go_wp2_with (first
  | (refine xa0p rfl 35 _ rfl #[.slice none 0 0,.slice none 0 0] (by simp only [List.map_toArray,List.map_cons,List.map_nil]; exact xb5b) ?_)
  | (refine wpList_store_row rfl 35 (.tmp 4) (.tmp 19) rfl w.heap.size #[.slice none 0 0,.slice none 0 0] rfl rfl _ #[.slice none 0 0,.slice none 0 0] (uh HG0) Tryz.size_kp rfl (p_two1 rfl rfl) ?_))
 refine bodyPost_ret (v:=.tuple #[.agg #[.slice none 0 0,.slice none 0 0],.int .i64 2]) ?_ rfl ⟨rfl,(uh HK0).setRow (g:=w.heap.size) (Or.inr (Nat.le_refl _)) _⟩
 exact xa0g rfl _ _ w.heap.size _ #[.slice none 0 0,.slice none 0 0] (0,0) _ rfl (setRow_heap _ _ _ _ _ _ (uh HG0)) Tryz.underlying35 rfl Tryz.size_kp (.int .i64 2) rfl
theorem xb4a {w w1:World} {row:Option Nat} {b:Nat} {o:Obj} (h:w.grownBy w1 row) (hb:w.heap[b]? = some o) (hn:row≠some b):w1.heap[b]? = some o:=by
 have k:=(Kept.refl row.toList w).grown h (by intro x hx; left; simp [hx])
 exact k.heap hb (by intro hm; exact hn (by simpa using hm))
theorem xb9w {H:Hs} {q v:List Nat} {s:Bool × Prs} {y:List Nat × List Nat}:putS H q v s y = (s.1 || decide (kc H q y.1≤0),(if s.1 = false∧kc H q y.1≤0 then s.2++[(q,v)] else s.2)++(if kc H q y.1 = 0 then [] else [y])):=rfl
set_option maxHeartbeats 8000000 in
theorem xb3j (T:Nat→Prop) (k:Nat) (mv qv uv:Value) (q u:List Nat) (L:Prs) (w:World) (hk:1≤k∧k≤32) (hM:IAt T k w mv L) (hs:Srt (hsZ k) L) (hq:Rd w qv q) (hu:Rd w uv u) (hql:q.length≤140737488351232) (hl:L.length≤1000000000) (hT:∀ y,w.heap.size≤y→T y) :
  Calls Tryz.prog 36 #[.int .i64 k,mv,qv,uv] w fun e w'=>∃ v',e = .returned v'∧IAt T k w' v' (insP (hsZ k) q u L)∧Kept [] w w':=by
 have HM:=hide hM
 obtain ⟨ao,c,l,rfl,hc1,hc2,hll,hpr,hcell⟩:=hM.parts
 have HCE:=hide hcell
 have HPR:=hide hpr
 obtain ⟨n,hn⟩:∃ n,L.length = n:=⟨_,rfl⟩
 have HN:=hide hn
 rw [hn] at hc1 hl hll HCE ⊢
 have HSR:=hide (xb9s (hsZ k) q u L hs)
 rw [hn] at HSR
 obtain ⟨R,hR⟩:∃ R,insP (hsZ k) q u L = R:=⟨_,rfl⟩
 rw [hR] at HSR ⊢
 have HQ:=hide hq
 have HU:=hide hu
 clear hM hcell hpr hn hq hu hs hR
 go_enter Tryz.func36,Tryz.ntmps36
 go_wp2_with fail
 refine Calls.mono (xb8h k qv uv q u w hk (uh HQ) (uh HU) hql) ?_
 rintro e w1 ⟨kz,vz,rfl,hkv,hnew,k1⟩
 obtain ⟨z1,z2,z3,rfl,_⟩:=id hkv.1
 obtain ⟨y1,y2,y3,rfl,_⟩:=id hkv.2
 obtain ⟨D0,hD0⟩:∃ D0,(hsZ k).kd q = D0:=⟨_,rfl⟩
 have hD0l:D0.length = 32:=by rw [← hD0]; exact xa0e _ _
 rw [hD0]
 have HD0:=hide hD0
 have HZ1:=hide (heap_alloc_new w1 (.cells zit 116))
 have HX0:=hide (setRow_heap _ _ _ (itC D0 (.slice z1 z2 z3) (.slice y1 y2 y3)).toArray _ _ (uh HZ1))
 have HK12:=hide ((Kept.refl [] w1).alloc (.cells zit 116) |>.setRow (g:=w1.heap.size) (Or.inr (Nat.le_refl _)) (itC D0 (.slice z1 z2 z3) (.slice y1 y2 y3)).toArray)
 obtain ⟨W0,hW0⟩:∃ W0,(w1.alloc (.cells zit 116)).setRow w1.heap.size (itC D0 (.slice z1 z2 z3) (.slice y1 y2 y3)).toArray = W0:=⟨_,rfl⟩
 rw [hW0] at HX0 HK12
 have HKW:=hide (k1.trans (uh HK12) (by simp))
 have HT0:=hide (show ∀ y,W0.heap.size≤y→T y from fun y hy=>hT y (by have:=(uh HKW).size; omega))
 have HSTQ:=hide (show Sty T W0 (fun w=>Rd w (.slice z1 z2 z3) q∧Rd w (.slice y1 y2 y3) u) from fun w' a=>⟨Sty.rd (hkv.1.old (uh HK12) (by simp)) (fun x hx=>hT x (hnew x (Or.inl hx))) w' a,Sty.rd (hkv.2.old (uh HK12) (by simp)) (fun x hx=>hT x (hnew x (Or.inr hx))) w' a⟩)
 have hM0:=(uh HM).agr (Agr.nil (uh HKW))
 have HPR:=hide ((uh HPR).agr (Agr.nil (uh HKW)))
 have HCE:=hide (fun h0:0 < n=>by
  obtain ⟨b,off,e,hTb,hcl⟩:=uh HCE h0
  exact (⟨b,off,e,hTb,fun i hi u z hz=>(uh HKW).cell (hcl i hi u z hz) (by simp)⟩:∃ b off,ao = some ⟨b,off,none⟩∧T b∧∀ i,i < n→W0.rangeAt b (off + i * 34) (itC ((hsZ k).kd (L.getD i ([],[])).1) (l.getD i (undef,undef)).1 (l.getD i (undef,undef)).2)))
 clear hM0 hkv hnew k1 hD0 HM
 go_wp2_with (rw [lit_it]; refine wpList_store_row rfl 116 (.tmp 9) (.tmp 18) rfl w1.heap.size (itC D0 (.slice z1 z2 z3) (.slice y1 y2 y3)).toArray rfl rfl _ zit (uh HZ1) (by rw [xa1a hD0l]; exact Tryz.size_it) (by rw [xa1a hD0l]; rfl) (xa7n rfl rfl) ?_; rw [hW0]; simp only [Act.put])
 go_loopw [10,11,21] (fun t10 t11 t21 wr=>∃ (j:Nat) (v:Value) (lx:List VP) (sb:Bool) (sl:Prs),t21 = .int .i64 j∧t10 = v∧t11 = .bool sb∧j≤n∧Hid (putI (hsZ k) q u L j = (sb,sl))∧Hid (ILay T W0.heap.size k wr v lx sl)∧Hid (Kept [] W0 wr)) (fun _ _ t _=>n - (intOf t).toNat)
 case atStart=>exact ⟨0,.slice none 0 0,[],false,[],rfl,rfl,rfl,Nat.zero_le _,hide rfl,hide (ILay.nil _ _ _ _),hide (Kept.refl _ _)⟩
 case round =>
  obtain ⟨j,v,lx,sb,sl,rfl,rfl,rfl,hj,HPI,HLx,HKr⟩:=hrel
  have HBND:=hide (show lx.length≤2000000000 by
   have h1:=xb1v (hsZ k) q u L j (by have:=uh HN; omega)
   rw [uh HPI] at h1
   have h2:=(uh HLx).pr.1
   have h3:sl.length≤2 * j:=h1
   omega)
  have HX:=hide ((uh HKr).heap (uh HX0) (by simp))
  by_cases hlt:j < n
  ·have hlt':(j:Int) < n:=by omega
   have HPS:=hide (show putI (hsZ k) q u L (j + 1) = putS (hsZ k) q u (sb,sl) (L.getD j ([],[])) by rw [← uh HPI]; exact xa9s (hsZ k) q u L j (by have:=uh HN; omega))
   obtain ⟨b,off,rfl,hTb,hcl⟩:=uh HCE (by omega)
   have hRG:=hcl j hlt
   have hone:=(uh HPR).one' j (by omega)
   have hrd:=(uh HPR).2 j (by omega)
   generalize (l.getD j (undef,undef)).1 = kx at hRG hone hrd
   generalize (l.getD j (undef,undef)).2 = vx at hRG hone hrd
   have HSNOC:=hide (show L.take (j + 1) = L.take j++[L.getD j ([],[])] by
    have hjL:j < L.length:=by have:=uh HN; omega
    rw [List.take_succ_eq_append_getElem hjL,List.getD_eq_getElem?_getD,List.getElem?_eq_getElem hjL]; rfl)
   generalize L.getD j ([],[]) = ej at hRG hrd HSNOC HPS
   obtain ⟨ka,va⟩:=ej
   have hDg:Dg ((hsZ k).kd ka):=xa2v _ _
   obtain ⟨D,hD⟩:∃ D,(hsZ k).kd ka = D:=⟨_,rfl⟩
   simp only [hD] at hRG
   rw [hD] at hDg
   have HD:=hide hD
   have HSTY:=hide hrd
   have HRG:=hide (show wr.rangeAt b (off + j * 34) (itC D kx vx) from fun u z hz=>(uh HKr).cell (hRG u z hz) (by simp))
   have HZ1:=hide (heap_alloc_new wr (.cells zit 116))
   have HN2:=hide (setRow_heap _ _ _ (itC D kx vx).toArray _ _ (uh HZ1))
   have HK12:=hide ((Kept.refl [] wr).alloc (.cells zit 116) |>.setRow (g:=wr.heap.size) (Or.inr (Nat.le_refl _)) (itC D kx vx).toArray)
   obtain ⟨W2,hW2⟩:∃ W2,(wr.alloc (.cells zit 116)).setRow wr.heap.size (itC D kx vx).toArray = W2:=⟨_,rfl⟩
   rw [hW2] at HN2 HK12
   have HK2:=hide ((uh HKr).trans (uh HK12) (by simp))
   have hwsz:W0.heap.size≤wr.heap.size:=by have:=(uh HKr).size; omega
   obtain ⟨rD2,cK2,cV2⟩:=it_row (uh HN2) hDg.1
   have HRD2:=hide rD2
   have HCK2:=hide cK2
   have HCV2:=hide cV2
   have HPA2:=hide (xb3v (uh HN2) hDg.1)
   obtain ⟨kx1,kx2,kx3,rfl,_⟩:=hrd.now.1
   obtain ⟨vx1,vx2,vx3,rfl,_⟩:=hrd.now.2
   clear hrd hRG hcl rD2 hD hDg hone
   have HX2:=hide ((uh HK12).heap (uh HX) (by simp))
   go_wp2_with (first
    | (refine wpList_load_row rfl 116 (.tmp 9) rfl w1.heap.size rfl 116 (itC D0 (.slice z1 z2 z3) (.slice y1 y2 y3)).toArray (0,0) _ (uh HX2) Tryz.underlying116 rfl (by rw [xa1a hD0l]; exact Tryz.size_it) ?_)
    | (refine wpList_load_row rfl 116 (.tmp 13) rfl wr.heap.size rfl 116 (itC D (.slice kx1 kx2 kx3) (.slice vx1 vx2 vx3)).toArray (0,0) _ (uh HN2) Tryz.underlying116 rfl (by rw [xa1a (by rw [← uh HD]; exact xa0e _ _)]; exact Tryz.size_it) ?_)
    | (first
   | (refine wpList_load_mid rfl 116 (.tmp 23) rfl b (off + j * 34) rfl (itC D (.slice kx1 kx2 kx3) (.slice vx1 vx2 vx3)) _ (uh HRG) Tryz.underlying116 rfl (by rw [xa2d (by rw [← uh HD]; exact xa0e _ _)]; exact Tryz.size_it) ?_)
   | (rw [lit_it]; refine wpList_store_row rfl 116 (.tmp 13) (.tmp 24) rfl wr.heap.size (itC D (.slice kx1 kx2 kx3) (.slice vx1 vx2 vx3)).toArray rfl rfl _ zit (uh HZ1) (by rw [xa1a (by rw [← uh HD]; exact xa0e _ _)]; exact Tryz.size_it) (by rw [xa1a (by rw [← uh HD]; exact xa0e _ _)]; rfl) (xa7n rfl rfl) ?_; rw [hW2]; simp only [Act.put])))
   have hoc:=xb2d k (.slice z1 z2 z3) (.slice y1 y2 y3) (.slice kx1 kx2 kx3) (.slice vx1 vx2 vx3) q ka u va W2 (uh HSTQ W2 (Agr.nil (uh HK2))).1 (uh HSTY W2 (Agr.nil (uh HK2))).1 (uh HSTQ W2 (Agr.nil (uh HK2))).2 (uh HSTY W2 (Agr.nil (uh HK2))).2
   rw [uh HD,uh HD0] at hoc
   refine Calls.mono hoc ?_
   clear hoc
   rintro e w4 ⟨rfl,k4⟩
   have HN4:=hide (k4.heap (uh HN2) (by simp))
   have HX4:=hide (k4.heap (uh HX2) (by simp))
   have HK4:=hide ((uh HK2).trans k4 (by simp))
   have HL4:=hide (((uh HLx).agr (uh HK12)).agr k4)
   have hsg:=xc0a (hsZ k) q ka
   rw [xb9w] at HPS
   generalize ordI (hsZ k) q ka = z at hsg ⊢
   have hle:kc (hsZ k) q ka≤0↔z≤0:=by
    constructor
    ·intro h
     rcases Int.lt_or_eq_of_le h with g | g
     ·have:=hsg.1.2 g; omega
     ·have:=hsg.2.2 g; omega
    ·intro h
     rcases Int.lt_or_eq_of_le h with g | g
     ·have:=hsg.1.1 g; omega
     ·have:=hsg.2.1 g; omega
   have heq:kc (hsZ k) q ka = 0↔z = 0:=hsg.2.symm
   have HLE:=hide hle
   have HEQ:=hide heq
   clear k4 hsg hle heq
   cases sb with
   | true =>
    by_cases hz0:z = 0
    ·have HC:=hide ((uh HEQ).2 hz0)
     subst hz0
     go_wp2_with fail
     refine ⟨⟨j + 1,_,lx,true,sl,by go_num,rfl,rfl,hlt,hide (by rw [uh HPS]; simp [uh HC]),HL4,HK4⟩,?_⟩
     simp [intOf]; omega
    ·have HC:=hide (show ¬ kc (hsZ k) q ka = 0 from fun h=>hz0 ((uh HEQ).1 h))
     have hz2:((z != 0):Bool) = true:=by rw [bne_iff_ne]; exact hz0
     obtain ⟨vo,vc,rfl⟩:=xa0h (uh HL4).own
     have hown:∀ z,(Value.slice vo lx.length vc).ownBlock = some z→W0.heap.size≤z:=fun z hz=>((uh HL4).own.lt z hz).1
     have HW5:=hide (heap_alloc_new w4 (.cells (itC D (.slice kx1 kx2 kx3) (.slice vx1 vx2 vx3)).toArray 116))
     have HK45:=hide ((Kept.refl [] w4).alloc (.cells (itC D (.slice kx1 kx2 kx3) (.slice vx1 vx2 vx3)).toArray 116))
     have HL5:=hide ((uh HL4).agr (uh HK45))
     have HK5:=hide ((uh HK4).trans (uh HK45) (by simp))
     have HRL:=hide (lit_rd (k:=k) (q:=ka) (v:=va) (kv:=(.slice kx1 kx2 kx3)) (vv:=(.slice vx1 vx2 vx3)) (by rw [uh HD]; exact uh HW5))
     have hln:=(uh HL4).pr.1
     have hbnd:=uh HBND
     clear hln hz0
     go_wp2_with (first
   | (refine wpList_load_row rfl 116 (.tmp 13) rfl wr.heap.size rfl 116 (itC D (.slice kx1 kx2 kx3) (.slice vx1 vx2 vx3)).toArray (0,0) _ (uh HN4) Tryz.underlying116 rfl (by rw [xa1a (by rw [← uh HD]; exact xa0e _ _)]; exact Tryz.size_it) ?_)
   | (refine xa1c rfl (.tmp 41) rfl (itC D (.slice kx1 kx2 kx3) (.slice vx1 vx2 vx3)) (xa2d (by rw [← uh HD]; exact xa0e _ _) _ _) rfl ?_)
   | (at_builtin; refine xa0j rfl 26 116 (.tmp 40) (.tmp 42) rfl rfl _ W0.heap.size (.agg zit) 34 80 Tryz.underlying26 Tryz.infoIt rfl (by decide) (.slice vo lx.length vc) lx.length (itR k lx (sl)).flatten (uh HL5).own (some ⟨w4.heap.size,0,none⟩) 1 1 (itR k [((.slice kx1 kx2 kx3),(.slice vx1 vx2 vx3))] [(ka,va)]) (uh HRL) xa2f (xa4i rfl rfl) (by omega) (by omega) (uh HK5).size rfl rfl ?_; intro ao7 c7 w7 HO7 HG7 HA7))
     have HS7:=hide ((uh HL5).snoc (a:=ka) (b:=va) (sty_up (uh HSTY) (uh HK5) hown) (uh HO7) (uh HG7) (uh HA7))
     have HK7:=hide ((uh HK5).grown (uh HG7) (fun z hz=>Or.inr (hown z hz)))
     clear hown hbnd
     refine ⟨⟨j + 1,.slice ao7 (lx.length + 1) c7,_,true,sl++[(ka,va)],by go_num,rfl,rfl,hlt,hide (by rw [uh HPS]; simp [uh HC]),HS7,HK7⟩,?_⟩
     simp [intOf]; omega
   | false =>
    by_cases hz0:z = 0
    ·have HC:=hide ((uh HEQ).2 hz0)
     subst hz0
     obtain ⟨vo,vc,rfl⟩:=xa0h (uh HL4).own
     have hown:∀ z,(Value.slice vo lx.length vc).ownBlock = some z→W0.heap.size≤z:=fun z hz=>((uh HL4).own.lt z hz).1
     have HW5:=hide (heap_alloc_new w4 (.cells (itC D0 (.slice z1 z2 z3) (.slice y1 y2 y3)).toArray 116))
     have HK45:=hide ((Kept.refl [] w4).alloc (.cells (itC D0 (.slice z1 z2 z3) (.slice y1 y2 y3)).toArray 116))
     have HL5:=hide ((uh HL4).agr (uh HK45))
     have HK5:=hide ((uh HK4).trans (uh HK45) (by simp))
     have HRL:=hide (lit_rd (k:=k) (q:=q) (v:=u) (kv:=(.slice z1 z2 z3)) (vv:=(.slice y1 y2 y3)) (by rw [uh HD0]; exact uh HW5))
     have hln:=(uh HL4).pr.1
     have hbnd:=uh HBND
     clear hln
     go_wp2_with (first
   | (refine wpList_load_row rfl 116 (.tmp 9) rfl w1.heap.size rfl 116 (itC D0 (.slice z1 z2 z3) (.slice y1 y2 y3)).toArray (0,0) _ (uh HX4) Tryz.underlying116 rfl (by rw [xa1a (by rw [← uh HD0]; exact xa0e _ _)]; exact Tryz.size_it) ?_)
   | (refine xa1c rfl (.tmp 35) rfl (itC D0 (.slice z1 z2 z3) (.slice y1 y2 y3)) (xa2d (by rw [← uh HD0]; exact xa0e _ _) _ _) rfl ?_)
   | (at_builtin; refine xa0j rfl 26 116 (.tmp 34) (.tmp 36) rfl rfl _ W0.heap.size (.agg zit) 34 80 Tryz.underlying26 Tryz.infoIt rfl (by decide) (.slice vo lx.length vc) lx.length (itR k lx (sl)).flatten (uh HL5).own (some ⟨w4.heap.size,0,none⟩) 1 1 (itR k [((.slice z1 z2 z3),(.slice y1 y2 y3))] [(q,u)]) (uh HRL) xa2f (xa4i rfl rfl) (by omega) (by omega) (uh HK5).size rfl rfl ?_; intro ao7 c7 w7 HO7 HG7 HA7))
     have HS7:=hide ((uh HL5).snoc (a:=q) (b:=u) (sty_up (uh HSTQ) (uh HK5) hown) (uh HO7) (uh HG7) (uh HA7))
     have HK7:=hide ((uh HK5).grown (uh HG7) (fun z hz=>Or.inr (hown z hz)))
     clear hown hbnd
     refine ⟨⟨j + 1,.slice ao7 (lx.length + 1) c7,_,true,sl++[(q,u)],by go_num,rfl,rfl,hlt,hide (by rw [uh HPS]; simp [uh HC]),HS7,HK7⟩,?_⟩
     simp [intOf]; omega
    ·have HC:=hide (show ¬ kc (hsZ k) q ka = 0 from fun h=>hz0 ((uh HEQ).1 h))
     have hz2:((z != 0):Bool) = true:=by rw [bne_iff_ne]; exact hz0
     by_cases hz1:z≤0
     ·have HC2:=hide ((uh HLE).2 hz1)
      obtain ⟨vo,vc,rfl⟩:=xa0h (uh HL4).own
      have hown:∀ z,(Value.slice vo lx.length vc).ownBlock = some z→W0.heap.size≤z:=fun z hz=>((uh HL4).own.lt z hz).1
      have HW5:=hide (heap_alloc_new w4 (.cells (itC D0 (.slice z1 z2 z3) (.slice y1 y2 y3)).toArray 116))
      have HK45:=hide ((Kept.refl [] w4).alloc (.cells (itC D0 (.slice z1 z2 z3) (.slice y1 y2 y3)).toArray 116))
      have HL5:=hide ((uh HL4).agr (uh HK45))
      have HK5:=hide ((uh HK4).trans (uh HK45) (by simp))
      have HRL:=hide (lit_rd (k:=k) (q:=q) (v:=u) (kv:=(.slice z1 z2 z3)) (vv:=(.slice y1 y2 y3)) (by rw [uh HD0]; exact uh HW5))
      have hln:=(uh HL4).pr.1
      have hbnd:=uh HBND
      have HLT:=hide (fun z hz=>((uh HLx).own.lt z hz).2)
      clear hln hz0
      go_upto_region 12 with (first
   | (refine wpList_load_row rfl 116 (.tmp 9) rfl w1.heap.size rfl 116 (itC D0 (.slice z1 z2 z3) (.slice y1 y2 y3)).toArray (0,0) _ (uh HX4) Tryz.underlying116 rfl (by rw [xa1a (by rw [← uh HD0]; exact xa0e _ _)]; exact Tryz.size_it) ?_)
   | (refine xa1c rfl (.tmp 35) rfl (itC D0 (.slice z1 z2 z3) (.slice y1 y2 y3)) (xa2d (by rw [← uh HD0]; exact xa0e _ _) _ _) rfl ?_)
   | (at_builtin; refine xa0j rfl 26 116 (.tmp 34) (.tmp 36) rfl rfl _ W0.heap.size (.agg zit) 34 80 Tryz.underlying26 Tryz.infoIt rfl (by decide) (.slice vo lx.length vc) lx.length (itR k lx (sl)).flatten (uh HL5).own (some ⟨w4.heap.size,0,none⟩) 1 1 (itR k [((.slice z1 z2 z3),(.slice y1 y2 y3))] [(q,u)]) (uh HRL) xa2f (xa4i rfl rfl) (by omega) (by omega) (uh HK5).size rfl rfl ?_; intro ao7 c7 w7 HO7 HG7 HA7))
      have HS7:=hide ((uh HL5).snoc (a:=q) (b:=u) (sty_up (uh HSTQ) (uh HK5) hown) (uh HO7) (uh HG7) (uh HA7))
      have HK7:=hide ((uh HK5).grown (uh HG7) (fun z hz=>Or.inr (hown z hz)))
      have HN7:=hide (xb4a (uh HG7) ((uh HK45).heap (uh HN4) (by simp)) (fun e=>by have h1:=uh HLT _ e; omega))
      have hlen2:lx.length + 1 = (lx++[(((.slice z1 z2 z3):Value),((.slice y1 y2 y3):Value))]).length:=by simp
      rw [hlen2] at HS7 ⊢
      have HBN2:=hide (show (lx++[(((.slice z1 z2 z3):Value),((.slice y1 y2 y3):Value))]).length≤2000000001 by rw [← hlen2]; omega)
      clear hown hlen2 HLT hbnd HO7 HG7 HA7 HL5 HK5 HRL HW5 HK45
      generalize lx++[(((.slice z1 z2 z3):Value),((.slice y1 y2 y3):Value))] = lx2 at HS7 HBN2 ⊢
      have hown:∀ z,(Value.slice ao7 lx2.length c7).ownBlock = some z→W0.heap.size≤z:=fun z hz=>((uh HS7).own.lt z hz).1
      have HW5:=hide (heap_alloc_new w7 (.cells (itC D (.slice kx1 kx2 kx3) (.slice vx1 vx2 vx3)).toArray 116))
      have HK45:=hide ((Kept.refl [] w7).alloc (.cells (itC D (.slice kx1 kx2 kx3) (.slice vx1 vx2 vx3)).toArray 116))
      have HL5:=hide ((uh HS7).agr (uh HK45))
      have HK5:=hide ((uh HK7).trans (uh HK45) (by simp))
      have HRL:=hide (lit_rd (k:=k) (q:=ka) (v:=va) (kv:=(.slice kx1 kx2 kx3)) (vv:=(.slice vx1 vx2 vx3)) (by rw [uh HD]; exact uh HW5))
      have hln:=(uh HS7).pr.1
      have hbnd:=uh HBN2
      clear hln
      go_wp2_with (first
   | (refine wpList_load_row rfl 116 (.tmp 13) rfl wr.heap.size rfl 116 (itC D (.slice kx1 kx2 kx3) (.slice vx1 vx2 vx3)).toArray (0,0) _ (uh HN7) Tryz.underlying116 rfl (by rw [xa1a (by rw [← uh HD]; exact xa0e _ _)]; exact Tryz.size_it) ?_)
   | (refine xa1c rfl (.tmp 41) rfl (itC D (.slice kx1 kx2 kx3) (.slice vx1 vx2 vx3)) (xa2d (by rw [← uh HD]; exact xa0e _ _) _ _) rfl ?_)
   | (at_builtin; refine xa0j rfl 26 116 (.tmp 40) (.tmp 42) rfl rfl _ W0.heap.size (.agg zit) 34 80 Tryz.underlying26 Tryz.infoIt rfl (by decide) (.slice ao7 lx2.length c7) lx2.length (itR k lx2 (sl++[(q,u)])).flatten (uh HL5).own (some ⟨w7.heap.size,0,none⟩) 1 1 (itR k [((.slice kx1 kx2 kx3),(.slice vx1 vx2 vx3))] [(ka,va)]) (uh HRL) xa2f (xa4i rfl rfl) (by omega) (by omega) (uh HK5).size rfl rfl ?_; intro ao8 c8 w8 HO8 HG8 HA8))
      have HS8:=hide ((uh HL5).snoc (a:=ka) (b:=va) (sty_up (uh HSTY) (uh HK5) hown) (uh HO8) (uh HG8) (uh HA8))
      have HK8:=hide ((uh HK5).grown (uh HG8) (fun z hz=>Or.inr (hown z hz)))
      clear hown hbnd
      refine ⟨⟨j + 1,.slice ao8 (lx2.length + 1) c8,_,true,sl++[(q,u)]++[(ka,va)],by go_num,rfl,rfl,hlt,hide (by rw [uh HPS]; simp [uh HC,uh HC2]),HS8,HK8⟩,?_⟩
      simp [intOf]; omega
     ·have HC2:=hide (show ¬ kc (hsZ k) q ka≤0 from fun h=>hz1 ((uh HLE).1 h))
      obtain ⟨vo,vc,rfl⟩:=xa0h (uh HL4).own
      have hown:∀ z,(Value.slice vo lx.length vc).ownBlock = some z→W0.heap.size≤z:=fun z hz=>((uh HL4).own.lt z hz).1
      have HW5:=hide (heap_alloc_new w4 (.cells (itC D (.slice kx1 kx2 kx3) (.slice vx1 vx2 vx3)).toArray 116))
      have HK45:=hide ((Kept.refl [] w4).alloc (.cells (itC D (.slice kx1 kx2 kx3) (.slice vx1 vx2 vx3)).toArray 116))
      have HL5:=hide ((uh HL4).agr (uh HK45))
      have HK5:=hide ((uh HK4).trans (uh HK45) (by simp))
      have HRL:=hide (lit_rd (k:=k) (q:=ka) (v:=va) (kv:=(.slice kx1 kx2 kx3)) (vv:=(.slice vx1 vx2 vx3)) (by rw [uh HD]; exact uh HW5))
      have hln:=(uh HL4).pr.1
      have hbnd:=uh HBND
      clear hln hz0
      go_wp2_with (first
   | (refine wpList_load_row rfl 116 (.tmp 13) rfl wr.heap.size rfl 116 (itC D (.slice kx1 kx2 kx3) (.slice vx1 vx2 vx3)).toArray (0,0) _ (uh HN4) Tryz.underlying116 rfl (by rw [xa1a (by rw [← uh HD]; exact xa0e _ _)]; exact Tryz.size_it) ?_)
   | (refine xa1c rfl (.tmp 41) rfl (itC D (.slice kx1 kx2 kx3) (.slice vx1 vx2 vx3)) (xa2d (by rw [← uh HD]; exact xa0e _ _) _ _) rfl ?_)
   | (at_builtin; refine xa0j rfl 26 116 (.tmp 40) (.tmp 42) rfl rfl _ W0.heap.size (.agg zit) 34 80 Tryz.underlying26 Tryz.infoIt rfl (by decide) (.slice vo lx.length vc) lx.length (itR k lx (sl)).flatten (uh HL5).own (some ⟨w4.heap.size,0,none⟩) 1 1 (itR k [((.slice kx1 kx2 kx3),(.slice vx1 vx2 vx3))] [(ka,va)]) (uh HRL) xa2f (xa4i rfl rfl) (by omega) (by omega) (uh HK5).size rfl rfl ?_; intro ao7 c7 w7 HO7 HG7 HA7))
      have HS7:=hide ((uh HL5).snoc (a:=ka) (b:=va) (sty_up (uh HSTY) (uh HK5) hown) (uh HO7) (uh HG7) (uh HA7))
      have HK7:=hide ((uh HK5).grown (uh HG7) (fun z hz=>Or.inr (hown z hz)))
      clear hown hbnd
      refine ⟨⟨j + 1,.slice ao7 (lx.length + 1) c7,_,false,sl++[(ka,va)],by go_num,rfl,rfl,hlt,hide (by rw [uh HPS]; simp [uh HC,uh HC2]),HS7,HK7⟩,?_⟩
      simp [intOf]; omega
  ·have hje:j = n:=by omega
   subst hje
   have hlt':¬ (j:Int) < j:=by omega
   have HAL:=hide (show putF q u (sb,sl) = R by rw [← uh HPI]; exact uh HSR)
   cases sb with
   | true =>
    go_wp2
    go_ret
    have h9:=(uh HLx).at_ (uh HT0)
    have h8:sl = R:=uh HAL
    rw [h8] at h9
    exact ⟨_,rfl,h9,(uh HKW).trans (uh HKr) (by simp)⟩
   | false =>
    have HLw:=HLx
    have HKw:=HKr
    obtain ⟨vo,vc,rfl⟩:=xa0h (uh HLw).own
    have hown:∀ z,(Value.slice vo lx.length vc).ownBlock = some z→W0.heap.size≤z:=fun z hz=>((uh HLw).own.lt z hz).1
    have HW5:=hide (heap_alloc_new wr (.cells (itC D0 (.slice z1 z2 z3) (.slice y1 y2 y3)).toArray 116))
    have HK45:=hide ((Kept.refl [] wr).alloc (.cells (itC D0 (.slice z1 z2 z3) (.slice y1 y2 y3)).toArray 116))
    have HL5:=hide ((uh HLw).agr (uh HK45))
    have HK5:=hide ((uh HKw).trans (uh HK45) (by simp))
    have HRL:=hide (lit_rd (k:=k) (q:=q) (v:=u) (kv:=(.slice z1 z2 z3)) (vv:=(.slice y1 y2 y3)) (by rw [uh HD0]; exact uh HW5))
    have hln:=(uh HLw).pr.1
    have hbnd:lx.length≤2000000000:=uh HBND
    clear hln
    go_wp2_with (first
   | (refine wpList_load_row rfl 116 (.tmp 9) rfl w1.heap.size rfl 116 (itC D0 (.slice z1 z2 z3) (.slice y1 y2 y3)).toArray (0,0) _ (uh HX) Tryz.underlying116 rfl (by rw [xa1a (by rw [← uh HD0]; exact xa0e _ _)]; exact Tryz.size_it) ?_)
   | (refine xa1c rfl (.tmp 48) rfl (itC D0 (.slice z1 z2 z3) (.slice y1 y2 y3)) (xa2d (by rw [← uh HD0]; exact xa0e _ _) _ _) rfl ?_)
   | (at_builtin; refine xa0j rfl 26 116 (.tmp 47) (.tmp 49) rfl rfl _ W0.heap.size (.agg zit) 34 80 Tryz.underlying26 Tryz.infoIt rfl (by decide) (.slice vo lx.length vc) lx.length (itR k lx (sl)).flatten (uh HL5).own (some ⟨wr.heap.size,0,none⟩) 1 1 (itR k [((.slice z1 z2 z3),(.slice y1 y2 y3))] [(q,u)]) (uh HRL) xa2f (xa4i rfl rfl) (by omega) (by omega) (uh HK5).size rfl rfl ?_; intro ao7 c7 w7 HO7 HG7 HA7))
    have HS7:=hide ((uh HL5).snoc (a:=q) (b:=u) (sty_up (uh HSTQ) (uh HK5) hown) (uh HO7) (uh HG7) (uh HA7))
    have HK7:=hide ((uh HK5).grown (uh HG7) (fun z hz=>Or.inr (hown z hz)))
    go_ret
    have h9:=(uh HS7).at_ (uh HT0)
    have h8:sl++[(q,u)] = R:=uh HAL
    rw [h8] at h9
    exact ⟨_,rfl,h9,(uh HKW).trans (uh HK7) (by simp)⟩
end
theorem xc2r {H:Hs} {k v:List Nat} {L:Prs} (h:Srt H L) (q:List Nat):getP q (insP H k v L) = if q = k then some v else getP q L:=by
 by_cases e:q = k
 ·subst e
  rw [if_pos rfl,xa3c (h.ins q v)]
  exact (xa2l h _).2 (Or.inl rfl)
 ·rw [if_neg e]
  cases hg:getP q L with
  | none =>
   rw [xa2a] at hg ⊢
   intro y hy e2
   rcases (xa2l h y).1 hy with rfl | ⟨hm,_⟩
   ·exact e e2.symm
   ·exact hg y hm e2
  | some u =>
   rw [xa3c h] at hg
   rw [xa3c (h.ins k v)]
   exact (xa2l h _).2 (Or.inr ⟨hg,e⟩)
theorem xc0e {H:Hs} {k:List Nat} {L:Prs} (h:Srt H L) (q:List Nat):getP q (delP k L) = if q = k then none else getP q L:=by
 by_cases e:q = k
 ·subst e
  rw [if_pos rfl,xa2a]
  exact fun y hy=>((xa5h y).1 hy).2
 ·rw [if_neg e]
  cases hg:getP q L with
  | none =>
   rw [xa2a] at hg ⊢
   exact fun y hy=>hg y ((xa5h y).1 hy).1
  | some u =>
   rw [xa3c h] at hg
   rw [xa3c (h.del k)]
   exact (xa5h _).2 ⟨hg,e⟩
theorem xc1p {H:Hs} {L M:Prs} (hL:Srt H L) (hM:Srt H M) (h:∀ q,getP q L = getP q M):L = M :=
 xb7n hL hM (fun y=>by rw [show y = (y.1,y.2) from rfl,← xa3c hL,← xa3c hM,h])
def insAll (H:Hs) (L:Prs) (ps:Prs):Prs:=ps.foldl (fun M p=>insP H p.1 p.2 M) L
def delAll (L:Prs) (ps:Prs):Prs:=ps.foldl (fun M p=>delP p.1 M) L
theorem Srt.insAll {H:Hs}:∀ (ps:Prs) {L:Prs},Srt H L→Srt H (insAll H L ps)
 | [],_,h=>h
 | p :: ps,_,h=>Srt.insAll ps (h.ins p.1 p.2)
theorem Srt.delAll {H:Hs}:∀ (ps:Prs) {L:Prs},Srt H L→Srt H (delAll L ps)
 | [],_,h=>h
 | p :: ps,_,h=>Srt.delAll ps (h.del p.1)
theorem xa5i (H:Hs) (L ps:Prs) (p:List Nat × List Nat):insAll H L (ps++[p]) = insP H p.1 p.2 (insAll H L ps):=by
 unfold insAll; rw [List.foldl_append]; rfl
theorem xb0q (L ps:Prs) (p:List Nat × List Nat):delAll L (ps++[p]) = delP p.1 (delAll L ps):=by
 unfold delAll; rw [List.foldl_append]; rfl
theorem xb7e (H:Hs):Srt H []:=List.Pairwise.nil
def lv (q:List Nat):Prs→Option (List Nat)
 | []=>none
 | p :: ps=>(lv q ps).or (if p.1 = q then some p.2 else none)
theorem xb6m (q:List Nat) (p:List Nat × List Nat) (ps:Prs):lv q (p :: ps) = (lv q ps).or (if p.1 = q then some p.2 else none):=rfl
theorem lv_app (q:List Nat):∀ (a b:Prs),lv q (a++b) = (lv q b).or (lv q a)
 | [],b=>by simp [lv]
 | p :: a,b=>by simp only [List.cons_append,lv,lv_app q a b,Option.or_assoc]
theorem xa6x {H:Hs} (q:List Nat):∀ (ps:Prs) {L:Prs},Srt H L→getP q (insAll H L ps) = (lv q ps).or (getP q L)
 | [],_,_=>by simp [insAll,lv]
 | p :: ps,L,h=>by
  show getP q (insAll H (insP H p.1 p.2 L) ps) = _
  rw [xa6x q ps (h.ins p.1 p.2),xc2r h]
  rw [xb6m,Option.or_assoc]
  congr 1
  by_cases e:q = p.1
  ·rw [if_pos e,if_pos e.symm]; rfl
  ·rw [if_neg e,if_neg (fun g=>e g.symm)]; rfl
theorem xa4f {H:Hs} (q:List Nat):∀ (ps:Prs) {L:Prs},Srt H L→getP q (delAll L ps) = if ∃ p∈ps,p.1 = q then none else getP q L
 | [],_,_=>by simp [delAll]
 | p :: ps,L,h=>by
  show getP q (delAll (delP p.1 L) ps) = _
  rw [xa4f q ps (h.del p.1),xc0e h]
  by_cases e:∃ x∈ps,x.1 = q
  ·rw [if_pos e,if_pos (by obtain ⟨x,hx,g⟩:=e; exact ⟨x,List.mem_cons_of_mem _ hx,g⟩)]
  ·rw [if_neg e]
   by_cases g:q = p.1
   ·rw [if_pos g,if_pos ⟨p,by simp,g.symm⟩]
   ·rw [if_neg g,if_neg]
    rintro ⟨x,hx,e2⟩
    rcases List.mem_cons.1 hx with rfl | hx
    ·exact g e2.symm
    ·exact e ⟨x,hx,e2⟩
section
open Go.RowKit Go.BigFrame
theorem ins_le (H:Hs) (q v:List Nat):∀ L:Prs,(insP H q v L).length≤L.length + 1
 | []=>by simp [insP]
 | y :: L=>by
  have ih:=ins_le H q v L
  rw [xa2g]
  split
  ·simp
  ·split
   ·simp
   ·simp only [List.length_cons]; omega
theorem xa3h (H:Hs):∀ (ps L:Prs),(insAll H L ps).length≤L.length + ps.length
 | [],L=>by simp [insAll]
 | p :: ps,L=>by
  have h1:=xa3h H ps (insP H p.1 p.2 L)
  have h2:=ins_le H p.1 p.2 L
  show (insAll H (insP H p.1 p.2 L) ps).length≤_
  rw [List.length_cons]; omega
end
section
open Go Go.RowKit Go.BigFrame

end
section
open Go.RowKit Go.BigFrame
theorem xa5j {ops:Array Oper} {rest:List Oper} {o:Oper} {a:Act} {w:World} {Q:Exit→Act→World→Prop} (hw:Region.wanted o (yielded ops a.tmps) = true) (x y:Operand) (r:TypeId) (ho:o.op = .binOp .eql 50 x y r) (d e:List Nat) (hd:d.length = 32) (he:e.length = 32) (hx:a.eval x = .agg (brow d)) (hy:a.eval y = .agg (brow e))
  (h:wpList Tryz.prog ops Q rest (a.put o.dst (.bool (decide (d = e)))) w):wpList Tryz.prog ops Q (o :: rest) a w :=
 wpList_want hw fun _ hK=>by
  unfold Oper.wp
  rw [xa9t 50 x y r ho (brow d) (brow e) hx hy w _ (by kernel_rfl) (dig_eq w d e hd he)]
  exact hK _ _ h
theorem xb5i (k:Nat) (hk:1≤k∧k≤32) (L:Prs):(rootP k L).length = 32:=by
 unfold rootP
 split
 ·exact xa0z k (hash [5]) (by omega) (xa1s [5])
 ·exact (nod_dg k 64 L).1

def shortP (ps:Prs):Prs:=ps.filter (fun p=>fitP p.1 p.2)
theorem xb2m (ps:Prs) (e:List Nat × List Nat):shortP (ps++[e]) = shortP ps++(if fitP e.1 e.2 = true then [e] else []):=by
 unfold shortP
 rw [List.filter_append,List.filter_cons]
 by_cases h:fitP e.1 e.2 = true
 ·rw [if_pos h,if_pos h]; rfl
 ·rw [if_neg h,if_neg h]; rfl
theorem xb8b (ps:Prs):(shortP ps).length≤ps.length:=List.length_filter_le _ _
def madP (ps:Prs) (j:Nat):Prs:=shortP (ps.take (min j 80))
theorem xb0j (ps:Prs):madP ps 0 = []:=by simp [madP,shortP]
theorem xc1x {ps:Prs} {j:Nat} (h:j < ps.length) (h8:j < 80):madP ps (j + 1) = madP ps j++(if fitP (ps.getD j ([],[])).1 (ps.getD j ([],[])).2 = true then [ps.getD j ([],[])] else []):=by
 unfold madP
 rw [Nat.min_eq_left (by omega),Nat.min_eq_left (by omega),List.take_succ_eq_append_getElem h,xb2m,List.getD_eq_getElem?_getD,List.getElem?_eq_getElem h]; rfl
theorem xb9a {ps:Prs} {j:Nat} (h8:80≤j):madP ps (j + 1) = madP ps j:=by
 unfold madP
 rw [Nat.min_eq_right (by omega),Nat.min_eq_right (by omega)]
theorem xb7f (ps:Prs) (j:Nat):(madP ps j).length≤80:=by
 unfold madP
 refine Nat.le_trans (xb8b _) ?_
 rw [List.length_take]; omega
def madL (k:Nat) (ps:Prs):Prs:=insAll (hsZ k) [] (madP ps ps.length)
theorem xb6u (k:Nat) (ps:Prs):(madL k ps).length≤80:=by
 have h:=xa3h (hsZ k) (madP ps ps.length) []
 have h2:=xb7f ps ps.length
 unfold madL
 simp at h
 omega
theorem xa9b (k:Nat) (ps:Prs):Srt (hsZ k) (madL k ps):=(xb7e _).insAll _
set_option maxHeartbeats 4000000 in
theorem xb8v (z:Int) (pv:Value) (w:World) (hz:widthB z = false) :
  Calls Tryz.prog 10 #[.int .i64 z,pv] w fun e w'=>e = .returned (.tuple #[.pointer none,.slice none 0 0])∧Kept [] w w':=by
 go_enter Tryz.func10,Tryz.ntmps10
 go_wp2_with fail
 refine Calls.mono (xc2j z w hz) ?_
 rintro e w1 ⟨rfl,k1⟩
 have HK1:=hide k1
 clear k1
 go_wp2_with fail
 go_ret2
 exact ⟨rfl,uh HK1⟩
set_option maxHeartbeats 8000000 in
theorem xa7z (S T:Nat→Prop) (k:Nat) (hk:1≤k∧k≤32) (pv:Value) (ps:Prs) (w:World) (hP:RdK w pv ps) (hl:ps.length≤100000000) (hS:∀ y,w.heap.size≤y→S y) (hT:∀ y,w.heap.size≤y→T y) (hTb:Tabs w) :
  Calls Tryz.prog 10 #[.int .i64 k,pv] w fun e w'=>∃ m' l',e = .returned (.tuple #[m',l'])∧MapAt S k w' m' (madL k ps)∧IAt T k w' l' (madL k ps)∧Kept [] w w':=by
 obtain ⟨ao,n,c,ks,vs,rfl,hn,hc1,hc2,hrd,hcell⟩:=hP
 have HN:=hide hn
 rw [hn] at hl
 have HRD:=hide hrd
 have HCE:=hide hcell
 clear hn hrd hcell
 have HS:=hide hS
 have HT:=hide hT
 have HTb:=hide hTb
 clear hS hT hTb
 go_enter Tryz.func10,Tryz.ntmps10
 go_wp2_with fail
 refine Calls.mono (xc0p S k w hk (uh HS)) ?_
 rintro e w1 ⟨m1,rfl,hm1,k1⟩
 obtain ⟨g1,rfl⟩:=xa3u hm1
 have HM1:=hide hm1
 have HK1:=hide k1
 clear hm1 k1
 go_wp2_with fail
 go_loopw [6,8,26] (fun t6 t8 t26 wr=>∃ (j g:Nat) (v:Value),t26 = .int .i64 j∧t6 = .pointer (some ⟨g,0,none⟩)∧t8 = v∧j≤n∧Hid (MapAt S k wr (.pointer (some ⟨g,0,none⟩)) (insAll (hsZ k) [] (madP ps j)))∧Hid (IAt T k wr v (insAll (hsZ k) [] (madP ps j)))∧Hid (Kept [] w wr)) (fun _ _ t _=>n - (intOf t).toNat)
 case atStart=>exact ⟨0,g1,_,rfl,rfl,rfl,Nat.zero_le _,hide (by rw [xb0j]; exact uh HM1),hide (by rw [xb0j]; exact IAt.nil _ _ _),HK1⟩
 case round =>
  clear HM1 HK1
  obtain ⟨j,g,v,rfl,rfl,rfl,hj,HMx,HIx,HKr⟩:=hrel
  by_cases hlt:j < n
  ·have hlt':(j:Int) < n:=by omega
   have hjL:j < ps.length:=by have:=uh HN; omega
   obtain ⟨b,off,rfl,hcl⟩:=uh HCE (by omega)
   obtain ⟨hx1,hx2⟩:=hcl j hlt
   obtain ⟨hr1,hr2⟩:=uh HRD j hlt
   have HSNOC:=hide (fun h8=>xc1x hjL h8)
   have HSAME:=hide (fun h8=>xb9a (ps:=ps) (j:=j) h8)
   have hmle:=xb7f ps j
   generalize ks.getD j undef = kx at hx1 hr1
   generalize vs.getD j undef = vx at hx2 hr2
   generalize ps.getD j ([],[]) = ej at hr1 hr2 HSNOC
   obtain ⟨ka,va⟩:=ej
   have HR1:=hide hr1
   have HR2:=hide hr2
   obtain ⟨x1,x2,x3,rfl,_⟩:=id hr1
   obtain ⟨y1,y2,y3,rfl,_⟩:=id hr2
   have hm1:=(uh HKr).cell hx1 (by simp)
   have hm2:=(uh HKr).cell hx2 (by simp)
   have HRG:=hide (show wr.rangeAt b (off + j * 2) [.slice x1 x2 x3,.slice y1 y2 y3] from fun i u hi=>by
    match i,hi with
    | 0,hi=>rw [Nat.add_zero,hm1]; exact hi
    | 1,hi=>rw [hm2]; exact hi)
   have HP2:=hide (heap_alloc_new wr (.cells #[.slice x1 x2 x3,.slice y1 y2 y3] 32))
   have HK2:=hide ((Kept.refl [] wr).alloc (.cells #[.slice x1 x2 x3,.slice y1 y2 y3] 32))
   clear hx1 hx2 hr1 hr2 hm1 hm2 hcl
   go_upto_region 8 with (refine wpList_load_mid rfl 32 (.tmp 29) rfl b (off + j * 2) rfl [.slice x1 x2 x3,.slice y1 y2 y3] _ (uh HRG) Tryz.underlying32 rfl Tryz.size_pair ?_)
   try simp only [Act.put]
   generalize wr.alloc (.cells #[.slice x1 x2 x3,.slice y1 y2 y3] 32) = W2 at HP2 HK2 ⊢
   have hcp:=xa0k [] [.slice x1 x2 x3,.slice y1 y2 y3] [] (uh HP2) rfl
   have hQ1:=(show W2.cell? ⟨wr.heap.size,0,none⟩ = some (.slice x1 x2 x3) from hcp 0 _ rfl)
   have hQ2:=(show W2.cell? ⟨wr.heap.size,1,none⟩ = some (.slice y1 y2 y3) from hcp 1 _ rfl)
   have HC1:=hide hQ1
   have HC2:=hide hQ2
   have HK02:=hide ((uh HKr).trans (uh HK2) (by simp))
   have hil:=xa3h (hsZ k) (madP ps j) []
   have HLN:=hide (show (insAll (hsZ k) [] (madP ps j)).length≤80 by simp at hil; omega)
   have HSR:=hide (show Srt (hsZ k) (insAll (hsZ k) [] (madP ps j)) from (xb7e _).insAll _)
   have HMX2:=hide ((uh HMx).agr (Agr.nil (uh HK2)))
   have HIX2:=hide ((uh HIx).agr (Agr.nil (uh HK2)))
   have HQ2:=hide ((uh HR1).old (uh HK02) (by simp))
   have HV2:=hide ((uh HR2).old (uh HK02) (by simp))
   have HINS:=hide (fun p=>xa5i (hsZ k) [] (madP ps j) p)
   clear hcp hil hmle HMx HIx
   obtain ⟨L,hL⟩:∃ L,insAll (hsZ k) [] (madP ps j) = L:=⟨_,rfl⟩
   rw [hL] at HLN HSR HMX2 HIX2 HINS
   have HL:=hide hL
   clear hL
   by_cases h8:80≤j
   ·have h81:(80:Int)≤j:=by omega
    have h82:¬ (j:Int) < 80:=by omega
    have HE:=hide (uh HSAME h8)
    go_wp2_with fail
    refine ⟨⟨j + 1,g,_,by go_num,rfl,rfl,hlt,hide (by rw [uh HE,uh HL]; exact uh HMX2),hide (by rw [uh HE,uh HL]; exact uh HIX2),HK02⟩,?_⟩
    simp [intOf]; omega
   ·have h81:¬ (80:Int)≤j:=by omega
    have h82:(j:Int) < 80:=by omega
    have HE:=hide (uh HSNOC (by omega))
    have HE:Hid (madP ps (j + 1) = madP ps j++(if fitP ka va = true then [(ka,va)] else [])):=HE
    have HCP:=hide (xa6q _ _ ka va W2 (uh HQ2) (uh HV2))
    clear HSNOC HSAME
    go_wp2_with fail
    refine Calls.mono (uh HCP) ?_
    rintro e w7 ⟨rfl,h7⟩
    rw [h7]
    clear h7 HCP
    cases hFP:fitP ka va with
    | false =>
     rw [hFP] at HE
     go_wp2_with fail
     refine ⟨⟨j + 1,g,_,by go_num,rfl,rfl,hlt,hide (by rw [uh HE,if_neg (by decide),List.append_nil,uh HL]; exact uh HMX2),hide (by rw [uh HE,if_neg (by decide),List.append_nil,uh HL]; exact uh HIX2),HK02⟩,?_⟩
     simp [intOf]; omega
    | true =>
     rw [hFP] at HE
     have hfp:ka.length≤64∧va.length≤256:=of_decide_eq_true hFP
     have HFP:=hide hfp
     have HE2:=hide (show insAll (hsZ k) [] (madP ps (j + 1)) = insP (hsZ k) ka va L by rw [uh HE,if_pos rfl]; exact uh HINS (ka,va))
     clear hfp hFP
     go_wp2_with fail
     refine Calls.mono (xb6q S k _ _ _ L ka va W2 (uh HMX2) (uh HQ2) (uh HV2) (uh HFP).1 (uh HFP).2 (by have:=uh HLN; omega) (fun y hy=>uh HS y (by have:=(uh HK02).size; omega)) ((uh HTb).k (uh HK02))) ?_
     rintro e w4 ⟨m4,rfl,hm4,k4⟩
     obtain ⟨g4,rfl⟩:=xa3u hm4
     have HM4:=hide hm4
     have HK4:=hide ((uh HK02).trans k4 (by simp))
     have HI4:=hide ((uh HIX2).agr (Agr.nil k4))
     have hQ3:=k4.cell (uh HC1) (by simp)
     have hQ4:=k4.cell (uh HC2) (by simp)
     have HQ4:=hide ((uh HQ2).old k4 (by simp))
     have HV4:=hide ((uh HV2).old k4 (by simp))
     clear hm4 k4 hQ1 hQ2
     go_wp2_with fail
     refine Calls.mono (xb3j T k _ _ _ ka va L w4 hk (uh HI4) (uh HSR) (uh HQ4) (uh HV4) (by have:=(uh HFP).1; omega) (by have:=uh HLN; omega) (fun y hy=>uh HT y (by have:=(uh HK4).size; omega))) ?_
     rintro e w5 ⟨v5,rfl,hi5,k5⟩
     have HI5:=hide hi5
     have HM5:=hide ((uh HM4).agr (Agr.nil k5))
     have HK5:=hide ((uh HK4).trans k5 (by simp))
     clear hi5 k5 hQ3 hQ4
     go_wp2_with fail
     refine ⟨⟨j + 1,g4,v5,by go_num,rfl,rfl,hlt,hide (by rw [uh HE2]; exact uh HM5),hide (by rw [uh HE2]; exact uh HI5),HK5⟩,?_⟩
     simp [intOf]; omega
  ·have hje:j = n:=by omega
   have hlt':¬ (j:Int) < n:=by omega
   have hjn:j = ps.length:=by have:=uh HN; omega
   have HM9:=hide (show MapAt S k wr (.pointer (some ⟨g,0,none⟩)) (madL k ps) by unfold madL; rw [← hjn]; exact uh HMx)
   have HI9:=hide (show IAt T k wr _ (madL k ps) by unfold madL; rw [← hjn]; exact uh HIx)
   clear hjn hje
   go_wp2
   go_ret2
   exact ⟨_,_,rfl,uh HM9,uh HI9,uh HKr⟩
end
theorem xb2p (q:List Nat):(hsZ 4).kd q = cutL 4 (hash (2 :: q)):=xa4q (k:=4) (by omega) _
theorem kdA:(hsZ 4).kd [97] = [245,252,181,161]++List.replicate 28 0:=by
 rw [xb2p]
 unfold hash hashW
 have e:[2,97]++pad [2,97].length = [2,97,128]++List.replicate 60 0++[16]:=by decide
 rw [e,xa1l (by decide),xa0q (by decide),← evC_eq]
 decide +kernel
theorem kdB:(hsZ 4).kd [98] = [149,93,106,213]++List.replicate 28 0:=by
 rw [xb2p]
 unfold hash hashW
 have e:[2,98]++pad [2,98].length = [2,98,128]++List.replicate 60 0++[16]:=by decide
 rw [e,xa1l (by decide),xa0q (by decide),← evC_eq]
 decide +kernel
theorem kdC:(hsZ 4).kd [99] = [103,240,8,163]++List.replicate 28 0:=by
 rw [xb2p]
 unfold hash hashW
 have e:[2,99]++pad [2,99].length = [2,99,128]++List.replicate 60 0++[16]:=by decide
 rw [e,xa1l (by decide),xa0q (by decide),← evC_eq]
 decide +kernel
def awP:Prs:=[([97],[49]),([98],[]),([99],[])]
def awM:Prs:=[([99],[]),([98],[]),([97],[49])]
theorem kcBA:kc (hsZ 4) [98] [97] = -1:=by unfold kc; rw [kdA,kdB]; decide
theorem kcCB:kc (hsZ 4) [99] [98] = -1:=by unfold kc; rw [kdB,kdC]; decide
theorem aw_mad:madL 4 awP = awM:=by
 have e:madP awP awP.length = awP:=by decide
 unfold madL
 rw [e]
 show insP (hsZ 4) [99] [] (insP (hsZ 4) [98] [] [([97],[49])]) = _
 have h1:insP (hsZ 4) [98] [] [([97],[49])] = [([98],[]),([97],[49])]:=by
  unfold insP
  rw [if_pos (by rw [kcBA]; decide)]
 rw [h1]
 unfold insP
 rw [if_pos (by rw [kcCB]; decide)]; rfl
theorem aw_dA:dgt ((hsZ 4).kd [97]) 0 = 15:=by rw [kdA]; decide
theorem aw_dB:dgt ((hsZ 4).kd [98]) 0 = 9:=by rw [kdB]; decide
theorem aw_dC:dgt ((hsZ 4).kd [99]) 0 = 6:=by rw [kdC]; decide
theorem aw_ch (i:Nat):ch (hsZ 4) 0 i awM = (if 6 = i then [([99],[])] else [])++((if 9 = i then [([98],[])] else [])++(if 15 = i then [([97],[49])] else [])):=by
 unfold ch awM
 simp only [List.filter_cons,List.filter_nil,aw_dA,aw_dB,aw_dC,decide_eq_true_eq]
 by_cases h1:6 = i <;> by_cases h2:9 = i <;> by_cases h3:15 = i <;> simp [h1,h2,h3] <;> omega
theorem aw_way:WayM 4 [97] awM 1:=⟨fun i hi=>by
 have h0:i = 0:=by omega
 subst h0
 show sgl (hsZ 4) awM = false
 cases h:sgl (hsZ 4) awM with
 | false=>rfl
 | true =>
  have h2:=xa1e.1 h ([97],[49]) (by simp [awM]) ([98],[]) (by simp [awM])
  have h3:(hsZ 4).kd [97] = (hsZ 4).kd [98]:=h2
  rw [kdA,kdB] at h3
  exact absurd h3 (by decide),by
 show sgl (hsZ 4) (ch (hsZ 4) 0 (dgt ((hsZ 4).kd [97]) 0) awM) = true
 rw [aw_dA,aw_ch]
 refine xa1e.2 (fun x hx y hy=>?_)
 simp at hx hy
 rw [hx,hy]⟩
theorem aw_bm:bm (hsZ 4) 0 awM = 33344:=(bm_ext (by omega) (fun i hi=>by
 rw [aw_ch]
 have h:i = 0∨i = 1∨i = 2∨i = 3∨i = 4∨i = 5∨i = 6∨i = 7∨i = 8∨i = 9∨i = 10∨i = 11∨i = 12∨i = 13∨i = 14∨i = 15:=by omega
 rcases h with rfl | rfl | rfl | rfl | rfl | rfl | rfl | rfl | rfl | rfl | rfl | rfl | rfl | rfl | rfl | rfl <;> decide)).symm
theorem aw_dn:dnL (hsZ 4) [97] awM 1 = [([97],[49])]:=by
 show ch (hsZ 4) 0 (dgt ((hsZ 4).kd [97]) 0) awM = _
 rw [aw_dA,aw_ch]; rfl
theorem aw_dig:digN (prfL 4 [97] awM 1) = 2:=by
 have h1:digN (prfL 4 [97] awM 1) = (prf 4 [97] awM 0).2.length:=by simp [digN,prfL]
 rw [h1]
 have hl:(stp 4 [97] awM 0).2.length = 3:=by
  unfold stp
  simp only
  rw [List.length_map,xa1q,dnL,aw_bm]; decide
 have hb:(stp 4 [97] awM 0).1 = 33344:=by
  unfold stp
  simp only
  rw [dnL,aw_bm]
 unfold prf wod
 simp only
 rw [hb,aw_dA,if_pos (by decide)]
 have hc:cnt 33344 15 = 2:=by decide
 rw [hc,List.length_eraseIdx_of_lt (by omega),hl]
theorem xb7b {w:World} {sv pv:Value} (h:ProofP 4 w [97] awM sv pv):RdS w sv (prfL 4 [97] awM 1)∧RdK w pv [([97],[49])]:=by
 obtain ⟨m,h1,h2,h3⟩:=h
 have e:=xb1z h3 aw_way
 subst e
 rw [aw_dn] at h2
 exact ⟨h1,h2⟩
section
open Go.RowKit Go.BigFrame
theorem xc2f {w:World} {g:Nat} (bs:List Nat) {cs:Array Value} {fr:Nat × Nat} (h:w.heap[g]? = some (.cells cs 5 fr)) (hc:cs = (bs.map u8).toArray) (hb:∀ x∈bs,x < 256) (n:Nat) (hn:bs.length = n) (hl:n≤140737488355328):Rd w (.slice (some ⟨g,0,none⟩) n n) bs:=by
 refine ⟨_,n,n,rfl,hn,Nat.le_refl _,⟨by omega,hl⟩,fun h=>by simp at h,hb,fun hp=>⟨g,0,rfl,fun i hi=>?_⟩⟩
 subst hc
 have hi':i < bs.length:=by omega
 rw [cell_of_row _ _ _ _ _ _ h,Nat.zero_add,List.getElem?_toArray,List.getElem?_map,List.getD_eq_getElem?_getD,List.getElem?_eq_getElem hi']
 rfl
abbrev bt (x:Int):Obj:=.cells #[.int .u8 x] 5 (1,2)
theorem bt_rd (w:World) (x:Nat) (hx:x < 256):Rd (w.alloc (bt x)) (.slice (some ⟨w.heap.size,0,none⟩) 1 1) [x]:=xc2f (n:=1) [x] (heap_alloc_new w (bt x)) rfl (by intro y hy; simp at hy; omega) rfl (by decide)
set_option maxHeartbeats 8000000 in
theorem xb0o (w:World) (hTb:Tabs w) :
  Calls Tryz.prog 9 #[] w fun e w'=>e = .returned (.bool true)∧Kept [] w w':=by
 have HTb:=hide hTb
 obtain ⟨S,hS⟩:∃ S:Nat→Prop,S = fun _=>True:=⟨_,rfl⟩
 have HS:=hide (show ∀ (n y:Nat),n≤y→S y from fun _ _ _=>by rw [hS]; trivial)
 clear hTb hS
 have kc:=fun (w:World) (C:Array Value) (n c:Nat)=>Lib.run_convert_bytes_const (P:=Tryz.prog) w 30 5 C n c Tryz.underlying30 Tryz.underlying5
 have kc1:=fun (w:World) (o:Obj) (C:Array Value) (n c:Nat)=>Go.Joins.run_convert_bytes_const_at (P:=Tryz.prog) (w.alloc o) 30 5 C n c (w.heap.size + 1) (by simp) Tryz.underlying30 Tryz.underlying5
 have kc2:=fun (w:World) (o o':Obj) (C:Array Value) (n c:Nat)=>Go.Joins.run_convert_bytes_const_at (P:=Tryz.prog) ((w.alloc o).alloc o') 30 5 C n c (w.heap.size + 1 + 1) (by simp) Tryz.underlying30 Tryz.underlying5
 have kc3:=fun (w:World) (o o' o2:Obj) (C:Array Value) (n c:Nat)=>Go.Joins.run_convert_bytes_const_at (P:=Tryz.prog) (((w.alloc o).alloc o').alloc o2) 30 5 C n c (w.heap.size + 1 + 1 + 1) (by simp) Tryz.underlying30 Tryz.underlying5
 go_enter Tryz.func9,Tryz.ntmps9
 have z1:(w.alloc (bt 97)).heap.size = w.heap.size + 1:=by simp
 have z2:((w.alloc (bt 97)).alloc (bt 49)).heap.size = w.heap.size + 1 + 1:=by simp
 have z3:(((w.alloc (bt 97)).alloc (bt 49)).alloc (bt 98)).heap.size = w.heap.size + 1 + 1 + 1:=by simp
 have z4:((((w.alloc (bt 97)).alloc (bt 49)).alloc (bt 98)).alloc (bt 99)).heap.size = w.heap.size + 1 + 1 + 1 + 1:=by simp
 have ka:=(Kept.refl [] w).alloc (bt 97)
 have kb:=(Kept.refl [] (w.alloc (bt 97))).alloc (bt 49)
 have kd:=(Kept.refl [] ((w.alloc (bt 97)).alloc (bt 49))).alloc (bt 98)
 have kf:=(Kept.refl [] (((w.alloc (bt 97)).alloc (bt 49)).alloc (bt 98))).alloc (bt 99)
 obtain ⟨RW,hRW⟩:∃ RW:Obj,RW = .cells #[.slice (some ⟨w.heap.size,0,none⟩) 1 1,.slice (some ⟨w.heap.size + 1,0,none⟩) 1 1,.slice (some ⟨w.heap.size + 1 + 1,0,none⟩) 1 1,.slice none 0 0,.slice (some ⟨w.heap.size + 1 + 1 + 1,0,none⟩) 1 1,.slice none 0 0] 32:=⟨_,rfl⟩
 have ke:=(Kept.refl [] ((((w.alloc (bt 97)).alloc (bt 49)).alloc (bt 98)).alloc (bt 99))).alloc RW
 have r1:=((((bt_rd w 97 (by decide)).old kb (by simp)).old kd (by simp)).old kf (by simp)).old ke (by simp)
 have r2:=(((bt_rd (w.alloc (bt 97)) 49 (by decide)).old kd (by simp)).old kf (by simp)).old ke (by simp)
 have r3:=((bt_rd ((w.alloc (bt 97)).alloc (bt 49)) 98 (by decide)).old kf (by simp)).old ke (by simp)
 have r4:=(bt_rd (((w.alloc (bt 97)).alloc (bt 49)).alloc (bt 98)) 99 (by decide)).old ke (by simp)
 rw [z1] at r2
 rw [z2] at r3
 rw [z3] at r4
 have hx:=heap_alloc_new ((((w.alloc (bt 97)).alloc (bt 49)).alloc (bt 98)).alloc (bt 99)) RW
 rw [z4] at hx
 have kall:=(((ka.trans kb (by simp)).trans kd (by simp)).trans kf (by simp)).trans ke (by simp)
 rw [hRW] at r1 r2 r3 r4 hx kall
 obtain ⟨X,hX⟩:∃ X,((((w.alloc (bt 97)).alloc (bt 49)).alloc (bt 98)).alloc (bt 99)).alloc (.cells #[.slice (some ⟨w.heap.size,0,none⟩) 1 1,.slice (some ⟨w.heap.size + 1,0,none⟩) 1 1,.slice (some ⟨w.heap.size + 1 + 1,0,none⟩) 1 1,.slice none 0 0,.slice (some ⟨w.heap.size + 1 + 1 + 1,0,none⟩) 1 1,.slice none 0 0] 32) = X:=⟨_,rfl⟩
 rw [hX] at r1 r2 r3 r4 hx kall
 have hrk:RdK X (.slice (some ⟨w.heap.size + 1 + 1 + 1 + 1,0,none⟩) 3 3) awP:=⟨_,3,3,[.slice (some ⟨w.heap.size,0,none⟩) 1 1,.slice (some ⟨w.heap.size + 1 + 1,0,none⟩) 1 1,.slice (some ⟨w.heap.size + 1 + 1 + 1,0,none⟩) 1 1],[.slice (some ⟨w.heap.size + 1,0,none⟩) 1 1,.slice none 0 0,.slice none 0 0],rfl,rfl,by omega,by omega,fun i hi=>by
   match i,hi with
   | 0,_=>exact ⟨r1,r2⟩
   | 1,_=>exact ⟨r3,Rd.nil _⟩
   | 2,_=>exact ⟨r4,Rd.nil _⟩,fun _=>⟨_,0,rfl,fun i hi=>by
   match i,hi with
   | 0,_=>constructor <;> (rw [cell_of_row _ _ _ _ _ _ hx]; rfl)
   | 1,_=>constructor <;> (rw [cell_of_row _ _ _ _ _ _ hx]; rfl)
   | 2,_=>constructor <;> (rw [cell_of_row _ _ _ _ _ _ hx]; rfl)⟩⟩
 have HRK:=hide hrk
 have HKX:=hide kall
 clear z1 z2 z3 z4 ka kb kd ke kf r1 r2 r3 r4 hx kall hrk hRW
 go_wp2_with fail
 try rw [hX]
 clear hX kc1 kc2 kc3
 refine Calls.mono (xa7z S S 4 (by omega) _ awP X (uh HRK) (by decide) (uh HS _) (uh HS _) ((uh HTb).k (uh HKX))) ?_
 rintro e w1 ⟨m1,l1,rfl,hm1,hi1,k1⟩
 rw [aw_mad] at hm1 hi1
 obtain ⟨g1,rfl⟩:=xa3u hm1
 have HM1:=hide hm1
 have HI1:=hide hi1
 have HK1:=hide ((uh HKX).trans k1 (by simp))
 clear hm1 hi1 k1
 go_wp2_with fail
 have kb:=(Kept.refl [] w1).alloc (bt 97)
 have HKB:=hide ((uh HK1).trans kb (by simp))
 have HIB:=hide ((uh HI1).agr (Agr.nil kb))
 refine Calls.mono (xa6m S 4 _ _ awM [97] _ ((uh HM1).agr (Agr.nil kb)) (bt_rd w1 97 (by decide)) (by decide) ((uh HTb).k (uh HKB))) ?_
 rintro e w2 ⟨sv,pv,rfl,hp2,k2⟩
 have hpp:=hp2.p
 obtain ⟨hrs,hrk⟩:=xb7b hpp
 obtain ⟨so,sn,sc,_,rfl,_⟩:=id hrs
 obtain ⟨po,pn,pc,_,_,rfl,_⟩:=id hrk
 have HK2:=hide ((uh HKB).trans k2 (by simp))
 have HI2:=hide ((uh HIB).agr (Agr.nil k2))
 have hka:=(Kept.refl [] w2).alloc (.cells #[.slice so sn sc,.slice po pn pc] 35)
 have HA:=hide (heap_alloc_new w2 (.cells #[.slice so sn sc,.slice po pn pc] 35))
 have HI3:=hide ((uh HI2).agr (Agr.nil hka))
 have HP3:=hide (hrs.old hka)
 have HQ3:=hide (hrk.old hka)
 have HK3:=hide ((uh HK2).trans hka (by simp))
 clear hp2 k2 kb hpp hrs hrk hka HIB HKB HK1 HI1 HM1 HKX HRK
 obtain ⟨w3,hw3⟩:∃ w3,w2.alloc (.cells #[.slice so sn sc,.slice po pn pc] 35) = w3:=⟨_,rfl⟩
 rw [hw3] at HA HI3 HP3 HQ3 HK3
 go_upto_region 5 with fail
 try rw [hw3]
 clear hw3
 go_wp2_with (refine wpList_load_row rfl 35 (.tmp 3) rfl w2.heap.size rfl 35 #[.slice so sn sc,.slice po pn pc] (0,0) _ (uh HA) Tryz.underlying35 rfl Tryz.size_kp ?_)
 refine Calls.mono (xb5r _ _ (prfL 4 [97] awM 1) [([97],[49])] w3 (uh HP3) (uh HQ3) (by rw [xb9k]; decide) (fun s hs=>by obtain ⟨i,_,rfl⟩:=List.mem_map.1 hs; exact Nat.le_trans (xc1r _ _ _ _) (by decide))) ?_
 rintro e w4 ⟨rfl,k4⟩
 rw [aw_dig]
 have hl1:[(([97]:List Nat),([49]:List Nat))].length = 1:=rfl
 rw [hl1]
 have HK4:=hide ((uh HK3).trans k4 (by simp))
 have HI4:=hide ((uh HI3).agr (Agr.nil k4))
 have HP4:=hide ((uh HP3).old k4)
 have HQ4:=hide ((uh HQ3).old k4)
 have HA4:=hide (xa0k [] [.slice so sn sc,.slice po pn pc] [] (k4.heap (uh HA) (by simp)) rfl:w4.rangeAt w2.heap.size 0 [.slice so sn sc,.slice po pn pc])
 clear k4 hl1
 go_upto_region 6 with fail
 have hd4:=(Kept.refl [] w4).drew
 refine lp_aw (by kernel_rfl) (by kernel_rfl) (fun W=>Kept [] w4 W) hd4 ?_
 refine LinG.rd (by rfl) (.int .i64 0) (fun W hW=>by go_simp) (by simp only [Act.put,sa1,sa2,sa3]; rfl) ?_
 refine LinG.rd (by rfl) (.bool true) (fun W hW=>by go_simp) (by simp only [Act.put,sa1,sa2,sa3]; rfl) ?_
 refine LinG.rd (by rfl) (.bool true) (fun W hW=>by go_simp) (by simp only [Act.put,sa1,sa2,sa3]; rfl) ?_
 refine LinG.ld (by rfl) 35 (.tmp 3) rfl w2.heap.size 0 rfl [.slice so sn sc,.slice po pn pc] _ (fun W hW=>hW.rng (uh HA4) (by simp)) Tryz.underlying35 rfl Tryz.size_kp (by simp only [Act.put,sa1,sa2,sa3]; rfl) ?_
 refine LinG.rd (by rfl) l1 (fun W hW=>by go_simp) (by simp only [Act.put,sa1,sa2,sa3]; rfl) ?_
 obtain ⟨W4,hW4⟩:∃ W4,w4.drew = W4:=⟨_,rfl⟩
 rw [hW4] at hd4 ⊢
 have hk1:=(Kept.refl [] W4).alloc (.cells #[.int .u8 97] 5)
 have hk2:=(Kept.refl [] W4).alloc (bt 97)
 have hk42:=hd4.trans hk2 (by simp)
 refine LinG.fin (ChG.op (by rfl) (.slice (some ⟨W4.heap.size,0,none⟩) 1 1) (by go_simp) (hd4.trans hk1 (by simp)) (by simp only [Act.put,sa1,sa2,sa3]; rfl) ?_)
 refine ChG.op (by rfl) (.slice (some ⟨W4.heap.size,0,none⟩) 1 1) (by have h9:=kc W4 #[.int .u8 97] 1 1; go_simp) hk42 (by simp only [Act.put,sa1,sa2,sa3]; rfl) ?_
 refine ChG.call (by rfl) rfl Tryz.call33 [.int .i64 4,l1,.slice (some ⟨W4.heap.size,0,none⟩) 1 1] rfl (xb2q S 4 (by omega) _ _ [97] awM (W4.alloc (bt 97)) ((uh HI4).agr (Agr.nil hk42)) (bt_rd W4 97 (by decide)) (by decide) (by rw [← aw_mad]; exact xa9b 4 awP) (by intro p hp; simp [awM] at hp; rcases hp with rfl | rfl | rfl <;> decide) (by decide) (uh HS _)) ?_
 rintro e w5 ⟨sv5,pv5,rfl,hp5,k5⟩
 obtain ⟨hrs5,hrk5⟩:=xb7b hp5
 have hk45:=hk42.trans k5 (by simp)
 refine ⟨_,rfl,hk45,?_⟩
 simp only [Act.put,sa1,sa2,sa3]
 refine ChG.call (by rfl) rfl Tryz.call14 [.agg #[.slice so sn sc,.slice po pn pc],.agg #[sv5,pv5]] rfl (xa5r _ _ _ _ _ _ _ _ w5 ((uh HP4).old hk45) ((uh HQ4).old hk45) hrs5 hrk5) ?_
 rintro e w6 ⟨rfl,k6⟩
 have hk46:=hk45.trans k6 (by simp)
 rw [decide_eq_true rfl,decide_eq_true rfl]
 refine ⟨_,rfl,hk46,?_⟩
 simp only [Act.put,sa1,sa2,sa3]
 refine ChG.fin ⟨hk46,?_⟩
 refine LinG.rd (by rfl) (.bool true) (fun W hW=>by go_simp) (by simp only [Act.put,sa1,sa2,sa3]; rfl) ?_
 refine LinG.rd (by rfl) (.bool true) (fun W hW=>by go_simp) (by simp only [Act.put,sa1,sa2,sa3]; rfl) ?_
 refine LinG.rd (by rfl) (.int .i64 2) (fun W hW=>by go_simp) (by simp only [Act.put,sa1,sa2,sa3]; rfl) ?_
 refine LinG.rd (by rfl) (.bool true) (fun W hW=>by go_simp) (by simp only [Act.put,sa1,sa2,sa3]; rfl) ?_
 refine LinG.rd (by rfl) (.bool true) (fun W hW=>by go_simp) (by simp only [Act.put,sa1,sa2,sa3]; rfl) ?_
 refine LinG.rd (by rfl) (.bool true) (fun W hW=>by go_simp) (by simp only [Act.put,sa1,sa2,sa3]; rfl) ?_
 refine LinG.rd (by rfl) (.int .i64 1) (fun W hW=>by go_simp) (by simp only [Act.put,sa1,sa2,sa3]; rfl) ?_
 refine LinG.rd (by rfl) (.bool true) (fun W hW=>by go_simp) (by simp only [Act.put,sa1,sa2,sa3]; rfl) ?_
 refine LinG.rd (by rfl) (.bool true) (fun W hW=>by go_simp) (by simp only [Act.put,sa1,sa2,sa3]; rfl) ?_
 refine LinG.rd (by rfl) (.bool true) (fun W hW=>by go_simp) (by simp only [Act.put,sa1,sa2,sa3]; rfl) ?_
 refine LinG.fin ?_
 have HK6:=hide ((uh HK4).trans hk46 (by simp))
 clear hk46 k6 hk45 k5 hk42 hk2 hk1 hd4
 go_wp2_with fail
 go_ret
 exact ⟨rfl,uh HK6⟩
theorem xa9a:∀ ps:Prs,2 * ps.length≤kwt ps
 | []=>by simp [kwt]
 | p :: ps=>by
  have ih:=xa9a ps
  have e:kwt (p :: ps) = p.1.length + p.2.length + 2 + kwt ps:=by simp [kwt]
  rw [e,List.length_cons]; omega
theorem xb1c {z:Int} (h:widthB z = true):∃ k:Nat,z = k∧1≤k∧k≤32:=by
 have h1:1≤z∧z≤32:=by simpa [widthB] using h
 exact ⟨z.toNat,by omega,by omega,by omega⟩
theorem xb6r (w:World):RdS w (.slice none 0 0) []:=⟨none,0,0,[],rfl,rfl,Nat.le_refl _,by omega,fun i hi=>by omega,fun h=>by omega⟩
theorem xb7a (w:World):RdK w (.slice none 0 0) []:=⟨none,0,0,[],[],rfl,rfl,Nat.le_refl _,by omega,fun i hi=>by omega,fun h=>by omega⟩
theorem ProofP.one {k:Nat} {w:World} {q:List Nat} {L:Prs} {sv pv tv qv:Value} (h:ProofP k w q L sv pv) (g:ProofP k w q L tv qv):∃ ss ps,RdS w sv ss∧RdK w pv ps∧RdS w tv ss∧RdK w qv ps:=by
 obtain ⟨m,h1,h2,h3⟩:=h
 obtain ⟨n,g1,g2,g3⟩:=g
 have e:=xb1z h3 g3
 subst e
 exact ⟨_,_,h1,h2,g1,g2⟩
set_option maxHeartbeats 4000000 in
theorem xb2x (z:Int) (w:World) :
  Calls Tryz.prog 11 #[.int .i64 z] w fun e w'=>e = .returned (.bool (widthB z))∧w' = w:=by
 by_cases h1:1≤z
 ·by_cases h2:z≤32
  ·have hw:widthB z = true:=by simp [widthB,h1,h2]
   rw [hw]
   have h3:z ≥ 1:=h1
   go_enter Tryz.func11,Tryz.ntmps11
   go_wp2_with fail
   go_ret
   exact ⟨rfl,rfl⟩
  ·have hw:widthB z = false:=by simp [widthB,h1,h2]
   rw [hw]
   have h3:z ≥ 1:=h1
   go_enter Tryz.func11,Tryz.ntmps11
   go_wp2_with fail
   go_ret
   exact ⟨rfl,rfl⟩
 ·have hw:widthB z = false:=by simp [widthB,h1]
  rw [hw]
  have h3:¬ z ≥ 1:=h1
  go_enter Tryz.func11,Tryz.ntmps11
  go_wp2_with fail
  go_ret
  exact ⟨rfl,rfl⟩
end
theorem lv_rev (q:List Nat):∀ L:Prs,lv q L.reverse = getP q L
 | []=>rfl
 | p :: L=>by
  have ih:=lv_rev q L
  have e1:lv q [p] = if p.1 = q then some p.2 else none:=by rw [xb6m]; rfl
  rw [List.reverse_cons,lv_app,ih,e1,getP]
  by_cases h:p.1 = q
  ·rw [if_pos h,if_pos h]; rfl
  ·rw [if_neg h,if_neg h]; rfl
theorem xc1z {H:Hs} {N:Prs} (hN:Srt H N) (L:Prs) (q:List Nat):getP q (insAll H N L.reverse) = (getP q L).or (getP q N):=by
 rw [xa6x q _ hN,lv_rev]
theorem xb9e {L:Prs} {i:Nat} (hi:i < L.length):L.reverse.take (i + 1) = L.reverse.take i++[L.getD (L.length - 1 - i) ([],[])]:=by
 rw [List.take_succ_eq_append_getElem (by simpa using hi),List.getElem_reverse,List.getD_eq_getElem?_getD,List.getElem?_eq_getElem (by omega)]; rfl
def dlt (L M:Prs) (j:Nat):Prs:=delAll M ((M.take j).filter (fun p=>!(fnd p.1 L)))
theorem xb8l (L M:Prs):dlt L M 0 = M:=rfl
theorem xb8q {L M:Prs} {j:Nat} (hj:j < M.length):dlt L M (j + 1) = if fnd (M.getD j ([],[])).1 L = true then dlt L M j else delP (M.getD j ([],[])).1 (dlt L M j):=by
 unfold dlt
 rw [List.take_succ_eq_append_getElem hj,List.filter_append,List.getD_eq_getElem?_getD,List.getElem?_eq_getElem hj,Option.getD_some,List.filter_cons]
 by_cases h:fnd (M[j]).1 L = true
 ·rw [if_pos h,if_neg (by rw [h]; decide),List.filter_nil,List.append_nil]
 ·have h2:fnd (M[j]).1 L = false:=by simpa using h
  rw [if_neg h,if_pos (by rw [h2]; rfl),List.filter_nil,xb0q]
theorem xc0x {H:Hs} {L M:Prs} (hM:Srt H M) (j:Nat):Srt H (dlt L M j):=hM.delAll _
theorem get_in {q v:List Nat}:∀ {M:Prs},getP q M = some v→∃ p∈M,p.1 = q
 | [],h=>by simp [getP] at h
 | p :: M,h=>by
  rw [getP] at h
  by_cases e:p.1 = q
  ·exact ⟨p,by simp,e⟩
  ·rw [if_neg e] at h
   obtain ⟨x,hx,e2⟩:=get_in h
   exact ⟨x,by simp [hx],e2⟩
theorem xb6w {q:List Nat}:∀ {M:Prs},(∃ p∈M,p.1 = q)→(getP q M).isSome = true
 | [],⟨p,hp,_⟩=>by simp at hp
 | p :: M,h=>by
  rw [getP]
  by_cases e:p.1 = q
  ·rw [if_pos e]; rfl
  ·rw [if_neg e]
   obtain ⟨x,hx,e2⟩:=h
   rcases List.mem_cons.1 hx with h1 | h1
   ·subst h1; exact absurd e2 e
   ·exact xb6w ⟨x,h1,e2⟩
theorem xa8e {q:List Nat} {L:Prs}:fnd q L = (getP q L).isSome:=by unfold fnd; cases (getP q L).isSome <;> rfl
theorem srt_ne {H:Hs} {M:Prs} (hM:Srt H M) {i j:Nat} (hi:i < j) (hj:j < M.length):(M[i]'(by omega)).1≠(M[j]).1:=fun e=>by
 have h:=List.pairwise_iff_getElem.1 hM i j (by omega) hj hi
 rw [e] at h
 rw [xa1x] at h
 omega
theorem xc0u {H:Hs} {L M:Prs} (hM:Srt H M) {j:Nat} (hj:j < M.length):fnd (M.getD j ([],[])).1 (dlt L M j) = true:=by
 rw [List.getD_eq_getElem?_getD,List.getElem?_eq_getElem hj,Option.getD_some]
 unfold dlt
 rw [xa8e,xa4f _ _ hM,if_neg ?_]
 ·exact xb6w ⟨_,List.getElem_mem hj,rfl⟩
 ·rintro ⟨p,hp,e⟩
  have h1:=(List.mem_filter.1 hp).1
  obtain ⟨i,hi,rfl⟩:=List.getElem_of_mem h1
  rw [List.length_take] at hi
  rw [List.getElem_take] at e
  exact srt_ne hM (show i < j by omega) hj e
theorem xc1b {H:Hs} {L M N:Prs} (hM:Srt H M) (hL:Srt H L) (h:∀ q,getP q M = (getP q L).or (getP q N)):dlt L M M.length = L:=by
 refine xc1p (xc0x hM _) hL (fun q=>?_)
 unfold dlt
 rw [List.take_length,xa4f _ _ hM]
 cases hl:getP q L with
 | some v =>
  rw [if_neg ?_]
  ·rw [h,hl]; rfl
  ·rintro ⟨p,hp,e⟩
   have h1:=(List.mem_filter.1 hp).2
   rw [e,xa8e,hl] at h1
   cases h1
 | none =>
  by_cases g:∃ p∈M.filter (fun p=>!(fnd p.1 L)),p.1 = q
  ·rw [if_pos g]
  ·rw [if_neg g]
   cases hm:getP q M with
   | none=>rfl
   | some v =>
    obtain ⟨p,hp,e⟩:=get_in hm
    exact absurd ⟨p,List.mem_filter.2 ⟨hp,by rw [e,xa8e,hl]; rfl⟩,e⟩ g
section
open Go.RowKit Go.BigFrame
set_option maxHeartbeats 8000000 in
theorem hproofOneSet_walk (z:Int) (pv:Value) (ps:Prs) (ov:Value) (os:Prs) (kv:Value) (q:List Nat) (w:World) (hz:-9223372036854775808≤z∧z≤9223372036854775807) (hP:RdK w pv ps) (hx:kwt ps≤1048576) (hO:RdK w ov os) (hy:kwt os≤1048576) (hku:Rd w kv q) (hql:q.length≤1048576) (hT:Tabs w) :
  Calls Tryz.prog 8 #[.int .i64 z,pv,ov,kv] w fun e w'=>e = .returned (.bool true)∧Below w.heap.size w w':=by
 have hpl:=xa9a ps
 have hpl2:ps.length≤1000000:=by omega
 have hol:=xa9a os
 have hol2:os.length≤1000000:=by omega
 obtain ⟨S,hS⟩:∃ S:Nat→Prop,S = fun _=>True:=⟨_,rfl⟩
 have HS:=hide (show ∀ (n y:Nat),n≤y→S y from fun _ _ _=>by rw [hS]; trivial)
 have HT:=hide hT
 have HP:=hide hP
 have HO:=hide hO
 have HPL:=hide hpl2
 have HOL:=hide hol2
 have HKU:=hide hku
 obtain ⟨ao,n,c,_,_,rfl,_⟩:=id hP
 obtain ⟨oo,on,oc,_,_,rfl,_⟩:=id hO
 obtain ⟨ka,kn,kc,rfl,_⟩:=id hku
 clear hT hS hpl hpl2 hol hol2 hx hy hP hO hku hql
 go_enter Tryz.func8,Tryz.ntmps8
 go_wp2_with fail
 refine Calls.mono (xb0o w (uh HT)) ?_
 rintro e w1 ⟨rfl,k1⟩
 have HK1:=hide k1
 clear k1
 go_wp2_with fail
 cases hw:widthB z with
 | false =>
  refine Calls.mono (xb8v z _ w1 hw) ?_
  rintro e w2 ⟨rfl,k2⟩
  have HK2:=hide ((uh HK1).trans k2 (by simp))
  clear k2
  go_wp2_with fail
  refine Calls.mono (xb2x z w2) ?_
  rintro e w3 ⟨rfl,h3⟩
  rw [h3,hw]
  clear h3
  go_wp2_with fail
  go_ret
  exact ⟨rfl,(uh HK2).below (Nat.le_refl _) (by simp)⟩
 | true =>
  obtain ⟨k,rfl,hk⟩:=xb1c hw
  clear hw hz
  refine Calls.mono (xa7z S S k hk _ ps w1 ((uh HP).old (uh HK1)) (by have:=uh HPL; omega) (uh HS _) (uh HS _) ((uh HT).k (uh HK1))) ?_
  rintro e w3 ⟨m3,l3,rfl,hm3,hi3,k3⟩
  obtain ⟨g,rfl⟩:=xa3u hm3
  have HM3:=hide hm3
  have HI3:=hide hi3
  have HK3:=hide ((uh HK1).trans k3 (by simp))
  have HSR:=hide (xa9b k ps)
  have HLE:=hide (xb6u k ps)
  have HFI:=hide hm3.fit
  clear hm3 hi3 k3
  generalize madL k ps = L at HM3 HI3 HSR HLE HFI
  go_wp2_with fail
  refine Calls.mono (xa7z S S k hk _ os w3 ((uh HO).old (uh HK3)) (by have:=uh HOL; omega) (uh HS _) (uh HS _) ((uh HT).k (uh HK3))) ?_
  rintro e w4 ⟨m4,l4,rfl,hm4,_,k4⟩
  obtain ⟨g4,rfl⟩:=xa3u hm4
  have HN4:=hide hm4
  have HNS:=hide (xa9b k os)
  have HNL:=hide (xb6u k os)
  have HM4:=hide ((uh HM3).agr (Agr.nil k4))
  have HI4:=hide ((uh HI3).agr (Agr.nil k4))
  have HK4:=hide ((uh HK3).trans k4 (by simp))
  clear hm4 k4 HM3 HI3 HK3
  generalize madL k os = N0 at HN4 HNS HNL
  go_wp2_with fail
  refine Calls.mono (xa4m S k _ L w4 (uh HI4) (by have:=uh HLE; omega)) ?_
  rintro e w5 ⟨v5,rfl,r5,k5⟩
  obtain ⟨ra,rn,rc,rks,rvs,rfl,hrn,_,hrc2,hrrd,hrce⟩:=r5
  have HRN:=hide hrn
  have HRD:=hide hrrd
  have HCE:=hide hrce
  have HN5:=hide ((uh HN4).agr (Agr.nil k5))
  have HM5:=hide ((uh HM4).agr (Agr.nil k5))
  have HK5:=hide ((uh HK4).trans k5 (by simp))
  have hrn8:rn≤80:=by have:=uh HLE; omega
  clear k5 hrn hrrd hrce HN4 HM4 HI4 HK4
  go_wp2_with fail
  go_loopw [11,55] (fun t11 t55 wr=>∃ (i gx:Nat),t55 = .int .i64 i∧t11 = .pointer (some ⟨gx,0,none⟩)∧i≤rn∧Hid (MapAt S k wr (.pointer (some ⟨gx,0,none⟩)) (insAll (hsZ k) N0 (L.reverse.take i)))∧Hid (Kept [] w5 wr)) (fun _ t _=>rn - (intOf t).toNat)
  case atStart=>exact ⟨0,g4,rfl,rfl,Nat.zero_le _,HN5,hide (Kept.refl _ _)⟩
  case round =>
   obtain ⟨i,gx,rfl,rfl,hi,HNx,HKr⟩:=hrel
   have HKw:=hide ((uh HK5).trans (uh HKr) (by simp))
   by_cases hlt:i < rn
   ·have hlt':(i:Int) < rn:=by omega
    have hiL:i < L.length:=by have:=uh HRN; omega
    obtain ⟨r,hr⟩:∃ r,r = rn - 1 - i:=⟨_,rfl⟩
    have hri:(rn:Int) - 1 - i = (r:Int):=by omega
    have hrl:r < rn:=by omega
    have hrl2:(r:Int) < rn:=by omega
    obtain ⟨b,off,rfl,hcl⟩:=uh HCE (by omega)
    obtain ⟨hx1,hx2⟩:=hcl r hrl
    obtain ⟨hr1,hr2⟩:=uh HRD r hrl
    have HTK:=hide (show L.reverse.take (i + 1) = L.reverse.take i++[L.getD r ([],[])] by rw [xb9e hiL,hr,uh HRN])
    have hrL:r < L.length:=by have:=uh HRN; omega
    have hf:=uh HFI (L.getD r ([],[])) (by rw [List.getD_eq_getElem?_getD,List.getElem?_eq_getElem hrL]; exact List.getElem_mem hrL)
    generalize rks.getD r undef = kx at hx1 hr1
    generalize rvs.getD r undef = vx at hx2 hr2
    generalize L.getD r ([],[]) = ej at hr1 hr2 HTK hf
    obtain ⟨qa,va⟩:=ej
    have HF:=hide hf
    have HR1:=hide hr1
    have HR2:=hide hr2
    obtain ⟨x1,x2,x3,rfl,_⟩:=id hr1
    obtain ⟨y1,y2,y3,rfl,_⟩:=id hr2
    have hm1:=(uh HKr).cell hx1 (by simp)
    have hm2:=(uh HKr).cell hx2 (by simp)
    have HRG:=hide (show wr.rangeAt b (off + r * 2) [.slice x1 x2 x3,.slice y1 y2 y3] from fun i u hi=>by
     match i,hi with
     | 0,hi=>rw [Nat.add_zero,hm1]; exact hi
     | 1,hi=>rw [hm2]; exact hi)
    have HP2:=hide (heap_alloc_new wr (.cells #[.slice x1 x2 x3,.slice y1 y2 y3] 32))
    have HK2:=hide ((Kept.refl [] wr).alloc (.cells #[.slice x1 x2 x3,.slice y1 y2 y3] 32))
    clear hx1 hx2 hr1 hr2 hm1 hm2 hcl hf hr
    go_upto_region 14 with (refine wpList_load_mid rfl 32 (.tmp 64) rfl b (off + r * 2) rfl [.slice x1 x2 x3,.slice y1 y2 y3] _ (uh HRG) Tryz.underlying32 rfl Tryz.size_pair ?_)
    try simp only [Act.put]
    generalize wr.alloc (.cells #[.slice x1 x2 x3,.slice y1 y2 y3] 32) = W2 at HP2 HK2 ⊢
    have hcp:=xa0k [] [.slice x1 x2 x3,.slice y1 y2 y3] [] (uh HP2) rfl
    have hQ1:=(show W2.cell? ⟨wr.heap.size,0,none⟩ = some (.slice x1 x2 x3) from hcp 0 _ rfl)
    have hQ2:=(show W2.cell? ⟨wr.heap.size,1,none⟩ = some (.slice y1 y2 y3) from hcp 1 _ rfl)
    have HKr2:=hide ((uh HKr).trans (uh HK2) (by simp))
    have hil:=xa3h (hsZ k) (L.reverse.take i) N0
    have htl:(L.reverse.take i).length≤80:=by rw [List.length_take,List.length_reverse]; have:=uh HLE; omega
    have HLN:=hide (show (insAll (hsZ k) N0 (L.reverse.take i)).length < 1000000000 by have:=uh HNL; omega)
    have HINS:=hide (show insAll (hsZ k) N0 (L.reverse.take (i + 1)) = insP (hsZ k) qa va (insAll (hsZ k) N0 (L.reverse.take i)) by rw [uh HTK,xa5i])
    clear hcp hil htl
    go_wp2_with fail
    refine Calls.mono (xb6q S k _ _ _ _ qa va W2 ((uh HNx).agr (Agr.nil (uh HK2))) ((uh HR1).old (uh HKr2) (by simp)) ((uh HR2).old (uh HKr2) (by simp)) (uh HF).1 (uh HF).2 (uh HLN) (uh HS _) ((uh HT).k ((uh HK5).trans (uh HKr2) (by simp)))) ?_
    rintro e w6 ⟨m6,rfl,hm6,k6⟩
    obtain ⟨g6,rfl⟩:=xa3u hm6
    have HM6:=hide hm6
    have HK6:=hide ((uh HKr2).trans k6 (by simp))
    clear hm6 k6 hQ1 hQ2
    go_wp2_with fail
    refine ⟨⟨i + 1,g6,by go_num,rfl,hlt,hide (by rw [uh HINS]; exact uh HM6),HK6⟩,?_⟩
    simp [intOf]; omega
   ·have hie:i = rn:=by omega
    subst hie
    have hlt':¬ (i:Int) < i:=by omega
    have HALL:=hide (show L.reverse.take i = L.reverse from List.take_of_length_le (by rw [List.length_reverse]; have:=uh HRN; omega))
    rw [uh HALL] at HNx
    have HGT:=hide (xc1z (uh HNS) L)
    have HMS:=hide (show Srt (hsZ k) (insAll (hsZ k) N0 L.reverse) from (uh HNS).insAll _)
    obtain ⟨M,hM⟩:∃ M,insAll (hsZ k) N0 L.reverse = M:=⟨_,rfl⟩
    have HML:=hide (show M.length≤1000000 by
     rw [← hM]
     have h1:=xa3h (hsZ k) L.reverse N0
     rw [List.length_reverse] at h1
     have h2:=uh HNL
     have h3:=uh HLE
     omega)
    rw [hM] at HNx HGT HMS
    have HDA:=hide (xc1b (uh HMS) (uh HSR) (uh HGT))
    have HMr:=hide ((uh HM5).agr (Agr.nil (uh HKr)))
    have HFM:=hide (uh HNx).fit
    clear hM HALL HGT HRD HCE HM5 HN5 HKr
    go_wp2_with fail
    refine Calls.mono (xb4m S k _ M wr (uh HNx)) ?_
    rintro e w6 ⟨v6,l6,rfl,ly6,k6⟩
    have hrk6:=ly6.rdK
    have HNy:=hide ((uh HNx).agr (Agr.nil k6))
    have HM6:=hide ((uh HMr).agr (Agr.nil k6))
    have HK6:=hide ((uh HKw).trans k6 (by simp))
    obtain ⟨fa,fn,fc,fks,fvs,rfl,hfn,_,hfc2,hfrd,hfce⟩:=hrk6
    have HFN:=hide hfn
    have HFD:=hide hfrd
    have HFC:=hide hfce
    have hfl:fn≤1000000:=by have:=uh HML; omega
    clear ly6 k6 hfn hfrd hfce HNx HMr HKw
    go_wp2_with fail
    go_loopw [11,86] (fun t11 t86 wr=>∃ (j gx:Nat),t86 = .int .i64 j∧t11 = .pointer (some ⟨gx,0,none⟩)∧j≤fn∧Hid (MapAt S k wr (.pointer (some ⟨gx,0,none⟩)) (dlt L M j))∧Hid (Kept [] w6 wr)) (fun _ t _=>fn - (intOf t).toNat)
    case atStart=>exact ⟨0,_,rfl,rfl,Nat.zero_le _,hide (by rw [xb8l]; exact uh HNy),hide (Kept.refl _ _)⟩
    case round =>
     obtain ⟨j,gx,rfl,rfl,hj,HNx,HKr⟩:=hrel
     have HKw:=hide ((uh HK6).trans (uh HKr) (by simp))
     by_cases hlt:j < fn
     ·have hlt2:(j:Int) < fn:=by omega
      have hjM:j < M.length:=by have:=uh HFN; omega
      obtain ⟨b,off,rfl,hcl⟩:=uh HFC (by omega)
      obtain ⟨hx1,hx2⟩:=hcl j hlt
      obtain ⟨hr1,hr2⟩:=uh HFD j hlt
      have HDS:=hide (xb8q (L:=L) hjM)
      have HDF:=hide (xc0u (L:=L) (uh HMS) hjM)
      have hf:=uh HFM (M.getD j ([],[])) (by rw [List.getD_eq_getElem?_getD,List.getElem?_eq_getElem hjM]; exact List.getElem_mem hjM)
      generalize fks.getD j undef = kx at hx1 hr1
      generalize fvs.getD j undef = vx at hx2 hr2
      generalize M.getD j ([],[]) = ej at hr1 hr2 HDS HDF hf
      obtain ⟨qa,va⟩:=ej
      have HF:=hide hf
      have HR1:=hide hr1
      obtain ⟨x1,x2,x3,rfl,_⟩:=id hr1
      obtain ⟨y1,y2,y3,rfl,_⟩:=id hr2
      have hm1:=(uh HKr).cell hx1 (by simp)
      have hm2:=(uh HKr).cell hx2 (by simp)
      have HRG:=hide (show wr.rangeAt b (off + j * 2) [.slice x1 x2 x3,.slice y1 y2 y3] from fun i u hi=>by
       match i,hi with
       | 0,hi=>rw [Nat.add_zero,hm1]; exact hi
       | 1,hi=>rw [hm2]; exact hi)
      have HP2:=hide (heap_alloc_new wr (.cells #[.slice x1 x2 x3,.slice y1 y2 y3] 32))
      have HK2:=hide ((Kept.refl [] wr).alloc (.cells #[.slice x1 x2 x3,.slice y1 y2 y3] 32))
      clear hx1 hx2 hr1 hr2 hm1 hm2 hcl hf
      go_upto_region 22 with (refine wpList_load_mid rfl 32 (.tmp 88) rfl b (off + j * 2) rfl [.slice x1 x2 x3,.slice y1 y2 y3] _ (uh HRG) Tryz.underlying32 rfl Tryz.size_pair ?_)
      try simp only [Act.put]
      generalize wr.alloc (.cells #[.slice x1 x2 x3,.slice y1 y2 y3] 32) = W2 at HP2 HK2 ⊢
      have hcp:=xa0k [] [.slice x1 x2 x3,.slice y1 y2 y3] [] (uh HP2) rfl
      have hQ1:=(show W2.cell? ⟨wr.heap.size,0,none⟩ = some (.slice x1 x2 x3) from hcp 0 _ rfl)
      have HC1:=hide hQ1
      have HKr2:=hide ((uh HKr).trans (uh HK2) (by simp))
      clear hcp
      go_wp2_with fail
      refine Calls.mono (xc0g S k _ _ L qa W2 ((uh HM6).agr (Agr.nil (uh HKr2))) ((uh HR1).old (uh HKr2) (by simp)) (uh HF).1 ((uh HT).k ((uh HK6).trans (uh HKr2) (by simp)))) ?_
      rintro e w7 ⟨v7,rfl,_,_,k7⟩
      have HK7:=hide ((uh HKr2).trans k7 (by simp))
      have HN7:=hide (((uh HNx).agr (Agr.nil (uh HK2))).agr (Agr.nil k7))
      have hQ2:=k7.cell (uh HC1) (by simp)
      clear k7 hQ1
      have HDS:Hid (dlt L M (j + 1) = if fnd qa L = true then dlt L M j else delP qa (dlt L M j)):=HDS
      cases hfn:fnd qa L with
      | true =>
       have HD2:=hide (show dlt L M (j + 1) = dlt L M j by rw [uh HDS,if_pos hfn])
       clear hfn
       go_wp2_with fail
       refine ⟨⟨j + 1,gx,by go_num,rfl,hlt,hide (by rw [uh HD2]; exact uh HN7),HK7⟩,?_⟩
       simp [intOf]; omega
      | false =>
       have HD2:=hide (show dlt L M (j + 1) = delP qa (dlt L M j) by rw [uh HDS,if_neg (by rw [hfn]; decide)])
       clear hfn
       go_wp2_with fail
       refine Calls.mono (xb3k S k _ _ _ qa w7 (uh HN7) ((uh HR1).old (uh HK7) (by simp)) (uh HF).1 (uh HS _) ((uh HT).k ((uh HK6).trans (uh HK7) (by simp)))) ?_
       rintro e w8 ⟨m8,rfl,hm8,k8⟩
       rw [show fnd qa (dlt L M j) = true from uh HDF]
       obtain ⟨g8,rfl⟩:=xa3u hm8
       have HM8:=hide hm8
       have HK8:=hide ((uh HK7).trans k8 (by simp))
       clear hm8 k8 hQ2
       go_wp2_with fail
       refine ⟨⟨j + 1,g8,by go_num,rfl,hlt,hide (by rw [uh HD2]; exact uh HM8),HK8⟩,?_⟩
       simp [intOf]; omega
     ·have hje:j = fn:=by omega
      have hlt2:¬ (j:Int) < fn:=by omega
      have HNL2:=hide (show MapAt S k wr (.pointer (some ⟨gx,0,none⟩)) L by
       have h1:=uh HNx
       rw [hje,← uh HFN,uh HDA] at h1
       exact h1)
      have HMw:=hide ((uh HM6).agr (Agr.nil (uh HKr)))
      have hrl:=xb5i k hk L
      clear hje HNx HM6 HFD HFC
      by_cases hq:q.length≤64
      ·have HQ:=hide hq
       clear hq
       go_wp2_with fail
       refine Calls.mono (xa6m S k _ _ L q wr (uh HMw) ((uh HKU).old (uh HKw) (by simp)) (uh HQ) ((uh HT).k (uh HKw))) ?_
       rintro e w8 ⟨sv,pv,rfl,hp8,k8⟩
       obtain ⟨s1,s2,s3,p1,p2,p3,rfl,rfl⟩:=hp8.p.form
       have HP8:=hide hp8.p
       have HA:=hide (heap_alloc_new w8 (.cells #[.slice s1 s2 s3,.slice p1 p2 p3] 35))
       have hka:=(Kept.refl [] w8).alloc (.cells #[.slice s1 s2 s3,.slice p1 p2 p3] 35)
       have HKA:=hide (k8.trans hka (by simp))
       have HP9:=hide ((uh HP8).old hka)
       have HK9:=hide ((uh HKw).trans (uh HKA) (by simp))
       obtain ⟨w9,hw9⟩:∃ w9,w8.alloc (.cells #[.slice s1 s2 s3,.slice p1 p2 p3] 35) = w9:=⟨_,rfl⟩
       rw [hw9] at HA HKA HP9 HK9
       clear hp8 k8 hka HP8
       go_upto_region 30 with fail
       try rw [hw9]
       clear hw9
       go_wp2_with fail
       refine Calls.mono (xa6m S k _ _ L q w9 ((uh HNL2).agr (Agr.nil (uh HKA))) ((uh HKU).old (uh HK9) (by simp)) (uh HQ) ((uh HT).k (uh HK9))) ?_
       rintro e w10 ⟨tv,qv,rfl,hp10,k10⟩
       obtain ⟨u1,u2,u3,r1,r2,r3,rfl,rfl⟩:=hp10.p.form
       have HP10:=hide hp10.p
       have HB:=hide (heap_alloc_new w10 (.cells #[.slice u1 u2 u3,.slice r1 r2 r3] 35))
       have hkb:=(Kept.refl [] w10).alloc (.cells #[.slice u1 u2 u3,.slice r1 r2 r3] 35)
       have HKB:=hide (k10.trans hkb (by simp))
       have HP11:=hide ((uh HP10).old hkb)
       obtain ⟨w11,hw11⟩:∃ w11,w10.alloc (.cells #[.slice u1 u2 u3,.slice r1 r2 r3] 35) = w11:=⟨_,rfl⟩
       rw [hw11] at HB HKB HP11
       have HA11:=hide ((uh HKB).heap (uh HA) (by simp))
       obtain ⟨ss,es,e1,e2,e3,e4⟩:=((uh HP9).old (uh HKB)).one (uh HP11)
       have HSM:=hide (xa5r _ _ _ _ ss ss es es w11 e1 e2 e3 e4)
       rw [decide_eq_true rfl,decide_eq_true rfl] at HSM
       have HK11:=hide ((uh HKA).trans (uh HKB) (by simp))
       clear hp10 k10 hkb HP10 e1 e2 e3 e4 HA HP9 HP11 HKA HKB HK9
       go_upto_region 31 with fail
       try rw [hw11]
       clear hw11
       go_wp2_with (first
        | (refine xa0y rfl 35 (.tmp 26) rfl w8.heap.size rfl 35 #[.slice s1 s2 s3,.slice p1 p2 p3] (0,0) _ (uh HA11) Tryz.underlying35 rfl Tryz.size_kp ?_)
        | (refine xa0y rfl 35 (.tmp 28) rfl w10.heap.size rfl 35 #[.slice u1 u2 u3,.slice r1 r2 r3] (0,0) _ (uh HB) Tryz.underlying35 rfl Tryz.size_kp ?_))
       refine Calls.mono (uh HSM) ?_
       clear HSM
       rintro e w12 ⟨rfl,k12⟩
       have HK12:=hide ((uh HK11).trans k12 (by simp))
       clear k12
       go_wp2_with fail
       refine Calls.mono (xa6i S k _ L w12 ((uh HMw).agr (Agr.nil (uh HK12))) ((uh HT).k ((uh HKw).trans (uh HK12) (by simp)))) ?_
       rintro e w13 ⟨rfl,k13⟩
       have HK13:=hide ((uh HK12).trans k13 (by simp))
       clear k13
       go_wp2_with fail
       refine Calls.mono (xa6i S k _ L w13 ((uh HNL2).agr (Agr.nil (uh HK13))) ((uh HT).k ((uh HKw).trans (uh HK13) (by simp)))) ?_
       rintro e w14 ⟨rfl,k14⟩
       have HK14:=hide (((uh HKw).trans (uh HK13) (by simp)).trans k14 (by simp))
       clear k14
       generalize rootP k L = R at hrl ⊢
       go_wp2_with (refine xa5j rfl (.tmp 141) (.tmp 143) _ rfl R R hrl hrl rfl rfl ?_; rw [decide_eq_true rfl])
       go_ret
       exact ⟨rfl,(uh HK14).below (Nat.le_refl _) (by simp)⟩
      ·have hq9:64 < q.length:=by omega
       have HQ:=hide hq9
       clear hq hq9
       go_wp2_with fail
       refine Calls.mono (xa7m _ _ q wr ((uh HKU).old (uh HKw) (by simp)) (uh HQ)) ?_
       rintro e w8 ⟨rfl,k8⟩
       have HA:=hide (heap_alloc_new w8 (.cells #[.slice none 0 0,.slice none 0 0] 35))
       have hka:=(Kept.refl [] w8).alloc (.cells #[.slice none 0 0,.slice none 0 0] 35)
       have HKA:=hide (k8.trans hka (by simp))
       clear k8 hka
       go_upto_region 30 with fail
       generalize w8.alloc (.cells #[.slice none 0 0,.slice none 0 0] 35) = w9 at HA HKA ⊢
       go_wp2_with fail
       refine Calls.mono (xa7m _ _ q w9 ((uh HKU).old ((uh HKw).trans (uh HKA) (by simp)) (by simp)) (uh HQ)) ?_
       rintro e w10 ⟨rfl,k10⟩
       have HB:=hide (heap_alloc_new w10 (.cells #[.slice none 0 0,.slice none 0 0] 35))
       have hkb:=(Kept.refl [] w10).alloc (.cells #[.slice none 0 0,.slice none 0 0] 35)
       have HKB:=hide (k10.trans hkb (by simp))
       clear k10 hkb
       go_upto_region 31 with fail
       generalize w10.alloc (.cells #[.slice none 0 0,.slice none 0 0] 35) = w11 at HB HKB ⊢
       have HA11:=hide ((uh HKB).heap (uh HA) (by simp))
       have HSM:=hide (xa5r _ _ _ _ [] [] [] [] w11 (xb6r w11) (xb7a w11) (xb6r w11) (xb7a w11))
       rw [decide_eq_true rfl,decide_eq_true rfl] at HSM
       have HK11:=hide ((uh HKA).trans (uh HKB) (by simp))
       clear HA HKA HKB
       go_wp2_with (first
        | (refine xa0y rfl 35 (.tmp 26) rfl w8.heap.size rfl 35 #[.slice none 0 0,.slice none 0 0] (0,0) _ (uh HA11) Tryz.underlying35 rfl Tryz.size_kp ?_)
        | (refine xa0y rfl 35 (.tmp 28) rfl w10.heap.size rfl 35 #[.slice none 0 0,.slice none 0 0] (0,0) _ (uh HB) Tryz.underlying35 rfl Tryz.size_kp ?_))
       refine Calls.mono (uh HSM) ?_
       clear HSM
       rintro e w12 ⟨rfl,k12⟩
       have HK12:=hide ((uh HK11).trans k12 (by simp))
       clear k12
       go_wp2_with fail
       refine Calls.mono (xa6i S k _ L w12 ((uh HMw).agr (Agr.nil (uh HK12))) ((uh HT).k ((uh HKw).trans (uh HK12) (by simp)))) ?_
       rintro e w13 ⟨rfl,k13⟩
       have HK13:=hide ((uh HK12).trans k13 (by simp))
       clear k13
       go_wp2_with fail
       refine Calls.mono (xa6i S k _ L w13 ((uh HNL2).agr (Agr.nil (uh HK13))) ((uh HT).k ((uh HKw).trans (uh HK13) (by simp)))) ?_
       rintro e w14 ⟨rfl,k14⟩
       have HK14:=hide (((uh HKw).trans (uh HK13) (by simp)).trans k14 (by simp))
       clear k14
       generalize rootP k L = R at hrl ⊢
       go_wp2_with (refine xa5j rfl (.tmp 141) (.tmp 143) _ rfl R R hrl hrl rfl rfl ?_; rw [decide_eq_true rfl])
       go_ret
       exact ⟨rfl,(uh HK14).below (Nat.le_refl _) (by simp)⟩
end
section
open Go.ChangeShapes Go.WideShapes Go.ChangeAt Go.RowKit Go.Deep
theorem own:ownKnob Tryz.prog.godebug = none:=by kernel_rfl
theorem laidOut:laidOutB Tryz.prog = true:=by kernel_rfl
theorem xa6r {x:Int} (h:(Lit.int .u8 x).wf = true):0≤x∧x < 256:=by
 simp [Lit.wf,IntKind.min,IntKind.max,IntKind.signed,IntKind.bits] at h
 exact ⟨by omega,by omega⟩
theorem xb5u {x:Int} (h:(Lit.int .i64 x).wf = true):-9223372036854775808≤x∧x≤9223372036854775807:=by
 simp [Lit.wf,IntKind.min,IntKind.max,IntKind.signed,IntKind.bits] at h
 exact ⟨by omega,by omega⟩
theorem xb9n {H:Type} (d:DataW H):1≤Rows.uptoBulk d:=by
 cases d with
 | lit l=>cases l <;> simp [Rows.uptoBulk]
 | nil=>simp [Rows.uptoBulk]
 | ptr d=>simp [Rows.uptoBulk]
 | slice elems spare=>simp [Rows.uptoBulk]
 | agg parts=>simp [Rows.uptoBulk]
 | iface t d=>simp [Rows.uptoBulk]
 | map entries=>simp [Rows.uptoBulk]
 | held h=>simp [Rows.uptoBulk]
theorem xb9h {H:Type} (l:List (DataW H)):l.length≤Rows.uptoBulkAll l:=by
 induction l with
 | nil=>simp [Rows.uptoBulkAll]
 | cons x r ih=>have:=xb9n x; simp only [Rows.uptoBulkAll,List.length_cons]; omega
section
variable {H:Type} {enc:TypeId × Value→H} {W:World}
theorem xa4b {fuel:Nat} {cs:List Value} {x:DataW H × List MemPlace} (h:DataW.trod enc Tryz.prog W 0 (fun _=>true) true fuel 30 cs = some x) :
  ∃ v bs,cs = [v]∧(bs.length≤140737488355328→Rd W v bs)∧((bs = []∧x.1 = .nil)∨∃ elems spare,x.1 = .slice elems spare∧elems.length = bs.length):=by
 rcases open_ints Tryz.underlying30 Tryz.underlying5 (by kernel_rfl) h with ⟨rfl,rfl⟩ | ⟨a,len,cap,zs,rfl,_,hl,hm,hz,rfl,hcell,hwz⟩
 ·exact ⟨_,[],rfl,fun _=>Rd.nil W,.inl ⟨rfl,rfl⟩⟩
 ·have h2:(lits (H:=H) .u8 (zs.take len)).length = len:=by simp only [lits,List.length_map,List.length_take]; simp at hz; omega
  have hbl:((zs.take len).map Int.toNat).length = len:=by simp at hz; simp; omega
  refine ⟨_,(zs.take len).map Int.toNat,rfl,fun hB=>⟨_,_,_,rfl,hbl,hl,⟨by unfold maxLen at hm; omega,by omega⟩,by simp,?_,?_⟩,.inr ⟨_,_,rfl,by rw [h2,hbl]⟩⟩
  ·intro y hy
   obtain ⟨z,hz1,rfl⟩:=List.mem_map.1 hy
   have:=xa6r (hwz z (List.mem_of_mem_take hz1)); omega
  ·intro hp
   simp at hz
   have hc0:=hcell 0 (by omega)
   obtain ⟨b,off,spot⟩:=a
   have hspot:spot = none:=by simpa [Addr.add] using World.cell?_spot hc0
   subst hspot
   refine ⟨b,off,rfl,fun i hi=>?_⟩
   have hc:=hcell i (by omega)
   have hzi:i < zs.length:=by omega
   rw [Addr.add_mid] at hc
   rw [hc]
   have hw:=xa6r (hwz (zs[i]) (List.getElem_mem hzi))
   simp only [List.getD_eq_getElem?_getD,List.getElem?_eq_getElem hzi,Option.getD_some,List.getElem?_map,List.getElem?_take,hi,if_true,Option.map_some]
   simp [u8]; omega
theorem xa4t {d:DataW H} {bs:List Nat} (hx:(bs = []∧d = .nil)∨∃ elems spare,d = .slice elems spare∧elems.length = bs.length):bs.length + 1≤Rows.uptoBulk d:=by
 rcases hx with ⟨rfl,rfl⟩ | ⟨elems,spare,rfl,he⟩
 ·simp [Rows.uptoBulk]
 ·have:=xb9h elems
  simp only [Rows.uptoBulk]; omega
end
section
variable {H:Type} {enc:TypeId × Value→H} {W:World}
theorem xa7y {d:DataW H} {l:List (DataW H)} (h:d∈l):Rows.uptoBulk d≤Rows.uptoBulkAll l:=by
 induction l with
 | nil=>cases h
 | cons x r ih =>
  simp only [Rows.uptoBulkAll]
  cases List.mem_cons.1 h with
  | inl e=>subst e; omega
  | inr e=>have:=ih e; omega
theorem xa8c (f:Nat→List Nat × List Nat) (D0 D1:Nat→DataW H) (l:List Nat) (h:∀ i∈l,(f i).1.length + 1≤Rows.uptoBulk (D0 i)∧(f i).2.length + 1≤Rows.uptoBulk (D1 i)):kwt (l.map f)≤Rows.uptoBulkAll (l.map fun i=>.agg [D0 i,D1 i]):=by
 induction l with
 | nil=>simp [kwt]
 | cons a l ih =>
  have h1:=h a (by simp)
  have h2:=ih (fun i hi=>h i (by simp [hi]))
  simp only [kwt,List.map_cons,List.sum_cons,Rows.uptoBulkAll,Rows.uptoBulk] at h2 ⊢
  omega
theorem xa7r {fuel:Nat} {cs:List Value} {x:DataW H × List MemPlace} (h:DataW.trod enc Tryz.prog W 0 (fun _=>true) true fuel 22 cs = some x) (hB:Rows.uptoBulk x.1≤1048576) :
  ∃ v ps,cs = [v]∧RdK W v ps∧kwt ps≤1048576:=by
 rcases open_slice_pairs Tryz.underlying22 Tryz.underlying32 (by kernel_rfl) rfl rfl (by kernel_rfl) (by kernel_rfl) h with ⟨rfl,rfl⟩ | ⟨a,len,cap,m,n,V0,V1,D0,D1,P0,P1,rfl,_,hl,hm,hmm,rfl,hx⟩
 ·exact ⟨_,[],rfl,⟨none,0,0,[],[],rfl,rfl,Nat.le_refl _,by omega,fun i h=>by omega,fun h=>by omega⟩,by simp [kwt]⟩
 ·simp only [if_true] at hmm
  simp only [Rows.uptoBulk] at hB
  obtain ⟨f,hf⟩:=choose_lt (α:=List Nat × List Nat) (n:=len) (p:=fun i o=>(Rd W (V0 i) o.1∧Rd W (V1 i) o.2)∧o.1.length + 1≤Rows.uptoBulk (D0 i)∧o.2.length + 1≤Rows.uptoBulk (D1 i)) (by
   intro i hi
   obtain ⟨_,_,h0,h1⟩:=hx i (by omega)
   have hDi:Rows.uptoBulk (.agg [D0 i,D1 i])≤Rows.uptoBulkAll ((List.range len).map fun i=>.agg [D0 i,D1 i]):=xa7y (List.mem_map.2 ⟨i,List.mem_range.2 hi,rfl⟩)
   simp only [Rows.uptoBulk,Rows.uptoBulkAll] at hDi
   obtain ⟨v,bs,e0,hr0,hb0⟩:=xa4b h0
   obtain ⟨v',bs',e1,hr1,hb1⟩:=xa4b h1
   simp only [List.cons.injEq,and_true] at e0 e1
   subst e0
   subst e1
   have g0:=xa4t hb0
   have g1:=xa4t hb1
   exact ⟨(bs,bs'),⟨hr0 (by simp only at g0; omega),hr1 (by simp only at g1; omega)⟩,g0,g1⟩)
  refine ⟨_,(List.range len).map f,rfl,⟨some a,len,cap,(List.range len).map V0,(List.range len).map V1,rfl,by simp,hl,by unfold maxLen at hm; omega,?_,?_⟩,?_⟩
  ·intro i hi
   have hc:=(hf i hi).1
   simpa [List.getD_eq_getElem?_getD,hi] using hc
  ·intro hp
   obtain ⟨b,off,spot⟩:=a
   have hc0:=(hx 0 (by omega)).1
   have hspot:spot = none:=by simpa [Addr.add] using World.cell?_spot hc0
   subst hspot
   refine ⟨b,off,rfl,fun i hi=>?_⟩
   have hc:=hx i (by omega)
   rw [Addr.add_mid,Addr.add_mid] at hc
   have:=And.intro hc.1 hc.2.1
   simpa [List.getD_eq_getElem?_getD,hi,Nat.add_assoc] using this
  ·have:=xa8c f D0 D1 (List.range len) (fun i hi=>(hf i (List.mem_range.1 hi)).2)
   omega
end
end
end Go.Proofs.YtiopaaeejppnnaaGreatDoor
