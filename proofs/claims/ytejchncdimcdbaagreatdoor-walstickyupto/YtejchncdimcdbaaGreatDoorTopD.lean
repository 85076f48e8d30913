import Derived.Test.YtejchncdimcdbaaGreatDoorTopC
namespace Go.Proofs.YtejchncdimcdbaaGreatDoor
set_option linter.unusedVariables false
set_option linter.unusedSimpArgs false
set_option maxRecDepth 100000
section
open Go.RowKit Go.BigFrame Go.Maps Go.Sort
def TW (W w:World) (u:Value) (es:List En) (X:List Nat):Prop:=∃ B C,C≤w.heap.size∧W.heap.size≤B∧(∀ b∈X,b < B∨C≤b)∧∀ M w2,Kept M w w2→(∀ x∈M,x < B∨C≤x)→RdN w2 u es
theorem TW.of {W w w2:World} {u:Value} {es:List En} (h:NewN w.heap.size w2 u es) (k:Kept [] W w) (k2:Kept [] w w2) {X:List Nat} (hX:∀ b∈X,b < w.heap.size):TW W w2 u es X :=
 ⟨w.heap.size,w2.heap.size,Nat.le_refl _,k.size,fun b hb=>Or.inl (hX b hb),fun M w3 k3 hM=>h.stay k3 hM⟩
theorem TW.pass {W w w':World} {u:Value} {es:List En} {X M:List Nat} (h:TW W w u es X) (k:Kept M w w') (hM:∀ x∈M,x∈X∨x < W.heap.size) {Y:List Nat} (hY:∀ x∈Y,x∈X∨x < W.heap.size∨w.heap.size≤x):TW W w' u es Y:=by
 obtain ⟨B,C,h1,h2,h3,h4⟩:=h
 refine ⟨B,C,Nat.le_trans h1 k.size,h2,fun b hb=>?_,fun N w2 k2 hN=>h4 (M++N) w2 ((k.mono (M:=M++N) (fun x hx=>by simp [hx])).trans k2 (fun x hx=>Or.inl (by simp [hx]))) (fun x hx=>?_)⟩
 ·rcases hY b hb with h5 | h5 | h5
  ·exact h3 b h5
  ·exact Or.inl (by omega)
  ·exact Or.inr (by omega)
 ·rcases List.mem_append.1 hx with hx | hx
  ·rcases hM x hx with h5 | h5
   ·exact h3 x h5
   ·exact Or.inl (by omega)
  ·exact hN x hx
theorem OwnX.push {X:List Nat} {w0 w W:World} {v v':Value} {ts:List (Nat × Value × List En)} {t:Nat × Value × List En} (h:OwnX X w0 w v ts) (tw:∃ B C,C≤w.heap.size∧w0.heap.size≤B∧(∀ b,v.ownBlock = some b→b < B∨C≤b)∧(∀ b∈X,b < B∨C≤b)∧∀ M w2,Kept M w w2→(∀ x∈M,x < B∨C≤x)→RdN w2 t.2.1 t.2.2) (hXl:∀ b∈X,b < w.heap.size)
  (o:W.ownsRow w0.heap.size 129 2 v' (ts.length + 1) (cellsB ts++cellsB [t])) (gr:w.grownBy W v.ownBlock) (hg:v'.ownBlock = v.ownBlock∨v'.ownBlock = some w.heap.size):OwnX X w0 W v' (ts++[t]):=by
 have kW:Kept v.ownBlock.toList w W:=((Kept.refl _ w)).grown gr (by intro k hk; left; simp [hk])
 refine ⟨by rw [xa5h,List.length_append]; exact o,fun x hx=>?_,Nat.le_trans h.sz kW.size,fun b hb hm=>?_⟩
 ·have key:∃ B C,C≤w.heap.size∧w0.heap.size≤B∧(∀ b,v.ownBlock = some b→b < B∨C≤b)∧(∀ b∈X,b < B∨C≤b)∧∀ M w2,Kept M w w2→(∀ x∈M,x < B∨C≤x)→RdN w2 x.2.1 x.2.2:=by
   rcases List.mem_append.1 hx with hx | hx
   ·exact h.rd x hx
   ·rw [List.mem_singleton.1 hx]; exact tw
  obtain ⟨B1,C,h1,h2,h3,h4,h5⟩:=key
  refine ⟨B1,C,Nat.le_trans h1 kW.size,h2,fun b hb=>?_,h4,fun N w2 kN hN=>h5 (v.ownBlock.toList++N) w2 ((kW.mono (M:=v.ownBlock.toList++N) (fun x hx=>List.mem_append_left _ hx)).trans kN (fun x hx=>Or.inl (by simp [hx]))) (fun x hx=>?_)⟩
  ·rcases hg with hg | hg
   ·rw [hg] at hb; exact h3 _ hb
   ·rw [hg] at hb; simp only [Option.some.injEq] at hb; omega
  ·rcases List.mem_append.1 hx with hx | hx
   ·exact h3 x (by simpa using hx)
   ·exact hN x hx
 ·rcases hg with hg | hg
  ·rw [hg] at hb; exact h.ap b hb hm
  ·rw [hg] at hb; simp only [Option.some.injEq] at hb; have:=hXl b hm; omega
def Alb (W:World) (u:Value) (cs:Array Value) (w:World):Prop:=∃ g,u = .pointer (some ⟨g,0,none⟩)∧W.heap.size≤g∧g < w.heap.size∧w.heap[g]? = some (.cells cs 129 (0,0))
theorem xb4m {W w:World} (k:Kept [] W w):Alb W (.pointer (some ⟨w.heap.size,0,none⟩)) #[.int .u64 0,.slice none 0 0] (w.alloc (.cells #[.int .u64 0,.slice none 0 0] 129)):=⟨_,rfl,k.size,by simp,heap_alloc_new _ _⟩
theorem xa4g {o:Oper} {a:Act} {w:World} {K:Act→World→Prop} {Q:Exit→Act→World→Prop} (ho:o.op = .alloc 129) (h:K (a.put o.dst (.pointer (some ⟨w.heap.size,0,none⟩))) (w.alloc (.cells #[.int .u64 0,.slice none 0 0] 129))):o.wp Tryz.prog a w K Q:=by
 unfold Oper.wp execOp
 simp only [ho]
 go_simp
 exact h
theorem bput2 {w:World} {g:Nat} {a b:Value} {t:TypeId} (h:w.heap[g]? = some (.cells #[a,b] t (0,0))) (x y:Value):((w.setCell ⟨g,0,none⟩ x).setCell ⟨g,1,none⟩ y).heap[g]? = some (.cells #[x,y] t (0,0)):=by
 rw [heap_setCell_same _ g 1 _ t _ (heap_setCell_same w g 0 _ t _ h)]; rfl
theorem xb4s {w:World} {H:Nat} {x y:Value} {t:TypeId} (h:w.heap[H]? = some (.cells #[x,y] t (0,0))):RdC 2 w (.slice (some ⟨H,0,none⟩) 1 1) [[x,y]]:=by
 refine ⟨_,_,_,rfl,rfl,Nat.le_refl _,by omega,fun _=>⟨H,0,rfl,fun i hi j u hu=>?_⟩⟩
 have hi0:i = 0:=by simp at hi; omega
 subst hi0
 simp only [List.getElem_cons_zero] at hu
 match j with
 | 0=>simp only [List.getElem?_cons_zero,Option.some.injEq] at hu; subst hu; have h9:=cell_of_row _ _ 0 _ _ _ h; simpa using h9
 | 1=>simp only [List.getElem?_cons_succ,List.getElem?_cons_zero,Option.some.injEq] at hu; subst hu; have h9:=cell_of_row _ _ 1 _ _ _ h; simpa using h9
 | j + 2=>simp at hu
theorem bcells2 {w:World} {b:Nat} {x0 x1:Value} {t:TypeId} (h:w.heap[b]? = some (.cells #[x0,x1] t (0,0))):w.cell? ⟨b,0,none⟩ = some x0∧w.cell? ⟨b,1,none⟩ = some x1:=by
 refine ⟨?_,?_⟩ <;> rw [cell_of_row _ _ _ _ _ _ h] <;> rfl
theorem froz2 {w:World} {b:Nat} {cs:Array Value} {t:TypeId} (h:w.heap[b]? = some (.cells cs t (0,0))):w.frozen? ⟨b,0,none⟩ = false∧w.frozen? ⟨b,1,none⟩ = false:=⟨frozen_of_row _ _ _ _ _ h,frozen_of_row _ _ _ _ _ h⟩
def ScP (w0 w w':World) (l d kb nb ob bb:Nat) (mv:Value) (B:List Nat) (c:ScS) (e:Ending):Prop:=∃ B' mv' ts',e = .returned (.tuple #[])∧LK w' l d B' nb ob bb c.σ c.s∧Kept (kb :: l :: (mv.ownBlock.toList++B)) w w'∧(∀ x∈B',x∈B∨w.heap.size≤x)∧KS w0 w' kb (l :: B') mv' ts' c.must∧ts'.map (fun t=>(t.1,t.2.2)) = c.may
set_option maxHeartbeats 8000000 in
theorem xb0r (l d nb ob bb g0 kb must:Nat) (B:List Nat) (σ:DSt) (s:LSt) (v mv:Value) (os:List (Bool × List En)) (ts:List (Nat × Value × List En)) (w0 w:World) (h:LK w l d B nb ob bb σ s) (hv:VarsG g0 w) (hB:∀ x∈B,g0≤x) (hl0:g0≤l) (hg0:g0≤w.heap.size) (hO:OldO g0 w v os) (hk:KS w0 w kb (l :: B) mv ts must) (hkb:g0≤kb) (hw0:w0.heap.size≤w.heap.size) (hgw:g0≤w0.heap.size)
  (h1:nb + os.length≤700000000) (h2:ob + 6 * os.length≤700000000) (h3:bb + 40048 * os.length≤140737488000000) (h4:ts.length + os.length≤1000000000) :
  Calls Tryz.prog 28 #[.pointer (some ⟨l,0,none⟩),v,.pointer (some ⟨kb,0,none⟩)] w fun e w'=>ScP w0 w w' l d kb (nb + os.length) (ob + 6 * os.length) (bb + 40048 * os.length) mv B (scR ⟨σ,s,ts.map (fun t=>(t.1,t.2.2)),must⟩ os) e:=by
 obtain ⟨t0,hos0,hrc0,_⟩:=hO [] w (Kept.refl _ _) (by simp)
 obtain ⟨va,vl,vc,rfl,hvl,hvc,hvm,_⟩:=hrc0
 have hvl2:vl = os.length:=by rw [← hvl,hos0,List.length_map,List.length_map]
 subst hvl2
 have H:=hide h
 have HVG:=hide hv
 have HB:=hide hB
 have HO:=hide hO
 have HKS:=hide hk
 obtain ⟨c0,hc0⟩:∃ c,(⟨σ,s,ts.map (fun t=>(t.1,t.2.2)),must⟩:ScS) = c:=⟨_,rfl⟩
 rw [hc0]
 have HC1:=hide (by rw [← hc0]:c0.σ = σ)
 have HC2:=hide (by rw [← hc0]:c0.s = s)
 have HC3:=hide (by rw [← hc0]:c0.must = must)
 have HC4:=hide (by rw [← hc0]:c0.may = ts.map (fun t=>(t.1,t.2.2)))
 have HKL:=hide (fun x (hx:x∈kb :: l :: (mv.ownBlock.toList++B))=>(by rcases List.mem_cons.1 hx with rfl | hx; exact hkb; rcases List.mem_cons.1 hx with rfl | hx; exact hl0; rcases List.mem_append.1 hx with hx | hx; exact Nat.le_trans hgw (hk.ow.own.lt x (by simpa using hx)).1; exact hB x hx:g0≤x))
 clear h hv hB hO hk hos0 hvl hc0
 go_enter Tryz.func28,Tryz.ntmps28
 go_wp2_with fail
 go_loopw [13] (fun t13 wr=>∃ (i:Nat) (Bi:List Nat) (mvi:Value) (tsi:List (Nat × Value × List En)),i≤os.length∧t13 = .int .i64 (i:Int)∧Hid (LK wr l d Bi (nb + i) (ob + 6 * i) (bb + 40048 * i) (scR c0 (os.take i)).σ (scR c0 (os.take i)).s)∧Hid (Kept (kb :: l :: (mv.ownBlock.toList++B)) w wr)∧Hid (∀ x∈Bi,x∈B∨w.heap.size≤x)∧Hid (KS w0 wr kb (l :: Bi) mvi tsi (scR c0 (os.take i)).must)∧Hid (tsi.map (fun t=>(t.1,t.2.2)) = (scR c0 (os.take i)).may)∧Hid (tsi.length≤ts.length + i)∧Hid (∀ b,mvi.ownBlock = some b→mv.ownBlock = some b∨w.heap.size≤b)) (fun t _=>os.length - (intOf t).toNat)
 case atStart=>exact ⟨0,B,mv,ts,Nat.zero_le _,rfl,hide (by rw [List.take_zero]; show LK w l d B (nb + 0) (ob + 6 * 0) (bb + 40048 * 0) c0.σ c0.s; rw [uh HC1,uh HC2]; exact uh H),hide (Kept.refl _ _),hide (fun x hx=>Or.inl hx),hide (by rw [List.take_zero]; show KS w0 w kb (l :: B) mv ts c0.must; rw [uh HC3]; exact uh HKS),hide (by rw [List.take_zero]; show _ = c0.may; rw [uh HC4]),hide (by omega),hide (fun b hb=>Or.inl hb)⟩
 case round =>
  obtain ⟨i,Bi,mvi,tsi,hi,rfl,HLK,HK,HBN,HKS,HMY,HTL,HMV⟩:=hrel
  by_cases hlt:i < os.length
  ·have hlt':(i:Int) < os.length:=by omega
   have HSC:=hide (xb6a c0 os i hlt)
   obtain ⟨t9,hos,hrc,hrn⟩:=uh HO _ wr (uh HK) (uh HKL)
   have HVR:=hide ((uh HVG).on (uh HK) (uh HKL))
   obtain ⟨qa,ql,qc,hq1,hq2,hq3,hq4,hq5⟩:=hrc
   injection hq1 with r1 r2 r3
   subst r1 r2 r3
   have hl9:i < t9.length:=by rw [hos,List.length_map] at hlt; exact hlt
   obtain ⟨b2,o2,rfl,hcc⟩:=hq5 (by omega)
   have hri:=hcc i (by rw [List.length_map]; exact hl9)
   rw [List.getElem_map] at hri
   have hr9:=hrn t9[i] (List.getElem_mem hl9)
   have hoi:os[i] = (t9[i].1,t9[i].2.2):=by subst hos; rw [List.getElem_map]
   rw [hoi] at HSC
   clear hoi hrn hcc hq2 hq3 hq4 hq5
   generalize t9[i] = T9 at hri hr9 HSC
   obtain ⟨o1,ov,es⟩:=T9
   obtain ⟨hr9a,hr9b⟩:=hr9
   dsimp only at hr9a hr9b HSC
   obtain ⟨ea,en,ec,kv,vv,rfl,hen,hecn,hecm,_⟩:=id hr9a
   subst hen
   have x0:=hri 0 _ rfl
   have x1:=hri 1 _ rfl
   simp only [Nat.add_zero] at x0
   have hic:(i:Int) < vc:=by omega
   have ha1:IntKind.i64.wrap ((i:Int) + 1) = (i:Int) + 1:=by rw [IntKind.wrap_i64]; omega
   have HRN:=hide hr9a
   have HEL:=hide hr9b
   clear hri hr9a hr9b hecn hecm hos
   obtain ⟨⟨σi,si,mayi,musti⟩,hci⟩:∃ c,scR c0 (os.take i) = c:=⟨_,rfl⟩
   rw [hci] at HLK HKS HMY HSC
   dsimp only at HLK HKS HMY
   clear hci
   go_upto_region 3 with fail
   have kA:=(Kept.refl [] wr).alloc (.cells #[.bool o1,.slice ea es.length ec] 71)
   have hA:=heap_alloc_new wr (.cells #[.bool o1,.slice ea es.length ec] 71)
   have HLK1:=hide ((uh HLK).old kA)
   have HK1:=hide ((uh HK).trans kA (by simp))
   have HKS1:=hide (⟨kA.heap (uh HKS).row (by simp),(uh HKS).ow.pass kA (by simp),(uh HKS).kx,(uh HKS).kl⟩:KS w0 _ kb (l :: Bi) mvi tsi musti)
   have HOB:=hide hA
   have HRN1:=hide ((uh HRN).old kA)
   have HVR1:=hide ((uh HVR).old kA)
   have HSZ:=hide (kA.size)
   obtain ⟨W1,hW1⟩:∃ W,wr.alloc (.cells #[.bool o1,.slice ea es.length ec] 71) = W:=⟨_,rfl⟩
   have HS1:=hide (by rw [← hW1]; simp:W1.heap.size = wr.heap.size + 1)
   rw [hW1] at HLK1 HK1 HKS1 HOB HRN1 HVR1 ⊢
   clear hW1 kA hA x0 x1 HLK HK HKS HRN HVR
   have HKB:=hide (by have h9:=(uh HKS1).kl; exact h9:kb < w0.heap.size)
   go_wp2_with fail
   refine Calls.mono (xa1k l d si W1 (uh HLK1).row) ?_
   rintro e w2 ⟨rfl,rfl⟩
   obtain ⟨p0,p1⟩:=bcells2 (uh HOB)
   cases o1
   ·go_upto_region 7 with fail
    have HBG:=hide (fun x hx=>by
     rcases uh HBN x hx with h9 | h9
     ·exact uh HB x h9
     ·omega:∀ x∈Bi,g0≤x)
    have HLB:=hide (fun x (hx:x∈l :: Bi)=>(by
     rcases List.mem_cons.1 hx with h9 | h9
     ·rw [h9]; exact (uh HLK1).lt
     ·exact (uh HLK1).dk.lt x h9:x < w2.heap.size))
    refine wp_sc8 (by kernel_rfl) (by kernel_rfl) (by kernel_rfl) (by kernel_rfl) (by kernel_rfl) (by kernel_rfl) (by kernel_rfl) (by kernel_rfl) (by kernel_rfl) (by kernel_rfl) (by kernel_rfl) (by kernel_rfl) (by kernel_rfl) (by kernel_rfl) (by kernel_rfl) (by kernel_rfl) (by kernel_rfl) (by kernel_rfl) (by kernel_rfl) rfl rfl rfl rfl (by simp) (by simp) (by simp)
     (.pointer (some ⟨l,0,none⟩)) (.pointer (some ⟨wr.heap.size,1,none⟩)) (.slice ea es.length ec) _ _ _
     (fun w'=>Kept [] w2 w')
     (fun w'=>Kept [] w2 w')
     (fun u1 w'=>u1 = .int .u64 (si.nx:Int)∧Kept [] w2 w')
     (fun u6 w'=>Alb w2 u6 #[.int .u64 0,.slice none 0 0] w'∧Kept [] w2 w')
     (fun u1 u4 w'=>u1 = .int .u64 (si.nx:Int)∧(∃ a c,u4 = .slice a es.length c)∧TW w2 w' u4 es []∧Kept [] w2 w')
     (fun u1 u6 w'=>u1 = .int .u64 (si.nx:Int)∧Alb w2 u6 #[.int .u64 0,.slice none 0 0] w'∧Kept [] w2 w')
     (fun u1 u4 u6 w'=>u1 = .int .u64 (si.nx:Int)∧(∃ a c,u4 = .slice a es.length c)∧(∃ g,u6 = .pointer (some ⟨g,0,none⟩)∧w2.heap.size≤g∧w'.heap[g]? = some (.cells #[.int .u64 0,.slice none 0 0] 129 (0,0))∧TW w2 w' u4 es [g])∧Kept [] w2 w')
     (fun u1 u4 u6 u7 w'=>u1 = .int .u64 (si.nx:Int)∧(∃ a c g,u4 = .slice a es.length c∧u6 = .pointer (some ⟨g,0,none⟩)∧w2.heap.size≤g∧w'.heap[g]? = some (.cells #[.int .u64 (si.nx:Int),u4] 129 (0,0))∧TW w2 w' u4 es [g])∧Kept [] w2 w')
     (fun u1 u4=>.agg #[u1,u4])
     (by simp only [Act.put,sa1,sa2,sa3]; rfl) (by exact Or.inl ⟨by rfl,fun W' hW'=>by go_simp⟩)
     (by simp only [Act.put,sa1,sa2,sa3]; rfl) (by exact Or.inl ⟨by rfl,fun W' hW'=>by go_simp⟩)
     (by simp only [Act.put,sa1,sa2,sa3]; rfl) (by exact Or.inl ⟨by rfl,fun W' hW'=>by have h9:=hW'.cell p1 (by simp); go_simp⟩)
     (Kept.refl [] w2).drew
     ⟨fun w' h=>h,fun u1 w' h=>h.2,fun u6 w' h=>h.2,fun u1 u4 w' h=>h.2.2.2,fun u1 u6 w' h=>h.2.2,fun u1 u4 u6 w' h=>h.2.2.2,fun u1 u4 u6 u7 w' h=>h.2.2⟩
     (by
      intro w' k K hK
      simp only [Act.put,sa1,sa2,sa3] at hK ⊢
      refine xa0e rfl Tryz.call22 [.pointer (some ⟨l,0,none⟩)] rfl (xa1r l d si w' (k.heap (uh HLK1).row (by simp))) ?_
      rintro e w3 ⟨rfl,rfl⟩
      exact ⟨_,rfl,hK _ _ ⟨rfl,k⟩⟩)
     (by
      intro w' k K hK
      exact xa4g rfl (hK _ _ ⟨xb4m k,k.alloc _⟩))
     (by
      rintro u1 w' ⟨rfl,k⟩ K hK
      simp only [Act.put,sa1,sa2,sa3] at hK ⊢
      refine xa0e rfl Tryz.call66 [.slice ea es.length ec] rfl (xa1q _ es w' ((uh HRN1).old k) (uh HEL)) ?_
      rintro e w3 ⟨v',rfl,hn,k3⟩
      obtain ⟨a,n,c,_,_,hv',hl',_⟩:=id hn.rdN
      subst hv'
      subst hl'
      exact ⟨_,rfl,hK _ _ ⟨by trivial,⟨_,_,rfl⟩,TW.of hn k k3 (by simp),k.trans k3 (by simp)⟩⟩)
     (by
      rintro u1 w' ⟨rfl,k⟩ K hK
      exact xa4g rfl (hK _ _ ⟨rfl,xb4m k,k.alloc _⟩))
     (by
      rintro u6 w' ⟨ha,k⟩ K hK
      simp only [Act.put,sa1,sa2,sa3] at hK ⊢
      refine xa0e rfl Tryz.call22 [.pointer (some ⟨l,0,none⟩)] rfl (xa1r l d si w' (k.heap (uh HLK1).row (by simp))) ?_
      rintro e w3 ⟨rfl,rfl⟩
      exact ⟨_,rfl,hK _ _ ⟨rfl,ha,k⟩⟩)
     (by
      rintro u1 u4 w' ⟨rfl,⟨a,c,rfl⟩,tw,k⟩ K hK
      exact xa4g rfl (hK _ _ ⟨rfl,⟨a,c,rfl⟩,⟨w'.heap.size,rfl,k.size,heap_alloc_new _ _,tw.pass ((Kept.refl [] w').alloc _) (by simp) (fun x hx=>Or.inr (Or.inr (by rw [List.mem_singleton.1 hx]; exact Nat.le_refl _)))⟩,k.alloc _⟩))
     (by
      rintro u1 u6 w' ⟨rfl,⟨g,rfl,hg1,hg2,hg3⟩,k⟩ K hK
      simp only [Act.put,sa1,sa2,sa3] at hK ⊢
      refine xa0e rfl Tryz.call66 [.slice ea es.length ec] rfl (xa1q _ es w' ((uh HRN1).old k) (uh HEL)) ?_
      rintro e w3 ⟨v',rfl,hn,k3⟩
      obtain ⟨a,n,c,_,_,hv',hl',_⟩:=id hn.rdN
      subst hv'
      subst hl'
      exact ⟨_,rfl,hK _ _ ⟨by trivial,⟨_,_,rfl⟩,⟨g,by trivial,hg1,k3.heap hg3 (by simp),TW.of hn k k3 (fun b hb=>by rw [List.mem_singleton.1 hb]; exact hg2)⟩,k.trans k3 (by simp)⟩⟩)
     (by
      rintro u1 u4 u6 w' ⟨rfl,⟨a,c,rfl⟩,⟨g,rfl,hg1,hg3,tw⟩,k⟩ K hK
      obtain ⟨b0,b1⟩:=bcells2 hg3
      obtain ⟨z0,z1⟩:=froz2 hg3
      have kS:Kept [g] w' ((w'.setCell ⟨g,0,none⟩ (.int .u64 (si.nx:Int))).setCell ⟨g,1,none⟩ (.slice a es.length c)):=((Kept.refl [g] w').setCell (p:=⟨g,0,none⟩) (.inl (by simp)) _).setCell (p:=⟨g,1,none⟩) (.inl (by simp)) _
      have hK2:=hK (.bool true) _ ⟨rfl,⟨a,c,g,rfl,rfl,hg1,bput2 hg3 _ _,tw.pass kS (fun x hx=>Or.inl hx) (fun x hx=>Or.inl hx)⟩,(k.setCell (p:=⟨g,0,none⟩) (.inr hg1) _).setCell (p:=⟨g,1,none⟩) (.inr hg1) _⟩
      clear hK
      simp only [Act.put,sa1,sa2,sa3] at hK2 ⊢
      unfold Oper.wp execOp
      go_simp
      exact hK2)
     (by rintro u1 u4 w' ⟨rfl,⟨a,c,rfl⟩,_⟩; exact Or.inl ⟨by rfl,fun W' hW'=>by go_simp⟩)
     (by rintro u1 u4 u6 w' ⟨rfl,⟨a,c,rfl⟩,_⟩; exact Or.inl ⟨by rfl,fun W' hW'=>by go_simp⟩)
     ?_
    rintro u1 u4 u6 u7 w3 ⟨rfl,⟨ua,uc,g,rfl,rfl,hg1,hg3,tw⟩,k3⟩
    simp only [Act.put,sa1,sa2,sa3]
    have HG3:=hide hg3
    have HG1:=hide hg1
    have HTW3:=hide tw
    have HKK3:=hide k3
    have p1':=k3.cell p1 (by simp)
    have HAP:=hide (xa1l l d _ _ _ g0 Bi σi si _ es w3 ((uh HLK1).old k3) ((uh HVR1).old k3) (uh HBG) hl0 (by have:=k3.size; have:=(uh HK1).size; omega) ((uh HRN1).old k3) (by omega) (by omega) (by omega))
    obtain ⟨⟨E,τ,s'⟩,hE⟩:∃ r,lgAppend σi si es = r:=⟨_,rfl⟩
    have HEC:=hide (by unfold scStep; rw [if_neg (by simp)]; dsimp only; rw [hE]:scStep ⟨σi,si,mayi,musti⟩ (false,es) = ⟨τ,s',if E = 0∨(si.st = 0∧s'.st≠0) then mayi++[(si.nx,es)] else mayi,musti⟩)
    rw [hE] at HAP
    dsimp only at HAP
    clear hE k3 hg3 hg1 tw p0 p1
    go_wp2_with fail
    refine Calls.mono (uh HAP) ?_
    rintro e w4 ⟨B4,rfl,hl4,ev4⟩
    clear p1'
    have HLK4:=hide (hl4.more (nb':=nb + (i + 1)) (ob':=ob + 6 * (i + 1)) (bb':=bb + 40048 * (i + 1)) (by omega) (by omega) (by omega))
    have HB4:=hide (fun x hx=>by
     rcases ev4.2 x hx with h9 | h9
     ·exact uh HBN x h9
     ·exact Or.inr (by have:=(uh HK1).size; have:=(uh HKK3).size; omega):∀ x∈B4,x∈B∨w.heap.size≤x)
    have HKX:=hide (((uh HK1).trans (uh HKK3) (by simp)).trans ev4.1 (fun x hx=>by
     rcases List.mem_cons.1 hx with rfl | hx
     ·exact Or.inl (by simp)
     ·rcases uh HBN x hx with h9 | h9
      ·exact Or.inl (by simp [h9])
      ·exact Or.inr h9))
    have hks4:KS w0 w4 kb (l :: B4) mvi tsi musti:=⟨ev4.1.heap ((uh HKK3).heap (uh HKS1).row (by simp)) (uh HKS1).kx,((uh HKS1).ow.pass (uh HKK3) (by simp)).mv ev4.1 (fun x hx=>by
     rcases List.mem_cons.1 hx with rfl | hx
     ·exact Or.inl (by simp)
     ·rcases ev4.2 x hx with h9 | h9
      ·exact Or.inl (by simp [h9])
      ·exact Or.inr h9),fun hm=>by
     rcases List.mem_cons.1 hm with h9 | h9
     ·exact (uh HKS1).kx (by simp [h9])
     ·rcases ev4.2 kb h9 with h8 | h8
      ·exact (uh HKS1).kx (by simp [h8])
      ·have:=uh HKB; have:=(uh HK1).size; have:=(uh HKK3).size; omega,(uh HKS1).kl⟩
    have HKS4:=hide hks4
    have HG4:=hide (ev4.1.heap (uh HG3) (fun hm=>by have:=uh HLB g hm; have:=uh HG1; omega))
    have HTW4:=hide ((uh HTW3).pass ev4.1 (fun x hx=>Or.inr (uh HLB x hx)) (Y:=l :: B4) (fun x hx=>by
     rcases List.mem_cons.1 hx with h9 | h9
     ·exact Or.inr (Or.inl (uh HLB x (by simp [h9])))
     ·rcases ev4.2 x h9 with h8 | h8
      ·exact Or.inr (Or.inl (uh HLB x (by simp [h8])))
      ·exact Or.inr (Or.inr h8)))
    have HLB4:=hide (fun x (hx:x∈l :: B4)=>(by
     rcases List.mem_cons.1 hx with h9 | h9
     ·rw [h9]; exact (uh HLK4).lt
     ·exact (uh HLK4).dk.lt x h9:x < w4.heap.size))
    have HMB:=hide (fun b hb=>((uh HKS1).ow.own.lt b hb).2:∀ b,mvi.ownBlock = some b→b < w2.heap.size)
    have HW02:=hide (by have:=(uh HK1).size; omega:w0.heap.size≤w2.heap.size)
    have HROW:=hide (uh HLK4).row
    have HGG:=uh HG1
    obtain ⟨ma,mc,rfl⟩:=(uh HKS4).ow.shape
    clear hl4 ev4 hks4 HAP HTW3 HG3
    by_cases hE0:E = 0
    ·subst hE0
     rw [if_pos (Or.inl rfl)] at HEC
     have HKBX:=hide (fun hm=>by have h9:=((uh HKS4).ow.own.lt kb (by simpa using hm)).1; have:=(uh HKS4).kl; omega:kb∉(Value.slice ma tsi.length mc).ownBlock.toList)
     have HGX:=hide (fun hm=>by have h9:=uh HMB g (by simpa using hm); omega:g∉(Value.slice ma tsi.length mc).ownBlock.toList)
     obtain ⟨d0,d1⟩:=bcells2 (uh HKS4).row
     obtain ⟨q0,q1⟩:=bcells2 (uh HG4)
     go_upto_region 10 with fail
     refine wp_k11 (by kernel_rfl) (by kernel_rfl) (by kernel_rfl) (by kernel_rfl) (by kernel_rfl) (by kernel_rfl) (by kernel_rfl) (by kernel_rfl) (by kernel_rfl) (by kernel_rfl) (by kernel_rfl) (by kernel_rfl) (by kernel_rfl) (by kernel_rfl) (by kernel_rfl) (by kernel_rfl) (by kernel_rfl) (by kernel_rfl) (by kernel_rfl) (by kernel_rfl) (by kernel_rfl) rfl (by kernel_rfl) rfl (by kernel_rfl) rfl (by kernel_rfl) rfl (by kernel_rfl) rfl (by kernel_rfl)
      (.pointer (some ⟨kb,0,none⟩)) (.pointer (some ⟨kb,0,none⟩)) (.pointer (some ⟨kb,0,none⟩)) (.pointer (some ⟨kb,0,none⟩)) (.slice ma tsi.length mc) (.agg #[.int .u64 (si.nx:Int),.slice ua es.length uc]) _ _ _ _ _ _
      (fun w'=>Kept (Value.slice ma tsi.length mc).ownBlock.toList w4 w')
      (fun w'=>Kept [] w4 w')
      (fun u0 w'=>∃ h,u0 = .slice (some ⟨h,0,none⟩) 1 1∧w'.heap[h]? = some (.cells #[.int .u64 (si.nx:Int),.slice ua es.length uc] 129 (0,0))∧Kept [] w4 w')
      (fun u0 u1 w'=>∃ a8 cap8 wq,u1 = .slice a8 (tsi.length + 1) cap8∧Kept [] w4 wq∧w'.ownsRow w0.heap.size 129 2 u1 (tsi.length + 1) (cellsB tsi++cellsB [(si.nx,.slice ua es.length uc,es)])∧wq.grownBy w' (Value.slice ma tsi.length mc).ownBlock∧(u1.ownBlock = (Value.slice ma tsi.length mc).ownBlock∨u1.ownBlock = some wq.heap.size))
      (fun u0 u1 u2 w'=>u2 = .pointer (some ⟨kb,0,none⟩)∧∃ a8 cap8 wq,u1 = .slice a8 (tsi.length + 1) cap8∧Kept [] w4 wq∧w'.ownsRow w0.heap.size 129 2 u1 (tsi.length + 1) (cellsB tsi++cellsB [(si.nx,.slice ua es.length uc,es)])∧wq.grownBy w' (Value.slice ma tsi.length mc).ownBlock∧(u1.ownBlock = (Value.slice ma tsi.length mc).ownBlock∨u1.ownBlock = some wq.heap.size))
      (fun u0 u1 u2 u3 w'=>u3 = .pointer (some ⟨kb,0,none⟩)∧∃ a8 cap8 wq,u1 = .slice a8 (tsi.length + 1) cap8∧Kept [] w4 wq∧w'.ownsRow w0.heap.size 129 2 u1 (tsi.length + 1) (cellsB tsi++cellsB [(si.nx,.slice ua es.length uc,es)])∧wq.grownBy w' (Value.slice ma tsi.length mc).ownBlock∧(u1.ownBlock = (Value.slice ma tsi.length mc).ownBlock∨u1.ownBlock = some wq.heap.size))
      (fun u0 u1 u2 u3 w'=>∃ a8 cap8 wq w8,u1 = .slice a8 (tsi.length + 1) cap8∧Kept [] w4 wq∧w8.ownsRow w0.heap.size 129 2 u1 (tsi.length + 1) (cellsB tsi++cellsB [(si.nx,.slice ua es.length uc,es)])∧wq.grownBy w8 (Value.slice ma tsi.length mc).ownBlock∧(u1.ownBlock = (Value.slice ma tsi.length mc).ownBlock∨u1.ownBlock = some wq.heap.size)∧w' = w8.setCell ⟨kb,0,none⟩ u1)
      (by simp only [Act.put,sa1,sa2,sa3]; rfl) (by exact Or.inl ⟨by rfl,fun W' hW'=>by go_simp⟩)
      (by simp only [Act.put,sa1,sa2,sa3]; rfl) (by exact Or.inl ⟨by rfl,fun W' hW'=>by go_simp⟩)
      (by simp only [Act.put,sa1,sa2,sa3]; rfl) (by exact Or.inl ⟨by rfl,fun W' hW'=>by go_simp⟩)
      (by simp only [Act.put,sa1,sa2,sa3]; rfl) (by exact Or.inl ⟨by rfl,fun W' hW'=>by go_simp⟩)
      (by simp only [Act.put,sa1,sa2,sa3]; rfl) (by exact Or.inl ⟨by rfl,fun W' hW'=>by have h90:=hW'.cell d0 (uh HKBX); go_simp⟩)
      (by simp only [Act.put,sa1,sa2,sa3]; rfl) (by exact Or.inl ⟨by rfl,fun W' hW'=>by have h90:=hW'.cell q0 (uh HGX); have h91:=hW'.cell q1 (uh HGX); go_simp⟩)
      (Kept.refl [] w4).drew
      ⟨fun w' h=>h.mono (by simp),fun u0 w' h=>by obtain ⟨_,_,_,h1⟩:=h; exact h1.mono (by simp),fun u0 u1 w' h=>by obtain ⟨a8,cap8,wq,_,h1,_,h2,_⟩:=h; exact (h1.mono (by simp)).grown h2 (by intro k hk; left; simp [hk]),fun u0 u1 u2 w' h=>by obtain ⟨_,a8,cap8,wq,_,h1,_,h2,_⟩:=h; exact (h1.mono (by simp)).grown h2 (by intro k hk; left; simp [hk]),fun u0 u1 u2 u3 w' h=>by obtain ⟨_,a8,cap8,wq,_,h1,_,h2,_⟩:=h; exact (h1.mono (by simp)).grown h2 (by intro k hk; left; simp [hk])⟩
      (by
       intro w' k K hK
       have hK2:=hK _ _ ⟨w'.heap.size,rfl,heap_alloc_new w' (.cells #[.int .u64 (si.nx:Int),.slice ua es.length uc] 129),k.alloc _⟩
       clear hK
       simp only [Act.put,sa1,sa2,sa3] at hK2 ⊢
       unfold Oper.wp execOp
       go_simp
       exact hK2)
      (by
       rintro u0 w' ⟨hh,rfl,hr0,k⟩ K hK
       have hS7:=(uh HKS4).ow.pass k (by simp)
       have hrc:RdC 2 w' (.slice (some ⟨hh,0,none⟩) 1 1) [[.int .u64 (si.nx:Int),.slice ua es.length uc]]:=xb4s hr0
       obtain ⟨a8,cap8,w8,hrun,h8,hg8,ha8⟩:=appendC w' w0.heap.size 46 129 (.agg #[.int .u64 0,.slice none 0 0]) 2 32 Tryz.underlying46 Tryz.infoBt rfl (by decide) (.slice ma tsi.length mc) tsi.length (cellsB tsi) hS7.own (some ⟨hh,0,none⟩) 1 1 [[.int .u64 (si.nx:Int),.slice ua es.length uc]] hrc (by simp) (by simp [Value.oneCell']) (by have:=uh HTL; omega) (by have:=uh HTL; omega) hS7.sz
       have hK2:=hK _ _ ⟨a8,cap8,w',rfl,k,h8,hg8,ha8⟩
       clear hK
       simp only [Act.put,sa1,sa2,sa3] at hK2 ⊢
       exact xa9n 46 (.tmp 57) (.tmp 59) rfl rfl (.slice ma tsi.length mc) (.slice (some ⟨hh,0,none⟩) 1 1) rfl rfl _ _ hrun hK2)
      (by rintro u0 u1 w' ⟨a8,cap8,wq,rfl,h1,h2,h3,h4⟩ K hK; unfold Oper.wp execOp; go_simp; exact hK _ _ ⟨rfl,a8,cap8,wq,rfl,h1,h2,h3,h4⟩)
      (by rintro u0 u1 u2 w' ⟨rfl,a8,cap8,wq,rfl,h1,h2,h3,h4⟩ K hK; unfold Oper.wp execOp; go_simp; exact hK _ _ ⟨rfl,a8,cap8,wq,rfl,h1,h2,h3,h4⟩)
      (by
       rintro u0 u1 u2 u3 w' ⟨rfl,a8,cap8,wq,rfl,h1,h2,h3,h4⟩ K hK
       have kk:Kept (Value.slice ma tsi.length mc).ownBlock.toList w4 w':=(h1.mono (by simp)).grown h3 (by intro k hk; left; simp [hk])
       have hr9:=kk.heap (uh HKS4).row (uh HKBX)
       obtain ⟨hw9,_⟩:=bcells2 hr9
       obtain ⟨hz9,_⟩:=froz2 hr9
       unfold Oper.wp execOp
       go_simp
       exact hK _ ⟨a8,cap8,wq,w',rfl,h1,h2,h3,h4,rfl⟩)
      ?_
     rintro u0 u1 u2 u3 w9 ⟨a8,cap8,wq,w8,rfl,kq,ho8,gr8,ha8,rfl⟩
     simp only [Act.put,sa1,sa2,sa3]
     have kk:Kept (Value.slice ma tsi.length mc).ownBlock.toList w4 w8:=(kq.mono (by simp)).grown gr8 (by intro k hk; left; simp [hk])
     have hr8:=kk.heap (uh HKS4).row (uh HKBX)
     have kS:=(Kept.refl [kb] w8).setCell (p:=⟨kb,0,none⟩) (.inl (by simp)) (.slice a8 (tsi.length + 1) cap8)
     have htw:=(uh HTW4).pass kq (by simp) (Y:=l :: B4) (fun x hx=>Or.inl hx)
     have hpush:=((uh HKS4).ow.pass kq (by simp)).push (t:=(si.nx,.slice ua es.length uc,es)) (by
      obtain ⟨B9,C9,j1,j2,j3,j4⟩:=htw
      exact ⟨B9,C9,j1,by have:=uh HW02; omega,fun b hb=>Or.inl (by have:=uh HMB b hb; omega),j3,j4⟩) (fun b hb=>Nat.lt_of_lt_of_le (uh HLB4 b hb) kq.size) ho8 gr8 ha8
     have k49:Kept (kb :: (Value.slice ma tsi.length mc).ownBlock.toList) w4 (w8.setCell ⟨kb,0,none⟩ (.slice a8 (tsi.length + 1) cap8)):=(kk.mono (fun x hx=>by simp [hx])).trans kS (fun x hx=>Or.inl (by simp at hx; simp [hx]))
     have HKS5:=hide (⟨by rw [heap_setCell_same _ kb 0 _ _ _ hr8]; rfl,hpush.pass kS (fun x hx=>Or.inl (by rw [List.mem_singleton.1 hx]; exact (uh HKS4).kl)),(uh HKS4).kx,(uh HKS4).kl⟩:KS w0 (w8.setCell ⟨kb,0,none⟩ (.slice a8 (tsi.length + 1) cap8)) kb (l :: B4) (.slice a8 (tsi.length + 1) cap8) (tsi++[(si.nx,.slice ua es.length uc,es)]) musti)
     have HMV5:=hide (fun b hb=>by
      rcases ha8 with h9 | h9
      ·rw [h9] at hb; exact uh HMV b hb
      ·rw [h9] at hb; simp only [Option.some.injEq] at hb; exact Or.inr (by have:=(uh HKX).size; have:=kq.size; omega):∀ b,(Value.slice a8 (tsi.length + 1) cap8).ownBlock = some b→mv.ownBlock = some b∨w.heap.size≤b)
     have HLK5:=hide ((uh HLK4).kept k49 (fun hm=>by
      rcases List.mem_cons.1 hm with h9 | h9
      ·exact (uh HKS4).kx (by simp [h9])
      ·exact (uh HKS4).ow.ap l (by simpa using h9) (by simp)) (fun x hx hm=>by
      rcases List.mem_cons.1 hm with h9 | h9
      ·exact (uh HKS4).kx (by rw [← h9]; simp [hx])
      ·exact (uh HKS4).ow.ap x (by simpa using h9) (by simp [hx])))
     have HKX5:=hide ((uh HKX).trans k49 (fun x hx=>by
      rcases List.mem_cons.1 hx with rfl | hx
      ·exact Or.inl (by simp)
      ·rcases uh HMV x (by simpa using hx) with h9 | h9
       ·exact Or.inl (by simp [h9])
       ·exact Or.inr h9))
     clear kk hr8 kS htw hpush k49 kq ho8 gr8 ha8 d0 d1 q0 q1
     go_wp2_with fail
     go_roundw
     case rel=>exact ⟨i + 1,B4,_,_,by omega,by simp,hide (by rw [uh HSC,uh HEC]; exact uh HLK5),HKX5,HB4,hide (by rw [uh HSC,uh HEC]; exact uh HKS5),hide (by rw [uh HSC,uh HEC,List.map_append,uh HMY]; rfl),hide (by rw [List.length_append]; have:=uh HTL; simp only [List.length_cons,List.length_nil]; omega),HMV5⟩
     case measure=>simp [intOf]; omega
    ·have hE0':((E:Int) == 0) = false:=by simp; omega
     by_cases hs0:si.st = 0
     ·have hs0':((si.st:Int) == 0) = true:=by rw [hs0]; rfl
      have HST:=hide (xa1k l d s' w4 (uh HROW))
      by_cases hs1:s'.st = 0
      ·have hs1':((s'.st:Int) != 0) = false:=by rw [hs1]; rfl
       rw [if_neg (by rintro (h9 | h9); exact hE0 h9; exact h9.2 hs1)] at HEC
       clear hE0 hs0 hs1
       go_wp2_with fail
       refine Calls.mono (uh HST) ?_
       rintro e w5 ⟨rfl,hw5⟩
       rw [hw5]
       clear hw5
       clear HTW4 HG4
       go_wp2_with fail
       go_roundw
       case rel=>exact ⟨i + 1,B4,_,tsi,by omega,by simp,hide (by rw [uh HSC,uh HEC]; exact uh HLK4),HKX,HB4,hide (by rw [uh HSC,uh HEC]; exact uh HKS4),hide (by rw [uh HSC,uh HEC]; exact uh HMY),hide (by have:=uh HTL; omega),HMV⟩
       case measure=>simp [intOf]; omega
      ·have hs1':((s'.st:Int) != 0) = true:=by rw [bne_iff_ne]; omega
       rw [if_pos (Or.inr ⟨hs0,hs1⟩)] at HEC
       clear hE0 hs0 hs1
       go_wp2_with fail
       refine Calls.mono (uh HST) ?_
       rintro e w5 ⟨rfl,hw5⟩
       rw [hw5]
       clear hw5
       have HKBX:=hide (fun hm=>by have h9:=((uh HKS4).ow.own.lt kb (by simpa using hm)).1; have:=(uh HKS4).kl; omega:kb∉(Value.slice ma tsi.length mc).ownBlock.toList)
       have HGX:=hide (fun hm=>by have h9:=uh HMB g (by simpa using hm); omega:g∉(Value.slice ma tsi.length mc).ownBlock.toList)
       obtain ⟨d0,d1⟩:=bcells2 (uh HKS4).row
       obtain ⟨q0,q1⟩:=bcells2 (uh HG4)
       go_upto_region 10 with fail
       refine wp_k11 (by kernel_rfl) (by kernel_rfl) (by kernel_rfl) (by kernel_rfl) (by kernel_rfl) (by kernel_rfl) (by kernel_rfl) (by kernel_rfl) (by kernel_rfl) (by kernel_rfl) (by kernel_rfl) (by kernel_rfl) (by kernel_rfl) (by kernel_rfl) (by kernel_rfl) (by kernel_rfl) (by kernel_rfl) (by kernel_rfl) (by kernel_rfl) (by kernel_rfl) (by kernel_rfl) rfl (by kernel_rfl) rfl (by kernel_rfl) rfl (by kernel_rfl) rfl (by kernel_rfl) rfl (by kernel_rfl)
        (.pointer (some ⟨kb,0,none⟩)) (.pointer (some ⟨kb,0,none⟩)) (.pointer (some ⟨kb,0,none⟩)) (.pointer (some ⟨kb,0,none⟩)) (.slice ma tsi.length mc) (.agg #[.int .u64 (si.nx:Int),.slice ua es.length uc]) _ _ _ _ _ _
        (fun w'=>Kept (Value.slice ma tsi.length mc).ownBlock.toList w4 w')
        (fun w'=>Kept [] w4 w')
        (fun u0 w'=>∃ h,u0 = .slice (some ⟨h,0,none⟩) 1 1∧w'.heap[h]? = some (.cells #[.int .u64 (si.nx:Int),.slice ua es.length uc] 129 (0,0))∧Kept [] w4 w')
        (fun u0 u1 w'=>∃ a8 cap8 wq,u1 = .slice a8 (tsi.length + 1) cap8∧Kept [] w4 wq∧w'.ownsRow w0.heap.size 129 2 u1 (tsi.length + 1) (cellsB tsi++cellsB [(si.nx,.slice ua es.length uc,es)])∧wq.grownBy w' (Value.slice ma tsi.length mc).ownBlock∧(u1.ownBlock = (Value.slice ma tsi.length mc).ownBlock∨u1.ownBlock = some wq.heap.size))
        (fun u0 u1 u2 w'=>u2 = .pointer (some ⟨kb,0,none⟩)∧∃ a8 cap8 wq,u1 = .slice a8 (tsi.length + 1) cap8∧Kept [] w4 wq∧w'.ownsRow w0.heap.size 129 2 u1 (tsi.length + 1) (cellsB tsi++cellsB [(si.nx,.slice ua es.length uc,es)])∧wq.grownBy w' (Value.slice ma tsi.length mc).ownBlock∧(u1.ownBlock = (Value.slice ma tsi.length mc).ownBlock∨u1.ownBlock = some wq.heap.size))
        (fun u0 u1 u2 u3 w'=>u3 = .pointer (some ⟨kb,0,none⟩)∧∃ a8 cap8 wq,u1 = .slice a8 (tsi.length + 1) cap8∧Kept [] w4 wq∧w'.ownsRow w0.heap.size 129 2 u1 (tsi.length + 1) (cellsB tsi++cellsB [(si.nx,.slice ua es.length uc,es)])∧wq.grownBy w' (Value.slice ma tsi.length mc).ownBlock∧(u1.ownBlock = (Value.slice ma tsi.length mc).ownBlock∨u1.ownBlock = some wq.heap.size))
        (fun u0 u1 u2 u3 w'=>∃ a8 cap8 wq w8,u1 = .slice a8 (tsi.length + 1) cap8∧Kept [] w4 wq∧w8.ownsRow w0.heap.size 129 2 u1 (tsi.length + 1) (cellsB tsi++cellsB [(si.nx,.slice ua es.length uc,es)])∧wq.grownBy w8 (Value.slice ma tsi.length mc).ownBlock∧(u1.ownBlock = (Value.slice ma tsi.length mc).ownBlock∨u1.ownBlock = some wq.heap.size)∧w' = w8.setCell ⟨kb,0,none⟩ u1)
        (by simp only [Act.put,sa1,sa2,sa3]; rfl) (by exact Or.inl ⟨by rfl,fun W' hW'=>by go_simp⟩)
        (by simp only [Act.put,sa1,sa2,sa3]; rfl) (by exact Or.inl ⟨by rfl,fun W' hW'=>by go_simp⟩)
        (by simp only [Act.put,sa1,sa2,sa3]; rfl) (by exact Or.inl ⟨by rfl,fun W' hW'=>by go_simp⟩)
        (by simp only [Act.put,sa1,sa2,sa3]; rfl) (by exact Or.inl ⟨by rfl,fun W' hW'=>by go_simp⟩)
        (by simp only [Act.put,sa1,sa2,sa3]; rfl) (by exact Or.inl ⟨by rfl,fun W' hW'=>by have h90:=hW'.cell d0 (uh HKBX); go_simp⟩)
        (by simp only [Act.put,sa1,sa2,sa3]; rfl) (by exact Or.inl ⟨by rfl,fun W' hW'=>by have h90:=hW'.cell q0 (uh HGX); have h91:=hW'.cell q1 (uh HGX); go_simp⟩)
        (Kept.refl [] w4).drew
        ⟨fun w' h=>h.mono (by simp),fun u0 w' h=>by obtain ⟨_,_,_,h1⟩:=h; exact h1.mono (by simp),fun u0 u1 w' h=>by obtain ⟨a8,cap8,wq,_,h1,_,h2,_⟩:=h; exact (h1.mono (by simp)).grown h2 (by intro k hk; left; simp [hk]),fun u0 u1 u2 w' h=>by obtain ⟨_,a8,cap8,wq,_,h1,_,h2,_⟩:=h; exact (h1.mono (by simp)).grown h2 (by intro k hk; left; simp [hk]),fun u0 u1 u2 u3 w' h=>by obtain ⟨_,a8,cap8,wq,_,h1,_,h2,_⟩:=h; exact (h1.mono (by simp)).grown h2 (by intro k hk; left; simp [hk])⟩
        (by
         intro w' k K hK
         have hK2:=hK _ _ ⟨w'.heap.size,rfl,heap_alloc_new w' (.cells #[.int .u64 (si.nx:Int),.slice ua es.length uc] 129),k.alloc _⟩
         clear hK
         simp only [Act.put,sa1,sa2,sa3] at hK2 ⊢
         unfold Oper.wp execOp
         go_simp
         exact hK2)
        (by
         rintro u0 w' ⟨hh,rfl,hr0,k⟩ K hK
         have hS7:=(uh HKS4).ow.pass k (by simp)
         have hrc:RdC 2 w' (.slice (some ⟨hh,0,none⟩) 1 1) [[.int .u64 (si.nx:Int),.slice ua es.length uc]]:=xb4s hr0
         obtain ⟨a8,cap8,w8,hrun,h8,hg8,ha8⟩:=appendC w' w0.heap.size 46 129 (.agg #[.int .u64 0,.slice none 0 0]) 2 32 Tryz.underlying46 Tryz.infoBt rfl (by decide) (.slice ma tsi.length mc) tsi.length (cellsB tsi) hS7.own (some ⟨hh,0,none⟩) 1 1 [[.int .u64 (si.nx:Int),.slice ua es.length uc]] hrc (by simp) (by simp [Value.oneCell']) (by have:=uh HTL; omega) (by have:=uh HTL; omega) hS7.sz
         have hK2:=hK _ _ ⟨a8,cap8,w',rfl,k,h8,hg8,ha8⟩
         clear hK
         simp only [Act.put,sa1,sa2,sa3] at hK2 ⊢
         exact xa9n 46 (.tmp 57) (.tmp 59) rfl rfl (.slice ma tsi.length mc) (.slice (some ⟨hh,0,none⟩) 1 1) rfl rfl _ _ hrun hK2)
        (by rintro u0 u1 w' ⟨a8,cap8,wq,rfl,h1,h2,h3,h4⟩ K hK; unfold Oper.wp execOp; go_simp; exact hK _ _ ⟨rfl,a8,cap8,wq,rfl,h1,h2,h3,h4⟩)
        (by rintro u0 u1 u2 w' ⟨rfl,a8,cap8,wq,rfl,h1,h2,h3,h4⟩ K hK; unfold Oper.wp execOp; go_simp; exact hK _ _ ⟨rfl,a8,cap8,wq,rfl,h1,h2,h3,h4⟩)
        (by
         rintro u0 u1 u2 u3 w' ⟨rfl,a8,cap8,wq,rfl,h1,h2,h3,h4⟩ K hK
         have kk:Kept (Value.slice ma tsi.length mc).ownBlock.toList w4 w':=(h1.mono (by simp)).grown h3 (by intro k hk; left; simp [hk])
         have hr9:=kk.heap (uh HKS4).row (uh HKBX)
         obtain ⟨hw9,_⟩:=bcells2 hr9
         obtain ⟨hz9,_⟩:=froz2 hr9
         unfold Oper.wp execOp
         go_simp
         exact hK _ ⟨a8,cap8,wq,w',rfl,h1,h2,h3,h4,rfl⟩)
        ?_
       rintro u0 u1 u2 u3 w9 ⟨a8,cap8,wq,w8,rfl,kq,ho8,gr8,ha8,rfl⟩
       simp only [Act.put,sa1,sa2,sa3]
       have kk:Kept (Value.slice ma tsi.length mc).ownBlock.toList w4 w8:=(kq.mono (by simp)).grown gr8 (by intro k hk; left; simp [hk])
       have hr8:=kk.heap (uh HKS4).row (uh HKBX)
       have kS:=(Kept.refl [kb] w8).setCell (p:=⟨kb,0,none⟩) (.inl (by simp)) (.slice a8 (tsi.length + 1) cap8)
       have htw:=(uh HTW4).pass kq (by simp) (Y:=l :: B4) (fun x hx=>Or.inl hx)
       have hpush:=((uh HKS4).ow.pass kq (by simp)).push (t:=(si.nx,.slice ua es.length uc,es)) (by
        obtain ⟨B9,C9,j1,j2,j3,j4⟩:=htw
        exact ⟨B9,C9,j1,by have:=uh HW02; omega,fun b hb=>Or.inl (by have:=uh HMB b hb; omega),j3,j4⟩) (fun b hb=>Nat.lt_of_lt_of_le (uh HLB4 b hb) kq.size) ho8 gr8 ha8
       have k49:Kept (kb :: (Value.slice ma tsi.length mc).ownBlock.toList) w4 (w8.setCell ⟨kb,0,none⟩ (.slice a8 (tsi.length + 1) cap8)):=(kk.mono (fun x hx=>by simp [hx])).trans kS (fun x hx=>Or.inl (by simp at hx; simp [hx]))
       have HKS5:=hide (⟨by rw [heap_setCell_same _ kb 0 _ _ _ hr8]; rfl,hpush.pass kS (fun x hx=>Or.inl (by rw [List.mem_singleton.1 hx]; exact (uh HKS4).kl)),(uh HKS4).kx,(uh HKS4).kl⟩:KS w0 (w8.setCell ⟨kb,0,none⟩ (.slice a8 (tsi.length + 1) cap8)) kb (l :: B4) (.slice a8 (tsi.length + 1) cap8) (tsi++[(si.nx,.slice ua es.length uc,es)]) musti)
       have HMV5:=hide (fun b hb=>by
        rcases ha8 with h9 | h9
        ·rw [h9] at hb; exact uh HMV b hb
        ·rw [h9] at hb; simp only [Option.some.injEq] at hb; exact Or.inr (by have:=(uh HKX).size; have:=kq.size; omega):∀ b,(Value.slice a8 (tsi.length + 1) cap8).ownBlock = some b→mv.ownBlock = some b∨w.heap.size≤b)
       have HLK5:=hide ((uh HLK4).kept k49 (fun hm=>by
        rcases List.mem_cons.1 hm with h9 | h9
        ·exact (uh HKS4).kx (by simp [h9])
        ·exact (uh HKS4).ow.ap l (by simpa using h9) (by simp)) (fun x hx hm=>by
        rcases List.mem_cons.1 hm with h9 | h9
        ·exact (uh HKS4).kx (by rw [← h9]; simp [hx])
        ·exact (uh HKS4).ow.ap x (by simpa using h9) (by simp [hx])))
       have HKX5:=hide ((uh HKX).trans k49 (fun x hx=>by
        rcases List.mem_cons.1 hx with rfl | hx
        ·exact Or.inl (by simp)
        ·rcases uh HMV x (by simpa using hx) with h9 | h9
         ·exact Or.inl (by simp [h9])
         ·exact Or.inr h9))
       clear kk hr8 kS htw hpush k49 kq ho8 gr8 ha8 d0 d1 q0 q1
       go_wp2_with fail
       go_roundw
       case rel=>exact ⟨i + 1,B4,_,_,by omega,by simp,hide (by rw [uh HSC,uh HEC]; exact uh HLK5),HKX5,HB4,hide (by rw [uh HSC,uh HEC]; exact uh HKS5),hide (by rw [uh HSC,uh HEC,List.map_append,uh HMY]; rfl),hide (by rw [List.length_append]; have:=uh HTL; simp only [List.length_cons,List.length_nil]; omega),HMV5⟩
       case measure=>simp [intOf]; omega
     ·have hs0':((si.st:Int) == 0) = false:=by simp; omega
      rw [if_neg (by rintro (h9 | h9); exact hE0 h9; exact hs0 h9.1)] at HEC
      clear hE0 hs0
      clear HTW4 HG4
      go_wp2_with fail
      go_roundw
      case rel=>exact ⟨i + 1,B4,_,tsi,by omega,by simp,hide (by rw [uh HSC,uh HEC]; exact uh HLK4),HKX,HB4,hide (by rw [uh HSC,uh HEC]; exact uh HKS4),hide (by rw [uh HSC,uh HEC]; exact uh HMY),hide (by have:=uh HTL; omega),HMV⟩
      case measure=>simp [intOf]; omega
   ·have HSY:=hide (xa4l l d _ _ _ g0 Bi σi si w2 (uh HLK1) (uh HVR1) (by omega) (by omega))
    obtain ⟨⟨E,τ,s'⟩,hE⟩:∃ r,lgSync σi si = r:=⟨_,rfl⟩
    have HEC:=hide (by unfold scStep; rw [if_pos rfl]; dsimp only; rw [hE]:scStep ⟨σi,si,mayi,musti⟩ (true,es) = ⟨τ,s',mayi,if E = 0 then mayi.length else musti⟩)
    rw [hE] at HSY
    dsimp only at HSY
    clear hE
    go_wp2_with fail
    refine Calls.mono (uh HSY) ?_
    rintro e w3 ⟨B3,rfl,hl3,ev3⟩
    have HLK3:=hide (hl3.more (nb':=nb + (i + 1)) (ob':=ob + 6 * (i + 1)) (bb':=bb + 40048 * (i + 1)) (by omega) (by omega) (by omega))
    have HB3:=hide (fun x hx=>by
     rcases ev3.2 x hx with h9 | h9
     ·exact uh HBN x h9
     ·exact Or.inr (by have:=(uh HK1).size; omega):∀ x∈B3,x∈B∨w.heap.size≤x)
    have HKX:=hide ((uh HK1).trans ev3.1 (fun x hx=>by
     rcases List.mem_cons.1 hx with rfl | hx
     ·exact Or.inl (by simp)
     ·rcases uh HBN x hx with h9 | h9
      ·exact Or.inl (by simp [h9])
      ·exact Or.inr h9))
    have hks3:KS w0 w3 kb (l :: B3) mvi tsi musti:=⟨ev3.1.heap (uh HKS1).row (uh HKS1).kx,(uh HKS1).ow.mv ev3.1 (fun x hx=>by
     rcases List.mem_cons.1 hx with rfl | hx
     ·exact Or.inl (by simp)
     ·rcases ev3.2 x hx with h9 | h9
      ·exact Or.inl (by simp [h9])
      ·exact Or.inr h9),fun hm=>by
     rcases List.mem_cons.1 hm with h9 | h9
     ·exact (uh HKS1).kx (by simp [h9])
     ·rcases ev3.2 kb h9 with h8 | h8
      ·exact (uh HKS1).kx (by simp [h8])
      ·have:=uh HKB; have:=(uh HK1).size; omega,(uh HKS1).kl⟩
    have HKS3:=hide hks3
    clear hl3 ev3 hks3 HSY p0 p1
    obtain ⟨ma,mc,rfl⟩:=(uh HKS3).ow.shape
    by_cases hE0:E = 0
    ·subst hE0
     rw [if_pos rfl] at HEC
     obtain ⟨k0,k1⟩:=bcells2 (uh HKS3).row
     obtain ⟨z0,z1⟩:=froz2 (uh HKS3).row
     have HML:=hide (by rw [← uh HMY,List.length_map]:mayi.length = tsi.length)
     have kS:=(Kept.refl [kb] w3).setCell (p:=⟨kb,1,none⟩) (.inl (by simp)) (.int .i64 (tsi.length:Int))
     have HKS4:=hide (⟨by rw [heap_setCell_same _ kb 1 _ _ _ (uh HKS3).row]; rfl,(uh HKS3).ow.pass kS (fun x hx=>Or.inl (by rw [List.mem_singleton.1 hx]; exact (uh HKS3).kl)),(uh HKS3).kx,(uh HKS3).kl⟩:KS w0 (w3.setCell ⟨kb,1,none⟩ (.int .i64 (tsi.length:Int))) kb (l :: B3) (.slice ma tsi.length mc) tsi tsi.length)
     have HLK4:=hide ((uh HLK3).kept kS (fun hm=>(uh HKS3).kx (by rw [← List.mem_singleton.1 hm]; simp)) (fun x hx hm=>(uh HKS3).kx (by rw [← List.mem_singleton.1 hm]; simp [hx])))
     have HKX4:=hide ((uh HKX).trans kS (fun x hx=>Or.inl (by rw [List.mem_singleton.1 hx]; simp)))
     clear kS
     go_wp2_with fail
     go_roundw
     case rel=>exact ⟨i + 1,B3,_,tsi,by omega,by simp,hide (by rw [uh HSC,uh HEC]; exact uh HLK4),HKX4,HB3,hide (by rw [uh HSC,uh HEC,uh HML]; exact uh HKS4),hide (by rw [uh HSC,uh HEC]; exact uh HMY),hide (by have:=uh HTL; omega),HMV⟩
     case measure=>simp [intOf]; omega
    ·have hE0':((E:Int) == 0) = false:=by simp; omega
     rw [if_neg hE0] at HEC
     clear hE0
     go_wp2_with fail
     go_roundw
     case rel=>exact ⟨i + 1,B3,_,tsi,by omega,by simp,hide (by rw [uh HSC,uh HEC]; exact uh HLK3),HKX,HB3,hide (by rw [uh HSC,uh HEC]; exact uh HKS3),hide (by rw [uh HSC,uh HEC]; exact uh HMY),hide (by have:=uh HTL; omega),HMV⟩
     case measure=>simp [intOf]; omega
  ·have hlt':¬ (i:Int) < os.length:=by omega
   have hie:i = os.length:=by omega
   subst hie
   rw [List.take_length] at HLK HKS HMY
   go_wp2_with fail
   refine bodyPost_end (v:=.tuple #[]) (results_none rfl _ _ _) rfl ⟨Bi,mvi,tsi,rfl,uh HLK,uh HK,uh HBN,uh HKS,uh HMY⟩
end
section
open Go Go.RowKit Go.BigFrame
section
variable {P:Program} {Q:Exit→Act→World→Prop}
end
end
section
open Go.RowKit Go.BigFrame Go.Maps Go.Sort



end
section
open Go Go.RowKit Go.BigFrame
section
variable {P:Program} {Q:Exit→Act→World→Prop}
end
end
section
open Go.RowKit Go.BigFrame Go.Maps Go.Sort
theorem LK.lts {w:World} {l d nb ob bb:Nat} {B:List Nat} {σ:DSt} {s:LSt} (h:LK w l d B nb ob bb σ s):∀ x∈l :: B,x < w.heap.size:=by
 intro x hx
 rcases List.mem_cons.1 hx with rfl | hx
 ·exact h.lt
 ·exact h.dk.lt x hx




structure LifeO (g:Nat) (w:World) (fv sv kv:Value) (fl:List (Int × Int)) (os:List (Bool × List En)) (ks:List KeepD):Prop where
 rd:∀ M w',Kept M w w'→(∀ x∈M,g≤x)→RdC 2 w' fv (fl.map faC)∧RdC 3 w' kv (ks.map keC)
 so:∃ ts:List (Bool × Value × List En),os = ts.map (fun t=>(t.1,t.2.2))∧(∀ t∈ts,t.2.2.length≤1048576)∧∀ M w',Kept M w w'→(∀ x∈M,g≤x)→RdC 2 w' sv (ts.map o9C)∧∀ t∈ts,RdN w' t.2.1 t.2.2
 fz:∀ x∈zblk fv (fl.map faC),x < g
 kz:∀ x∈zblk kv (ks.map keC),x < g
 fo:∀ x∈fl,OkFa x
 fn:fl.length≤1048576
 ko:∀ k∈ks,OkKe k
 kn:ks.length≤1048576
 on:os.length≤1048576
theorem cells6 {w:World} {b:Nat} {x0 x1 x2 x3 x4 x5:Value} {t:TypeId} (h:w.heap[b]? = some (.cells #[x0,x1,x2,x3,x4,x5] t (0,0))):w.cell? ⟨b,0,none⟩ = some x0∧w.cell? ⟨b,1,none⟩ = some x1∧w.cell? ⟨b,2,none⟩ = some x2∧w.cell? ⟨b,3,none⟩ = some x3∧w.cell? ⟨b,4,none⟩ = some x4∧w.cell? ⟨b,5,none⟩ = some x5:=scells h
theorem cells4 {w:World} {b:Nat} {x0 x1 x2 x3:Value} {t:TypeId} (h:w.heap[b]? = some (.cells #[x0,x1,x2,x3] t (0,0))):w.cell? ⟨b,0,none⟩ = some x0∧w.cell? ⟨b,1,none⟩ = some x1∧w.cell? ⟨b,2,none⟩ = some x2∧w.cell? ⟨b,3,none⟩ = some x3:=hcells h

set_option maxHeartbeats 1000000 in
theorem xb7c (sec:Int) (w:World) :
  Calls Tryz.prog 10 #[.int .i64 sec] w fun e w'=>∃ p,e = .returned (.tuple #[p,.int .i64 (FrR sec []:Nat)])∧Kept [] w w'∧(FrR sec []≠0→p = .pointer none)∧(FrR sec [] = 0→∃ d D,p = .pointer (some ⟨d,0,none⟩)∧DK w' d D 0 0 ⟨sec.toNat,0,0,false,fun _=>none,[]⟩∧∀ x∈D,w.heap.size≤x):=by
 have HN:=hide (xb4a sec (.slice none 0 0) [] [] w.heap.size 0 w (OwnI.nil _ _) rfl (by simp) (by simp) (by simp))
 generalize FrR sec [] = FR at HN ⊢
 go_enter Tryz.func10,Tryz.ntmps10
 go_wp2_with fail
 refine Calls.mono (uh HN) ?_
 rintro e w1 ⟨p,rfl,k1,h1,h2⟩
 have HK:=hide k1
 have H1:=hide h1
 have H2:=hide h2
 clear k1 h1 h2
 go_wp2_with fail
 go_ret2
 exact ⟨_,rfl,uh HK,uh H1,uh H2⟩
structure Lf where
 fv:Value
 cr:Int
 sv:Value
 cut:Bool
 n:Int
 kv:Value
 fl:List (Int × Int)
 os:List (Bool × List En)
 ks:List KeepD
def lfC (x:Lf):List Value:=[x.fv,.int .i64 x.cr,x.sv,.bool x.cut,.int .i64 x.n,x.kv]
def lfW (x:Lf):Nat:=x.fl.length + x.os.length + 1
theorem xb6z (ls:List Lf) (i:Nat) (h:i < ls.length):((ls.take (i + 1)).map lfW).sum = ((ls.take i).map lfW).sum + lfW ls[i]:=by
 rw [List.take_succ_eq_append_getElem h,List.map_append,List.sum_append]; simp
theorem lfW_le (ls:List Lf) (i:Nat):((ls.take i).map lfW).sum≤(ls.map lfW).sum:=by
 have h:=List.take_append_drop i ls
 conv=>rhs; rw [← h]
 rw [List.map_append,List.sum_append]; omega
theorem VarsG.up {g g':Nat} {w:World} (h:VarsG g w) (hg:g≤g'):VarsG g' w:=fun L w' k hL=>h L w' k (fun x hx=>Nat.le_trans hg (hL x hx))
theorem xa6z {σ:DSt} {s:LSt} (h:s.num < 18446744073709551616):(lgRot σ s).2.2.num < 18446744073709551616:=by
 unfold lgRot
 split
 ·exact h
 ·split
  ·exact h
  ·split
   ·exact h
   ·show s.num + 1 < _; omega
theorem xa7l {σ:DSt} {s:LSt} (p:List Nat) (h:s.num < 18446744073709551616):(lgLay σ s p).2.2.num < 18446744073709551616:=by
 unfold lgLay
 dsimp only
 split <;> exact h
theorem xa6j {σ:DSt} {s:LSt} (es:List En) (h:s.num < 18446744073709551616):(lgAppend σ s es).2.2.num < 18446744073709551616:=by
 unfold lgAppend
 split
 ·exact h
 ·split
  ·exact h
  ·show (lgWrite σ s (sbB s.nx es)).2.2.num < _
   unfold lgWrite
   split
   ·split
    ·exact xa6z h
    ·exact xa7l _ (xa6z h)
   ·exact xa7l _ h
theorem xa9v {σ:DSt} {s:LSt} (h:s.num < 18446744073709551616):(lgSync σ s).2.2.num < 18446744073709551616:=by
 unfold lgSync
 split <;> exact h
theorem scR_SI:∀ (os:List (Bool × List En)) {c:ScS},SI c.σ c.s→c.s.num < 18446744073709551616→SI (scR c os).σ (scR c os).s
 | [],c,h,_=>h
 | o :: r,c,h,hn=>by
  have e:scR c (o :: r) = scR (scStep c o) r:=rfl
  rw [e]
  have h1:SI (scStep c o).σ (scStep c o).s∧(scStep c o).s.num < 18446744073709551616:=by
   unfold scStep
   split
   ·exact ⟨h.sync,xa9v hn⟩
   ·exact ⟨h.append _ hn,xa6j _ hn⟩
  exact scR_SI r h1.1 h1.2
theorem xa5o {w:World} {a:Option Addr} {l c:Nat} {ts:List (DF × Value)} (h:RdFl w (.slice a l c) ts) (k:Nat) (hk:k < ts.length):l = ts.length∧l≤c∧∃ b off,a = some ⟨b,off,none⟩∧w.cell? ⟨b,off + k * 4,none⟩ = some (.string ts[k].1.nm)∧w.cell? ⟨b,off + k * 4 + 1,none⟩ = some ts[k].2∧w.cell? ⟨b,off + k * 4 + 2,none⟩ = some (.int .i64 (ts[k].1.sy:Int))∧w.cell? ⟨b,off + k * 4 + 3,none⟩ = some (.bool ts[k].1.nd)∧Rd w ts[k].2 ts[k].1.bs:=by
 obtain ⟨⟨ao,len,cap,e,h1,h2,h3,h4⟩,h5⟩:=h
 injection e with e1 e2 e3
 subst e1 e2 e3
 rw [List.length_map] at h1
 obtain ⟨b,off,hb,hc⟩:=h4 (by omega)
 have hr:=hc k (by rw [List.length_map]; exact hk)
 rw [List.getElem_map] at hr
 exact ⟨h1.symm,h2,b,off,hb,hr 0 _ rfl,hr 1 _ rfl,hr 2 _ rfl,hr 3 _ rfl,h5 ts[k] (List.getElem_mem hk)⟩
set_option maxHeartbeats 8000000 in
theorem walSticky_walk (sec wd lim:Int) (v:Value) (ls:List Lf) (mv:Value) (ms:List (Bool × List En)) (W:World) (h1:-9223372036854775808≤sec∧sec≤9223372036854775807) (hr:RdC 6 W v (ls.map lfC)) (ho:∀ x∈ls,LifeO W.heap.size W x.fv x.sv x.kv x.fl x.os x.ks∧Rng x.n) (hs:(ls.map lfW).sum + 1≤1048576) (hmo:∃ ts:List (Bool × Value × List En),ms = ts.map (fun t=>(t.1,t.2.2))∧ms.length≤1048576∧(∀ t∈ts,t.2.2.length≤1048576)∧RdC 2 W mv (ts.map o9C)∧∀ t∈ts,RdN W t.2.1 t.2.2) (hv:VarsS W) :
  Calls Tryz.prog 7 #[.agg #[.int .i64 sec,.int .i64 wd,.int .i64 lim,v],mv] W fun r w'=>r = .returned (.bool true)∧Below W.heap.size W w':=by
 obtain ⟨t8,hms,hml,hmt,hm1,hm2⟩:=hmo
 obtain ⟨xa,xl,xc,rfl,hxl,_⟩:=id hm1
 have hxl2:xl = ms.length:=by rw [← hxl,hms,List.length_map,List.length_map]
 subst hxl2
 have HMS:=hide hms
 have HMT:=hide hmt
 have HM1:=hide hm1
 have HM2:=hide hm2
 clear hms hmt hm1 hm2 hxl
 obtain ⟨va,vl,vc,rfl,hvl,_⟩:=id hr
 rw [List.length_map] at hvl
 subst hvl
 have kA:=(Kept.refl [] W).alloc (.cells #[.int .i64 sec,.int .i64 wd,.int .i64 lim,.slice va ls.length vc] 24)
 have hA:=heap_alloc_new W (.cells #[.int .i64 sec,.int .i64 wd,.int .i64 lim,.slice va ls.length vc] 24)
 obtain ⟨W1,hW1⟩:∃ X,W.alloc (.cells #[.int .i64 sec,.int .i64 wd,.int .i64 lim,.slice va ls.length vc] 24) = X:=⟨_,rfl⟩
 rw [hW1] at kA hA
 have HW1:=hide hW1
 have HKA:=hide kA
 have HA:=hide hA
 have HR:=hide hr
 have HO:=hide ho
 have HVG:=hide (VarsG.start hv)
 have HAW:=hide (xb1c W1 (((VarsG.start hv).old kA).now))
 obtain ⟨FR,hFR⟩:∃ FR,FrR sec [] = FR:=⟨_,rfl⟩
 have HFR:=hide hFR
 clear hW1 kA hA hr ho hv hFR
 go_enter Tryz.func7,Tryz.ntmps7
 go_upto_region 1 with fail
 rw [uh HW1]
 go_wp2_with fail
 refine Calls.mono (uh HAW) ?_
 rintro e w1 ⟨rfl,k1⟩
 have HK1:=hide ((uh HKA).trans k1 (by simp))
 have HS1:=hide (by have h9:=k1.size; have h8:W1.heap.size = W.heap.size + 1:=(by rw [← uh HW1]; simp); omega:W.heap.size + 1≤w1.heap.size)
 have HA1:=hide (k1.heap (uh HA) (by simp))
 have HN:=hide (xb7c sec w1)
 rw [uh HFR] at HN
 obtain ⟨b0,b1,b2,b3⟩:=cells4 (uh HA1)
 clear k1 HAW HA
 go_wp2_with fail
 refine Calls.mono (uh HN) ?_
 rintro e w2 ⟨p,rfl,k2,hp0,hp1⟩
 have HK2:=hide ((uh HK1).trans k2 (by simp))
 have HS2:=hide (by have h9:=k2.size; have:=uh HS1; omega:W.heap.size + 1≤w2.heap.size)
 have HA2:=hide (k2.heap (uh HA1) (by simp))
 have HP0:=hide hp0
 have HP1:=hide hp1
 clear k2 hp0 hp1 HN b0 b1 b2 b3 HA1
 obtain ⟨b0,b1,b2,b3⟩:=cells4 (uh HA2)
 by_cases h0:FR = 0
 ·subst h0
  obtain ⟨d,D,hpd,hD,hDn⟩:=uh HP1 (by simp)
  subst hpd
  have HD2:=hide hD
  have HDN:=hide hDn
  clear hD hDn HP0 HP1
  by_cases hl0:ls.length = 0
  ·have hl1:(((ls.length:Nat):Int) == 0) = true:=by rw [beq_iff_eq]; omega
   clear hl0
   go_wp2_with fail
   go_ret
   exact ⟨rfl,(uh HK2).below (Nat.le_refl _) (by simp)⟩
  ·have hl1:(((ls.length:Nat):Int) == 0) = false:=by rw [beq_eq_false_iff_ne]; omega
   have hlt:0 < ls.length:=by omega
   have hlt':(0:Int) < ((ls.length:Nat):Int):=by omega
   obtain ⟨qa,ql,qc,hq1,hq2,hq3,hq4,hq5⟩:=uh HR
   injection hq1 with r1 r2 r3
   subst r1 r2 r3
   obtain ⟨bk,o2,rfl,hcc⟩:=hq5 (by omega)
   have hri:=hcc 0 (by rw [List.length_map]; exact hlt)
   rw [List.getElem_map] at hri
   have hox:=uh HO ls[0] (List.getElem_mem hlt)
   have HSM:=hide (by have h9:=xb6z ls 0 hlt; have h8:=lfW_le ls 1; simp only [List.take_zero,List.map_nil,List.sum_nil,Nat.zero_add] at h9; omega:lfW ls[0]≤1048575)
   clear hcc hq2 hq4 hq5
   generalize ls[0] = X at hri hox HSM
   obtain ⟨fv,cr,sv,cut,n,kv,fl,os,ks⟩:=X
   obtain ⟨hlo,hrn⟩:=hox
   dsimp only at hlo hrn
   obtain ⟨⟨fa,f2,fc,hfv,_⟩,⟨ka,k2,kc,hkv,_⟩⟩:=hlo.rd [] W (Kept.refl _ _) (by simp)
   obtain ⟨t9,hos9,hte9,hts⟩:=hlo.so
   obtain ⟨sa,s2,sc,hsv,_⟩:=(hts [] W (Kept.refl _ _) (by simp)).1
   subst hfv hkv hsv
   have x0:=(uh HK2).cell (hri 0 _ rfl) (by simp)
   have x1:=(uh HK2).cell (hri 1 _ rfl) (by simp)
   have x2:=(uh HK2).cell (hri 2 _ rfl) (by simp)
   have x3:=(uh HK2).cell (hri 3 _ rfl) (by simp)
   have x4:=(uh HK2).cell (hri 4 _ rfl) (by simp)
   have x5:=(uh HK2).cell (hri 5 _ rfl) (by simp)
   simp only [Nat.add_zero,Nat.zero_mul] at x0 x1 x2 x3 x4 x5
   have hvc:(0:Int) < ((vc:Nat):Int):=by omega
   have hOO:OldO W.heap.size W (.slice sa s2 sc) os:=fun M w' k hM=>⟨t9,hos9,(hts M w' k hM).1,fun t ht=>⟨(hts M w' k hM).2 t ht,hte9 t ht⟩⟩
   have HOO:=hide hOO
   have HLO:=hide hlo
   have hlw:fl.length + os.length + 1≤1048575:=uh HSM
   clear hri hlo hrn hts hos9 hte9 hOO hq3 HSM
   go_upto_region 7 with fail
   have kA:=(Kept.refl [] w2).alloc (.cells #[.slice fa f2 fc,.int .i64 cr,.slice sa s2 sc,.bool cut,.int .i64 n,.slice ka k2 kc] 39)
   have hA:=heap_alloc_new w2 (.cells #[.slice fa f2 fc,.int .i64 cr,.slice sa s2 sc,.bool cut,.int .i64 n,.slice ka k2 kc] 39)
   obtain ⟨w3,hw3⟩:∃ X,w2.alloc (.cells #[.slice fa f2 fc,.int .i64 cr,.slice sa s2 sc,.bool cut,.int .i64 n,.slice ka k2 kc] 39) = X:=⟨_,rfl⟩
   have HZ3:=hide (by rw [← hw3]; simp:w3.heap.size = w2.heap.size + 1)
   rw [hw3] at kA hA ⊢
   have HA3:=hide (kA.heap (uh HA2) (by simp))
   have HK3:=hide ((uh HK2).trans kA (by simp))
   have HL3:=hide hA
   have HGD:=hide (fun x hx=>Nat.le_trans (uh HS1) (uh HDN x hx):∀ x∈D,W.heap.size + 1≤x)
   have HDL:=hide ((uh HD2).lt:∀ x∈D,x < w2.heap.size)
   have HPL:=hide (plan_D d 0 0 D _ (.slice fa f2 fc) fl cr w3 ((uh HD2).old kA) ((uh HLO).rd [] w3 (uh HK3) (by simp)).1 (fun x hx hm=>by have h9:=(uh HLO).fz x hx; have h8:=uh HGD x hm; omega) (uh HLO).fo (uh HLO).fn)
   clear kA hA hw3 b0 b1 b2 b3 x0 x1 x2 x3 x4 x5 HA2
   obtain ⟨a0,a1,a2,a3,a4,a5⟩:=cells6 (uh HL3)
   go_wp2_with fail
   refine Calls.mono (uh HPL) ?_
   rintro e w4 ⟨B4,rfl,hd4,ev4⟩
   have HK4:=hide ((uh HK3).trans ev4.1 (fun x hx=>Or.inr (by have:=uh HGD x hx; omega)))
   have HA4:=hide (ev4.1.heap (uh HA3) (fun hm=>by have:=uh HGD _ hm; omega))
   have HL4:=hide (ev4.1.heap (uh HL3) (fun hm=>by have:=uh HDL _ hm; omega))
   have HG4:=hide (fun x hx=>by
    rcases ev4.2 x hx with h9 | h9
    ·exact uh HGD x h9
    ·have:=uh HZ3; have:=uh HS2; omega:∀ x∈B4,W.heap.size + 1≤x)
   have HLB4:=hide (fun hm=>by
    rcases ev4.2 _ hm with h9 | h9
    ·have:=uh HDL _ h9; omega
    ·have:=uh HZ3; omega:w2.heap.size∉B4)
   have HS4:=hide (by have:=ev4.1.size; have:=uh HZ3; omega:w2.heap.size + 1≤w4.heap.size)
   have hF4:DKf w4 d B4 (0 + fl.length) 0 0 (stPlan ⟨sec.toNat,0,0,false,fun _=>none,[]⟩ fl cr):=hd4.toF (by show (0:Int)≤0; omega)
   have hrt:rdT (stPlan ⟨sec.toNat,0,0,false,fun _=>none,[]⟩ fl cr) (nmsOf (stPlan ⟨sec.toNat,0,0,false,fun _=>none,[]⟩ fl cr))≤1000000000000:=Nat.le_trans (rdT_le _ hF4.dist) (Nat.le_trans (xb5u _) (by simp [phi,stPlan]))
   have HV4:=hide (((uh HVG).up (Nat.le_succ _)).old (uh HK4))
   have HOP:=hide (xa7j d (0 + fl.length) 0 0 (W.heap.size + 1) wd lim B4 _ w4 hF4 (uh HV4) (uh HG4) (by have:=uh HS4; have:=uh HS2; omega) (by omega) (by omega) (by omega) hrt)
   clear hd4 ev4 hF4 hrt HPL HDL HZ3 HD2 HDN HGD HA3 HL3 HK3 a0 a1 a2 a3 a4 a5
   generalize stPlan ⟨sec.toNat,0,0,false,fun _=>none,[]⟩ fl cr = τ at HOP
   obtain ⟨b0,b1,b2,b3⟩:=cells4 (uh HA4)
   go_wp2_with fail
   refine Calls.mono (uh HOP) ?_
   rintro e w5 ⟨B5,lp,bv,ts5,rfl,hA⟩
   obtain ⟨ba,bc,rfl⟩:=hA.ow.shape
   have HA:=hide hA
   have HK5:=hide ((uh HK4).trans hA.ev.1 (fun x hx=>Or.inr (by have:=uh HG4 x hx; omega)))
   have HL5:=hide (hA.ev.1.heap (uh HL4) (uh HLB4))
   have HS5:=hide (by have:=hA.ev.1.size; have:=uh HS4; omega:w2.heap.size + 1≤w5.heap.size)
   have HSI:=hide (fun s h9=>(xb6e h9).1:∀ s,(opD τ wd lim).l = some s→SI (opD τ wd lim).σ s)
   clear hA HOP b0 b1 b2 b3
   generalize opD τ wd lim = A at HA HSI ⊢
   have hcs:((((A.e:Nat):Int) != 0) = true)∨((((A.e:Nat):Int) != 0) = false∧lp = .pointer none)∨((((A.e:Nat):Int) != 0) = false∧∃ s,A.l = some s):=by
    by_cases h9:A.e = 0
    ·cases hl:A.l with
     | none=>exact Or.inr (Or.inl ⟨by rw [h9]; rfl,(uh HA).no hl⟩)
     | some s=>exact Or.inr (Or.inr ⟨by rw [h9]; rfl,s,rfl⟩)
    ·exact Or.inl (by rw [bne_iff_ne]; omega)
   have HLPV:=hide (by
    cases hl:A.l with
    | none=>exact Or.inl ((uh HA).no hl)
    | some s=>obtain ⟨l9,h9,_⟩:=(uh HA).so s hl; exact Or.inr ⟨l9,h9⟩:lp = .pointer none∨∃ l9,lp = .pointer (some ⟨l9,0,none⟩))
   rcases hcs with hc1 | ⟨hc1,hlp⟩ | ⟨hc1,s,hls⟩
   ·rcases uh HLPV with rfl | ⟨l9,rfl⟩
    all_goals
     go_wp2_with fail
     go_ret
     exact ⟨rfl,(uh HK5).below (Nat.le_refl _) (by simp)⟩
   ·subst hlp
    go_wp2_with fail
    go_ret
    exact ⟨rfl,(uh HK5).below (Nat.le_refl _) (by simp)⟩
   ·obtain ⟨l,hlp,hl2,hl3,hl4⟩:=(uh HA).so s hls
    subst hlp
    have HSI2:=hide (uh HSI s hls)
    have HLK:=hide hl3
    have HLW:=hide (by have:=uh HS4; have:=uh HS2; omega:W.heap.size + 1≤l)
    have HG5:=hide (fun x hx=>by
     rcases (uh HA).ev.2 x hx with h9 | h9
     ·exact uh HG4 x h9
     ·have:=uh HS4; have:=uh HS2; omega:∀ x∈B5,W.heap.size + 1≤x)
    have HL5n:=hide (by have h9:=hl3.lt; have:=uh HS4; omega:w2.heap.size < l)
    have HB5L:=hide (hl3.lts)
    clear hl2 hl3 hl4 hls HSI HLPV
    go_upto_region 12 with fail
    have kB:=(Kept.refl [] w5).alloc (.cells #[.slice none 0 0,.int .i64 0] 63)
    have hB:=heap_alloc_new w5 (.cells #[.slice none 0 0,.int .i64 0] 63)
    obtain ⟨w6,hw6⟩:∃ X,w5.alloc (.cells #[.slice none 0 0,.int .i64 0] 63) = X:=⟨_,rfl⟩
    have HZ6:=hide (by rw [← hw6]; simp:w6.heap.size = w5.heap.size + 1)
    rw [hw6] at kB hB ⊢
    have HK6:=hide ((uh HK5).trans kB (by simp))
    have HL6:=hide (kB.heap (uh HL5) (by simp))
    have hks6:KS w6 w6 w5.heap.size (l :: B5) (.slice none 0 0) [] 0:=⟨hB,OwnX.none _ (Nat.le_refl _),fun hm=>by have:=uh HB5L _ hm; omega,by have:=uh HZ6; omega⟩
    have HSR:=hide (xb0r l d (0 + fl.length + 1) (0 + (0 + fl.length) + 4) (0 + 48) (W.heap.size + 1) w5.heap.size 0 B5 A.σ s (.slice sa s2 sc) (.slice none 0 0) os [] w6 w6 ((uh HLK).old kB) (((uh HVG).up (Nat.le_succ _)).old (uh HK6)) (uh HG5) (uh HLW) (by have:=uh HZ6; have:=uh HS5; have:=uh HS2; omega) (fun M w' k hM=>(uh HOO).on (uh HK6) (by simp) M w' k (fun x hx=>by have:=hM x hx; omega)) hks6 (by have:=uh HS5; have:=uh HS2; omega) (Nat.le_refl _) (by have:=uh HZ6; have:=uh HS5; have:=uh HS2; omega) (by omega) (by omega) (by omega) (by simp only [List.length_nil]; omega))
    have HS9:=hide (scR_SI os (c:=⟨A.σ,s,([]:List (Nat × Value × List En)).map (fun t=>(t.1,t.2.2)),0⟩) (uh HSI2) (uh HLK).num)
    obtain ⟨c9,hc9⟩:∃ c,scR ⟨A.σ,s,([]:List (Nat × Value × List En)).map (fun t=>(t.1,t.2.2)),0⟩ os = c:=⟨_,rfl⟩
    rw [hc9] at HSR HS9
    clear kB hB hw6 hks6 hc9 HLK HL5 HK5 HA
    obtain ⟨a0,a1,a2,a3,a4,a5⟩:=cells6 (uh HL6)
    go_wp2_with fail
    refine Calls.mono (uh HSR) ?_
    rintro e w7 ⟨B7,mv7,ts7,rfl,hk7,k7,hn7,_,_⟩
    have HK7:=hide ((uh HK6).trans k7 (fun x hx=>Or.inr (by
     rcases List.mem_cons.1 hx with rfl | hx
     ·have:=uh HS5; have:=uh HS2; omega
     ·rcases List.mem_cons.1 hx with rfl | hx
      ·have:=uh HLW; omega
      ·have:=uh HG5 x (by simpa [Value.ownBlock] using hx); omega)))
    have HG7:=hide (fun x hx=>by
     rcases hn7 x hx with h9 | h9
     ·exact uh HG5 x h9
     ·have:=uh HZ6; have:=uh HS5; have:=uh HS2; omega:∀ x∈B7,W.heap.size + 1≤x)
    have HLK7:=hide hk7
    have HS7:=hide (by have:=k7.size; have:=uh HZ6; have:=uh HS5; have:=uh HS2; omega:W.heap.size + 1≤w7.heap.size)
    have HST:=hide (xa1k l d c9.s w7 hk7.row)
    obtain ⟨z,hz⟩:∃ z:Int,((c9.s.st:Nat):Int) = z:=⟨_,rfl⟩
    rw [hz] at HST
    have HZ:=hide hz
    clear hk7 k7 hn7 hz HSR HL6 HK6 a0 a1 a2 a3 a4 a5
    go_wp2_with fail
    refine Calls.mono (uh HST) ?_
    rintro e w8 ⟨rfl,h8⟩
    rw [h8]
    clear h8 w8
    by_cases hz0:z = 0
    ·subst hz0
     go_wp2_with fail
     go_ret
     exact ⟨rfl,(uh HK7).below (Nat.le_refl _) (by simp)⟩
    ·have hst:c9.s.st≠0:=fun h9=>hz0 (by rw [← uh HZ,h9]; rfl)
     have HNZ:=hide hst
     have hzw:∃ y:Int,((lgFail c9.s:Nat):Int) = y∧((z = 7∧y = 8)∨(z = 12∧y = 12)):=by
      refine ⟨_,rfl,?_⟩
      have h9:=uh HZ
      rcases (uh HS9).1 with h8 | h8 | h8
      ·exact absurd h8 hst
      ·refine Or.inl ⟨by rw [← h9,h8]; rfl,?_⟩
       unfold lgFail; rw [if_neg (by omega)]; rfl
      ·refine Or.inr ⟨by rw [← h9,h8]; rfl,?_⟩
       unfold lgFail; rw [if_pos (Or.inr h8),h8]; rfl
     obtain ⟨y,hy,hzy⟩:=hzw
     have HY:=hide hy
     have HSY:=hide (fun w' B' nb' ob' bb' (h9:LK w' l d B' nb' ob' bb' c9.σ c9.s) (hv9:VarsG (W.heap.size + 1) w') (g1:nb'≤800000000) (g2:ob'≤800000000)=>(by
      have h8:=xa4l l d nb' ob' bb' (W.heap.size + 1) B' c9.σ c9.s w' h9 hv9 g1 g2
      rw [xb0x (uh HNZ),uh HY] at h8
      exact h8:Calls Tryz.prog 21 #[.pointer (some ⟨l,0,none⟩)] w' fun e w2=>∃ B2,e = .returned (.int .i64 y)∧LK w2 l d B2 nb' (ob' + 1) bb' c9.σ c9.s∧EvL w' w2 l B' B2))
     have HAP:=hide (fun w' B' nb' ob' bb' v9 es9 (h9:LK w' l d B' nb' ob' bb' c9.σ c9.s) (hv9:VarsG (W.heap.size + 1) w') (hB9:∀ x∈B',W.heap.size + 1≤x) (hg9:W.heap.size + 1≤w'.heap.size) (hr9:RdN w' v9 es9) (g1:nb'≤800000000) (g2:ob'≤800000000) (g3:bb'≤140737488200000)=>(by
      have h8:=xa1l l d nb' ob' bb' (W.heap.size + 1) B' c9.σ c9.s v9 es9 w' h9 hv9 hB9 (uh HLW) hg9 hr9 g1 g2 g3
      rw [xa5r es9 (uh HNZ)] at h8
      refine Calls.mono h8 ?_
      rintro e w2 ⟨B2,rfl,q2,q3⟩
      refine ⟨_,B2,rfl,?_,q2,q3⟩
      rcases chkB_3 c9.s.nx es9 with h7 | h7 | h7
      ·rw [h7]; exact Or.inl (uh HY)
      ·rw [h7]; exact Or.inr (Or.inl rfl)
      ·rw [h7]; exact Or.inr (Or.inr rfl):Calls Tryz.prog 19 #[.pointer (some ⟨l,0,none⟩),v9] w' fun e w2=>∃ (u:Int) (B2:List Nat),e = .returned (.int .i64 u)∧(u = y∨u = 2∨u = 3)∧LK w2 l d B2 (nb' + 1) (ob' + 6) (bb' + 40048) c9.σ c9.s∧EvL w' w2 l B' B2))
     have HOPS:=hide (ops_F d _ _ _ B7 c9.σ w7 (uh HLK7).dk)
     have HNX:=hide (xa1r l d c9.s w7 (uh HLK7).row)
     have HFS:=hide (xa9b d _ _ B7 c9.σ w7 (uh HLK7).dk.toDK (by omega) (by omega))
     clear hy hst hz0 HST
     rcases hzy with ⟨rfl,rfl⟩ | ⟨rfl,rfl⟩
     all_goals
      go_wp2_with fail
      refine Calls.mono (uh HOPS) ?_
      rintro e w8 ⟨rfl,h8⟩
      rw [h8]
      clear h8 w8
      go_wp2_with fail
      refine Calls.mono (uh HNX) ?_
      rintro e w8 ⟨rfl,h8⟩
      rw [h8]
      clear h8 w8
      go_wp2_with fail
      refine Calls.mono (uh HFS) ?_
      rintro e w8 ⟨fv8,ts8,rfl,hof,ht8,k8⟩
      obtain ⟨va8,vc8,hv8,_⟩:=hof.shapeL
      subst hv8
      have HOF:=hide hof
      have HT8:=hide ht8
      have HLK8:=hide ((uh HLK7).old k8)
      have HK8:=hide ((uh HK7).trans k8 (by simp))
      have HFA:=hide (fun x hx hm=>by
       have h9:=(hof.ge x hx).1
       have h8:=(uh HLK7).lts x hm
       omega:∀ x∈flB (.slice va8 ts8.length vc8) ts8,x∉l :: B7)
      have HS8:=hide (by have:=k8.size; have:=uh HS7; omega:W.heap.size + 1≤w8.heap.size)
      clear hof ht8 k8
      go_wp2_with fail
      go_loopw [83] (fun t83 wr=>∃ (i:Nat) (Bi:List Nat),i≤ms.length∧t83 = .int .i64 (i:Int)∧Hid (LK wr l d Bi (0 + fl.length + 1 + os.length + i) (0 + (0 + fl.length) + 4 + 6 * os.length + 7 * i) (0 + 48 + 40048 * os.length + 40048 * i) c9.σ c9.s)∧Hid (Kept [] W wr)∧Hid (OwnFl w7.heap.size wr (.slice va8 ts8.length vc8) ts8)∧Hid (∀ x∈flB (.slice va8 ts8.length vc8) ts8,x∉l :: Bi)∧Hid (∀ x∈Bi,W.heap.size + 1≤x)∧Hid (W.heap.size + 1≤wr.heap.size)) (fun t _=>ms.length - (intOf t).toNat)
      case atStart=>exact ⟨0,B7,Nat.zero_le _,rfl,HLK8,HK8,HOF,HFA,HG7,HS8⟩
      case round =>
       clear HLK8 HK8 HOF HFA HS8
       obtain ⟨i,Bi,hi,rfl,HLKi,HKi,HOFi,HFAi,HGi,HSi⟩:=hrel
       by_cases hlti:i < ms.length
       ·have hlti':(i:Int) < ms.length:=by omega
        have hrc:=(uh HM1).old (uh HKi)
        obtain ⟨qa,ql,qc,hq1,hq2,hq3,hq4,hq5⟩:=hrc
        injection hq1 with r1 r2 r3
        subst r1 r2 r3
        have hl9:i < t8.length:=by have h9:=hlti; rw [uh HMS,List.length_map] at h9; exact h9
        obtain ⟨b2,o3,rfl,hcc⟩:=hq5 (by omega)
        have hri:=hcc i (by rw [List.length_map]; exact hl9)
        rw [List.getElem_map] at hri
        have hr9:=uh HM2 t8[i] (List.getElem_mem hl9)
        clear hcc hq2 hq4 hq5
        generalize t8[i] = T9 at hri hr9
        obtain ⟨o1,ov,es⟩:=T9
        dsimp only at hr9
        obtain ⟨ea,en,ec,kv9,vv9,rfl,hen,hecn,hecm,_⟩:=id hr9
        subst hen
        have x0:=hri 0 _ rfl
        have x1:=hri 1 _ rfl
        simp only [Nat.add_zero] at x0
        have hic:(i:Int) < xc:=by omega
        have ha1:IntKind.i64.wrap ((i:Int) + 1) = (i:Int) + 1:=by rw [IntKind.wrap_i64]; omega
        have HR9:=hide hr9
        clear hri hr9 hecn hecm hq3
        go_upto_region 23 with fail
        have kA:=(Kept.refl [] wr).alloc (.cells #[.bool o1,.slice ea es.length ec] 71)
        have hA:=heap_alloc_new wr (.cells #[.bool o1,.slice ea es.length ec] 71)
        obtain ⟨V1,hV1⟩:∃ X,wr.alloc (.cells #[.bool o1,.slice ea es.length ec] 71) = X:=⟨_,rfl⟩
        have HZ1:=hide (by rw [← hV1]; simp:V1.heap.size = wr.heap.size + 1)
        rw [hV1] at kA hA ⊢
        have HOB:=hide hA
        have HLK1:=hide ((uh HLKi).old kA)
        have HK1:=hide ((uh HKi).trans kA (by simp))
        have HOF1:=hide ((uh HOFi).keptF kA (by simp))
        have HFL:=hide (fun x hx=>((uh HOFi).ge x hx).2:∀ x∈flB (.slice va8 ts8.length vc8) ts8,x < wr.heap.size)
        have HBl:=hide ((uh HLKi).lts)
        have HSY1:=hide (uh HSY V1 Bi _ _ _ (uh HLK1) (((uh HVG).up (Nat.le_succ _)).old (uh HK1)) (by omega) (by omega))
        clear kA hA hV1 x0 x1 HLKi HKi HOFi
        go_wp2_with fail
        refine Calls.mono (uh HSY1) ?_
        rintro e V2 ⟨B2,rfl,hk2,ev2⟩
        have hLg:∀ x∈l :: Bi,W.heap.size + 1≤x:=fun x hx=>by
         rcases List.mem_cons.1 hx with rfl | hx
         ·exact uh HLW
         ·exact uh HGi x hx
        have HK2':=hide ((uh HK1).trans ev2.1 (fun x hx=>Or.inr (by have:=hLg x hx; omega)))
        have HLK2:=hide hk2
        have HOF2:=hide ((uh HOF1).keptF ev2.1 (uh HFAi))
        have HOB2:=hide (ev2.1.heap (uh HOB) (fun hm=>by have:=uh HBl _ hm; omega))
        have HFA2:=hide (fun x hx hm=>by
         rcases List.mem_cons.1 hm with h9 | h9
         ·exact uh HFAi x hx (by rw [h9]; simp)
         ·rcases ev2.2 x h9 with h8 | h8
          ·exact uh HFAi x hx (List.mem_cons_of_mem _ h8)
          ·have:=uh HFL x hx; have:=uh HZ1; omega:∀ x∈flB (.slice va8 ts8.length vc8) ts8,x∉l :: B2)
        have HG2:=hide (fun x hx=>by
         rcases ev2.2 x hx with h9 | h9
         ·exact uh HGi x h9
         ·have:=uh HZ1; have:=uh HSi; omega:∀ x∈B2,W.heap.size + 1≤x)
        have HS2':=hide (by have:=ev2.1.size; have:=uh HZ1; have:=uh HSi; omega:W.heap.size + 1≤V2.heap.size)
        have HFL2:=hide (fun x hx=>by have:=uh HFL x hx; have:=ev2.1.size; have:=uh HZ1; omega:∀ x∈flB (.slice va8 ts8.length vc8) ts8,x < V2.heap.size)
        clear hk2 ev2 hLg HSY1 HLK1 HK1 HOF1 HOB
        obtain ⟨p0,p1⟩:=bcells2 (uh HOB2)
        cases o1 with
        | true =>
         go_wp2_with fail
         go_roundw
         case rel=>exact ⟨i + 1,B2,by omega,by simp,hide ((uh HLK2).more (by omega) (by omega) (by omega)),HK2',HOF2,HFA2,HG2,HS2'⟩
         case measure=>simp [intOf]; omega
        | false =>
         have HAP1:=hide (uh HAP V2 B2 _ _ _ (.slice ea es.length ec) es (uh HLK2) (((uh HVG).up (Nat.le_succ _)).old (uh HK2')) (uh HG2) (uh HS2') ((uh HR9).old (uh HK2')) (by omega) (by omega) (by omega))
         have HB2l:=hide ((uh HLK2).lts)
         go_wp2_with fail
         refine Calls.mono (uh HAP1) ?_
         rintro e V3 ⟨u,B3,rfl,hu,hk3,ev3⟩
         have hLg:∀ x∈l :: B2,W.heap.size + 1≤x:=fun x hx=>by
          rcases List.mem_cons.1 hx with rfl | hx
          ·exact uh HLW
          ·exact uh HG2 x hx
         have HK3':=hide ((uh HK2').trans ev3.1 (fun x hx=>Or.inr (by have:=hLg x hx; omega)))
         have HLK3:=hide hk3
         have HOF3:=hide ((uh HOF2).keptF ev3.1 (uh HFA2))
         have HFA3:=hide (fun x hx hm=>by
          rcases List.mem_cons.1 hm with h9 | h9
          ·exact uh HFA2 x hx (by rw [h9]; simp)
          ·rcases ev3.2 x h9 with h8 | h8
           ·exact uh HFA2 x hx (List.mem_cons_of_mem _ h8)
           ·have:=uh HFL2 x hx; omega:∀ x∈flB (.slice va8 ts8.length vc8) ts8,x∉l :: B3)
         have HG3:=hide (fun x hx=>by
          rcases ev3.2 x hx with h9 | h9
          ·exact uh HG2 x h9
          ·have:=uh HS2'; omega:∀ x∈B3,W.heap.size + 1≤x)
         have HS3':=hide (by have:=ev3.1.size; have:=uh HS2'; omega:W.heap.size + 1≤V3.heap.size)
         clear hk3 ev3 hLg HAP1 p0 p1 HLK2 HK2' HOF2 HFA2 HG2
         rcases hu with rfl | rfl | rfl
         all_goals
          go_wp2_with fail
          go_roundw
          case rel=>exact ⟨i + 1,B3,by omega,by simp,hide ((uh HLK3).more (by omega) (by omega) (by omega)),HK3',HOF3,HFA3,HG3,HS3'⟩
          case measure=>simp [intOf]; omega
       ·have hlti':¬ (i:Int) < ms.length:=by omega
        have HFS1:=hide (xa9b d _ _ Bi c9.σ wr (uh HLKi).dk.toDK (by omega) (by omega))
        go_wp2_with fail
        refine Calls.mono (uh HFS1) ?_
        rintro e V1 ⟨fv1,ts1,rfl,hof1,ht1,k1⟩
        obtain ⟨va1,vc1,hv1,_⟩:=hof1.shapeL
        subst hv1
        have HLN:=hide (by have h9:=congrArg List.length ht1; have h8:=congrArg List.length (uh HT8); rw [List.length_map] at h9 h8; omega:ts1.length = ts8.length)
        have hln:(((ts8.length:Nat):Int) != ((ts1.length:Nat):Int)) = false:=by have:=uh HLN; simp; omega
        have HLKj:=hide ((uh HLKi).old k1)
        have HKj:=hide ((uh HKi).trans k1 (by simp))
        have HOFj:=hide ((uh HOFi).keptF k1 (by simp))
        have HFS2:=hide (xa9b d _ _ Bi c9.σ V1 (uh HLKj).dk.toDK (by omega) (by omega))
        clear hof1 ht1 k1 HFS1 HLKi HKi HOFi
        go_wp2_with fail
        refine Calls.mono (uh HFS2) ?_
        rintro e V2 ⟨fv2,ts2,rfl,hof2,ht2,k2'⟩
        obtain ⟨va2,vc2,hv2,_⟩:=hof2.shapeL
        subst hv2
        have HRF2:=hide hof2.rd
        have HLKk:=hide ((uh HLKj).old k2')
        have HKk:=hide ((uh HKj).trans k2' (by simp))
        have HRF8:=hide ((uh HOFj).keptF k2' (by simp)).rd
        have HEQ:=hide (by rw [ht2,uh HT8]:ts2.map Prod.fst = ts8.map Prod.fst)
        have HLE:=hide (by have h9:=congrArg List.length (uh HEQ); rw [List.length_map,List.length_map] at h9; exact h9:ts2.length = ts8.length)
        have HTL:=hide (by have h8:=congrArg List.length ht2; rw [List.length_map,xa8n] at h8; have h9:=(uh HLKj).dk.toDK.len; omega:ts2.length≤1000000000)
        clear hof2 ht2 k2' HFS2 HLKj HKj HOFj hln HLN
        go_wp2_with fail
        go_loopw [128] (fun t128 wx=>∃ k:Nat,k≤ts2.length∧t128 = .int .i64 (k:Int)∧Hid (Kept [] V2 wx)) (fun t _=>ts2.length - (intOf t).toNat)
        case atStart=>exact ⟨0,Nat.zero_le _,rfl,hide (Kept.refl _ _)⟩
        case round =>
         obtain ⟨k,hk,rfl,HKx⟩:=hrel
         by_cases hltk:k < ts2.length
         ·have hltk':(k:Int) < ts2.length:=by omega
          have hlt8:k < ts8.length:=by have:=uh HLE; omega
          have hlt8':(k:Int) < ts8.length:=by omega
          obtain ⟨_,hc2,e2,f2',rfl,y0,y1,y2,y3,hy⟩:=xa5o ((uh HRF2).old (uh HKx)) k hltk
          obtain ⟨_,hc8,e8,f8,rfl,z0,z1,z2,z3,hz⟩:=xa5o ((uh HRF8).old (uh HKx)) k hlt8
          have hx:ts2[k].1 = ts8[k].1:=by
           have h9:=congrArg (fun l=>l[k]?) (uh HEQ)
           simpa [List.getElem?_eq_getElem hltk,List.getElem?_eq_getElem hlt8] using h9
          have hkc2:(k:Int) < vc2:=by omega
          have hkc8:(k:Int) < vc8:=by omega
          have hak:IntKind.i64.wrap ((k:Int) + 1) = (k:Int) + 1:=by rw [IntKind.wrap_i64]; have:=uh HTL; omega
          rw [← hx] at z0 z2 z3 hz
          clear hx
          generalize ts2[k].2 = u1 at y1 hy
          generalize ts8[k].2 = u2 at z1 hz
          generalize ts2[k].1 = X at y0 y2 y3 hy z0 z2 z3 hz
          obtain ⟨ua,ul,uc,hu1,_⟩:=id hy
          obtain ⟨va,vl,vc',hu2,_⟩:=id hz
          subst hu1 hu2
          go_upto_region 36 with fail
          have kA:=(Kept.refl [] wr).alloc (.cells #[.string X.nm,.slice ua ul uc,.int .i64 (X.sy:Int),.bool X.nd] 74)
          have hA:=heap_alloc_new wr (.cells #[.string X.nm,.slice ua ul uc,.int .i64 (X.sy:Int),.bool X.nd] 74)
          obtain ⟨V3,hV3⟩:∃ Y,wr.alloc (.cells #[.string X.nm,.slice ua ul uc,.int .i64 (X.sy:Int),.bool X.nd] 74) = Y:=⟨_,rfl⟩
          rw [hV3] at kA hA ⊢
          obtain ⟨p0,p1,p2,p3⟩:=cells4 hA
          have z0':=kA.cell z0 (by simp)
          have z1':=kA.cell z1 (by simp)
          have z2':=kA.cell z2 (by simp)
          have cv1:∀ j,(convert 72 9 (.slice ua ul uc)).run Tryz.prog (V3.drewN j) = .ok (.string (strOfD X.bs)) (V3.drewN j):=fun j=>xa7i _ _ _ ((hy.kept kA (by simp)).kept ((Kept.refl [] V3).drewN j) (by simp)) (by kernel_rfl) (by kernel_rfl)
          have cv2:∀ j,(convert 72 9 (.slice va vl vc')).run Tryz.prog (V3.drewN j) = .ok (.string (strOfD X.bs)) (V3.drewN j):=fun j=>xa7i _ _ _ ((hz.kept kA (by simp)).kept ((Kept.refl [] V3).drewN j) (by simp)) (by kernel_rfl) (by kernel_rfl)
          generalize strOfD X.bs = S1 at cv1 cv2
          have HKA3:=hide ((uh HKx).trans kA (by simp))
          clear hy hz y0 y1 y2 y3 z0 z1 z2 z3 hV3 kA hA
          refine wp_region_quiet_lit (by kernel_rfl) (by kernel_rfl) ?_
          repeat (go_big_quiet_step (fail))
          refine wpQuiet_nil ?_
          rintro _ ⟨n5,rfl⟩
          clear p0 p1 p2 p3 z0' z1' z2' cv1 cv2
          go_wp2_with fail
          go_roundw
          case rel=>exact ⟨k + 1,by omega,by simp,hide ((uh HKA3).drewN n5)⟩
          case measure=>simp [intOf]; omega
         ·have hltk':¬ (k:Int) < ts2.length:=by omega
          have HLx:=hide ((uh HLKk).old (uh HKx))
          have HOPx:=hide (ops_F d _ _ _ Bi c9.σ wr (uh HLx).dk)
          have HNXx:=hide (xa1r l d c9.s wr (uh HLx).row)
          have hstx:=xa1k l d c9.s wr (uh HLx).row
          rw [uh HZ] at hstx
          have HSTx:=hide hstx
          have HKf:=hide ((uh HKk).trans (uh HKx) (by simp))
          have hoe:(c9.σ.op == c9.σ.op) = true:=by simp
          have hne:((c9.s.nx:Int) == (c9.s.nx:Int)) = true:=by simp
          clear hstx
          go_wp2_with fail
          refine Calls.mono (uh HOPx) ?_
          rintro e v8 ⟨rfl,h8⟩
          rw [h8]
          clear h8 v8
          go_wp2_with fail
          refine Calls.mono (uh HNXx) ?_
          rintro e v8 ⟨rfl,h8⟩
          rw [h8]
          clear h8 v8
          go_wp2_with fail
          refine Calls.mono (uh HSTx) ?_
          rintro e v8 ⟨rfl,h8⟩
          rw [h8]
          clear h8 v8
          go_wp2_with fail
          go_ret
          exact ⟨rfl,(uh HKf).below (Nat.le_refl _) (by simp)⟩
 ·have h0':((FR:Int) != 0) = true:=by rw [bne_iff_ne]; omega
  have hpn:=uh HP0 h0
  subst hpn
  clear h0 HP0 HP1
  go_wp2_with fail
  go_ret
  exact ⟨rfl,(uh HK2).below (Nat.le_refl _) (by simp)⟩
end
section
open Go.ChangeShapes Go.WideShapes Go.ChangeAt Go.RowKit Go.Deep
section
variable {H:Type} {enc:TypeId × Value→H} {W:World}
theorem xa8h {d:DataW H} {l:List (DataW H)} (h:d∈l):Rows.uptoBulk d≤Rows.uptoBulkAll l:=by
 induction l with
 | nil=>simp at h
 | cons a l ih =>
  simp only [Rows.uptoBulkAll]
  rcases List.mem_cons.1 h with rfl | h
  ·omega
  ·have:=ih h; omega
theorem xb1q (D:Nat→DataW H) (l:List Nat) (h:∀ i∈l,1≤Rows.uptoBulk (D i)):l.length≤Rows.uptoBulkAll (l.map D):=by
 induction l with
 | nil=>simp
 | cons a l ih =>
  have h1:=h a (by simp)
  have h2:=ih (fun i hi=>h i (by simp [hi]))
  simp only [List.map_cons,Rows.uptoBulkAll,List.length_cons]
  omega
theorem xa8r (cs:List Value) (a n:Nat):cs.drop a = (cs.drop a).take n++cs.drop (a + n):=by
 rw [← List.drop_drop,List.take_append_drop]
theorem xb0k {fuel:Nat} {cs:List Value} {x:DataW H × List MemPlace} (h:DataW.trod enc Tryz.prog W 0 (fun _=>true) true fuel 89 cs = some x) (hB:Rows.uptoBulk x.1≤1048576) :
  ∃ (e:En) (kv vv:Value),cs = (enC e kv vv).toList∧OkE W e kv vv∧e.key.length + e.val.length + 2≤Rows.uptoBulk x.1:=by
 obtain ⟨xs,n,_,rfl,hl,hlen,hf⟩:=DataW.trod_struct Tryz.underlying89 h
 rw [show Tryz.prog.cellsOf 89 = 3 from by kernel_rfl] at hl
 match xs,hlen with
 | [y0,y1,y2],_ =>
  have ci:Tryz.prog.cellsOf 5 = 1:=by kernel_rfl
  have cb:Tryz.prog.cellsOf 72 = 1:=by kernel_rfl
  have f0:DataW.trod enc Tryz.prog W 0 (fun _=>true) true n 5 ((cs.drop 0).take 1) = some y0:=by rw [← ci]; exact hf 0 _ rfl
  have f1:DataW.trod enc Tryz.prog W 0 (fun _=>true) true n 72 ((cs.drop 1).take 1) = some y1:=by have this:DataW.trod enc Tryz.prog W 0 (fun _=>true) true n 72 ((cs.drop 1).take (Tryz.prog.cellsOf 72)) = some y1:=hf 1 _ rfl; rw [cb] at this; exact this
  have f2:DataW.trod enc Tryz.prog W 0 (fun _=>true) true n 72 ((cs.drop 2).take 1) = some y2:=by have this:DataW.trod enc Tryz.prog W 0 (fun _=>true) true n 72 ((cs.drop 2).take (Tryz.prog.cellsOf 72)) = some y2:=hf 2 _ rfl; rw [cb] at this; exact this
  simp only [List.map_cons,List.map_nil,Rows.uptoBulk,Rows.uptoBulkAll] at hB ⊢
  obtain ⟨k,e0,_,w0⟩:=DataW.trod_int Tryz.underlying5 f0
  obtain ⟨kv,key,e1,hr1,hb1⟩:=xa5i f1
  obtain ⟨vv,val,e2,hr2,hb2⟩:=xa5i f2
  have g1:=xa4o hb1
  have g2:=xa4o hb2
  have hk:=xa3i w0
  refine ⟨⟨k.toNat,key,val⟩,kv,vv,?_,⟨by show k.toNat < 256; omega,hr1 (by omega),hr2 (by omega)⟩,by show key.length + val.length + 2≤_; omega⟩
  have hd:cs.drop 3 = []:=List.drop_eq_nil_of_le (by omega)
  have this:=xa8r cs 0 1
  rw [e0,xa8r cs 1 1,e1,xa8r cs 2 1,e2,hd,List.drop_zero] at this
  rw [this]
  simp [enC,Int.toNat_of_nonneg hk.1]
instance:Inhabited En:=⟨⟨0,[],[]⟩⟩
theorem xa5q {fuel:Nat} {cs:List Value} {x:DataW H × List MemPlace} (h:DataW.trod enc Tryz.prog W 0 (fun _=>true) true fuel 55 cs = some x) (hB:Rows.uptoBulk x.1≤1048576) :
  ∃ v es,cs = [v]∧RdN W v es∧es.length≤1048576:=by
 rcases open_slice Tryz.underlying55 h with ⟨rfl,rfl⟩ | ⟨a,len,cap,m,n,D,Pl,rfl,_,hl,hm,hmm,rfl,hx⟩
 ·exact ⟨_,[],rfl,RdN.nil W,by simp⟩
 ·have hC:Tryz.prog.cellsOf 89 = 3:=by kernel_rfl
  rw [hC] at hx
  simp only [if_true] at hmm
  simp only [Rows.uptoBulk] at hB
  obtain ⟨f,hf⟩:=choose_lt (α:=En × Value × Value) (n:=len) (p:=fun i o=>((∀ j v,(enC o.1 o.2.1 o.2.2).toList[j]? = some v→W.cell? ((a.add (i * 3)).add j) = some v)∧OkE W o.1 o.2.1 o.2.2)∧1≤Rows.uptoBulk (D i)) (by
   intro i hi
   obtain ⟨cs',h1,h2⟩:=hx i (by omega)
   have hDi:Rows.uptoBulk (D i)≤Rows.uptoBulkAll ((List.range len).map D):=xa8h (List.mem_map.2 ⟨i,List.mem_range.2 hi,rfl⟩)
   obtain ⟨o,kv,vv,rfl,ho,hbb⟩:=xb0k h2 (by simp only; omega)
   obtain ⟨_,hlen,hc⟩:=World.cells?_some h1
   refine ⟨(o,kv,vv),⟨fun j v hv=>?_,ho⟩,by simp only at hbb; omega⟩
   have hj:=(List.getElem?_eq_some_iff.1 hv).1
   have:=hc j hj
   rw [this,← hv,List.getElem?_eq_getElem hj])
  refine ⟨_,(List.range len).map fun i=>(f i).1,rfl,⟨some a,len,cap,fun i=>(f i).2.1,fun i=>(f i).2.2,rfl,by simp,hl,by unfold maxLen at hm; omega,?_,?_⟩,?_⟩
  ·intro i hi
   have hi':i < len:=by simpa using hi
   have:=(hf i hi').1.2
   simpa using this
  ·intro hp
   obtain ⟨b,off,spot⟩:=a
   have h0:=(hf 0 hp).1
   have hc0:=h0.1 0 _ rfl
   have hspot:spot = none:=by simpa [Addr.add] using World.cell?_spot hc0
   subst hspot
   refine ⟨b,off,rfl,fun i hi j v hv=>?_⟩
   have hi':i < len:=by simpa using hi
   have e9:((List.range len).map fun i=>(f i).1)[i] = (f i).1:=by simp
   rw [e9] at hv
   have:=(hf i hi').1.1 j v hv
   rw [Addr.add_mid,Addr.add_mid] at this
   exact this
  ·have:=xb1q D (List.range len) (fun i hi=>(hf i (List.mem_range.1 hi)).2)
   simp only [List.length_map,List.length_range] at this ⊢
   omega
end
def OkO9 (W:World) (t:Bool × Value × List En):Prop:=RdN W t.2.1 t.2.2∧t.2.2.length≤1048576
def OkLf (W:World) (x:Lf):Prop:=LifeO W.heap.size W x.fv x.sv x.kv x.fl x.os x.ks∧Rng x.n
instance:Inhabited Lf:=⟨⟨undef,0,undef,false,0,undef,[],[],[]⟩⟩
instance:Inhabited (Bool × Value × List En):=⟨(false,undef,[])⟩
theorem xb1k {α:Type} (l:List α):(l.map fun _=>1).sum = l.length:=by
 induction l with
 | nil=>rfl
 | cons a r ih=>simp only [List.map_cons,List.sum_cons,List.length_cons,ih]; omega
theorem xa8m {W:World} {fv sv kv:Value} {fl:List (Int × Int)} {ts:List (Bool × Value × List En)} {ks:List KeepD} (r0:RdC 2 W fv (fl.map faC)) (a0:∀ x∈fl,OkFa x) (l0:fl.length≤1048576) (r2:RdC 2 W sv (ts.map o9C)) (a2:∀ t∈ts,OkO9 W t) (l2:ts.length≤1048576) (r4:RdC 3 W kv (ks.map keC)) (a4:∀ x∈ks,OkKe x) (l4:ks.length≤1048576):LifeO W.heap.size W fv sv kv fl (ts.map fun t=>(t.1,t.2.2)) ks:=by
 have z0:=r0.ltZ (by intro r hr; obtain ⟨a,_,rfl⟩:=List.mem_map.1 hr; simp [faC])
 have z4:=r4.ltZ (by intro r hr; obtain ⟨a,_,rfl⟩:=List.mem_map.1 hr; simp [keC])
 have hk:∀ M w',Kept M W w'→(∀ x∈M,W.heap.size≤x)→Kept [] W w':=fun M w' k hM=>⟨k.os,k.tape,k.output,k.size,fun j hj _=>k.block j hj (fun hm=>by have:=hM j hm; omega)⟩
 exact ⟨fun M w' k hM=>⟨r0.kept (hk M w' k hM) (by simp),r4.kept (hk M w' k hM) (by simp)⟩,⟨ts,rfl,fun t ht=>(a2 t ht).2,fun M w' k hM=>⟨r2.kept (hk M w' k hM) (by simp),fun t ht=>(a2 t ht).1.old (hk M w' k hM)⟩⟩,z0,z4,a0,l0,a4,l4,by rw [List.length_map]; exact l2⟩
section
variable {H:Type} {enc:TypeId × Value→H} {W:World}
theorem xb5m {fuel:Nat} {cs:List Value} {x:DataW H × List MemPlace} (h:DataW.trod enc Tryz.prog W 0 (fun _=>true) true fuel 71 cs = some x) (hB:Rows.uptoBulk x.1≤1048576) :
  ∃ t:Bool × Value × List En,cs = o9C t∧OkO9 W t∧1≤Rows.uptoBulk x.1:=by
 obtain ⟨xs,n,_,rfl,hl,hlen,hf⟩:=DataW.trod_struct Tryz.underlying71 h
 rw [show Tryz.prog.cellsOf 71 = 2 from by kernel_rfl] at hl
 match xs,hlen with
 | [y0,y1],_ =>
  have f0:DataW.trod enc Tryz.prog W 0 (fun _=>true) true n 4 ((cs.drop 0).take 1) = some y0:=by have this:DataW.trod enc Tryz.prog W 0 (fun _=>true) true n 4 ((cs.drop 0).take (Tryz.prog.cellsOf 4)) = some y0:=hf 0 _ rfl; rw [show Tryz.prog.cellsOf 4 = 1 from by kernel_rfl] at this; exact this
  have f1:DataW.trod enc Tryz.prog W 0 (fun _=>true) true n 55 ((cs.drop 1).take 1) = some y1:=by have this:DataW.trod enc Tryz.prog W 0 (fun _=>true) true n 55 ((cs.drop 1).take (Tryz.prog.cellsOf 55)) = some y1:=hf 1 _ rfl; rw [show Tryz.prog.cellsOf 55 = 1 from by kernel_rfl] at this; exact this
  simp only [List.map_cons,List.map_nil,Rows.uptoBulk,Rows.uptoBulkAll] at hB ⊢
  obtain ⟨z0,e0,q0⟩:=DataW.trod_bool Tryz.underlying4 f0
  have b0:=xa0r y0.1
  obtain ⟨v1,z1,e1,r1,a1⟩:=xa5q f1 (by omega)
  have b1:=xa0r y1.1
  have hd:cs.drop 2 = []:=List.drop_eq_nil_of_le (by omega)
  have this:=xa0q cs 0 1
  rw [e0,xa0q cs 1 1,e1,hd,List.drop_zero] at this
  exact ⟨(z0,v1,z1),by rw [this]; rfl,⟨r1,a1⟩,by omega⟩
theorem xa7b {fuel:Nat} {cs:List Value} {x:DataW H × List MemPlace} (h:DataW.trod enc Tryz.prog W 0 (fun _=>true) true fuel 34 cs = some x) (hB:Rows.uptoBulk x.1≤1048576) :
  ∃ (v:Value) (l:List (Bool × Value × List En)),cs = [v]∧RdC 2 W v (l.map o9C)∧(∀ a∈l,OkO9 W a)∧(l.map fun _=>1).sum + 1≤Rows.uptoBulk x.1 :=
 xa2m Tryz.underlying34 (by kernel_rfl:Tryz.prog.cellsOf 71 = 2) o9C (by intro a; rfl) (by decide) (OkO9 W) (fun _=>1) (fun n cs y h hB=>xb5m h hB) h hB
theorem xb3t {fuel:Nat} {cs:List Value} {x:DataW H × List MemPlace} (h:DataW.trod enc Tryz.prog W 0 (fun _=>true) true fuel 39 cs = some x) (hB:Rows.uptoBulk x.1≤1048576) :
  ∃ a:Lf,cs = lfC a∧OkLf W a∧lfW a≤Rows.uptoBulk x.1:=by
 obtain ⟨xs,n,_,rfl,hl,hlen,hf⟩:=DataW.trod_struct Tryz.underlying39 h
 rw [show Tryz.prog.cellsOf 39 = 6 from by kernel_rfl] at hl
 match xs,hlen with
 | [y0,y1,y2,y3,y4],_ =>
  have f0:DataW.trod enc Tryz.prog W 0 (fun _=>true) true n 33 ((cs.drop 0).take 1) = some y0:=by have this:DataW.trod enc Tryz.prog W 0 (fun _=>true) true n 33 ((cs.drop 0).take (Tryz.prog.cellsOf 33)) = some y0:=hf 0 _ rfl; rw [show Tryz.prog.cellsOf 33 = 1 from by kernel_rfl] at this; exact this
  have f1:DataW.trod enc Tryz.prog W 0 (fun _=>true) true n 3 ((cs.drop 1).take 1) = some y1:=by have this:DataW.trod enc Tryz.prog W 0 (fun _=>true) true n 3 ((cs.drop 1).take (Tryz.prog.cellsOf 3)) = some y1:=hf 1 _ rfl; rw [show Tryz.prog.cellsOf 3 = 1 from by kernel_rfl] at this; exact this
  have f2:DataW.trod enc Tryz.prog W 0 (fun _=>true) true n 34 ((cs.drop 2).take 1) = some y2:=by have this:DataW.trod enc Tryz.prog W 0 (fun _=>true) true n 34 ((cs.drop 2).take (Tryz.prog.cellsOf 34)) = some y2:=hf 2 _ rfl; rw [show Tryz.prog.cellsOf 34 = 1 from by kernel_rfl] at this; exact this
  have f3:DataW.trod enc Tryz.prog W 0 (fun _=>true) true n 4 ((cs.drop 3).take 1) = some y3:=by have this:DataW.trod enc Tryz.prog W 0 (fun _=>true) true n 4 ((cs.drop 3).take (Tryz.prog.cellsOf 4)) = some y3:=hf 3 _ rfl; rw [show Tryz.prog.cellsOf 4 = 1 from by kernel_rfl] at this; exact this
  have f4:DataW.trod enc Tryz.prog W 0 (fun _=>true) true n 37 ((cs.drop 4).take 2) = some y4:=by have this:DataW.trod enc Tryz.prog W 0 (fun _=>true) true n 37 ((cs.drop 4).take (Tryz.prog.cellsOf 37)) = some y4:=hf 4 _ rfl; rw [show Tryz.prog.cellsOf 37 = 2 from by kernel_rfl] at this; exact this
  simp only [List.map_cons,List.map_nil,Rows.uptoBulk,Rows.uptoBulkAll] at hB ⊢
  obtain ⟨v0,z0,e0,r0,a0,b0⟩:=xa8c f0 (by omega)
  obtain ⟨z1,e1,q1,w1⟩:=DataW.trod_int Tryz.underlying3 f1
  have g1:=xa1c w1
  have b1:=xa0r y1.1
  obtain ⟨v2,z2,e2,r2,a2,b2⟩:=xa7b f2 (by omega)
  obtain ⟨z3,e3,q3⟩:=DataW.trod_bool Tryz.underlying4 f3
  have b3:=xa0r y3.1
  obtain ⟨n4,v4,z4,e4,g4,r4,a4,b4⟩:=xb2t f4 (by omega)
  have hd:cs.drop 6 = []:=List.drop_eq_nil_of_le (by omega)
  have this:=xa0q cs 0 1
  rw [e0,xa0q cs 1 1,e1,xa0q cs 2 1,e2,xa0q cs 3 1,e3,xa0q cs 4 2,e4,hd,List.drop_zero] at this
  rw [xb1k] at b2
  exact ⟨⟨v0,z1,v2,z3,n4,v4,z0,z2.map (fun t=>(t.1,t.2.2)),z4⟩,by rw [this]; rfl,⟨xa8m r0 a0 (by omega) r2 a2 (by omega) r4 a4 (by omega),g4⟩,by show z0.length + (z2.map _).length + 1≤_; rw [List.length_map]; omega⟩
theorem xb1g {fuel:Nat} {cs:List Value} {x:DataW H × List MemPlace} (h:DataW.trod enc Tryz.prog W 0 (fun _=>true) true fuel 22 cs = some x) (hB:Rows.uptoBulk x.1≤1048576) :
  ∃ (v:Value) (l:List Lf),cs = [v]∧RdC 6 W v (l.map lfC)∧(∀ a∈l,OkLf W a)∧(l.map lfW).sum + 1≤Rows.uptoBulk x.1 :=
 xa2m Tryz.underlying22 (by kernel_rfl:Tryz.prog.cellsOf 39 = 6) lfC (by intro a; rfl) (by decide) (OkLf W) lfW (fun n cs y h hB=>xb3t h hB) h hB
theorem xb3y {fuel:Nat} {cs:List Value} {x:DataW H × List MemPlace} (h:DataW.trod enc Tryz.prog W 0 (fun _=>true) true fuel 24 cs = some x) (hB:Rows.uptoBulk x.1≤1048576) :
  ∃ (sec wd lim:Int) (v:Value) (ls:List Lf),cs = [.int .i64 sec,.int .i64 wd,.int .i64 lim,v]∧Rng sec∧RdC 6 W v (ls.map lfC)∧(∀ a∈ls,OkLf W a)∧(ls.map lfW).sum + 1≤Rows.uptoBulk x.1:=by
 obtain ⟨xs,n,_,rfl,hl,hlen,hf⟩:=DataW.trod_struct Tryz.underlying24 h
 rw [show Tryz.prog.cellsOf 24 = 4 from by kernel_rfl] at hl
 match xs,hlen with
 | [y0,y1,y2,y3],_ =>
  have f0:DataW.trod enc Tryz.prog W 0 (fun _=>true) true n 3 ((cs.drop 0).take 1) = some y0:=by have this:DataW.trod enc Tryz.prog W 0 (fun _=>true) true n 3 ((cs.drop 0).take (Tryz.prog.cellsOf 3)) = some y0:=hf 0 _ rfl; rw [show Tryz.prog.cellsOf 3 = 1 from by kernel_rfl] at this; exact this
  have f1:DataW.trod enc Tryz.prog W 0 (fun _=>true) true n 3 ((cs.drop 1).take 1) = some y1:=by have this:DataW.trod enc Tryz.prog W 0 (fun _=>true) true n 3 ((cs.drop 1).take (Tryz.prog.cellsOf 3)) = some y1:=hf 1 _ rfl; rw [show Tryz.prog.cellsOf 3 = 1 from by kernel_rfl] at this; exact this
  have f2:DataW.trod enc Tryz.prog W 0 (fun _=>true) true n 3 ((cs.drop 2).take 1) = some y2:=by have this:DataW.trod enc Tryz.prog W 0 (fun _=>true) true n 3 ((cs.drop 2).take (Tryz.prog.cellsOf 3)) = some y2:=hf 2 _ rfl; rw [show Tryz.prog.cellsOf 3 = 1 from by kernel_rfl] at this; exact this
  have f3:DataW.trod enc Tryz.prog W 0 (fun _=>true) true n 22 ((cs.drop 3).take 1) = some y3:=by have this:DataW.trod enc Tryz.prog W 0 (fun _=>true) true n 22 ((cs.drop 3).take (Tryz.prog.cellsOf 22)) = some y3:=hf 3 _ rfl; rw [show Tryz.prog.cellsOf 22 = 1 from by kernel_rfl] at this; exact this
  simp only [List.map_cons,List.map_nil,Rows.uptoBulk,Rows.uptoBulkAll] at hB ⊢
  obtain ⟨z0,e0,q0,w0⟩:=DataW.trod_int Tryz.underlying3 f0
  have g0:=xa1c w0
  have b0:=xa0r y0.1
  obtain ⟨z1,e1,q1,w1⟩:=DataW.trod_int Tryz.underlying3 f1
  have g1:=xa1c w1
  have b1:=xa0r y1.1
  obtain ⟨z2,e2,q2,w2⟩:=DataW.trod_int Tryz.underlying3 f2
  have g2:=xa1c w2
  have b2:=xa0r y2.1
  obtain ⟨v3,z3,e3,r3,a3,b3⟩:=xb1g f3 (by omega)
  have hd:cs.drop 4 = []:=List.drop_eq_nil_of_le (by omega)
  have this:=xa0q cs 0 1
  rw [e0,xa0q cs 1 1,e1,xa0q cs 2 1,e2,xa0q cs 3 1,e3,hd,List.drop_zero] at this
  exact ⟨z0,z1,z2,v3,z3,by rw [this]; rfl,g0,r3,a3,by omega⟩
end
end
end Go.Proofs.YtejchncdimcdbaaGreatDoor
