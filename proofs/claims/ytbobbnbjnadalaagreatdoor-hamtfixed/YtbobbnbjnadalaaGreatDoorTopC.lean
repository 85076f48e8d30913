import Derived.Test.YtbobbnbjnadalaaGreatDoorTopB
namespace Go.Proofs.YtbobbnbjnadalaaGreatDoor
set_option linter.unusedVariables false
set_option linter.unusedSimpArgs false
set_option maxRecDepth 100000
section
open Go.RowKit Go.BigFrame
def zwy:Array Value:=(wayC 0 (List.replicate 32 0) (.slice none 0 0) (.pointer none) 0 false).toArray
theorem xa0z:(#[.int .i64 0,.int .u8 0,.int .u8 0,.int .u8 0,.int .u8 0,.int .u8 0,.int .u8 0,.int .u8 0,.int .u8 0,.int .u8 0,.int .u8 0,.int .u8 0,.int .u8 0,.int .u8 0,.int .u8 0,.int .u8 0,.int .u8 0,.int .u8 0,.int .u8 0,.int .u8 0,.int .u8 0,.int .u8 0,.int .u8 0,.int .u8 0,.int .u8 0,.int .u8 0,.int .u8 0,.int .u8 0,.int .u8 0,.int .u8 0,.int .u8 0,.int .u8 0,.int .u8 0,.slice none 0 0,.pointer none,.int .i64 0,.bool false]:Array Value) = zwy:=rfl
theorem xa2a:zwy.size = 37:=rfl
theorem Tryz.size_way:(Tryz.prog.info? 93).map (·.size) = some 37:=by kernel_rfl
theorem xa0r {k:Nat} {D:List Nat} {cr en:Value} (pl:Nat) (fd:Bool) (h1:cr.oneCell' = true) (h2:en.oneCell' = true):(wayC k D cr en pl fd).toArray.all (·.oneCell') = true:=by
 rw [Array.all_eq_true_iff_forall_mem]
 intro v hv
 simp only [wayC,List.mem_toArray,List.mem_cons,List.mem_append,List.mem_map,List.not_mem_nil,or_false] at hv
 rcases hv with rfl | ⟨x,_,rfl⟩ | rfl | rfl | rfl | rfl
 ·rfl
 ·rfl
 ·exact h1
 ·exact h2
 ·rfl
 ·rfl
def wyM (b:Nat) (W:World):Nat:=match W.cell? ⟨b,33,none⟩ with
 | some (.slice _ n _)=>100 - n
 | _=>0
theorem wyM_at {b k pl:Nat} {W:World} {D:List Nat} {en:Value} {fd:Bool} {t:TypeId} {ao:Option Addr} {n c:Nat} (h:W.heap[b]? = some (.cells (wayC k D (.slice ao n c) en pl fd).toArray t (0,0))) (hD:D.length = 32):wyM b W = 100 - n:=by
 unfold wyM; rw [(xa0s h hD).2.2.1]
theorem Tryz.infoPB:(Tryz.prog.info? 98).map (fun i=>(i.zero,i.size,i.bytes)) = some (some (.pointer none),1,8):=by kernel_rfl
theorem xa7g (gs:List Nat):(∀ r∈ptrs gs,r.length = 1)∧∀ r∈ptrs gs,∀ u∈r,u.oneCell' = true:=by
 constructor
 ·intro r hr; obtain ⟨g,_,rfl⟩:=List.mem_map.1 hr; rfl
 ·intro r hr u hu; obtain ⟨g,_,rfl⟩:=List.mem_map.1 hr; have:u = .pointer (some ⟨g,0,none⟩):=by simpa using hu
  rw [this]; rfl
theorem xa3u {w:World} {base:Nat} {e t:TypeId} {s n b:Nat} {v:Value} {xs:List Value} {cs:Array Value} {fr:Nat × Nat} (h:w.ownsRow base e s v n xs) (hb:w.heap[b]? = some (.cells cs t fr)) (hne:e≠t):v.ownBlock≠some b:=by
 intro e'
 rcases h.2 with ⟨rfl,_⟩ | ⟨g,cap,cur,rfl,_,hg,_⟩
 ·simp [Value.ownBlock] at e'
 ·simp only [Value.ownBlock,Option.some.injEq] at e'
  subst e'
  rw [hb] at hg
  simp at hg
  first | exact hne hg.2.1.symm | exact hne hg.2.symm
structure WayAt0 (S:Nat→Prop) (k:Nat) (w W:World) (q:List Nat) (L:Prs) (m:Nat) (cr en:Value) (pl:Nat) (fd:Bool):Prop where
 cr:∃ gs:List Nat,gs.length = m∧RdC 1 W cr (ptrs gs)∧∀ i,i < m→TreeAt S (hsZ k) w (64 - i) (brV (gs.getD i 0)) (dnL (hsZ k) q L i)∧sgl (hsZ k) (dnL (hsZ k) q L i) = false
 en:(dnL (hsZ k) q L m = []∧en = .pointer none∧pl = 0∧fd = false)∨(sgl (hsZ k) (dnL (hsZ k) q L m) = true∧∃ g,en = .pointer (some ⟨g,0,none⟩)∧BkAt S (hsZ k) w g (dnL (hsZ k) q L m)∧pl = plc q (dnL (hsZ k) q L m)∧fd = fnd q (dnL (hsZ k) q L m))
 deep:m≤2 * k
theorem WayAt0.fin {S T:Nat→Prop} {k:Nat} {w W':World} {q:List Nat} {L:Prs} {m:Nat} {cr en:Value} {pl:Nat} {fd:Bool} (h:WayAt0 T k w W' q L m cr en pl fd) (hs:∀ x,T x→S x) (kk:Agr T w W'):WayAt S k W' q L m cr en pl fd:=by
 obtain ⟨⟨gs,h1,h2,h3⟩,h4,h5⟩:=h
 refine ⟨⟨gs,h1,h2,fun i hi=>⟨((h3 i hi).1.agr kk).mono hs,(h3 i hi).2⟩⟩,?_,h5⟩
 rcases h4 with h4 | ⟨h4,g,h6,h7,h8⟩
 ·exact Or.inl h4
 ·exact Or.inr ⟨h4,g,h6,(h7.agr kk).mono hs,h8⟩
theorem xa8g {w:World} {base T m:Nat} {v:Value} {gs:List Nat} (h:w.ownsRow base T 1 v m (ptrs gs).flatten) (hl:gs.length = m):RdC 1 w v (ptrs gs) :=
 xa2x (by rw [show (ptrs gs).length = m by rw [ptrs,List.length_map,hl]]; exact h) (xa7g gs).1
set_option maxHeartbeats 4000000 in
theorem xb4c (S:Nat→Prop) (k:Nat) (tv:Value) (L:Prs) (uw:Value) (q:List Nat) (w:World) (hk:1≤k∧k≤32) (h:KidAt S (hsZ k) w 64 tv L) (hs:Srt (hsZ k) L) (hu:Rd w uw q) (hn:L.length≤1000000000) :
  Calls Tryz.prog 69 #[.int .i64 k,tv,.agg (brow ((hsZ k).kd q)),uw] w fun e w'=>∃ m cr en pl fd,e = .returned (.agg (wayC k ((hsZ k).kd q) cr en pl fd).toArray)∧WayAt S k w' q L m cr en pl fd∧Kept [] w w':=by
 have hH:=hsZ_ok hk
 have hDg:=hH.dg q
 have hfm:=xa9e hk q
 have hu':=hu
 obtain ⟨ua,un,uc,rfl,_⟩:=hu'
 obtain ⟨D,hD⟩:∃ D,(hsZ k).kd q = D:=⟨_,rfl⟩
 have HDn:=hide (fun i=>by rw [← hD]; rfl:∀ i,ch (hsZ k) i (dgt D i) (dnL (hsZ k) q L i) = dnL (hsZ k) q L (i + 1))
 rw [hD] at hDg hfm ⊢
 have hDl:=hDg.1
 have HU:=hide hu
 have HSr:=hide hs
 have hm1:=ta_bk
 have hm2:=ta_br
 have hm3:=ta_nil
 have hm4:=tb_bk
 have hm5:=tb_br
 have hm6:=tb_nil
 have HB:=hide (xb3m k D hDl)
 clear hu hs hD
 have HK0:=hide (((Kept.refl [] w).alloc (.cells (brow D) 30)).alloc (.cells zwy 93))
 have HD0:=hide (((Kept.refl [] (w.alloc (.cells (brow D) 30))).alloc (.cells zwy 93)).heap (heap_alloc_new w (.cells (brow D) 30)) (by simp))
 have HZ0:=hide (xa2y w (.cells (brow D) 30) (.cells zwy 93))
 have hs0:((w.alloc (.cells (brow D) 30)).alloc (.cells zwy 93)).heap.size = w.heap.size + 2:=by simp
 have h':=h.shrink hH
 obtain ⟨T,hT⟩:∃ T,lowS S w = T:=⟨_,rfl⟩
 rw [hT] at h'
 have HTS:=hide (by rw [← hT]; exact xb0f S w:∀ x,T x→S x)
 have HAG:=hide (by rw [← hT]; exact fun A B hA hB hl=>xb9l hA hB hl:∀ A B,Kept [] w A→Kept [] w B→A.heap.size≤B.heap.size→Agr T A B)
 clear hT h
 go_enter Tryz.func69,Tryz.ntmps69
 have hnw:((wayC k D (.slice none 0 0) (.pointer none) 0 false).toArray).size = 37:=by rw [List.size_toArray,xa0v hDl]
 have HZ1:=hide (by have h9:=heap_alloc_new ((w.alloc (.cells (brow D) 30)).alloc (.cells zwy 93)) (.cells zwy 93); rw [hs0] at h9; exact h9:(((w.alloc (.cells (brow D) 30)).alloc (.cells zwy 93)).alloc (.cells zwy 93)).heap[w.heap.size + 1 + 1]? = some (.cells zwy 93 (0,0)))
 have HK1:=hide ((uh HK0).alloc (.cells zwy 93))
 have HR2:=hide (setRow_heap _ _ _ ((wayC k D (.slice none 0 0) (.pointer none) 0 false).toArray) _ _ (uh HZ1))
 have HK2:=hide ((uh HK1).setRow (g:=w.heap.size + 1 + 1) (Or.inr (by omega)) ((wayC k D (.slice none 0 0) (.pointer none) 0 false).toArray))
 have hk9:=((Kept.refl [w.heap.size + 1 + 1] ((w.alloc (.cells (brow D) 30)).alloc (.cells zwy 93))).alloc (.cells zwy 93)).setRow (g:=w.heap.size + 1 + 1) (Or.inl (by simp)) ((wayC k D (.slice none 0 0) (.pointer none) 0 false).toArray)
 have HD2:=hide (hk9.heap (uh HD0) (by simp; omega))
 have HZ2:=hide (hk9.heap (uh HZ0) (by simp))
 clear hk9
 go_wp2_with (first
  | (rw [xa0z]; refine wpList_load_row rfl 30 (.tmp 6) rfl w.heap.size rfl 30 (brow D) (0,0) _ (uh HD0) Tryz.underlying30 rfl (by rw [xa0a,hDl]; exact Tryz.size_dig) ?_)
  | (refine xa0p rfl 93 _ rfl (wayC k D (.slice none 0 0) (.pointer none) 0 false).toArray (by simp only [List.map_toArray,List.map_cons,List.map_nil]; exact uh HB) ?_)
  | (rw [xa0z]; refine wpList_store_row rfl 93 (.tmp 9) (.tmp 15) rfl (w.heap.size + 1 + 1) (wayC k D (.slice none 0 0) (.pointer none) 0 false).toArray rfl rfl _ zwy (uh HZ1) (by rw [hnw]; exact Tryz.size_way) (by rw [hnw]; rfl) (xa0r _ _ rfl rfl) ?_))
 clear HZ1 HK1 HZ0 HD0 HK0 hs0 HB
 generalize ((((w.alloc (.cells (brow D) 30)).alloc (.cells zwy 93)).alloc (.cells zwy 93)).setRow (w.heap.size + 1 + 1) ((wayC k D (.slice none 0 0) (.pointer none) 0 false).toArray)) = W2 at HR2 HK2 HD2 HZ2 ⊢
 simp only [Act.put]
 have hw2:=hide (uh HK2).size
 go_loopw [1] (fun t1 wr=>∃ (m:Nat) (v:Value) (ao:Option Addr) (c:Nat) (gs:List Nat),t1 = v∧gs.length = m∧m≤2 * k∧Hid (KidAt T (hsZ k) wr (64 - m) v (dnL (hsZ k) q L m))∧Hid (∀ i,i < m→TreeAt T (hsZ k) wr (64 - i) (brV (gs.getD i 0)) (dnL (hsZ k) q L i)∧sgl (hsZ k) (dnL (hsZ k) q L i) = false)∧Hid (wr.ownsRow w.heap.size 98 1 (.slice ao m c) m (ptrs gs).flatten) ∧
  Hid (wr.heap[w.heap.size + 2]? = some (.cells (wayC k D (.slice ao m c) (.pointer none) 0 false).toArray 93 (0,0)))∧Hid (wr.heap[w.heap.size + 1]? = some (.cells zwy 93 (0,0)))∧Hid (wr.heap[w.heap.size]? = some (.cells (brow D) 30 (0,0)))∧Hid (Kept [] w wr)) (fun _ wr=>wyM (w.heap.size + 2) wr)
 case atStart=>exact ⟨0,tv,none,0,[],rfl,rfl,Nat.zero_le _,hide (h'.agr (uh HAG w W2 (Kept.refl [] w) (uh HK2) (uh HK2).size)),hide (fun i hi=>by omega),hide (World.ownsRow_nil _ _ _ _),HR2,HZ2,HD2,HK2⟩
 case round =>
  obtain ⟨m,v,ao,c,gs,rfl,hgl,hmk,HKd,HTs,HOw,HRw,HZw,HDw,HKw⟩:=hrel
  have hnwA:∀ cr en pl fd,((wayC k D cr en pl fd).toArray).size = 37:=fun cr en pl fd=>by rw [List.size_toArray,xa0v hDl]
  rcases uh HKd with ⟨hnil,rfl⟩ | ht
  ·have hkf:=(uh HKw).setRow (g:=w.heap.size + 1) (Or.inr (by omega)) (wayC k D (.slice ao m c) (.pointer none) 0 false).toArray
   have hof:=((Kept.refl [w.heap.size + 1] wr).setRow (g:=w.heap.size + 1) (Or.inl (by simp)) (wayC k D (.slice ao m c) (.pointer none) 0 false).toArray).owns (uh HOw) (fun x hx hm=>xa3u (uh HOw) (uh HZw) (by decide) (by rw [List.mem_singleton] at hm; rw [← hm]; exact hx))
   go_wp2_with (first
    | (refine wpList_load_row rfl 93 (.tmp 9) rfl (w.heap.size + 2) rfl 93 (wayC k D (.slice ao m c) (.pointer none) 0 false).toArray (0,0) _ (uh HRw) Tryz.underlying93 rfl (by rw [hnwA]; exact Tryz.size_way) ?_)
    | (refine wpList_store_row rfl 93 (.tmp 8) (.tmp 17) rfl (w.heap.size + 1) (wayC k D (.slice ao m c) (.pointer none) 0 false).toArray rfl rfl _ zwy (uh HZw) (by rw [hnwA]; exact Tryz.size_way) (by rw [hnwA]; rfl) (xa0r _ _ rfl rfl) ?_))
   refine bodyPost_ret (v:=.agg (wayC k D (.slice ao m c) (.pointer none) 0 false).toArray) ?_ rfl ⟨m,_,_,_,_,rfl,WayAt0.fin ⟨⟨gs,hgl,xa8g hof hgl,fun i hi=>uh HTs i hi⟩,Or.inl ⟨hnil,rfl,rfl,rfl⟩,hmk⟩ (uh HTS) (uh HAG _ _ (uh HKw) hkf (by simp)),hkf⟩
   exact results_cell_row rfl _ _ (w.heap.size + 1) _ (wayC k D (.slice ao m c) (.pointer none) 0 false).toArray (0,0) _ rfl (setRow_heap _ _ _ _ _ _ (uh HZw)) Tryz.underlying93 rfl (by rw [hnwA]; exact Tryz.size_way)
  ·cases hsg:sgl (hsZ k) (dnL (hsZ k) q L m) with
   | true =>
    obtain ⟨g,rfl,hb⟩:=ht.bk hsg
    have hlen:=dn_len (H:=hsZ k) (q:=q) (L:=L) m
    have hkdx:((hsZ k).kd ((dnL (hsZ k) q L m).headD ([],[])).1).length = 32:=(hH.dg _).1
    have hris:=xa5o (dn_srt (uh HSr) m) hsg
    obtain ⟨cw0,cw1,cw2,cw3,cw4,cw5⟩:=xa0s (uh HRw) hDl
    have cz:=fun o=>frozen_of_row _ (w.heap.size + 2) (⟨w.heap.size + 2,o,none⟩:Addr).off _ _ (uh HRw)
    have HR3:=hide ((xa8f (uh HRw) hDl).2.1 (.pointer (some ⟨g,0,none⟩)))
    have HK3:=hide ((uh HKw).setCell (p:=⟨w.heap.size + 2,34,none⟩) (Or.inr (by show w.heap.size≤w.heap.size + 2; omega)) (.pointer (some ⟨g,0,none⟩)))
    have hko:=(Kept.refl [w.heap.size + 2] wr).setCell (p:=⟨w.heap.size + 2,34,none⟩) (Or.inl (by simp)) (.pointer (some ⟨g,0,none⟩))
    have HZ3:=hide (hko.heap (uh HZw) (by simp))
    have HO3:=hide (hko.owns (uh HOw) (fun x hx hm=>xa3u (uh HOw) (uh HRw) (by decide) (by rw [List.mem_singleton] at hm; rw [← hm]; exact hx)))
    clear hko cw0 cw1 cw2 cw4 cw5
    go_wp2_with fail
    clear cw3 cz
    have hz3:wr.heap.size≤(wr.setCell ⟨w.heap.size + 2,34,none⟩ (.pointer (some ⟨g,0,none⟩))).heap.size:=by simp
    generalize wr.setCell ⟨w.heap.size + 2,34,none⟩ (.pointer (some ⟨g,0,none⟩)) = W3 at HR3 HK3 HZ3 HO3 hz3 ⊢
    refine Calls.mono (xb4j T (hsZ k) g (dnL (hsZ k) q L m) _ q W3 (hb.agr (uh HAG _ _ (uh HKw) (uh HK3) hz3)) hkdx ((uh HU).old (uh HK3) (by simp)) hris (by omega)) ?_
    rintro e W4 ⟨rfl,k4⟩
    generalize hpl:plc q (dnL (hsZ k) q L m) = pl
    generalize hfd:fnd q (dnL (hsZ k) q L m) = fd
    have HR4:=hide (k4.heap (uh HR3) (by simp))
    have HK4:=hide ((uh HK3).trans k4 (by simp))
    have HZ4:=hide (k4.heap (uh HZ3) (by simp))
    have HZs:=hide (Nat.le_trans hz3 k4.size)
    have HO4:=hide (k4.owns (uh HO3) (by simp))
    clear k4 HR3 HK3 HZ3 HO3
    obtain ⟨cw0,cw1,cw2,cw3,cw4,cw5⟩:=xa0s (uh HR4) hDl
    have cz:=fun o=>frozen_of_row _ (w.heap.size + 2) (⟨w.heap.size + 2,o,none⟩:Addr).off _ _ (uh HR4)
    have HR5:=hide ((xa8f (uh HR4) hDl).2.2.1 pl)
    have HR6:=hide ((xa8f (uh HR5) hDl).2.2.2 fd)
    have hk6:=((uh HK4).setCell (p:=⟨w.heap.size + 2,35,none⟩) (Or.inr (by show w.heap.size≤w.heap.size + 2; omega)) (.int .i64 pl)).setCell (p:=⟨w.heap.size + 2,36,none⟩) (Or.inr (by show w.heap.size≤w.heap.size + 2; omega)) (.bool fd)
    have hko:=((Kept.refl [w.heap.size + 2] W4).setCell (p:=⟨w.heap.size + 2,35,none⟩) (Or.inl (by simp)) (.int .i64 pl)).setCell (p:=⟨w.heap.size + 2,36,none⟩) (Or.inl (by simp)) (.bool fd)
    have HZ6:=hide (hko.heap (uh HZ4) (by simp))
    have HO6:=hide (hko.owns (uh HO4) (fun x hx hm=>xa3u (uh HO4) (uh HR4) (by decide) (by rw [List.mem_singleton] at hm; rw [← hm]; exact hx)))
    have HK6:=hide hk6
    clear hko cw0 cw1 cw2 cw3 hk6 HR5
    have hkf:=(uh HK6).setRow (g:=w.heap.size + 1) (Or.inr (by omega)) (wayC k D (.slice ao m c) (.pointer (some ⟨g,0,none⟩)) pl fd).toArray
    have hof:=((Kept.refl [w.heap.size + 1] ((W4.setCell ⟨w.heap.size + 2,35,none⟩ (.int .i64 pl)).setCell ⟨w.heap.size + 2,36,none⟩ (.bool fd))).setRow (g:=w.heap.size + 1) (Or.inl (by simp)) (wayC k D (.slice ao m c) (.pointer (some ⟨g,0,none⟩)) pl fd).toArray).owns (uh HO6) (fun x hx hm=>xa3u (uh HO6) (uh HZ6) (by decide) (by rw [List.mem_singleton] at hm; rw [← hm]; exact hx))
    go_wp2_with (first
     | (refine wpList_load_row rfl 93 (.tmp 9) rfl (w.heap.size + 2) rfl 93 (wayC k D (.slice ao m c) (.pointer (some ⟨g,0,none⟩)) pl fd).toArray (0,0) _ (uh HR6) Tryz.underlying93 rfl (by rw [hnwA]; exact Tryz.size_way) ?_)
     | (refine wpList_store_row rfl 93 (.tmp 8) (.tmp 48) rfl (w.heap.size + 1) (wayC k D (.slice ao m c) (.pointer (some ⟨g,0,none⟩)) pl fd).toArray rfl rfl _ zwy (uh HZ6) (by rw [hnwA]; exact Tryz.size_way) (by rw [hnwA]; rfl) (xa0r _ _ rfl rfl) ?_))
    refine bodyPost_ret (v:=.agg (wayC k D (.slice ao m c) (.pointer (some ⟨g,0,none⟩)) pl fd).toArray) ?_ rfl ⟨m,_,_,_,_,rfl,WayAt0.fin ⟨⟨gs,hgl,xa8g hof hgl,fun i hi=>uh HTs i hi⟩,Or.inr ⟨hsg,g,rfl,hb,hpl.symm,hfd.symm⟩,hmk⟩ (uh HTS) (uh HAG _ _ (uh HKw) hkf (by have:=uh HZs; simp; omega)),hkf⟩
    exact results_cell_row rfl _ _ (w.heap.size + 1) _ (wayC k D (.slice ao m c) (.pointer (some ⟨g,0,none⟩)) pl fd).toArray (0,0) _ rfl (setRow_heap _ _ _ _ _ _ (uh HZ6)) Tryz.underlying93 rfl (by rw [hnwA]; exact Tryz.size_way)
   | false =>
    have hdeep:m < 2 * k:=deep hH (dn_on m).pre hsg
    obtain ⟨f,hf⟩:∃ f,64 - m = f + 1:=⟨63 - m,by omega⟩
    rw [hf] at ht
    obtain ⟨g,_,_,e,_⟩:=ht.2 hsg
    subst e
    have hfm2:63 - f = m:=by omega
    have hd16:=dgt_lt hDg.2 m
    have HT:=hide ht
    have hnx:=uh HDn m
    have hTm:TreeAt T (hsZ k) wr (64 - m) (brV g) (dnL (hsZ k) q L m):=by rw [hf]; exact ht
    have HTm:=hide hTm
    clear hTm
    obtain ⟨cw0,cw1,cw2,cw3,cw4,cw5⟩:=xa0s (uh HRw) hDl
    clear cw0 cw1 cw3 cw4 cw5 ht
    go_wp2_with (refine wpList_load_row rfl 30 (.tmp 6) rfl w.heap.size rfl 30 (brow D) (0,0) _ (uh HDw) Tryz.underlying30 rfl (by rw [xa0a,hDl]; exact Tryz.size_dig) ?_)
    refine Calls.mono (xa2j k D m wr hk hDg hfm hdeep) ?_
    rintro e W3 ⟨rfl,k3⟩
    have HK3:=hide ((uh HKw).trans k3 (by simp))
    have HR3:=hide (k3.heap (uh HRw) (by simp))
    have HZ3:=hide (k3.heap (uh HZw) (by simp))
    have HD3:=hide (k3.heap (uh HDw) (by simp))
    have HO3:=hide (k3.owns (uh HOw) (by simp))
    have HA3:=hide (uh HAG wr W3 (uh HKw) (uh HK3) k3.size)
    clear k3
    obtain ⟨x,hx⟩:∃ x,dgt D m = x:=⟨_,rfl⟩
    rw [hx] at hd16 hnx ⊢
    go_wp2_with fail
    refine Calls.mono (xb8f T (hsZ k) f g x (dnL (hsZ k) q L m) W3 ((uh HT).agr (uh HA3)) hsg hd16) ?_
    rintro e W4 ⟨v4,rfl,hk4,k4⟩
    rw [hfm2,hnx,show f = 64 - (m + 1) by omega] at hk4
    have HK4:=hide ((uh HK3).trans k4 (by simp))
    have HR4:=hide (k4.heap (uh HR3) (by simp))
    have HZ4:=hide (k4.heap (uh HZ3) (by simp))
    have HD4:=hide (k4.heap (uh HD3) (by simp))
    have HO4:=hide (k4.owns (uh HO3) (by simp))
    have hz4:=Nat.le_trans (uh HA3).1 k4.size
    have HKd4:=hide hk4
    clear k4 hk4 HK3 HR3 HZ3 HD3 HO3 HA3 HT cw2
    obtain ⟨cw0,cw1,cw2,cw3,cw4,cw5⟩:=xa0s (uh HR4) hDl
    clear cw0 cw1 cw3 cw4 cw5
    have hrl:=xb6p (t:=98) (l:=[.pointer (some ⟨g,0,none⟩)]) (heap_alloc_new W4 (.cells #[.pointer (some ⟨g,0,none⟩)] 98)) (by simp)
    have HRL:=hide hrl
    have hb4:=(uh HK4).size
    have hka:=(Kept.refl [] W4).alloc (.cells #[.pointer (some ⟨g,0,none⟩)] 98)
    have HO5:=hide (hka.owns (uh HO4) (by simp))
    have HR5:=hide (hka.heap (uh HR4) (by simp))
    have HZ5:=hide (hka.heap (uh HZ4) (by simp))
    have HD5:=hide (hka.heap (uh HD4) (by simp))
    have HK5:=hide ((uh HK4).trans hka (by simp))
    have hz5:=Nat.le_trans hz4 hka.size
    have hz45:=hka.size
    clear hrl hka
    go_wp2_with (at_builtin; refine xa0k rfl 90 98 (.tmp 30) (.tmp 32) rfl rfl (W4.alloc (.cells #[.pointer (some ⟨g,0,none⟩)] 98)) w.heap.size (.pointer none) 1 8 Tryz.underlying90 Tryz.infoPB rfl (by decide) (.slice ao m c) m (ptrs gs).flatten (uh HO5) (some ⟨W4.heap.size,0,none⟩) 1 1 (ptrs [g]) (uh HRL) (xa7g [g]).1 (xa7g [g]).2 (by omega) (by omega) (uh HK5).size rfl rfl ?_; intro ao6 c6 W6 HO6 HG6 HA6; have hk56:=(Kept.refl ((Value.slice ao m c).ownBlock.toList) _).grown (uh HG6) (by intro x hx; left; simp [hx]); have HR6:=hide (hk56.heap (uh HR5) (by intro hm; exact xa3u (uh HO5) (uh HR5) (by decide) (by simpa using hm))); have HZ6:=hide (hk56.heap (uh HZ5) (by intro hm; exact xa3u (uh HO5) (uh HZ5) (by decide) (by simpa using hm))); have HD6:=hide (hk56.heap (uh HD5) (by intro hm; exact xa3u (uh HO5) (uh HD5) (by decide) (by simpa using hm))); have HK6:=hide ((uh HK5).grown (uh HG6) (by intro x hx; right; exact ((uh HO5).lt x hx).1)); have hz6:=Nat.le_trans hz5 hk56.size; have hz46:=Nat.le_trans hz45 hk56.size; obtain ⟨cv0,cv1,cv2,cv3,cv4,cv5⟩:=xa0s (uh HR6) hDl; have cz:=frozen_of_row _ (w.heap.size + 2) 33 _ _ (uh HR6); clear hk56 cv0 cv1 cv3 cv4 cv5 cw2)
    have HR7:=hide ((xa8f (uh HR6) hDl).1 (.slice ao6 (m + 1) c6))
    have HK7:=hide ((uh HK6).setCell (p:=⟨w.heap.size + 2,33,none⟩) (Or.inr (by show w.heap.size≤w.heap.size + 2; omega)) (.slice ao6 (m + 1) c6))
    have hko:=(Kept.refl [w.heap.size + 2] W6).setCell (p:=⟨w.heap.size + 2,33,none⟩) (Or.inl (by simp)) (.slice ao6 (m + 1) c6)
    have HZ7:=hide (hko.heap (uh HZ6) (by simp))
    have HD7:=hide (hko.heap (uh HD6) (by simp))
    have HO7:=hide (hko.owns (uh HO6) (fun x hx hm=>xa3u (uh HO6) (uh HR6) (by decide) (by rw [List.mem_singleton] at hm; rw [← hm]; exact hx)))
    have hz7:wr.heap.size≤(W6.setCell ⟨w.heap.size + 2,33,none⟩ (.slice ao6 (m + 1) c6)).heap.size:=by simp; omega
    refine ⟨⟨m + 1,v4,ao6,c6,gs++[g],rfl,by rw [List.length_append,hgl]; rfl,by omega,hide ((uh HKd4).agr (uh HAG _ _ (uh HK4) (uh HK7) (by simp; omega))),hide (fun i hi=>?_),hide (by rw [show (ptrs (gs++[g])).flatten = (ptrs gs).flatten++(ptrs [g]).flatten by simp [ptrs]]; exact uh HO7),HR7,HZ7,HD7,HK7⟩,?_⟩
    ·rcases Nat.lt_or_ge i m with h9 | h9
     ·have h8:=uh HTs i h9
      rw [show (gs++[g]).getD i 0 = gs.getD i 0 by rw [List.getD_eq_getElem?_getD,List.getD_eq_getElem?_getD,List.getElem?_append_left (by omega)]]
      exact ⟨h8.1.agr (uh HAG _ _ (uh HKw) (uh HK7) hz7),h8.2⟩
     ·obtain rfl:i = m:=by omega
      rw [show (gs++[g]).getD i 0 = g by rw [List.getD_eq_getElem?_getD,List.getElem?_append_right (by omega),hgl,Nat.sub_self]; rfl]
      exact ⟨(uh HTm).agr (uh HAG _ _ (uh HKw) (uh HK7) hz7),hsg⟩
    ·rw [wyM_at (uh HR7) hDl,wyM_at (uh HRw) hDl]; omega
end
section
open Go Go.RowKit Go.BigFrame
theorem ChL.st {P:Program} {Q:Exit→Act→World→Prop} {S:World→Prop} {F:Act→World→Prop} {cs:List Oper} {o:Oper} {a A:Act} {w:World} (ty:TypeId) (x y:Operand) (ho:o.op = .store ty x y) (g:Nat) (cells:Array Value) (hx:a.eval x = .pointer (some ⟨g,0,none⟩)) (hy:a.eval y = .agg cells)
  (t:TypeId) (old:Array Value) (hg:w.heap[g]? = some (.cells old t (0,0))) (hi:(P.info? ty).map (·.size) = some cells.size) (hold:old.size = cells.size) (h1:cells.all (·.oneCell') = true) (hS:S (w.setRow g cells)) (p:a.put o.dst undef = A) (h:ChL P Q S F cs A (w.setRow g cells)):ChL P Q S F (o :: cs) a w:=by
 unfold ChL
 rw [← p] at h
 exact wp_store_row ty x y ho g cells hx hy t old hg hi hold h1 ⟨hS,h⟩
theorem ln_wd {P:Program} {Q:Exit→Act→World→Prop} {id:Nat} {o0 o1 o2 o3 o4 o5 o6 o7 o8 o9 o10 o11 o12:Oper} {a:Act} {w:World} (hm:P.follows .mixedOrders = true) (hb:linB #[o0,o1,o2,o3,o4,o5,o6,o7,o8,o9,o10,o11,o12] [0,1,2,3,4,5,6,7,8,9] [10,11,12] [] = true) (hg:([o0,o1,o2,o3,o4,o5,o6,o7,o8,o9]++([o10,o11,o12]++[])).all (fun o=>o.guard.isNone) = true) (S:World→Prop) (hS:S w.drew)
  (h:LinY P S (ChL P Q S (Q .normal) [o10,o11,o12]) [o0,o1,o2,o3,o4,o5,o6,o7,o8,o9] a w.drew):(Code.region id #[o0,o1,o2,o3,o4,o5,o6,o7,o8,o9,o10,o11,o12] true).wp P Q a w:=xa1b (R:=[0,1,2,3,4,5,6,7,8,9]) (C:=[10,11,12]) (rs:=[o0,o1,o2,o3,o4,o5,o6,o7,o8,o9]) (cs:=[o10,o11,o12]) hm hb rfl rfl hg hS h
theorem ln_pt {P:Program} {Q:Exit→Act→World→Prop} {id:Nat} {o0 o1 o2 o3 o4 o5 o6 o7 o8 o9 o10 o11 o12 o13:Oper} {a:Act} {w:World} (hm:P.follows .mixedOrders = true) (hb:linB #[o0,o1,o2,o3,o4,o5,o6,o7,o8,o9,o10,o11,o12,o13] [0,1,2,3,4,5,6,7] [8,9,10,11,12,13] [] = true) (hg:([o0,o1,o2,o3,o4,o5,o6,o7]++([o8,o9,o10,o11,o12,o13]++[])).all (fun o=>o.guard.isNone) = true) (S:World→Prop) (hS:S w.drew)
  (h:LinY P S (ChL P Q S (Q .normal) [o8,o9,o10,o11,o12,o13]) [o0,o1,o2,o3,o4,o5,o6,o7] a w.drew):(Code.region id #[o0,o1,o2,o3,o4,o5,o6,o7,o8,o9,o10,o11,o12,o13] true).wp P Q a w:=xa1b (R:=[0,1,2,3,4,5,6,7]) (C:=[8,9,10,11,12,13]) (rs:=[o0,o1,o2,o3,o4,o5,o6,o7]) (cs:=[o8,o9,o10,o11,o12,o13]) hm hb rfl rfl hg hS h
theorem ln_dl {P:Program} {Q:Exit→Act→World→Prop} {id:Nat} {o0 o1 o2 o3 o4 o5 o6 o7 o8 o9 o10 o11 o12 o13 o14 o15 o16 o17:Oper} {a:Act} {w:World} (hm:P.follows .mixedOrders = true) (hb:linB #[o0,o1,o2,o3,o4,o5,o6,o7,o8,o9,o10,o11,o12,o13,o14,o15,o16,o17] [0,1,2,3,4,5,6,7,8,9,10] [11,12,13,14,15,16,17] [] = true) (hg:([o0,o1,o2,o3,o4,o5,o6,o7,o8,o9,o10]++([o11,o12,o13,o14,o15,o16,o17]++[])).all (fun o=>o.guard.isNone) = true) (S:World→Prop) (hS:S w.drew)
  (h:LinY P S (ChL P Q S (Q .normal) [o11,o12,o13,o14,o15,o16,o17]) [o0,o1,o2,o3,o4,o5,o6,o7,o8,o9,o10] a w.drew):(Code.region id #[o0,o1,o2,o3,o4,o5,o6,o7,o8,o9,o10,o11,o12,o13,o14,o15,o16,o17] true).wp P Q a w:=xa1b (R:=[0,1,2,3,4,5,6,7,8,9,10]) (C:=[11,12,13,14,15,16,17]) (rs:=[o0,o1,o2,o3,o4,o5,o6,o7,o8,o9,o10]) (cs:=[o11,o12,o13,o14,o15,o16,o17]) hm hb rfl rfl hg hS h
theorem ln_dn {P:Program} {Q:Exit→Act→World→Prop} {id:Nat} {o0 o1 o2 o3 o4 o5 o6 o7 o8 o9 o10 o11 o12 o13 o14 o15 o16:Oper} {a:Act} {w:World} (hm:P.follows .mixedOrders = true) (hb:linB #[o0,o1,o2,o3,o4,o5,o6,o7,o8,o9,o10,o11,o12,o13,o14,o15,o16] [0,1,2,3,4,5,6,7,8,9,10,11] [12,13,14,15,16] [] = true) (hg:([o0,o1,o2,o3,o4,o5,o6,o7,o8,o9,o10,o11]++([o12,o13,o14,o15,o16]++[])).all (fun o=>o.guard.isNone) = true) (S:World→Prop) (hS:S w.drew)
  (h:LinY P S (ChL P Q S (Q .normal) [o12,o13,o14,o15,o16]) [o0,o1,o2,o3,o4,o5,o6,o7,o8,o9,o10,o11] a w.drew):(Code.region id #[o0,o1,o2,o3,o4,o5,o6,o7,o8,o9,o10,o11,o12,o13,o14,o15,o16] true).wp P Q a w:=xa1b (R:=[0,1,2,3,4,5,6,7,8,9,10,11]) (C:=[12,13,14,15,16]) (rs:=[o0,o1,o2,o3,o4,o5,o6,o7,o8,o9,o10,o11]) (cs:=[o12,o13,o14,o15,o16]) hm hb rfl rfl hg hS h
theorem ln_gt {P:Program} {Q:Exit→Act→World→Prop} {id:Nat} {o0 o1 o2 o3 o4 o5 o6 o7 o8 o9 o10 o11 o12 o13:Oper} {a:Act} {w:World} (hm:P.follows .mixedOrders = true) (hb:linB #[o0,o1,o2,o3,o4,o5,o6,o7,o8,o9,o10,o11,o12,o13] [0,1,2,3,4,5,6,7,8,9] [10,11,12,13] [] = true) (hg:([o0,o1,o2,o3,o4,o5,o6,o7,o8,o9]++([o10,o11,o12,o13]++[])).all (fun o=>o.guard.isNone) = true) (S:World→Prop) (hS:S w.drew)
  (h:LinY P S (ChL P Q S (Q .normal) [o10,o11,o12,o13]) [o0,o1,o2,o3,o4,o5,o6,o7,o8,o9] a w.drew):(Code.region id #[o0,o1,o2,o3,o4,o5,o6,o7,o8,o9,o10,o11,o12,o13] true).wp P Q a w:=xa1b (R:=[0,1,2,3,4,5,6,7,8,9]) (C:=[10,11,12,13]) (rs:=[o0,o1,o2,o3,o4,o5,o6,o7,o8,o9]) (cs:=[o10,o11,o12,o13]) hm hb rfl rfl hg hS h
end
section
open Go.RowKit Go.BigFrame
theorem xa6k:Tryz.prog.built 93 [] = some zwy:=by kernel_rfl
def notPtr:Value→Bool
 | .pointer (some _)=>false
 | _=>true
theorem zwy_np:zwy.all notPtr = true:=by kernel_rfl
theorem RdC.off {W W':World} {cr:Value} {gs:List Nat} {g:Nat} {t:TypeId} (h:RdC 1 W cr (ptrs gs)) (hz:W.heap[g]? = some (.cells zwy t (0,0))) (k:Kept [g] W W'):RdC 1 W' cr (ptrs gs):=by
 obtain ⟨ao,n,c,rfl,h1,h2,h3,h4⟩:=h
 refine ⟨ao,n,c,rfl,h1,h2,h3,fun h0=>?_⟩
 obtain ⟨b,off,rfl,h5⟩:=h4 h0
 have hb:b≠g:=by
  intro e
  subst e
  have hl:0 < (ptrs gs).length:=by omega
  have h6:=h5 0 hl 0 (.pointer (some ⟨gs.getD 0 0,0,none⟩)) (by
   have:0 < gs.length:=by rw [ptrs,List.length_map] at hl; exact hl
   simp [ptrs,List.getD_eq_getElem?_getD,List.getElem?_eq_getElem this])
  rw [cell_of_row _ _ _ _ _ _ hz] at h6
  have h7:=Array.mem_of_getElem? h6
  have h8:=(Array.all_eq_true_iff_forall_mem.1 zwy_np) _ h7
  exact absurd h8 (by simp [notPtr])
 exact ⟨b,off,rfl,fun i hi=>k.rng (h5 i hi) (by simp; exact hb)⟩
theorem WayAt.put {S T:Nat→Prop} {k:Nat} {W W':World} {q:List Nat} {L:Prs} {m:Nat} {cr en:Value} {pl:Nat} {fd:Bool} (h:WayAt T k W q L m cr en pl fd) (hs:∀ x,T x→S x) (kk:Agr T W W') (hc:∀ gs,RdC 1 W cr (ptrs gs)→RdC 1 W' cr (ptrs gs)):WayAt S k W' q L m cr en pl fd:=by
 obtain ⟨⟨gs,h1,h2,h3⟩,h4,h5⟩:=h
 refine ⟨⟨gs,h1,hc gs h2,fun i hi=>⟨((h3 i hi).1.agr kk).mono hs,(h3 i hi).2⟩⟩,?_,h5⟩
 rcases h4 with h4 | ⟨h4,g,h6,h7,h8⟩
 ·exact Or.inl h4
 ·exact Or.inr ⟨h4,g,h6,(h7.agr kk).mono hs,h8⟩
theorem WayAt.cells {S:Nat→Prop} {k:Nat} {W:World} {q:List Nat} {L:Prs} {m:Nat} {cr en:Value} {pl:Nat} {fd:Bool} (h:WayAt S k W q L m cr en pl fd):cr.oneCell' = true∧en.oneCell' = true:=by
 obtain ⟨⟨gs,_,⟨_,_,_,rfl,_⟩,_⟩,h4,_⟩:=h
 rcases h4 with ⟨_,rfl,_⟩ | ⟨_,g,rfl,_⟩ <;> exact ⟨rfl,rfl⟩
set_option maxHeartbeats 2000000 in
theorem xa1x (S:Nat→Prop) (k:Nat) (mv kv:Value) (L:Prs) (q:List Nat) (w:World) (hM:MapAt S k w mv L) (hu:Rd w kv q) (hq:q.length≤64) (hT:Tabs w) :
  Calls Tryz.prog 43 #[mv,kv] w fun e w'=>∃ m cr en pl fd,e = .returned (.tuple #[.agg (wayC k ((hsZ k).kd q) cr en pl fd).toArray,.int .i64 0])∧WayAt S k w' q L m cr en pl fd∧Kept [] w w':=by
 obtain ⟨hk,hs,hfit,hlen,g,tv,rfl,hSg,hh,htop⟩:=hM
 have hH:=hsZ_ok hk
 have hkid:KidAt S (hsZ k) w 64 tv L:=htop
 have HT:=hide (hkid.shrink hH)
 obtain ⟨ua,un,uc,rfl,hul,_⟩:=id hu
 have hun:un≤64:=by omega
 have hu1:¬ (64:Int) < un:=by omega
 have hu2:¬ (un:Int) > 64:=by omega
 have c0:w.cell? ⟨g,0,none⟩ = some (.int .i64 k):=by rw [cell_of_row _ _ _ _ _ _ hh]; rfl
 have c2:w.cell? ⟨g,2,none⟩ = some tv:=by rw [cell_of_row _ _ _ _ _ _ hh]; rfl
 have HU:=hide hu
 have HTb:=hide hT
 have HSr:=hide hs
 have hk0:=(Kept.refl [] w).alloc (.cells zwy 93)
 have HK0:=hide hk0
 have c0a:∀ o,(w.alloc o).cell? ⟨g,0,none⟩ = some (.int .i64 k):=fun o=>((Kept.refl [] w).alloc o).cell c0 (by simp)
 have HC0:=hide c0
 have HC2:=hide c2
 have hE:sumE (k:Int) = 0:=by unfold sumE; rw [wide_k hk]; rfl
 have HE:=hide hE
 have hdl:(sumD (k:Int) (2 :: q)).length = 32:=xa0e _ _
 obtain ⟨D,hD⟩:∃ D,sumD (k:Int) (2 :: q) = D:=⟨_,rfl⟩
 have HD:=hide hD
 rw [hD] at hdl
 have HKD:=hide (show (hsZ k).kd q = D from hD)
 clear hkid htop hh hT hs hk0 hul hD hE c2
 go_enter Tryz.func43,Tryz.ntmps43
 go_wp2_with fail
 rw [xa0z]
 refine Calls.mono (xb9p k _ q _ (by omega) ((uh HU).old (uh HK0) (by simp)) (by omega) ((uh HTb).k (uh HK0))) ?_
 rintro e w1 ⟨rfl,k1⟩
 rw [uh HD,uh HE]
 have HZ1:=hide (k1.heap (heap_alloc_new w (.cells zwy 93)) (by simp))
 have HK1:=hide ((uh HK0).trans k1 (by simp))
 have hz1:=lt_of_block (uh HZ1)
 clear k1 c0 c0a
 have HN1:=hide (heap_alloc_new w1 (.cells (zb 32) 30))
 have HZ2:=hide (((Kept.refl [w1.heap.size] w1).alloc (.cells (zb 32) 30)).setRow (g:=w1.heap.size) (Or.inl (by simp)) (brow D) |>.heap (uh HZ1) (by simp; omega))
 have HN2:=hide (setRow_heap _ _ _ (brow D) _ _ (uh HN1))
 have HK2:=hide ((uh HK1).alloc (.cells (zb 32) 30) |>.setRow (g:=w1.heap.size) (Or.inr (uh HK1).size) (brow D))
 go_upto_region 8 with (rw [zb32]; refine wpList_store_row rfl 30 _ _ rfl w1.heap.size (brow D) rfl rfl _ (zb 32) (uh HN1) (by rw [xa0a,hdl]; exact Tryz.size_dig) (by rw [xa0i,xa0a,hdl]) (xa0f _) ?_)
 try simp only [Act.put]
 generalize (w1.alloc (.cells (zb 32) 30)).setRow w1.heap.size (brow D) = W2 at HZ2 HN2 HK2 ⊢
 have hgne:g≠w.heap.size:=by have:=block_lt_of_cell (uh HC0); simp at this; omega
 have HRD:=hide (xa0o [] (D.map u8) [] (by rw [List.nil_append,List.append_nil]; exact uh HN2) rfl)
 have HV0:=hide ((uh HK2).cell (uh HC0) (by simp))
 have HV2:=hide ((uh HK2).cell (uh HC2) (by simp))
 refine ln_wd (by kernel_rfl) (by kernel_rfl) rfl (fun W=>Kept [w.heap.size] W2 W) (Kept.refl _ W2).drew ?_
 refine LinY.mv (x:=.tmp 0) rfl (.pointer (some ⟨g,0,none⟩)) rfl (by simp only [Act.put,sa1,sa2,sa3]; rfl) ?_
 refine LinY.rd (.pointer (some ⟨g,0,none⟩)) (fun W hW=>by go_simp) (by simp only [Act.put,sa1,sa2,sa3]; rfl) ?_
 refine LinY.rd (.pointer (some ⟨g,0,none⟩)) (fun W hW=>by go_simp) (by simp only [Act.put,sa1,sa2,sa3]; rfl) ?_
 refine LinY.rd (.int .i64 k) (fun W hW=>by have h9:=hW.cell (uh HV0) (by simp; exact hgne); go_simp) (by simp only [Act.put,sa1,sa2,sa3]; rfl) ?_
 refine LinY.mv (x:=.tmp 0) rfl (.pointer (some ⟨g,0,none⟩)) rfl (by simp only [Act.put,sa1,sa2,sa3]; rfl) ?_
 refine LinY.rd (.pointer (some ⟨g,0,none⟩)) (fun W hW=>by go_simp) (by simp only [Act.put,sa1,sa2,sa3]; rfl) ?_
 refine LinY.rd (.pointer (some ⟨g,2,none⟩)) (fun W hW=>by go_simp) (by simp only [Act.put,sa1,sa2,sa3]; rfl) ?_
 refine LinY.rd (tv) (fun W hW=>by have h9:=hW.cell (uh HV2) (by simp; exact hgne); go_simp) (by simp only [Act.put,sa1,sa2,sa3]; rfl) ?_
 refine LinY.ld 30 (.tmp 6) rfl w1.heap.size 0 rfl (D.map u8) _ (fun W hW=>hW.rng (uh HRD) (by simp; omega)) Tryz.underlying30 rfl (by rw [List.length_map,hdl]; exact Tryz.size_dig) (by simp only [Act.put,sa1,sa2,sa3]; rfl) ?_
 refine LinY.mv (x:=.tmp 1) rfl (.slice ua un uc) rfl (by simp only [Act.put,sa1,sa2,sa3]; rfl) ?_
 have hd2:=(Kept.refl [] W2).drew
 have hkd2:=(uh HK2).trans hd2 (by simp)
 have hwo:=xb4c (lowS S w) k tv L (.slice ua un uc) q W2.drew hk ((uh HT).agr (Agr.nil hkd2)) (uh HSr) ((uh HU).old hkd2 (by simp)) hlen
 rw [uh HKD] at hwo
 refine ChL.call rfl Tryz.call69 [.int .i64 k,tv,.agg (brow D),.slice ua un uc] rfl hwo ?_
 rintro e w3 ⟨m,cr,en,pl,fd,rfl,hway,k3⟩
 have hk3:=hd2.trans k3 (by simp)
 refine ⟨_,rfl,hk3.mono (by simp),?_⟩
 simp only [Act.put,sa1,sa2,sa3]
 have hz3:=hk3.heap (uh HZ2) (by simp)
 have hcl:=hway.cells
 have hws:((wayC k D cr en pl fd).toArray).size = 37:=by rw [List.size_toArray,xa0v hdl]
 have hkf:=(Kept.refl [w.heap.size] w3).setRow (g:=w.heap.size) (Or.inl (by simp)) (wayC k D cr en pl fd).toArray
 have hks:=((uh HK2).trans hk3 (by simp)).setRow (g:=w.heap.size) (Or.inr (Nat.le_refl _)) (wayC k D cr en pl fd).toArray
 have hwf:=hway.put (S:=S) (xb0f S w) (Agr.kept hkf (by intro x hx hlo; rw [List.mem_singleton] at hx; have:=hlo.2; omega)) (fun gs h=>h.off hz3 hkf)
 have hrf:=setRow_heap _ _ _ (wayC k D cr en pl fd).toArray _ _ hz3
 have hk3f:=(hk3.mono (M:=[w.heap.size]) (by simp)).trans hkf (by simp)
 refine ChL.st 93 (.tmp 4) (.tmp 40) rfl w.heap.size (wayC k D cr en pl fd).toArray rfl rfl _ zwy hz3 (by rw [hws]; exact Tryz.size_way) (by rw [hws]; rfl) (xa0r _ _ hcl.1 hcl.2) hk3f (by simp only [Act.put]; rfl) ?_
 refine ChL.op (.int .i64 0) (by go_simp) hk3f (by simp only [Act.put,sa1,sa2,sa3]; rfl) (ChL.fin ?_)
 go_wp2
 refine bodyPost_ret (v:=.tuple #[.agg (wayC k D cr en pl fd).toArray,.int .i64 0]) ?_ rfl ⟨m,cr,en,pl,fd,by rw [uh HKD],hwf,hks⟩
 exact xa0g rfl _ _ w.heap.size _ (wayC k D cr en pl fd).toArray (0,0) _ rfl hrf Tryz.underlying93 rfl (by rw [hws]; exact Tryz.size_way) _ rfl
abbrev VP:=Value × Value
def PR (S:Nat→Prop) (W:World) (l:List VP) (L:Prs):Prop:=l.length = L.length∧∀ i,i < l.length→Sty S W (fun w=>Rd w (l.getD i (undef,undef)).1 (L.getD i ([],[])).1∧Rd w (l.getD i (undef,undef)).2 (L.getD i ([],[])).2)
theorem PR.agr {S:Nat→Prop} {W W':World} {l:List VP} {L:Prs} (h:PR S W l L) (a:Agr S W W'):PR S W' l L:=⟨h.1,fun i hi=>(h.2 i hi).agr a⟩
theorem PR.nil (S:Nat→Prop) (W:World):PR S W [] []:=⟨rfl,fun i h=>by simp at h⟩
theorem PR.one {S:Nat→Prop} {W:World} {x y:Value} {a b:List Nat} (hx:Sty S W (fun w=>Rd w x a)) (hy:Sty S W (fun w=>Rd w y b)):PR S W [(x,y)] [(a,b)]:=⟨rfl,fun i hi=>by
 have:i = 0:=by simp at hi; omega
 subst this; exact fun w k=>⟨hx w k,hy w k⟩⟩
theorem PR.app {S:Nat→Prop} {W:World} {a b:List VP} {A B:Prs} (h:PR S W a A) (k:PR S W b B):PR S W (a++b) (A++B):=by
 refine ⟨by rw [List.length_append,List.length_append,h.1,k.1],fun i hi=>?_⟩
 rw [List.length_append] at hi
 by_cases hlt:i < a.length
 ·have h1:=h.2 i hlt
  simp only [List.getD_eq_getElem?_getD,List.getElem?_append_left hlt,List.getElem?_append_left (show i < A.length by rw [← h.1]; exact hlt)] at h1 ⊢
  exact h1
 ·have h1:=k.2 (i - a.length) (by omega)
  have e1:(a++b)[i]? = b[i - a.length]?:=List.getElem?_append_right (by omega)
  have e2:(A++B)[i]? = B[i - a.length]?:=by rw [List.getElem?_append_right (by rw [← h.1]; omega),← h.1]
  simp only [List.getD_eq_getElem?_getD,e1,e2] at h1 ⊢
  exact h1
theorem PR.tk {S:Nat→Prop} {W:World} {a:List VP} {A:Prs} (h:PR S W a A) (m:Nat):PR S W (a.take m) (A.take m):=by
 refine ⟨by rw [List.length_take,List.length_take,h.1],fun i hi=>?_⟩
 rw [List.length_take] at hi
 have h1:=h.2 i (by omega)
 simp only [List.getD_eq_getElem?_getD,List.getElem?_take_of_lt (show i < m by omega)] at h1 ⊢
 exact h1
theorem PR.dp {S:Nat→Prop} {W:World} {a:List VP} {A:Prs} (h:PR S W a A) (m:Nat):PR S W (a.drop m) (A.drop m):=by
 refine ⟨by rw [List.length_drop,List.length_drop,h.1],fun i hi=>?_⟩
 rw [List.length_drop] at hi
 have h1:=h.2 (m + i) (by omega)
 simp only [List.getD_eq_getElem?_getD,List.getElem?_drop] at h1 ⊢
 exact h1
def kvR (l:List VP):List (List Value):=l.map fun p=>[p.1,p.2]
theorem xa0t (l:List VP):(kvR l).length = l.length:=by simp [kvR]
theorem kvR_at (l:List VP) (i:Nat) (hi:i < l.length):(kvR l)[i]'(by rw [xa0t]; exact hi) = [l[i].1,l[i].2]:=by simp [kvR]
theorem xb1c (a b:List VP):kvR (a++b) = kvR a++kvR b:=by simp [kvR]
theorem PR.cell {S:Nat→Prop} {W:World} {l:List VP} {L:Prs} (h:PR S W l L):(∀ r∈kvR l,r.length = 2)∧∀ r∈kvR l,∀ u∈r,u.oneCell' = true:=by
 constructor
 ·intro r hr; obtain ⟨p,_,rfl⟩:=List.mem_map.1 hr; rfl
 ·intro r hr u hu
  obtain ⟨p,hp,rfl⟩:=List.mem_map.1 hr
  obtain ⟨i,hi,rfl⟩:=List.getElem_of_mem hp
  have h1:=(h.2 i hi).now
  simp only [List.getD_eq_getElem?_getD,List.getElem?_eq_getElem hi,Option.getD_some] at h1
  obtain ⟨⟨a1,n1,c1,e1,_⟩,⟨a2,n2,c2,e2,_⟩⟩:=h1
  rw [e1,e2] at hu
  simp only [List.mem_cons,List.not_mem_nil,or_false] at hu
  rcases hu with rfl | rfl <;> rfl
theorem KRow.pr {S:Nat→Prop} {W:World} {pv:Value} {L:Prs} (h:KRow S W pv L):∃ b off cap l,pv = .slice (some ⟨b,off,none⟩) l.length cap∧PR S W l L∧RdC 2 W pv (kvR l)∧l.length≤cap∧cap≤9223372036854775807:=by
 obtain ⟨b,off,cap,l,rfl,h2,h3,h4,h5,h6,h7⟩:=h
 refine ⟨b,off,cap,l,rfl,⟨h5,h7⟩,⟨_,_,_,rfl,xa0t l,h2,h3,fun _=>⟨b,off,rfl,fun i hi j u hu=>?_⟩⟩,h2,h3⟩
 rw [xa0t] at hi
 have h8:=h6 i hi
 simp only [List.getD_eq_getElem?_getD,List.getElem?_eq_getElem hi,Option.getD_some] at h8
 have e:(kvR l)[i]'(by rw [xa0t]; exact hi) = [l[i].1,l[i].2]:=by simp [kvR]
 rw [e] at hu
 match j,hu with
 | 0,hu=>rw [Nat.add_zero,h8.1]; exact hu
 | 1,hu=>rw [h8.2]; exact hu
theorem xb2d {S:Nat→Prop} {w:World} {v:Value} {B:Nat} {a b c:List VP} {L:Prs} (h:OwC 46 2 B w v [kvR a,kvR b,kvR c]) (hp:PR S w (a++(b++c)) L) (hn:L≠[]) (hl:(a++(b++c)).length≤1000000000000) (hS:∀ y,B≤y→S y):KRow S w v L:=by
 unfold OwC at h
 have e1:[kvR a,kvR b,kvR c].flatten = kvR (a++(b++c)):=by simp [xb1c]
 rw [e1,xa0t] at h
 have hr:=xa2x (by rw [xa0t]; exact h) hp.cell.1
 have h0:0 < (a++(b++c)).length:=by rw [hp.1]; cases L with
  | nil=>exact absurd rfl hn
  | cons _ _=>simp
 rcases h.2 with ⟨_,h9⟩ | ⟨g,cap,cur,rfl,hg,hh,hc,hm,_⟩
 ·omega
 ·refine ⟨g,0,cap,a++(b++c),rfl,hc,by unfold maxLen at hm; omega,hS g hg,hp.1,fun i hi=>?_,hp.2⟩
  obtain ⟨_,_,_,e9,_,_,_,hcell⟩:=hr
  cases e9
  obtain ⟨b',off',e8,hce⟩:=hcell h0
  cases e8
  have h7:=hce i (by rw [xa0t]; exact hi)
  have e:(kvR (a++(b++c)))[i]'(by rw [xa0t]; exact hi) = [(a++(b++c))[i].1,(a++(b++c))[i].2]:=kvR_at _ i hi
  rw [e] at h7
  simp only [List.getD_eq_getElem?_getD,List.getElem?_eq_getElem hi,Option.getD_some]
  exact ⟨h7 0 _ rfl,h7 1 _ rfl⟩
set_option maxHeartbeats 2000000 in
theorem xa6x (S:Nat→Prop) (k:Nat) (D:List Nat) (cr:Value) (g pl:Nat) (fd:Bool) (E:Prs) (iv:Value) (its:List VP) (IL:Prs) (w:World) (hD:D.length = 32) (hb:BkAt S (hsZ k) w g E) (hpl:pl + (if fd = true then 1 else 0)≤E.length) (hl:E.length≤1000000000) (hi:RdC 2 w iv (kvR its)) (hpi:PR S w its IL) (hil:its.length≤1) (hn:E.take pl++(IL++E.drop (pl + if fd = true then 1 else 0))≠[]) (hS:∀ y,w.heap.size≤y→S y) :
  Calls Tryz.prog 73 #[.agg (wayC k D cr (.pointer (some ⟨g,0,none⟩)) pl fd).toArray,iv] w fun e w'=>∃ ao n c,e = .returned (.slice ao n c)∧KRow S w' (.slice ao n c) (E.take pl++(IL++E.drop (pl + if fd = true then 1 else 0)))∧Kept [] w w':=by
 obtain ⟨pv,hSg,hh,hne,hkr⟩:=hb
 have hkd:((hsZ k).kd (E.headD ([],[])).1).length = 32:=xa0e _ _
 have c1:=(bk_row hh hkd).2.1
 obtain ⟨b,off,cap,l,rfl,hpr,hrd,hc1,hc2⟩:=hkr.pr
 have HK0:=hide ((Kept.refl [] w).alloc (.cells (wayC k D cr (.pointer (some ⟨g,0,none⟩)) pl fd).toArray 93))
 have HG0:=hide (heap_alloc_new w (.cells (wayC k D cr (.pointer (some ⟨g,0,none⟩)) pl fd).toArray 93))
 obtain ⟨cw0,cw1,cw2,cw3,cw4,cw5⟩:=xa0s (uh HG0) hD
 have HC1:=hide ((uh HK0).cell c1 (by simp))
 have HW3:=hide cw3
 have HW4:=hide cw4
 have HPR:=hide hpr
 have HRD:=hide hrd
 have HI:=hide hi
 have HPI:=hide hpi
 have hll:=hpr.1
 obtain ⟨n,hnn⟩:∃ n,l.length = n:=⟨_,rfl⟩
 rw [hnn] at hrd HRD hc1 hll HC1 c1
 have HN:=hide hnn
 have HLL:=hide hll
 rw [← hll] at hpl hl
 have hcell:=hpr.cell
 have hcelli:=hpi.cell
 clear cw0 cw1 cw2 cw3 hpr hrd hkr hh hi hpi hnn hll c1
 obtain ⟨ai,ni,ci,rfl,hi1,_⟩:=id (uh HI)
 rw [xa0t] at hi1
 subst hi1
 obtain ⟨to,hto⟩:∃ t,pl + (if fd = true then 1 else 0) = t:=⟨_,rfl⟩
 rw [hto] at hpl hn ⊢
 have HTo:=hide hto
 go_enter Tryz.func73,Tryz.ntmps73
 have key:∃ t5:Value,t5 = .int .i64 (to:Int):=⟨_,rfl⟩
 cases fd with
 | true =>
  have e1:(pl:Int) + 1 = (to:Int):=by have:=uh HTo; simp at this; omega
  have e2:IntKind.i64.wrap ((pl:Int) + 1) = (to:Int):=by rw [e1]; simp [IntKind.wrap,IntKind.signed,IntKind.bits]; omega
  go_upto_region 4 with fail
  refine ln_ar (by kernel_rfl) (by kernel_rfl) rfl (fun W=>Kept [] (w.alloc (.cells (wayC k D cr (.pointer (some ⟨g,0,none⟩)) pl true).toArray 93)) W) (Kept.refl [] _).drew ?_
  refine LinY.rd (.pointer (some ⟨w.heap.size,34,none⟩)) (fun W hW=>by go_simp) (by simp only [Act.put,sa1,sa2,sa3]; rfl) ?_
  refine LinY.rd (.pointer (some ⟨g,0,none⟩)) (fun W hW=>by have h9:=hW.cell (uh HW3) (by simp); go_simp) (by simp only [Act.put,sa1,sa2,sa3]; rfl) ?_
  refine LinY.rd (.pointer (some ⟨g,0,none⟩)) (fun W hW=>by go_simp) (by simp only [Act.put,sa1,sa2,sa3]; rfl) ?_
  refine LinY.rd (.pointer (some ⟨g,32,none⟩)) (fun W hW=>by go_simp) (by simp only [Act.put,sa1,sa2,sa3]; rfl) ?_
  refine LinY.rd (.slice (some ⟨b,off,none⟩) n cap) (fun W hW=>by have h9:=hW.cell (uh HC1) (by simp); go_simp) (by simp only [Act.put,sa1,sa2,sa3]; rfl) ?_
  refine LinY.rd (.pointer (some ⟨w.heap.size,35,none⟩)) (fun W hW=>by go_simp) (by simp only [Act.put,sa1,sa2,sa3]; rfl) ?_
  refine LinY.rd (.int .i64 pl) (fun W hW=>by have h9:=hW.cell (uh HW4) (by simp); go_simp) (by simp only [Act.put,sa1,sa2,sa3]; rfl) ?_
  refine LinY.mv (x:=.tmp 5) rfl (.int .i64 to) rfl (by simp only [Act.put,sa1,sa2,sa3]; rfl) ?_
  refine LinY.mv (x:=.tmp 1) rfl (.slice ai its.length ci) rfl (by simp only [Act.put,sa1,sa2,sa3]; rfl) ?_
  refine ChL.call rfl Tryz.call112 [.slice (some ⟨b,off,none⟩) n cap,.int .i64 pl,.int .i64 to,.slice ai its.length ci] rfl (xa4c b off n cap pl to _ (kvR l) (kvR its) _ ((uh HRD).old (((uh HK0)).drew)) ((uh HI).old ((uh HK0).drew)) (by omega) (by omega) (by omega) (by rw [xa0t]; omega) hcell.1 hcell.2 hcelli.1 hcelli.2) ?_
  rintro e w2 ⟨v',rfl,ho,k2⟩
  have hkw:=((Kept.refl [] (w.alloc (.cells (wayC k D cr (.pointer (some ⟨g,0,none⟩)) pl true).toArray 93))).drew).trans k2 (by simp)
  have hk2:=(uh HK0).trans hkw (by simp)
  refine ⟨v',rfl,hkw,?_⟩
  simp only [Act.put,sa1,sa2,sa3]
  have hkv:[(kvR l).take pl,kvR its,(kvR l).drop to] = [kvR (l.take pl),kvR its,kvR (l.drop to)]:=by simp [kvR,List.map_take,List.map_drop]
  rw [hkv] at ho
  have hpf:=(((uh HPR).tk pl).app ((uh HPI).app ((uh HPR).dp to))).agr (Agr.nil hk2)
  have hfin:=xb2d ho hpf hn (by have:=uh HN; simp; omega) (fun y hy=>hS y (by have:=(uh HK0).size; simp at hy; omega))
  obtain ⟨ao,n9,c9,e9⟩:∃ ao n c,v' = .slice ao n c:=by
   obtain ⟨b9,o9,c9,l9,e9,_⟩:=id hfin
   exact ⟨_,_,_,e9⟩
  subst e9
  refine ChL.op (.slice ao n9 c9) (by go_simp) hkw (by simp only [Act.put,sa1,sa2,sa3]; rfl) (ChL.fin ?_)
  go_wp2
  go_ret
  exact ⟨_,_,_,rfl,hfin,hk2⟩
 | false =>
  have e1:pl = to:=by have:=uh HTo; simpa using this
  subst e1
  go_upto_region 4 with fail
  refine ln_ar (by kernel_rfl) (by kernel_rfl) rfl (fun W=>Kept [] (w.alloc (.cells (wayC k D cr (.pointer (some ⟨g,0,none⟩)) pl false).toArray 93)) W) (Kept.refl [] _).drew ?_
  refine LinY.rd (.pointer (some ⟨w.heap.size,34,none⟩)) (fun W hW=>by go_simp) (by simp only [Act.put,sa1,sa2,sa3]; rfl) ?_
  refine LinY.rd (.pointer (some ⟨g,0,none⟩)) (fun W hW=>by have h9:=hW.cell (uh HW3) (by simp); go_simp) (by simp only [Act.put,sa1,sa2,sa3]; rfl) ?_
  refine LinY.rd (.pointer (some ⟨g,0,none⟩)) (fun W hW=>by go_simp) (by simp only [Act.put,sa1,sa2,sa3]; rfl) ?_
  refine LinY.rd (.pointer (some ⟨g,32,none⟩)) (fun W hW=>by go_simp) (by simp only [Act.put,sa1,sa2,sa3]; rfl) ?_
  refine LinY.rd (.slice (some ⟨b,off,none⟩) n cap) (fun W hW=>by have h9:=hW.cell (uh HC1) (by simp); go_simp) (by simp only [Act.put,sa1,sa2,sa3]; rfl) ?_
  refine LinY.rd (.pointer (some ⟨w.heap.size,35,none⟩)) (fun W hW=>by go_simp) (by simp only [Act.put,sa1,sa2,sa3]; rfl) ?_
  refine LinY.rd (.int .i64 pl) (fun W hW=>by have h9:=hW.cell (uh HW4) (by simp); go_simp) (by simp only [Act.put,sa1,sa2,sa3]; rfl) ?_
  refine LinY.mv (x:=.tmp 5) rfl (.int .i64 pl) rfl (by simp only [Act.put,sa1,sa2,sa3]; rfl) ?_
  refine LinY.mv (x:=.tmp 1) rfl (.slice ai its.length ci) rfl (by simp only [Act.put,sa1,sa2,sa3]; rfl) ?_
  refine ChL.call rfl Tryz.call112 [.slice (some ⟨b,off,none⟩) n cap,.int .i64 pl,.int .i64 pl,.slice ai its.length ci] rfl (xa4c b off n cap pl pl _ (kvR l) (kvR its) _ ((uh HRD).old (((uh HK0)).drew)) ((uh HI).old ((uh HK0).drew)) (by omega) (by omega) (by omega) (by rw [xa0t]; omega) hcell.1 hcell.2 hcelli.1 hcelli.2) ?_
  rintro e w2 ⟨v',rfl,ho,k2⟩
  have hkw:=((Kept.refl [] (w.alloc (.cells (wayC k D cr (.pointer (some ⟨g,0,none⟩)) pl false).toArray 93))).drew).trans k2 (by simp)
  have hk2:=(uh HK0).trans hkw (by simp)
  refine ⟨v',rfl,hkw,?_⟩
  simp only [Act.put,sa1,sa2,sa3]
  have hkv:[(kvR l).take pl,kvR its,(kvR l).drop pl] = [kvR (l.take pl),kvR its,kvR (l.drop pl)]:=by simp [kvR,List.map_take,List.map_drop]
  rw [hkv] at ho
  have hpf:=(((uh HPR).tk pl).app ((uh HPI).app ((uh HPR).dp pl))).agr (Agr.nil hk2)
  have hfin:=xb2d ho hpf hn (by have:=uh HN; simp; omega) (fun y hy=>hS y (by have:=(uh HK0).size; simp at hy; omega))
  obtain ⟨ao,n9,c9,e9⟩:∃ ao n c,v' = .slice ao n c:=by
   obtain ⟨b9,o9,c9,l9,e9,_⟩:=id hfin
   exact ⟨_,_,_,e9⟩
  subst e9
  refine ChL.op (.slice ao n9 c9) (by go_simp) hkw (by simp only [Act.put,sa1,sa2,sa3]; rfl) (ChL.fin ?_)
  go_wp2
  go_ret
  exact ⟨_,_,_,rfl,hfin,hk2⟩
theorem xa9y {W:World} {cr:Value} {gs:List Nat} (h:RdC 1 W cr (ptrs gs)):∃ ao c b off,cr = .slice ao gs.length c∧gs.length≤c∧c≤9223372036854775807∧(0 < gs.length→ao = some ⟨b,off,none⟩)∧∀ i,i < gs.length→W.cell? ⟨b,off + i,none⟩ = some (.pointer (some ⟨gs.getD i 0,0,none⟩)):=by
 obtain ⟨ao,n,c,rfl,h1,h2,h3,h4⟩:=h
 have hl:gs.length = n:=by rw [← h1,ptrs,List.length_map]
 subst hl
 rcases Nat.eq_zero_or_pos gs.length with h0 | h0
 ·exact ⟨ao,c,0,0,rfl,h2,h3,fun h=>by omega,fun i hi=>by omega⟩
 ·obtain ⟨b,off,rfl,h5⟩:=h4 h0
  refine ⟨_,c,b,off,rfl,h2,h3,fun _=>rfl,fun i hi=>?_⟩
  have h6:=h5 i (by rw [h1]; exact hi) 0 (.pointer (some ⟨gs.getD i 0,0,none⟩)) (by simp [ptrs,List.getD_eq_getElem?_getD,List.getElem?_eq_getElem hi])
  rw [Nat.mul_one,Nat.add_zero] at h6
  exact h6
set_option maxHeartbeats 2000000 in
theorem xa7p (S:Nat→Prop) (k m:Nat) (q:List Nat) (L:Prs) (X:Nat→Prs) (cr en:Value) (pl:Nat) (fd:Bool) (nv:Value) (w:World) (hk:1≤k∧k≤32) (hS:∀ y,w.heap.size≤y→S y) (hW:WayAt S k w q L m cr en pl fd)
  (hX:∀ i,i < m→ch (hsZ k) i (dgt ((hsZ k).kd q) i) (X i) = X (i + 1)∧(∀ j,j < 16→j≠dgt ((hsZ k).kd q) i→ch (hsZ k) i j (X i) = ch (hsZ k) i j (dnL (hsZ k) q L i))∧X i≠[]) (hn:KidAt S (hsZ k) w (64 - m) nv (X m)) (hT:Tabs w) :
  Calls Tryz.prog 44 #[.agg (wayC k ((hsZ k).kd q) cr en pl fd).toArray,nv] w fun e w'=>∃ v,e = .returned v∧KidAt S (hsZ k) w' 64 v (X 0)∧Kept [] w w':=by
 obtain ⟨gs,hgl,hrd,htr⟩:=hW.cr
 have hdeep:=hW.deep
 clear hW
 obtain ⟨ao,c,b,off,rfl,hc1,hc2,hao,hcell⟩:=xa9y hrd
 rw [hgl] at hc1 hao hcell ⊢
 have hDg:=(hsZ_ok hk).dg q
 have hfm:=xa9e hk q
 have HX:=hide hX
 have HTR:=hide htr
 have HC:=hide hcell
 have HTb:=hide hT
 have HAO:=hide hao
 obtain ⟨D,hD⟩:∃ D,(hsZ k).kd q = D:=⟨_,rfl⟩
 rw [hD] at hDg hfm HX ⊢
 have hdl:=hDg.1
 have HK0:=hide ((Kept.refl [] w).alloc (.cells (wayC k D (.slice ao m c) en pl fd).toArray 93))
 have HG0:=hide (heap_alloc_new w (.cells (wayC k D (.slice ao m c) en pl fd).toArray 93))
 obtain ⟨cw0,cw1,cw2,cw3,cw4,cw5⟩:=xa0s (uh HG0) hdl
 have HW0:=hide cw0
 have HW1:=hide cw1
 have HW2:=hide cw2
 have HN:=hide (hn.agr (Agr.nil (uh HK0)))
 have hwm:IntKind.i64.wrap ((m:Int) - 1) = (m:Int) - 1:=by simp [IntKind.wrap,IntKind.signed,IntKind.bits]; omega
 clear hX htr hcell hT hrd hao cw0 cw1 cw3 cw4 cw5 hn hD
 go_enter Tryz.func44,Tryz.ntmps44
 go_wp2_with fail
 have HKa:=hide (Kept.refl [] (w.alloc (.cells (wayC k D (.slice ao m c) en pl fd).toArray 93)))
 have hWs:(w.alloc (.cells (wayC k D (.slice ao m c) en pl fd).toArray 93)).heap.size = w.heap.size + 1:=by simp
 generalize hWa:w.alloc (.cells (wayC k D (.slice ao m c) en pl fd).toArray 93) = Wa at HK0 HG0 HW0 HW1 HW2 HN HKa cw2 hWs ⊢
 clear hWa cw2
 go_loopw [1,5] (fun t1 t5 wr=>∃ (d:Nat) (v:Value),t1 = v∧t5 = .int .i64 ((d:Int) - 1)∧d≤m∧Hid (KidAt S (hsZ k) wr (64 - d) v (X d))∧Hid (Kept [] Wa wr)) (fun _ t _=>(intOf t + 1).toNat)
 case atStart=>exact ⟨m,nv,rfl,by go_num,Nat.le_refl _,HN,HKa⟩
 case round =>
  obtain ⟨d,v,rfl,rfl,hdm,HKd,HKw⟩:=hrel
  cases d with
  | zero =>
   have hm1:¬ (0:Int)≤((0:Nat):Int) - 1:=by omega
   go_wp2_with fail
   go_ret
   exact ⟨_,rfl,uh HKd,(uh HK0).trans (uh HKw) (by simp)⟩
  | succ d =>
   have hki:((d + 1:Nat):Int) - 1 = (d:Int):=by omega
   have h0d:(0:Int)≤(d:Int):=by omega
   rw [hki]
   have hd1:(d:Int) < m:=by omega
   have hdm':d < m:=by omega
   obtain ⟨X1,X2,X3⟩:=uh HX d hdm'
   have hx16:=dgt_lt hDg.2 d
   have haod:=uh HAO (by omega)
   have hcc:=uh HC d hdm'
   obtain ⟨ht1,ht2⟩:=uh HTR d hdm'
   obtain ⟨f,hf⟩:∃ f,64 - d = f + 1:=⟨63 - d,by omega⟩
   have hff:63 - f = d:=by omega
   have hf2:64 - (d + 1) = f:=by omega
   rw [hf] at ht1
   generalize gs.getD d 0 = g at hcc ht1
   have HX1:=hide X1
   have HX2:=hide X2
   have HTD:=hide ht1
   have HTS:=hide ht2
   have hk0w:=(uh HK0).trans (uh HKw) (by simp)
   have hcw:=hk0w.cell hcc (by simp)
   have HCW:=hide hcw
   have HKW:=hide hk0w
   have HV0:=hide ((uh HKw).cell (uh HW0) (by simp))
   have HV1:=hide ((uh HKw).rng (uh HW1) (by simp))
   have HV2:=hide ((uh HKw).cell (uh HW2) (by simp))
   rw [hf2] at HKd
   subst haod
   clear X1 X2 ht1 ht2 hcc hcw hk0w HC HAO HTR
   go_upto_region 4 with fail
   refine ln_li (by kernel_rfl) (by kernel_rfl) rfl (fun W=>Kept [] wr W) (Kept.refl [] _).drew ?_
   refine LinY.rd (.pointer (some ⟨w.heap.size,33,none⟩)) (fun W hW=>by go_simp) (by simp only [Act.put,sa1,sa2,sa3]; rfl) ?_
   refine LinY.rd (.slice (some ⟨b,off,none⟩) m c) (fun W hW=>by have h9:=hW.cell (uh HV2) (by simp); go_simp) (by simp only [Act.put,sa1,sa2,sa3]; rfl) ?_
   refine LinY.mv (x:=.tmp 5) rfl (.int .i64 d) rfl (by simp only [Act.put,sa1,sa2,sa3]; rfl) ?_
   refine LinY.rd (.pointer (some ⟨b,off + d,none⟩)) (fun W hW=>by go_simp) (by simp only [Act.put,sa1,sa2,sa3]; rfl) ?_
   refine LinY.rd (.pointer (some ⟨g,0,none⟩)) (fun W hW=>by have h9:=hW.cell (uh HCW) (by simp); go_simp) (by simp only [Act.put,sa1,sa2,sa3]; rfl) ?_
   refine LinY.rd (.pointer (some ⟨w.heap.size,0,none⟩)) (fun W hW=>by go_simp) (by simp only [Act.put,sa1,sa2,sa3]; rfl) ?_
   refine LinY.rd (.int .i64 k) (fun W hW=>by have h9:=hW.cell (uh HV0) (by simp); go_simp) (by simp only [Act.put,sa1,sa2,sa3]; rfl) ?_
   refine LinY.rd (.pointer (some ⟨w.heap.size,0,none⟩)) (fun W hW=>by go_simp) (by simp only [Act.put,sa1,sa2,sa3]; rfl) ?_
   refine LinY.rd (.int .i64 k) (fun W hW=>by have h9:=hW.cell (uh HV0) (by simp); go_simp) (by simp only [Act.put,sa1,sa2,sa3]; rfl) ?_
   refine LinY.rd (.pointer (some ⟨w.heap.size,1,none⟩)) (fun W hW=>by go_simp) (by simp only [Act.put,sa1,sa2,sa3]; rfl) ?_
   refine LinY.ld 30 (.tmp 23) rfl w.heap.size 1 rfl (D.map u8) _ (fun W hW=>hW.rng (uh HV1) (by simp)) Tryz.underlying30 rfl (by rw [List.length_map,hdl]; exact Tryz.size_dig) (by simp only [Act.put,sa1,sa2,sa3]; rfl) ?_
   refine LinY.mv (x:=.tmp 5) rfl (.int .i64 d) rfl (by simp only [Act.put,sa1,sa2,sa3]; rfl) ?_
   refine LinY.mv (x:=.tmp 1) rfl (u1) rfl (by simp only [Act.put,sa1,sa2,sa3]; rfl) ?_
   refine ChL.call rfl Tryz.call71 [.int .i64 k,.agg (brow D),.int .i64 d] rfl (xa2j k D d _ hk hDg hfm (by omega)) ?_
   rintro e w2 ⟨rfl,k2⟩
   have hkw:=((Kept.refl [] wr).drew).trans k2 (by simp)
   have HKw2:=hide hkw
   refine ⟨_,rfl,hkw,?_⟩
   simp only [Act.put,sa1,sa2,sa3]
   obtain ⟨x,hx⟩:∃ x,dgt D d = x:=⟨_,rfl⟩
   rw [hx] at hx16 HX1 HX2 ⊢
   have HKW2:=hide ((uh HKW).trans hkw (by simp))
   refine ChL.call rfl Tryz.call70 [.pointer (some ⟨g,0,none⟩),.int .i64 k,.int .i64 x,u1] rfl (xa9p S k f g x (dnL (hsZ k) q L d) (X d) u1 w2 hk (fun y hy=>hS y (Nat.le_trans (uh HKW2).size hy)) ((uh HTD).agr (Agr.nil (uh HKW2))) (uh HTS) hx16 (by rw [hff,uh HX1]; exact (uh HKd).agr (Agr.nil hkw)) (by rw [hff]; exact uh HX2) X3 ((uh HTb).k (uh HKW2))) ?_
   rintro e w3 ⟨v3,rfl,ht3,k3⟩
   have hkw3:=hkw.trans k3 (by simp)
   refine ⟨_,rfl,hkw3,?_⟩
   simp only [Act.put,sa1,sa2,sa3]
   refine ChL.op v3 (by go_simp) hkw3 (by simp only [Act.put,sa1,sa2,sa3]; rfl) (ChL.fin ?_)
   have HF3:=hide (Or.inr (by rw [hf]; exact ht3):KidAt S (hsZ k) w3 (64 - d) v3 (X d))
   have HK3:=hide ((uh HKw).trans hkw3 (by simp))
   clear ht3 hkw3 hkw k3 k2
   go_wp2
   refine ⟨⟨d,v3,rfl,by go_num,by omega,HF3,HK3⟩,?_⟩
   simp [intOf]
   try omega
theorem xa2r:∀ {L:Prs},Fit L→(pairB L).length≤350 * L.length
 | [],_=>by simp [pairB]
 | x :: L,h=>by
  have ih:=xa2r (L:=L) (fun p hp=>h p (by simp [hp]))
  have h1:=h x (by simp)
  have u1:=uv_len x.1.length (by omega)
  have u2:=uv_len x.2.length (by omega)
  have e:pairB (x :: L) = (uv x.1.length++x.1++(uv x.2.length++x.2))++pairB L:=by simp [pairB]
  rw [e,List.length_append,List.length_append,List.length_append,List.length_append,List.length_cons]
  omega
theorem bk_of {S:Nat→Prop} {k g:Nat} {D:List Nat} {pv:Value} {ps:Prs} {W:World} (hS:S g) (hg:W.heap[g]? = some (.cells (bkC D pv ((hsZ k).hb ps)).toArray 105 (0,0))) (hn:ps≠[]) (hD:∀ y∈ps,(hsZ k).kd y.1 = D) (hr:KRow S W pv ps):BkAt S (hsZ k) W g ps:=by
 refine ⟨pv,hS,?_,hn,hr⟩
 have e:(hsZ k).kd (ps.headD ([],[])).1 = D:=by cases ps with
  | nil=>exact absurd rfl hn
  | cons y ps=>exact hD y (by simp)
 rw [e]; exact hg
theorem fnd_ex {q:List Nat} {L:Prs} (h:fnd q L = true):∃ z∈L,z.1 = q:=Classical.byContradiction (fun hn=>by
 unfold fnd at h
 rw [xa2w.2 (fun z hz e=>hn ⟨z,hz,e⟩)] at h; simp at h)
theorem xb8s {q:List Nat} {L:Prs} (h:fnd q L = true) (hl:L.length = 1):delP q L = []:=by
 have h1:=xb4m h
 rw [hl] at h1
 exact List.eq_nil_of_length_eq_zero (by omega)
theorem kd_all {H:Hs} {q:List Nat} {L:Prs} (hs:sgl H L = true) (h:fnd q L = true):∀ y∈L,H.kd y.1 = H.kd q:=fun y hy=>by
 obtain ⟨z,hz,e⟩:=fnd_ex h
 rw [xa1h.1 hs y hy z hz,e]
set_option maxHeartbeats 2000000 in
theorem xa5k (S:Nat→Prop) (k m:Nat) (q:List Nat) (L:Prs) (cr en:Value) (pl:Nat) (w:World) (hk:1≤k∧k≤32) (hS:∀ y,w.heap.size≤y→S y) (hW:WayAt S k w q L m cr en pl true) (hs:Srt (hsZ k) L) (hf:Fit L) (hn:L.length≤1000000000) (hT:Tabs w) :
  Calls Tryz.prog 45 #[.agg (wayC k ((hsZ k).kd q) cr en pl true).toArray] w fun e w'=>∃ v,e = .returned v∧KidAt S (hsZ k) w' (64 - m) v (delP q (dnL (hsZ k) q L m))∧Kept [] w w':=by
 rcases hW.en with ⟨_,_,_,hx⟩ | ⟨hsg,g,rfl,hb,hpl,hfd⟩
 ·cases hx
 have hM1:=dn_srt (q:=q) hs m
 have hM2:=dn_len (H:=hsZ k) (q:=q) (L:=L) m
 have hM3:=dn_sub (H:=hsZ k) (q:=q) (L:=L) m
 clear hW
 generalize dnL (hsZ k) q L m = M at *
 have hMf:Fit M:=hf.sub hM3
 have hris:=xa5o hM1 hsg
 have hfd':=hfd.symm
 have hdp:=xb5x hris hfd'
 have hat:=(fnd_at hris).1 hfd'
 have hall:=kd_all hsg hfd'
 have hone:=xb8s hfd'
 rw [← hpl] at hdp hat
 have hdl:∀ y∈delP q M,y∈M:=fun y hy=>((xb2b y).1 hy).1
 have HDl:=hide hdl
 have HDP:=hide hdp
 have HAl:=hide hall
 have HOne:=hide hone
 have HB:=hide hb
 have hpf:=xa2r (hMf.sub hdl)
 have hlt:=Nat.le_of_lt (xb4m hfd')
 have HPB:=hide (show (pairB (delP q M)).length≤1000000000000 by omega)
 have HTb:=hide hT
 have HSg:=hide (xa1h.2 (fun x hx y hy=>xa1h.1 hsg x (hdl x hx) y (hdl y hy)):sgl (hsZ k) (delP q M) = true)
 have hDg:=((hsZ_ok hk).dg q).1
 obtain ⟨D,hD⟩:∃ D,(hsZ k).kd q = D:=⟨_,rfl⟩
 rw [hD] at hDg HAl ⊢
 obtain ⟨pv,hSg,hh,hne,hkr⟩:=hb
 have hkd:((hsZ k).kd (M.headD ([],[])).1).length = 32:=xa0e _ _
 have c1:=(bk_row hh hkd).2.1
 obtain ⟨b,off,cap,l,rfl,hpr,hrd,hc1,hc2⟩:=hkr.pr
 have hll:=hpr.1
 have HK0:=hide ((Kept.refl [] w).alloc (.cells (wayC k D cr (.pointer (some ⟨g,0,none⟩)) pl true).toArray 93))
 have HG0:=hide (heap_alloc_new w (.cells (wayC k D cr (.pointer (some ⟨g,0,none⟩)) pl true).toArray 93))
 obtain ⟨cw0,cw1,cw2,cw3,cw4,cw5⟩:=xa0s (uh HG0) hDg
 have HW0:=hide cw0
 have HW1:=hide cw1
 have HWY:=hide (xa0o [] (wayC k D cr (.pointer (some ⟨g,0,none⟩)) pl true) [] (by rw [List.nil_append,List.append_nil]; exact uh HG0) rfl)
 have HC1:=hide ((uh HK0).cell c1 (by simp))
 have c1':=uh HC1
 obtain ⟨n,hnn⟩:∃ n,l.length = n:=⟨_,rfl⟩
 rw [hnn] at hll c1' HC1
 have HML:=hide hll
 have HM2:=hide hM2
 have HPl:=hide hat.1
 clear hll hpr hrd hkr hh hpf hlt hdl hdp hone hris hfd hfd' hM1 hM2 hM3 hsg hne c1 cw0 cw1 cw2 cw4 cw5 hnn hat hpl
 go_enter Tryz.func45,Tryz.ntmps45
 by_cases hn1:n = 1
 ·subst hn1
  go_wp2_with fail
  go_ret
  exact ⟨_,rfl,Or.inl ⟨uh HOne (uh HML).symm,rfl⟩,uh HK0⟩
 ·have hi1:¬ ((n:Int) = 1):=by omega
  have hi2:decide ((n:Int) = 1) = false:=by rw [decide_eq_false_iff_not]; exact hi1
  have hnd:delP q M≠[]:=by
   intro e
   have h1:=congrArg List.length (uh HDP)
   rw [e,List.length_append,List.length_take,List.length_drop] at h1
   have h2:=uh HPl
   have h3:=uh HML
   simp at h1
   omega
  go_upto_region 3 with fail
  refine ln_eo (by kernel_rfl) (by kernel_rfl) rfl (fun W=>Kept [] (w.alloc (.cells (wayC k D cr (.pointer (some ⟨g,0,none⟩)) pl true).toArray 93)) W) (Kept.refl [] _).drew ?_
  refine LinY.rd (.pointer (some ⟨w.heap.size,0,none⟩)) (fun W hW=>by go_simp) (by simp only [Act.put,sa1,sa2,sa3]; rfl) ?_
  refine LinY.rd (.int .i64 k) (fun W hW=>by have h9:=hW.cell (uh HW0) (by simp); go_simp) (by simp only [Act.put,sa1,sa2,sa3]; rfl) ?_
  refine LinY.rd (.pointer (some ⟨w.heap.size,1,none⟩)) (fun W hW=>by go_simp) (by simp only [Act.put,sa1,sa2,sa3]; rfl) ?_
  refine LinY.ld 30 (.tmp 12) rfl w.heap.size 1 rfl (D.map u8) _ (fun W hW=>hW.rng (uh HW1) (by simp)) Tryz.underlying30 rfl (by rw [List.length_map,hDg]; exact Tryz.size_dig) (by simp only [Act.put,sa1,sa2,sa3]; rfl) ?_
  refine LinY.ld 93 (.tmp 1) rfl w.heap.size 0 rfl (wayC k D cr (.pointer (some ⟨g,0,none⟩)) pl true) _ (fun W hW=>hW.rng (uh HWY) (by simp)) Tryz.underlying93 rfl (by rw [xa0v hDg]; exact Tryz.size_way) (by simp only [Act.put,sa1,sa2,sa3]; rfl) ?_
  refine ChL.call rfl Tryz.call73 [.agg (wayC k D cr (.pointer (some ⟨g,0,none⟩)) pl true).toArray,.slice none 0 0] rfl (xa6x S k D cr g pl true M (.slice none 0 0) [] [] _ hDg ((uh HB).agr (Agr.nil ((uh HK0).drew))) (by rw [if_pos rfl]; exact uh HPl) (by have:=uh HM2; omega) (RdC.nil 2 _) (PR.nil S _) (by simp) (by have h8:=hnd; rw [uh HDP] at h8; simpa using h8) (fun y hy=>hS y (by have:=(uh HK0).size; simp at hy; omega))) ?_
  rintro e w2 ⟨ao,n2,c2,rfl,hkr2,k2⟩
  have hkw:=((Kept.refl [] (w.alloc (.cells (wayC k D cr (.pointer (some ⟨g,0,none⟩)) pl true).toArray 93))).drew).trans k2 (by simp)
  have HK2:=hide ((uh HK0).trans hkw (by simp))
  have hkr3:KRow S w2 (.slice ao n2 c2) (delP q M):=by rw [uh HDP]; simpa using hkr2
  refine ⟨_,rfl,hkw,?_⟩
  simp only [Act.put,sa1,sa2,sa3]
  refine ChL.call rfl Tryz.call72 [.int .i64 k,.agg (brow D),.slice ao n2 c2] rfl (xa1z k D ao n2 c2 (delP q M) w2 hk hDg hkr3.rdK (uh HPB) ((uh HTb).k (uh HK2))) ?_
  rintro e w3 ⟨g3,rfl,hg3,hc3,k3⟩
  have hkw3:=hkw.trans k3 (by simp)
  have hk3:=(uh HK2).trans k3 (by simp)
  refine ⟨_,rfl,hkw3,?_⟩
  simp only [Act.put,sa1,sa2,sa3]
  have hbk:=bk_of (S:=S) (hS g3 (by have:=(uh HK2).size; omega)) hc3 hnd (fun y hy=>uh HAl y (uh HDl y hy)) (hkr3.agr (Agr.nil k3))
  refine ChL.op (bkV g3) (by go_simp) hkw3 (by simp only [Act.put,sa1,sa2,sa3]; rfl) ?_
  refine ChL.op (bkV g3) (by go_simp) hkw3 (by simp only [Act.put,sa1,sa2,sa3]; rfl) (ChL.fin ?_)
  go_wp2
  go_ret
  exact ⟨_,rfl,Or.inr (TreeAt.ofBk _ hbk (uh HSg)),hk3⟩
theorem Tryz.size_pair:(Tryz.prog.info? 46).map (·.size) = some 2:=by kernel_rfl
theorem infoQ:(Tryz.prog.info? 46).map (fun i=>(i.zero,i.size)) = some (some (.agg #[.slice none 0 0,.slice none 0 0]),2):=by kernel_rfl
theorem infoQp:∃ i,Tryz.prog.info? 46 = some i∧i.zero = some (.agg #[.slice none 0 0,.slice none 0 0])∧i.size = 2:=by
 have h:=infoQ
 generalize Tryz.prog.info? 46 = o at h
 cases o with
 | none=>cases h
 | some i=>exact ⟨i,rfl,(Prod.mk.inj (Option.some.inj h)).1,(Prod.mk.inj (Option.some.inj h)).2⟩
theorem fillQ (x y:Value):Instr.fill (fun i=>some (i * 2,2)) ((Array.range (1 * 2)).map ((Value.agg #[.slice none 0 0,.slice none 0 0]).cells[· % (Value.agg #[.slice none 0 0,.slice none 0 0]).cells.size]!)) [(0,.agg #[x,y])] = some #[x,y]:=by kernel_rfl
theorem xa5n {o:Oper} {a:Act} (w:World) (x:Operand) (ho:o.op = .buildSlice 33 1 #[(0,x)]) (ku vu:Value) (hx:a.eval x = .agg #[ku,vu]):(execOp a.eval o).run Tryz.prog w = .ok (.value (.slice (some ⟨w.heap.size,0,none⟩) 1 1)) (w.alloc (.cells #[ku,vu] 46)):=by
 obtain ⟨i0,hi,hz0,hz1⟩:=infoQp
 have hb:=run_buildSlice w 33 46 1 #[(0,.agg #[ku,vu])] #[ku,vu] i0 _ Tryz.underlying33 hi hz0 (by rw [hz1]; decide) (by rw [hz1]; decide) (by rw [hz1]; exact fillQ ku vu)
 unfold execOp
 simp only [ho,List.map_toArray,List.map_cons,List.map_nil,hx,Sem.run_bind,hb,Result.andThen_ok]
 rfl
theorem xa3j {ops:Array Oper} {rest:List Oper} {o:Oper} {a:Act} {w:World} {Q:Exit→Act→World→Prop} (hw:Region.wanted o (yielded ops a.tmps) = true) (x:Operand) (ho:o.op = .buildSlice 33 1 #[(0,x)]) (ku vu:Value) (hx:a.eval x = .agg #[ku,vu])
  (h:wpList Tryz.prog ops Q rest (a.put o.dst (.slice (some ⟨w.heap.size,0,none⟩) 1 1)) (w.alloc (.cells #[ku,vu] 46))):wpList Tryz.prog ops Q (o :: rest) a w :=
 wpList_want hw fun _ hK=>by
  unfold Oper.wp
  rw [xa5n w x ho ku vu hx]
  exact hK _ _ h
theorem kr_lit {S:Nat→Prop} {w:World} {kv vv:Value} {q v:List Nat} (hS:S w.heap.size) (hk:Sty S w (fun w=>Rd w kv q)) (hv:Sty S w (fun w=>Rd w vv v)):KRow S (w.alloc (.cells #[kv,vv] 46)) (.slice (some ⟨w.heap.size,0,none⟩) 1 1) [(q,v)]:=by
 have ha:Agr S w (w.alloc (.cells #[kv,vv] 46)):=Agr.nil ((Kept.refl [] w).alloc _)
 refine ⟨w.heap.size,0,1,[(kv,vv)],rfl,Nat.le_refl _,by omega,hS,rfl,fun i hi=>?_,fun i hi=>?_⟩
 ·have h0:i = 0:=by simp at hi; omega
  subst h0
  constructor
  ·rw [cell_of_row _ _ _ _ _ _ (heap_alloc_new w (.cells #[kv,vv] 46))]; rfl
  ·rw [cell_of_row _ _ _ _ _ _ (heap_alloc_new w (.cells #[kv,vv] 46))]; rfl
 ·have h0:i = 0:=by simp at hi; omega
  subst h0
  exact fun w' k=>⟨hk w' (ha.trans k),hv w' (ha.trans k)⟩
theorem xb9a (H:Hs) (q v:List Nat):insP H q v [] = [(q,v)]:=rfl
theorem xb6c (H:Hs) (q v:List Nat):sgl H [(q,v)] = true:=xa1h.2 (fun x hx y hy=>by
 have e1:x = (q,v):=by simpa using hx
 have e2:y = (q,v):=by simpa using hy
 rw [e1,e2])
theorem xb7z {k m:Nat} {q v DA:List Nat} {M:Prs} (hk:1≤k∧k≤32) (hs:Srt (hsZ k) M) (hn:M≠[]) (ha:∀ y∈M,(hsZ k).kd y.1 = DA) (hon:On (hsZ k) m q M) (hne:DA≠(hsZ k).kd q):∃ part,m≤part∧Fork (hsZ k) part q v M DA:=by
 obtain ⟨y,hy⟩:∃ y,y∈M:=by cases M with
  | nil=>exact absurd rfl hn
  | cons y M=>exact ⟨y,by simp⟩
 have hDA:=ha y hy
 obtain ⟨_,s2,s3,s4⟩:=xa5e DA ((hsZ k).kd q) (2 * k) 0
 have hlt:comL DA ((hsZ k).kd q) (2 * k) 0 < 0 + 2 * k:=by
  refine Nat.lt_of_le_of_ne s2 (fun e=>hne ?_)
  rw [← hDA] at s3 e ⊢
  exact kd_ext (hsZ_ok hk) (fun j hj=>s3 j (by omega) (by rw [e]; have:(hsZ k).wd = k:=rfl; omega))
 have hpne:=s4 hlt
 refine ⟨comL DA ((hsZ k).kd q) (2 * k) 0,?_,⟨hs,hn,ha,?_,fun j hj=>s3 j (by omega) hj,hpne,?_⟩⟩
 ·refine Nat.le_of_not_lt (fun g=>hpne ?_)
  rw [← hDA]
  rw [← hDA] at g
  exact hon y hy _ g
 ·rw [← hDA]; exact (hsZ_ok hk).dg y.1
 ·have:(hsZ k).wd = k:=rfl
  omega
set_option maxHeartbeats 4000000 in
theorem xa5d (S:Nat→Prop) (k m:Nat) (q v:List Nat) (L:Prs) (cr en kv vv:Value) (pl:Nat) (fd:Bool) (w:World) (hk:1≤k∧k≤32) (hS:∀ y,w.heap.size≤y→S y) (hW:WayAt S k w q L m cr en pl fd) (hs:Srt (hsZ k) L) (hf:Fit L) (hn:L.length≤1000000000) (hq:q.length≤64) (hv:v.length≤256)
  (hkv:Sty S w (fun w=>Rd w kv q)) (hvv:Sty S w (fun w=>Rd w vv v)) (hT:Tabs w) :
  Calls Tryz.prog 49 #[.agg (wayC k ((hsZ k).kd q) cr en pl fd).toArray,.agg #[kv,vv]] w fun e w'=>∃ t,e = .returned t∧TreeAt S (hsZ k) w' (64 - m) t (insP (hsZ k) q v (dnL (hsZ k) q L m))∧Kept [] w w':=by
 have hon:=dn_on (H:=hsZ k) (q:=q) (L:=L) m
 have hM1:=dn_srt (q:=q) hs m
 have hM2:=dn_len (H:=hsZ k) (q:=q) (L:=L) m
 have hM3:=dn_sub (H:=hsZ k) (q:=q) (L:=L) m
 have hend:=hW.en
 obtain ⟨gs,hgl,hrd,_⟩:=hW.cr
 obtain ⟨ao,n,c,rfl,hnl,_⟩:=hrd
 have hnm:n = m:=by rw [← hnl,ptrs,List.length_map,hgl]
 subst hnm
 have hdeep:=hW.deep
 clear hW hnl hgl
 generalize dnL (hsZ k) q L n = M at *
 have hMf:Fit M:=hf.sub hM3
 have hfq:Fit [(q,v)]:=fun p hp=>by
  have:p = (q,v):=by simpa using hp
  subst this; exact ⟨hq,hv⟩
 have hDg:=((hsZ_ok hk).dg q).1
 obtain ⟨D,hD⟩:∃ D,(hsZ k).kd q = D:=⟨_,rfl⟩
 rw [hD] at hDg ⊢
 have hk0:=((Kept.refl [] w).alloc (.cells (wayC k D (.slice ao n c) en pl fd).toArray 93)).alloc (.cells #[kv,vv] 46)
 have hg0:=((Kept.refl [] (w.alloc (.cells (wayC k D (.slice ao n c) en pl fd).toArray 93))).alloc (.cells #[kv,vv] 46)).heap (heap_alloc_new w (.cells (wayC k D (.slice ao n c) en pl fd).toArray 93)) (by simp)
 have hp0:=xa2y w (.cells (wayC k D (.slice ao n c) en pl fd).toArray 93) (.cells #[kv,vv] 46)
 have hz0:((w.alloc (.cells (wayC k D (.slice ao n c) en pl fd).toArray 93)).alloc (.cells #[kv,vv] 46)).heap.size = w.heap.size + 2:=by simp
 go_enter Tryz.func49,Tryz.ntmps49
 go_upto_region 1 with fail
 generalize (w.alloc (.cells (wayC k D (.slice ao n c) en pl fd).toArray 93)).alloc (.cells #[kv,vv] 46) = W0 at hk0 hg0 hp0 hz0 ⊢
 obtain ⟨cw0,cw1,cw2,cw3,cw4,cw5⟩:=xa0s hg0 hDg
 have HK0:=hide hk0
 have HW0:=hide cw0
 have HW1:=hide cw1
 have HW2:=hide cw2
 have HW3:=hide cw3
 have HWY:=hide (xa0o [] (wayC k D (.slice ao n c) en pl fd) [] (by rw [List.nil_append,List.append_nil]; exact hg0) rfl)
 have HWP:=hide (xa0o [] [kv,vv] [] hp0 rfl)
 have HP0:=hide hp0
 have HKV:=hide (hkv.agr (Agr.nil hk0))
 have HVV:=hide (hvv.agr (Agr.nil hk0))
 have HTb:=hide (hT.k hk0)
 have hS0:∀ y,W0.heap.size≤y→S y:=fun y hy=>hS y (by omega)
 have HOn:=hide hon
 have HMs:=hide hM1
 have HMl:=hide hM2
 have HMf:=hide hMf
 have HPB1:=hide (show (pairB [(q,v)]).length≤1000000000000 by have:=xa2r hfq; simp at this; omega)
 have HDq:=hide hD
 clear cw0 cw1 cw2 cw4 cw5 hg0 hp0 hkv hvv hT hon hM1 hM2 hM3 hMf hk0 hfq hf hs
 rcases hend with ⟨hM,rfl,rfl,rfl⟩ | ⟨hsg,g,rfl,hb,hpl,hfd⟩
 ·subst hM
  refine ln_eg (by kernel_rfl) (by kernel_rfl) (fun W=>Kept [] W0 W) (Kept.refl [] W0).drew ?_
  refine LinG.rd (by rfl) (.pointer (some ⟨w.heap.size,34,none⟩)) (fun W hW=>by go_simp) (by simp only [Act.put,sa1,sa2,sa3]; rfl) ?_
  refine LinG.rd (by rfl) (.pointer none) (fun W hW=>by have h9:=hW.cell (uh HW3) (by simp); go_simp) (by simp only [Act.put,sa1,sa2,sa3]; rfl) ?_
  refine LinG.rd (by rfl) (.bool false) (fun W hW=>by go_simp) (by simp only [Act.put,sa1,sa2,sa3]; rfl) ?_
  refine LinG.rd (by rfl) (.bool false) (fun W hW=>by go_simp) (by simp only [Act.put,sa1,sa2,sa3]; rfl) ?_
  refine LinG.no (by rfl) (by simp only [Act.put,sa1,sa2,sa3]; rfl) ?_
  refine LinG.no (by rfl) (by simp only [Act.put,sa1,sa2,sa3]; rfl) ?_
  refine LinG.no (by rfl) (by simp only [Act.put,sa1,sa2,sa3]; rfl) ?_
  refine LinG.no (by rfl) (by simp only [Act.put,sa1,sa2,sa3]; rfl) ?_
  refine LinG.no (by rfl) (by simp only [Act.put,sa1,sa2,sa3]; rfl) ?_
  refine LinG.no (by rfl) (by simp only [Act.put,sa1,sa2,sa3]; rfl) ?_
  refine LinG.no (by rfl) (by simp only [Act.put,sa1,sa2,sa3]; rfl) ?_
  refine LinG.no (by rfl) (by simp only [Act.put,sa1,sa2,sa3]; rfl) ?_
  refine LinG.rd (by rfl) (.bool false) (fun W hW=>by go_simp) (by simp only [Act.put,sa1,sa2,sa3]; rfl) ?_
  refine LinG.fin ?_
  have hkl:=(kr_lit (S:=S) (w:=W0) (kv:=kv) (vv:=vv) (q:=q) (v:=v) (hS0 _ (Nat.le_refl _)) (uh HKV) (uh HVV)).agr (Agr.nil (Kept.refl [] (W0.alloc (.cells #[kv,vv] 46))).drew)
  rw [hz0] at hkl
  have HKL:=hide hkl
  have HKA:=hide (((Kept.refl [] W0).alloc (.cells #[kv,vv] 46)).drew)
  clear hkl
  have h7a:=(Kept.refl [] W0).drew.cell (uh HW0) (by simp)
  go_wp2_with (first
   | (refine wpList_load_mid rfl 30 (.tmp 31) rfl w.heap.size 1 rfl (D.map u8) _ ((Kept.refl [] W0).drew.rng (uh HW1) (by simp)) Tryz.underlying30 rfl (by rw [List.length_map,hDg]; exact Tryz.size_dig) ?_)
   | (refine wpList_load_row rfl 46 (.tmp 3) rfl (w.heap.size + 1) rfl 46 #[kv,vv] (0,0) _ ((Kept.refl [] W0).drew.heap (uh HP0) (by simp)) Tryz.underlying46 rfl Tryz.size_pair ?_)
   | (refine xa3j rfl (.tmp 33) rfl kv vv rfl ?_))
  refine Calls.mono (xa1z k D (some ⟨w.heap.size + 2,0,none⟩) 1 1 [(q,v)] _ hk hDg (uh HKL).rdK (uh HPB1) ((uh HTb).k (uh HKA))) ?_
  rintro e w3 ⟨g3,rfl,hg3,hc3,k3⟩
  have hk3:=(uh HKA).trans k3 (by simp)
  have hbk:=bk_of (S:=S) (hS0 g3 (by have:=(uh HKA).size; omega)) hc3 (by simp) (fun y hy=>by rw [show y = (q,v) by simpa using hy]; exact uh HDq) ((uh HKL).agr (Agr.nil k3))
  have HBK:=hide hbk
  have HK3:=hide hk3
  clear hbk hk3 hc3 k3
  have h9:=(uh HK3).cell (uh HW3) (by simp)
  go_wp2_with fail
  go_ret
  rw [xb9a]
  exact ⟨_,rfl,TreeAt.ofBk _ (uh HBK) (xb6c _ _ _),(uh HK0).trans (uh HK3) (by simp)⟩
 ·obtain ⟨pv,hSg,hh,hne,hkr⟩:=id hb
  have hkd:((hsZ k).kd (M.headD ([],[])).1).length = 32:=xa0e _ _
  have b0:=(bk_row hh hkd).1
  have hall:∀ y∈M,(hsZ k).kd y.1 = (hsZ k).kd (M.headD ([],[])).1:=fun y hy=>xa1h.1 hsg y hy _ (by cases M with
   | nil=>exact absurd rfl hne
   | cons z M=>simp)
  generalize (hsZ k).kd (M.headD ([],[])).1 = DA at hkd b0 hall
  have HB0:=hide ((uh HK0).rng b0 (by simp))
  have HB:=hide (hb.agr (Agr.nil (uh HK0)))
  have HAll:=hide hall
  have HSG:=hide hsg
  have HPl:=hide hpl
  have HFd:=hide hfd
  have HNe:=hide hne
  have heq:=fun W=>dig_eq W DA D hkd hDg
  obtain ⟨sm,hsm⟩:∃ sm,decide (DA = D) = sm:=⟨_,rfl⟩
  rw [hsm] at heq
  have HEQ:=hide heq
  clear hb hh hkr b0 hall hsg hpl hfd hne heq
  refine ln_eg (by kernel_rfl) (by kernel_rfl) (fun W=>Kept [] W0 W) (Kept.refl [] W0).drew ?_
  refine LinG.rd (by rfl) (.pointer (some ⟨w.heap.size,34,none⟩)) (fun W hW=>by go_simp) (by simp only [Act.put,sa1,sa2,sa3]; rfl) ?_
  refine LinG.rd (by rfl) (.pointer (some ⟨g,0,none⟩)) (fun W hW=>by have h9:=hW.cell (uh HW3) (by simp); go_simp) (by simp only [Act.put,sa1,sa2,sa3]; rfl) ?_
  refine LinG.rd (by rfl) (.bool true) (fun W hW=>by go_simp) (by simp only [Act.put,sa1,sa2,sa3]; rfl) ?_
  refine LinG.rd (by rfl) (.bool true) (fun W hW=>by go_simp) (by simp only [Act.put,sa1,sa2,sa3]; rfl) ?_
  refine LinG.rd (by rfl) (.pointer (some ⟨w.heap.size,34,none⟩)) (fun W hW=>by go_simp) (by simp only [Act.put,sa1,sa2,sa3]; rfl) ?_
  refine LinG.rd (by rfl) (.pointer (some ⟨g,0,none⟩)) (fun W hW=>by have h9:=hW.cell (uh HW3) (by simp); go_simp) (by simp only [Act.put,sa1,sa2,sa3]; rfl) ?_
  refine LinG.rd (by rfl) (.pointer (some ⟨g,0,none⟩)) (fun W hW=>by go_simp) (by simp only [Act.put,sa1,sa2,sa3]; rfl) ?_
  refine LinG.rd (by rfl) (.pointer (some ⟨g,0,none⟩)) (fun W hW=>by go_simp) (by simp only [Act.put,sa1,sa2,sa3]; rfl) ?_
  refine LinG.ld (by rfl) 30 (.tmp 13) rfl g 0 rfl (DA.map u8) _ (fun W hW=>hW.rng (uh HB0) (by simp)) Tryz.underlying30 rfl (by rw [List.length_map,hkd]; exact Tryz.size_dig) (by simp only [Act.put,sa1,sa2,sa3]; rfl) ?_
  refine LinG.rd (by rfl) (.pointer (some ⟨w.heap.size,1,none⟩)) (fun W hW=>by go_simp) (by simp only [Act.put,sa1,sa2,sa3]; rfl) ?_
  refine LinG.ld (by rfl) 30 (.tmp 15) rfl w.heap.size 1 rfl (D.map u8) _ (fun W hW=>hW.rng (uh HW1) (by simp)) Tryz.underlying30 rfl (by rw [List.length_map,hDg]; exact Tryz.size_dig) (by simp only [Act.put,sa1,sa2,sa3]; rfl) ?_
  refine LinG.rd (by rfl) (.bool sm) (fun W hW=>xa6p 30 (.tmp 14) (.tmp 16) 30 rfl (brow DA) (brow D) rfl rfl W sm (by kernel_rfl) (uh HEQ W)) (by simp only [Act.put,sa1,sa2,sa3]; rfl) ?_
  refine LinG.rd (by rfl) (.bool sm) (fun W hW=>by go_simp) (by simp only [Act.put,sa1,sa2,sa3]; rfl) ?_
  refine LinG.fin ?_
  cases sm with
  | true =>
   have hDD:DA = D:=of_decide_eq_true hsm
   subst hDD
   have hall2:∀ y∈M,(hsZ k).kd y.1 = (hsZ k).kd q:=fun y hy=>by rw [uh HAll y hy,uh HDq]
   have hris:=xa5o (uh HMs) (uh HSG)
   have hip:=xb4q (H:=hsZ k) (v:=v) hris hall2
   rw [← uh HPl,← uh HFd] at hip
   have hple:pl + (if fd = true then 1 else 0)≤M.length:=by
    have h1:=plc_le q M
    cases hfd2:fd with
    | false=>rw [uh HPl]; simpa using h1
    | true =>
     have h2:=(fnd_at (k:=q) hris).1 (by rw [← uh HFd,hfd2])
     rw [uh HPl,if_pos rfl]; exact h2.1
   have hin:∀ y∈insP (hsZ k) q v M,(hsZ k).kd y.1 = DA:=fun y hy=>by
    rcases (xa2g (uh HMs) y).1 hy with rfl | ⟨h1,_⟩
    ·exact uh HDq
    ·exact uh HAll y h1
   have hfi:Fit (insP (hsZ k) q v M):=fun p hp=>by
    rcases (xa2g (uh HMs) p).1 hp with rfl | ⟨h1,_⟩
    ·exact ⟨hq,hv⟩
    ·exact uh HMf p h1
   have hpb:=xa2r hfi
   have hlen:(insP (hsZ k) q v M).length≤M.length + 1:=by rw [hip]; simp; omega
   have HPB2:=hide (show (pairB (insP (hsZ k) q v M)).length≤1000000000000 by have:=uh HMl; omega)
   have HIP:=hide hip
   have HIN:=hide hin
   clear hpb hlen hfi hin hip hris hall2
   go_upto_region 2 with fail
   refine ln_ew (by kernel_rfl) (by kernel_rfl) rfl (fun W=>Kept [] W0 W) (Kept.refl [] W0).drew.drew ?_
   refine LinY.rd (.pointer (some ⟨w.heap.size,0,none⟩)) (fun W hW=>by go_simp) (by simp only [Act.put,sa1,sa2,sa3]; rfl) ?_
   refine LinY.rd (.int .i64 k) (fun W hW=>by have h9:=hW.cell (uh HW0) (by simp); go_simp) (by simp only [Act.put,sa1,sa2,sa3]; rfl) ?_
   refine LinY.rd (.pointer (some ⟨w.heap.size,1,none⟩)) (fun W hW=>by go_simp) (by simp only [Act.put,sa1,sa2,sa3]; rfl) ?_
   refine LinY.ld 30 (.tmp 21) rfl w.heap.size 1 rfl (DA.map u8) _ (fun W hW=>hW.rng (uh HW1) (by simp)) Tryz.underlying30 rfl (by rw [List.length_map,hDg]; exact Tryz.size_dig) (by simp only [Act.put,sa1,sa2,sa3]; rfl) ?_
   refine LinY.ld 93 (.tmp 2) rfl w.heap.size 0 rfl (wayC k DA (.slice ao n c) (.pointer (some ⟨g,0,none⟩)) pl fd) _ (fun W hW=>hW.rng (uh HWY) (by simp)) Tryz.underlying93 rfl (by rw [xa0v hDg]; exact Tryz.size_way) (by simp only [Act.put,sa1,sa2,sa3]; rfl) ?_
   refine LinY.ld 46 (.tmp 3) rfl (w.heap.size + 1) 0 rfl ([kv,vv]) _ (fun W hW=>hW.rng (uh HWP) (by simp)) Tryz.underlying46 rfl (Tryz.size_pair) (by simp only [Act.put,sa1,sa2,sa3]; rfl) ?_
   have hd2:=(Kept.refl [] W0).drew.drew
   obtain ⟨W2,hW2⟩:∃ W2,W0.drew.drew = W2:=⟨_,rfl⟩
   rw [hW2] at hd2 ⊢
   clear hW2
   have HD2:=hide hd2
   have hkl:=kr_lit (S:=S) (w:=W2) (kv:=kv) (vv:=vv) (q:=q) (v:=v) (hS0 _ hd2.size) ((uh HKV).agr (Agr.nil hd2)) ((uh HVV).agr (Agr.nil hd2))
   have hka:=hd2.alloc (.cells #[kv,vv] 46)
   have HKA:=hide hka
   refine ChL.op (.slice (some ⟨W2.heap.size,0,none⟩) 1 1) (xa5n W2 (.tmp 24) rfl kv vv rfl) hka (by simp only [Act.put,sa1,sa2,sa3]; rfl) ?_
   obtain ⟨b9,off9,cap9,l9,e9,hpr9,hrd9,_,_⟩:=hkl.pr
   have hl9:l9.length = 1:=hpr9.1
   refine ChL.call rfl Tryz.call73 [.agg (wayC k DA (.slice ao n c) (.pointer (some ⟨g,0,none⟩)) pl fd).toArray,.slice (some ⟨W2.heap.size,0,none⟩) 1 1] rfl (xa6x S k DA (.slice ao n c) g pl fd M (.slice (some ⟨W2.heap.size,0,none⟩) 1 1) l9 [(q,v)] _ hDg ((uh HB).agr (Agr.nil hka)) hple (by have:=uh HMl; omega) hrd9 hpr9 (by omega) (by simp) (fun y hy=>hS0 y (Nat.le_trans hka.size hy))) ?_
   rintro e w2 ⟨a2,n2,c2,rfl,hkr2,k2⟩
   have hkw:=hka.trans k2 (by simp)
   have hkr3:KRow S w2 (.slice a2 n2 c2) (insP (hsZ k) q v M):=by rw [uh HIP]; exact hkr2
   refine ⟨_,rfl,hkw,?_⟩
   simp only [Act.put,sa1,sa2,sa3]
   refine ChL.call rfl Tryz.call72 [.int .i64 k,.agg (brow DA),.slice a2 n2 c2] rfl (xa1z k DA a2 n2 c2 (insP (hsZ k) q v M) w2 hk hDg hkr3.rdK (uh HPB2) ((uh HTb).k hkw)) ?_
   rintro e w3 ⟨g3,rfl,hg3,hc3,k3⟩
   have hkw3:=hkw.trans k3 (by simp)
   refine ⟨_,rfl,hkw3,?_⟩
   simp only [Act.put,sa1,sa2,sa3]
   have hbk:=bk_of (S:=S) (hS0 g3 (by have:=hkw.size; omega)) hc3 ins_ne (uh HIN) (hkr3.agr (Agr.nil k3))
   refine ChL.op (bkV g3) (by go_simp) hkw3 (by simp only [Act.put,sa1,sa2,sa3]; rfl) ?_
   refine ChL.op (bkV g3) (by go_simp) hkw3 (by simp only [Act.put,sa1,sa2,sa3]; rfl) (ChL.fin ?_)
   go_wp2
   go_ret
   exact ⟨_,rfl,TreeAt.ofBk _ hbk (xa1h.2 (fun x hx y hy=>by rw [uh HIN x hx,uh HIN y hy])),(uh HK0).trans hkw3 (by simp)⟩
  | false =>
   have hDD:DA≠D:=of_decide_eq_false hsm
   obtain ⟨part,hmp,hfork⟩:=xb7z (v:=v) hk (uh HMs) (uh HNe) (uh HAll) (uh HOn) (by rw [uh HDq]; exact hDD)
   have hkl:=(kr_lit (S:=S) (w:=W0) (kv:=kv) (vv:=vv) (q:=q) (v:=v) (hS0 _ (Nat.le_refl _)) (uh HKV) (uh HVV)).agr (Agr.nil (Kept.refl [] (W0.alloc (.cells #[kv,vv] 46))).drew)
   rw [hz0] at hkl
   have HKL:=hide hkl
   have HKA:=hide (((Kept.refl [] W0).alloc (.cells #[kv,vv] 46)).drew)
   clear hkl
   have h7a:=(Kept.refl [] W0).drew.cell (uh HW0) (by simp)
   go_wp2_with (first
    | (refine wpList_load_mid rfl 30 (.tmp 31) rfl w.heap.size 1 rfl (D.map u8) _ ((Kept.refl [] W0).drew.rng (uh HW1) (by simp)) Tryz.underlying30 rfl (by rw [List.length_map,hDg]; exact Tryz.size_dig) ?_)
    | (refine wpList_load_row rfl 46 (.tmp 3) rfl (w.heap.size + 1) rfl 46 #[kv,vv] (0,0) _ ((Kept.refl [] W0).drew.heap (uh HP0) (by simp)) Tryz.underlying46 rfl Tryz.size_pair ?_)
    | (refine xa3j rfl (.tmp 33) rfl kv vv rfl ?_))
   refine Calls.mono (xa1z k D (some ⟨w.heap.size + 2,0,none⟩) 1 1 [(q,v)] _ hk hDg (uh HKL).rdK (uh HPB1) ((uh HTb).k (uh HKA))) ?_
   rintro e w3 ⟨g3,rfl,hg3,hc3,k3⟩
   have hk3:=(uh HKA).trans k3 (by simp)
   have hbk:=bk_of (S:=S) (hS0 g3 (by have:=(uh HKA).size; omega)) hc3 (by simp) (fun y hy=>by rw [show y = (q,v) by simpa using hy]; exact uh HDq) ((uh HKL).agr (Agr.nil k3))
   have HBK:=hide hbk
   have HK3:=hide hk3
   clear hbk hk3 hc3 k3
   have h9:=(uh HK3).cell (uh HW3) (by simp)
   have h8:=(uh HK3).cell (uh HW2) (by simp)
   have h7:=(uh HK3).cell (uh HW0) (by simp)
   go_wp2_with fail
   refine Calls.mono (xb1y S k n part g g3 M q v DA w3 hk (fun y hy=>hS0 y (Nat.le_trans (uh HK3).size hy)) hfork hmp ((uh HB).agr (Agr.nil (uh HK3))) (uh HBK) ((uh HTb).k (uh HK3))) ?_
   rintro e w4 ⟨tt,rfl,ht4,k4⟩
   have HT4:=hide ht4
   have HK4:=hide (((uh HK0).trans (uh HK3) (by simp)).trans k4 (by simp))
   clear ht4 k4
   go_wp2_with fail
   go_ret
   exact ⟨_,rfl,uh HT4,uh HK4⟩
set_option maxHeartbeats 1000000 in
theorem xa1l (v:Value) (p:List Nat) (w:World) (h:Rd w v p) :
  Calls Tryz.prog 48 #[v] w fun e w'=>(∃ v',e = .returned v'∧Rd w' v' p∧∀ x∈blk v',w.heap.size≤x)∧Kept [] w w':=by
 have H:=hide h
 obtain ⟨a1,n1,c1,rfl,hn1,hc1,⟨hc2,hc3⟩,hc4,hc5,hc6⟩:=id h
 subst hn1
 clear h hc6 hc5
 cases a1 with
 | none =>
  have h0:p.length = 0:=by have:=hc4 rfl; omega
  have hp:p = []:=List.eq_nil_of_length_eq_zero h0
  clear hc4
  subst hp
  simp only [List.length_nil]
  have hq:∀ W:World,(binOp .eql 37 (.slice none 0 c1) (.slice none 0 0)).run Tryz.prog W = .ok (.bool true) W:=by
   intro W
   simp only [binOp]
   simp [run_equal_slice_nil W 37 5 none 0 c1 Tryz.underlying37]
  go_enter Tryz.func48,Tryz.ntmps48
  go_wp2
  go_ret
  exact ⟨⟨_,rfl,Rd.nil _,by simp [blk]⟩,Kept.refl _ _⟩
 | some ad =>
  clear hc4
  have HO:=hide (World.ownsRow_made (base:=w.heap.size) (e:=5) (size:=1) w #[] 0 (Nat.le_refl _) (by unfold maxLen; omega) (by simp))
  have hq:∀ W:World,(binOp .eql 37 (.slice (some ad) p.length c1) (.slice none 0 0)).run Tryz.prog W = .ok (.bool false) W:=by
   intro W
   simp only [binOp]
   simp [run_equal_slice_nil W 37 5 (some ad) p.length c1 Tryz.underlying37]
  go_enter Tryz.func48,Tryz.ntmps48
  go_wp2_with (at_builtin; refine xa0c rfl (.tmp 5) (.tmp 6) rfl rfl _ w.heap.size (.slice (some ⟨w.heap.size,0,none⟩) 0 0) [] p (some ad) p.length c1 (uh HO) ((uh H).old ((Kept.refl [] w).alloc _) (by simp)) (by simp; omega) (by simp) rfl rfl ?_; intro ao1 cap1 w1 HO1 HG1 HA1; simp only [List.nil_append,List.length_nil,Nat.zero_add] at HO1 HA1; have HK1:=hide (((Kept.refl [] w).alloc _).grown (uh HG1) (by intro k hk; right; simp [Value.ownBlock] at hk; omega)); clear HG1)
  go_ret
  refine ⟨⟨_,rfl,xa4g (uh HO1) (uh H).byte hc3,?_⟩,uh HK1⟩
  intro x hx
  cases ao1 with
  | none=>simp [blk] at hx
  | some a=>simp [blk] at hx; subst hx; exact ((uh HO1).lt a.block rfl).1
theorem xb0h {H:Hs} {q v:List Nat}:∀ {L:Prs},Srt H L→(insP H q v L).length = if fnd q L = true then L.length else L.length + 1
 | [],_=>rfl
 | y :: L,h=>by
  have ih:=xb0h (q:=q) (v:=v) h.tail
  rw [xa2f]
  by_cases g1:kc H q y.1 < 0
  ·rw [if_pos g1]
   have hn:getP q (y :: L) = none:=xa2w.2 (fun z hz e=>by
    rcases List.mem_cons.1 hz with rfl | hz
    ·rw [e,xa3e] at g1; omega
    ·have h2:=xa4k g1 (h.head z hz); rw [e,xa3e] at h2; omega)
   have hf:fnd q (y :: L) = false:=by unfold fnd; rw [hn]; rfl
   rw [hf]; rfl
  ·rw [if_neg g1]
   by_cases g2:kc H q y.1 = 0
   ·rw [if_pos g2]
    have e:=xa6l g2
    have hf:fnd q (y :: L) = true:=by unfold fnd; rw [xa3z,if_pos e.symm]; rfl
    rw [hf]; rfl
   ·rw [if_neg g2]
    have hne:¬ y.1 = q:=fun e=>g2 (by rw [e,xa3e])
    have hf:fnd q (y :: L) = fnd q L:=by unfold fnd; rw [xa3z,if_neg hne]
    rw [hf,List.length_cons,ih,List.length_cons]
    split <;> rfl
theorem WayAt.fd {S:Nat→Prop} {k:Nat} {W:World} {q:List Nat} {L:Prs} {m:Nat} {cr en:Value} {pl:Nat} {fd:Bool} (h:WayAt S k W q L m cr en pl fd):fd = fnd q L:=by
 have hg:=dn_get (H:=hsZ k) (q:=q) (L:=L) m
 rcases h.en with ⟨hm,_,_,rfl⟩ | ⟨_,g,_,_,_,rfl⟩
 ·unfold fnd; rw [← hg,hm]; rfl
 ·unfold fnd; rw [hg]
theorem xa6z (x y:Value) {X1 Y1:Option Addr} {X2 X3 Y2 Y3:Nat}:Tryz.prog.built 46 [(0,.slice X1 X2 X3),(1,.slice Y1 Y2 Y3)] = some #[.slice X1 X2 X3,.slice Y1 Y2 Y3]:=by kernel_rfl
theorem mapI:∃ i,Tryz.prog.info? 86 = some i∧i.zero = some (.agg #[.int .i64 0,.int .i64 0,.nilIface]):=by
 have h:(Tryz.prog.info? 86).map (·.zero) = some (some (.agg #[.int .i64 0,.int .i64 0,.nilIface])):=by kernel_rfl
 generalize Tryz.prog.info? 86 = o at h
 cases o with
 | none=>cases h
 | some i=>exact ⟨i,rfl,Option.some.inj h⟩
theorem fmap:∀ fs,Tryz.prog.underlying 86 = some (.struct fs)→fs.toList.mapM (fun f=>(Tryz.prog.info? f.type).map fun i=>(f.offset,i.size)) = some [(0,1),(1,1),(2,1)]:=by
 intro fs hfs
 rw [Tryz.underlying86] at hfs
 injection hfs with hfs
 injection hfs with hfs
 subst hfs
 kernel_rfl
theorem xb2v (k n:Int) (tv:Value) (h:tv.cells = #[tv]):Tryz.prog.built 86 [(0,.int .i64 k),(1,.int .i64 n),(2,tv)] = some #[.int .i64 k,.int .i64 n,tv]:=by
 obtain ⟨it,hit,hz⟩:=mapI
 obtain ⟨fs,hfs⟩:∃ fs,Tryz.prog.underlying 86 = some (.struct fs):=⟨_,Tryz.underlying86⟩
 have hpl:=fmap fs hfs
 unfold Program.built
 rw [hit,hfs]
 simp only [hz,hpl,Value.cells]
 have s1:=xa1e (place:=([(0,1),(1,1),(2,1)].toArray[·]?)) (i:=0) (n:=1) (rest:=[(1,.int .i64 n),(2,tv)]) [] [.int .i64 0] [.int .i64 0,.nilIface] [.int .i64 k] (X:=.int .i64 k) rfl rfl rfl rfl
 have s2:=xa1e (place:=([(0,1),(1,1),(2,1)].toArray[·]?)) (i:=1) (n:=1) (rest:=[(2,tv)]) [.int .i64 k] [.int .i64 0] [.nilIface] [.int .i64 n] (X:=.int .i64 n) rfl rfl rfl rfl
 have s3:=xa1e (place:=([(0,1),(1,1),(2,1)].toArray[·]?)) (i:=2) (n:=1) (rest:=[]) [.int .i64 k,.int .i64 n] [.nilIface] [] [tv] (X:=tv) h rfl rfl rfl
 exact s1.trans (s2.trans s3)
theorem xa5u {o:Oper} {a:Act} (w:World) {x y z:Operand} {k n:Int} {tv:Value} (ho:o.op = .build 86 #[(0,x),(1,y),(2,z)]∧a.eval x = .int .i64 k∧a.eval y = .int .i64 n∧a.eval z = tv) (h:tv.cells = #[tv]):(execOp a.eval o).run Tryz.prog w = .ok (.value (.agg #[.int .i64 k,.int .i64 n,tv])) w:=by
 obtain ⟨h0,h1,h2,h3⟩:=ho
 have hb:=run_build (P:=Tryz.prog) w 86 #[(0,.int .i64 k),(1,.int .i64 n),(2,tv)] _ (xb2v k n tv h)
 unfold execOp
 simp only [h0,List.map_toArray,List.map_cons,List.map_nil,h1,h2,h3,Sem.run_bind,hb,Result.andThen_ok]
 rfl
theorem xa3x {S:Nat→Prop} {k f:Nat} {W:World} {v:Value} {L:Prs} (h:KidAt S (hsZ k) W f v L):v.cells = #[v]:=by
 rcases h with ⟨_,rfl⟩ | h
 ·rfl
 ·rcases h.own with ⟨g,_,_,_,rfl,_⟩ | ⟨g,_,_,_,rfl,_⟩ <;> rfl
theorem xa9g {H:Hs} {q v:List Nat} {L:Prs} (hs:Srt H L) (hf:Fit L) (hq:q.length≤64) (hv:v.length≤256):Fit (insP H q v L):=fun p hp=>by
 rcases (xa2g hs p).1 hp with rfl | ⟨h1,_⟩
 ·exact ⟨hq,hv⟩
 ·exact hf p h1
theorem xa5b {W:World} {g k:Nat} {D:List Nat} {cr en:Value} {pl:Nat} {fd:Bool} {t:TypeId} (h:W.heap[g]? = some (.cells (wayC k D cr en pl fd).toArray t (0,0))):W.rangeAt g 0 (wayC k D cr en pl fd):=xa0o [] (wayC k D cr en pl fd) [] (by rw [List.nil_append,List.append_nil]; exact h) rfl
set_option maxHeartbeats 4000000 in
theorem xa4z (S:Nat→Prop) (k:Nat) (mv kv vv:Value) (L:Prs) (q v:List Nat) (w:World) (hM:MapAt S k w mv L) (hku:Rd w kv q) (hvu:Rd w vv v) (hq:q.length≤64) (hv:v.length≤256) (hL:L.length < 1000000000) (hS:∀ y,w.heap.size≤y→S y) (hT:Tabs w) :
  Calls Tryz.prog 16 #[mv,kv,vv] w fun e w'=>∃ m',e = .returned (.tuple #[m',.int .i64 0])∧MapAt S k w' m' (insP (hsZ k) q v L)∧Kept [] w w':=by
 have HM:=hide hM
 obtain ⟨hk,hs,hfit,hlen,g,tv,rfl,hSg,hh,htop⟩:=hM
 have hH:=hsZ_ok hk
 obtain ⟨va,vn,vc,rfl,hvl,_⟩:=id hvu
 have hun:vn≤256:=by omega
 have hu1:¬ (256:Int) < vn:=by omega
 have hu2:¬ (vn:Int) > 256:=by omega
 have c0:w.cell? ⟨g,0,none⟩ = some (.int .i64 k):=by rw [cell_of_row _ _ _ _ _ _ hh]; rfl
 have c1:w.cell? ⟨g,1,none⟩ = some (.int .i64 (L.length:Nat)):=by rw [cell_of_row _ _ _ _ _ _ hh]; rfl
 have HC0:=hide c0
 have HC1:=hide c1
 have HKU:=hide hku
 have HVU:=hide hvu
 have HTb:=hide hT
 have HSr:=hide hs
 have HFt:=hide hfit
 have hil:=xb0h (q:=q) (v:=v) hs
 clear hh htop hT hs c0 c1 hku hvu hfit hSg
 go_enter Tryz.func16,Tryz.ntmps16
 go_wp2_with fail
 refine Calls.mono (xa1x S k _ kv L q w (uh HM) (uh HKU) hq (uh HTb)) ?_
 rintro e w1 ⟨m,cr,en,pl,fd,rfl,hway,k1⟩
 have hfd:=hway.fd
 rw [← hfd] at hil
 have hon:=hway.cells
 have HWay:=hide hway
 have hDl:((hsZ k).kd q).length = 32:=(hH.dg q).1
 obtain ⟨D,hD⟩:∃ D,(hsZ k).kd q = D:=⟨_,rfl⟩
 have HD:=hide hD
 rw [hD] at hDl ⊢
 clear hD hfd hway
 have hws:((wayC k D cr en pl fd).toArray).size = 37:=by rw [List.size_toArray,xa0v hDl]
 have HZ1:=hide (heap_alloc_new w1 (.cells zwy 93))
 have HN2:=hide (setRow_heap _ _ _ (wayC k D cr en pl fd).toArray _ _ (uh HZ1))
 have HK12:=hide ((Kept.refl [] w1).alloc (.cells zwy 93) |>.setRow (g:=w1.heap.size) (Or.inr (Nat.le_refl _)) (wayC k D cr en pl fd).toArray)
 have HK2:=hide (k1.trans (uh HK12) (by simp))
 have hz2:((w1.alloc (.cells zwy 93)).setRow w1.heap.size (wayC k D cr en pl fd).toArray).heap.size = w1.heap.size + 1:=by simp [World.setRow]
 have hw1:=k1.size
 clear k1
 obtain ⟨c,hc⟩:∃ c,L.length = c:=⟨_,rfl⟩
 rw [hc] at hil hL HC1
 have hwr:IntKind.i64.wrap ((c:Int) + 1) = ((c + 1:Nat):Int):=by simp [IntKind.wrap,IntKind.signed,IntKind.bits]; omega
 obtain ⟨W2,hW2⟩:∃ W2,(w1.alloc (.cells zwy 93)).setRow w1.heap.size (wayC k D cr en pl fd).toArray = W2:=⟨_,rfl⟩
 rw [hW2] at HN2 HK12 HK2 hz2
 have c1a:=(uh HK2).cell (uh HC1) (by simp)
 have c5a:=(xa0s (uh HN2) hDl).2.2.2.2.2
 cases fd with
 | true =>
  rw [if_pos rfl] at hil
  go_wp2_with (rw [xa0z]; refine wpList_store_row rfl 93 (.tmp 8) (.tmp 16) rfl w1.heap.size (wayC k D cr en pl true).toArray rfl rfl _ zwy (uh HZ1) (by rw [hws]; exact Tryz.size_way) (by rw [hws]; rfl) (xa0r _ _ hon.1 hon.2) ?_; rw [hW2]; simp only [Act.put])
  refine Calls.mono (xa1l kv q W2 ((uh HKU).old (uh HK2) (by simp))) ?_
  rintro e w3 ⟨⟨kz,rfl,hkz,hkb⟩,k3⟩
  obtain ⟨ka,kn,kc',rfl,_⟩:=id hkz
  have HK3:=hide ((uh HK2).trans k3 (by simp))
  have HN3:=hide (k3.heap (uh HN2) (by simp))
  have HK13:=hide ((uh HK12).trans k3 (by simp))
  have hz3:=k3.size
  have HKz:=hide hkz
  have HKb:=hide hkb
  clear k3 hkz hkb
  go_wp2_with fail
  refine Calls.mono (xa1l _ v w3 ((uh HVU).old (uh HK3) (by simp))) ?_
  rintro e w4 ⟨⟨vz,rfl,hvz,hvb⟩,k4⟩
  obtain ⟨va',vn',vc',rfl,_⟩:=id hvz
  have HK4:=hide ((uh HK3).trans k4 (by simp))
  have HN4:=hide (k4.heap (uh HN3) (by simp))
  have HK14:=hide ((uh HK13).trans k4 (by simp))
  have hz4:=k4.size
  have HKz4:=hide ((uh HKz).old k4 (by simp))
  have HVz:=hide hvz
  have HVb:=hide hvb
  clear k4 hvz hvb
  have HP5:=hide (heap_alloc_new w4 (.cells #[.slice ka kn kc',.slice va' vn' vc'] 46))
  have HK45:=hide ((Kept.refl [] w4).alloc (.cells #[.slice ka kn kc',.slice va' vn' vc'] 46))
  have HN5:=hide ((uh HK45).heap (uh HN4) (by simp))
  have HK5:=hide ((uh HK4).trans (uh HK45) (by simp))
  have HK15:=hide ((uh HK14).trans (uh HK45) (by simp))
  have HKz5:=hide ((uh HKz4).old (uh HK45) (by simp))
  have HVz5:=hide ((uh HVz).old (uh HK45) (by simp))
  go_upto_region 10 with fail
  try simp only [Act.put]
  generalize w4.alloc (.cells #[.slice ka kn kc',.slice va' vn' vc'] 46) = W5 at HP5 HK45 HN5 HK5 HK15 HKz5 HVz5 ⊢
  clear c1a c5a
  have HV0:=hide ((uh HK5).cell (uh HC0) (by simp))
  refine ln_pt (by kernel_rfl) (by kernel_rfl) rfl (fun W=>Kept [] W5 W) (Kept.refl _ W5).drew ?_
  refine LinY.mv (x:=.tmp 0) rfl (.pointer (some ⟨g,0,none⟩)) rfl (by simp only [Act.put,sa1,sa2,sa3]; rfl) ?_
  refine LinY.rd (.pointer (some ⟨g,0,none⟩)) (fun W hW=>by go_simp) (by simp only [Act.put,sa1,sa2,sa3]; rfl) ?_
  refine LinY.rd (.pointer (some ⟨g,0,none⟩)) (fun W hW=>by go_simp) (by simp only [Act.put,sa1,sa2,sa3]; rfl) ?_
  refine LinY.rd (.int .i64 k) (fun W hW=>by have h9:=hW.cell (uh HV0) (by simp); go_simp) (by simp only [Act.put,sa1,sa2,sa3]; rfl) ?_
  refine LinY.mv (x:=.tmp 10) rfl (.int .i64 c) rfl (by simp only [Act.put,sa1,sa2,sa3]; rfl) ?_
  refine LinY.ld 93 (.tmp 8) rfl w1.heap.size 0 rfl (wayC k D cr en pl true) _ (fun W hW=>hW.rng (xa5b (uh HN5)) (by simp)) Tryz.underlying93 rfl (by rw [xa0v hDl]; exact Tryz.size_way) (by simp only [Act.put,sa1,sa2,sa3]; rfl) ?_
  refine LinY.ld 93 (.tmp 8) rfl w1.heap.size 0 rfl (wayC k D cr en pl true) _ (fun W hW=>hW.rng (xa5b (uh HN5)) (by simp)) Tryz.underlying93 rfl (by rw [xa0v hDl]; exact Tryz.size_way) (by simp only [Act.put,sa1,sa2,sa3]; rfl) ?_
  refine LinY.ld 46 (.tmp 11) rfl w4.heap.size 0 rfl ([.slice ka kn kc',.slice va' vn' vc']) _ (fun W hW=>hW.rng (xa0o [] [.slice ka kn kc',.slice va' vn' vc'] [] (uh HP5) rfl) (by simp)) Tryz.underlying46 rfl Tryz.size_pair (by simp only [Act.put,sa1,sa2,sa3]; rfl) ?_
  have hd5:=(Kept.refl [] W5).drew
  have hw5:=(uh HWay).old ((uh HK15).trans hd5 (by simp))
  have hS5:∀ y,W5.drew.heap.size≤y→S y:=fun y hy=>hS y (Nat.le_trans ((uh HK5).trans hd5 (by simp)).size hy)
  have hew:=xa5d S k m q v L cr en (.slice ka kn kc') (.slice va' vn' vc') pl true W5.drew hk hS5 hw5 (uh HSr) (uh HFt) (by omega) hq hv
   (Sty.rd ((uh HKz5).old hd5 (by simp)) (fun x hx=>hS x (Nat.le_trans (uh HK2).size (uh HKb x hx))))
   (Sty.rd ((uh HVz5).old hd5 (by simp)) (fun x hx=>hS x (Nat.le_trans (uh HK3).size (uh HVb x hx)))) ((uh HTb).k ((uh HK5).trans hd5 (by simp)))
  rw [uh HD] at hew
  refine ChL.call rfl Tryz.call49 [.agg (wayC k D cr en pl true).toArray,.agg #[.slice ka kn kc',.slice va' vn' vc']] rfl hew ?_
  rintro e w6 ⟨t6,rfl,ht6,k6⟩
  have hk6:=hd5.trans k6 (by simp)
  refine ⟨_,rfl,hk6,?_⟩
  simp only [Act.put,sa1,sa2,sa3]
  have hk60:=(uh HK5).trans hk6 (by simp)
  have hli:=xa7p S k m q L (fun i=>insP (hsZ k) q v (dnL (hsZ k) q L i)) cr en pl true t6 w6 hk (fun y hy=>hS y (Nat.le_trans hk60.size hy)) (hw5.old k6) (fun i hi=>⟨put_in (dn_srt (uh HSr) i),xb0y (dn_srt (uh HSr) i),ins_ne⟩) (Or.inr ht6) ((uh HTb).k hk60)
  rw [uh HD] at hli
  refine ChL.call rfl Tryz.call44 [.agg (wayC k D cr en pl true).toArray,t6] rfl hli ?_
  rintro e w7 ⟨t7,rfl,ht7,k7⟩
  have hk7:=hk6.trans k7 (by simp)
  refine ⟨_,rfl,hk7,?_⟩
  simp only [Act.put,sa1,sa2,sa3]
  have hk70:=hk60.trans k7 (by simp)
  have hone:t7.cells = #[t7]:=xa3x ht7
  refine ChL.op (.agg #[.int .i64 k,.int .i64 c,t7]) (xa5u w7 ⟨rfl,rfl,rfl,rfl⟩ hone) hk7 (by simp only [Act.put,sa1,sa2,sa3]; rfl) ?_
  have hka:=hk7.alloc (.cells #[.int .i64 k,.int .i64 c,t7] 86)
  have hkz:=hk70.alloc (.cells #[.int .i64 k,.int .i64 c,t7] 86)
  refine ChL.op (.pointer (some ⟨w7.heap.size,0,none⟩)) (by go_simp) hka (by simp only [Act.put,sa1,sa2,sa3]; rfl) ?_
  refine ChL.op (.pointer (some ⟨w7.heap.size,0,none⟩)) (by go_simp) hka (by simp only [Act.put,sa1,sa2,sa3]; rfl) ?_
  refine ChL.op (.int .i64 0) (by go_simp) hka (by simp only [Act.put,sa1,sa2,sa3]; rfl) (ChL.fin ?_)
  have hfin:MapAt S k (w7.alloc (.cells #[.int .i64 k,.int .i64 c,t7] 86)) (.pointer (some ⟨w7.heap.size,0,none⟩)) (insP (hsZ k) q v L) :=
   ⟨hk,(uh HSr).ins q v,xa9g (uh HSr) (uh HFt) hq hv,by omega,w7.heap.size,t7,rfl,hS _ hk70.size,by rw [hil]; exact heap_alloc_new _ _,ht7.agr (Agr.nil ((Kept.refl [] w7).alloc _))⟩
  go_wp2
  go_ret2
  exact ⟨_,rfl,hfin,hkz⟩
 | false =>
  rw [if_neg (by decide)] at hil
  go_wp2_with (rw [xa0z]; refine wpList_store_row rfl 93 (.tmp 8) (.tmp 16) rfl w1.heap.size (wayC k D cr en pl false).toArray rfl rfl _ zwy (uh HZ1) (by rw [hws]; exact Tryz.size_way) (by rw [hws]; rfl) (xa0r _ _ hon.1 hon.2) ?_; rw [hW2]; simp only [Act.put])
  refine Calls.mono (xa1l kv q W2 ((uh HKU).old (uh HK2) (by simp))) ?_
  rintro e w3 ⟨⟨kz,rfl,hkz,hkb⟩,k3⟩
  obtain ⟨ka,kn,kc',rfl,_⟩:=id hkz
  have HK3:=hide ((uh HK2).trans k3 (by simp))
  have HN3:=hide (k3.heap (uh HN2) (by simp))
  have HK13:=hide ((uh HK12).trans k3 (by simp))
  have hz3:=k3.size
  have HKz:=hide hkz
  have HKb:=hide hkb
  clear k3 hkz hkb
  go_wp2_with fail
  refine Calls.mono (xa1l _ v w3 ((uh HVU).old (uh HK3) (by simp))) ?_
  rintro e w4 ⟨⟨vz,rfl,hvz,hvb⟩,k4⟩
  obtain ⟨va',vn',vc',rfl,_⟩:=id hvz
  have HK4:=hide ((uh HK3).trans k4 (by simp))
  have HN4:=hide (k4.heap (uh HN3) (by simp))
  have HK14:=hide ((uh HK13).trans k4 (by simp))
  have hz4:=k4.size
  have HKz4:=hide ((uh HKz).old k4 (by simp))
  have HVz:=hide hvz
  have HVb:=hide hvb
  clear k4 hvz hvb
  have HP5:=hide (heap_alloc_new w4 (.cells #[.slice ka kn kc',.slice va' vn' vc'] 46))
  have HK45:=hide ((Kept.refl [] w4).alloc (.cells #[.slice ka kn kc',.slice va' vn' vc'] 46))
  have HN5:=hide ((uh HK45).heap (uh HN4) (by simp))
  have HK5:=hide ((uh HK4).trans (uh HK45) (by simp))
  have HK15:=hide ((uh HK14).trans (uh HK45) (by simp))
  have HKz5:=hide ((uh HKz4).old (uh HK45) (by simp))
  have HVz5:=hide ((uh HVz).old (uh HK45) (by simp))
  go_upto_region 10 with fail
  try simp only [Act.put]
  generalize w4.alloc (.cells #[.slice ka kn kc',.slice va' vn' vc'] 46) = W5 at HP5 HK45 HN5 HK5 HK15 HKz5 HVz5 ⊢
  clear c1a c5a
  have HV0:=hide ((uh HK5).cell (uh HC0) (by simp))
  refine ln_pt (by kernel_rfl) (by kernel_rfl) rfl (fun W=>Kept [] W5 W) (Kept.refl _ W5).drew ?_
  refine LinY.mv (x:=.tmp 0) rfl (.pointer (some ⟨g,0,none⟩)) rfl (by simp only [Act.put,sa1,sa2,sa3]; rfl) ?_
  refine LinY.rd (.pointer (some ⟨g,0,none⟩)) (fun W hW=>by go_simp) (by simp only [Act.put,sa1,sa2,sa3]; rfl) ?_
  refine LinY.rd (.pointer (some ⟨g,0,none⟩)) (fun W hW=>by go_simp) (by simp only [Act.put,sa1,sa2,sa3]; rfl) ?_
  refine LinY.rd (.int .i64 k) (fun W hW=>by have h9:=hW.cell (uh HV0) (by simp); go_simp) (by simp only [Act.put,sa1,sa2,sa3]; rfl) ?_
  refine LinY.mv (x:=.tmp 10) rfl (.int .i64 (c + 1:Nat)) rfl (by simp only [Act.put,sa1,sa2,sa3]; rfl) ?_
  refine LinY.ld 93 (.tmp 8) rfl w1.heap.size 0 rfl (wayC k D cr en pl false) _ (fun W hW=>hW.rng (xa5b (uh HN5)) (by simp)) Tryz.underlying93 rfl (by rw [xa0v hDl]; exact Tryz.size_way) (by simp only [Act.put,sa1,sa2,sa3]; rfl) ?_
  refine LinY.ld 93 (.tmp 8) rfl w1.heap.size 0 rfl (wayC k D cr en pl false) _ (fun W hW=>hW.rng (xa5b (uh HN5)) (by simp)) Tryz.underlying93 rfl (by rw [xa0v hDl]; exact Tryz.size_way) (by simp only [Act.put,sa1,sa2,sa3]; rfl) ?_
  refine LinY.ld 46 (.tmp 11) rfl w4.heap.size 0 rfl ([.slice ka kn kc',.slice va' vn' vc']) _ (fun W hW=>hW.rng (xa0o [] [.slice ka kn kc',.slice va' vn' vc'] [] (uh HP5) rfl) (by simp)) Tryz.underlying46 rfl Tryz.size_pair (by simp only [Act.put,sa1,sa2,sa3]; rfl) ?_
  have hd5:=(Kept.refl [] W5).drew
  have hw5:=(uh HWay).old ((uh HK15).trans hd5 (by simp))
  have hS5:∀ y,W5.drew.heap.size≤y→S y:=fun y hy=>hS y (Nat.le_trans ((uh HK5).trans hd5 (by simp)).size hy)
  have hew:=xa5d S k m q v L cr en (.slice ka kn kc') (.slice va' vn' vc') pl false W5.drew hk hS5 hw5 (uh HSr) (uh HFt) (by omega) hq hv
   (Sty.rd ((uh HKz5).old hd5 (by simp)) (fun x hx=>hS x (Nat.le_trans (uh HK2).size (uh HKb x hx))))
   (Sty.rd ((uh HVz5).old hd5 (by simp)) (fun x hx=>hS x (Nat.le_trans (uh HK3).size (uh HVb x hx)))) ((uh HTb).k ((uh HK5).trans hd5 (by simp)))
  rw [uh HD] at hew
  refine ChL.call rfl Tryz.call49 [.agg (wayC k D cr en pl false).toArray,.agg #[.slice ka kn kc',.slice va' vn' vc']] rfl hew ?_
  rintro e w6 ⟨t6,rfl,ht6,k6⟩
  have hk6:=hd5.trans k6 (by simp)
  refine ⟨_,rfl,hk6,?_⟩
  simp only [Act.put,sa1,sa2,sa3]
  have hk60:=(uh HK5).trans hk6 (by simp)
  have hli:=xa7p S k m q L (fun i=>insP (hsZ k) q v (dnL (hsZ k) q L i)) cr en pl false t6 w6 hk (fun y hy=>hS y (Nat.le_trans hk60.size hy)) (hw5.old k6) (fun i hi=>⟨put_in (dn_srt (uh HSr) i),xb0y (dn_srt (uh HSr) i),ins_ne⟩) (Or.inr ht6) ((uh HTb).k hk60)
  rw [uh HD] at hli
  refine ChL.call rfl Tryz.call44 [.agg (wayC k D cr en pl false).toArray,t6] rfl hli ?_
  rintro e w7 ⟨t7,rfl,ht7,k7⟩
  have hk7:=hk6.trans k7 (by simp)
  refine ⟨_,rfl,hk7,?_⟩
  simp only [Act.put,sa1,sa2,sa3]
  have hk70:=hk60.trans k7 (by simp)
  have hone:t7.cells = #[t7]:=xa3x ht7
  refine ChL.op (.agg #[.int .i64 k,.int .i64 (c + 1:Nat),t7]) (xa5u w7 ⟨rfl,rfl,rfl,rfl⟩ hone) hk7 (by simp only [Act.put,sa1,sa2,sa3]; rfl) ?_
  have hka:=hk7.alloc (.cells #[.int .i64 k,.int .i64 (c + 1:Nat),t7] 86)
  have hkz:=hk70.alloc (.cells #[.int .i64 k,.int .i64 (c + 1:Nat),t7] 86)
  refine ChL.op (.pointer (some ⟨w7.heap.size,0,none⟩)) (by go_simp) hka (by simp only [Act.put,sa1,sa2,sa3]; rfl) ?_
  refine ChL.op (.pointer (some ⟨w7.heap.size,0,none⟩)) (by go_simp) hka (by simp only [Act.put,sa1,sa2,sa3]; rfl) ?_
  refine ChL.op (.int .i64 0) (by go_simp) hka (by simp only [Act.put,sa1,sa2,sa3]; rfl) (ChL.fin ?_)
  have hfin:MapAt S k (w7.alloc (.cells #[.int .i64 k,.int .i64 (c + 1:Nat),t7] 86)) (.pointer (some ⟨w7.heap.size,0,none⟩)) (insP (hsZ k) q v L) :=
   ⟨hk,(uh HSr).ins q v,xa9g (uh HSr) (uh HFt) hq hv,by omega,w7.heap.size,t7,rfl,hS _ hk70.size,by rw [hil]; exact heap_alloc_new _ _,ht7.agr (Agr.nil ((Kept.refl [] w7).alloc _))⟩
  go_wp2
  go_ret2
  exact ⟨_,rfl,hfin,hkz⟩
theorem xb5c {H:Hs} {q:List Nat}:∀ {L:Prs},Srt H L→fnd q L = true→(delP q L).length + 1 = L.length
 | [],_,h=>by simp [fnd,getP] at h
 | y :: L,hs,h=>by
  by_cases e:y.1 = q
  ·have h1:delP q (y :: L) = delP q L:=by unfold delP; rw [List.filter_cons]; simp [e]
   rw [h1,xa8y (fun z hz e2=>by have:=hs.head z hz; rw [e,e2,xa3e] at this; omega)]; rfl
  ·have h3:fnd q (y :: L) = fnd q L:=by unfold fnd; rw [xa3z,if_neg e]
   rw [h3] at h
   have h1:delP q (y :: L) = y :: delP q L:=by unfold delP; rw [List.filter_cons]; simp [e]
   rw [h1,List.length_cons,xb5c hs.tail h]; rfl
theorem del_no {q:List Nat} {L:Prs} (h:fnd q L = false):delP q L = L:=by
 refine xa8y (fun y hy e=>?_)
 unfold fnd at h
 have h1:getP q L = none:=by cases hg:getP q L with
  | none=>rfl
  | some v=>rw [hg] at h; simp at h
 exact xa2w.1 h1 y hy e
set_option maxHeartbeats 4000000 in
theorem xb2c (S:Nat→Prop) (k:Nat) (mv kv:Value) (L:Prs) (q:List Nat) (w:World) (hM:MapAt S k w mv L) (hku:Rd w kv q) (hq:q.length≤64) (hS:∀ y,w.heap.size≤y→S y) (hT:Tabs w) :
  Calls Tryz.prog 14 #[mv,kv] w fun e w'=>∃ m',e = .returned (.tuple #[m',.bool (fnd q L),.int .i64 0])∧MapAt S k w' m' (delP q L)∧Kept [] w w':=by
 have HM:=hide hM
 obtain ⟨hk,hs,hfit,hlen,g,tv,rfl,hSg,hh,htop⟩:=hM
 have hH:=hsZ_ok hk
 have c0:w.cell? ⟨g,0,none⟩ = some (.int .i64 k):=by rw [cell_of_row _ _ _ _ _ _ hh]; rfl
 have c1:w.cell? ⟨g,1,none⟩ = some (.int .i64 (L.length:Nat)):=by rw [cell_of_row _ _ _ _ _ _ hh]; rfl
 have c2:w.cell? ⟨g,2,none⟩ = some tv:=by rw [cell_of_row _ _ _ _ _ _ hh]; rfl
 have hdl:=xb5c (q:=q) hs
 have hdn:=del_no (q:=q) (L:=L)
 have hle:(delP q L).length≤L.length:=List.length_filter_le _ _
 have hlen':=hlen
 obtain ⟨z,hz⟩:∃ z:Int,((L.length:Nat):Int) = z:=⟨_,rfl⟩
 rw [hz] at c1
 have HC0:=hide c0
 have HC1:=hide c1
 have HC2:=hide c2
 have HKU:=hide hku
 have HTb:=hide hT
 have HSr:=hide hs
 have HFt:=hide hfit
 have HTop:=hide htop
 clear hh htop hT hs c0 c1 c2 hku hfit hSg
 go_enter Tryz.func14,Tryz.ntmps14
 go_wp2_with fail
 refine Calls.mono (xa1x S k _ kv L q w (uh HM) (uh HKU) hq (uh HTb)) ?_
 rintro e w1 ⟨m,cr,en,pl,fd,rfl,hway,k1⟩
 have hfd:=hway.fd
 rw [← hfd] at hdl hdn
 have HFd:=hide hfd
 have hon:=hway.cells
 have HWay:=hide hway
 have hDl:((hsZ k).kd q).length = 32:=(hH.dg q).1
 obtain ⟨D,hD⟩:∃ D,(hsZ k).kd q = D:=⟨_,rfl⟩
 have HD:=hide hD
 rw [hD] at hDl ⊢
 clear hD hfd hway
 have hws:((wayC k D cr en pl fd).toArray).size = 37:=by rw [List.size_toArray,xa0v hDl]
 have HZ1:=hide (heap_alloc_new w1 (.cells zwy 93))
 have HN2:=hide (setRow_heap _ _ _ (wayC k D cr en pl fd).toArray _ _ (uh HZ1))
 have HK12:=hide ((Kept.refl [] w1).alloc (.cells zwy 93) |>.setRow (g:=w1.heap.size) (Or.inr (Nat.le_refl _)) (wayC k D cr en pl fd).toArray)
 have HK2:=hide (k1.trans (uh HK12) (by simp))
 have hw1:=k1.size
 clear k1
 obtain ⟨W2,hW2⟩:∃ W2,(w1.alloc (.cells zwy 93)).setRow w1.heap.size (wayC k D cr en pl fd).toArray = W2:=⟨_,rfl⟩
 rw [hW2] at HN2 HK12 HK2
 have c5a:=(xa0s (uh HN2) hDl).2.2.2.2.2
 have HV0:=hide ((uh HK2).cell (uh HC0) (by simp))
 have HV1:=hide ((uh HK2).cell (uh HC1) (by simp))
 have HV2:=hide ((uh HK2).cell (uh HC2) (by simp))
 cases fd with
 | false =>
  have hdn':=hdn rfl
  go_upto_region 5 with (rw [xa0z]; refine wpList_store_row rfl 93 (.tmp 7) (.tmp 13) rfl w1.heap.size (wayC k D cr en pl false).toArray rfl rfl _ zwy (uh HZ1) (by rw [hws]; exact Tryz.size_way) (by rw [hws]; rfl) (xa0r _ _ hon.1 hon.2) ?_; rw [hW2]; simp only [Act.put])
  refine ln_dn (by kernel_rfl) (by kernel_rfl) rfl (fun W=>Kept [] W2 W) (Kept.refl _ W2).drew ?_
  refine LinY.mv (x:=.tmp 0) rfl (.pointer (some ⟨g,0,none⟩)) rfl (by simp only [Act.put,sa1,sa2,sa3]; rfl) ?_
  refine LinY.rd (.pointer (some ⟨g,0,none⟩)) (fun W hW=>by go_simp) (by simp only [Act.put,sa1,sa2,sa3]; rfl) ?_
  refine LinY.rd (.pointer (some ⟨g,0,none⟩)) (fun W hW=>by go_simp) (by simp only [Act.put,sa1,sa2,sa3]; rfl) ?_
  refine LinY.rd (.int .i64 k) (fun W hW=>by have h9:=hW.cell (uh HV0) (by simp); go_simp) (by simp only [Act.put,sa1,sa2,sa3]; rfl) ?_
  refine LinY.mv (x:=.tmp 0) rfl (.pointer (some ⟨g,0,none⟩)) rfl (by simp only [Act.put,sa1,sa2,sa3]; rfl) ?_
  refine LinY.rd (.pointer (some ⟨g,0,none⟩)) (fun W hW=>by go_simp) (by simp only [Act.put,sa1,sa2,sa3]; rfl) ?_
  refine LinY.rd (.pointer (some ⟨g,1,none⟩)) (fun W hW=>by go_simp) (by simp only [Act.put,sa1,sa2,sa3]; rfl) ?_
  refine LinY.rd (.int .i64 z) (fun W hW=>by have h9:=hW.cell (uh HV1) (by simp); go_simp) (by simp only [Act.put,sa1,sa2,sa3]; rfl) ?_
  refine LinY.mv (x:=.tmp 0) rfl (.pointer (some ⟨g,0,none⟩)) rfl (by simp only [Act.put,sa1,sa2,sa3]; rfl) ?_
  refine LinY.rd (.pointer (some ⟨g,0,none⟩)) (fun W hW=>by go_simp) (by simp only [Act.put,sa1,sa2,sa3]; rfl) ?_
  refine LinY.rd (.pointer (some ⟨g,2,none⟩)) (fun W hW=>by go_simp) (by simp only [Act.put,sa1,sa2,sa3]; rfl) ?_
  refine LinY.rd (tv) (fun W hW=>by have h9:=hW.cell (uh HV2) (by simp); go_simp) (by simp only [Act.put,sa1,sa2,sa3]; rfl) ?_
  have hd2:=(Kept.refl [] W2).drew
  have htw:TopAt S (hsZ k) W2.drew tv L:=(uh HTop).agr (Agr.nil ((uh HK2).trans hd2 (by simp)))
  have hone:tv.cells = #[tv]:=xa3x (S:=S) (f:=64) htw
  obtain ⟨W3,hW3⟩:∃ W3,W2.drew = W3:=⟨_,rfl⟩
  rw [hW3] at hd2 htw ⊢
  refine ChL.op (.agg #[.int .i64 k,.int .i64 z,tv]) (xa5u W3 ⟨rfl,rfl,rfl,rfl⟩ hone) hd2 (by simp only [Act.put,sa1,sa2,sa3]; rfl) ?_
  have hka:=hd2.alloc (.cells #[.int .i64 k,.int .i64 z,tv] 86)
  have hkz:=((uh HK2).trans hd2 (by simp)).alloc (.cells #[.int .i64 k,.int .i64 z,tv] 86)
  refine ChL.op (.pointer (some ⟨W3.heap.size,0,none⟩)) (by go_simp) hka (by simp only [Act.put,sa1,sa2,sa3]; rfl) ?_
  refine ChL.op (.pointer (some ⟨W3.heap.size,0,none⟩)) (by go_simp) hka (by simp only [Act.put,sa1,sa2,sa3]; rfl) ?_
  refine ChL.op (.bool false) (by go_simp) hka (by simp only [Act.put,sa1,sa2,sa3]; rfl) ?_
  refine ChL.op (.int .i64 0) (by go_simp) hka (by simp only [Act.put,sa1,sa2,sa3]; rfl) (ChL.fin ?_)
  have hfin:MapAt S k (W3.alloc (.cells #[.int .i64 k,.int .i64 z,tv] 86)) (.pointer (some ⟨W3.heap.size,0,none⟩)) (delP q L):=by
   rw [hdn']
   exact ⟨hk,uh HSr,uh HFt,hlen',W3.heap.size,tv,rfl,hS _ ((uh HK2).trans hd2 (by simp)).size,by rw [hz]; exact heap_alloc_new _ _,htw.agr (Agr.nil ((Kept.refl [] W3).alloc _))⟩
  go_wp2
  go_ret3
  exact ⟨.pointer (some ⟨W3.heap.size,0,none⟩),by rw [← uh HFd]; rfl,hfin,hkz⟩
 | true =>
  have hdl':=hdl rfl
  obtain ⟨y,hy⟩:∃ y:Int,(((delP q L).length:Nat):Int) = y:=⟨_,rfl⟩
  have hwr:IntKind.i64.wrap (z - 1) = y:=by rw [← hz,← hy]; simp [IntKind.wrap,IntKind.signed,IntKind.bits]; omega
  go_upto_region 6 with (rw [xa0z]; refine wpList_store_row rfl 93 (.tmp 7) (.tmp 13) rfl w1.heap.size (wayC k D cr en pl true).toArray rfl rfl _ zwy (uh HZ1) (by rw [hws]; exact Tryz.size_way) (by rw [hws]; rfl) (xa0r _ _ hon.1 hon.2) ?_; rw [hW2]; simp only [Act.put])
  refine ln_dl (by kernel_rfl) (by kernel_rfl) rfl (fun W=>Kept [] W2 W) (Kept.refl _ W2).drew ?_
  refine LinY.mv (x:=.tmp 0) rfl (.pointer (some ⟨g,0,none⟩)) rfl (by simp only [Act.put,sa1,sa2,sa3]; rfl) ?_
  refine LinY.rd (.pointer (some ⟨g,0,none⟩)) (fun W hW=>by go_simp) (by simp only [Act.put,sa1,sa2,sa3]; rfl) ?_
  refine LinY.rd (.pointer (some ⟨g,0,none⟩)) (fun W hW=>by go_simp) (by simp only [Act.put,sa1,sa2,sa3]; rfl) ?_
  refine LinY.rd (.int .i64 k) (fun W hW=>by have h9:=hW.cell (uh HV0) (by simp); go_simp) (by simp only [Act.put,sa1,sa2,sa3]; rfl) ?_
  refine LinY.mv (x:=.tmp 0) rfl (.pointer (some ⟨g,0,none⟩)) rfl (by simp only [Act.put,sa1,sa2,sa3]; rfl) ?_
  refine LinY.rd (.pointer (some ⟨g,0,none⟩)) (fun W hW=>by go_simp) (by simp only [Act.put,sa1,sa2,sa3]; rfl) ?_
  refine LinY.rd (.pointer (some ⟨g,1,none⟩)) (fun W hW=>by go_simp) (by simp only [Act.put,sa1,sa2,sa3]; rfl) ?_
  refine LinY.rd (.int .i64 z) (fun W hW=>by have h9:=hW.cell (uh HV1) (by simp); go_simp) (by simp only [Act.put,sa1,sa2,sa3]; rfl) ?_
  refine LinY.rd (.int .i64 y) (fun W hW=>by go_simp) (by simp only [Act.put,sa1,sa2,sa3]; rfl) ?_
  refine LinY.ld 93 (.tmp 7) rfl w1.heap.size 0 rfl (wayC k D cr en pl true) _ (fun W hW=>hW.rng (xa5b (uh HN2)) (by simp)) Tryz.underlying93 rfl (by rw [xa0v hDl]; exact Tryz.size_way) (by simp only [Act.put,sa1,sa2,sa3]; rfl) ?_
  refine LinY.ld 93 (.tmp 7) rfl w1.heap.size 0 rfl (wayC k D cr en pl true) _ (fun W hW=>hW.rng (xa5b (uh HN2)) (by simp)) Tryz.underlying93 rfl (by rw [xa0v hDl]; exact Tryz.size_way) (by simp only [Act.put,sa1,sa2,sa3]; rfl) ?_
  have hd5:=(Kept.refl [] W2).drew
  have hk50:=(uh HK2).trans hd5 (by simp)
  have hw5:=(uh HWay).old ((uh HK12).trans hd5 (by simp))
  have hew:=xa5k S k m q L cr en pl W2.drew hk (fun y hy=>hS y (Nat.le_trans hk50.size hy)) hw5 (uh HSr) (uh HFt) hlen' ((uh HTb).k hk50)
  rw [uh HD] at hew
  refine ChL.call rfl Tryz.call45 [.agg (wayC k D cr en pl true).toArray] rfl hew ?_
  rintro e w6 ⟨t6,rfl,ht6,k6⟩
  have hk6:=hd5.trans k6 (by simp)
  refine ⟨_,rfl,hk6,?_⟩
  simp only [Act.put,sa1,sa2,sa3]
  have hk60:=(uh HK2).trans hk6 (by simp)
  obtain ⟨gs,_,_,htr⟩:=hw5.cr
  have hli:=xa7p S k m q L (fun i=>delP q (dnL (hsZ k) q L i)) cr en pl true t6 w6 hk (fun y hy=>hS y (Nat.le_trans hk60.size hy)) (hw5.old k6) (fun i hi=>⟨ch_del _ _ _ _ _,xb6s,del_ne (htr i hi).2⟩) ht6 ((uh HTb).k hk60)
  rw [uh HD] at hli
  refine ChL.call rfl Tryz.call44 [.agg (wayC k D cr en pl true).toArray,t6] rfl hli ?_
  rintro e w7 ⟨t7,rfl,ht7,k7⟩
  have hk7:=hk6.trans k7 (by simp)
  refine ⟨_,rfl,hk7,?_⟩
  simp only [Act.put,sa1,sa2,sa3]
  have hk70:=hk60.trans k7 (by simp)
  have hone:t7.cells = #[t7]:=xa3x ht7
  refine ChL.op (.agg #[.int .i64 k,.int .i64 y,t7]) (xa5u w7 ⟨rfl,rfl,rfl,rfl⟩ hone) hk7 (by simp only [Act.put,sa1,sa2,sa3]; rfl) ?_
  have hka:=hk7.alloc (.cells #[.int .i64 k,.int .i64 y,t7] 86)
  have hkz:=hk70.alloc (.cells #[.int .i64 k,.int .i64 y,t7] 86)
  refine ChL.op (.pointer (some ⟨w7.heap.size,0,none⟩)) (by go_simp) hka (by simp only [Act.put,sa1,sa2,sa3]; rfl) ?_
  refine ChL.op (.pointer (some ⟨w7.heap.size,0,none⟩)) (by go_simp) hka (by simp only [Act.put,sa1,sa2,sa3]; rfl) ?_
  refine ChL.op (.bool true) (by go_simp) hka (by simp only [Act.put,sa1,sa2,sa3]; rfl) ?_
  refine ChL.op (.int .i64 0) (by go_simp) hka (by simp only [Act.put,sa1,sa2,sa3]; rfl) (ChL.fin ?_)
  have hfin:MapAt S k (w7.alloc (.cells #[.int .i64 k,.int .i64 y,t7] 86)) (.pointer (some ⟨w7.heap.size,0,none⟩)) (delP q L) :=
   ⟨hk,(uh HSr).del q,(uh HFt).sub (fun x hx=>((xb2b x).1 hx).1),by omega,w7.heap.size,t7,rfl,hS _ hk70.size,by rw [hy]; exact heap_alloc_new _ _,ht7.agr (Agr.nil ((Kept.refl [] w7).alloc _))⟩
  go_wp2
  go_ret3
  exact ⟨.pointer (some ⟨w7.heap.size,0,none⟩),by rw [← uh HFd]; rfl,hfin,hkz⟩
theorem get_no {q:List Nat} {L:Prs} (h:fnd q L = false):getP q L = none:=by
 unfold fnd at h
 cases hg:getP q L with
 | none=>rfl
 | some v=>rw [hg] at h; simp at h
theorem xb9c {H:Hs} {q:List Nat} {L:Prs} (hs:Srt H L) (hr:Rise L) (h:fnd q L = true):plc q L < L.length∧getP q L = some (L.getD (plc q L) ([],[])).2:=by
 obtain ⟨h1,h2⟩:=(fnd_at hr).1 h
 refine ⟨h1,(xa6b hs).2 ?_⟩
 have h3:=List.getElem_mem h1
 rw [List.getD_eq_getElem?_getD,List.getElem?_eq_getElem h1,Option.getD_some] at h2 ⊢
 generalize L[plc q L] = x at h2 h3 ⊢
 have e:(q,x.2) = x:=by rw [← h2]
 rw [e]; exact h3
set_option maxHeartbeats 2000000 in
theorem xb0l (S:Nat→Prop) (k:Nat) (mv kv:Value) (L:Prs) (q:List Nat) (w:World) (hM:MapAt S k w mv L) (hku:Rd w kv q) (hq:q.length≤64) (hT:Tabs w) :
  Calls Tryz.prog 17 #[mv,kv] w fun e w'=>∃ v',e = .returned (.tuple #[v',.bool (fnd q L),.int .i64 0])∧Rd w' v' ((getP q L).getD [])∧(∀ x∈blk v',w.heap.size≤x)∧Kept [] w w':=by
 have HM:=hide hM
 obtain ⟨hk,hs,hfit,hlen,g,tv,rfl,hSg,hh,htop⟩:=hM
 have hH:=hsZ_ok hk
 have HKU:=hide hku
 have HTb:=hide hT
 have HSr:=hide hs
 clear hh htop hT hs hku hfit hSg
 go_enter Tryz.func17,Tryz.ntmps17
 go_wp2_with fail
 refine Calls.mono (xa1x S k _ kv L q w (uh HM) (uh HKU) hq (uh HTb)) ?_
 rintro e w1 ⟨m,cr,en,pl,fd,rfl,hway,k1⟩
 have hfd:=hway.fd
 have HFd:=hide hfd
 have hon:=hway.cells
 have hend:=hway.en
 have hgt:=dn_get (H:=hsZ k) (q:=q) (L:=L) m
 have hMs:=dn_srt (q:=q) (uh HSr) m
 have hDl:((hsZ k).kd q).length = 32:=(hH.dg q).1
 obtain ⟨D,hD⟩:∃ D,(hsZ k).kd q = D:=⟨_,rfl⟩
 rw [hD] at hDl ⊢
 clear hD hfd hway
 generalize dnL (hsZ k) q L m = M at hend hgt hMs
 have hws:((wayC k D cr en pl fd).toArray).size = 37:=by rw [List.size_toArray,xa0v hDl]
 have HZ1:=hide (heap_alloc_new w1 (.cells zwy 93))
 have HN2:=hide (setRow_heap _ _ _ (wayC k D cr en pl fd).toArray _ _ (uh HZ1))
 have HK12:=hide ((Kept.refl [] w1).alloc (.cells zwy 93) |>.setRow (g:=w1.heap.size) (Or.inr (Nat.le_refl _)) (wayC k D cr en pl fd).toArray)
 have HK2:=hide (k1.trans (uh HK12) (by simp))
 have hw1:=k1.size
 clear k1
 obtain ⟨W2,hW2⟩:∃ W2,(w1.alloc (.cells zwy 93)).setRow w1.heap.size (wayC k D cr en pl fd).toArray = W2:=⟨_,rfl⟩
 rw [hW2] at HN2 HK12 HK2
 obtain ⟨cw0,cw1,cw2,cw3,cw4,cw5⟩:=xa0s (uh HN2) hDl
 have HW3:=hide cw3
 have HW4:=hide cw4
 clear cw0 cw1 cw2 cw3 cw4
 cases fd with
 | false =>
  go_wp2_with (rw [xa0z]; refine wpList_store_row rfl 93 (.tmp 7) (.tmp 13) rfl w1.heap.size (wayC k D cr en pl false).toArray rfl rfl _ zwy (uh HZ1) (by rw [hws]; exact Tryz.size_way) (by rw [hws]; rfl) (xa0r _ _ hon.1 hon.2) ?_; rw [hW2]; simp only [Act.put])
  go_ret3
  refine ⟨.slice none 0 0,by rw [← uh HFd]; rfl,?_,by simp [blk],uh HK2⟩
  rw [get_no (uh HFd).symm]
  exact Rd.nil _
 | true =>
  rcases hend with ⟨_,_,_,hx⟩ | ⟨hsg,g1,rfl,hb,hpl,hfd⟩
  ·cases hx
  have hris:=xa5o hMs hsg
  obtain ⟨hp1,hp2⟩:=xb9c hMs hris hfd.symm
  rw [← hpl] at hp1 hp2
  obtain ⟨pv,hSg1,hh1,hne,hkr⟩:=hb
  have hkd:((hsZ k).kd (M.headD ([],[])).1).length = 32:=xa0e _ _
  have c1:=(bk_row hh1 hkd).2.1
  obtain ⟨b,off,cap,l,rfl,hc1,hc2,hSb,hll,hcells,hrds⟩:=hkr
  have hcv:=(hcells pl (by omega)).2
  have hrv:=(hrds pl (by omega)).now.2
  have hgl:(getP q L).getD [] = (M.getD pl ([],[])).2:=by rw [← hgt,hp2]; rfl
  have HGL:=hide hgl
  generalize (M.getD pl ([],[])).2 = val at hrv hgl HGL
  generalize (l.getD pl (undef,undef)).2 = vz at hcv hrv
  obtain ⟨za,zn,zc,rfl,_⟩:=id hrv
  have hpn:pl < l.length:=by omega
  have hpi:(pl:Int) < (l.length:Int):=by omega
  generalize l.length = n at hc1 hpn hpi c1
  have HC1:=hide ((uh HK12).cell c1 (by simp))
  have HCV:=hide ((uh HK12).cell hcv (by simp))
  have HRV:=hide (hrv.old (uh HK12) (by simp))
  clear hcells hrds hcv hrv c1 hh1 hp2 hgt hgl hfd hpl hsg hris hMs hne
  go_upto_region 4 with (rw [xa0z]; refine wpList_store_row rfl 93 (.tmp 7) (.tmp 13) rfl w1.heap.size (wayC k D cr (.pointer (some ⟨g1,0,none⟩)) pl true).toArray rfl rfl _ zwy (uh HZ1) (by rw [hws]; exact Tryz.size_way) (by rw [hws]; rfl) (xa0r _ _ hon.1 hon.2) ?_; rw [hW2]; simp only [Act.put])
  refine ln_gt (by kernel_rfl) (by kernel_rfl) rfl (fun W=>Kept [] W2 W) (Kept.refl _ W2).drew ?_
  refine LinY.rd (.pointer (some ⟨w1.heap.size,34,none⟩)) (fun W hW=>by go_simp) (by simp only [Act.put,sa1,sa2,sa3]; rfl) ?_
  refine LinY.rd (.pointer (some ⟨g1,0,none⟩)) (fun W hW=>by have h9:=hW.cell (uh HW3) (by simp); go_simp) (by simp only [Act.put,sa1,sa2,sa3]; rfl) ?_
  refine LinY.rd (.pointer (some ⟨g1,0,none⟩)) (fun W hW=>by go_simp) (by simp only [Act.put,sa1,sa2,sa3]; rfl) ?_
  refine LinY.rd (.pointer (some ⟨g1,32,none⟩)) (fun W hW=>by go_simp) (by simp only [Act.put,sa1,sa2,sa3]; rfl) ?_
  refine LinY.rd (.slice (some ⟨b,off,none⟩) n cap) (fun W hW=>by have h9:=hW.cell (uh HC1) (by simp); go_simp) (by simp only [Act.put,sa1,sa2,sa3]; rfl) ?_
  refine LinY.rd (.pointer (some ⟨w1.heap.size,35,none⟩)) (fun W hW=>by go_simp) (by simp only [Act.put,sa1,sa2,sa3]; rfl) ?_
  refine LinY.rd (.int .i64 pl) (fun W hW=>by have h9:=hW.cell (uh HW4) (by simp); go_simp) (by simp only [Act.put,sa1,sa2,sa3]; rfl) ?_
  refine LinY.rd (.pointer (some ⟨b,off + pl * 2,none⟩)) (fun W hW=>by go_simp) (by simp only [Act.put,sa1,sa2,sa3]; rfl) ?_
  refine LinY.rd (.pointer (some ⟨b,off + pl * 2 + 1,none⟩)) (fun W hW=>by go_simp) (by simp only [Act.put,sa1,sa2,sa3]; rfl) ?_
  refine LinY.rd (.slice za zn zc) (fun W hW=>by have h9:=hW.cell (uh HCV) (by simp); go_simp) (by simp only [Act.put,sa1,sa2,sa3]; rfl) ?_
  have hd2:=(Kept.refl [] W2).drew
  refine ChL.call rfl Tryz.call48 [.slice za zn zc] rfl (xa1l _ val W2.drew ((uh HRV).old hd2 (by simp))) ?_
  rintro e w3 ⟨⟨vz,rfl,hvz,hvb⟩,k3⟩
  have hk3:=hd2.trans k3 (by simp)
  have hk30:=(uh HK2).trans hk3 (by simp)
  have hk20:=(uh HK2).trans hd2 (by simp)
  obtain ⟨ya,yn,yc,rfl,_⟩:=id hvz
  refine ⟨_,rfl,hk3,?_⟩
  simp only [Act.put,sa1,sa2,sa3]
  refine ChL.op (.slice ya yn yc) (by go_simp) hk3 (by simp only [Act.put,sa1,sa2,sa3]; rfl) ?_
  refine ChL.op (.bool true) (by go_simp) hk3 (by simp only [Act.put,sa1,sa2,sa3]; rfl) ?_
  refine ChL.op (.int .i64 0) (by go_simp) hk3 (by simp only [Act.put,sa1,sa2,sa3]; rfl) (ChL.fin ?_)
  go_wp2
  go_ret3
  exact ⟨.slice ya yn yc,by rw [← uh HFd]; rfl,by rw [uh HGL]; exact hvz,fun x hx=>Nat.le_trans hk20.size (hvb x hx),hk30⟩
theorem xa7u (g:Nat) (kv:Value) (q:List Nat) (w:World) (hku:Rd w kv q) (hq:64 < q.length) :
  Calls Tryz.prog 43 #[.pointer (some ⟨g,0,none⟩),kv] w fun e w'=>e = .returned (.tuple #[.agg zwy,.int .i64 2])∧Kept [] w w':=by
 obtain ⟨ua,un,uc,rfl,hul,_⟩:=id hku
 have h1:(64:Int) < un:=by omega
 have h2:(un:Int) > 64:=by omega
 clear hku hul hq
 have HZ0:=hide (heap_alloc_new w (.cells zwy 93))
 have HK0:=hide ((Kept.refl [] w).alloc (.cells zwy 93))
 go_enter Tryz.func43,Tryz.ntmps43
 go_wp2_with (first
  | (refine xa0p rfl 93 _ rfl zwy (by simp only [List.map_toArray,List.map_cons,List.map_nil]; exact xa6k) ?_)
  | (rw [xa0z]; refine wpList_store_row rfl 93 _ _ rfl w.heap.size zwy rfl rfl _ zwy (uh HZ0) (by rw [xa2a]; exact Tryz.size_way) rfl (xa0r _ _ rfl rfl) ?_))
 refine bodyPost_ret (v:=.tuple #[.agg zwy,.int .i64 2]) ?_ rfl ⟨rfl,(uh HK0).setRow (Or.inr (Nat.le_refl _)) _⟩
 exact xa0g rfl _ _ w.heap.size _ zwy (0,0) _ rfl (setRow_heap _ _ _ _ _ _ (uh HZ0)) Tryz.underlying93 rfl (by rw [xa2a]; exact Tryz.size_way) _ rfl
theorem xa2p (kv:Value) (w:World) :
  Calls Tryz.prog 43 #[.pointer none,kv] w fun e w'=>e = .returned (.tuple #[.agg zwy,.int .i64 5])∧Kept [] w w':=by
 have HZ0:=hide (heap_alloc_new w (.cells zwy 93))
 have HK0:=hide ((Kept.refl [] w).alloc (.cells zwy 93))
 go_enter Tryz.func43,Tryz.ntmps43
 go_wp2_with (first
  | (refine xa0p rfl 93 _ rfl zwy (by simp only [List.map_toArray,List.map_cons,List.map_nil]; exact xa6k) ?_)
  | (rw [xa0z]; refine wpList_store_row rfl 93 _ _ rfl w.heap.size zwy rfl rfl _ zwy (uh HZ0) (by rw [xa2a]; exact Tryz.size_way) rfl (xa0r _ _ rfl rfl) ?_))
 refine bodyPost_ret (v:=.tuple #[.agg zwy,.int .i64 5]) ?_ rfl ⟨rfl,(uh HK0).setRow (Or.inr (Nat.le_refl _)) _⟩
 exact xa0g rfl _ _ w.heap.size _ zwy (0,0) _ rfl (setRow_heap _ _ _ _ _ _ (uh HZ0)) Tryz.underlying93 rfl (by rw [xa2a]; exact Tryz.size_way) _ rfl
theorem xa7z (kv:Value) (w:World) :
  Calls Tryz.prog 17 #[.pointer none,kv] w fun e w'=>e = .returned (.tuple #[.slice none 0 0,.bool false,.int .i64 5])∧Kept [] w w':=by
 go_enter Tryz.func17,Tryz.ntmps17
 go_wp2_with fail
 refine Calls.mono (xa2p kv w) ?_
 rintro e w1 ⟨rfl,k1⟩
 have HZ1:=hide (heap_alloc_new w1 (.cells zwy 93))
 have HK1:=hide ((k1.alloc (.cells zwy 93)).setRow (g:=w1.heap.size) (Or.inr k1.size) zwy)
 clear k1
 go_wp2_with (rw [xa0z]; refine wpList_store_row rfl 93 (.tmp 7) (.tmp 13) rfl w1.heap.size zwy rfl rfl _ zwy (uh HZ1) (by rw [xa2a]; exact Tryz.size_way) rfl (xa0r _ _ rfl rfl) ?_; simp only [Act.put])
 go_ret3
 exact ⟨rfl,uh HK1⟩
theorem xb6w (g:Nat) (kv:Value) (vv:Value) (q:List Nat) (w:World) (hku:Rd w kv q) (hq:64 < q.length) :
  Calls Tryz.prog 16 #[.pointer (some ⟨g,0,none⟩),kv,vv] w fun e w'=>e = .returned (.tuple #[.pointer none,.int .i64 2])∧Kept [] w w':=by
 go_enter Tryz.func16,Tryz.ntmps16
 go_wp2_with fail
 refine Calls.mono (xa7u g kv q w hku hq) ?_
 rintro e w1 ⟨rfl,k1⟩
 have HZ1:=hide (heap_alloc_new w1 (.cells zwy 93))
 have HK1:=hide ((k1.alloc (.cells zwy 93)).setRow (g:=w1.heap.size) (Or.inr k1.size) zwy)
 clear k1
 go_wp2_with (rw [xa0z]; refine wpList_store_row rfl 93 (.tmp 8) (.tmp 16) rfl w1.heap.size zwy rfl rfl _ zwy (uh HZ1) (by rw [xa2a]; exact Tryz.size_way) rfl (xa0r _ _ rfl rfl) ?_; simp only [Act.put])
 go_ret2
 exact ⟨rfl,uh HK1⟩
theorem xb5s (kv:Value) (vv:Value) (w:World) :
  Calls Tryz.prog 16 #[.pointer none,kv,vv] w fun e w'=>e = .returned (.tuple #[.pointer none,.int .i64 5])∧Kept [] w w':=by
 go_enter Tryz.func16,Tryz.ntmps16
 go_wp2_with fail
 refine Calls.mono (xa2p kv w) ?_
 rintro e w1 ⟨rfl,k1⟩
 have HZ1:=hide (heap_alloc_new w1 (.cells zwy 93))
 have HK1:=hide ((k1.alloc (.cells zwy 93)).setRow (g:=w1.heap.size) (Or.inr k1.size) zwy)
 clear k1
 go_wp2_with (rw [xa0z]; refine wpList_store_row rfl 93 (.tmp 8) (.tmp 16) rfl w1.heap.size zwy rfl rfl _ zwy (uh HZ1) (by rw [xa2a]; exact Tryz.size_way) rfl (xa0r _ _ rfl rfl) ?_; simp only [Act.put])
 go_ret2
 exact ⟨rfl,uh HK1⟩
theorem xa6u (kv:Value) (w:World) :
  Calls Tryz.prog 14 #[.pointer none,kv] w fun e w'=>e = .returned (.tuple #[.pointer none,.bool false,.int .i64 5])∧Kept [] w w':=by
 go_enter Tryz.func14,Tryz.ntmps14
 go_wp2_with fail
 refine Calls.mono (xa2p kv w) ?_
 rintro e w1 ⟨rfl,k1⟩
 have HZ1:=hide (heap_alloc_new w1 (.cells zwy 93))
 have HK1:=hide ((k1.alloc (.cells zwy 93)).setRow (g:=w1.heap.size) (Or.inr k1.size) zwy)
 clear k1
 go_wp2_with (rw [xa0z]; refine wpList_store_row rfl 93 (.tmp 7) (.tmp 13) rfl w1.heap.size zwy rfl rfl _ zwy (uh HZ1) (by rw [xa2a]; exact Tryz.size_way) rfl (xa0r _ _ rfl rfl) ?_; simp only [Act.put])
 go_ret3
 exact ⟨rfl,uh HK1⟩
theorem xb0n (kv:Value) (w:World) :
  Calls Tryz.prog 15 #[.pointer none,kv] w fun e w'=>e = .returned (.tuple #[.slice none 0 0,.slice none 0 0,.int .i64 5])∧Kept [] w w':=by
 go_enter Tryz.func15,Tryz.ntmps15
 go_wp2_with fail
 refine Calls.mono (xa2p kv w) ?_
 rintro e w1 ⟨rfl,k1⟩
 have HZ1:=hide (heap_alloc_new w1 (.cells zwy 93))
 have HK1:=hide ((k1.alloc (.cells zwy 93)).setRow (g:=w1.heap.size) (Or.inr k1.size) zwy)
 clear k1
 go_wp2_with (rw [xa0z]; refine wpList_store_row rfl 93 (.tmp 7) (.tmp 16) rfl w1.heap.size zwy rfl rfl _ zwy (uh HZ1) (by rw [xa2a]; exact Tryz.size_way) rfl (xa0r _ _ rfl rfl) ?_; simp only [Act.put])
 go_ret3
 exact ⟨rfl,uh HK1⟩
set_option maxHeartbeats 2000000 in
theorem xb2x (S:Nat→Prop) (k:Nat) (mv kv vv:Value) (L:Prs) (q v:List Nat) (w:World) (hM:MapAt S k w mv L) (hku:Rd w kv q) (hvu:Rd w vv v) (hq:q.length≤64) (hv:256 < v.length) (hT:Tabs w) :
  Calls Tryz.prog 16 #[mv,kv,vv] w fun e w'=>e = .returned (.tuple #[.pointer none,.int .i64 2])∧Kept [] w w':=by
 obtain ⟨va,vn,vc,rfl,hvl,_⟩:=id hvu
 have hu1:(256:Int) < vn:=by omega
 have hu2:(vn:Int) > 256:=by omega
 clear hvl hv
 go_enter Tryz.func16,Tryz.ntmps16
 go_wp2_with fail
 refine Calls.mono (xa1x S k _ kv L q w hM hku hq hT) ?_
 rintro e w1 ⟨m,cr,en,pl,fd,rfl,hway,k1⟩
 have hon:=hway.cells
 have hDl:((hsZ k).kd q).length = 32:=xa0e _ _
 generalize (hsZ k).kd q = D at hDl ⊢
 have hws:((wayC k D cr en pl fd).toArray).size = 37:=by rw [List.size_toArray,xa0v hDl]
 have HZ1:=hide (heap_alloc_new w1 (.cells zwy 93))
 have HK1:=hide ((k1.alloc (.cells zwy 93)).setRow (g:=w1.heap.size) (Or.inr k1.size) (wayC k D cr en pl fd).toArray)
 clear k1 hway
 go_wp2_with (rw [xa0z]; refine wpList_store_row rfl 93 (.tmp 8) (.tmp 16) rfl w1.heap.size (wayC k D cr en pl fd).toArray rfl rfl _ zwy (uh HZ1) (by rw [hws]; exact Tryz.size_way) (by rw [hws]; rfl) (xa0r _ _ hon.1 hon.2) ?_; simp only [Act.put])
 go_ret2
 exact ⟨rfl,uh HK1⟩
theorem xa5m (S:Nat→Prop) (k:Nat) (mv:Value) (L:Prs) (w:World) (hM:MapAt S k w mv L) :
  Calls Tryz.prog 10 #[mv] w fun e w'=>e = .returned (.int .i64 (L.length:Nat))∧Kept [] w w':=by
 obtain ⟨hk,hs,hfit,hlen,g,tv,rfl,hSg,hh,htop⟩:=hM
 have c1:w.cell? ⟨g,1,none⟩ = some (.int .i64 (L.length:Nat)):=by rw [cell_of_row _ _ _ _ _ _ hh]; rfl
 clear hh htop hs hfit
 go_enter Tryz.func10,Tryz.ntmps10
 go_wp2
 go_ret
 exact ⟨rfl,Kept.refl _ _⟩
theorem xb6d (S:Nat→Prop) (k:Nat) (mv:Value) (L:Prs) (w:World) (hM:MapAt S k w mv L) :
  Calls Tryz.prog 19 #[mv] w fun e w'=>e = .returned (.int .i64 k)∧Kept [] w w':=by
 obtain ⟨hk,hs,hfit,hlen,g,tv,rfl,hSg,hh,htop⟩:=hM
 have c1:w.cell? ⟨g,0,none⟩ = some (.int .i64 k):=by rw [cell_of_row _ _ _ _ _ _ hh]; rfl
 clear hh htop hs hfit
 go_enter Tryz.func19,Tryz.ntmps19
 go_wp2
 go_ret
 exact ⟨rfl,Kept.refl _ _⟩
theorem xb1z (k:Int):Tryz.prog.built 86 [(0,.int .i64 k)] = some #[.int .i64 k,.int .i64 0,.nilIface]:=by kernel_rfl
theorem xb5h (S:Nat→Prop) (k:Nat) (w:World) (hk:1≤k∧k≤32) (hS:∀ y,w.heap.size≤y→S y) :
  Calls Tryz.prog 9 #[.int .i64 k] w fun e w'=>∃ m',e = .returned (.tuple #[m',.int .i64 0])∧MapAt S k w' m' []∧Kept [] w w':=by
 have h1:¬ (k:Int) < 1:=by omega
 have h2:¬ (32:Int) < k:=by omega
 have h3:¬ (k:Int) > 32:=by omega
 go_enter Tryz.func9,Tryz.ntmps9
 go_wp2_with (refine xa0p rfl 86 _ rfl #[.int .i64 k,.int .i64 0,.nilIface] (by simp only [List.map_toArray,List.map_cons,List.map_nil]; exact xb1z k) ?_)
 go_ret2
 exact ⟨_,rfl,⟨hk,List.Pairwise.nil,fun p hp=>by simp at hp,by simp,w.heap.size,.nilIface,rfl,hS _ (Nat.le_refl _),heap_alloc_new w _,Or.inl ⟨rfl,rfl⟩⟩,(Kept.refl [] w).alloc _⟩
theorem xb0m (z:Int) (w:World) (hz:widthB z = false) :
  Calls Tryz.prog 9 #[.int .i64 z] w fun e w'=>e = .returned (.tuple #[.pointer none,.int .i64 1])∧Kept [] w w':=by
 have h0:¬ (1≤z∧z≤32):=by simpa [widthB] using hz
 by_cases h1:z < 1
 ·go_enter Tryz.func9,Tryz.ntmps9
  go_wp2
  go_ret2
  exact ⟨rfl,Kept.refl _ _⟩
 ·have h2:z > 32:=by omega
  have h3:(32:Int) < z:=by omega
  clear h0
  go_enter Tryz.func9,Tryz.ntmps9
  go_wp2
  go_ret2
  exact ⟨rfl,Kept.refl _ _⟩
def rootP (k:Nat) (L:Prs):List Nat:=if L.isEmpty then cutL k (hash [5]) else nodP (hsZ k) 64 L
set_option maxHeartbeats 2000000 in
theorem xa3k (S:Nat→Prop) (k:Nat) (mv:Value) (L:Prs) (w:World) (hM:MapAt S k w mv L) (hT:Tabs w) :
  Calls Tryz.prog 11 #[mv] w fun e w'=>e = .returned (.agg (brow (rootP k L)))∧Kept [] w w':=by
 obtain ⟨hk,hs,hfit,hlen,g,tv,rfl,hSg,hh,htop⟩:=hM
 have c0:w.cell? ⟨g,0,none⟩ = some (.int .i64 k):=by rw [cell_of_row _ _ _ _ _ _ hh]; rfl
 have c2:w.cell? ⟨g,2,none⟩ = some tv:=by rw [cell_of_row _ _ _ _ _ _ hh]; rfl
 have HZ0:=hide (heap_alloc_new w (.cells (zb 32) 30))
 have HK0:=hide ((Kept.refl [] w).alloc (.cells (zb 32) 30))
 have c0a:∀ o,(w.alloc o).cell? ⟨g,0,none⟩ = some (.int .i64 k):=fun o=>((Kept.refl [] w).alloc o).cell c0 (by simp)
 have c2a:∀ o,(w.alloc o).cell? ⟨g,2,none⟩ = some tv:=fun o=>((Kept.refl [] w).alloc o).cell c2 (by simp)
 have HTb:=hide hT
 have he1:=en_bk
 have he2:=en_br
 have he3:=en_nil
 have hg1:=eg_bk
 have hg2:=eg_br
 rcases htop with ⟨rfl,rfl⟩ | ht
 ·obtain ⟨O,hO⟩:∃ O,cutL k (hash [5]) = O:=⟨_,rfl⟩
  have hOl:O.length = 32:=by rw [← hO]; exact xa0w k (hash [5]) (by omega) (xa1f [5])
  have hR:rootP k [] = O:=hO
  rw [hR]
  have HO:=hide hO
  clear hO hR hh hT c0 c2
  go_enter Tryz.func11,Tryz.ntmps11
  go_wp2_with fail
  rw [zb32]
  refine Calls.mono (xb3i k _ (by omega) (wide_k hk) ((uh HTb).k (uh HK0))) ?_
  rintro e w1 ⟨rfl,k1⟩
  rw [Int.toNat_natCast,uh HO]
  have HK1:=hide ((uh HK0).trans k1 (by simp))
  have HZ1:=hide (k1.heap (uh HZ0) (by simp))
  have hlt:=lt_of_block (uh HZ1)
  clear k1 c0a c2a
  have HN1:=hide (heap_alloc_new w1 (.cells (zb 32) 30))
  have HN2:=hide (setRow_heap _ _ _ (brow O) _ _ (uh HN1))
  have HK12:=hide ((Kept.refl [] w1).alloc (.cells (zb 32) 30) |>.setRow (g:=w1.heap.size) (Or.inr (Nat.le_refl _)) (brow O))
  have HZ2:=hide ((uh HK12).heap (uh HZ1) (by simp))
  have HK2:=hide ((uh HK1).trans (uh HK12) (by simp))
  go_wp2_with (first
   | (rw [zb32]; refine wpList_store_row rfl 30 (.tmp 3) (.tmp 21) rfl w1.heap.size (brow O) rfl rfl _ (zb 32) (uh HN1) (by rw [xa0a,hOl]; exact Tryz.size_dig) (by rw [xa0i,xa0a,hOl]) (xa0f _) ?_)
   | (refine wpList_load_row rfl 30 (.tmp 3) rfl w1.heap.size rfl 30 (brow O) (0,0) _ (uh HN2) Tryz.underlying30 rfl (by rw [xa0a,hOl]; exact Tryz.size_dig) ?_)
   | (refine wpList_store_row rfl 30 (.tmp 2) (.tmp 23) rfl w.heap.size (brow O) rfl rfl _ (zb 32) (uh HZ2) (by rw [xa0a,hOl]; exact Tryz.size_dig) (by rw [xa0i,xa0a,hOl]) (xa0f _) ?_))
  refine bodyPost_ret (v:=.agg (brow O)) ?_ rfl ⟨rfl,(uh HK2).setRow (Or.inr (Nat.le_refl _)) _⟩
  exact results_cell_row rfl _ _ w.heap.size _ (brow O) (0,0) _ rfl (setRow_heap _ _ _ _ _ _ (uh HZ2)) Tryz.underlying30 rfl (by rw [xa0a,hOl]; exact Tryz.size_dig)
 ·have hne:=ht.ne
  have hR:rootP k L = nodP (hsZ k) 64 L:=by
   unfold rootP
   cases L with
   | nil=>exact absurd rfl hne
   | cons y L=>rfl
  rw [hR]
  have hO2:=(nod_dg k 64 L).1
  have hown:=ht.own
  generalize nodP (hsZ k) 64 L = O at hown hO2
  clear hR hh hT c0 c2 ht hne
  rcases hown with ⟨g1,D,pv,hs1,rfl,hD,hh1⟩ | ⟨g1,x,kv,hs1,rfl,hh1⟩
  ·have HH:=hide (((Kept.refl [] w).alloc (.cells (zb 32) 30)).heap hh1 (by simp))
   clear hh1 hs1
   go_enter Tryz.func11,Tryz.ntmps11
   go_wp2_with fail
   rw [zb32]
   refine Calls.mono (xb1w g1 D O pv _ (uh HH) hD hO2) ?_
   rintro e w1 ⟨rfl,k1⟩
   have HK1:=hide ((uh HK0).trans k1 (by simp))
   have HZ1:=hide (k1.heap (uh HZ0) (by simp))
   clear k1 c0a c2a
   go_wp2_with (refine wpList_store_row rfl 30 (.tmp 2) (.tmp 28) rfl w.heap.size (brow O) rfl rfl _ (zb 32) (uh HZ1) (by rw [xa0a,hO2]; exact Tryz.size_dig) (by rw [xa0i,xa0a,hO2]) (xa0f _) ?_)
   refine bodyPost_ret (v:=.agg (brow O)) ?_ rfl ⟨rfl,(uh HK1).setRow (Or.inr (Nat.le_refl _)) _⟩
   exact results_cell_row rfl _ _ w.heap.size _ (brow O) (0,0) _ rfl (setRow_heap _ _ _ _ _ _ (uh HZ1)) Tryz.underlying30 rfl (by rw [xa0a,hO2]; exact Tryz.size_dig)
  ·have HH:=hide (((Kept.refl [] w).alloc (.cells (zb 32) 30)).heap hh1 (by simp))
   clear hh1 hs1
   go_enter Tryz.func11,Tryz.ntmps11
   go_wp2_with fail
   rw [zb32]
   refine Calls.mono (xb0r g1 x O kv _ (uh HH) hO2) ?_
   rintro e w1 ⟨rfl,k1⟩
   have HK1:=hide ((uh HK0).trans k1 (by simp))
   have HZ1:=hide (k1.heap (uh HZ0) (by simp))
   clear k1 c0a c2a
   go_wp2_with (refine wpList_store_row rfl 30 (.tmp 2) (.tmp 28) rfl w.heap.size (brow O) rfl rfl _ (zb 32) (uh HZ1) (by rw [xa0a,hO2]; exact Tryz.size_dig) (by rw [xa0i,xa0a,hO2]) (xa0f _) ?_)
   refine bodyPost_ret (v:=.agg (brow O)) ?_ rfl ⟨rfl,(uh HK1).setRow (Or.inr (Nat.le_refl _)) _⟩
   exact results_cell_row rfl _ _ w.heap.size _ (brow O) (0,0) _ rfl (setRow_heap _ _ _ _ _ _ (uh HZ1)) Tryz.underlying30 rfl (by rw [xa0a,hO2]; exact Tryz.size_dig)
end
section
open Go Go.RowKit Go.BigFrame
theorem ln_ly {P:Program} {Q:Exit→Act→World→Prop} {id:Nat} {o0 o1 o2 o3 o4 o5 o6 o7 o8 o9 o10:Oper} {a:Act} {w:World} (hm:P.follows .mixedOrders = true) (hb:linB #[o0,o1,o2,o3,o4,o5,o6,o7,o8,o9,o10] [0,1,2,4,5] [3,6,7,8,9,10] [] = true) (hg:([o0,o1,o2,o4,o5]++([o3,o6,o7,o8,o9,o10]++[])).all (fun o=>o.guard.isNone) = true) (S:World→Prop) (hS:S w.drew)
  (h:LinY P S (ChL P Q S (Q .normal) [o3,o6,o7,o8,o9,o10]) [o0,o1,o2,o4,o5] a w.drew):(Code.region id #[o0,o1,o2,o3,o4,o5,o6,o7,o8,o9,o10] true).wp P Q a w:=xa1b (R:=[0,1,2,4,5]) (C:=[3,6,7,8,9,10]) (rs:=[o0,o1,o2,o4,o5]) (cs:=[o3,o6,o7,o8,o9,o10]) hm hb rfl rfl hg hS h
end
section
open Go.RowKit Go.BigFrame
theorem ChL.app {Q:Exit→Act→World→Prop} {S:World→Prop} {F:Act→World→Prop} {cs:List Oper} {o:Oper} {a:Act} (T e:Nat) (s x:Operand)
  (ho:o.op = .call { callee:=.builtin .append,args:=#[s,x],argTypes:=#[T,T] }) (hty:o.type = T)
  (w:World) (base:Nat) (z:Value) (sz bytes:Nat) (hu:Tryz.prog.underlying T = some (.slice e)) (hinf:(Tryz.prog.info? e).map (fun i=>(i.zero,i.size,i.bytes)) = some (some z,sz,bytes)) (hzs:z.cells.size = sz) (hs0:0 < sz)
  (v:Value) (n:Nat) (xs:List Value) (h:w.ownsRow base e sz v n xs) (ao:Option Addr) (m c:Nat) (rows:List (List Value)) (hr:RdC sz w (.slice ao m c) rows) (hs:∀ r∈rows,r.length = sz) (hone:∀ r∈rows,∀ u∈r,u.oneCell' = true)
  (hl:(n + m) * bytes≤140737488355328) (hl2:n + m≤1000000000000) (hb:base≤w.heap.size) (he:a.eval s = v) (hx:a.eval x = .slice ao m c)
  (hK:∀ ao' cap' w1,Hid (w1.ownsRow base e sz (.slice ao' (n + m) cap') (n + m) (xs++rows.flatten))→Hid (w.grownBy w1 v.ownBlock)→Hid ((Value.slice ao' (n + m) cap').ownBlock = v.ownBlock∨(Value.slice ao' (n + m) cap').ownBlock = some w.heap.size) →
   S w1∧ChL Tryz.prog Q S F cs (a.put o.dst (.slice ao' (n + m) cap')) w1):ChL Tryz.prog Q S F (o :: cs) a w:=by
 obtain ⟨ao',cap',w1,hrun,h2,h3,h4⟩:=appendC w base T e z sz bytes hu hinf hzs hs0 v n xs h ao m c rows hr hs hone hl hl2 hb
 unfold ChL
 unfold Oper.wp execOp
 simp only [ho,hty,resolve,invoke,builtin,Sem.run_bind,Sem.run_pure,Result.andThen_ok,List.map_toArray,List.map_cons,List.map_nil,he,hx,hrun]
 exact hK ao' cap' w1 h2 h3 h4
theorem PR.shrink {S:Nat→Prop} {W:World} {l:List VP} {L:Prs} (h:PR S W l L):PR (lowS S W) W l L:=⟨h.1,fun i hi=>(h.2 i hi).shrink⟩
theorem PR.mono {S T:Nat→Prop} {W:World} {l:List VP} {L:Prs} (hs:∀ x,T x→S x) (h:PR T W l L):PR S W l L:=⟨h.1,fun i hi=>(h.2 i hi).mono hs⟩
def tB (B:Nat) (v:Value):Nat→Prop:=fun y=>B≤y∧v.ownBlock≠some y
structure LayAt (B:Nat) (w:World) (v:Value) (l:List VP) (L:Prs):Prop where
 own:w.ownsRow B 46 2 v l.length (kvR l).flatten
 pr:PR (tB B v) w l L
theorem LayAt.agr {B:Nat} {w w':World} {v:Value} {l:List VP} {L:Prs} (h:LayAt B w v l L) (k:Kept [] w w'):LayAt B w' v l L:=⟨k.owns h.own (by simp),h.pr.agr (Agr.nil k)⟩
theorem LayAt.nil (B:Nat) (w:World):LayAt B w (.slice none 0 0) [] []:=⟨World.ownsRow_nil _ _ _ _,PR.nil _ _⟩
theorem LayAt.snoc {B:Nat} {w w1:World} {v v':Value} {l:List VP} {L:Prs} {kz vz:Value} {a b:List Nat} (h:LayAt B w v l L) (hk:Rd w kz a) (hv:Rd w vz b) (hkb:∀ x∈blk kz,tB B v x) (hvb:∀ x∈blk vz,tB B v x)
  (ho:w1.ownsRow B 46 2 v' (l.length + 1) ((kvR l).flatten++(kvR [(kz,vz)]).flatten)) (hg:w.grownBy w1 v.ownBlock) (hb:v'.ownBlock = v.ownBlock∨v'.ownBlock = some w.heap.size):LayAt B w1 v' (l++[(kz,vz)]) (L++[(a,b)]):=by
 have hp:=(h.pr.app (PR.one (Sty.rd hk hkb) (Sty.rd hv hvb))).shrink
 have hK:=(Kept.refl v.ownBlock.toList w).grown hg (by intro x hx; left; simp [hx])
 have ha:Agr (lowS (tB B v) w) w w1:=⟨hK.size,fun x hx hl=>hK.block x hl (by
  intro hm
  have:v.ownBlock = some x:=by simpa using hm
  exact hx.1.2 this)⟩
 refine ⟨?_,(hp.agr ha).mono (fun x hx=>⟨hx.1.1,?_⟩)⟩
 ·rw [List.length_append,xb1c,List.flatten_append]; exact ho
 ·rcases hb with e | e
  ·rw [e]; exact hx.1.2
  ·rw [e]; intro e2; have h2:=hx.2; injection e2 with e3; omega
theorem xb2y {o:Oper} {a:Act} (w:World) {x y:Operand} {X1 Y1:Option Addr} {X2 X3 Y2 Y3:Nat} (ho:o.op = .build 46 #[(0,x),(1,y)]∧a.eval x = .slice X1 X2 X3∧a.eval y = .slice Y1 Y2 Y3):(execOp a.eval o).run Tryz.prog w = .ok (.value (.agg #[.slice X1 X2 X3,.slice Y1 Y2 Y3])) w:=by
 obtain ⟨h0,h1,h2⟩:=ho
 have hb:=run_build (P:=Tryz.prog) w 46 #[(0,.slice X1 X2 X3),(1,.slice Y1 Y2 Y3)] _ (xa6z undef undef)
 unfold execOp
 simp only [h0,List.map_toArray,List.map_cons,List.map_nil,h1,h2,Sem.run_bind,hb,Result.andThen_ok]
 rfl
set_option maxHeartbeats 4000000 in
theorem xa7x (S:Nat→Prop) (k g:Nat) (E L:Prs) (lv:Value) (l:List VP) (W0 w:World) (hb:BkAt S (hsZ k) W0 g E) (hk0:Kept [] W0 w) (hl:LayAt W0.heap.size w lv l L) (hn:L.length + E.length≤1000000000) :
  Calls Tryz.prog 47 #[.pointer (some ⟨g,0,none⟩),lv] w fun e w'=>∃ v' l',e = .returned v'∧LayAt W0.heap.size w' v' l' (L++E)∧Kept [] W0 w':=by
 obtain ⟨pv,hSg,hh,hne,hkr⟩:=hb
 have hkd:((hsZ k).kd (E.headD ([],[])).1).length = 32:=xa0e _ _
 have c1:=(bk_row hh hkd).2.1
 obtain ⟨b,off,cap,le,rfl,hc1,hc2,hSb,hle,hcells,hrds⟩:=hkr
 have HC1:=hide c1
 have c1a:=hk0.cell c1 (by simp)
 have HCE:=hide hcells
 have HRD:=hide (fun i (hi:i < le.length)=>(hrds i hi).now)
 obtain ⟨n,hnn⟩:∃ n,le.length = n:=⟨_,rfl⟩
 rw [hnn] at hle hc1 HC1 HCE HRD c1a
 have HLE:=hide hle
 have HKW:=hide hk0
 have HLY:=hide hl
 rw [← hle] at hn
 clear hcells hrds hh hkd c1 hl hk0 hnn hle hne
 go_enter Tryz.func47,Tryz.ntmps47
 go_wp2
 go_loopw [1,12] (fun t1 t12 wr=>∃ (i:Nat) (v:Value) (lx:List VP),t12 = .int .i64 i∧t1 = v∧i≤n∧Hid (LayAt W0.heap.size wr v lx (L++E.take i))∧Hid (Kept [] W0 wr)) (fun _ t _=>n - (intOf t).toNat)
 case atStart=>exact ⟨0,lv,l,rfl,rfl,Nat.zero_le _,hide (by rw [List.take_zero,List.append_nil]; exact uh HLY),HKW⟩
 case round =>
  clear HLY HKW c1a
  obtain ⟨i,v,lx,rfl,rfl,hi,HLx,HKr⟩:=hrel
  by_cases hlt:i < n
  ·have hlt':(i:Int) < n:=by omega
   obtain ⟨hx1,hx2⟩:=uh HCE i hlt
   obtain ⟨hr1,hr2⟩:=uh HRD i hlt
   generalize (le.getD i (undef,undef)).1 = kx at hx1 hr1
   generalize (le.getD i (undef,undef)).2 = vx at hx2 hr2
   have hEi:E.take (i + 1) = E.take i++[E.getD i ([],[])]:=by
    have hiE:i < E.length:=by have:=uh HLE; omega
    rw [List.take_succ_eq_append_getElem hiE,List.getD_eq_getElem?_getD,List.getElem?_eq_getElem hiE]; rfl
   have HEi:=hide hEi
   clear hEi
   generalize E.getD i ([],[]) = ei at hr1 hr2 HEi
   obtain ⟨ka,kb⟩:=ei
   obtain ⟨x1,x2,x3,rfl,_⟩:=id hr1
   obtain ⟨y1,y2,y3,rfl,_⟩:=id hr2
   have hlx:=(uh HLx).pr.1
   rw [List.length_append,List.length_take] at hlx
   have HLX:=hide hlx
   clear hlx
   obtain ⟨vo,vc,rfl⟩:=xa0n (uh HLx).own
   have hm1:=(uh HKr).cell hx1 (by simp)
   have hm2:=(uh HKr).cell hx2 (by simp)
   have HRG:=hide (show wr.rangeAt b (off + i * 2) [.slice x1 x2 x3,.slice y1 y2 y3] from fun j u hj=>by
    match j,hj with
    | 0,hj=>rw [Nat.add_zero,hm1]; exact hj
    | 1,hj=>rw [hm2]; exact hj)
   have HP2:=hide (heap_alloc_new wr (.cells #[.slice x1 x2 x3,.slice y1 y2 y3] 46))
   have HK2:=hide ((Kept.refl [] wr).alloc (.cells #[.slice x1 x2 x3,.slice y1 y2 y3] 46))
   have hws:(wr.alloc (.cells #[.slice x1 x2 x3,.slice y1 y2 y3] 46)).heap.size = wr.heap.size + 1:=by simp
   have hown:∀ y,(Value.slice vo lx.length vc).ownBlock = some y→W0.heap.size≤y∧y < wr.heap.size:=fun y hy=>(uh HLx).own.lt y hy
   have HR1:=hide hr1
   have HR2:=hide hr2
   clear hx1 hx2 hr1 hr2 hm1 hm2
   go_upto_region 4 with (refine wpList_load_mid rfl 46 (.tmp 14) rfl b (off + i * 2) rfl [.slice x1 x2 x3,.slice y1 y2 y3] _ (uh HRG) Tryz.underlying46 rfl Tryz.size_pair ?_)
   try simp only [Act.put]
   generalize wr.alloc (.cells #[.slice x1 x2 x3,.slice y1 y2 y3] 46) = W2 at HP2 HK2 hws ⊢
   have hcp:=xa0o [] [.slice x1 x2 x3,.slice y1 y2 y3] [] (uh HP2) rfl
   have HQ1:=hide (show W2.cell? ⟨wr.heap.size,0,none⟩ = some (.slice x1 x2 x3) from hcp 0 _ rfl)
   have HQ2:=hide (show W2.cell? ⟨wr.heap.size,1,none⟩ = some (.slice y1 y2 y3) from hcp 1 _ rfl)
   have hno:wr.heap.size∉(Value.slice vo lx.length vc).ownBlock.toList:=by
    intro hm
    have:=hown _ (by simpa using hm)
    omega
   obtain ⟨OB,hOB⟩:∃ OB,(Value.slice vo lx.length vc).ownBlock = OB:=⟨_,rfl⟩
   rw [hOB] at hno hown
   refine ln_ly (by kernel_rfl) (by kernel_rfl) rfl (fun W=>Kept OB.toList W2 W) (Kept.refl _ W2).drew ?_
   refine LinY.mv (x:=.tmp 1) rfl (.slice vo lx.length vc) rfl (by simp only [Act.put,sa1,sa2,sa3]; rfl) ?_
   refine LinY.rd (.pointer (some ⟨wr.heap.size,0,none⟩)) (fun W hW=>by go_simp) (by simp only [Act.put,sa1,sa2,sa3]; rfl) ?_
   refine LinY.rd (.slice x1 x2 x3) (fun W hW=>by have h9:=hW.cell (uh HQ1) hno; go_simp) (by simp only [Act.put,sa1,sa2,sa3]; rfl) ?_
   refine LinY.rd (.pointer (some ⟨wr.heap.size,1,none⟩)) (fun W hW=>by go_simp) (by simp only [Act.put,sa1,sa2,sa3]; rfl) ?_
   refine LinY.rd (.slice y1 y2 y3) (fun W hW=>by have h9:=hW.cell (uh HQ2) hno; go_simp) (by simp only [Act.put,sa1,sa2,sa3]; rfl) ?_
   have hd2:=(Kept.refl [] W2).drew
   have hk02:=(uh HKr).trans ((uh HK2).trans hd2 (by simp)) (by simp)
   have hsz:wr.heap.size < W2.drew.heap.size:=by have:=hd2.size; omega
   have HLd:=hide ((uh HLx).agr ((uh HK2).trans hd2 (by simp)))
   obtain ⟨W3,hW3⟩:∃ W3,W2.drew = W3:=⟨_,rfl⟩
   rw [hW3] at hd2 hk02 hsz HLd ⊢
   refine ChL.call rfl Tryz.call48 [.slice x1 x2 x3] rfl (xa1l _ ka W3 ((uh HR1).old hk02 (by simp))) ?_
   rintro e w4 ⟨⟨kz,rfl,hA,hAb⟩,k4⟩
   have hk4:=hd2.trans k4 (by simp)
   refine ⟨_,rfl,hk4.mono (by simp),?_⟩
   simp only [Act.put,sa1,sa2,sa3]
   refine ChL.call rfl Tryz.call48 [.slice y1 y2 y3] rfl (xa1l _ kb w4 ((uh HR2).old (hk02.trans k4 (by simp)) (by simp))) ?_
   rintro e w5 ⟨⟨vz,rfl,hB,hBb⟩,k5⟩
   have hk5:=hk4.trans k5 (by simp)
   refine ⟨_,rfl,hk5.mono (by simp),?_⟩
   simp only [Act.put,sa1,sa2,sa3]
   have hA5:=hA.old k5 (by simp)
   have hz4:=k4.size
   obtain ⟨p1,p2,p3,rfl,_⟩:=id hA5
   obtain ⟨q1,q2,q3,rfl,_⟩:=id hB
   refine ChL.op (.agg #[.slice p1 p2 p3,.slice q1 q2 q3]) (xb2y w5 ⟨rfl,rfl,rfl⟩) (hk5.mono (by simp)) (by simp only [Act.put,sa1,sa2,sa3]; rfl) ?_
   have hka:=(Kept.refl [] w5).alloc (.cells #[.slice p1 p2 p3,.slice q1 q2 q3] 46)
   have hk6:=hk5.trans hka (by simp)
   refine ChL.op (.slice (some ⟨w5.heap.size,0,none⟩) 1 1) (xa5n w5 (.tmp 23) rfl _ _ rfl) (hk6.mono (by simp)) (by simp only [Act.put,sa1,sa2,sa3]; rfl) ?_
   have hrl:RdC 2 (w5.alloc (.cells #[.slice p1 p2 p3,.slice q1 q2 q3] 46)) (.slice (some ⟨w5.heap.size,0,none⟩) 1 1) (kvR [(.slice p1 p2 p3,.slice q1 q2 q3)]):=⟨_,1,1,rfl,rfl,Nat.le_refl _,by omega,fun _=>⟨w5.heap.size,0,rfl,fun j hj=>by
    have h0:j = 0:=by rw [xa0t] at hj; simp at hj; omega
    subst h0
    exact xa0o [] [.slice p1 p2 p3,.slice q1 q2 q3] [] (heap_alloc_new w5 _) rfl⟩⟩
   have hly:=((uh HLd).agr ((k4.trans k5 (by simp)).trans hka (by simp)))
   have hk06:=hk02.trans ((k4.trans k5 (by simp)).trans hka (by simp)) (by simp)
   refine ChL.app 33 46 (.tmp 16) (.tmp 24) rfl rfl _ W0.heap.size (.agg #[.slice none 0 0,.slice none 0 0]) 2 48 Tryz.underlying33 Tryz.infoQ rfl (by decide) (.slice vo lx.length vc) lx.length (kvR lx).flatten hly.own (some ⟨w5.heap.size,0,none⟩) 1 1 (kvR [(.slice p1 p2 p3,.slice q1 q2 q3)]) hrl (by intro r hr; simp [kvR] at hr; rw [hr]; rfl) (by intro r hr u hu; simp [kvR] at hr; rw [hr] at hu; simp at hu; rcases hu with rfl | rfl <;> rfl) (by have:=uh HLX; omega) (by have:=uh HLX; omega) hk06.size rfl rfl ?_
   intro ao7 c7 w7 HO7 HG7 HA7
   have hg7:=uh HG7
   rw [hOB] at hg7
   have hk7:=(Kept.refl OB.toList _).grown hg7 (by intro x hx; left; simp [hx])
   have hk27:=(hk6.mono (M:=OB.toList) (by simp)).trans hk7 (fun x hx=>Or.inl hx)
   refine ⟨hk27,?_⟩
   simp only [Act.put,sa1,sa2,sa3]
   refine ChL.op (.slice ao7 (lx.length + 1) c7) (by go_simp) hk27 (by simp only [Act.put,sa1,sa2,sa3]; rfl) (ChL.fin ?_)
   have hsn:=hly.snoc (hA5.old hka (by simp)) (hB.old hka (by simp)) (fun x hx=>⟨by have:=hAb x hx; have:=hk02.size; omega,fun e=>by rw [hOB] at e; have:=(hown x e).2; have:=hAb x hx; omega⟩) (fun x hx=>⟨by have:=hBb x hx; have:=hk02.size; omega,fun e=>by rw [hOB] at e; have:=(hown x e).2; have:=hBb x hx; omega⟩) (uh HO7) (uh HG7) (uh HA7)
   have hk07:=hk06.grown (uh HG7) (fun x hx=>Or.inr (by rw [hOB] at hx; exact (hown x hx).1))
   have HSN:=hide hsn
   have HK7:=hide hk07
   clear hsn hk07 hk27 hk7 hk6 hk06 hly hrl hA hB hA5 k4 k5 hka
   go_wp2
   refine ⟨⟨i + 1,.slice ao7 (lx.length + 1) c7,_,by go_num,rfl,hlt,hide (by rw [uh HEi,← List.append_assoc]; exact uh HSN),HK7⟩,?_⟩
   simp [intOf]; omega
  ·have hie:i = n:=by omega
   subst hie
   have hlt':¬ (i:Int) < i:=by omega
   go_wp2
   go_ret
   have h9:=uh HLx
   rw [List.take_of_length_le (by have:=uh HLE; omega)] at h9
   first | exact ⟨_,rfl,⟨lx,h9⟩,uh HKr⟩ | exact ⟨_,lx,rfl,h9,uh HKr⟩
theorem xb5q (a : Addr) (w : World) : (method 322 91 (.pointer (some a)) "notary/hamt.lay").run Tryz.prog w = .ok (47, .pointer (some a)) w := by kernel_rfl
theorem xb5l (a : Addr) (w : World) : (method 322 98 (.pointer (some a)) "notary/hamt.lay").run Tryz.prog w = .ok (166, .pointer (some a)) w := by kernel_rfl
theorem xb4u {H:Hs} {d i:Nat} {L:Prs} (h:Pre H d L):Pre H (d + 1) (ch H d i L):=fun x hx y hy j hj=>by
 obtain ⟨a1,a2⟩:=(ch_mem x).1 hx
 obtain ⟨b1,b2⟩:=(ch_mem y).1 hy
 rcases Nat.lt_or_ge j d with g | g
 ·exact h x a1 y b1 j g
 ·rw [show j = d by omega,a2,b2]
theorem TreeAt.form {S:Nat→Prop} {H:Hs} {W:World} {f:Nat} {v:Value} {L:Prs} (h:TreeAt S H W f v L):(∃ g,v = bkV g∧BkAt S H W g L)∨(∃ g,v = brV g∧sgl H L = false):=by
 cases hs:sgl H L with
 | true=>exact Or.inl (h.bk hs)
 | false =>
  cases f with
  | zero=>rw [h.1] at hs; cases hs
  | succ f =>
   obtain ⟨g,_,_,e,_⟩:=h.2 hs
   exact Or.inr ⟨g,e,rfl⟩
set_option maxHeartbeats 4000000 in
theorem xb7b (S:Nat→Prop) (k:Nat) (hk:1≤k∧k≤32):∀ (f:Nat),f≤64→∀ (g:Nat) (M L:Prs) (lv:Value) (l:List VP) (W0 w:World),TreeAt S (hsZ k) W0 f (brV g) M→sgl (hsZ k) M = false→Srt (hsZ k) M→Pre (hsZ k) (64 - f) M→Kept [] W0 w→LayAt W0.heap.size w lv l L→L.length + M.length≤1000000000 →
  Calls Tryz.prog 166 #[.pointer (some ⟨g,0,none⟩),lv] w fun e w'=>∃ v' l',e = .returned v'∧LayAt W0.heap.size w' v' l' (L++M)∧Kept [] W0 w':=by
 intro f
 induction f with
 | zero=>intro _ g M L lv l W0 w ht hs; rw [ht.1] at hs; cases hs
 | succ f ih =>
  intro hf g M L lv l W0 w ht hs hsr hpre hk0 hl hn
  have hH:=hsZ_ok hk
  have IH:=hide (ih (by omega))
  clear ih
  obtain ⟨g',kv,vs,e,hSg,hh,hrow,hlen,hkd⟩:=ht.2 hs
  have eg:g' = g:=by injection e with _ e2; injection e2 with e3; injection e3 with e4; injection e4 with e5; exact e5.symm
  subst eg
  obtain ⟨_,b1,_⟩:=br_row hh
  have hfl:(kidsL (hsZ k) (63 - f) M).flatten = M:=xb9o hH (by omega) hsr (by rw [show 63 - f = 64 - (f + 1) by omega]; exact hpre)
  have hKs:∀ K∈kidsL (hsZ k) (63 - f) M,Srt (hsZ k) K∧Pre (hsZ k) (64 - f) K:=fun K hK=>by
   obtain ⟨j,_,rfl⟩:=List.mem_map.1 hK
   refine ⟨hsr.ch _ _,?_⟩
   have h9:Pre (hsZ k) (63 - f) M:=by rw [show 63 - f = 64 - (f + 1) by omega]; exact hpre
   have h8:=xb4u (i:=j) h9
   rw [show 63 - f + 1 = 64 - f by omega] at h8
   exact h8
  generalize kidsL (hsZ k) (63 - f) M = Ks at hlen hkd hfl hKs
  have HFl:=hide hfl
  have HKs:=hide hKs
  have HKd:=hide hkd
  have HLen:=hide hlen
  obtain ⟨b,off,cap,rfl,hc1,hc2,hSb,hcells⟩:=hrow
  obtain ⟨n,hnn⟩:∃ n,vs.length = n:=⟨_,rfl⟩
  rw [hnn] at hc1 hcells b1 HKd HLen
  have c1a:=hk0.cell b1 (by simp)
  have HCE:=hide hcells
  have HKW:=hide hk0
  have HLY:=hide hl
  have HN:=hide hn
  have hm1:=xb5q
  have hm2:=xb5l
  clear hfl hKs hkd hlen hcells hk0 hl hnn hh b1 ht hs hsr hpre e hn
  go_enter Tryz.func166,Tryz.ntmps166
  go_wp2
  go_loopw [1,12] (fun t1 t12 wr=>∃ (i:Nat) (v:Value) (lx:List VP),t12 = .int .i64 i∧t1 = v∧i≤n∧Hid (LayAt W0.heap.size wr v lx (L++(Ks.take i).flatten))∧Hid (Kept [] W0 wr)) (fun _ t _=>n - (intOf t).toNat)
  case atStart=>exact ⟨0,lv,l,rfl,rfl,Nat.zero_le _,hide (by rw [List.take_zero,List.flatten_nil,List.append_nil]; exact uh HLY),HKW⟩
  case round =>
   clear HLY HKW c1a
   obtain ⟨i,v,lx,rfl,rfl,hi,HLx,HKr⟩:=hrel
   by_cases hlt:i < n
   ·have hlt':(i:Int) < n:=by omega
    have hx1:=(uh HKr).cell (uh HCE i hlt) (by simp)
    have hti:=uh HKd i hlt
    have hiK:i < Ks.length:=by have:=uh HLen; omega
    have hmem:Ks.getD i []∈Ks:=by rw [List.getD_eq_getElem?_getD,List.getElem?_eq_getElem hiK]; exact List.getElem_mem hiK
    obtain ⟨hks1,hks2⟩:=uh HKs _ hmem
    have hEi:(Ks.take (i + 1)).flatten = (Ks.take i).flatten++Ks.getD i []:=by
     rw [List.take_succ_eq_append_getElem hiK,List.flatten_append,List.getD_eq_getElem?_getD,List.getElem?_eq_getElem hiK]; simp
    have hle:(L++(Ks.take i).flatten).length + (Ks.getD i []).length≤1000000000:=by
     have h1:=congrArg List.length (uh HFl)
     have h2:Ks.flatten = (Ks.take (i + 1)).flatten++(Ks.drop (i + 1)).flatten:=by rw [← List.flatten_append,List.take_append_drop]
     rw [h2,hEi,List.length_append,List.length_append] at h1
     have:=uh HN
     rw [List.length_append]; omega
    have HEi:=hide hEi
    have HLe:=hide hle
    clear hEi hle hmem
    generalize Ks.getD i [] = K at hti hks1 hks2 HEi HLe
    generalize vs.getD i undef = tv at hx1 hti
    rcases hti.form with ⟨gb,rfl,hb⟩ | ⟨gb,rfl,hsg⟩
    ·go_wp2_with fail
     refine Calls.mono (xa7x S k gb K (L++(Ks.take i).flatten) _ lx W0 wr hb (uh HKr) (uh HLx) (uh HLe)) ?_
     rintro e w2 ⟨v2,l2,rfl,hl2,k2⟩
     have HL2:=hide hl2
     have HK2:=hide k2
     clear hl2 k2
     go_wp2_with fail
     refine ⟨⟨i + 1,v2,l2,by go_num,rfl,hlt,hide (by rw [uh HEi,← List.append_assoc]; exact uh HL2),HK2⟩,?_⟩
     simp [intOf]; omega
    ·go_wp2_with fail
     refine Calls.mono (uh IH gb K (L++(Ks.take i).flatten) _ lx W0 wr hti hsg hks1 hks2 (uh HKr) (uh HLx) (uh HLe)) ?_
     rintro e w2 ⟨v2,l2,rfl,hl2,k2⟩
     have HL2:=hide hl2
     have HK2:=hide k2
     clear hl2 k2
     go_wp2_with fail
     refine ⟨⟨i + 1,v2,l2,by go_num,rfl,hlt,hide (by rw [uh HEi,← List.append_assoc]; exact uh HL2),HK2⟩,?_⟩
     simp [intOf]; omega
   ·have hie:i = n:=by omega
    subst hie
    have hlt':¬ (i:Int) < i:=by omega
    go_wp2
    go_ret
    have h9:=uh HLx
    rw [List.take_of_length_le (by have:=uh HLen; omega),uh HFl] at h9
    first | exact ⟨_,rfl,⟨lx,h9⟩,uh HKr⟩ | exact ⟨_,lx,rfl,h9,uh HKr⟩
set_option maxHeartbeats 2000000 in
theorem xb2z (S:Nat→Prop) (k:Nat) (mv:Value) (L:Prs) (w:World) (hM:MapAt S k w mv L) :
  Calls Tryz.prog 13 #[mv] w fun e w'=>∃ v' l',e = .returned v'∧LayAt w.heap.size w' v' l' L∧Kept [] w w':=by
 obtain ⟨hk,hs,hfit,hlen,g,tv,rfl,hSg,hh,htop⟩:=hM
 have c2:w.cell? ⟨g,2,none⟩ = some tv:=by rw [cell_of_row _ _ _ _ _ _ hh]; rfl
 have he1:=en_bk
 have he2:=en_br
 have he3:=en_nil
 have hg1:=eg_bk
 have hg2:=eg_br
 have hm1:=xb5q
 have hm2:=xb5l
 rcases htop with ⟨rfl,rfl⟩ | ht
 ·clear hh
  go_enter Tryz.func13,Tryz.ntmps13
  go_wp2_with fail
  go_ret
  first | exact ⟨_,rfl,⟨[],LayAt.nil _ _⟩,Kept.refl _ _⟩ | exact ⟨_,[],rfl,LayAt.nil _ _,Kept.refl _ _⟩
 ·have hf:=ht.form
  have HT:=hide ht
  have HS:=hide hs
  clear hh ht hs hfit
  rcases hf with ⟨gb,rfl,hb⟩ | ⟨gb,rfl,hsg⟩
  ·go_enter Tryz.func13,Tryz.ntmps13
   go_wp2_with fail
   refine Calls.mono (xa7x S k gb L [] _ [] w w hb (Kept.refl _ _) (LayAt.nil _ _) (by simpa using hlen)) ?_
   rintro e w2 ⟨v2,l2,rfl,hl2,k2⟩
   have HL2:=hide hl2
   have HK2:=hide k2
   clear hl2 k2
   go_wp2_with fail
   go_ret
   first | exact ⟨_,rfl,⟨l2,uh HL2⟩,uh HK2⟩ | exact ⟨_,l2,rfl,uh HL2,uh HK2⟩
  ·go_enter Tryz.func13,Tryz.ntmps13
   go_wp2_with fail
   refine Calls.mono (xb7b S k hk 64 (Nat.le_refl _) gb L [] _ [] w w (uh HT) hsg (uh HS) (fun x _ y _ j hj=>by omega) (Kept.refl _ _) (LayAt.nil _ _) (by simpa using hlen)) ?_
   rintro e w2 ⟨v2,l2,rfl,hl2,k2⟩
   have HL2:=hide hl2
   have HK2:=hide k2
   clear hl2 k2
   go_wp2_with fail
   go_ret
   first | exact ⟨_,rfl,⟨l2,uh HL2⟩,uh HK2⟩ | exact ⟨_,l2,rfl,uh HL2,uh HK2⟩
end
section
open Go Go.RowKit Go.BigFrame
theorem ln_wa {P:Program} {Q:Exit→Act→World→Prop} {id:Nat} {o0 o1 o2 o3 o4 o5 o6 o7 o8 o9 o10 o11 o12 o13:Oper} {a:Act} {w:World} (hm:P.follows .mixedOrders = true) (hb:linB #[o0,o1,o2,o3,o4,o5,o6,o7,o8,o9,o10,o11,o12,o13] [0,1,2,3,4,5,6,7,8] [9,10,11,12,13] [] = true) (hg:([o0,o1,o2,o3,o4,o5,o6,o7,o8]++([o9,o10,o11,o12,o13]++[])).all (fun o=>o.guard.isNone) = true) (S:World→Prop) (hS:S w.drew)
  (h:LinY P S (ChL P Q S (Q .normal) [o9,o10,o11,o12,o13]) [o0,o1,o2,o3,o4,o5,o6,o7,o8] a w.drew):(Code.region id #[o0,o1,o2,o3,o4,o5,o6,o7,o8,o9,o10,o11,o12,o13] true).wp P Q a w:=xa1b (R:=[0,1,2,3,4,5,6,7,8]) (C:=[9,10,11,12,13]) (rs:=[o0,o1,o2,o3,o4,o5,o6,o7,o8]) (cs:=[o9,o10,o11,o12,o13]) hm hb rfl rfl hg hS h
end
section
open Go.RowKit Go.BigFrame
theorem LayAt.rdK {B:Nat} {w:World} {v:Value} {l:List VP} {L:Prs} (h:LayAt B w v l L):RdK w v L:=by
 obtain ⟨_,len,cap,rfl,hl,hc1,hc2,hcell⟩:=xa2x (by rw [xa0t]; exact h.own) h.pr.cell.1
 rw [xa0t] at hl
 have e1:∀ i,i < l.length→(l.map (·.1)).getD i undef = (l.getD i (undef,undef)).1∧(l.map (·.2)).getD i undef = (l.getD i (undef,undef)).2:=fun i hi=>by
  simp [List.getD_eq_getElem?_getD,List.getElem?_eq_getElem hi]
 refine ⟨_,len,cap,l.map (·.1),l.map (·.2),rfl,by rw [← hl]; exact h.pr.1.symm,hc1,hc2,fun i hi=>?_,fun h0=>?_⟩
 ·rw [(e1 i (by omega)).1,(e1 i (by omega)).2]; exact (h.pr.2 i (by omega)).now
 ·obtain ⟨b,off,rfl,hce⟩:=hcell h0
  refine ⟨b,off,rfl,fun i hi=>?_⟩
  have hi':i < l.length:=by omega
  have h7:=hce i (by rw [xa0t]; exact hi')
  have e:(kvR l)[i]'(by rw [xa0t]; exact hi') = [l[i].1,l[i].2]:=kvR_at _ i hi'
  rw [e] at h7
  rw [(e1 i hi').1,(e1 i hi').2]
  simp only [List.getD_eq_getElem?_getD,List.getElem?_eq_getElem hi',Option.getD_some]
  exact ⟨h7 0 _ rfl,h7 1 _ rfl⟩
def RdS (w:World) (v:Value) (ss:List (Nat × List (List Nat))):Prop :=
 ∃ (ao:Option Addr) (len cap:Nat) (vs:List Value),v = .slice ao len cap∧ss.length = len∧len≤cap∧cap≤9223372036854775807∧(∀ i,i < len→(ss.getD i (0,[])).1 < 65536∧RdD w (vs.getD i undef) (ss.getD i (0,[])).2) ∧
  (0 < len→∃ b off,ao = some ⟨b,off,none⟩∧∀ i,i < len→w.cell? ⟨b,off + i * 2,none⟩ = some (.int .u16 ((ss.getD i (0,[])).1:Int))∧w.cell? ⟨b,off + i * 2 + 1,none⟩ = some (vs.getD i undef))
theorem RdS.old {w w':World} {v:Value} {ss:List (Nat × List (List Nat))} (h:RdS w v ss) (k:Kept [] w w'):RdS w' v ss:=by
 obtain ⟨ao,len,cap,vs,h1,h2,h4,h5,h6,h7⟩:=h
 refine ⟨ao,len,cap,vs,h1,h2,h4,h5,fun i hi=>⟨(h6 i hi).1,(h6 i hi).2.old k⟩,fun hp=>?_⟩
 obtain ⟨b,off,e,hc⟩:=h7 hp
 exact ⟨b,off,e,fun i hi=>⟨k.cell (hc i hi).1 (by simp),k.cell (hc i hi).2 (by simp)⟩⟩
abbrev Stp:=Nat × List (List Nat)
def stR (l:List (Nat × Value)):List (List Value):=l.map fun p=>[.int .u16 (p.1:Int),p.2]
structure SLay (B:Nat) (w:World) (v:Value) (l:List (Nat × Value)) (ss:List Stp):Prop where
 own:w.ownsRow B 61 2 v l.length (stR l).flatten
 len:l.length = ss.length
 pr:∀ i,i < l.length→(l.getD i (0,undef)).1 = (ss.getD i (0,[])).1∧(ss.getD i (0,[])).1 < 65536∧Sty (tB B v) w (fun w=>RdD w (l.getD i (0,undef)).2 (ss.getD i (0,[])).2)
theorem SLay.agr {B:Nat} {w w':World} {v:Value} {l:List (Nat × Value)} {ss:List Stp} (h:SLay B w v l ss) (k:Kept [] w w'):SLay B w' v l ss:=⟨k.owns h.own (by simp),h.len,fun i hi=>⟨(h.pr i hi).1,(h.pr i hi).2.1,(h.pr i hi).2.2.agr (Agr.nil k)⟩⟩
theorem SLay.nil (B:Nat) (w:World):SLay B w (.slice none 0 0) [] []:=⟨World.ownsRow_nil _ _ _ _,rfl,fun i hi=>by simp at hi⟩
theorem SLay.rdS {B:Nat} {w:World} {v:Value} {l:List (Nat × Value)} {ss:List Stp} (h:SLay B w v l ss):RdS w v ss:=by
 have hsl:(stR l).length = l.length:=by simp [stR]
 obtain ⟨_,len,cap,rfl,hl,hc1,hc2,hcell⟩:=xa2x (rows:=stR l) (by rw [hsl]; exact h.own) (by intro r hr; obtain ⟨p,_,rfl⟩:=List.mem_map.1 hr; rfl)
 rw [hsl] at hl
 have e1:∀ i,i < l.length→(l.map (·.2)).getD i undef = (l.getD i (0,undef)).2:=fun i hi=>by
  simp [List.getD_eq_getElem?_getD,List.getElem?_eq_getElem hi]
 refine ⟨_,len,cap,l.map (·.2),rfl,by rw [← hl]; exact h.len.symm,hc1,hc2,fun i hi=>?_,fun h0=>?_⟩
 ·rw [e1 i (by omega)]; exact ⟨(h.pr i (by omega)).2.1,(h.pr i (by omega)).2.2.now⟩
 ·obtain ⟨b,off,rfl,hce⟩:=hcell h0
  refine ⟨b,off,rfl,fun i hi=>?_⟩
  have hi':i < l.length:=by omega
  have h7:=hce i (by rw [hsl]; exact hi')
  have e:(stR l)[i]'(by rw [hsl]; exact hi') = [.int .u16 (l[i].1:Int),l[i].2]:=by simp [stR]
  rw [e] at h7
  rw [e1 i hi',← (h.pr i hi').1]
  simp only [List.getD_eq_getElem?_getD,List.getElem?_eq_getElem hi',Option.getD_some]
  exact ⟨h7 0 _ rfl,h7 1 _ rfl⟩
theorem xa8s {α:Type} (l:List α) (a d:α) (i:Nat):(l++[a]).getD i d = if i < l.length then l.getD i d else if i = l.length then a else d:=by
 simp only [List.getD_eq_getElem?_getD]
 by_cases h:i < l.length
 ·rw [if_pos h,List.getElem?_append_left h]
 ·rw [if_neg h,List.getElem?_append_right (by omega)]
  by_cases g:i = l.length
  ·rw [if_pos g]; subst g; simp
  ·rw [if_neg g,List.getElem?_eq_none (by simp; omega)]; rfl
theorem SLay.snoc {B:Nat} {w w1:World} {v v':Value} {l:List (Nat × Value)} {ss:List Stp} {x:Nat} {dv:Value} {ds:List (List Nat)} (h:SLay B w v l ss) (hx:x < 65536) (hd:Sty (tB B v) w (fun w=>RdD w dv ds))
  (ho:w1.ownsRow B 61 2 v' (l.length + 1) ((stR l).flatten++(stR [(x,dv)]).flatten)) (hg:w.grownBy w1 v.ownBlock) (hb:v'.ownBlock = v.ownBlock∨v'.ownBlock = some w.heap.size):SLay B w1 v' (l++[(x,dv)]) (ss++[(x,ds)]):=by
 have hK:=(Kept.refl v.ownBlock.toList w).grown hg (by intro x hx; left; simp [hx])
 have ha:Agr (lowS (tB B v) w) w w1:=⟨hK.size,fun x hx hl=>hK.block x hl (by
  intro hm
  have:v.ownBlock = some x:=by simpa using hm
  exact hx.1.2 this)⟩
 have hT:∀ x,lowS (tB B v) w x→tB B v' x:=fun x hx=>⟨hx.1.1,by
  rcases hb with e | e
  ·rw [e]; exact hx.1.2
  ·rw [e]; intro e2; have h2:=hx.2; injection e2 with e3; omega⟩
 refine ⟨?_,by rw [List.length_append,List.length_append,h.len]; rfl,fun i hi=>?_⟩
 ·rw [List.length_append,show stR (l++[(x,dv)]) = stR l++stR [(x,dv)] by simp [stR],List.flatten_append]; exact ho
 ·rw [List.length_append] at hi
  have hi2:i < l.length + 1:=hi
  rw [xa8s,xa8s,← h.len]
  by_cases g:i < l.length
  ·rw [if_pos g,if_pos g]
   exact ⟨(h.pr i g).1,(h.pr i g).2.1,(((h.pr i g).2.2.shrink).agr ha).mono hT⟩
  ·have g2:i = l.length:=by omega
   rw [if_neg g,if_neg g,if_pos g2,if_pos g2]
   exact ⟨rfl,hx,((hd.shrink).agr ha).mono hT⟩
theorem Sty.rdD {S:Nat→Prop} {W:World} {v:Value} {ds:List (List Nat)} (h:RdD W v ds) (hs:∀ x∈blk v,S x):Sty S W (fun w=>RdD w v ds):=fun w k=>by
 obtain ⟨ao,len,cap,rfl,h1,h2,h3,h4,h5⟩:=h
 refine ⟨ao,len,cap,rfl,h1,h2,h3,h4,fun hp=>?_⟩
 obtain ⟨b,off,rfl,hc⟩:=h5 hp
 exact ⟨b,off,rfl,fun i hi j u hu=>k.cell (hc i hi j u hu) (hs b (by simp [blk]))⟩
def stp (k:Nat) (q:List Nat) (L:Prs) (i:Nat):Stp:=(bm (hsZ k) i (dnL (hsZ k) q L i),(kidsL (hsZ k) i (dnL (hsZ k) q L i)).map (nodP (hsZ k) (63 - i)))
theorem Tryz.infoSt:(Tryz.prog.info? 61).map (fun i=>(i.zero,i.size,i.bytes)) = some (some (.agg #[.int .u16 0,.slice none 0 0]),2,32):=by kernel_rfl
theorem xb0e (x:Int) {X1:Option Addr} {X2 X3:Nat}:Tryz.prog.built 61 [(0,.int .u16 x),(1,.slice X1 X2 X3)] = some #[.int .u16 x,.slice X1 X2 X3]:=by kernel_rfl
theorem xb2u {o:Oper} {a:Act} (w:World) {x y:Operand} {n:Int} {X1:Option Addr} {X2 X3:Nat} (ho:o.op = .build 61 #[(0,x),(1,y)]∧a.eval x = .int .u16 n∧a.eval y = .slice X1 X2 X3):(execOp a.eval o).run Tryz.prog w = .ok (.value (.agg #[.int .u16 n,.slice X1 X2 X3])) w:=by
 obtain ⟨h0,h1,h2⟩:=ho
 have hb:=run_build (P:=Tryz.prog) w 61 #[(0,.int .u16 n),(1,.slice X1 X2 X3)] _ (xb0e n)
 unfold execOp
 simp only [h0,List.map_toArray,List.map_cons,List.map_nil,h1,h2,Sem.run_bind,hb,Result.andThen_ok]
 rfl
theorem infoStp:∃ i,Tryz.prog.info? 61 = some i∧i.zero = some (.agg #[.int .u16 0,.slice none 0 0])∧i.size = 2:=by
 have h:=Tryz.infoSt
 generalize Tryz.prog.info? 61 = o at h
 cases o with
 | none=>cases h
 | some i =>
  have h1:=Option.some.inj h
  exact ⟨i,rfl,(Prod.mk.inj h1).1,(Prod.mk.inj (Prod.mk.inj h1).2).1⟩
theorem fillS (x y:Value) (hx:x.cells = #[x]):Instr.fill (fun i=>some (i * 2,2)) ((Array.range (1 * 2)).map ((Value.agg #[.int .u16 0,.slice none 0 0]).cells[· % (Value.agg #[.int .u16 0,.slice none 0 0]).cells.size]!)) [(0,.agg #[x,y])] = some #[x,y]:=by kernel_rfl
theorem xb6t {o:Oper} {a:Act} (w:World) (x:Operand) (ho:o.op = .buildSlice 38 1 #[(0,x)]) (n:Int) (vu:Value) (hx:a.eval x = .agg #[.int .u16 n,vu]):(execOp a.eval o).run Tryz.prog w = .ok (.value (.slice (some ⟨w.heap.size,0,none⟩) 1 1)) (w.alloc (.cells #[.int .u16 n,vu] 61)):=by
 obtain ⟨i0,hi,hz0,hz1⟩:=infoStp
 have hb:=run_buildSlice w 38 61 1 #[(0,.agg #[.int .u16 n,vu])] #[.int .u16 n,vu] i0 _ Tryz.underlying38 hi hz0 (by rw [hz1]; decide) (by rw [hz1]; decide) (by rw [hz1]; exact fillS (.int .u16 n) vu rfl)
 unfold execOp
 simp only [ho,List.map_toArray,List.map_cons,List.map_nil,hx,Sem.run_bind,hb,Result.andThen_ok]
 rfl
def WalkP (k:Nat) (w:World) (q:List Nat) (L:Prs) (sv pv:Value):Prop:=∃ m,RdS w sv ((List.range m).map (stp k q L))∧RdK w pv (dnL (hsZ k) q L m)∧(∀ i,i < m→sgl (hsZ k) (dnL (hsZ k) q L i) = false)∧sgl (hsZ k) (dnL (hsZ k) q L m) = true
set_option maxHeartbeats 4000000 in
theorem xb6y (S:Nat→Prop) (k:Nat) (mv kv:Value) (L:Prs) (q:List Nat) (w:World) (hM:MapAt S k w mv L) (hku:Rd w kv q) (hq:q.length≤64) (hT:Tabs w) :
  Calls Tryz.prog 15 #[mv,kv] w fun e w'=>∃ sv pv,e = .returned (.tuple #[sv,pv,.int .i64 0])∧WalkP k w' q L sv pv∧Kept [] w w':=by
 have HM:=hide hM
 obtain ⟨hk,hs,hfit,hlen,g,tv,rfl,hSg,hh,htop⟩:=hM
 have hH:=hsZ_ok hk
 have HKU:=hide hku
 have HTb:=hide hT
 have HSr:=hide hs
 clear hh htop hT hs hku hfit hSg
 go_enter Tryz.func15,Tryz.ntmps15
 go_wp2_with fail
 refine Calls.mono (xa1x S k _ kv L q w (uh HM) (uh HKU) hq (uh HTb)) ?_
 rintro e w1 ⟨m,cr,en,pl,fd,rfl,hway,k1⟩
 have hon:=hway.cells
 have HWay:=hide hway
 have hDl:((hsZ k).kd q).length = 32:=(hH.dg q).1
 obtain ⟨D,hD⟩:∃ D,(hsZ k).kd q = D:=⟨_,rfl⟩
 rw [hD] at hDl ⊢
 clear hD hway
 have hws:((wayC k D cr en pl fd).toArray).size = 37:=by rw [List.size_toArray,xa0v hDl]
 have HZ1:=hide (heap_alloc_new w1 (.cells zwy 93))
 have HN2:=hide (setRow_heap _ _ _ (wayC k D cr en pl fd).toArray _ _ (uh HZ1))
 have HK12:=hide ((Kept.refl [] w1).alloc (.cells zwy 93) |>.setRow (g:=w1.heap.size) (Or.inr (Nat.le_refl _)) (wayC k D cr en pl fd).toArray)
 have HK2:=hide (k1.trans (uh HK12) (by simp))
 clear k1
 obtain ⟨W2,hW2⟩:∃ W2,(w1.alloc (.cells zwy 93)).setRow w1.heap.size (wayC k D cr en pl fd).toArray = W2:=⟨_,rfl⟩
 rw [hW2] at HN2 HK12 HK2
 obtain ⟨⟨gs,hgl,hrd,htr⟩,hend,hdeep⟩:=(uh HWay).old (uh HK12)
 obtain ⟨ao,c,b,off,rfl,hc1,hc2,hao,hcell⟩:=xa9y hrd
 rw [hgl] at hc1 hao hcell hon hws HN2 hW2 ⊢
 obtain ⟨cw0,cw1,cw2,cw3,cw4,cw5⟩:=xa0s (uh HN2) hDl
 have HC:=hide hcell
 have HTR:=hide htr
 have HEn:=hide hend
 have HAO:=hide hao
 have HW3:=hide cw3
 have hL0:=hide (SLay.nil W2.heap.size W2)
 have hKa:=hide (Kept.refl [] W2)
 clear cw0 cw1 cw3 cw4 cw5 hcell htr hrd hend hao HWay
 go_wp2_with (rw [xa0z]; refine wpList_store_row rfl 93 (.tmp 7) (.tmp 16) rfl w1.heap.size (wayC k D (.slice ao m c) en pl fd).toArray rfl rfl _ zwy (uh HZ1) (by rw [hws]; exact Tryz.size_way) (by rw [hws]; rfl) (xa0r _ _ hon.1 hon.2) ?_; rw [hW2]; simp only [Act.put])
 go_loopw [9,24] (fun t9 t24 wr=>∃ (i:Nat) (v:Value) (sl:List (Nat × Value)),t24 = .int .i64 i∧t9 = v∧i≤m∧Hid (SLay W2.heap.size wr v sl ((List.range i).map (stp k q L)))∧Hid (Kept [] W2 wr)) (fun _ t _=>m - (intOf t).toNat)
 case atStart=>exact ⟨0,_,[],rfl,rfl,Nat.zero_le _,hL0,hKa⟩
 case round =>
  clear hL0 hKa cw2
  obtain ⟨i,v,sl,rfl,rfl,hi,HSL,HKr⟩:=hrel
  by_cases hlt:i < m
  ·have hlt':(i:Int) < m:=by omega
   have haod:=uh HAO (by omega)
   subst haod
   have hx1:=(uh HKr).cell (uh HC i hlt) (by simp)
   obtain ⟨ht,hsg⟩:=uh HTR i hlt
   generalize gs.getD i 0 = gi at hx1 ht
   obtain ⟨f,hf⟩:∃ f,64 - i = f + 1:=⟨63 - i,by omega⟩
   have hfi:63 - f = i:=by omega
   have hif:63 - i = f:=by omega
   rw [hf] at ht
   obtain ⟨g',kvv,vs,e,hSg,hh,hrow,hle,hkd⟩:=ht.2 hsg
   have eg:g' = gi:=by injection e with _ e2; injection e2 with e3; injection e3 with e4; injection e4 with e5; exact e5.symm
   subst eg
   rw [hfi] at hh hle hkd
   obtain ⟨b0,b1,_⟩:=br_row hh
   have hst:stp k q L i = (bm (hsZ k) i (dnL (hsZ k) q L i),(kidsL (hsZ k) i (dnL (hsZ k) q L i)).map (nodP (hsZ k) f)):=by unfold stp; rw [hif]
   have hbl:=bm_lt (hsZ k) i (dnL (hsZ k) q L i)
   have hkp:=(xa5v hH (d:=i) ht.ne).1
   have hkl:=xa3c (hsZ k) i (dnL (hsZ k) q L i)
   have hkc:=cnt_le (bm (hsZ k) i (dnL (hsZ k) q L i)) 16
   have hdg:∀ d∈(kidsL (hsZ k) i (dnL (hsZ k) q L i)).map (nodP (hsZ k) f),Dg d:=fun d hd=>by
    obtain ⟨K,_,rfl⟩:=List.mem_map.1 hd
    exact nod_dg k f K
   rw [← hkl] at hkc
   have HSt:=hide hst
   generalize bm (hsZ k) i (dnL (hsZ k) q L i) = x at b0 hbl hst HSt
   generalize kidsL (hsZ k) i (dnL (hsZ k) q L i) = Ks at hle hkd hkp hkc hdg hst HSt
   have hrow':=hrow.agr (Agr.nil (uh HKr))
   have HRow:=hide hrow'
   have hkd':=hide (fun j (hj:j < vs.length)=>(hkd j hj).agr (Agr.nil (uh HKr)))
   obtain ⟨b2,off2,cap2,rfl,_⟩:=hrow
   have HB0:=hide ((uh HKr).cell b0 (by simp))
   have HB1:=hide ((uh HKr).cell b1 (by simp))
   obtain ⟨vo,vc,rfl⟩:=xa0n (uh HSL).own
   have hown:∀ y,(Value.slice vo sl.length vc).ownBlock = some y→W2.heap.size≤y∧y < wr.heap.size:=fun y hy=>(uh HSL).own.lt y hy
   have hgs:=lt_of_block hh
   have hsl:=(uh HSL).len
   have HSLn:=hide (show sl.length≤64 by rw [hsl]; simp; omega)
   obtain ⟨OB,hOB⟩:∃ OB,(Value.slice vo sl.length vc).ownBlock = OB:=⟨_,rfl⟩
   rw [hOB] at hown
   have hno:g'∉OB.toList:=by
    intro hm
    have:=hown g' (by simpa using hm)
    omega
   clear hh hkd b0 b1 hst ht hsg e hsl hrow'
   go_upto_region 8 with fail
   refine ln_wa (by kernel_rfl) (by kernel_rfl) rfl (fun W=>Kept OB.toList wr W) (Kept.refl _ wr).drew ?_
   refine LinY.mv (x:=.tmp 9) rfl (.slice vo sl.length vc) rfl (by simp only [Act.put,sa1,sa2,sa3]; rfl) ?_
   refine LinY.mv (x:=.tmp 11) rfl (.pointer (some ⟨g',0,none⟩)) rfl (by simp only [Act.put,sa1,sa2,sa3]; rfl) ?_
   refine LinY.rd (.pointer (some ⟨g',0,none⟩)) (fun W hW=>by go_simp) (by simp only [Act.put,sa1,sa2,sa3]; rfl) ?_
   refine LinY.rd (.pointer (some ⟨g',0,none⟩)) (fun W hW=>by go_simp) (by simp only [Act.put,sa1,sa2,sa3]; rfl) ?_
   refine LinY.rd (.int .u16 x) (fun W hW=>by have h9:=hW.cell (uh HB0) hno; go_simp) (by simp only [Act.put,sa1,sa2,sa3]; rfl) ?_
   refine LinY.mv (x:=.tmp 11) rfl (.pointer (some ⟨g',0,none⟩)) rfl (by simp only [Act.put,sa1,sa2,sa3]; rfl) ?_
   refine LinY.rd (.pointer (some ⟨g',0,none⟩)) (fun W hW=>by go_simp) (by simp only [Act.put,sa1,sa2,sa3]; rfl) ?_
   refine LinY.rd (.pointer (some ⟨g',1,none⟩)) (fun W hW=>by go_simp) (by simp only [Act.put,sa1,sa2,sa3]; rfl) ?_
   refine LinY.rd (.slice (some ⟨b2,off2,none⟩) vs.length cap2) (fun W hW=>by have h9:=hW.cell (uh HB1) hno; go_simp) (by simp only [Act.put,sa1,sa2,sa3]; rfl) ?_
   have hd2:=(Kept.refl [] wr).drew
   refine ChL.call rfl Tryz.call46 [.slice (some ⟨b2,off2,none⟩) vs.length cap2] rfl (xa7y S k f _ vs Ks wr.drew ((uh HRow).agr (Agr.nil hd2)) hle (by omega) (fun j hj=>(uh hkd' j hj).agr (Agr.nil hd2))) ?_
   rintro e w4 ⟨g4,n4,rfl,hn4,hg4,hh4,k4⟩
   have hk4:=hd2.trans k4 (by simp)
   refine ⟨_,rfl,hk4.mono (by simp),?_⟩
   simp only [Act.put,sa1,sa2,sa3]
   have hn5:n4 = (Ks.map (nodP (hsZ k) f)).length:=by rw [List.length_map,hn4,hle]
   have hrdd:=xb5n hh4 hdg (by rw [← hn5]; omega)
   rw [← hn5] at hrdd
   refine ChL.op (.agg #[.int .u16 x,.slice (some ⟨g4,0,none⟩) n4 n4]) (xb2u w4 ⟨rfl,rfl,rfl⟩) (hk4.mono (by simp)) (by simp only [Act.put,sa1,sa2,sa3]; rfl) ?_
   have hka:=(Kept.refl [] w4).alloc (.cells #[.int .u16 x,.slice (some ⟨g4,0,none⟩) n4 n4] 61)
   have hk6:=hk4.trans hka (by simp)
   refine ChL.op (.slice (some ⟨w4.heap.size,0,none⟩) 1 1) (xb6t w4 (.tmp 38) rfl x _ rfl) (hk6.mono (by simp)) (by simp only [Act.put,sa1,sa2,sa3]; rfl) ?_
   have hrl:RdC 2 (w4.alloc (.cells #[.int .u16 x,.slice (some ⟨g4,0,none⟩) n4 n4] 61)) (.slice (some ⟨w4.heap.size,0,none⟩) 1 1) (stR [(x,.slice (some ⟨g4,0,none⟩) n4 n4)]):=⟨_,1,1,rfl,rfl,Nat.le_refl _,by omega,fun _=>⟨w4.heap.size,0,rfl,fun j hj=>by
     have h0:j = 0:=by simp [stR] at hj; omega
     subst h0
     exact xa0o [] [.int .u16 x,.slice (some ⟨g4,0,none⟩) n4 n4] [] (heap_alloc_new w4 _) rfl⟩⟩
   have hly:=(uh HSL).agr hk6
   have hk06:=(uh HKr).trans hk6 (by simp)
   refine ChL.app 38 61 (.tmp 28) (.tmp 39) rfl rfl _ W2.heap.size (.agg #[.int .u16 0,.slice none 0 0]) 2 32 Tryz.underlying38 Tryz.infoSt rfl (by decide) (.slice vo sl.length vc) sl.length (stR sl).flatten hly.own (some ⟨w4.heap.size,0,none⟩) 1 1 (stR [(x,.slice (some ⟨g4,0,none⟩) n4 n4)]) hrl (by intro r hr; simp [stR] at hr; rw [hr]; rfl) (by intro r hr u hu; simp [stR] at hr; rw [hr] at hu; simp at hu; rcases hu with rfl | rfl <;> rfl) (by have:=uh HSLn; omega) (by have:=uh HSLn; omega) hk06.size rfl rfl ?_
   intro ao7 c7 w7 HO7 HG7 HA7
   have hg7:=uh HG7
   rw [hOB] at hg7
   have hk7:=(Kept.refl OB.toList _).grown hg7 (by intro x hx; left; simp [hx])
   have hk27:=(hk6.mono (M:=OB.toList) (by simp)).trans hk7 (fun x hx=>Or.inl hx)
   refine ⟨hk27,?_⟩
   simp only [Act.put,sa1,sa2,sa3]
   refine ChL.op (.slice ao7 (sl.length + 1) c7) (by go_simp) hk27 (by simp only [Act.put,sa1,sa2,sa3]; rfl) (ChL.fin ?_)
   have hz4:=hd2.size
   have hsn:=hly.snoc hbl (Sty.rdD (hrdd.old hka) (fun y hy=>by
    have hy2:y = g4:=by simpa [blk] using hy
    subst hy2
    refine ⟨by have:=(uh HKr).size; omega,fun e=>?_⟩
    rw [hOB] at e
    have:=(hown y e).2
    omega)) (uh HO7) (uh HG7) (uh HA7)
   have hk07:=hk06.grown (uh HG7) (fun x hx=>Or.inr (by rw [hOB] at hx; exact (hown x hx).1))
   have HSN:=hide hsn
   have HK7:=hide hk07
   clear hsn hk07 hk27 hk7 hk6 hk06 hly hrl hrdd hh4 k4 hka hg7
   go_wp2
   refine ⟨⟨i + 1,.slice ao7 (sl.length + 1) c7,_,by go_num,rfl,hlt,hide (by rw [List.range_succ,List.map_append,List.map_cons,List.map_nil,uh HSt]; exact uh HSN),HK7⟩,?_⟩
   simp [intOf]; omega
  ·have hie:i = m:=by omega
   subst hie
   have hlt':¬ (i:Int) < i:=by omega
   have h3:=(uh HKr).cell (uh HW3) (by simp)
   have hsgs:=fun j hj=>(uh HTR j hj).2
   have hrs:=(uh HSL).rdS
   rcases uh HEn with ⟨hm,rfl,_,_⟩ | ⟨hsg,g1,rfl,hb,_⟩
   ·go_wp2_with fail
    go_ret3
    exact ⟨_,.slice none 0 0,rfl,⟨i,hrs,by rw [hm]; exact (LayAt.nil 0 _).rdK,hsgs,by rw [hm]; rfl⟩,(uh HK2).trans (uh HKr) (by simp)⟩
   ·have HRS:=hide hrs
    have HSG:=hide hsgs
    have HL:=hide (show (dnL (hsZ k) q L i).length≤1000000000 from Nat.le_trans (dn_len i) hlen)
    clear hrs hsgs
    go_wp2_with fail
    refine Calls.mono (xa7x S k g1 (dnL (hsZ k) q L i) [] _ [] wr wr (hb.agr (Agr.nil (uh HKr))) (Kept.refl _ _) (LayAt.nil _ _) (by have:=uh HL; simpa using this)) ?_
    rintro e w5 ⟨v5,l5,rfl,hl5,k5⟩
    have HL5:=hide hl5
    have HK5:=hide k5
    clear hl5 k5
    go_wp2_with fail
    go_ret3
    exact ⟨_,_,rfl,⟨i,(uh HRS).old (uh HK5),(uh HL5).rdK,uh HSG,hsg⟩,((uh HK2).trans (uh HKr) (by simp)).trans (uh HK5) (by simp)⟩
end
section
open Go Go.RowKit Go.BigFrame
theorem ln_l4 {P:Program} {Q:Exit→Act→World→Prop} {id:Nat} {o0 o1 o2 o3 o4 o5 o6 o7 o8:Oper} {a:Act} {w:World} (hm:P.follows .mixedOrders = true) (hb:linB #[o0,o1,o2,o3,o4,o5,o6,o7,o8] [0,1,2,3,4,5,6,7,8] [] [] = true) (hg:([o0,o1,o2,o3,o4,o5,o6,o7,o8]++([]++[])).all (fun o=>o.guard.isNone) = true) (S:World→Prop) (hS:S w.drew)
  (h:LinY P S (ChL P Q S (Q .normal) []) [o0,o1,o2,o3,o4,o5,o6,o7,o8] a w.drew):(Code.region id #[o0,o1,o2,o3,o4,o5,o6,o7,o8] true).wp P Q a w:=xa1b (R:=[0,1,2,3,4,5,6,7,8]) (C:=[]) (rs:=[o0,o1,o2,o3,o4,o5,o6,o7,o8]) (cs:=[]) hm hb rfl rfl hg hS h
theorem ln_l5 {P:Program} {Q:Exit→Act→World→Prop} {id:Nat} {o0 o1 o2 o3 o4 o5 o6 o7 o8 o9 o10 o11:Oper} {a:Act} {w:World} (hm:P.follows .mixedOrders = true) (hb:linB #[o0,o1,o2,o3,o4,o5,o6,o7,o8,o9,o10,o11] [0,1,2,3,4,5,6,7,8,9,10] [11] [] = true) (hg:([o0,o1,o2,o3,o4,o5,o6,o7,o8,o9,o10]++([o11]++[])).all (fun o=>o.guard.isNone) = true) (S:World→Prop) (hS:S w.drew)
  (h:LinY P S (ChL P Q S (Q .normal) [o11]) [o0,o1,o2,o3,o4,o5,o6,o7,o8,o9,o10] a w.drew):(Code.region id #[o0,o1,o2,o3,o4,o5,o6,o7,o8,o9,o10,o11] true).wp P Q a w:=xa1b (R:=[0,1,2,3,4,5,6,7,8,9,10]) (C:=[11]) (rs:=[o0,o1,o2,o3,o4,o5,o6,o7,o8,o9,o10]) (cs:=[o11]) hm hb rfl rfl hg hS h
end
section
open Go.RowKit Go.BigFrame
def lessI:List Nat→List Nat→Int
 | [],b=>-(b.length:Int)
 | x :: a,[]=>(a.length:Int) + 1
 | x :: a,y :: b=>if x = y then lessI a b else (x:Int) - (y:Int)
theorem xa5w:∀ a b:List Nat,(lessI a b < 0↔ordL a b < 0)∧(lessI a b = 0↔ordL a b = 0)
 | [],[]=>by simp [lessI,ordL]
 | [],y :: b=>by simp [lessI,ordL]; omega
 | x :: a,[]=>by simp [lessI,ordL]; omega
 | x :: a,y :: b=>by
  have ih:=xa5w a b
  by_cases h:x = y
  ·subst h
   have e1:lessI (x :: a) (x :: b) = lessI a b:=by rw [lessI,if_pos rfl]
   have e2:ordL (x :: a) (x :: b) = ordL a b:=by rw [ordL,if_neg (Nat.lt_irrefl _),if_neg (Nat.lt_irrefl _)]
   rw [e1,e2]; exact ih
  ·have e1:lessI (x :: a) (y :: b) = (x:Int) - (y:Int):=by rw [lessI,if_neg h]
   rw [e1]
   rcases Nat.lt_or_ge x y with g | g
   ·have e2:ordL (x :: a) (y :: b) = -1:=by rw [ordL,if_pos g]
    rw [e2]; omega
   ·have e2:ordL (x :: a) (y :: b) = 1:=by rw [ordL,if_neg (by omega),if_pos (by omega)]
    rw [e2]; omega
theorem xb3w (a b:List Nat) (h:a = []∨b = []):lessI a b = (a.length:Int) - (b.length:Int):=by
 rcases h with rfl | rfl
 ·simp [lessI]
 ·cases a with
  | nil=>simp [lessI]
  | cons x a=>simp [lessI]
theorem xb2l (a b:List Nat) (i:Nat) (ha:i < a.length) (hb:i < b.length):lessI (a.drop i) (b.drop i) = if a.getD i 0 = b.getD i 0 then lessI (a.drop (i + 1)) (b.drop (i + 1)) else (a.getD i 0:Int) - (b.getD i 0:Int):=by
 rw [List.drop_eq_getElem_cons ha,List.drop_eq_getElem_cons hb,List.getD_eq_getElem?_getD,List.getD_eq_getElem?_getD,List.getElem?_eq_getElem ha,List.getElem?_eq_getElem hb]
 rfl
set_option maxHeartbeats 2000000 in
theorem xb1q (u v:Value) (a b:List Nat) (w:World) (ha:Rd w u a) (hb:Rd w v b) :
  Calls Tryz.prog 115 #[u,v] w fun e w'=>e = .returned (.int .i64 (lessI a b))∧Kept [] w w':=by
 have HA:=hide ha.byte
 have HB:=hide hb.byte
 obtain ⟨ao,n,c,rfl,h1,h2,h3,_,_,h6⟩:=ha
 obtain ⟨bo,m,d,rfl,g1,g2,g3,_,_,g6⟩:=hb
 have HCA:=hide h6
 have HCB:=hide g6
 have HL:=hide (show lessI (a.drop 0) (b.drop 0) = lessI a b from rfl)
 obtain ⟨C,hC⟩:∃ C,lessI a b = C:=⟨_,rfl⟩
 rw [hC] at HL ⊢
 have HN:=hide h1
 have HM:=hide g1
 have hwr:IntKind.i64.wrap ((n:Int) - (m:Int)) = (n:Int) - (m:Int):=by simp [IntKind.wrap,IntKind.signed,IntKind.bits]; omega
 have HK:=hide (Kept.refl [] w)
 clear h1 h6 g1 g6 hC
 go_enter Tryz.func115,Tryz.ntmps115
 go_wp2
 go_loopw [5] (fun t5 wr=>∃ (i:Nat),t5 = .int .i64 i∧i≤n∧i≤m∧Hid (lessI (a.drop i) (b.drop i) = C)∧Hid (Kept [] w wr)) (fun t _=>n - (intOf t).toNat)
 case atStart=>exact ⟨0,rfl,Nat.zero_le _,Nat.zero_le _,HL,HK⟩
 case round =>
  clear HL HK
  obtain ⟨i,rfl,hin,him,HL,HK⟩:=hrel
  by_cases hlt:i < n∧i < m
  ·obtain ⟨l1,l2⟩:=hlt
   have q1:(i:Int) < n:=by omega
   have q2:(i:Int) < m:=by omega
   obtain ⟨ba,oa,rfl,hca⟩:=uh HCA (by omega)
   obtain ⟨bb,ob,rfl,hcb⟩:=uh HCB (by omega)
   have HX:=hide ((uh HK).cell (hca i l1) (by simp))
   have HY:=hide ((uh HK).cell (hcb i l2) (by simp))
   have hst:=xb2l a b i (by have:=uh HN; omega) (by have:=uh HM; omega)
   have hx256:a.getD i 0 < 256:=uh HA _ (by have:=uh HN; rw [List.getD_eq_getElem?_getD,List.getElem?_eq_getElem (by omega)]; exact List.getElem_mem _)
   have hy256:b.getD i 0 < 256:=uh HB _ (by have:=uh HM; rw [List.getD_eq_getElem?_getD,List.getElem?_eq_getElem (by omega)]; exact List.getElem_mem _)
   rw [uh HL] at hst
   clear hca hcb
   generalize a.getD i 0 = x at HX hst hx256
   generalize b.getD i 0 = y at HY hst hy256
   have HST:=hide hst
   clear hst
   by_cases hxy:x = y
   ·subst hxy
    have HL2:=hide (show lessI (a.drop (i + 1)) (b.drop (i + 1)) = C by have:=uh HST; rw [if_pos rfl] at this; exact this.symm)
    go_upto_region 4 with fail
    refine ln_l4 (by kernel_rfl) (by kernel_rfl) rfl (fun W=>Kept [] wr W) (Kept.refl _ wr).drew ?_
    refine LinY.mv (x:=.tmp 0) rfl (.slice (some ⟨ba,oa,none⟩) n c) rfl (by simp only [Act.put,sa1,sa2,sa3]; rfl) ?_
    refine LinY.mv (x:=.tmp 5) rfl (.int .i64 i) rfl (by simp only [Act.put,sa1,sa2,sa3]; rfl) ?_
    refine LinY.rd (.pointer (some ⟨ba,oa + i,none⟩)) (fun W hW=>by go_simp) (by simp only [Act.put,sa1,sa2,sa3]; rfl) ?_
    refine LinY.rd (.int .u8 x) (fun W hW=>by have h9:=hW.cell (uh HX) (by simp); go_simp) (by simp only [Act.put,sa1,sa2,sa3]; rfl) ?_
    refine LinY.mv (x:=.tmp 1) rfl (.slice (some ⟨bb,ob,none⟩) m d) rfl (by simp only [Act.put,sa1,sa2,sa3]; rfl) ?_
    refine LinY.mv (x:=.tmp 5) rfl (.int .i64 i) rfl (by simp only [Act.put,sa1,sa2,sa3]; rfl) ?_
    refine LinY.rd (.pointer (some ⟨bb,ob + i,none⟩)) (fun W hW=>by go_simp) (by simp only [Act.put,sa1,sa2,sa3]; rfl) ?_
    refine LinY.rd (.int .u8 x) (fun W hW=>by have h9:=hW.cell (uh HY) (by simp); go_simp) (by simp only [Act.put,sa1,sa2,sa3]; rfl) ?_
    refine LinY.rd (.bool false) (fun W hW=>by go_simp) (by simp only [Act.put,sa1,sa2,sa3]; rfl) ?_
    refine LinY.fin (ChL.fin ?_)
    have hkd:=(uh HK).trans (Kept.refl [] wr).drew (by simp)
    go_wp2
    refine ⟨⟨i + 1,by go_num,by omega,by omega,HL2,hide hkd⟩,?_⟩
    all_goals (simp [intOf]; omega)
   ·have hz:(x:Int)≠(y:Int):=by omega
    have hz2:¬ (x:Int) = (y:Int):=hz
    have hC2:C = (x:Int) - (y:Int):=by have:=uh HST; rw [if_neg hxy] at this; exact this
    have hwr2:IntKind.i64.wrap ((x:Int) - (y:Int)) = (x:Int) - (y:Int):=by simp [IntKind.wrap,IntKind.signed,IntKind.bits]; omega
    have hwx:IntKind.i64.wrap (x:Int) = (x:Int):=by simp [IntKind.wrap,IntKind.signed,IntKind.bits]; omega
    have hwy:IntKind.i64.wrap (y:Int) = (y:Int):=by simp [IntKind.wrap,IntKind.signed,IntKind.bits]; omega
    go_upto_region 4 with fail
    refine ln_l4 (by kernel_rfl) (by kernel_rfl) rfl (fun W=>Kept [] wr W) (Kept.refl _ wr).drew ?_
    refine LinY.mv (x:=.tmp 0) rfl (.slice (some ⟨ba,oa,none⟩) n c) rfl (by simp only [Act.put,sa1,sa2,sa3]; rfl) ?_
    refine LinY.mv (x:=.tmp 5) rfl (.int .i64 i) rfl (by simp only [Act.put,sa1,sa2,sa3]; rfl) ?_
    refine LinY.rd (.pointer (some ⟨ba,oa + i,none⟩)) (fun W hW=>by go_simp) (by simp only [Act.put,sa1,sa2,sa3]; rfl) ?_
    refine LinY.rd (.int .u8 x) (fun W hW=>by have h9:=hW.cell (uh HX) (by simp); go_simp) (by simp only [Act.put,sa1,sa2,sa3]; rfl) ?_
    refine LinY.mv (x:=.tmp 1) rfl (.slice (some ⟨bb,ob,none⟩) m d) rfl (by simp only [Act.put,sa1,sa2,sa3]; rfl) ?_
    refine LinY.mv (x:=.tmp 5) rfl (.int .i64 i) rfl (by simp only [Act.put,sa1,sa2,sa3]; rfl) ?_
    refine LinY.rd (.pointer (some ⟨bb,ob + i,none⟩)) (fun W hW=>by go_simp) (by simp only [Act.put,sa1,sa2,sa3]; rfl) ?_
    refine LinY.rd (.int .u8 y) (fun W hW=>by have h9:=hW.cell (uh HY) (by simp); go_simp) (by simp only [Act.put,sa1,sa2,sa3]; rfl) ?_
    refine LinY.rd (.bool true) (fun W hW=>by go_simp) (by simp only [Act.put,sa1,sa2,sa3]; rfl) ?_
    refine LinY.fin (ChL.fin ?_)
    have hd:=(Kept.refl [] wr).drew
    go_upto_region 5 with fail
    refine ln_l5 (by kernel_rfl) (by kernel_rfl) rfl (fun W=>Kept [] wr W) hd.drew ?_
    refine LinY.mv (x:=.tmp 0) rfl (.slice (some ⟨ba,oa,none⟩) n c) rfl (by simp only [Act.put,sa1,sa2,sa3]; rfl) ?_
    refine LinY.mv (x:=.tmp 5) rfl (.int .i64 i) rfl (by simp only [Act.put,sa1,sa2,sa3]; rfl) ?_
    refine LinY.rd (.pointer (some ⟨ba,oa + i,none⟩)) (fun W hW=>by go_simp) (by simp only [Act.put,sa1,sa2,sa3]; rfl) ?_
    refine LinY.rd (.int .u8 x) (fun W hW=>by have h9:=hW.cell (uh HX) (by simp); go_simp) (by simp only [Act.put,sa1,sa2,sa3]; rfl) ?_
    refine LinY.rd (.int .i64 x) (fun W hW=>by go_simp) (by simp only [Act.put,sa1,sa2,sa3]; rfl) ?_
    refine LinY.mv (x:=.tmp 1) rfl (.slice (some ⟨bb,ob,none⟩) m d) rfl (by simp only [Act.put,sa1,sa2,sa3]; rfl) ?_
    refine LinY.mv (x:=.tmp 5) rfl (.int .i64 i) rfl (by simp only [Act.put,sa1,sa2,sa3]; rfl) ?_
    refine LinY.rd (.pointer (some ⟨bb,ob + i,none⟩)) (fun W hW=>by go_simp) (by simp only [Act.put,sa1,sa2,sa3]; rfl) ?_
    refine LinY.rd (.int .u8 y) (fun W hW=>by have h9:=hW.cell (uh HY) (by simp); go_simp) (by simp only [Act.put,sa1,sa2,sa3]; rfl) ?_
    refine LinY.rd (.int .i64 y) (fun W hW=>by go_simp) (by simp only [Act.put,sa1,sa2,sa3]; rfl) ?_
    refine LinY.rd (.int .i64 ((x:Int) - (y:Int))) (fun W hW=>by go_simp) (by simp only [Act.put,sa1,sa2,sa3]; rfl) ?_
    refine ChL.op (.int .i64 ((x:Int) - (y:Int))) (by go_simp) (hd.drew) (by simp only [Act.put,sa1,sa2,sa3]; rfl) (ChL.fin ?_)
    go_wp2
    go_ret
    exact ⟨by rw [hC2]; rfl,(uh HK).trans hd.drew (by simp)⟩
  ·have hend:lessI (a.drop i) (b.drop i) = (n:Int) - (m:Int):=by
    have e1:=uh HN
    have e2:=uh HM
    rw [xb3w _ _ (by
     by_cases q:i < n
     ·exact Or.inr (List.drop_of_length_le (by omega))
     ·exact Or.inl (List.drop_of_length_le (by omega))),List.length_drop,List.length_drop]
    omega
   rw [uh HL] at hend
   have HE:=hide hend
   clear hend
   by_cases q:i < n
   ·have q1:(i:Int) < n:=by omega
    have q2:¬ (i:Int) < m:=by omega
    go_wp2
    go_ret
    exact ⟨by rw [uh HE]; first | rfl | (rw [hwr]) | (simp [hwr]),uh HK⟩
   ·have q1:¬ (i:Int) < n:=by omega
    go_wp2
    go_ret
    exact ⟨by rw [uh HE]; first | rfl | (rw [hwr]) | (simp [hwr]),uh HK⟩
end
def putS (H:Hs) (q v:List Nat) (s:Bool × Prs) (y:List Nat × List Nat):Bool × Prs :=
 (s.1 || decide (kc H q y.1≤0),(if s.1 = false∧kc H q y.1≤0 then s.2++[(q,v)] else s.2)++(if kc H q y.1 = 0 then [] else [y]))
def putF (q v:List Nat) (s:Bool × Prs):Prs:=if s.1 = true then s.2 else s.2++[(q,v)]
theorem xa7c {H:Hs} {q v:List Nat}:∀ {L acc:Prs},(∀ y∈L,kc H q y.1 < 0)→L.foldl (putS H q v) (true,acc) = (true,acc++L)
 | [],acc,_=>by simp
 | y :: L,acc,h=>by
  have h1:=h y (by simp)
  rw [List.foldl_cons]
  have e:putS H q v (true,acc) y = (true,acc++[y]):=by
   unfold putS; rw [if_neg (by simp),if_neg (by omega)]; simp
  rw [e,xa7c (fun z hz=>h z (by simp [hz]))]
  simp
theorem xa8q {H:Hs} {q v:List Nat}:∀ {L acc:Prs},Srt H L→putF q v (L.foldl (putS H q v) (false,acc)) = acc++insP H q v L
 | [],acc,_=>by simp [putF,insP]
 | y :: L,acc,h=>by
  rw [List.foldl_cons,xa2f]
  by_cases g1:kc H q y.1 < 0
  ·have e:putS H q v (false,acc) y = (true,acc++[(q,v),y]):=by
    unfold putS; rw [if_pos ⟨rfl,by show kc H q y.1≤0; omega⟩,if_neg (by omega),decide_eq_true (by omega)]; simp
   rw [e,xa7c (fun z hz=>xa4k g1 (h.head z hz)),if_pos g1]
   simp [putF]
  ·by_cases g2:kc H q y.1 = 0
   ·have e:putS H q v (false,acc) y = (true,acc++[(q,v)]):=by
     unfold putS; rw [if_pos ⟨rfl,by show kc H q y.1≤0; omega⟩,if_pos g2,decide_eq_true (by omega)]; simp
    rw [e,xa7c (fun z hz=>by rw [xa6l g2]; exact h.head z hz),if_neg g1,if_pos g2]
    simp [putF]
   ·have e:putS H q v (false,acc) y = (false,acc++[y]):=by
     unfold putS; rw [if_neg (by simp; omega),if_neg g2,decide_eq_false (by omega)]; simp
    rw [e,xa8q h.tail,if_neg g1,if_neg g2]
    simp
def putI (H:Hs) (q v:List Nat) (L:Prs) (i:Nat):Bool × Prs:=(L.take i).foldl (putS H q v) (false,[])
theorem xb4h (H:Hs) (q v:List Nat) (L:Prs):putI H q v L 0 = (false,[]):=rfl
theorem xa8b (H:Hs) (q v:List Nat) (L:Prs) (i:Nat) (hi:i < L.length):putI H q v L (i + 1) = putS H q v (putI H q v L i) (L.getD i ([],[])):=by
 unfold putI
 rw [List.take_succ_eq_append_getElem hi,List.foldl_append,List.getD_eq_getElem?_getD,List.getElem?_eq_getElem hi]; rfl
theorem xb6l (H:Hs) (q v:List Nat) (L:Prs) (h:Srt H L):putF q v (putI H q v L L.length) = insP H q v L:=by
 unfold putI; rw [List.take_of_length_le (Nat.le_refl _),xa8q h]; simp
theorem xb6j (H:Hs) (q v:List Nat) (s:Bool × Prs) (y:List Nat × List Nat):(putS H q v s y).2.length≤s.2.length + 2:=by
 unfold putS
 rw [List.length_append]
 have h1:(if s.1 = false∧kc H q y.1≤0 then s.2++[(q,v)] else s.2).length≤s.2.length + 1:=by split <;> simp
 have h2:(if kc H q y.1 = 0 then ([]:Prs) else [y]).length≤1:=by split <;> simp
 omega
theorem xb0v (H:Hs) (q v:List Nat) (L:Prs):∀ i,i≤L.length→(putI H q v L i).2.length≤2 * i
 | 0,_=>by simp [xb4h]
 | i + 1,hi=>by
  have ih:=xb0v H q v L i (by omega)
  rw [xa8b H q v L i (by omega)]
  have:=xb6j H q v (putI H q v L i) (L.getD i ([],[]))
  omega
def ordI (H:Hs) (a b:List Nat):Int:=if lessI (H.kd a) (H.kd b) = 0 then lessI a b else lessI (H.kd a) (H.kd b)
theorem xb6n (H:Hs) (a b:List Nat):(ordI H a b < 0↔kc H a b < 0)∧(ordI H a b = 0↔kc H a b = 0):=by
 have h1:=xa5w (H.kd a) (H.kd b)
 have h2:=xa5w a b
 unfold ordI kc
 by_cases g:lessI (H.kd a) (H.kd b) = 0
 ·rw [if_pos g,if_pos (h1.2.1 g)]; exact h2
 ·rw [if_neg g,if_neg (fun e=>g (h1.2.2 e))]; exact h1
def kidI (H:Hs) (f d:Nat) (L:Prs) (i:Nat):List (List Nat):=((List.range i).filter (fun j=>!(ch H d j L).isEmpty)).map fun j=>nodP H f (ch H d j L)
def bmI (H:Hs) (d:Nat) (L:Prs) (i:Nat):Nat:=bmk (fun j=>!(ch H d j L).isEmpty) i
theorem xb7m {H:Hs} {f d:Nat} {L:Prs} {i:Nat} (h:(ch H d i L).isEmpty = false):kidI H f d L (i + 1) = kidI H f d L i++[nodP H f (ch H d i L)]:=by
 unfold kidI; rw [List.range_succ,List.filter_append,List.map_append]; simp [h]
theorem xb8y {H:Hs} {f d:Nat} {L:Prs} {i:Nat} (h:(ch H d i L).isEmpty = true):kidI H f d L (i + 1) = kidI H f d L i:=by
 unfold kidI; rw [List.range_succ,List.filter_append,List.map_append]; simp [h]
theorem xb8a {H:Hs} {d:Nat} {L:Prs} {i:Nat} (h:(ch H d i L).isEmpty = false):bmI H d L (i + 1) = bmI H d L i + 2 ^ i:=by
 unfold bmI; conv=>lhs; unfold bmk
 rw [if_pos (by rw [h]; rfl)]
theorem bmI_no {H:Hs} {d:Nat} {L:Prs} {i:Nat} (h:(ch H d i L).isEmpty = true):bmI H d L (i + 1) = bmI H d L i:=by
 unfold bmI; conv=>lhs; unfold bmk
 rw [if_neg (by rw [h]; decide)]
theorem bmI_lt (H:Hs) (d:Nat) (L:Prs) (i:Nat):bmI H d L i < 2 ^ i:=bmk_lt _ i
theorem xb9q (H:Hs) (d:Nat) (L:Prs):bmI H d L 16 = bm H d L:=rfl
theorem xb7t (H:Hs) (f d:Nat) (L:Prs):kidI H f d L 16 = (kidsL H d L).map (nodP H f):=by
 unfold kidI kidsL; rw [prs_eq,List.map_map]; rfl
theorem xb6u (H:Hs) (f d:Nat) (L:Prs) (i:Nat):(kidI H f d L i).length≤i:=by
 unfold kidI; rw [List.length_map]; exact Nat.le_trans (List.length_filter_le _ _) (by simp)
theorem xb6m {H:Hs} (hH:H.Ok) {L:Prs} (h:Srt H L) (hn:L≠[]):sgl H L = decide (H.kd (L.getD 0 ([],[])).1 = H.kd (L.getD (L.length - 1) ([],[])).1):=by
 cases L with
 | nil=>exact absurd rfl hn
 | cons x L =>
  have el:((x :: L).getD ((x :: L).length - 1) ([],[])) = (x :: L).getLast (by simp):=by
   rw [List.getLast_eq_getElem,List.getD_eq_getElem?_getD,List.getElem?_eq_getElem (by simp)]; rfl
  rw [el]
  by_cases g:H.kd x.1 = H.kd ((x :: L).getLast (by simp)).1
  ·rw [xb6f hH h g]
   exact (decide_eq_true g).symm
  ·rw [List.getD_cons_zero,decide_eq_false g]
   cases hs:sgl H (x :: L) with
   | false=>rfl
   | true=>exact absurd (xa1h.1 hs x (by simp) _ (List.getLast_mem _)) g
section
open Go.RowKit Go.BigFrame

def itC (D:List Nat) (kv vv:Value):List Value:=D.map u8++([kv,vv]++[])
theorem xa2c {D:List Nat} (h:D.length = 32) (kv vv:Value):(itC D kv vv).length = 34:=by simp [itC,h]
def zit:Array Value:=(itC (List.replicate 32 0) (.slice none 0 0) (.slice none 0 0)).toArray
theorem lit_it:(#[.int .u8 0,.int .u8 0,.int .u8 0,.int .u8 0,.int .u8 0,.int .u8 0,.int .u8 0,.int .u8 0,.int .u8 0,.int .u8 0,.int .u8 0,.int .u8 0,.int .u8 0,.int .u8 0,.int .u8 0,.int .u8 0,.int .u8 0,.int .u8 0,.int .u8 0,.int .u8 0,.int .u8 0,.int .u8 0,.int .u8 0,.int .u8 0,.int .u8 0,.int .u8 0,.int .u8 0,.int .u8 0,.int .u8 0,.int .u8 0,.int .u8 0,.int .u8 0,.slice none 0 0,.slice none 0 0]:Array Value) = zit:=rfl
theorem Tryz.size_it:(Tryz.prog.info? 116).map (·.size) = some 34:=by kernel_rfl
theorem Tryz.infoIt:(Tryz.prog.info? 116).map (fun i=>(i.zero,i.size,i.bytes)) = some (some (.agg zit),34,80):=by kernel_rfl
theorem xb5v {D:List Nat} {kv vv:Value} (h1:kv.oneCell' = true) (h2:vv.oneCell' = true):∀ u∈itC D kv vv,u.oneCell' = true:=by
 intro u hu
 unfold itC at hu
 rcases List.mem_append.1 hu with h | h
 ·obtain ⟨x,_,rfl⟩:=List.mem_map.1 h; rfl
 ·simp only [List.cons_append,List.nil_append,List.mem_cons,List.not_mem_nil,or_false] at h
  rcases h with rfl | rfl
  ·exact h1
  ·exact h2
theorem xa6m {D:List Nat} {kv vv:Value} (h1:kv.oneCell' = true) (h2:vv.oneCell' = true):(itC D kv vv).toArray.all (·.oneCell') = true :=
 Array.all_eq_true_iff_forall_mem.2 (fun v hv=>xb5v h1 h2 v (by simpa using hv))
theorem xa1a {D:List Nat} (h:D.length = 32) (kv vv:Value):(itC D kv vv).toArray.size = 34:=by rw [List.size_toArray,xa2c h]
theorem it_row {W:World} {g:Nat} {D:List Nat} {kv vv:Value} {t:TypeId} {fr:Nat × Nat} (h:W.heap[g]? = some (.cells (itC D kv vv).toArray t fr)) (hD:D.length = 32):W.rangeAt g 0 (D.map u8)∧W.cell? ⟨g,32,none⟩ = some kv∧W.cell? ⟨g,33,none⟩ = some vv:=by
 have h1:=xa0o [] (D.map u8) ([kv,vv]++[]) (n:=0) (by simpa [itC] using h) rfl
 have h2:=xa0o (D.map u8) [kv,vv] [] (n:=32) h (by rw [List.length_map,hD])
 exact ⟨h1,h2 0 _ rfl,h2 1 _ rfl⟩
theorem xb2q {W:World} {g:Nat} {D:List Nat} {kv vv:Value} {t:TypeId} {fr:Nat × Nat} (h:W.heap[g]? = some (.cells (itC D kv vv).toArray t fr)) (hD:D.length = 32):W.rangeAt g 32 [kv,vv] :=
 xa0o (D.map u8) [kv,vv] [] (n:=32) h (by rw [List.length_map,hD])
def itR (k:Nat) (l:List VP) (L:Prs):List (List Value):=(l.zip L).map fun p=>itC ((hsZ k).kd p.2.1) p.1.1 p.1.2
theorem xa9b {k:Nat} {l:List VP} {L:Prs} (h:l.length = L.length):(itR k l L).length = l.length:=by simp [itR,h]
theorem xa2l {k:Nat} {l:List VP} {L:Prs}:∀ r∈itR k l L,r.length = 34:=by
 intro r hr
 obtain ⟨p,_,rfl⟩:=List.mem_map.1 hr
 exact xa2c (xa0e _ _) _ _
theorem xb8c {k:Nat} {l l':List VP} {L L':Prs} (h:l.length = L.length):itR k (l++l') (L++L') = itR k l L++itR k l' L':=by
 unfold itR; rw [List.zip_append h,List.map_append]
theorem itR_at {k:Nat} {l:List VP} {L:Prs} (h:l.length = L.length) (i:Nat) (hi:i < l.length):(itR k l L)[i]'(by rw [xa9b h]; exact hi) = itC ((hsZ k).kd (L.getD i ([],[])).1) (l.getD i (undef,undef)).1 (l.getD i (undef,undef)).2:=by
 have hi2:i < L.length:=by omega
 simp [itR,List.getD_eq_getElem?_getD,List.getElem?_eq_getElem hi,List.getElem?_eq_getElem hi2]
theorem xb8n {S:Nat→Prop} {s:Nat} {W W':World} {v:Value} {rows:List (List Value)} (h:RdC s W v rows) (a:Agr S W W') (hs:∀ x∈blk v,S x):RdC s W' v rows:=by
 obtain ⟨ao,len,cap,rfl,h1,h2,h3,h4⟩:=h
 refine ⟨ao,len,cap,rfl,h1,h2,h3,fun hp=>?_⟩
 obtain ⟨b,off,rfl,hc⟩:=h4 hp
 exact ⟨b,off,rfl,fun i hi j u hu=>a.cell (hc i hi j u hu) (hs b (by simp [blk]))⟩
def IAt (T:Nat→Prop) (k:Nat) (W:World) (v:Value) (L:Prs):Prop:=∃ l:List VP,RdC 34 W v (itR k l L)∧(∀ x∈blk v,T x∧x < W.heap.size)∧PR T W l L
theorem IAt.agr {T:Nat→Prop} {k:Nat} {W W':World} {v:Value} {L:Prs} (h:IAt T k W v L) (a:Agr T W W'):IAt T k W' v L:=by
 obtain ⟨l,h1,h2,h3⟩:=h
 exact ⟨l,xb8n h1 a (fun x hx=>(h2 x hx).1),fun x hx=>⟨(h2 x hx).1,Nat.lt_of_lt_of_le (h2 x hx).2 a.1⟩,h3.agr a⟩
theorem IAt.nil (T:Nat→Prop) (k:Nat) (W:World):IAt T k W (.slice none 0 0) []:=⟨[],RdC.nil _ _,by simp [blk],PR.nil _ _⟩
theorem IAt.parts {T:Nat→Prop} {k:Nat} {W:World} {v:Value} {L:Prs} (h:IAt T k W v L):∃ (ao:Option Addr) (c:Nat) (l:List VP),v = .slice ao L.length c∧L.length≤c∧c≤9223372036854775807∧l.length = L.length∧PR T W l L ∧
  (0 < L.length→∃ b off,ao = some ⟨b,off,none⟩∧T b∧∀ i,i < L.length→W.rangeAt b (off + i * 34) (itC ((hsZ k).kd (L.getD i ([],[])).1) (l.getD i (undef,undef)).1 (l.getD i (undef,undef)).2)):=by
 obtain ⟨l,⟨ao,len,cap,rfl,h1,h2,h3,h4⟩,hb,hp⟩:=h
 have hl:=hp.1
 rw [xa9b hl,hl] at h1
 subst h1
 refine ⟨ao,cap,l,rfl,h2,h3,hl,hp,fun h0=>?_⟩
 obtain ⟨b,off,rfl,hc⟩:=h4 h0
 refine ⟨b,off,rfl,(hb b (by simp [blk])).1,fun i hi=>?_⟩
 have h9:=hc i (by rw [xa9b hl,hl]; exact hi)
 rw [itR_at hl i (by omega)] at h9
 exact h9
theorem xb5g {w:World} {v:Value} {bs:List Nat} (h:Rd w v bs):v.oneCell' = true:=by obtain ⟨_,_,_,rfl,_⟩:=h; rfl
theorem PR.one' {T:Nat→Prop} {W:World} {l:List VP} {L:Prs} (h:PR T W l L) (i:Nat) (hi:i < l.length):(l.getD i (undef,undef)).1.oneCell' = true∧(l.getD i (undef,undef)).2.oneCell' = true:=by
 obtain ⟨h1,h2⟩:=(h.2 i hi).now
 exact ⟨xb5g h1,xb5g h2⟩
def tS (T:Nat→Prop) (v:Value):Nat→Prop:=fun y=>T y∧v.ownBlock≠some y
structure ILay (T:Nat→Prop) (B:Nat) (k:Nat) (w:World) (v:Value) (l:List VP) (L:Prs):Prop where
 own:w.ownsRow B 116 34 v l.length (itR k l L).flatten
 pr:PR (tS T v) w l L
theorem ILay.nil (T:Nat→Prop) (B k:Nat) (w:World):ILay T B k w (.slice none 0 0) [] []:=⟨World.ownsRow_nil _ _ _ _,PR.nil _ _⟩
theorem ILay.agr {T:Nat→Prop} {B k:Nat} {w w':World} {v:Value} {l:List VP} {L:Prs} (h:ILay T B k w v l L) (kk:Kept [] w w'):ILay T B k w' v l L:=⟨kk.owns h.own (by simp),h.pr.agr (Agr.nil kk)⟩
theorem ILay.at_ {T:Nat→Prop} {B k:Nat} {w:World} {v:Value} {l:List VP} {L:Prs} (h:ILay T B k w v l L) (hT:∀ y,B≤y→T y):IAt T k w v L:=by
 have hl:=h.pr.1
 refine ⟨l,xa2x (by rw [xa9b hl]; exact h.own) xa2l,fun x hx=>?_,h.pr.mono (fun x hx=>hx.1)⟩
 obtain ⟨ao,cap,rfl⟩:=xa0n h.own
 cases ao with
 | none=>simp [blk] at hx
 | some a =>
  rcases h.own.2 with ⟨e,_⟩ | ⟨g,c,cur,e,hg,_⟩
  ·cases e
  ·injection e with e1
   injection e1 with e2
   have:x = g:=by rw [e2] at hx; simpa [blk] using hx
   have hlt:=(h.own.lt x (by rw [this,e2]; rfl)).2
   exact ⟨hT x (by omega),hlt⟩
theorem ILay.snoc {T:Nat→Prop} {B k:Nat} {w w1:World} {v v':Value} {l:List VP} {L:Prs} {kz vz:Value} {a b:List Nat} (h:ILay T B k w v l L) (hkv:Sty (tS T v) w (fun w=>Rd w kz a∧Rd w vz b))
  (ho:w1.ownsRow B 116 34 v' (l.length + 1) ((itR k l L).flatten++(itR k [(kz,vz)] [(a,b)]).flatten)) (hg:w.grownBy w1 v.ownBlock) (hb:v'.ownBlock = v.ownBlock∨v'.ownBlock = some w.heap.size):ILay T B k w1 v' (l++[(kz,vz)]) (L++[(a,b)]):=by
 have hp:=(h.pr.app (PR.one (S:=tS T v) (W:=w) (x:=kz) (y:=vz) (a:=a) (b:=b) (fun w' k'=>(hkv w' k').1) (fun w' k'=>(hkv w' k').2))).shrink
 have hK:=(Kept.refl v.ownBlock.toList w).grown hg (by intro x hx; left; simp [hx])
 have ha:Agr (lowS (tS T v) w) w w1:=⟨hK.size,fun x hx hl=>hK.block x hl (by
  intro hm
  have:v.ownBlock = some x:=by simpa using hm
  exact hx.1.2 this)⟩
 refine ⟨?_,(hp.agr ha).mono (fun x hx=>⟨hx.1.1,?_⟩)⟩
 ·rw [List.length_append,xb8c h.pr.1,List.flatten_append]; exact ho
 ·rcases hb with e | e
  ·rw [e]; exact hx.1.2
  ·rw [e]; intro e2; have h2:=hx.2; injection e2 with e3; omega
theorem infoItp:∃ i,Tryz.prog.info? 116 = some i∧i.zero = some (.agg zit)∧i.size = 34:=by
 have h:=Tryz.infoIt
 generalize Tryz.prog.info? 116 = o at h
 cases o with
 | none=>cases h
 | some i =>
  have h1:=Option.some.inj h
  exact ⟨i,rfl,(Prod.mk.inj h1).1,(Prod.mk.inj (Prod.mk.inj h1).2).1⟩
theorem xb7i {o:Oper} {a:Act} (w:World) (x:Operand) (ho:o.op = .buildSlice 54 1 #[(0,x)]) (cs:List Value) (hcs:cs.length = 34) (hx:a.eval x = .agg cs.toArray):(execOp a.eval o).run Tryz.prog w = .ok (.value (.slice (some ⟨w.heap.size,0,none⟩) 1 1)) (w.alloc (.cells cs.toArray 116)):=by
 obtain ⟨i0,hi,hz0,hz1⟩:=infoItp
 have h9:=Great.fill_whole (s:=34) (by omega) [Value.agg cs.toArray] ((Array.range (1 * 34)).map ((Value.agg zit).cells[· % (Value.agg zit).cells.size]!)) (by
  intro v hv
  have e:v = Value.agg cs.toArray:=by simpa using hv
  subst e
  show cs.toArray.size = 34
  rw [List.size_toArray,hcs]) (by simp)
 have hb:=run_buildSlice w 54 116 1 #[(0,.agg cs.toArray)] cs.toArray i0 _ Tryz.underlying54 hi hz0 (by rw [hz1]; decide) (by rw [hz1]; decide) (by
  rw [hz1]
  refine Eq.trans h9 ?_
  show some (cs.toArray.toList++[]).toArray = some cs.toArray
  rw [List.append_nil])
 unfold execOp
 simp only [ho,List.map_toArray,List.map_cons,List.map_nil,hx,Sem.run_bind,hb,Result.andThen_ok]
 rfl
theorem xa1d {ops:Array Oper} {rest:List Oper} {o:Oper} {a:Act} {w:World} {Q:Exit→Act→World→Prop} (hw:Region.wanted o (yielded ops a.tmps) = true) (x:Operand) (ho:o.op = .buildSlice 54 1 #[(0,x)]) (cs:List Value) (hcs:cs.length = 34) (hx:a.eval x = .agg cs.toArray)
  (h:wpList Tryz.prog ops Q rest (a.put o.dst (.slice (some ⟨w.heap.size,0,none⟩) 1 1)) (w.alloc (.cells cs.toArray 116))):wpList Tryz.prog ops Q (o :: rest) a w :=
 wpList_want hw fun _ hK=>by
  unfold Oper.wp
  rw [xb7i w x ho cs hcs hx]
  exact hK _ _ h
theorem lit_rd {W:World} {k g:Nat} {q v:List Nat} {kv vv:Value} (h:W.heap[g]? = some (.cells (itC ((hsZ k).kd q) kv vv).toArray 116 (0,0))):RdC 34 W (.slice (some ⟨g,0,none⟩) 1 1) (itR k [(kv,vv)] [(q,v)]) :=
 ⟨_,1,1,rfl,rfl,Nat.le_refl _,by omega,fun _=>⟨g,0,rfl,fun j hj=>by
  have h0:j = 0:=by simp [itR] at hj; omega
  subst h0
  exact xa0o [] (itC ((hsZ k).kd q) kv vv) [] (by rw [List.nil_append,List.append_nil]; exact h) rfl⟩⟩
theorem xa4b {k:Nat} {q v:List Nat} {kv vv:Value} (h1:kv.oneCell' = true) (h2:vv.oneCell' = true):∀ r∈itR k [(kv,vv)] [(q,v)],∀ u∈r,u.oneCell' = true:=by
 intro r hr u hu
 have e:r = itC ((hsZ k).kd q) kv vv:=by simpa [itR] using hr
 subst e
 exact xb5v h1 h2 u hu
end
section
open Go Go.RowKit Go.BigFrame
section
variable {P:Program} {Q:Exit→Act→World→Prop} {S:World→Prop}
theorem xb6a {id:Nat} {O:Array Oper} {a:Act} {w:World} {R C:List Nat} {rs cs:List Oper} (hm:P.follows .mixedOrders = true) (hb:linB O R C [] = true) (hR:R.map (O[·]?) = rs.map some) (hC:C.map (O[·]?) = cs.map some) (hg:cs.all (fun o=>o.guard.isNone) = true)
  (hS:S w.drew) (h:LinG P O S (ChL P Q S (Q .normal) cs) rs a w.drew):(Code.region id O true).wp P Q a w:=by
 unfold linB at hb
 simp only [Bool.and_eq_true,decide_eq_true_eq] at hb
 obtain ⟨⟨b1,b2⟩,b3,b4,b5,b6⟩:=hb
 rw [List.all_eq_true] at hg
 refine wp_region_noPanic ?_
 refine wp_region_held_drew (S:=S) hm hS (fun _=>?_)
 rw [b2]
 have h2:=fun a w h=>xa1q (P:=P) (Q:=Q) (S:=S) (xa2h (decide_eq_true b6)) C cs (linD R (linS O)) a w hC (fun o ho=>by simpa using hg o ho) b4 rfl h
 have:=xa4h (P:=P) (Q:=Q) (S:=S) b1 h2 R rs (linS O) a w.drew hR b3 rfl hS h
 unfold linS at this
 rw [show R.length + (C.length + (([]:List Nat).length + 0)) = R.length + (C.length + 0) from rfl]
 rw [show R.length + (C.length + (([]:List Nat).length + 0)) = R.length + (C.length + 0) from rfl] at b2
 rw [b2] at this
 exact this
end
theorem lr_or {P:Program} {Q:Exit→Act→World→Prop} {id:Nat} {o0 o1 o2 o3 o4 o5:Oper} {a:Act} {w:World} (hm:P.follows .mixedOrders = true) (hb:linB #[o0,o1,o2,o3,o4,o5] [0,1,2,3] [4,5] [] = true) (hg:([o0,o1,o2,o3]++([o4,o5]++[])).all (fun o=>o.guard.isNone) = true) (S:World→Prop) (hS:S w.drew)
  (h:LinY P S (ChL P Q S (Q .normal) [o4,o5]) [o0,o1,o2,o3] a w.drew):(Code.region id #[o0,o1,o2,o3,o4,o5] true).wp P Q a w:=xa1b (R:=[0,1,2,3]) (C:=[4,5]) (rs:=[o0,o1,o2,o3]) (cs:=[o4,o5]) hm hb rfl rfl hg hS h
theorem lr_si {P:Program} {Q:Exit→Act→World→Prop} {id:Nat} {o0 o1 o2 o3 o4 o5 o6 o7 o8 o9 o10 o11 o12 o13 o14 o15 o16 o17:Oper} {a:Act} {w:World} (hm:P.follows .mixedOrders = true) (hb:linB #[o0,o1,o2,o3,o4,o5,o6,o7,o8,o9,o10,o11,o12,o13,o14,o15,o16,o17] [0,1,2,3,4,5,6,7,8,9,10,11,12,13,14,15,16] [17] [] = true) (hg:[o17].all (fun o=>o.guard.isNone) = true) (S:World→Prop) (hS:S w.drew)
  (h:LinG P #[o0,o1,o2,o3,o4,o5,o6,o7,o8,o9,o10,o11,o12,o13,o14,o15,o16,o17] S (ChL P Q S (Q .normal) [o17]) [o0,o1,o2,o3,o4,o5,o6,o7,o8,o9,o10,o11,o12,o13,o14,o15,o16] a w.drew):(Code.region id #[o0,o1,o2,o3,o4,o5,o6,o7,o8,o9,o10,o11,o12,o13,o14,o15,o16,o17] true).wp P Q a w:=xb6a (R:=[0,1,2,3,4,5,6,7,8,9,10,11,12,13,14,15,16]) (C:=[17]) (rs:=[o0,o1,o2,o3,o4,o5,o6,o7,o8,o9,o10,o11,o12,o13,o14,o15,o16]) (cs:=[o17]) hm hb rfl rfl hg hS h
end
section
open Go.RowKit Go.BigFrame
set_option maxHeartbeats 1000000 in
theorem xb2o (d:List Nat) (i:Nat) (w:World) (hd:Dg d) (hi:i < 64) :
  Calls Tryz.prog 85 #[.agg (brow d),.int .i64 i] w fun e w'=>e = .returned (.int .i64 (dgt d i:Int))∧Kept [] w w':=by
 have hx:d.getD (i / 2) 0 < 256:=by rw [List.getD_eq_getElem?_getD,List.getElem?_eq_getElem (by have:=hd.1; omega)]; exact hd.2 _ (List.getElem_mem _)
 have HA:=hide (heap_alloc_new w (.cells (brow d) 30))
 have ci:=xa0m (uh HA) (i / 2) (by have:=hd.1; omega)
 have HK:=hide ((Kept.refl [] w).alloc (.cells (brow d) 30))
 clear hd
 obtain ⟨x,he⟩:∃ x,d.getD (i / 2) 0 = x:=⟨_,rfl⟩
 obtain ⟨j,hj⟩:∃ j,i / 2 = j:=⟨_,rfl⟩
 rw [he] at hx ci
 have hj2:(i:Int).tdiv 2 = j:=by rw [Int.tdiv_eq_ediv_of_nonneg (by omega)]; omega
 have hj3:(i:Int) / 2 = j:=by omega
 have hj4:(j:Int) < 32:=by omega
 have t1:(x:Int).tdiv 16 = ((x / 16:Nat):Int):=by rw [Int.tdiv_eq_ediv_of_nonneg (by omega)]; omega
 have t2:(x:Int).tmod 16 = ((x % 16:Nat):Int):=by rw [Int.tmod_eq_emod_of_nonneg (by omega)]; omega
 have w1:IntKind.u8.wrap ((x / 16:Nat):Int) = ((x / 16:Nat):Int):=by simp [IntKind.wrap,IntKind.signed,IntKind.bits]; omega
 have w2:IntKind.u8.wrap ((x % 16:Nat):Int) = ((x % 16:Nat):Int):=by simp [IntKind.wrap,IntKind.signed,IntKind.bits]; omega
 have w3:IntKind.i64.wrap ((x / 16:Nat):Int) = ((x / 16:Nat):Int):=by simp [IntKind.wrap,IntKind.signed,IntKind.bits]; omega
 have w4:IntKind.i64.wrap ((x % 16:Nat):Int) = ((x % 16:Nat):Int):=by simp [IntKind.wrap,IntKind.signed,IntKind.bits]; omega
 rw [hj] at ci
 by_cases hp:i % 2 = 0
 ·have hp2:(i:Int) % 2 = 0:=by omega
  have hp3:(i:Int).tmod 2 = 0:=by rw [Int.tmod_eq_emod_of_nonneg (by omega)]; omega
  have HR:=hide (by unfold dgt; rw [if_pos hp,he]:dgt d i = x / 16)
  go_enter Tryz.func85,Tryz.ntmps85
  go_wp2
  go_ret
  exact ⟨by rw [uh HR]; first | rfl | (congr 2; omega),uh HK⟩
 ·have hp2:(i:Int) % 2 = 1:=by omega
  have hp3:(i:Int).tmod 2 = 1:=by rw [Int.tmod_eq_emod_of_nonneg (by omega)]; omega
  have HR:=hide (by unfold dgt; rw [if_neg hp,he]:dgt d i = x % 16)
  go_enter Tryz.func85,Tryz.ntmps85
  go_wp2
  go_ret
  exact ⟨by rw [uh HR]; first | rfl | (congr 2; omega),uh HK⟩
theorem xa8k (v:Value) (bs:List Nat) (w:World) (h:Rd w v bs) :
  Calls Tryz.prog 28 #[v] w fun e w'=>∃ v',e = .returned v'∧Rd w' v' bs∧(∀ x∈blk v',w.heap.size≤x)∧Kept [] w w' :=
 (xb6e v bs w h).mono fun e w' ⟨h1,h2,h3⟩=>⟨_,h1,xa3q h3 h.byte h.len,by simp [blk],h2⟩
theorem itmI:∃ i,Tryz.prog.info? 116 = some i∧i.zero = some (.agg zit):=by
 obtain ⟨i,h1,h2,_⟩:=infoItp
 exact ⟨i,h1,h2⟩
theorem fitm:∀ fs,Tryz.prog.underlying 116 = some (.struct fs)→fs.toList.mapM (fun f=>(Tryz.prog.info? f.type).map fun i=>(f.offset,i.size)) = some [(0,32),(32,2)]:=by
 intro fs hfs
 rw [Tryz.underlying116] at hfs
 injection hfs with hfs
 injection hfs with hfs
 subst hfs
 kernel_rfl
theorem xb0d (D:List Nat) (hD:D.length = 32) (x y:Value):Tryz.prog.built 116 [(0,.agg (brow D)),(1,.agg #[x,y])] = some (itC D x y).toArray:=by
 obtain ⟨it,hit,hz⟩:=itmI
 obtain ⟨fs,hfs⟩:∃ fs,Tryz.prog.underlying 116 = some (.struct fs):=⟨_,Tryz.underlying116⟩
 have hpl:=fitm fs hfs
 unfold Program.built
 rw [hit,hfs]
 simp only [hz,hpl,Value.cells]
 unfold zit itC
 have z1:(List.replicate 32 0:List Nat).length = 32:=List.length_replicate
 generalize (List.replicate 32 0:List Nat) = z at z1 ⊢
 have s1:=xa1e (place:=([(0,32),(32,2)].toArray[·]?)) (i:=0) (n:=32) (rest:=[(1,.agg #[x,y])]) [] (z.map u8) ([.slice none 0 0,.slice none 0 0]++[]) (D.map u8) (X:=.agg (brow D)) rfl rfl (by rw [List.length_map,hD]) (by rw [List.length_map,z1])
 have s2:=xa1e (place:=([(0,32),(32,2)].toArray[·]?)) (i:=1) (n:=2) (rest:=[]) (D.map u8) [.slice none 0 0,.slice none 0 0] [] [x,y] (X:=.agg #[x,y]) rfl (by show some (32,2) = some ((D.map u8).length,2); rw [List.length_map,hD]) rfl rfl
 exact s1.trans s2
set_option maxHeartbeats 2000000 in
theorem xb7q (k:Nat) (kv vv:Value) (q v:List Nat) (w:World) (hk:1≤k∧k≤32) (hku:Rd w kv q) (hvu:Rd w vv v) (hq:q.length≤140737488351232) :
  Calls Tryz.prog 78 #[.int .i64 k,kv,vv] w fun e w'=>∃ kz vz,e = .returned (.agg (itC ((hsZ k).kd q) kz vz).toArray)∧(Rd w' kz q∧Rd w' vz v)∧(∀ x,x∈blk kz∨x∈blk vz→w.heap.size≤x)∧Kept [] w w':=by
 have hDl:((hsZ k).kd q).length = 32:=xa0e _ _
 have hDe:sumD (k:Int) (2 :: q) = (hsZ k).kd q:=rfl
 have HKU:=hide hku
 have HVU:=hide hvu
 generalize (hsZ k).kd q = D at hDl hDe ⊢
 have HDE:=hide hDe
 have HZ0:=hide (heap_alloc_new w (.cells zit 116))
 have HK0:=hide ((Kept.refl [] w).alloc (.cells zit 116))
 clear hku hvu hDe
 go_enter Tryz.func78,Tryz.ntmps78
 go_wp2_with fail
 rw [lit_it]
 refine Calls.mono (xb2n k kv q _ hk ((uh HKU).old (uh HK0) (by simp)) hq) ?_
 rintro e w1 ⟨rfl,k1⟩
 rw [uh HDE]
 have HK1:=hide ((uh HK0).trans k1 (by simp))
 have HZ1:=hide (k1.heap (uh HZ0) (by simp))
 clear k1
 go_wp2_with fail
 refine Calls.mono (xa8k kv q _ ((uh HKU).old (uh HK1) (by simp))) ?_
 rintro e w2 ⟨kz,rfl,ra,na,k2⟩
 have HK2:=hide ((uh HK1).trans k2 (by simp))
 have HZ2:=hide (k2.heap (uh HZ1) (by simp))
 have HRA:=hide ra
 have HNA:=hide na
 obtain ⟨p1,p2,p3,rfl,_⟩:=id ra
 clear k2 ra na
 go_wp2_with fail
 refine Calls.mono (xa8k vv v _ ((uh HVU).old (uh HK2) (by simp))) ?_
 rintro e w3 ⟨vz,rfl,rb,nb,k3⟩
 have HK3:=hide ((uh HK2).trans k3 (by simp))
 have HZ3:=hide (k3.heap (uh HZ2) (by simp))
 have HRA3:=hide ((uh HRA).old k3 (by simp))
 have HRB:=hide rb
 have HNB:=hide nb
 obtain ⟨r1,r2,r3,rfl,_⟩:=id rb
 clear k3 rb nb
 have HB1:=hide (xb0d D hDl (.slice p1 p2 p3) (.slice r1 r2 r3))
 have hsz:=xa1a hDl (.slice p1 p2 p3) (.slice r1 r2 r3)
 have hone:=xa6m (D:=D) (kv:=.slice p1 p2 p3) (vv:=.slice r1 r2 r3) rfl rfl
 go_wp2_with (first
  | (refine xa0p rfl 46 _ rfl #[.slice p1 p2 p3,.slice r1 r2 r3] (by simp only [List.map_toArray,List.map_cons,List.map_nil]; exact xa6z undef undef) ?_)
  | (refine xa0p rfl 116 _ rfl (itC D (.slice p1 p2 p3) (.slice r1 r2 r3)).toArray (by simp only [List.map_toArray,List.map_cons,List.map_nil]; exact uh HB1) ?_)
  | (refine wpList_store_row rfl 116 (.tmp 6) (.tmp 15) rfl w.heap.size (itC D (.slice p1 p2 p3) (.slice r1 r2 r3)).toArray rfl rfl _ zit (uh HZ3) (by rw [hsz]; exact Tryz.size_it) (by rw [hsz]; rfl) hone ?_))
 have hs4:=(uh HK3)
 have k4:=(Kept.refl [w.heap.size] w3).setRow (g:=w.heap.size) (Or.inl (by simp)) (itC D (.slice p1 p2 p3) (.slice r1 r2 r3)).toArray
 refine bodyPost_ret (v:=.agg (itC D (.slice p1 p2 p3) (.slice r1 r2 r3)).toArray) ?_ rfl ⟨.slice p1 p2 p3,.slice r1 r2 r3,rfl,⟨(uh HRA3).kept k4 ?_,(uh HRB).kept k4 ?_⟩,?_,(uh HK3).setRow (Or.inr (Nat.le_refl _)) _⟩
 ·exact results_cell_row rfl _ _ w.heap.size _ _ (0,0) _ rfl (setRow_heap _ _ _ _ _ _ (uh HZ3)) Tryz.underlying116 rfl (by rw [hsz]; exact Tryz.size_it)
 ·intro x hx hm
  have h1:=uh HNA x hx
  have h2:=lt_of_block (uh HZ1)
  simp at hm; omega
 ·intro x hx hm
  have h1:=uh HNB x hx
  have h2:=lt_of_block (uh HZ2)
  simp at hm; omega
 ·intro x hx
  have h0:=(uh HK1).size
  have h2:=(uh HK2).size
  rcases hx with hx | hx
  ·have h1:=uh HNA x hx; omega
  ·have h1:=uh HNB x hx; omega
set_option maxHeartbeats 2000000 in
theorem xb2e (k:Nat) (kx vx ky vy:Value) (a b va vb:List Nat) (w:World) (ha:Rd w kx a) (hb:Rd w ky b) (ha':Rd w vx va) (hb':Rd w vy vb) :
  Calls Tryz.prog 79 #[.agg (itC ((hsZ k).kd a) kx vx).toArray,.agg (itC ((hsZ k).kd b) ky vy).toArray] w fun e w'=>e = .returned (.int .i64 (ordI (hsZ k) a b))∧Kept [] w w':=by
 have hA:Dg ((hsZ k).kd a):=xa2v _ _
 have hB:Dg ((hsZ k).kd b):=xa2v _ _
 obtain ⟨a1,a2,a3,rfl,_⟩:=id ha
 obtain ⟨b1,b2,b3,rfl,_⟩:=id hb
 obtain ⟨c1,c2,c3,rfl,_⟩:=id ha'
 obtain ⟨d1,d2,d3,rfl,_⟩:=id hb'
 have HAu:=hide ha
 have HBu:=hide hb
 have hord:ordI (hsZ k) a b = if lessI ((hsZ k).kd a) ((hsZ k).kd b) = 0 then lessI a b else lessI ((hsZ k).kd a) ((hsZ k).kd b):=rfl
 rw [hord]
 generalize (hsZ k).kd a = A at hA ⊢
 generalize (hsZ k).kd b = B at hB ⊢
 obtain ⟨R,hR⟩:∃ R,(if lessI A B = 0 then lessI a b else lessI A B) = R:=⟨_,rfl⟩
 rw [hR]
 have HR:=hide hR
 clear hord ha hb ha' hb' hR
 have HX:=hide (heap_alloc_new w (.cells (itC A (.slice a1 a2 a3) (.slice c1 c2 c3)).toArray 116))
 have HK1:=hide ((Kept.refl [] w).alloc (.cells (itC A (.slice a1 a2 a3) (.slice c1 c2 c3)).toArray 116))
 obtain ⟨W1,hW1⟩:∃ W1,w.alloc (.cells (itC A (.slice a1 a2 a3) (.slice c1 c2 c3)).toArray 116) = W1:=⟨_,rfl⟩
 rw [hW1] at HX HK1
 have HY:=hide (heap_alloc_new W1 (.cells (itC B (.slice b1 b2 b3) (.slice d1 d2 d3)).toArray 116))
 have HK2:=hide ((Kept.refl [] W1).alloc (.cells (itC B (.slice b1 b2 b3) (.slice d1 d2 d3)).toArray 116))
 have HX2:=hide ((uh HK2).heap (uh HX) (by simp))
 obtain ⟨W2,hW2⟩:∃ W2,W1.alloc (.cells (itC B (.slice b1 b2 b3) (.slice d1 d2 d3)).toArray 116) = W2:=⟨_,rfl⟩
 rw [hW2] at HY HK2 HX2
 have HK:=hide ((uh HK1).trans (uh HK2) (by simp))
 obtain ⟨rA,cA,_⟩:=it_row (uh HX2) hA.1
 obtain ⟨rB,cB,_⟩:=it_row (uh HY) hB.1
 obtain ⟨gx,hgx⟩:∃ gx,w.heap.size = gx:=⟨_,rfl⟩
 obtain ⟨gy,hgy⟩:∃ gy,W1.heap.size = gy:=⟨_,rfl⟩
 rw [hgx] at rA cA
 rw [hgy] at rB cB
 have RA:=hide (show Rd W2 (.slice (some ⟨gx,0,none⟩) 32 32) A from ⟨_,32,32,rfl,hA.1,Nat.le_refl _,⟨by omega,by omega⟩,(fun h=>by cases h),hA.2,fun _=>⟨gx,0,rfl,fun i hi=>by
  have h9:=rA i (u8 (A.getD i 0)) (by rw [List.getElem?_map,List.getD_eq_getElem?_getD,List.getElem?_eq_getElem (by rw [hA.1]; exact hi)]; rfl)
  exact h9⟩⟩)
 have RB:=hide (show Rd W2 (.slice (some ⟨gy,0,none⟩) 32 32) B from ⟨_,32,32,rfl,hB.1,Nat.le_refl _,⟨by omega,by omega⟩,(fun h=>by cases h),hB.2,fun _=>⟨gy,0,rfl,fun i hi=>by
  have h9:=rB i (u8 (B.getD i 0)) (by rw [List.getElem?_map,List.getD_eq_getElem?_getD,List.getElem?_eq_getElem (by rw [hB.1]; exact hi)]; rfl)
  exact h9⟩⟩)
 have HCA:=hide cA
 have HCB:=hide cB
 clear rA rB cA cB
 go_enter Tryz.func79,Tryz.ntmps79
 go_upto_region 1 with fail
 try rw [hgx]
 try rw [hW1]
 try rw [hgy]
 try rw [hW2]
 refine lr_or (by kernel_rfl) (by kernel_rfl) rfl (fun W=>Kept [] W2 W) (Kept.refl _ W2).drew ?_
 refine LinY.rd (.pointer (some ⟨gx,0,none⟩)) (fun W hW=>by go_simp) (by simp only [Act.put,sa1,sa2,sa3]; rfl) ?_
 refine LinY.rd (.slice (some ⟨gx,0,none⟩) 32 32) (fun W hW=>by go_simp) (by simp only [Act.put,sa1,sa2,sa3]; rfl) ?_
 refine LinY.rd (.pointer (some ⟨gy,0,none⟩)) (fun W hW=>by go_simp) (by simp only [Act.put,sa1,sa2,sa3]; rfl) ?_
 refine LinY.rd (.slice (some ⟨gy,0,none⟩) 32 32) (fun W hW=>by go_simp) (by simp only [Act.put,sa1,sa2,sa3]; rfl) ?_
 have hd2:=(Kept.refl [] W2).drew
 refine LinY.fin (ChL.call rfl Tryz.call115 [.slice (some ⟨gx,0,none⟩) 32 32,.slice (some ⟨gy,0,none⟩) 32 32] rfl (xb1q _ _ A B W2.drew ((uh RA).old hd2 (by simp)) ((uh RB).old hd2 (by simp))) ?_)
 rintro e w4 ⟨rfl,k4⟩
 have hk4:=hd2.trans k4 (by simp)
 refine ⟨_,rfl,hk4,?_⟩
 simp only [Act.put,sa1,sa2,sa3]
 refine ChL.op (.int .i64 (lessI A B)) (by go_simp) hk4 (by simp only [Act.put,sa1,sa2,sa3]; rfl) (ChL.fin ?_)
 have HK4:=hide ((uh HK).trans hk4 (by simp))
 have cA4:=hk4.cell (uh HCA) (by simp)
 have cB4:=hk4.cell (uh HCB) (by simp)
 by_cases hz:lessI A B = 0
 ·have HRR:=hide (show lessI a b = R by have h9:=uh HR; rw [if_pos hz] at h9; exact h9)
  obtain ⟨X,hX⟩:∃ X,lessI A B = X:=⟨_,rfl⟩
  clear HR
  rw [hX] at hz ⊢
  subst hz
  go_wp2_with fail
  refine Calls.mono (xb1q _ _ a b w4 ((uh HAu).old (uh HK4) (by simp)) ((uh HBu).old (uh HK4) (by simp))) ?_
  rintro e w5 ⟨rfl,k5⟩
  have HK5:=hide ((uh HK4).trans k5 (by simp))
  clear k5
  go_wp2_with fail
  go_ret
  exact ⟨by rw [uh HRR]; rfl,uh HK5⟩
 ·have hrr:lessI A B = R:=by have h9:=uh HR; rw [if_neg hz] at h9; exact h9
  clear HR
  rw [hrr] at hz ⊢
  clear hrr
  have hz2:((R != 0):Bool) = true:=by rw [bne_iff_ne]; exact hz
  go_wp2_with fail
  go_ret
  exact ⟨rfl,uh HK4⟩
theorem sty_up {T:Nat→Prop} {v:Value} {w W:World} {P:World→Prop} (h:Sty T w P) (k:Kept [] w W) (ho:∀ x,v.ownBlock = some x→w.heap.size≤x):Sty (tS T v) W P:=fun w' a =>
 h.shrink w' ⟨Nat.le_trans k.size a.1,fun x hx hl=>(a.2 x ⟨hx.1,fun e=>by have:=ho x e; have:=hx.2; omega⟩ (Nat.lt_of_lt_of_le hl k.size)).trans (k.block x hl (by simp))⟩
theorem xb5y (H:Hs) (d i:Nat) (L:Prs) (e:List Nat × List Nat):ch H d i (L++[e]) = ch H d i L++(if dgt (H.kd e.1) d = i then [e] else []):=by
 unfold ch
 rw [List.filter_append,List.filter_cons]
 by_cases h:dgt (H.kd e.1) d = i
 ·rw [if_pos (by simpa using h),if_pos h]; rfl
 ·rw [if_neg (by simpa using h),if_neg h]; rfl
theorem ch_len (H:Hs) (d i:Nat) (L:Prs):(ch H d i L).length≤L.length:=List.length_filter_le _ _
set_option maxHeartbeats 4000000 in
theorem xb1x (T:Nat→Prop) (k d i:Nat) (mv:Value) (L:Prs) (w:World) (hM:IAt T k w mv L) (hd:d < 64) (hi:i < 16) (hl:L.length≤1000000000) (hT:∀ y,w.heap.size≤y→T y) :
  Calls Tryz.prog 84 #[mv,.int .i64 d,.int .i64 i] w fun e w'=>∃ v',e = .returned v'∧IAt T k w' v' (ch (hsZ k) d i L)∧Kept [] w w':=by
 have HM:=hide hM
 obtain ⟨ao,c,l,rfl,hc1,hc2,hll,hpr,hcell⟩:=hM.parts
 have HCE:=hide hcell
 have HPR:=hide hpr
 obtain ⟨n,hn⟩:∃ n,L.length = n:=⟨_,rfl⟩
 have HN:=hide hn
 rw [hn] at hc1 hl hll HCE ⊢
 clear hM hcell hpr hn
 go_enter Tryz.func84,Tryz.ntmps84
 go_wp2
 go_loopw [7,12] (fun t7 t12 wr=>∃ (j:Nat) (v:Value) (lx:List VP),t12 = .int .i64 j∧t7 = v∧j≤n∧Hid (ILay T w.heap.size k wr v lx (ch (hsZ k) d i (L.take j)))∧Hid (Kept [] w wr)) (fun _ t _=>n - (intOf t).toNat)
 case atStart=>exact ⟨0,.slice none 0 0,[],rfl,rfl,Nat.zero_le _,hide (ILay.nil _ _ _ _),hide (Kept.refl _ _)⟩
 case round =>
  obtain ⟨j,v,lx,rfl,rfl,hj,HLx,HKr⟩:=hrel
  by_cases hlt:j < n
  ·have hlt':(j:Int) < n:=by omega
   obtain ⟨b,off,rfl,hTb,hcl⟩:=uh HCE (by omega)
   have hRG:=hcl j hlt
   have hone:=(uh HPR).one' j (by omega)
   have hrd:=(uh HPR).2 j (by omega)
   generalize (l.getD j (undef,undef)).1 = kx at hRG hone hrd
   generalize (l.getD j (undef,undef)).2 = vx at hRG hone hrd
   have HSNOC:=hide (show L.take (j + 1) = L.take j++[L.getD j ([],[])] by
    have hjL:j < L.length:=by have:=uh HN; omega
    rw [List.take_succ_eq_append_getElem hjL,List.getD_eq_getElem?_getD,List.getElem?_eq_getElem hjL]; rfl)
   generalize L.getD j ([],[]) = ej at hRG hrd HSNOC
   obtain ⟨ka,va⟩:=ej
   have hDg:Dg ((hsZ k).kd ka):=xa2v _ _
   obtain ⟨D,hD⟩:∃ D,(hsZ k).kd ka = D:=⟨_,rfl⟩
   simp only [hD] at hRG
   rw [hD] at hDg
   have HD:=hide hD
   have HSTY:=hide hrd
   have HRG:=hide (show wr.rangeAt b (off + j * 34) (itC D kx vx) from fun u z hz=>(uh HKr).cell (hRG u z hz) (by simp))
   have HZ1:=hide (heap_alloc_new wr (.cells zit 116))
   have HN2:=hide (setRow_heap _ _ _ (itC D kx vx).toArray _ _ (uh HZ1))
   have HK12:=hide ((Kept.refl [] wr).alloc (.cells zit 116) |>.setRow (g:=wr.heap.size) (Or.inr (Nat.le_refl _)) (itC D kx vx).toArray)
   obtain ⟨W2,hW2⟩:∃ W2,(wr.alloc (.cells zit 116)).setRow wr.heap.size (itC D kx vx).toArray = W2:=⟨_,rfl⟩
   rw [hW2] at HN2 HK12
   have HK2:=hide ((uh HKr).trans (uh HK12) (by simp))
   have hwsz:w.heap.size≤wr.heap.size:=by have:=(uh HKr).size; omega
   obtain ⟨rD2,cK2,cV2⟩:=it_row (uh HN2) hDg.1
   have HRD2:=hide rD2
   have HCK2:=hide cK2
   have HCV2:=hide cV2
   have HPA2:=hide (xb2q (uh HN2) hDg.1)
   obtain ⟨kx1,kx2,kx3,rfl,_⟩:=hrd.now.1
   obtain ⟨vx1,vx2,vx3,rfl,_⟩:=hrd.now.2
   clear hrd hRG hcl rD2 hD hDg hone
   go_wp2_with (first
   | (refine wpList_load_mid rfl 116 (.tmp 14) rfl b (off + j * 34) rfl (itC D (.slice kx1 kx2 kx3) (.slice vx1 vx2 vx3)) _ (uh HRG) Tryz.underlying116 rfl (by rw [xa2c (by rw [← uh HD]; exact xa0e _ _)]; exact Tryz.size_it) ?_)
   | (rw [lit_it]; refine wpList_store_row rfl 116 (.tmp 9) (.tmp 15) rfl wr.heap.size (itC D (.slice kx1 kx2 kx3) (.slice vx1 vx2 vx3)).toArray rfl rfl _ zit (uh HZ1) (by rw [xa1a (by rw [← uh HD]; exact xa0e _ _)]; exact Tryz.size_it) (by rw [xa1a (by rw [← uh HD]; exact xa0e _ _)]; rfl) (xa6m rfl rfl) ?_; rw [hW2]; simp only [Act.put])
   | (refine wpList_load_mid rfl 30 (.tmp 16) rfl wr.heap.size 0 rfl (D.map u8) _ (uh HRD2) Tryz.underlying30 rfl (by rw [List.length_map,show D.length = 32 by rw [← uh HD]; exact xa0e _ _]; exact Tryz.size_dig) ?_))
   refine Calls.mono (xb2o D d W2 (by rw [← uh HD]; exact xa2v _ _) hd) ?_
   rintro e w4 ⟨rfl,k4⟩
   have HN4:=hide (k4.heap (uh HN2) (by simp))
   have HK4:=hide ((uh HK2).trans k4 (by simp))
   have HL4:=hide (((uh HLx).agr (uh HK12)).agr k4)
   have HZD:=hide (show dgt ((hsZ k).kd ka) d = dgt D d by rw [uh HD])
   clear k4
   generalize dgt D d = z at HZD ⊢
   by_cases hz:z = i
   ·subst hz
    obtain ⟨vo,vc,rfl⟩:=xa0n (uh HL4).own
    have hown:∀ z,(Value.slice vo lx.length vc).ownBlock = some z→w.heap.size≤z:=fun z hz=>((uh HL4).own.lt z hz).1
    have HW5:=hide (heap_alloc_new w4 (.cells (itC D (.slice kx1 kx2 kx3) (.slice vx1 vx2 vx3)).toArray 116))
    have HK45:=hide ((Kept.refl [] w4).alloc (.cells (itC D (.slice kx1 kx2 kx3) (.slice vx1 vx2 vx3)).toArray 116))
    have HL5:=hide ((uh HL4).agr (uh HK45))
    have HK5:=hide ((uh HK4).trans (uh HK45) (by simp))
    have HRL:=hide (lit_rd (k:=k) (q:=ka) (v:=va) (kv:=(.slice kx1 kx2 kx3)) (vv:=(.slice vx1 vx2 vx3)) (by rw [uh HD]; exact uh HW5))
    have hln:=(uh HL4).pr.1
    have hbnd:lx.length + 1≤1000000001:=by have h1:=ch_len (hsZ k) d z (L.take j); rw [List.length_take] at h1; omega
    clear hln
    go_wp2_with (first
   | (refine wpList_load_row rfl 116 (.tmp 9) rfl wr.heap.size rfl 116 (itC D (.slice kx1 kx2 kx3) (.slice vx1 vx2 vx3)).toArray (0,0) _ (uh HN4) Tryz.underlying116 rfl (by rw [xa1a (by rw [← uh HD]; exact xa0e _ _)]; exact Tryz.size_it) ?_)
   | (refine xa1d rfl (.tmp 23) rfl (itC D (.slice kx1 kx2 kx3) (.slice vx1 vx2 vx3)) (xa2c (by rw [← uh HD]; exact xa0e _ _) _ _) rfl ?_)
   | (at_builtin; refine xa0k rfl 54 116 (.tmp 22) (.tmp 24) rfl rfl _ w.heap.size (.agg zit) 34 80 Tryz.underlying54 Tryz.infoIt rfl (by decide) (.slice vo lx.length vc) lx.length (itR k lx (ch (hsZ k) d z (L.take j))).flatten (uh HL5).own (some ⟨w4.heap.size,0,none⟩) 1 1 (itR k [((.slice kx1 kx2 kx3),(.slice vx1 vx2 vx3))] [(ka,va)]) (uh HRL) xa2l (xa4b rfl rfl) (by omega) (by omega) (uh HK5).size rfl rfl ?_; intro ao7 c7 w7 HO7 HG7 HA7))
    have HS7:=hide ((uh HL5).snoc (a:=ka) (b:=va) (sty_up (uh HSTY) (uh HK5) hown) (uh HO7) (uh HG7) (uh HA7))
    have HK7:=hide ((uh HK5).grown (uh HG7) (fun z hz=>Or.inr (hown z hz)))
    clear hown hbnd
    refine ⟨⟨j + 1,.slice ao7 (lx.length + 1) c7,_,by go_num,rfl,hlt,hide (by rw [uh HSNOC,xb5y,if_pos (uh HZD)]; exact uh HS7),HK7⟩,?_⟩
    simp [intOf]; omega
   ·have hz2:((z:Int) == (i:Int)) = false:=by rw [beq_eq_false_iff_ne]; omega
    go_wp2_with fail
    refine ⟨⟨j + 1,_,lx,by go_num,rfl,hlt,hide (by rw [uh HSNOC,xb5y,if_neg (by rw [uh HZD]; exact hz),List.append_nil]; exact uh HL4),HK4⟩,?_⟩
    simp [intOf]; omega
  ·have hje:j = n:=by omega
   subst hje
   have hlt':¬ (j:Int) < j:=by omega
   go_wp2
   go_ret
   have h9:=(uh HLx).at_ hT
   rw [List.take_of_length_le (by have:=uh HN; omega)] at h9
   exact ⟨_,rfl,h9,uh HKr⟩
theorem rdk_of {T:Nat→Prop} {W:World} {v:Value} {l:List VP} {L:Prs} (h:RdC 2 W v (kvR l)) (hp:PR T W l L):RdK W v L:=by
 obtain ⟨ao,len,cap,rfl,hl,hc1,hc2,hcell⟩:=h
 rw [xa0t] at hl
 have e1:∀ i,i < l.length→(l.map (·.1)).getD i undef = (l.getD i (undef,undef)).1∧(l.map (·.2)).getD i undef = (l.getD i (undef,undef)).2:=fun i hi=>by
  simp [List.getD_eq_getElem?_getD,List.getElem?_eq_getElem hi]
 refine ⟨_,len,cap,l.map (·.1),l.map (·.2),rfl,by rw [← hl]; exact hp.1.symm,hc1,hc2,fun i hi=>?_,fun h0=>?_⟩
 ·rw [(e1 i (by omega)).1,(e1 i (by omega)).2]; exact (hp.2 i (by omega)).now
 ·obtain ⟨b,off,rfl,hce⟩:=hcell h0
  refine ⟨b,off,rfl,fun i hi=>?_⟩
  have hi':i < l.length:=by omega
  have h7:=hce i (by rw [xa0t]; exact hi')
  have e:(kvR l)[i]'(by rw [xa0t]; exact hi') = [l[i].1,l[i].2]:=kvR_at _ i hi'
  rw [e] at h7
  rw [(e1 i hi').1,(e1 i hi').2]
  simp only [List.getD_eq_getElem?_getD,List.getElem?_eq_getElem hi',Option.getD_some]
  exact ⟨h7 0 _ rfl,h7 1 _ rfl⟩
theorem kvR_tk (l:List VP) (j:Nat) (hj:j < l.length):kvR (l.take (j + 1)) = kvR (l.take j)++[[(l.getD j (undef,undef)).1,(l.getD j (undef,undef)).2]]:=by
 rw [List.take_succ_eq_append_getElem hj,xb1c,List.getD_eq_getElem?_getD,List.getElem?_eq_getElem hj]; rfl
set_option maxHeartbeats 4000000 in
theorem xa7m (T:Nat→Prop) (k:Nat) (mv:Value) (L:Prs) (w:World) (hM:IAt T k w mv L) (hl:L.length≤1000000000) :
  Calls Tryz.prog 55 #[mv] w fun e w'=>∃ v',e = .returned v'∧RdK w' v' L∧Kept [] w w':=by
 have HM:=hide hM
 obtain ⟨ao,c,l,rfl,hc1,hc2,hll,hpr,hcell⟩:=hM.parts
 have HCE:=hide hcell
 have HPR:=hide hpr
 obtain ⟨n,hn⟩:∃ n,L.length = n:=⟨_,rfl⟩
 have HN:=hide hn
 rw [hn] at hc1 hl hll HCE ⊢
 clear hM hcell hpr hn
 go_enter Tryz.func55,Tryz.ntmps55
 go_wp2
 go_loopw [3,8] (fun t7 t12 wr=>∃ (j:Nat) (v:Value),t12 = .int .i64 j∧t7 = v∧j≤n∧Hid (wr.ownsRow w.heap.size 46 2 v j (kvR (l.take j)).flatten)∧Hid (Kept [] w wr)) (fun _ t _=>n - (intOf t).toNat)
 case atStart=>exact ⟨0,.slice none 0 0,rfl,rfl,Nat.zero_le _,hide (World.ownsRow_nil _ _ _ _),hide (Kept.refl _ _)⟩
 case round =>
  obtain ⟨j,v,rfl,rfl,hj,HOx,HKr⟩:=hrel
  by_cases hlt:j < n
  ·have hlt':(j:Int) < n:=by omega
   have HTK:=hide (kvR_tk l j (by omega))
   obtain ⟨b,off,rfl,hTb,hcl⟩:=uh HCE (by omega)
   have hRG:=hcl j hlt
   have hone:=(uh HPR).one' j (by omega)
   have hrd:=(uh HPR).2 j (by omega)
   generalize (l.getD j (undef,undef)).1 = kx at hRG hone hrd HTK
   generalize (l.getD j (undef,undef)).2 = vx at hRG hone hrd HTK
   have HSNOC:=hide (show L.take (j + 1) = L.take j++[L.getD j ([],[])] by
    have hjL:j < L.length:=by have:=uh HN; omega
    rw [List.take_succ_eq_append_getElem hjL,List.getD_eq_getElem?_getD,List.getElem?_eq_getElem hjL]; rfl)
   generalize L.getD j ([],[]) = ej at hRG hrd HSNOC
   obtain ⟨ka,va⟩:=ej
   have hDg:Dg ((hsZ k).kd ka):=xa2v _ _
   obtain ⟨D,hD⟩:∃ D,(hsZ k).kd ka = D:=⟨_,rfl⟩
   simp only [hD] at hRG
   rw [hD] at hDg
   have HD:=hide hD
   have HSTY:=hide hrd
   have HRG:=hide (show wr.rangeAt b (off + j * 34) (itC D kx vx) from fun u z hz=>(uh HKr).cell (hRG u z hz) (by simp))
   have HZ1:=hide (heap_alloc_new wr (.cells zit 116))
   have HN2:=hide (setRow_heap _ _ _ (itC D kx vx).toArray _ _ (uh HZ1))
   have HK12:=hide ((Kept.refl [] wr).alloc (.cells zit 116) |>.setRow (g:=wr.heap.size) (Or.inr (Nat.le_refl _)) (itC D kx vx).toArray)
   obtain ⟨W2,hW2⟩:∃ W2,(wr.alloc (.cells zit 116)).setRow wr.heap.size (itC D kx vx).toArray = W2:=⟨_,rfl⟩
   rw [hW2] at HN2 HK12
   have HK2:=hide ((uh HKr).trans (uh HK12) (by simp))
   have hwsz:w.heap.size≤wr.heap.size:=by have:=(uh HKr).size; omega
   obtain ⟨rD2,cK2,cV2⟩:=it_row (uh HN2) hDg.1
   have HRD2:=hide rD2
   have HCK2:=hide cK2
   have HCV2:=hide cV2
   have HPA2:=hide (xb2q (uh HN2) hDg.1)
   obtain ⟨kx1,kx2,kx3,rfl,_⟩:=hrd.now.1
   obtain ⟨vx1,vx2,vx3,rfl,_⟩:=hrd.now.2
   clear hrd hRG hcl rD2 hD hDg hone
   have HO2:=hide ((uh HK12).owns (uh HOx) (by simp))
   obtain ⟨vo,vc,rfl⟩:=xa0n (uh HOx)
   have hown:∀ z,(Value.slice vo j vc).ownBlock = some z→w.heap.size≤z:=fun z hz=>((uh HOx).lt z hz).1
   have HW5:=hide (heap_alloc_new W2 (.cells #[.slice kx1 kx2 kx3,.slice vx1 vx2 vx3] 46))
   have HK45:=hide ((Kept.refl [] W2).alloc (.cells #[.slice kx1 kx2 kx3,.slice vx1 vx2 vx3] 46))
   have HO5:=hide ((uh HK45).owns (uh HO2) (by simp))
   have HK5:=hide ((uh HK2).trans (uh HK45) (by simp))
   have HRL:=hide (show RdC 2 (W2.alloc (.cells #[.slice kx1 kx2 kx3,.slice vx1 vx2 vx3] 46)) (.slice (some ⟨W2.heap.size,0,none⟩) 1 1) (kvR [(.slice kx1 kx2 kx3,.slice vx1 vx2 vx3)]) from ⟨_,1,1,rfl,rfl,Nat.le_refl _,by omega,fun _=>⟨W2.heap.size,0,rfl,fun j hj=>by
    have h0:j = 0:=by rw [xa0t] at hj; simp at hj; omega
    subst h0
    exact xa0o [] [.slice kx1 kx2 kx3,.slice vx1 vx2 vx3] [] (uh HW5) rfl⟩⟩)
   have hbnd:j + 1≤1000000001:=by omega
   go_wp2_with (first
   | (refine wpList_load_mid rfl 116 (.tmp 10) rfl b (off + j * 34) rfl (itC D (.slice kx1 kx2 kx3) (.slice vx1 vx2 vx3)) _ (uh HRG) Tryz.underlying116 rfl (by rw [xa2c (by rw [← uh HD]; exact xa0e _ _)]; exact Tryz.size_it) ?_)
   | (rw [lit_it]; refine wpList_store_row rfl 116 (.tmp 5) (.tmp 11) rfl wr.heap.size (itC D (.slice kx1 kx2 kx3) (.slice vx1 vx2 vx3)).toArray rfl rfl _ zit (uh HZ1) (by rw [xa1a (by rw [← uh HD]; exact xa0e _ _)]; exact Tryz.size_it) (by rw [xa1a (by rw [← uh HD]; exact xa0e _ _)]; rfl) (xa6m rfl rfl) ?_; rw [hW2]; simp only [Act.put])
   | (refine wpList_load_mid rfl 46 (.tmp 13) rfl wr.heap.size 32 rfl [.slice kx1 kx2 kx3,.slice vx1 vx2 vx3] _ (uh HPA2) Tryz.underlying46 rfl Tryz.size_pair ?_)
   | (refine xa3j rfl (.tmp 14) rfl (.slice kx1 kx2 kx3) (.slice vx1 vx2 vx3) rfl ?_)
   | (at_builtin; refine xa0k rfl 33 46 (.tmp 12) (.tmp 15) rfl rfl _ w.heap.size (.agg #[.slice none 0 0,.slice none 0 0]) 2 48 Tryz.underlying33 Tryz.infoQ rfl (by decide) (.slice vo j vc) j (kvR (l.take j)).flatten (uh HO5) (some ⟨W2.heap.size,0,none⟩) 1 1 (kvR [(.slice kx1 kx2 kx3,.slice vx1 vx2 vx3)]) (uh HRL) (by intro r hr; simp [kvR] at hr; rw [hr]; rfl) (by intro r hr u hu; simp [kvR] at hr; rw [hr] at hu; simp at hu; rcases hu with rfl | rfl <;> rfl) (by omega) (by omega) (uh HK5).size rfl rfl ?_; intro ao7 c7 w7 HO7 HG7 HA7))
   have HK7:=hide ((uh HK5).grown (uh HG7) (fun z hz=>Or.inr (hown z hz)))
   clear hown hbnd
   refine ⟨⟨j + 1,.slice ao7 (j + 1) c7,by go_num,rfl,hlt,hide (by rw [uh HTK,List.flatten_append]; exact uh HO7),HK7⟩,?_⟩
   simp [intOf]; omega
  ·have hje:j = n:=by omega
   subst hje
   have hlt':¬ (j:Int) < j:=by omega
   go_wp2
   go_ret
   have h9:=uh HOx
   rw [List.take_of_length_le (by omega)] at h9
   exact ⟨_,rfl,rdk_of (xa2x (by rw [xa0t,hll]; exact h9) (uh HPR).cell.1) ((uh HPR).agr (Agr.nil (uh HKr))),uh HKr⟩
set_option maxHeartbeats 2000000 in
theorem xa6a (T:Nat→Prop) (k:Nat) (mv:Value) (L:Prs) (w:World) (hk:1≤k∧k≤32) (hM:IAt T k w mv L) (hs:Srt (hsZ k) L) (hl:L.length≤1000000000) :
  Calls Tryz.prog 82 #[mv] w fun e w'=>e = .returned (.bool (sgl (hsZ k) L))∧Kept [] w w':=by
 obtain ⟨ao,c,l,rfl,hc1,hc2,hll,hpr,hcell⟩:=hM.parts
 by_cases h0:L = []
 ·subst h0
  rw [xa9z]
  clear hcell hpr hM
  go_enter Tryz.func82,Tryz.ntmps82
  go_upto_region 1 with fail
  refine lr_si (by kernel_rfl) (by kernel_rfl) rfl (fun W=>Kept [] w W) (Kept.refl _ w).drew ?_
  refine LinG.rd (by rfl) (.slice ao 0 c) (fun W hW=>by go_simp) (by simp only [Act.put,sa1,sa2,sa3]; rfl) ?_
  refine LinG.rd (by rfl) (.int .i64 0) (fun W hW=>by go_simp) (by simp only [Act.put,sa1,sa2,sa3]; rfl) ?_
  refine LinG.rd (by rfl) (.bool true) (fun W hW=>by go_simp) (by simp only [Act.put,sa1,sa2,sa3]; rfl) ?_
  refine LinG.rd (by rfl) (.bool true) (fun W hW=>by go_simp) (by simp only [Act.put,sa1,sa2,sa3]; rfl) ?_
  iterate 12 refine LinG.no (by rfl) (by simp only [Act.put,sa1,sa2,sa3]; rfl) ?_
  refine LinG.rd (by rfl) (.bool true) (fun W hW=>by go_simp) (by simp only [Act.put,sa1,sa2,sa3]; rfl) ?_
  refine LinG.fin (ChL.op (.bool true) (by go_simp) (Kept.refl _ w).drew (by simp only [Act.put,sa1,sa2,sa3]; rfl) (ChL.fin ?_))
  go_wp2
  go_ret
  exact ⟨rfl,(Kept.refl _ w).drew⟩
 ·rw [xb6m (hsZ_ok hk) hs h0]
  have hp:0 < L.length:=by cases L with
   | nil=>exact absurd rfl h0
   | cons y L=>simp
  obtain ⟨b,off,rfl,hTb,hcl⟩:=hcell hp
  have hr0:=hcl 0 hp
  have hr1:=hcl (L.length - 1) (by omega)
  generalize (l.getD 0 (undef,undef)).1 = x0 at hr0
  generalize (l.getD 0 (undef,undef)).2 = y0 at hr0
  generalize (l.getD (L.length - 1) (undef,undef)).1 = x1 at hr1
  generalize (l.getD (L.length - 1) (undef,undef)).2 = y1 at hr1
  have hA:((hsZ k).kd (L.getD 0 ([],[])).1).length = 32:=xa0e _ _
  have hB:((hsZ k).kd (L.getD (L.length - 1) ([],[])).1).length = 32:=xa0e _ _
  generalize (hsZ k).kd (L.getD 0 ([],[])).1 = A at hr0 hA ⊢
  generalize (hsZ k).kd (L.getD (L.length - 1) ([],[])).1 = B at hr1 hB ⊢
  obtain ⟨n,hn⟩:∃ n,L.length = n:=⟨_,rfl⟩
  rw [hn] at hr1 hp hl hc1 ⊢
  have q1:((n:Int) == 0) = false:=by rw [beq_eq_false_iff_ne]; omega
  have q2:IntKind.i64.wrap ((n:Int) - 1) = ((n - 1:Nat):Int):=by simp [IntKind.wrap,IntKind.signed,IntKind.bits]; omega
  have q3:(0:Int) < n:=by omega
  have q4:((n - 1:Nat):Int) < n:=by omega
  have q5:¬ n = 0:=by omega
  have HR0:=hide (show w.rangeAt b off (A.map u8) from fun j u hu=>by
   have h9:=hr0 j u (by rw [itC,List.getElem?_append_left (by rw [List.length_map]; have:=(List.getElem?_eq_some_iff.1 hu).1; simpa using this)]; exact hu)
   simpa using h9)
  have HR1:=hide (show w.rangeAt b (off + (n - 1) * 34) (B.map u8) from fun j u hu=>by
   exact hr1 j u (by rw [itC,List.getElem?_append_left (by rw [List.length_map]; have:=(List.getElem?_eq_some_iff.1 hu).1; simpa using this)]; exact hu))
  have heq:=fun W=>dig_eq W A B hA hB
  obtain ⟨sm,hsm⟩:∃ sm,decide (A = B) = sm:=⟨_,rfl⟩
  rw [hsm] at heq ⊢
  have HEQ:=hide heq
  clear hr0 hr1 heq hsm hcl hcell hpr hM hs h0 hn hll
  obtain ⟨m,hm⟩:∃ m,n - 1 = m:=⟨_,rfl⟩
  rw [hm] at q2 q4 HR1
  clear hm
  go_enter Tryz.func82,Tryz.ntmps82
  go_upto_region 1 with fail
  refine lr_si (by kernel_rfl) (by kernel_rfl) rfl (fun W=>Kept [] w W) (Kept.refl _ w).drew ?_
  refine LinG.rd (by rfl) (.slice (some ⟨b,off,none⟩) n c) (fun W hW=>by go_simp) (by simp only [Act.put,sa1,sa2,sa3]; rfl) ?_
  refine LinG.rd (by rfl) (.int .i64 n) (fun W hW=>by go_simp) (by simp only [Act.put,sa1,sa2,sa3]; rfl) ?_
  refine LinG.rd (by rfl) (.bool false) (fun W hW=>by go_simp) (by simp only [Act.put,sa1,sa2,sa3]; rfl) ?_
  refine LinG.rd (by rfl) (.bool false) (fun W hW=>by go_simp) (by simp only [Act.put,sa1,sa2,sa3]; rfl) ?_
  refine LinG.rd (by rfl) (.slice (some ⟨b,off,none⟩) n c) (fun W hW=>by go_simp) (by simp only [Act.put,sa1,sa2,sa3]; rfl) ?_
  refine LinG.rd (by rfl) (.pointer (some ⟨b,off,none⟩)) (fun W hW=>by go_simp) (by simp only [Act.put,sa1,sa2,sa3]; rfl) ?_
  refine LinG.rd (by rfl) (.pointer (some ⟨b,off,none⟩)) (fun W hW=>by go_simp) (by simp only [Act.put,sa1,sa2,sa3]; rfl) ?_
  refine LinG.ld (by rfl) 30 (.tmp 9) rfl b off rfl (A.map u8) _ (fun W hW=>hW.rng (uh HR0) (by simp)) Tryz.underlying30 rfl (by rw [List.length_map,hA]; exact Tryz.size_dig) (by simp only [Act.put,sa1,sa2,sa3]; rfl) ?_
  refine LinG.rd (by rfl) (.slice (some ⟨b,off,none⟩) n c) (fun W hW=>by go_simp) (by simp only [Act.put,sa1,sa2,sa3]; rfl) ?_
  refine LinG.rd (by rfl) (.slice (some ⟨b,off,none⟩) n c) (fun W hW=>by go_simp) (by simp only [Act.put,sa1,sa2,sa3]; rfl) ?_
  refine LinG.rd (by rfl) (.int .i64 n) (fun W hW=>by go_simp) (by simp only [Act.put,sa1,sa2,sa3]; rfl) ?_
  refine LinG.rd (by rfl) (.int .i64 (m:Nat)) (fun W hW=>by go_simp) (by simp only [Act.put,sa1,sa2,sa3]; rfl) ?_
  refine LinG.rd (by rfl) (.pointer (some ⟨b,off + m * 34,none⟩)) (fun W hW=>by go_simp) (by simp only [Act.put,sa1,sa2,sa3]; rfl) ?_
  refine LinG.rd (by rfl) (.pointer (some ⟨b,off + m * 34,none⟩)) (fun W hW=>by go_simp) (by simp only [Act.put,sa1,sa2,sa3]; rfl) ?_
  refine LinG.ld (by rfl) 30 (.tmp 16) rfl b (off + m * 34) rfl (B.map u8) _ (fun W hW=>hW.rng (uh HR1) (by simp)) Tryz.underlying30 rfl (by rw [List.length_map,hB]; exact Tryz.size_dig) (by simp only [Act.put,sa1,sa2,sa3]; rfl) ?_
  refine LinG.rd (by rfl) (.bool sm) (fun W hW=>xa6p 30 (.tmp 10) (.tmp 17) 30 rfl (brow A) (brow B) rfl rfl W sm (by kernel_rfl) (uh HEQ W)) (by simp only [Act.put,sa1,sa2,sa3]; rfl) ?_
  refine LinG.rd (by rfl) (.bool sm) (fun W hW=>by go_simp) (by simp only [Act.put,sa1,sa2,sa3]; rfl) ?_
  refine LinG.fin (ChL.op (.bool sm) (by go_simp) (Kept.refl _ w).drew (by simp only [Act.put,sa1,sa2,sa3]; rfl) (ChL.fin ?_))
  go_wp2
  go_ret
  exact ⟨rfl,(Kept.refl _ w).drew⟩
theorem same_k (u v:Value) (p q:List Nat) (w:World) (hu:Rd w u p) (hv:Rd w v q) :
  Calls Tryz.prog 30 #[u,v] w fun e w'=>e = .returned (.bool (decide (p = q)))∧Kept [] w w' :=
 (xb7e u v p q w hu hv).mono fun e w' ⟨h1,n,h2⟩=>⟨h1,by rw [h2]; exact (Kept.refl [] w).drewN n⟩


theorem xa3v {P:Program} (w:World) (g off:Nat) (t ty:TypeId) (cur:Array Value) (v:Value) (hg:w.heap[g]? = some (.cells cur t (0,0))) (ho:off + 1≤cur.size) (hi:(P.info? ty).map (·.size) = some 1)
  (h1:v.oneCell' = true):(storeVar ty ⟨g,off,none⟩ v).run P w = .ok () (w.setRow g (cur.toList.take off++[v]++cur.toList.drop (off + 1)).toArray):=by
 have:=run_storeCells_at (P:=P) g off t [v] 0 cur w hg (by simpa using ho) (fun x hx=>by simp at hx; subst hx; exact h1)
 have hc:v.cells = #[v]:=by cases v <;> first | rfl | cases h1
 cases hq:P.info? ty with
 | none=>simp [hq] at hi
 | some i =>
  have hs:i.size = 1:=by simpa [hq] using hi
  simp only [Nat.add_zero] at this
  simp [storeVar,sizeOf,typeInfo,hq,hc,hs,this]
def dgR (ds:List (List Nat)):List (List Value):=ds.map fun d=>d.map u8
theorem xb0b {ds:List (List Nat)} (h:∀ d∈ds,Dg d):∀ r∈dgR ds,r.length = 32:=by
 intro r hr
 obtain ⟨d,hd,rfl⟩:=List.mem_map.1 hr
 rw [List.length_map]; exact (h d hd).1
theorem xb9h {ds:List (List Nat)}:∀ r∈dgR ds,∀ u∈r,u.oneCell' = true:=by
 intro r hr u hu
 obtain ⟨d,hd,rfl⟩:=List.mem_map.1 hr
 obtain ⟨x,_,rfl⟩:=List.mem_map.1 hu
 rfl
theorem xb7h {w:World} {v:Value} {ds:List (List Nat)} (h:RdC 32 w v (dgR ds)) (hd:∀ d∈ds,Dg d):RdD w v ds:=by
 obtain ⟨ao,len,cap,rfl,h1,h2,h3,h4⟩:=h
 have hl:(dgR ds).length = ds.length:=by simp [dgR]
 refine ⟨ao,len,cap,rfl,by rw [← h1,hl],h2,h3,hd,fun hp=>?_⟩
 obtain ⟨b,off,rfl,hc⟩:=h4 hp
 refine ⟨b,off,rfl,fun i hi j u hu=>?_⟩
 have hi':i < (dgR ds).length:=by omega
 have h9:=hc i hi' j u (by
  have e:(dgR ds)[i] = (ds.getD i []).map u8:=by
   rw [hl] at hi'
   simp [dgR,List.getD_eq_getElem?_getD,List.getElem?_eq_getElem hi']
  rw [e]; exact hu)
 exact h9
theorem Tryz.infoDg3:(Tryz.prog.info? 30).map (fun i=>(i.zero,i.size,i.bytes)) = some (some (.agg (zb 32)),32,32):=by kernel_rfl
theorem infoDgp:∃ i,Tryz.prog.info? 30 = some i∧i.zero = some (.agg (zb 32))∧i.size = 32:=by
 have h:=Tryz.infoDg3
 generalize Tryz.prog.info? 30 = o at h
 cases o with
 | none=>cases h
 | some i =>
  have h1:=Option.some.inj h
  exact ⟨i,rfl,(Prod.mk.inj h1).1,(Prod.mk.inj (Prod.mk.inj h1).2).1⟩
theorem xb3j {o:Oper} {a:Act} (w:World) (x:Operand) (ho:o.op = .buildSlice 59 1 #[(0,x)]) (d:List Nat) (hd:d.length = 32) (hx:a.eval x = .agg (brow d)):(execOp a.eval o).run Tryz.prog w = .ok (.value (.slice (some ⟨w.heap.size,0,none⟩) 1 1)) (w.alloc (.cells (brow d) 30)):=by
 obtain ⟨i0,hi,hz0,hz1⟩:=infoDgp
 have h9:=Great.fill_whole (s:=32) (by omega) [Value.agg (brow d)] ((Array.range (1 * 32)).map ((Value.agg (zb 32)).cells[· % (Value.agg (zb 32)).cells.size]!)) (by
  intro v hv
  have e:v = Value.agg (brow d):=by simpa using hv
  subst e
  show (brow d).size = 32
  rw [xa0a,hd]) (by simp)
 have hb:=run_buildSlice w 59 30 1 #[(0,.agg (brow d))] (brow d) i0 _ Tryz.underlying59 hi hz0 (by rw [hz1]; decide) (by rw [hz1]; decide) (by
  rw [hz1]
  refine Eq.trans h9 ?_
  show some ((brow d).toList++[]).toArray = some (brow d)
  rw [List.append_nil])
 unfold execOp
 simp only [ho,List.map_toArray,List.map_cons,List.map_nil,hx,Sem.run_bind,hb,Result.andThen_ok]
 rfl
theorem Tryz.size_u16:(Tryz.prog.info? 58).map (·.size) = some 1:=by kernel_rfl
theorem Tryz.size_dgs:(Tryz.prog.info? 59).map (·.size) = some 1:=by kernel_rfl
theorem Tryz.size_stp:(Tryz.prog.info? 61).map (·.size) = some 2:=by kernel_rfl
theorem xb0x (k f d:Nat) (L:Prs) (i:Nat):∀ x∈kidI (hsZ k) f d L i,Dg x:=fun x hx=>by
 obtain ⟨j,_,rfl⟩:=List.mem_map.1 hx
 exact nod_dg k f _
abbrev iv (n:Nat):Value:=.int .i64 (n:Int)

end
section
open Go
section
variable {P:Program} {ops:Array Oper} {Q:Exit→Act→World→Prop} {md:Region.Mode} {S:Array Bool→World→Prop}
def AnyL (P:Program) (md:Region.Mode) (ops:Array Oper) (Q:Exit→Act→World→Prop) (S:Array Bool→World→Prop):Nat→Array Bool→Act→World→Prop
 | 0,d,a,w=>Region.ready md ops d = []∧Q .normal a w
 | g + 1,d,a,w=>(Region.ready md ops d = []→Q .normal a w)∧∀ i∈Region.ready md ops d,wpOp P ops Q i (fun a' w'=>S (d.setIfInBounds i true) w'∧AnyL P md ops Q S g (d.setIfInBounds i true) a' w') a w
theorem AnyL.any:∀ (g:Nat) (d:Array Bool) (a:Act) (w:World),AnyL P md ops Q S g d a w→wpAny P md ops Q g d a w
 | 0,_,_,_,h=>h
 | g + 1,_,_,_,h=>⟨h.1,fun i hi=>wpOp_mono (fun a' w' h'=>AnyL.any g _ a' w' h'.2) (h.2 i hi)⟩
theorem AnyL.first {i t:Nat} {oi ot:Oper} {v:Value} {T:World→Prop} (hi:ops[i]? = some oi) (ht:ops[t]? = some ot) (hit:t≠i) (hb:∃ e∈ot.after,Region.binds md e = true∧e.on = i)
  (hsel:∀ (j:Nat) (o:Oper) cs b,ops[j]? = some o→o.op≠.select cs b) (hQ:∀ c a w,Q (.panic c) (a.put oi.dst v) w→Q (.panic c) a w)
  (hST:∀ d w,S d w→d.getD t true = false→T w) (hSi:∀ d w,S (d.setIfInBounds i true) w↔S d w) :
  ∀ (g:Nat) (d:Array Bool) (a:Act) (w:World),
   (∀ j oj,ops[j]? = some oj→j≠i→d.getD j true = false→(∀ e∈oj.after,Region.binds md e = true→e.on≠i)→oi.apart ops oj = true) →
   i∈Region.ready md ops d→YieldsIf P ops T oi v a→d.getD t true = false→S d w →
   AnyL P md ops Q S g (d.setIfInBounds i true) (a.put oi.dst v) w→AnyL P md ops Q S (g + 1) d a w:=by
 intro g
 induction g with
 | zero =>
  intro d a w _ hr hy hdt hS H
  refine ⟨fun h=>(by rw [h] at hr; cases hr),fun j hj=>?_⟩
  by_cases hji:j = i
  ·subst hji; exact hy.wpOp hi (hST d w hS hdt) ⟨(hSi d w).2 hS,H⟩
  ·have:=ready_mono hj hji
   rw [H.1] at this
   cases this
 | succ g ih =>
  intro d a w hfree hr hy hdt hS H
  refine ⟨fun h=>(by rw [h] at hr; cases hr),fun j hj=>?_⟩
  by_cases hji:j = i
  ·subst hji; exact hy.wpOp hi (hST d w hS hdt) ⟨(hSi d w).2 hS,H⟩
  ·have h1:=H.2 j (ready_mono hj hji)
   obtain ⟨hjun,oj,hoj,hall⟩:=mem_ready.1 hj
   have hnot:∀ e∈oj.after,Region.binds md e = true→e.on≠i:=fun e he hb heq=>by
    have h1:=hall e he hb
    have h0:=(mem_ready.1 hr).1
    rw [heq] at h1
    rcases Nat.lt_or_ge i d.size with h' | h'
    ·simp [h'] at h0 h1; rw [h0] at h1; cases h1
    ·simp [Array.getElem?_eq_none h'] at h1
   have hjt:j≠t:=fun e9=>by
    subst e9
    rw [ht] at hoj
    injection hoj with hoj
    obtain ⟨e,he,hb1,hb2⟩:=hb
    exact hnot e (by rw [← hoj]; exact he) hb1 hb2
   have h2:=wpOp_putIf hoj (hfree j oj hoj hji hjun hnot) (fun cs b=>hsel i oi cs b hi) (fun cs b=>hsel j oj cs b hoj) hQ hy h1
   refine wpOp_mono (fun a' w' h3=>?_) h2
   have hc:=Array.setIfInBounds_comm (xs:=d) true true hji
   have hS':S (d.setIfInBounds j true) w':=(hSi _ w').1 (by rw [hc]; exact h3.2.1)
   refine ⟨hS',ih (d.setIfInBounds j true) a' w' (fun k ok hk hki hun hno=>?_) (ready_mono hr (Ne.symm hji)) h3.1 ?_ hS' ?_⟩
   ·refine hfree k ok hk hki ?_ hno
    by_cases hjk:j = k
    ·subst hjk; exact hjun
    ·rw [getD_set_ne true hjk] at hun; exact hun
   ·rw [getD_set_ne true hjt]; exact hdt
   ·rw [hc]; exact h3.2.2
theorem AnyL.take {i t:Nat} {oi ot:Oper} {v:Value} {T:World→Prop} {g:Nat} {d:Array Bool} {a:Act} {w:World} (hi:ops[i]? = some oi) (ht:ops[t]? = some ot) (hit:t≠i) (hs:Region.noSelect ops = true) (hf:Region.free md ops d i = true)
  (hr:(Region.ready md ops d).contains i = true) (hb:ot.after.any (fun e=>Region.binds md e && e.on == i) = true) (hQ:∀ c a w,Q (.panic c) (a.put oi.dst v) w→Q (.panic c) a w)
  (hST:∀ d w,S d w→d.getD t true = false→T w) (hSi:∀ d w,S (d.setIfInBounds i true) w↔S d w) (hy:YieldsIf P ops T oi v a) (hd:d.getD t true = false) (hS:S d w)
  (h:AnyL P md ops Q S g (d.setIfInBounds i true) (a.put oi.dst v) w):AnyL P md ops Q S (g + 1) d a w:=by
 refine AnyL.first hi ht hit ?_ (Region.noSelect_spec hs) hQ hST hSi g d a w (Region.free_spec hi hf) (by simpa using hr) hy hd hS h
 obtain ⟨e,he,h9⟩:=Array.any_eq_true'.1 hb
 simp only [Bool.and_eq_true,beq_iff_eq] at h9
 exact ⟨e,he,h9⟩
theorem AnyL.forced {i:Nat} {o:Oper} {g:Nat} {d:Array Bool} {a:Act} {w:World} (hr:Region.ready md ops d = [i]) (ho:ops[i]? = some o) (hg:o.guard = none)
  (h:∀ K:Act→World→Prop,(∀ a' w',S (d.setIfInBounds i true) w'→AnyL P md ops Q S g (d.setIfInBounds i true) a' w'→K a' w')→o.wp P a w K Q):AnyL P md ops Q S (g + 1) d a w:=by
 refine ⟨fun h0=>(by rw [hr] at h0; cases h0),fun j hj=>?_⟩
 rw [hr] at hj
 obtain rfl:j = i:=by simpa using hj
 refine wpOp_step ho (fun K' hK=>?_)
 rw [if_pos (by unfold Region.wanted; rw [hg])]
 exact h K' (fun a' w' h1 h2=>hK a' w' ⟨h1,h2⟩)
end
section
variable {P:Program} {Q:Exit→Act→World→Prop}
end
end
section
open Go Go.RowKit Go.BigFrame
section
variable {P:Program} {Q:Exit→Act→World→Prop} {T:World→Prop}
def linRT (O:Array Oper) (t:Nat):List Nat→Array Bool→Bool
 | [],_=>true
 | i :: r,d=>(Region.free .any O d i && (Region.ready .any O d).contains i) && ((match O[t]? with | some ot=>ot.after.any (fun e=>Region.binds .any e && e.on == i) | none=>false) && (decide (t≠i) && (decide (d.getD t true = false) && linRT O t r (d.setIfInBounds i true))))
def lateS (T:World→Prop) (t:Nat):Array Bool→World→Prop:=fun d w=>d.getD t true = false→T w
theorem xb7v {t i:Nat} (h:t≠i) (d:Array Bool) (w:World):lateS T t (d.setIfInBounds i true) w↔lateS T t d w:=by
 unfold lateS
 rw [getD_set_ne true (fun e=>h e.symm)]
theorem xb3d (t:Nat) (d:Array Bool) (w:World):lateS T t (d.setIfInBounds t true) w:=fun h=>by
 exfalso
 by_cases hd:t < d.size
 ·simp [Array.getD,hd] at h
 ·simp [Array.getD,hd] at h
theorem xa5z {O:Array Oper} {F:Act→World→Prop} {m t:Nat} {ot:Oper} {D:Array Bool} (ht:O[t]? = some ot) (hs:Region.noSelect O = true) (hF:∀ a w,F a w→AnyL P .any O (NoPanic Q) (lateS T t) m D a w) :
  ∀ (R:List Nat) (rs:List Oper) (d:Array Bool) (a:Act) (w:World),R.map (O[·]?) = rs.map some→(∀ o∈rs,o.guard = none)→linRT O t R d = true→linD R d = D→T w→LinY P T F rs a w→AnyL P .any O (NoPanic Q) (lateS T t) (R.length + m) d a w
 | [],[],d,a,w,_,_,_,hc,_,h=>by rw [List.length_nil,Nat.zero_add]; have e:d = D:=hc; rw [e]; exact hF a w h
 | [],_ :: _,_,_,_,he,_,_,_,_,_=>by simp at he
 | i :: R,[],_,_,_,he,_,_,_,_,_=>by simp at he
 | i :: R,o :: rs,d,a,w,he,hg,hr,hc,hS,h=>by
  simp only [List.map_cons,List.cons.injEq] at he
  simp only [linRT,ht,Bool.and_eq_true,decide_eq_true_eq] at hr
  obtain ⟨v,hv,h2⟩:=h
  have hw:∀ y,Region.wanted o y = true:=fun y=>by unfold Region.wanted; rw [hg o (by simp)]
  rw [List.length_cons,show R.length + 1 + m = (R.length + m) + 1 by omega]
  refine AnyL.take (i:=i) (t:=t) (oi:=o) (ot:=ot) (T:=T) he.1 ht hr.2.2.1 hs hr.1.1 hr.1.2 hr.2.1 (fun _ _ _ h=>h) (fun d w h9 hd=>h9 hd) (fun d w=>xb7v hr.2.2.1 d w) (Or.inl ⟨hw _,hv⟩) hr.2.2.2.1 (fun _=>hS) ?_
  exact xa5z ht hs hF R rs _ _ w he.2 (fun x hx=>hg x (by simp [hx])) hr.2.2.2.2 hc hS h2
theorem xa6c {O:Array Oper} {F:Act→World→Prop} {m t:Nat} {D:Array Bool} (hF:∀ a w,F a w→AnyL P .any O (NoPanic Q) (lateS T t) m D a w):∀ (C:List Nat) (cs:List Oper) (d:Array Bool) (a:Act) (w:World),C.map (O[·]?) = cs.map some→(∀ o∈cs,o.guard = none)→linC O C d = true→linD C d = D→ChL P Q T F cs a w→AnyL P .any O (NoPanic Q) (lateS T t) (C.length + m) d a w
 | [],[],d,a,w,_,_,_,hD,h=>by rw [List.length_nil,Nat.zero_add]; have e:d = D:=hD; rw [e]; exact hF a w h
 | [],_ :: _,_,_,_,he,_,_,_,_=>by simp at he
 | i :: C,[],_,_,_,he,_,_,_,_=>by simp at he
 | i :: C,o :: cs,d,a,w,he,hg,hb,hD,h=>by
  simp only [List.map_cons,List.cons.injEq] at he
  simp only [linC,Bool.and_eq_true,decide_eq_true_eq] at hb
  rw [List.length_cons,show C.length + 1 + m = (C.length + m) + 1 by omega]
  refine AnyL.forced hb.1 he.1 (hg o (by simp)) (fun K hK=>?_)
  exact Oper.wp_mono (fun a' w' h2=>hK a' w' (fun _=>h2.1) (xa6c hF C cs _ a' w' he.2 (fun x hx=>hg x (by simp [hx])) hb.2 hD h2.2)) h
def linBT (O:Array Oper) (R C:List Nat) (t:Nat):Bool :=
 (Region.noSelect O && decide (O.size = R.length + (C.length + 1))) && (linRT O t R (linS O) && (linC O C (linD R (linS O)) && (decide (Region.ready .any O (linD C (linD R (linS O))) = [t]) && decide (Region.ready .any O ((linD C (linD R (linS O))).setIfInBounds t true) = []))))
theorem xb4r {id:Nat} {O:Array Oper} {a:Act} {w:World} {R C:List Nat} {t:Nat} {rs cs:List Oper} {ot:Oper} (hm:P.follows .mixedOrders = true) (hb:linBT O R C t = true) (hR:R.map (O[·]?) = rs.map some) (hC:C.map (O[·]?) = cs.map some) (ht:O[t]? = some ot) (hg:(rs++(cs++[ot])).all (fun o=>o.guard.isNone) = true)
  (hT:T w.drew) (h:LinY P T (ChL P Q T (fun a w=>ot.wp P a w (Q .normal) (NoPanic Q)) cs) rs a w.drew):(Code.region id O true).wp P Q a w:=by
 unfold linBT at hb
 simp only [Bool.and_eq_true,decide_eq_true_eq] at hb
 obtain ⟨⟨b1,b2⟩,b3,b4,b5,b6⟩:=hb
 rw [List.all_append,List.all_append,Bool.and_eq_true,Bool.and_eq_true,List.all_eq_true,List.all_eq_true,List.all_eq_true] at hg
 refine wp_region_noPanic ?_
 refine wp_region_any hm ?_
 refine AnyL.any (S:=lateS T t) _ _ _ _ ?_
 rw [b2]
 have h3:∀ a w,ot.wp P a w (Q .normal) (NoPanic Q)→AnyL P .any O (NoPanic Q) (lateS T t) 1 (linD C (linD R (linS O))) a w:=fun a w h=>by
  refine AnyL.forced b5 ht (by simpa using hg.2.2 ot (by simp)) (fun K hK=>?_)
  exact Oper.wp_mono (fun a' w' h2=>hK a' w' (xb3d t _ w') ⟨b6,NoPanic.normal h2⟩) h
 have h2:=fun a w h=>xa6c (P:=P) (Q:=Q) (T:=T) (t:=t) h3 C cs (linD R (linS O)) a w hC (fun o ho=>by simpa using hg.2.1 o ho) b4 rfl h
 have:=xa5z (P:=P) (Q:=Q) (T:=T) ht b1 h2 R rs (linS O) a w.drew hR (fun o ho=>by simpa using hg.1 o ho) b3 rfl hT h
 unfold linS at this
 rw [b2] at this
 exact this
end
theorem lr_t7 {P:Program} {Q:Exit→Act→World→Prop} {id:Nat} {o0 o1 o2 o3 o4 o5 o6:Oper} {a:Act} {w:World} (hm:P.follows .mixedOrders = true) (hb:linBT #[o0,o1,o2,o3,o4,o5,o6] [0,1,2,3,4,5] [] 6 = true) (hg:([o0,o1,o2,o3,o4,o5]++([]++[o6])).all (fun o=>o.guard.isNone) = true) (T:World→Prop) (hT:T w.drew)
  (h:LinY P T (ChL P Q T (fun a w=>o6.wp P a w (Q .normal) (NoPanic Q)) []) [o0,o1,o2,o3,o4,o5] a w.drew):(Code.region id #[o0,o1,o2,o3,o4,o5,o6] true).wp P Q a w:=xb4r (R:=[0,1,2,3,4,5]) (C:=[]) (t:=6) (rs:=[o0,o1,o2,o3,o4,o5]) (cs:=[]) hm hb rfl rfl rfl hg hT h
theorem lr_t8 {P:Program} {Q:Exit→Act→World→Prop} {id:Nat} {o0 o1 o2 o3 o4 o5 o6 o7 o8 o9 o10:Oper} {a:Act} {w:World} (hm:P.follows .mixedOrders = true) (hb:linBT #[o0,o1,o2,o3,o4,o5,o6,o7,o8,o9,o10] [0,1,2,3,4,5] [6,7,8,9] 10 = true) (hg:([o0,o1,o2,o3,o4,o5]++([o6,o7,o8,o9]++[o10])).all (fun o=>o.guard.isNone) = true) (T:World→Prop) (hT:T w.drew)
  (h:LinY P T (ChL P Q T (fun a w=>o10.wp P a w (Q .normal) (NoPanic Q)) [o6,o7,o8,o9]) [o0,o1,o2,o3,o4,o5] a w.drew):(Code.region id #[o0,o1,o2,o3,o4,o5,o6,o7,o8,o9,o10] true).wp P Q a w:=xb4r (R:=[0,1,2,3,4,5]) (C:=[6,7,8,9]) (t:=10) (rs:=[o0,o1,o2,o3,o4,o5]) (cs:=[o6,o7,o8,o9]) hm hb rfl rfl rfl hg hT h
end
section
open Go.RowKit Go.BigFrame
theorem xb3a {P:Program} {o:Oper} {a:Act} (w:World) (t t2:TypeId) (y:Operand) (ho:o.op = .binOp .shl t (.const (.int .u16 1)) y t2) (k:Nat) (hk:k≤15) (hy:a.eval y = .int .i64 (k:Int)):(execOp a.eval o).run P w = .ok (.value (.int .u16 ((2 ^ k:Nat):Int))) w:=by
 have e:(Op.shift .shl .u16 1 .i64 (k:Int)).run P w = .ok (.int .u16 ((2 ^ k:Nat):Int)) w:=by
  rw [shift_shl .u16 .i64 1 (k:Int) (by omega) (by simp [IntKind.bits]; omega)]
  have h9:2 ^ k≤2 ^ 15:=Nat.pow_le_pow_right (by decide) hk
  rw [Int.toNat_natCast,Int.one_mul]
  have h8:(2 ^ k:Int) = ((2 ^ k:Nat):Int):=by simp
  rw [h8]
  obtain ⟨y,hy⟩:∃ y,2 ^ k = y:=⟨_,rfl⟩
  rw [hy] at h9 ⊢
  have h7:IntKind.u16.wrap (y:Int) = y:=by simp [IntKind.wrap,IntKind.signed,IntKind.bits]; omega
  rw [h7]
  rfl
 have h1:a.eval (.const (.int .u16 1)) = .int .u16 1:=rfl
 unfold execOp
 simp only [ho,hy,h1,eqGuard_shl,binOp_shl,Sem.run_bind,Sem.run_pure,Result.andThen_ok,e]
theorem xa3s {P:Program} {o:Oper} {a:Act} {w:World} {K:Act→World→Prop} {Q:Exit→Act→World→Prop} (ty:TypeId) (x y:Operand) (ho:o.op = .store ty x y) (g off:Nat) (t:TypeId) (cur cur':Array Value) (v:Value) (hx:a.eval x = .pointer (some ⟨g,off,none⟩)) (hy:a.eval y = v)
  (hg:w.heap[g]? = some (.cells cur t (0,0))) (hoff:off + 1≤cur.size) (hi:(P.info? ty).map (·.size) = some 1) (h1:v.oneCell' = true) (hc:(cur.toList.take off++[v]++cur.toList.drop (off + 1)).toArray = cur') (h:K (a.put o.dst undef) (w.setRow g cur')):o.wp P a w K Q:=by
 subst hc
 unfold Oper.wp execOp
 simp only [ho,hx,hy,Instr.storeAt,Instr.sureAddr,Sem.run_bind,Sem.run_pure,Result.andThen_ok,xa3v w g off t ty cur v hg hoff hi h1]
 exact h
theorem IAt.mono {T T':Nat→Prop} {k:Nat} {W:World} {v:Value} {L:Prs} (hs:∀ x,T x→T' x) (h:IAt T k W v L):IAt T' k W v L:=by
 obtain ⟨l,h1,h2,h3⟩:=h
 exact ⟨l,h1,fun x hx=>⟨hs x (h2 x hx).1,(h2 x hx).2⟩,h3.mono hs⟩
theorem IAt.shrink {T:Nat→Prop} {k:Nat} {W:World} {v:Value} {L:Prs} (h:IAt T k W v L):IAt (lowS T W) k W v L:=by
 obtain ⟨l,h1,h2,h3⟩:=h
 exact ⟨l,h1,fun x hx=>⟨h2 x hx,(h2 x hx).2⟩,h3.shrink⟩
theorem xb6v {L:List Nat} {w w':World} {v:Value} {ds:List (List Nat)} (h:RdD w v ds) (k:Kept L w w') (hn:∀ x∈blk v,x∉L):RdD w' v ds:=by
 obtain ⟨ao,len,cap,rfl,h1,h2,h3,h4,h5⟩:=h
 refine ⟨ao,len,cap,rfl,h1,h2,h3,h4,fun hp=>?_⟩
 obtain ⟨b,off,rfl,hc⟩:=h5 hp
 exact ⟨b,off,rfl,fun i hi j u hu=>k.cell (hc i hi j u hu) (hn b (by simp [blk]))⟩
def NodeOk (k f:Nat):Prop:=∀ (T:Nat→Prop) (mv:Value) (L:Prs) (w:World),IAt T k w mv L→L≠[]→Srt (hsZ k) L→Fit L→L.length≤1000000000→Pre (hsZ k) (64 - f) L→(∀ y,w.heap.size≤y→T y) →
  Calls Tryz.prog 65 #[.int .i64 k,mv,.int .i64 ((64 - f:Nat):Int)] w fun e w'=>e = .returned (.agg (brow (nodP (hsZ k) f L)))∧Kept [] w w'
set_option maxHeartbeats 8000000 in
theorem xb3k (k f:Nat) (hf:f≤63) (hN:NodeOk k f) (T:Nat→Prop) (mv:Value) (L:Prs) (w:World) (hM:IAt T k w mv L) (hne0:L≠[]) (hs:Srt (hsZ k) L) (hfit:Fit L) (hl:L.length≤1000000000) (hpre:Pre (hsZ k) (63 - f) L) :
  Calls Tryz.prog 83 #[.int .i64 k,mv,.int .i64 ((63 - f:Nat):Int)] w fun e w'=>∃ v,e = .returned (.agg #[.int .u16 (bm (hsZ k) (63 - f) L:Nat),v])∧RdD w' v ((kidsL (hsZ k) (63 - f) L).map (nodP (hsZ k) f))∧(∀ x∈blk v,w.heap.size≤x)∧Kept [] w w':=by
 obtain ⟨d,hd⟩:∃ d,63 - f = d:=⟨_,rfl⟩
 have hd1:64 - f = d + 1:=by omega
 have hdl:d < 64:=by omega
 unfold NodeOk at hN
 rw [hd1] at hN
 rw [hd] at hpre ⊢
 have HNO:=hide hN
 obtain ⟨T',hT'⟩:∃ T':Nat→Prop,T' = fun x=>lowS T w x∨w.heap.size + 1 + 1≤x:=⟨_,rfl⟩
 have HT1:=hide (show ∀ x,T' x→x≠w.heap.size + 1 by intro x hx; rw [hT'] at hx; rcases hx with h | h; have:=h.2; omega; omega)
 have HT:=hide (show ∀ y,w.heap.size + 1 + 1≤y→T' y by intro y hy; rw [hT']; exact Or.inr hy)
 have HM:=hide (show IAt T' k w mv L from hM.shrink.mono (by intro x hx; rw [hT']; exact Or.inl hx))
 clear hT' hne0
 have HS:=hide hs
 have HFI:=hide hfit
 have HPR:=hide hpre
 obtain ⟨ma,mc,ml,rfl,_⟩:=hM.parts
 clear hM
 have HG0:=hide (heap_alloc_new w (.cells #[.int .u16 0,.slice none 0 0] 61))
 have HK0:=hide ((Kept.refl [] w).alloc (.cells #[.int .u16 0,.slice none 0 0] 61))
 obtain ⟨W1,hW1⟩:∃ W1,w.alloc (.cells #[.int .u16 0,.slice none 0 0] 61) = W1:=⟨_,rfl⟩
 rw [hW1] at HG0 HK0
 have HG1:=hide (heap_alloc_new W1 (.cells #[.int .u16 0,.slice none 0 0] 61))
 have HK1:=hide ((Kept.refl [] W1).alloc (.cells #[.int .u16 0,.slice none 0 0] 61))
 have HG02:=hide ((uh HK1).heap (uh HG0) (by simp))
 obtain ⟨W2,hW2⟩:∃ W2,W1.alloc (.cells #[.int .u16 0,.slice none 0 0] 61) = W2:=⟨_,rfl⟩
 rw [hW2] at HG1 HK1 HG02
 have HKW:=hide ((uh HK0).trans (uh HK1) (by simp))
 have hz1:W1.heap.size = w.heap.size + 1:=by rw [← hW1]; simp
 have hz2:W2.heap.size = w.heap.size + 1 + 1:=by rw [← hW2]; simp [hz1]
 rw [hz1] at HG1
 have HZ2:=hide hz2
 have HZ1:=hide hz1
 have HWD:=hide (show IntKind.i64.wrap ((d:Int) + 1) = (d:Int) + 1 by simp [IntKind.wrap,IntKind.signed,IntKind.bits]; omega)
 clear hz1 hz2 hN hs hfit hpre HK0 HK1 HG0
 go_enter Tryz.func83,Tryz.ntmps83
 go_upto_region 2 with fail
 try rw [hW1]
 try rw [hW2]
 rw [uh HZ1]
 clear hW1 hW2
 go_wp2_with fail
 go_loopw [8] (fun t8 wr=>∃ (i:Nat) (v:Value),t8 = .int .i64 i∧i≤16∧Hid (wr.heap[w.heap.size + 1]? = some (.cells #[.int .u16 (bmI (hsZ k) d L i:Nat),v] 61 (0,0)))∧Hid (wr.ownsRow W2.heap.size 30 32 v (kidI (hsZ k) f d L i).length (dgR (kidI (hsZ k) f d L i)).flatten)∧Hid (Kept [w.heap.size + 1] W2 wr)) (fun t _=>16 - (intOf t).toNat)
 case atStart=>exact ⟨0,_,rfl,Nat.zero_le _,HG1,hide (World.ownsRow_nil _ _ _ _),hide (Kept.refl _ _)⟩
 case round =>
  obtain ⟨i,v,rfl,hi,HG,HO,HKr⟩:=hrel
  by_cases hlt:i < 16
  ·have hlt':(i:Int) < 16:=by omega
   have HKwr:=hide (show Kept [] w wr from (uh HKW).trans (uh HKr) (by intro x hx; simp at hx; right; omega))
   go_wp2_with fail
   refine Calls.mono (xb1x T' k d i _ L wr ((uh HM).agr (Agr.nil (uh HKwr))) hdl hlt hl (fun y hy=>uh HT y (by have:=(uh HKr).size; have:=uh HZ2; omega))) ?_
   rintro e w3 ⟨v3,rfl,hc3,k3⟩
   have HC3:=hide hc3
   have HG3:=hide (k3.heap (uh HG) (by simp))
   have HO3:=hide (k3.owns (uh HO) (by simp))
   have HK3:=hide (show Kept [w.heap.size + 1] W2 w3 from (uh HKr).trans k3 (by simp))
   obtain ⟨ca,cc,cl,rfl,_⟩:=hc3.parts
   have hcl:=ch_len (hsZ k) d i L
   have HCL:=hide (Nat.le_trans hcl hl)
   clear hc3 k3 hcl
   by_cases hne:ch (hsZ k) d i L = []
   ·have hem:(ch (hsZ k) d i L).isEmpty = true:=by rw [hne]; rfl
    have HB:=hide (bmI_no hem)
    have HKi:=hide (xb8y (f:=f) hem)
    have hln:(ch (hsZ k) d i L).length = 0:=by rw [hne]; rfl
    rw [hln]
    clear hne hem hln
    go_wp2_with fail
    refine ⟨⟨i + 1,v,by go_num,hlt,hide (by rw [uh HB]; exact uh HG3),hide (by rw [uh HKi]; exact uh HO3),HK3⟩,?_⟩
    simp [intOf]; omega
   ·have hem:(ch (hsZ k) d i L).isEmpty = false:=by cases h:ch (hsZ k) d i L with
     | nil=>exact absurd h hne
     | cons y M=>rfl
    have HB:=hide (xb8a hem)
    have HKi:=hide (xb7m (f:=f) hem)
    have hpos:0 < (ch (hsZ k) d i L).length:=by cases h:ch (hsZ k) d i L with
     | nil=>exact absurd h hne
     | cons y M=>simp
    have HNE:=hide hne
    have HSr:=hide ((uh HS).ch d i)
    have HFr:=hide (show Fit (ch (hsZ k) d i L) from (uh HFI).sub (fun x hx=>ch_sub x hx))
    have HPr:=hide (xb4u (i:=i) (uh HPR))
    have hkl:=xb6u (hsZ k) f d L i
    have hkd:=xb0x k f d L i
    have hbl:=bmI_lt (hsZ k) d L i
    have hb2:bmI (hsZ k) d L i + 2 ^ i < 65536:=by
     have h1:2 ^ (i + 1)≤2 ^ 16:=Nat.pow_le_pow_right (by omega) (by omega)
     rw [Nat.pow_succ] at h1; omega
    have hDi:Dg (nodP (hsZ k) f (ch (hsZ k) d i L)):=nod_dg k f _
    generalize bmI (hsZ k) d L i = B at HG3 HB hb2 hbl
    generalize kidI (hsZ k) f d L i = KI at HO3 HKi hkl hkd
    generalize ch (hsZ k) d i L = C at HC3 HCL HNE HSr HFr HPr hpos HB HKi hDi hem ⊢
    generalize hCn:C.length = cn at HC3 hpos ⊢
    have hgt:(cn:Int) > 0:=by omega
    have hgt2:(0:Int) < cn:=by omega
    have HCn:=hide hCn
    clear hne hem hCn
    obtain ⟨vo,vc,rfl⟩:=xa0n (uh HO3)
    have c0:w3.cell? ⟨w.heap.size + 1,0,none⟩ = some (.int .u16 (B:Nat)):=by rw [cell_of_row _ _ _ _ _ _ (uh HG3)]; rfl
    have c1:w3.cell? ⟨w.heap.size + 1,1,none⟩ = some (.slice vo KI.length vc):=by rw [cell_of_row _ _ _ _ _ _ (uh HG3)]; rfl
    have HC0:=hide c0
    have hwr1:IntKind.u16.wrap ((B:Int) + ((2 ^ i:Nat):Int)) = ((B + 2 ^ i:Nat):Int):=by
     rw [← Int.natCast_add]
     generalize B + 2 ^ i = z at hb2 ⊢
     simp [IntKind.wrap,IntKind.signed,IntKind.bits]; omega
    obtain ⟨B2,hB2⟩:∃ B2,B + 2 ^ i = B2:=⟨_,rfl⟩
    rw [hB2] at hwr1 HB
    obtain ⟨PW,hPW⟩:∃ PW:Nat,2 ^ i = PW:=⟨_,rfl⟩
    rw [hPW] at hwr1
    have HSH:=hide (fun (P:Program) (o:Oper) (a:Act) (W:World) (t t2:TypeId) (y:Operand) (ho:o.op = .binOp .shl t (.const (.int .u16 1)) y t2) (hy:a.eval y = .int .i64 (i:Int))=>by
     have h9:=xb3a (P:=P) W t t2 y ho i (by omega) hy
     rw [hPW] at h9
     exact h9)
    clear hb2 hB2 hPW hbl c0 c1
    have HOW:=hide (fun x hx=>(uh HO3).lt x hx)
    go_upto_region 7 with fail
    have hd3:=(Kept.refl [w.heap.size + 1] w3).drew
    refine lr_t7 (by kernel_rfl) (by kernel_rfl) rfl (fun W=>Kept [] w3 W) (Kept.refl [] w3).drew ?_
    refine LinY.rd (.pointer (some ⟨w.heap.size + 1,0,none⟩)) (fun W hW=>by go_simp) (by simp only [Act.put,sa1,sa2,sa3]; rfl) ?_
    refine LinY.rd (.int .u16 (B:Nat)) (fun W hW=>by have h9:=hW.cell (uh HC0) (by simp); go_simp) (by simp only [Act.put,sa1,sa2,sa3]; rfl) ?_
    refine LinY.rd (.int .i64 i) (fun W hW=>by go_simp) (by simp only [Act.put,sa1,sa2,sa3]; rfl) ?_
    refine LinY.rd (.int .u16 (PW:Nat)) (fun W hW=>uh HSH _ _ _ W _ _ _ rfl rfl) (by simp only [Act.put,sa1,sa2,sa3]; rfl) ?_
    refine LinY.rd (.int .u16 (B2:Nat)) (fun W hW=>by go_simp) (by simp only [Act.put,sa1,sa2,sa3]; rfl) ?_
    refine LinY.rd (.pointer (some ⟨w.heap.size + 1,0,none⟩)) (fun W hW=>by go_simp) (by simp only [Act.put,sa1,sa2,sa3]; rfl) ?_
    refine LinY.fin (ChL.fin (xa3s 58 (.tmp 26) (.tmp 25) rfl (w.heap.size + 1) 0 61 #[.int .u16 (B:Nat),.slice vo KI.length vc] #[.int .u16 (B2:Nat),.slice vo KI.length vc] (.int .u16 (B2:Nat)) rfl rfl ((Kept.refl [] w3).drew.heap (uh HG3) (by simp)) (by simp) Tryz.size_u16 rfl rfl ?_))
    have HG4:=hide (setRow_heap _ _ _ #[.int .u16 (B2:Nat),.slice vo KI.length vc] _ _ ((Kept.refl [] w3).drew.heap (uh HG3) (by simp)))
    have HK34:=hide (((Kept.refl [w.heap.size + 1] w3).drew).setRow (g:=w.heap.size + 1) (Or.inl (by simp)) #[.int .u16 (B2:Nat),.slice vo KI.length vc])
    have HO4:=hide ((uh HK34).owns (uh HO3) (fun x hx hm=>by have h1:=uh HOW x hx; have h2:=uh HZ2; simp at hm; omega))
    obtain ⟨W4,hW4⟩:∃ W4,w3.drew.setRow (w.heap.size + 1) #[.int .u16 (B2:Nat),.slice vo KI.length vc] = W4:=⟨_,rfl⟩
    rw [hW4] at HG4 HK34 HO4 ⊢
    clear hW4 HC0 HSH HG3 HO3
    have HK4:=hide (show Kept [w.heap.size + 1] W2 W4 from (uh HK3).trans (uh HK34) (by intro x hx; left; exact hx))
    have HKw4:=hide (show Kept [] w W4 from (uh HKW).trans (uh HK4) (by intro x hx; simp at hx; right; omega))
    have HC4:=hide (show IAt T' k W4 (.slice ca cn cc) C from (uh HC3).agr ⟨(uh HK34).size,fun x hx hl=>(uh HK34).block x hl (by
     intro hm
     simp at hm
     exact uh HT1 x hx hm)⟩)
    have c4:W4.cell? ⟨w.heap.size + 1,1,none⟩ = some (.slice vo KI.length vc):=by rw [cell_of_row _ _ _ _ _ _ (uh HG4)]; rfl
    have HC5:=hide c4
    clear c4
    go_upto_region 8 with fail
    obtain ⟨OB,hOB⟩:∃ OB,(Value.slice vo KI.length vc).ownBlock = OB:=⟨_,rfl⟩
    have hOBn:w.heap.size + 1∉OB.toList:=by
     intro hm
     rw [← hOB] at hm
     have h1:=uh HOW (w.heap.size + 1) (by simpa using hm)
     have h2:=uh HZ2
     omega
    have hd4:=(Kept.refl [] W4).drew
    refine lr_t8 (by kernel_rfl) (by kernel_rfl) rfl (fun W=>Kept OB.toList W4 W) (hd4.mono (by simp)) ?_
    refine LinY.rd (.pointer (some ⟨w.heap.size + 1,1,none⟩)) (fun W hW=>by go_simp) (by simp only [Act.put,sa1,sa2,sa3]; rfl) ?_
    refine LinY.rd (.slice vo KI.length vc) (fun W hW=>by have h9:=hW.cell (uh HC5) hOBn; go_simp) (by simp only [Act.put,sa1,sa2,sa3]; rfl) ?_
    refine LinY.rd (.int .i64 k) (fun W hW=>by go_simp) (by simp only [Act.put,sa1,sa2,sa3]; rfl) ?_
    refine LinY.rd (.slice ca cn cc) (fun W hW=>by go_simp) (by simp only [Act.put,sa1,sa2,sa3]; rfl) ?_
    refine LinY.rd (.int .i64 d) (fun W hW=>by go_simp) (by simp only [Act.put,sa1,sa2,sa3]; rfl) ?_
    refine LinY.rd (.int .i64 ((d + 1:Nat):Int)) (fun W hW=>by have h9:=uh HWD; go_simp) (by simp only [Act.put,sa1,sa2,sa3]; rfl) ?_
    refine LinY.fin (ChL.call rfl Tryz.call65 [.int .i64 k,.slice ca cn cc,.int .i64 ((d + 1:Nat):Int)] rfl (uh HNO T' _ C W4.drew ((uh HC4).agr (Agr.nil hd4)) (uh HNE) (uh HSr) (uh HFr) (uh HCL) (uh HPr) (fun y hy=>uh HT y (by have h1:=(uh HK4).size; have h2:=hd4.size; have h3:=uh HZ2; omega))) ?_)
    rintro e w5 ⟨rfl,k5⟩
    have hk5:=hd4.trans k5 (by simp)
    refine ⟨_,rfl,hk5.mono (by simp),?_⟩
    simp only [Act.put,sa1,sa2,sa3]
    obtain ⟨N,hN⟩:∃ N,nodP (hsZ k) f C = N:=⟨_,rfl⟩
    rw [hN] at HKi hDi ⊢
    clear hN
    have hka:=(Kept.refl [] w5).alloc (.cells (brow N) 30)
    have hk6:=hk5.trans hka (by simp)
    refine ChL.op (.slice (some ⟨w5.heap.size,0,none⟩) 1 1) (xb3j w5 (.tmp 33) rfl N hDi.1 rfl) (hk6.mono (by simp)) (by simp only [Act.put,sa1,sa2,sa3]; rfl) ?_
    have hrl:RdC 32 (w5.alloc (.cells (brow N) 30)) (.slice (some ⟨w5.heap.size,0,none⟩) 1 1) (dgR [N]):=⟨_,1,1,rfl,rfl,Nat.le_refl _,by omega,fun _=>⟨w5.heap.size,0,rfl,fun j hj=>by
     have h0:j = 0:=by simp [dgR] at hj; omega
     subst h0
     exact xa0o [] (N.map u8) [] (by rw [List.nil_append,List.append_nil]; exact heap_alloc_new w5 _) rfl⟩⟩
    refine ChL.app 59 30 (.tmp 28) (.tmp 34) rfl rfl _ W2.heap.size (.agg (zb 32)) 32 32 Tryz.underlying59 Tryz.infoDg3 rfl (by decide) (.slice vo KI.length vc) KI.length (dgR KI).flatten (hk6.owns (uh HO4) (by simp)) (some ⟨w5.heap.size,0,none⟩) 1 1 (dgR [N]) hrl (xb0b (by intro x hx; simp at hx; subst hx; exact hDi)) xb9h (by omega) (by omega) (by have h1:=(uh HK4).size; have h2:=hk6.size; omega) rfl rfl ?_
    intro ao7 c7 w7 HO7 HG7 HA7
    have hg7:=uh HG7
    rw [hOB] at hg7
    have hk7:=(Kept.refl OB.toList _).grown hg7 (by intro x hx; left; simp [hx])
    have hk47:=(hk6.mono (M:=OB.toList) (by simp)).trans hk7 (fun x hx=>Or.inl hx)
    refine ⟨hk47,?_⟩
    simp only [Act.put,sa1,sa2,sa3]
    refine ChL.op (.pointer (some ⟨w.heap.size + 1,1,none⟩)) (by go_simp) hk47 (by simp only [Act.put,sa1,sa2,sa3]; rfl) ?_
    have hgx:=hk47.heap (uh HG4) hOBn
    refine ChL.fin (xa3s 59 (.tmp 36) (.tmp 35) rfl (w.heap.size + 1) 1 61 #[.int .u16 (B2:Nat),.slice vo KI.length vc] #[.int .u16 (B2:Nat),.slice ao7 (KI.length + 1) c7] (.slice ao7 (KI.length + 1) c7) rfl rfl hgx (by simp) Tryz.size_dgs rfl rfl ?_)
    have HG8:=hide (setRow_heap _ _ _ #[.int .u16 (B2:Nat),.slice ao7 (KI.length + 1) c7] _ _ hgx)
    have hk78:=(Kept.refl [w.heap.size + 1] w7).setRow (g:=w.heap.size + 1) (Or.inl (by simp)) #[.int .u16 (B2:Nat),.slice ao7 (KI.length + 1) c7]
    have HO8:=hide (hk78.owns (uh HO7) (fun x hx hm=>by
     have h1:=(uh HO7).lt x hx
     have h2:=uh HZ2
     simp at hm; omega))
    have HK8:=hide (show Kept [w.heap.size + 1] W2 (w7.setRow (w.heap.size + 1) #[.int .u16 (B2:Nat),.slice ao7 (KI.length + 1) c7]) from ((uh HK4).trans hk47 (fun x hx=>by
     right
     rw [← hOB] at hx
     exact (uh HOW x (by simpa using hx)).1)).trans hk78 (fun x hx=>Or.inl hx))
    have hlen:(KI++[N]).length = KI.length + 1:=by simp
    have hrows:(dgR (KI++[N])).flatten = (dgR KI).flatten++(dgR [N]).flatten:=by simp [dgR]
    clear hk78 hgx hk47 hk7 hg7 hrl hk6 hka hk5 k5 hd4
    generalize w7.setRow (w.heap.size + 1) #[.int .u16 (B2:Nat),.slice ao7 (KI.length + 1) c7] = W8 at HG8 HO8 HK8 ⊢
    go_wp2_with fail
    refine ⟨⟨i + 1,.slice ao7 (KI.length + 1) c7,by go_num,hlt,hide (by rw [uh HB]; exact uh HG8),hide (by rw [uh HKi,hlen,hrows]; exact uh HO8),HK8⟩,?_⟩
    simp [intOf]; omega
  ·have hie:i = 16:=by omega
   subst hie
   have hlt':¬ ((16:Nat):Int) < 16:=by omega
   have hrd:=xb7h (xa2x (by rw [show (dgR (kidI (hsZ k) f d L 16)).length = (kidI (hsZ k) f d L 16).length by simp [dgR]]; exact uh HO) (xb0b (xb0x k f d L 16))) (xb0x k f d L 16)
   rw [xb7t] at hrd
   have hbm:bmI (hsZ k) d L 16 = bm (hsZ k) d L:=xb9q _ _ _
   have hG:=uh HG
   rw [hbm] at hG
   have hown:=fun x hx=>(uh HO).lt x hx
   obtain ⟨vo,vc,rfl⟩:=xa0n (uh HO)
   have hbl:∀ x∈blk (.slice vo (kidI (hsZ k) f d L 16).length vc),w.heap.size + 1 + 1≤x:=fun x hx=>by
    have h2:=uh HZ2
    rcases (uh HO).2 with ⟨e,_⟩ | ⟨g,c,cur,e,hg,_⟩
    ·injection e with e1; subst e1; simp [blk] at hx
    ·injection e with e1; subst e1; have:x = g:=by simpa [blk] using hx
     omega
   generalize (kidI (hsZ k) f d L 16).length = kl at hG hrd hbl ⊢
   have HG9:=hide hG
   have HRD:=hide hrd
   have HBL:=hide hbl
   have HZR:=hide ((uh HKr).heap (uh HG02) (by simp))
   have HKw:=hide (show Kept [] w wr from (uh HKW).trans (uh HKr) (by intro x hx; simp at hx; right; omega))
   clear hG hrd hbl hown hbm HG HO
   have c0:wr.cell? ⟨w.heap.size + 1,0,none⟩ = some (.int .u16 (bm (hsZ k) d L:Nat)):=by rw [cell_of_row _ _ _ _ _ _ (uh HG9)]; rfl
   have c1:wr.cell? ⟨w.heap.size + 1,1,none⟩ = some (.slice vo kl vc):=by rw [cell_of_row _ _ _ _ _ _ (uh HG9)]; rfl
   have r0:wr.cell? ⟨w.heap.size,0,none⟩ = some (.int .u16 0):=by rw [cell_of_row _ _ _ _ _ _ (uh HZR)]; rfl
   have r1:wr.cell? ⟨w.heap.size,1,none⟩ = some (.slice none 0 0):=by rw [cell_of_row _ _ _ _ _ _ (uh HZR)]; rfl
   have z0:=frozen_of_row _ _ 0 _ _ (uh HZR)
   have z1:=frozen_of_row _ _ 1 _ _ (uh HZR)
   go_wp2_with fail
   have k9:=((Kept.refl [w.heap.size] wr).setCell (p:=⟨w.heap.size,0,none⟩) (Or.inl (by simp)) (.int .u16 (bm (hsZ k) d L:Nat))).setCell (p:=⟨w.heap.size,1,none⟩) (Or.inl (by simp)) (.slice vo kl vc)
   refine bodyPost_ret (v:=.agg #[.int .u16 (bm (hsZ k) d L:Nat),.slice vo kl vc]) ?_ rfl ⟨.slice vo kl vc,rfl,xb6v (uh HRD) k9 (fun x hx hm=>by have:=uh HBL x hx; simp at hm; omega),fun x hx=>by have:=uh HBL x hx; omega,((uh HKw).setCell (p:=⟨w.heap.size,0,none⟩) (Or.inr (Nat.le_refl _)) _).setCell (p:=⟨w.heap.size,1,none⟩) (Or.inr (Nat.le_refl _)) _⟩
   exact results_cell_row rfl _ _ w.heap.size 61 #[.int .u16 (bm (hsZ k) d L:Nat),.slice vo kl vc] (0,0) _ rfl (by rw [heap_setCell_same _ w.heap.size 1 _ _ _ (heap_setCell_same _ w.heap.size 0 _ _ _ (uh HZR))]; rfl) Tryz.underlying61 rfl Tryz.size_stp
set_option maxHeartbeats 4000000 in
theorem xa9c (k:Nat) (hk:1≤k∧k≤32):∀ f,f≤64→NodeOk k f
 | f,hf=>by
  intro T mv L w hM hne hs hfit hl hpre hT
  have HM:=hide hM
  obtain ⟨ao,c,l,rfl,hc1,hc2,hll,hpr,hcell⟩:=hM.parts
  have HZ0:=hide (heap_alloc_new w (.cells (zb 32) 30))
  have HK0:=hide ((Kept.refl [] w).alloc (.cells (zb 32) 30))
  have hNd:=nod_dg k f L
  have HPB:=hide (show (pairB L).length≤1000000000000 by have:=xa2r hfit; omega)
  have HS:=hide hs
  have HFI:=hide hfit
  have HPR:=hide hpre
  cases hsg:sgl (hsZ k) L with
  | true =>
   have hE:nodP (hsZ k) f L = sumD (k:Int) (buckB L):=xb1k hsg
   obtain ⟨C,hC⟩:∃ C,nodP (hsZ k) f L = C:=⟨_,rfl⟩
   rw [hC] at hE hNd ⊢
   have HE:=hide hE
   have HSG:=hide hsg
   have hcl:=hNd.1
   have HS2:=hide (by rw [xa0a,hcl]; exact Tryz.size_dig:(Tryz.prog.info? 30).map (·.size) = some (brow C).size)
   clear hM hcell hpr hs hfit hpre hE hC hsg hNd
   go_enter Tryz.func65,Tryz.ntmps65
   go_wp2_with fail
   rw [zb32]
   refine Calls.mono (xa6a T k _ L _ hk ((uh HM).agr (Agr.nil (uh HK0))) (uh HS) hl) ?_
   rintro e w1 ⟨rfl,k1⟩
   rw [uh HSG]
   have HK1:=hide ((uh HK0).trans k1 (by simp))
   have HZ1:=hide (k1.heap (uh HZ0) (by simp))
   clear k1
   go_wp2_with fail
   refine Calls.mono (xa7m T k _ L w1 ((uh HM).agr (Agr.nil (uh HK1))) hl) ?_
   rintro e w2 ⟨v2,rfl,r2,k2⟩
   have HR2:=hide r2
   have HK2:=hide ((uh HK1).trans k2 (by simp))
   have HZ2:=hide (k2.heap (uh HZ1) (by simp))
   clear r2 k2
   go_wp2_with fail
   refine Calls.mono (xa2m k v2 L w2 hk (uh HR2) (uh HPB)) ?_
   rintro e w3 ⟨rfl,k3⟩
   rw [← uh HE]
   have HK3:=hide ((uh HK2).trans k3 (by simp))
   have HZ3:=hide (k3.heap (uh HZ2) (by simp))
   clear k3
   go_wp2_with (refine wpList_store_row rfl 30 _ _ rfl w.heap.size (brow C) rfl rfl _ (zb 32) (uh HZ3) (uh HS2) (by rw [xa0i,xa0a,hcl]) (xa0f _) ?_)
   refine bodyPost_ret (v:=.agg (brow C)) ?_ rfl ⟨rfl,(uh HK3).setRow (Or.inr (Nat.le_refl _)) _⟩
   exact results_cell_row rfl _ _ w.heap.size _ (brow C) (0,0) _ rfl (setRow_heap _ _ _ _ _ _ (uh HZ3)) Tryz.underlying30 rfl (uh HS2)
  | false =>
   match f,hf with
   | 0,_=>exact absurd (xb5d (hsZ_ok hk) hpre (by have:(hsZ k).wd = k:=rfl; omega)) (by rw [hsg]; simp)
   | f + 1,hf =>
    have IH:=hide (xa9c k hk f (by omega))
    have hE:nodP (hsZ k) (f + 1) L = sumD (k:Int) (branchB (k:Int) (bm (hsZ k) (63 - f) L) ((kidsL (hsZ k) (63 - f) L).map (nodP (hsZ k) f))):=by
     rw [nod_br hsg]; unfold kidsL; rw [List.map_map]; rfl
    obtain ⟨C,hC⟩:∃ C,nodP (hsZ k) (f + 1) L = C:=⟨_,rfl⟩
    rw [hC] at hE hNd ⊢
    have HE:=hide hE
    have HSG:=hide hsg
    have hcl:=hNd.1
    have hd:64 - (f + 1) = 63 - f:=by omega
    rw [hd] at HPR ⊢
    have HS2:=hide (by rw [xa0a,hcl]; exact Tryz.size_dig:(Tryz.prog.info? 30).map (·.size) = some (brow C).size)
    have hbl:=bm_lt (hsZ k) (63 - f) L
    have hkl:((kidsL (hsZ k) (63 - f) L).map (nodP (hsZ k) f)).length≤16:=by rw [List.length_map,xa3c]; exact cnt_le _ _
    have HST:=hide (fun w hM=>xb3k k f (by omega) (uh IH) T (.slice ao L.length c) L w hM hne (uh HS) (uh HFI) hl (uh HPR))
    generalize bm (hsZ k) (63 - f) L = BM at HE hbl HST
    generalize (kidsL (hsZ k) (63 - f) L).map (nodP (hsZ k) f) = KS at HE hkl HST
    generalize 63 - f = d at HST ⊢
    clear hM hcell hpr hs hfit hpre hE hC hsg hNd hd
    go_enter Tryz.func65,Tryz.ntmps65
    go_wp2_with fail
    rw [zb32]
    refine Calls.mono (xa6a T k _ L _ hk ((uh HM).agr (Agr.nil (uh HK0))) (uh HS) hl) ?_
    rintro e w1 ⟨rfl,k1⟩
    rw [uh HSG]
    have HK1:=hide ((uh HK0).trans k1 (by simp))
    have HZ1:=hide (k1.heap (uh HZ0) (by simp))
    clear k1
    go_wp2_with fail
    refine Calls.mono (uh HST w1 ((uh HM).agr (Agr.nil (uh HK1)))) ?_
    rintro e w2 ⟨v2,rfl,r2,n2,k2⟩
    obtain ⟨p1,p2,p3,rfl,_⟩:=id r2
    have HK2:=hide ((uh HK1).trans k2 (by simp))
    have HZ2:=hide (k2.heap (uh HZ1) (by simp))
    have HKS:=hide ((Kept.refl [] w2).alloc (.cells #[.int .u16 (BM:Nat),.slice p1 p2 p3] 61))
    have HR2:=hide (r2.old (uh HKS))
    have HQ:=hide (heap_alloc_new w2 (.cells #[.int .u16 (BM:Nat),.slice p1 p2 p3] 61))
    have HK3:=hide ((uh HK2).trans (uh HKS) (by simp))
    have HZ3:=hide ((uh HKS).heap (uh HZ2) (by simp))
    clear r2 k2 n2
    have c0:(w2.alloc (.cells #[.int .u16 (BM:Nat),.slice p1 p2 p3] 61)).cell? ⟨w2.heap.size,0,none⟩ = some (.int .u16 (BM:Nat)):=by rw [cell_of_row _ _ _ _ _ _ (uh HQ)]; rfl
    have c1:(w2.alloc (.cells #[.int .u16 (BM:Nat),.slice p1 p2 p3] 61)).cell? ⟨w2.heap.size,1,none⟩ = some (.slice p1 p2 p3):=by rw [cell_of_row _ _ _ _ _ _ (uh HQ)]; rfl
    go_wp2_with fail
    refine Calls.mono (xa6q k BM _ KS _ hk hbl (uh HR2) hkl) ?_
    rintro e w4 ⟨rfl,k4⟩
    rw [← uh HE]
    have HK4:=hide ((uh HK3).trans k4 (by simp))
    have HZ4:=hide (k4.heap (uh HZ3) (by simp))
    clear k4 c0 c1
    go_wp2_with (refine wpList_store_row rfl 30 _ _ rfl w.heap.size (brow C) rfl rfl _ (zb 32) (uh HZ4) (uh HS2) (by rw [xa0i,xa0a,hcl]) (xa0f _) ?_)
    refine bodyPost_ret (v:=.agg (brow C)) ?_ rfl ⟨rfl,(uh HK4).setRow (Or.inr (Nat.le_refl _)) _⟩
    exact results_cell_row rfl _ _ w.heap.size _ (brow C) (0,0) _ rfl (setRow_heap _ _ _ _ _ _ (uh HZ4)) Tryz.underlying30 rfl (uh HS2)
set_option maxHeartbeats 2000000 in
theorem xa9s (T:Nat→Prop) (k:Nat) (hk:1≤k∧k≤32) (mv:Value) (L:Prs) (w:World) (hM:IAt T k w mv L) (hs:Srt (hsZ k) L) (hfit:Fit L) (hl:L.length≤1000000000) (hT:∀ y,w.heap.size≤y→T y) :
  Calls Tryz.prog 40 #[.int .i64 k,mv] w fun e w'=>e = .returned (.agg (brow (rootP k L)))∧Kept [] w w':=by
 have HM:=hide hM
 obtain ⟨ao,c,l,rfl,hc1,hc2,hll,hpr,hcell⟩:=hM.parts
 have HZ0:=hide (heap_alloc_new w (.cells (zb 32) 30))
 have HK0:=hide ((Kept.refl [] w).alloc (.cells (zb 32) 30))
 clear hM hcell hpr
 by_cases h0:L = []
 ·subst h0
  obtain ⟨C,hC⟩:∃ C,cutL k (hash [5]) = C:=⟨_,rfl⟩
  have hcl:C.length = 32:=by rw [← hC]; exact xa0w k (hash [5]) (by omega) (xa1f [5])
  have hR:rootP k [] = C:=hC
  rw [hR]
  have HC:=hide hC
  have HS2:=hide (by rw [xa0a,hcl]; exact Tryz.size_dig:(Tryz.prog.info? 30).map (·.size) = some (brow C).size)
  clear hC hR
  go_enter Tryz.func40,Tryz.ntmps40
  go_wp2_with fail
  rw [zb32]
  refine Calls.mono (xa4i k _ (by omega)) ?_
  rintro e w1 ⟨rfl,k1⟩
  rw [uh HC]
  have HK1:=hide ((uh HK0).trans k1 (by simp))
  have HZ1:=hide (k1.heap (uh HZ0) (by simp))
  clear k1
  go_wp2_with (refine wpList_store_row rfl 30 _ _ rfl w.heap.size (brow C) rfl rfl _ (zb 32) (uh HZ1) (uh HS2) (by rw [xa0i,xa0a,hcl]) (xa0f _) ?_)
  refine bodyPost_ret (v:=.agg (brow C)) ?_ rfl ⟨rfl,(uh HK1).setRow (Or.inr (Nat.le_refl _)) _⟩
  exact results_cell_row rfl _ _ w.heap.size _ (brow C) (0,0) _ rfl (setRow_heap _ _ _ _ _ _ (uh HZ1)) Tryz.underlying30 rfl (uh HS2)
 ·have hR:rootP k L = nodP (hsZ k) 64 L:=by
   unfold rootP
   cases L with
   | nil=>exact absurd rfl h0
   | cons y L=>rfl
  have hp:0 < L.length:=by cases L with
   | nil=>exact absurd rfl h0
   | cons y L=>simp
  rw [hR]
  have hcl:=(nod_dg k 64 L).1
  have HN:=hide (fun w hM hT=>xa9c k hk 64 (Nat.le_refl _) T (.slice ao L.length c) L w hM h0 hs hfit hl (Pre.zero _ _) hT)
  rw [show ((64 - 64:Nat):Int) = 0 from rfl] at HN
  generalize nodP (hsZ k) 64 L = C at hcl HN ⊢
  have HS2:=hide (by rw [xa0a,hcl]; exact Tryz.size_dig:(Tryz.prog.info? 30).map (·.size) = some (brow C).size)
  have HT:=hide hT
  generalize hn:L.length = n at HM HN hp ⊢
  have q1:((n:Int) == 0) = false:=by rw [beq_eq_false_iff_ne]; omega
  have q2:¬ n = 0:=by omega
  clear hR hs hfit h0 hT hll hc1 hn
  go_enter Tryz.func40,Tryz.ntmps40
  go_wp2_with fail
  rw [zb32]
  refine Calls.mono (uh HN _ ((uh HM).agr (Agr.nil (uh HK0))) (fun y hy=>uh HT y (by have:=(uh HK0).size; omega))) ?_
  rintro e w1 ⟨rfl,k1⟩
  have HK1:=hide ((uh HK0).trans k1 (by simp))
  have HZ1:=hide (k1.heap (uh HZ0) (by simp))
  clear k1
  go_wp2_with (refine wpList_store_row rfl 30 _ _ rfl w.heap.size (brow C) rfl rfl _ (zb 32) (uh HZ1) (uh HS2) (by rw [xa0i,xa0a,hcl]) (xa0f _) ?_)
  refine bodyPost_ret (v:=.agg (brow C)) ?_ rfl ⟨rfl,(uh HK1).setRow (Or.inr (Nat.le_refl _)) _⟩
  exact results_cell_row rfl _ _ w.heap.size _ (brow C) (0,0) _ rfl (setRow_heap _ _ _ _ _ _ (uh HZ1)) Tryz.underlying30 rfl (uh HS2)

end
end Go.Proofs.YtbobbnbjnadalaaGreatDoor
