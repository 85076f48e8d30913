import Derived.Test.YtiopaaeejppnnaaGreatDoorTopB
namespace Go.Proofs.YtiopaaeejppnnaaGreatDoor
set_option linter.unusedVariables false
set_option linter.unusedSimpArgs false
set_option maxRecDepth 100000
section
open Go.RowKit Go.BigFrame
def zwy:Array Value:=(wayC 0 (List.replicate 32 0) (.slice none 0 0) (.pointer none) 0 false).toArray
theorem xa2t:(#[.int .i64 0,.int .u8 0,.int .u8 0,.int .u8 0,.int .u8 0,.int .u8 0,.int .u8 0,.int .u8 0,.int .u8 0,.int .u8 0,.int .u8 0,.int .u8 0,.int .u8 0,.int .u8 0,.int .u8 0,.int .u8 0,.int .u8 0,.int .u8 0,.int .u8 0,.int .u8 0,.int .u8 0,.int .u8 0,.int .u8 0,.int .u8 0,.int .u8 0,.int .u8 0,.int .u8 0,.int .u8 0,.int .u8 0,.int .u8 0,.int .u8 0,.int .u8 0,.int .u8 0,.slice none 0 0,.pointer none,.int .i64 0,.bool false]:Array Value) = zwy:=rfl
theorem Tryz.size_way:(Tryz.prog.info? 88).map (·.size) = some 37:=by kernel_rfl
theorem xa1k {k:Nat} {D:List Nat} {cr en:Value} (pl:Nat) (fd:Bool) (h1:cr.oneCell' = true) (h2:en.oneCell' = true):(wayC k D cr en pl fd).toArray.all (·.oneCell') = true:=by
 rw [Array.all_eq_true_iff_forall_mem]
 intro v hv
 simp only [wayC,List.mem_toArray,List.mem_cons,List.mem_append,List.mem_map,List.not_mem_nil,or_false] at hv
 rcases hv with rfl | ⟨x,_,rfl⟩ | rfl | rfl | rfl | rfl
 ·rfl
 ·rfl
 ·exact h1
 ·exact h2
 ·rfl
 ·rfl
def wyM (b:Nat) (W:World):Nat:=match W.cell? ⟨b,33,none⟩ with
 | some (.slice _ n _)=>100 - n
 | _=>0
theorem wyM_at {b k pl:Nat} {W:World} {D:List Nat} {en:Value} {fd:Bool} {t:TypeId} {ao:Option Addr} {n c:Nat} (h:W.heap[b]? = some (.cells (wayC k D (.slice ao n c) en pl fd).toArray t (0,0))) (hD:D.length = 32):wyM b W = 100 - n:=by
 unfold wyM; rw [(xa0s h hD).2.2.1]
theorem Tryz.infoPB:(Tryz.prog.info? 104).map (fun i=>(i.zero,i.size,i.bytes)) = some (some (.pointer none),1,8):=by kernel_rfl
theorem xa8a (gs:List Nat):(∀ r∈ptrs gs,r.length = 1)∧∀ r∈ptrs gs,∀ u∈r,u.oneCell' = true:=by
 constructor
 ·intro r hr; obtain ⟨g,_,rfl⟩:=List.mem_map.1 hr; rfl
 ·intro r hr u hu; obtain ⟨g,_,rfl⟩:=List.mem_map.1 hr; have:u = .pointer (some ⟨g,0,none⟩):=by simpa using hu
  rw [this]; rfl
theorem xa3t {w:World} {base:Nat} {e t:TypeId} {s n b:Nat} {v:Value} {xs:List Value} {cs:Array Value} {fr:Nat × Nat} (h:w.ownsRow base e s v n xs) (hb:w.heap[b]? = some (.cells cs t fr)) (hne:e≠t):v.ownBlock≠some b:=by
 intro e'
 rcases h.2 with ⟨rfl,_⟩ | ⟨g,cap,cur,rfl,_,hg,_⟩
 ·simp [Value.ownBlock] at e'
 ·simp only [Value.ownBlock,Option.some.injEq] at e'
  subst e'
  rw [hb] at hg
  simp at hg
  first | exact hne hg.2.1.symm | exact hne hg.2.symm
structure WayAt0 (S:Nat→Prop) (k:Nat) (w W:World) (q:List Nat) (L:Prs) (m:Nat) (cr en:Value) (pl:Nat) (fd:Bool):Prop where
 cr:∃ gs:List Nat,gs.length = m∧RdC 1 W cr (ptrs gs)∧∀ i,i < m→TreeAt S (hsZ k) w (64 - i) (brV (gs.getD i 0)) (dnL (hsZ k) q L i)∧sgl (hsZ k) (dnL (hsZ k) q L i) = false
 en:(dnL (hsZ k) q L m = []∧en = .pointer none∧pl = 0∧fd = false)∨(sgl (hsZ k) (dnL (hsZ k) q L m) = true∧∃ g,en = .pointer (some ⟨g,0,none⟩)∧BkAt S (hsZ k) w g (dnL (hsZ k) q L m)∧pl = plc q (dnL (hsZ k) q L m)∧fd = fnd q (dnL (hsZ k) q L m))
 deep:m≤2 * k
theorem WayAt0.fin {S T:Nat→Prop} {k:Nat} {w W':World} {q:List Nat} {L:Prs} {m:Nat} {cr en:Value} {pl:Nat} {fd:Bool} (h:WayAt0 T k w W' q L m cr en pl fd) (hs:∀ x,T x→S x) (kk:Agr T w W'):WayAt S k W' q L m cr en pl fd:=by
 obtain ⟨⟨gs,h1,h2,h3⟩,h4,h5⟩:=h
 refine ⟨⟨gs,h1,h2,fun i hi=>⟨((h3 i hi).1.agr kk).mono hs,(h3 i hi).2⟩⟩,?_,h5⟩
 rcases h4 with h4 | ⟨h4,g,h6,h7,h8⟩
 ·exact Or.inl h4
 ·exact Or.inr ⟨h4,g,h6,(h7.agr kk).mono hs,h8⟩
theorem xa9z {w:World} {base T m:Nat} {v:Value} {gs:List Nat} (h:w.ownsRow base T 1 v m (ptrs gs).flatten) (hl:gs.length = m):RdC 1 w v (ptrs gs) :=
 xa1z (by rw [show (ptrs gs).length = m by rw [ptrs,List.length_map,hl]]; exact h) (xa8a gs).1
set_option maxHeartbeats 4000000 in
theorem xb5s (S:Nat→Prop) (k:Nat) (tv:Value) (L:Prs) (uw:Value) (q:List Nat) (w:World) (hk:1≤k∧k≤32) (h:KidAt S (hsZ k) w 64 tv L) (hs:Srt (hsZ k) L) (hu:Rd w uw q) (hn:L.length≤1000000000) :
  Calls Tryz.prog 67 #[.int .i64 k,tv,.agg (brow ((hsZ k).kd q)),uw] w fun e w'=>∃ m cr en pl fd,e = .returned (.agg (wayC k ((hsZ k).kd q) cr en pl fd).toArray)∧WayAt S k w' q L m cr en pl fd∧Kept [] w w':=by
 have hH:=hsZ_ok hk
 have hDg:=hH.dg q
 have hfm:=xa9j hk q
 have hu':=hu
 obtain ⟨ua,un,uc,rfl,_⟩:=hu'
 obtain ⟨D,hD⟩:∃ D,(hsZ k).kd q = D:=⟨_,rfl⟩
 have HDn:=hide (fun i=>by rw [← hD]; rfl:∀ i,ch (hsZ k) i (dgt D i) (dnL (hsZ k) q L i) = dnL (hsZ k) q L (i + 1))
 rw [hD] at hDg hfm ⊢
 have hDl:=hDg.1
 have HU:=hide hu
 have HSr:=hide hs
 have hm1:=ta_bk
 have hm2:=ta_br
 have hm3:=ta_nil
 have hm4:=tb_bk
 have hm5:=tb_br
 have hm6:=tb_nil
 have HB:=hide (xb5k k D hDl)
 clear hu hs hD
 have HK0:=hide (((Kept.refl [] w).alloc (.cells (brow D) 50)).alloc (.cells zwy 88))
 have HD0:=hide (((Kept.refl [] (w.alloc (.cells (brow D) 50))).alloc (.cells zwy 88)).heap (heap_alloc_new w (.cells (brow D) 50)) (by simp))
 have HZ0:=hide (xa2z w (.cells (brow D) 50) (.cells zwy 88))
 have hs0:((w.alloc (.cells (brow D) 50)).alloc (.cells zwy 88)).heap.size = w.heap.size + 2:=by simp
 have h':=h.shrink hH
 obtain ⟨T,hT⟩:∃ T,lowS S w = T:=⟨_,rfl⟩
 rw [hT] at h'
 have HTS:=hide (by rw [← hT]; exact xb2v S w:∀ x,T x→S x)
 have HAG:=hide (by rw [← hT]; exact fun A B hA hB hl=>xc2g hA hB hl:∀ A B,Kept [] w A→Kept [] w B→A.heap.size≤B.heap.size→Agr T A B)
 clear hT h
 go_enter Tryz.func67,Tryz.ntmps67
 have hnw:((wayC k D (.slice none 0 0) (.pointer none) 0 false).toArray).size = 37:=by rw [List.size_toArray,xa0w hDl]
 have HZ1:=hide (by have h9:=heap_alloc_new ((w.alloc (.cells (brow D) 50)).alloc (.cells zwy 88)) (.cells zwy 88); rw [hs0] at h9; exact h9:(((w.alloc (.cells (brow D) 50)).alloc (.cells zwy 88)).alloc (.cells zwy 88)).heap[w.heap.size + 1 + 1]? = some (.cells zwy 88 (0,0)))
 have HK1:=hide ((uh HK0).alloc (.cells zwy 88))
 have HR2:=hide (setRow_heap _ _ _ ((wayC k D (.slice none 0 0) (.pointer none) 0 false).toArray) _ _ (uh HZ1))
 have HK2:=hide ((uh HK1).setRow (g:=w.heap.size + 1 + 1) (Or.inr (by omega)) ((wayC k D (.slice none 0 0) (.pointer none) 0 false).toArray))
 have hk9:=((Kept.refl [w.heap.size + 1 + 1] ((w.alloc (.cells (brow D) 50)).alloc (.cells zwy 88))).alloc (.cells zwy 88)).setRow (g:=w.heap.size + 1 + 1) (Or.inl (by simp)) ((wayC k D (.slice none 0 0) (.pointer none) 0 false).toArray)
 have HD2:=hide (hk9.heap (uh HD0) (by simp; omega))
 have HZ2:=hide (hk9.heap (uh HZ0) (by simp))
 clear hk9
 go_wp2_with (first
  | (rw [xa2t]; refine wpList_load_row rfl 50 (.tmp 6) rfl w.heap.size rfl 50 (brow D) (0,0) _ (uh HD0) Tryz.underlying50 rfl (by rw [xa0a,hDl]; exact Tryz.size_dig) ?_)
  | (refine xa0p rfl 88 _ rfl (wayC k D (.slice none 0 0) (.pointer none) 0 false).toArray (by simp only [List.map_toArray,List.map_cons,List.map_nil]; exact uh HB) ?_)
  | (rw [xa2t]; refine wpList_store_row rfl 88 (.tmp 9) (.tmp 15) rfl (w.heap.size + 1 + 1) (wayC k D (.slice none 0 0) (.pointer none) 0 false).toArray rfl rfl _ zwy (uh HZ1) (by rw [hnw]; exact Tryz.size_way) (by rw [hnw]; rfl) (xa1k _ _ rfl rfl) ?_))
 clear HZ1 HK1 HZ0 HD0 HK0 hs0 HB
 generalize ((((w.alloc (.cells (brow D) 50)).alloc (.cells zwy 88)).alloc (.cells zwy 88)).setRow (w.heap.size + 1 + 1) ((wayC k D (.slice none 0 0) (.pointer none) 0 false).toArray)) = W2 at HR2 HK2 HD2 HZ2 ⊢
 simp only [Act.put]
 have hw2:=hide (uh HK2).size
 go_loopw [1] (fun t1 wr=>∃ (m:Nat) (v:Value) (ao:Option Addr) (c:Nat) (gs:List Nat),t1 = v∧gs.length = m∧m≤2 * k∧Hid (KidAt T (hsZ k) wr (64 - m) v (dnL (hsZ k) q L m))∧Hid (∀ i,i < m→TreeAt T (hsZ k) wr (64 - i) (brV (gs.getD i 0)) (dnL (hsZ k) q L i)∧sgl (hsZ k) (dnL (hsZ k) q L i) = false)∧Hid (wr.ownsRow w.heap.size 104 1 (.slice ao m c) m (ptrs gs).flatten) ∧
  Hid (wr.heap[w.heap.size + 2]? = some (.cells (wayC k D (.slice ao m c) (.pointer none) 0 false).toArray 88 (0,0)))∧Hid (wr.heap[w.heap.size + 1]? = some (.cells zwy 88 (0,0)))∧Hid (wr.heap[w.heap.size]? = some (.cells (brow D) 50 (0,0)))∧Hid (Kept [] w wr)) (fun _ wr=>wyM (w.heap.size + 2) wr)
 case atStart=>exact ⟨0,tv,none,0,[],rfl,rfl,Nat.zero_le _,hide (h'.agr (uh HAG w W2 (Kept.refl [] w) (uh HK2) (uh HK2).size)),hide (fun i hi=>by omega),hide (World.ownsRow_nil _ _ _ _),HR2,HZ2,HD2,HK2⟩
 case round =>
  obtain ⟨m,v,ao,c,gs,rfl,hgl,hmk,HKd,HTs,HOw,HRw,HZw,HDw,HKw⟩:=hrel
  have hnwA:∀ cr en pl fd,((wayC k D cr en pl fd).toArray).size = 37:=fun cr en pl fd=>by rw [List.size_toArray,xa0w hDl]
  rcases uh HKd with ⟨hnil,rfl⟩ | ht
  ·have hkf:=(uh HKw).setRow (g:=w.heap.size + 1) (Or.inr (by omega)) (wayC k D (.slice ao m c) (.pointer none) 0 false).toArray
   have hof:=((Kept.refl [w.heap.size + 1] wr).setRow (g:=w.heap.size + 1) (Or.inl (by simp)) (wayC k D (.slice ao m c) (.pointer none) 0 false).toArray).owns (uh HOw) (fun x hx hm=>xa3t (uh HOw) (uh HZw) (by decide) (by rw [List.mem_singleton] at hm; rw [← hm]; exact hx))
   go_wp2_with (first
    | (refine wpList_load_row rfl 88 (.tmp 9) rfl (w.heap.size + 2) rfl 88 (wayC k D (.slice ao m c) (.pointer none) 0 false).toArray (0,0) _ (uh HRw) Tryz.underlying88 rfl (by rw [hnwA]; exact Tryz.size_way) ?_)
    | (refine wpList_store_row rfl 88 (.tmp 8) (.tmp 17) rfl (w.heap.size + 1) (wayC k D (.slice ao m c) (.pointer none) 0 false).toArray rfl rfl _ zwy (uh HZw) (by rw [hnwA]; exact Tryz.size_way) (by rw [hnwA]; rfl) (xa1k _ _ rfl rfl) ?_))
   refine bodyPost_ret (v:=.agg (wayC k D (.slice ao m c) (.pointer none) 0 false).toArray) ?_ rfl ⟨m,_,_,_,_,rfl,WayAt0.fin ⟨⟨gs,hgl,xa9z hof hgl,fun i hi=>uh HTs i hi⟩,Or.inl ⟨hnil,rfl,rfl,rfl⟩,hmk⟩ (uh HTS) (uh HAG _ _ (uh HKw) hkf (by simp)),hkf⟩
   exact results_cell_row rfl _ _ (w.heap.size + 1) _ (wayC k D (.slice ao m c) (.pointer none) 0 false).toArray (0,0) _ rfl (setRow_heap _ _ _ _ _ _ (uh HZw)) Tryz.underlying88 rfl (by rw [hnwA]; exact Tryz.size_way)
  ·cases hsg:sgl (hsZ k) (dnL (hsZ k) q L m) with
   | true =>
    obtain ⟨g,rfl,hb⟩:=ht.bk hsg
    have hlen:=dn_len (H:=hsZ k) (q:=q) (L:=L) m
    have hkdx:((hsZ k).kd ((dnL (hsZ k) q L m).headD ([],[])).1).length = 32:=(hH.dg _).1
    have hris:=xa5o (dn_srt (uh HSr) m) hsg
    obtain ⟨cw0,cw1,cw2,cw3,cw4,cw5⟩:=xa0s (uh HRw) hDl
    have cz:=fun o=>frozen_of_row _ (w.heap.size + 2) (⟨w.heap.size + 2,o,none⟩:Addr).off _ _ (uh HRw)
    have HR3:=hide ((xa9x (uh HRw) hDl).2.1 (.pointer (some ⟨g,0,none⟩)))
    have HK3:=hide ((uh HKw).setCell (p:=⟨w.heap.size + 2,34,none⟩) (Or.inr (by show w.heap.size≤w.heap.size + 2; omega)) (.pointer (some ⟨g,0,none⟩)))
    have hko:=(Kept.refl [w.heap.size + 2] wr).setCell (p:=⟨w.heap.size + 2,34,none⟩) (Or.inl (by simp)) (.pointer (some ⟨g,0,none⟩))
    have HZ3:=hide (hko.heap (uh HZw) (by simp))
    have HO3:=hide (hko.owns (uh HOw) (fun x hx hm=>xa3t (uh HOw) (uh HRw) (by decide) (by rw [List.mem_singleton] at hm; rw [← hm]; exact hx)))
    clear hko cw0 cw1 cw2 cw4 cw5
    go_wp2_with fail
    clear cw3 cz
    have hz3:wr.heap.size≤(wr.setCell ⟨w.heap.size + 2,34,none⟩ (.pointer (some ⟨g,0,none⟩))).heap.size:=by simp
    generalize wr.setCell ⟨w.heap.size + 2,34,none⟩ (.pointer (some ⟨g,0,none⟩)) = W3 at HR3 HK3 HZ3 HO3 hz3 ⊢
    refine Calls.mono (xb4x T (hsZ k) g (dnL (hsZ k) q L m) _ q W3 (hb.agr (uh HAG _ _ (uh HKw) (uh HK3) hz3)) hkdx ((uh HU).old (uh HK3) (by simp)) hris (by omega)) ?_
    rintro e W4 ⟨rfl,k4⟩
    generalize hpl:plc q (dnL (hsZ k) q L m) = pl
    generalize hfd:fnd q (dnL (hsZ k) q L m) = fd
    have HR4:=hide (k4.heap (uh HR3) (by simp))
    have HK4:=hide ((uh HK3).trans k4 (by simp))
    have HZ4:=hide (k4.heap (uh HZ3) (by simp))
    have HZs:=hide (Nat.le_trans hz3 k4.size)
    have HO4:=hide (k4.owns (uh HO3) (by simp))
    clear k4 HR3 HK3 HZ3 HO3
    obtain ⟨cw0,cw1,cw2,cw3,cw4,cw5⟩:=xa0s (uh HR4) hDl
    have cz:=fun o=>frozen_of_row _ (w.heap.size + 2) (⟨w.heap.size + 2,o,none⟩:Addr).off _ _ (uh HR4)
    have HR5:=hide ((xa9x (uh HR4) hDl).2.2.1 pl)
    have HR6:=hide ((xa9x (uh HR5) hDl).2.2.2 fd)
    have hk6:=((uh HK4).setCell (p:=⟨w.heap.size + 2,35,none⟩) (Or.inr (by show w.heap.size≤w.heap.size + 2; omega)) (.int .i64 pl)).setCell (p:=⟨w.heap.size + 2,36,none⟩) (Or.inr (by show w.heap.size≤w.heap.size + 2; omega)) (.bool fd)
    have hko:=((Kept.refl [w.heap.size + 2] W4).setCell (p:=⟨w.heap.size + 2,35,none⟩) (Or.inl (by simp)) (.int .i64 pl)).setCell (p:=⟨w.heap.size + 2,36,none⟩) (Or.inl (by simp)) (.bool fd)
    have HZ6:=hide (hko.heap (uh HZ4) (by simp))
    have HO6:=hide (hko.owns (uh HO4) (fun x hx hm=>xa3t (uh HO4) (uh HR4) (by decide) (by rw [List.mem_singleton] at hm; rw [← hm]; exact hx)))
    have HK6:=hide hk6
    clear hko cw0 cw1 cw2 cw3 hk6 HR5
    have hkf:=(uh HK6).setRow (g:=w.heap.size + 1) (Or.inr (by omega)) (wayC k D (.slice ao m c) (.pointer (some ⟨g,0,none⟩)) pl fd).toArray
    have hof:=((Kept.refl [w.heap.size + 1] ((W4.setCell ⟨w.heap.size + 2,35,none⟩ (.int .i64 pl)).setCell ⟨w.heap.size + 2,36,none⟩ (.bool fd))).setRow (g:=w.heap.size + 1) (Or.inl (by simp)) (wayC k D (.slice ao m c) (.pointer (some ⟨g,0,none⟩)) pl fd).toArray).owns (uh HO6) (fun x hx hm=>xa3t (uh HO6) (uh HZ6) (by decide) (by rw [List.mem_singleton] at hm; rw [← hm]; exact hx))
    go_wp2_with (first
     | (refine wpList_load_row rfl 88 (.tmp 9) rfl (w.heap.size + 2) rfl 88 (wayC k D (.slice ao m c) (.pointer (some ⟨g,0,none⟩)) pl fd).toArray (0,0) _ (uh HR6) Tryz.underlying88 rfl (by rw [hnwA]; exact Tryz.size_way) ?_)
     | (refine wpList_store_row rfl 88 (.tmp 8) (.tmp 48) rfl (w.heap.size + 1) (wayC k D (.slice ao m c) (.pointer (some ⟨g,0,none⟩)) pl fd).toArray rfl rfl _ zwy (uh HZ6) (by rw [hnwA]; exact Tryz.size_way) (by rw [hnwA]; rfl) (xa1k _ _ rfl rfl) ?_))
    refine bodyPost_ret (v:=.agg (wayC k D (.slice ao m c) (.pointer (some ⟨g,0,none⟩)) pl fd).toArray) ?_ rfl ⟨m,_,_,_,_,rfl,WayAt0.fin ⟨⟨gs,hgl,xa9z hof hgl,fun i hi=>uh HTs i hi⟩,Or.inr ⟨hsg,g,rfl,hb,hpl.symm,hfd.symm⟩,hmk⟩ (uh HTS) (uh HAG _ _ (uh HKw) hkf (by have:=uh HZs; simp; omega)),hkf⟩
    exact results_cell_row rfl _ _ (w.heap.size + 1) _ (wayC k D (.slice ao m c) (.pointer (some ⟨g,0,none⟩)) pl fd).toArray (0,0) _ rfl (setRow_heap _ _ _ _ _ _ (uh HZ6)) Tryz.underlying88 rfl (by rw [hnwA]; exact Tryz.size_way)
   | false =>
    have hdeep:m < 2 * k:=deep hH (dn_on m).pre hsg
    obtain ⟨f,hf⟩:∃ f,64 - m = f + 1:=⟨63 - m,by omega⟩
    rw [hf] at ht
    obtain ⟨g,_,_,e,_⟩:=ht.2 hsg
    subst e
    have hfm2:63 - f = m:=by omega
    have hd16:=dgt_lt hDg.2 m
    have HT:=hide ht
    have hnx:=uh HDn m
    have hTm:TreeAt T (hsZ k) wr (64 - m) (brV g) (dnL (hsZ k) q L m):=by rw [hf]; exact ht
    have HTm:=hide hTm
    clear hTm
    obtain ⟨cw0,cw1,cw2,cw3,cw4,cw5⟩:=xa0s (uh HRw) hDl
    clear cw0 cw1 cw3 cw4 cw5 ht
    go_wp2_with (refine wpList_load_row rfl 50 (.tmp 6) rfl w.heap.size rfl 50 (brow D) (0,0) _ (uh HDw) Tryz.underlying50 rfl (by rw [xa0a,hDl]; exact Tryz.size_dig) ?_)
    refine Calls.mono (xa2i k D m wr hk hDg hfm hdeep) ?_
    rintro e W3 ⟨rfl,k3⟩
    have HK3:=hide ((uh HKw).trans k3 (by simp))
    have HR3:=hide (k3.heap (uh HRw) (by simp))
    have HZ3:=hide (k3.heap (uh HZw) (by simp))
    have HD3:=hide (k3.heap (uh HDw) (by simp))
    have HO3:=hide (k3.owns (uh HOw) (by simp))
    have HA3:=hide (uh HAG wr W3 (uh HKw) (uh HK3) k3.size)
    clear k3
    obtain ⟨x,hx⟩:∃ x,dgt D m = x:=⟨_,rfl⟩
    rw [hx] at hd16 hnx ⊢
    go_wp2_with fail
    refine Calls.mono (xc2e T (hsZ k) f g x (dnL (hsZ k) q L m) W3 ((uh HT).agr (uh HA3)) hsg hd16) ?_
    rintro e W4 ⟨v4,rfl,hk4,k4⟩
    rw [hfm2,hnx,show f = 64 - (m + 1) by omega] at hk4
    have HK4:=hide ((uh HK3).trans k4 (by simp))
    have HR4:=hide (k4.heap (uh HR3) (by simp))
    have HZ4:=hide (k4.heap (uh HZ3) (by simp))
    have HD4:=hide (k4.heap (uh HD3) (by simp))
    have HO4:=hide (k4.owns (uh HO3) (by simp))
    have hz4:=Nat.le_trans (uh HA3).1 k4.size
    have HKd4:=hide hk4
    clear k4 hk4 HK3 HR3 HZ3 HD3 HO3 HA3 HT cw2
    obtain ⟨cw0,cw1,cw2,cw3,cw4,cw5⟩:=xa0s (uh HR4) hDl
    clear cw0 cw1 cw3 cw4 cw5
    have hrl:=xb8u (t:=104) (l:=[.pointer (some ⟨g,0,none⟩)]) (heap_alloc_new W4 (.cells #[.pointer (some ⟨g,0,none⟩)] 104)) (by simp)
    have HRL:=hide hrl
    have hb4:=(uh HK4).size
    have hka:=(Kept.refl [] W4).alloc (.cells #[.pointer (some ⟨g,0,none⟩)] 104)
    have HO5:=hide (hka.owns (uh HO4) (by simp))
    have HR5:=hide (hka.heap (uh HR4) (by simp))
    have HZ5:=hide (hka.heap (uh HZ4) (by simp))
    have HD5:=hide (hka.heap (uh HD4) (by simp))
    have HK5:=hide ((uh HK4).trans hka (by simp))
    have hz5:=Nat.le_trans hz4 hka.size
    have hz45:=hka.size
    clear hrl hka
    go_wp2_with (at_builtin; refine xa0j rfl 85 104 (.tmp 30) (.tmp 32) rfl rfl (W4.alloc (.cells #[.pointer (some ⟨g,0,none⟩)] 104)) w.heap.size (.pointer none) 1 8 Tryz.underlying85 Tryz.infoPB rfl (by decide) (.slice ao m c) m (ptrs gs).flatten (uh HO5) (some ⟨W4.heap.size,0,none⟩) 1 1 (ptrs [g]) (uh HRL) (xa8a [g]).1 (xa8a [g]).2 (by omega) (by omega) (uh HK5).size rfl rfl ?_; intro ao6 c6 W6 HO6 HG6 HA6; have hk56:=(Kept.refl ((Value.slice ao m c).ownBlock.toList) _).grown (uh HG6) (by intro x hx; left; simp [hx]); have HR6:=hide (hk56.heap (uh HR5) (by intro hm; exact xa3t (uh HO5) (uh HR5) (by decide) (by simpa using hm))); have HZ6:=hide (hk56.heap (uh HZ5) (by intro hm; exact xa3t (uh HO5) (uh HZ5) (by decide) (by simpa using hm))); have HD6:=hide (hk56.heap (uh HD5) (by intro hm; exact xa3t (uh HO5) (uh HD5) (by decide) (by simpa using hm))); have HK6:=hide ((uh HK5).grown (uh HG6) (by intro x hx; right; exact ((uh HO5).lt x hx).1)); have hz6:=Nat.le_trans hz5 hk56.size; have hz46:=Nat.le_trans hz45 hk56.size; obtain ⟨cv0,cv1,cv2,cv3,cv4,cv5⟩:=xa0s (uh HR6) hDl; have cz:=frozen_of_row _ (w.heap.size + 2) 33 _ _ (uh HR6); clear hk56 cv0 cv1 cv3 cv4 cv5 cw2)
    have HR7:=hide ((xa9x (uh HR6) hDl).1 (.slice ao6 (m + 1) c6))
    have HK7:=hide ((uh HK6).setCell (p:=⟨w.heap.size + 2,33,none⟩) (Or.inr (by show w.heap.size≤w.heap.size + 2; omega)) (.slice ao6 (m + 1) c6))
    have hko:=(Kept.refl [w.heap.size + 2] W6).setCell (p:=⟨w.heap.size + 2,33,none⟩) (Or.inl (by simp)) (.slice ao6 (m + 1) c6)
    have HZ7:=hide (hko.heap (uh HZ6) (by simp))
    have HD7:=hide (hko.heap (uh HD6) (by simp))
    have HO7:=hide (hko.owns (uh HO6) (fun x hx hm=>xa3t (uh HO6) (uh HR6) (by decide) (by rw [List.mem_singleton] at hm; rw [← hm]; exact hx)))
    have hz7:wr.heap.size≤(W6.setCell ⟨w.heap.size + 2,33,none⟩ (.slice ao6 (m + 1) c6)).heap.size:=by simp; omega
    refine ⟨⟨m + 1,v4,ao6,c6,gs++[g],rfl,by rw [List.length_append,hgl]; rfl,by omega,hide ((uh HKd4).agr (uh HAG _ _ (uh HK4) (uh HK7) (by simp; omega))),hide (fun i hi=>?_),hide (by rw [show (ptrs (gs++[g])).flatten = (ptrs gs).flatten++(ptrs [g]).flatten by simp [ptrs]]; exact uh HO7),HR7,HZ7,HD7,HK7⟩,?_⟩
    ·rcases Nat.lt_or_ge i m with h9 | h9
     ·have h8:=uh HTs i h9
      rw [show (gs++[g]).getD i 0 = gs.getD i 0 by rw [List.getD_eq_getElem?_getD,List.getD_eq_getElem?_getD,List.getElem?_append_left (by omega)]]
      exact ⟨h8.1.agr (uh HAG _ _ (uh HKw) (uh HK7) hz7),h8.2⟩
     ·obtain rfl:i = m:=by omega
      rw [show (gs++[g]).getD i 0 = g by rw [List.getD_eq_getElem?_getD,List.getElem?_append_right (by omega),hgl,Nat.sub_self]; rfl]
      exact ⟨(uh HTm).agr (uh HAG _ _ (uh HKw) (uh HK7) hz7),hsg⟩
    ·rw [wyM_at (uh HR7) hDl,wyM_at (uh HRw) hDl]; omega
end
section
open Go Go.RowKit Go.BigFrame
theorem ChL.st {P:Program} {Q:Exit→Act→World→Prop} {S:World→Prop} {F:Act→World→Prop} {cs:List Oper} {o:Oper} {a A:Act} {w:World} (ty:TypeId) (x y:Operand) (ho:o.op = .store ty x y) (g:Nat) (cells:Array Value) (hx:a.eval x = .pointer (some ⟨g,0,none⟩)) (hy:a.eval y = .agg cells)
  (t:TypeId) (old:Array Value) (hg:w.heap[g]? = some (.cells old t (0,0))) (hi:(P.info? ty).map (·.size) = some cells.size) (hold:old.size = cells.size) (h1:cells.all (·.oneCell') = true) (hS:S (w.setRow g cells)) (p:a.put o.dst undef = A) (h:ChL P Q S F cs A (w.setRow g cells)):ChL P Q S F (o :: cs) a w:=by
 unfold ChL
 rw [← p] at h
 exact wp_store_row ty x y ho g cells hx hy t old hg hi hold h1 ⟨hS,h⟩
theorem ln_wd {P:Program} {Q:Exit→Act→World→Prop} {id:Nat} {o0 o1 o2 o3 o4 o5 o6 o7 o8 o9 o10 o11 o12:Oper} {a:Act} {w:World} (hm:P.follows .mixedOrders = true) (hb:linB #[o0,o1,o2,o3,o4,o5,o6,o7,o8,o9,o10,o11,o12] [0,1,2,3,4,5,6,7,8,9] [10,11,12] [] = true) (hg:([o0,o1,o2,o3,o4,o5,o6,o7,o8,o9]++([o10,o11,o12]++[])).all (fun o=>o.guard.isNone) = true) (S:World→Prop) (hS:S w.drew)
  (h:LinY P S (ChL P Q S (Q .normal) [o10,o11,o12]) [o0,o1,o2,o3,o4,o5,o6,o7,o8,o9] a w.drew):(Code.region id #[o0,o1,o2,o3,o4,o5,o6,o7,o8,o9,o10,o11,o12] true).wp P Q a w:=xa0u (R:=[0,1,2,3,4,5,6,7,8,9]) (C:=[10,11,12]) (rs:=[o0,o1,o2,o3,o4,o5,o6,o7,o8,o9]) (cs:=[o10,o11,o12]) hm hb rfl rfl hg hS h
theorem ln_pt {P:Program} {Q:Exit→Act→World→Prop} {id:Nat} {o0 o1 o2 o3 o4 o5 o6 o7 o8 o9 o10 o11 o12 o13:Oper} {a:Act} {w:World} (hm:P.follows .mixedOrders = true) (hb:linB #[o0,o1,o2,o3,o4,o5,o6,o7,o8,o9,o10,o11,o12,o13] [0,1,2,3,4,5,6,7] [8,9,10,11,12,13] [] = true) (hg:([o0,o1,o2,o3,o4,o5,o6,o7]++([o8,o9,o10,o11,o12,o13]++[])).all (fun o=>o.guard.isNone) = true) (S:World→Prop) (hS:S w.drew)
  (h:LinY P S (ChL P Q S (Q .normal) [o8,o9,o10,o11,o12,o13]) [o0,o1,o2,o3,o4,o5,o6,o7] a w.drew):(Code.region id #[o0,o1,o2,o3,o4,o5,o6,o7,o8,o9,o10,o11,o12,o13] true).wp P Q a w:=xa0u (R:=[0,1,2,3,4,5,6,7]) (C:=[8,9,10,11,12,13]) (rs:=[o0,o1,o2,o3,o4,o5,o6,o7]) (cs:=[o8,o9,o10,o11,o12,o13]) hm hb rfl rfl hg hS h
theorem ln_dl {P:Program} {Q:Exit→Act→World→Prop} {id:Nat} {o0 o1 o2 o3 o4 o5 o6 o7 o8 o9 o10 o11 o12 o13 o14 o15 o16 o17:Oper} {a:Act} {w:World} (hm:P.follows .mixedOrders = true) (hb:linB #[o0,o1,o2,o3,o4,o5,o6,o7,o8,o9,o10,o11,o12,o13,o14,o15,o16,o17] [0,1,2,3,4,5,6,7,8,9,10] [11,12,13,14,15,16,17] [] = true) (hg:([o0,o1,o2,o3,o4,o5,o6,o7,o8,o9,o10]++([o11,o12,o13,o14,o15,o16,o17]++[])).all (fun o=>o.guard.isNone) = true) (S:World→Prop) (hS:S w.drew)
  (h:LinY P S (ChL P Q S (Q .normal) [o11,o12,o13,o14,o15,o16,o17]) [o0,o1,o2,o3,o4,o5,o6,o7,o8,o9,o10] a w.drew):(Code.region id #[o0,o1,o2,o3,o4,o5,o6,o7,o8,o9,o10,o11,o12,o13,o14,o15,o16,o17] true).wp P Q a w:=xa0u (R:=[0,1,2,3,4,5,6,7,8,9,10]) (C:=[11,12,13,14,15,16,17]) (rs:=[o0,o1,o2,o3,o4,o5,o6,o7,o8,o9,o10]) (cs:=[o11,o12,o13,o14,o15,o16,o17]) hm hb rfl rfl hg hS h
theorem ln_dn {P:Program} {Q:Exit→Act→World→Prop} {id:Nat} {o0 o1 o2 o3 o4 o5 o6 o7 o8 o9 o10 o11 o12 o13 o14 o15 o16:Oper} {a:Act} {w:World} (hm:P.follows .mixedOrders = true) (hb:linB #[o0,o1,o2,o3,o4,o5,o6,o7,o8,o9,o10,o11,o12,o13,o14,o15,o16] [0,1,2,3,4,5,6,7,8,9,10,11] [12,13,14,15,16] [] = true) (hg:([o0,o1,o2,o3,o4,o5,o6,o7,o8,o9,o10,o11]++([o12,o13,o14,o15,o16]++[])).all (fun o=>o.guard.isNone) = true) (S:World→Prop) (hS:S w.drew)
  (h:LinY P S (ChL P Q S (Q .normal) [o12,o13,o14,o15,o16]) [o0,o1,o2,o3,o4,o5,o6,o7,o8,o9,o10,o11] a w.drew):(Code.region id #[o0,o1,o2,o3,o4,o5,o6,o7,o8,o9,o10,o11,o12,o13,o14,o15,o16] true).wp P Q a w:=xa0u (R:=[0,1,2,3,4,5,6,7,8,9,10,11]) (C:=[12,13,14,15,16]) (rs:=[o0,o1,o2,o3,o4,o5,o6,o7,o8,o9,o10,o11]) (cs:=[o12,o13,o14,o15,o16]) hm hb rfl rfl hg hS h
theorem ln_gt {P:Program} {Q:Exit→Act→World→Prop} {id:Nat} {o0 o1 o2 o3 o4 o5 o6 o7 o8 o9 o10 o11 o12 o13:Oper} {a:Act} {w:World} (hm:P.follows .mixedOrders = true) (hb:linB #[o0,o1,o2,o3,o4,o5,o6,o7,o8,o9,o10,o11,o12,o13] [0,1,2,3,4,5,6,7,8,9] [10,11,12,13] [] = true) (hg:([o0,o1,o2,o3,o4,o5,o6,o7,o8,o9]++([o10,o11,o12,o13]++[])).all (fun o=>o.guard.isNone) = true) (S:World→Prop) (hS:S w.drew)
  (h:LinY P S (ChL P Q S (Q .normal) [o10,o11,o12,o13]) [o0,o1,o2,o3,o4,o5,o6,o7,o8,o9] a w.drew):(Code.region id #[o0,o1,o2,o3,o4,o5,o6,o7,o8,o9,o10,o11,o12,o13] true).wp P Q a w:=xa0u (R:=[0,1,2,3,4,5,6,7,8,9]) (C:=[10,11,12,13]) (rs:=[o0,o1,o2,o3,o4,o5,o6,o7,o8,o9]) (cs:=[o10,o11,o12,o13]) hm hb rfl rfl hg hS h
end
section
open Go.RowKit Go.BigFrame
def notPtr:Value→Bool
 | .pointer (some _)=>false
 | _=>true
theorem zwy_np:zwy.all notPtr = true:=by kernel_rfl
theorem RdC.off {W W':World} {cr:Value} {gs:List Nat} {g:Nat} {t:TypeId} (h:RdC 1 W cr (ptrs gs)) (hz:W.heap[g]? = some (.cells zwy t (0,0))) (k:Kept [g] W W'):RdC 1 W' cr (ptrs gs):=by
 obtain ⟨ao,n,c,rfl,h1,h2,h3,h4⟩:=h
 refine ⟨ao,n,c,rfl,h1,h2,h3,fun h0=>?_⟩
 obtain ⟨b,off,rfl,h5⟩:=h4 h0
 have hb:b≠g:=by
  intro e
  subst e
  have hl:0 < (ptrs gs).length:=by omega
  have h6:=h5 0 hl 0 (.pointer (some ⟨gs.getD 0 0,0,none⟩)) (by
   have:0 < gs.length:=by rw [ptrs,List.length_map] at hl; exact hl
   simp [ptrs,List.getD_eq_getElem?_getD,List.getElem?_eq_getElem this])
  rw [cell_of_row _ _ _ _ _ _ hz] at h6
  have h7:=Array.mem_of_getElem? h6
  have h8:=(Array.all_eq_true_iff_forall_mem.1 zwy_np) _ h7
  exact absurd h8 (by simp [notPtr])
 exact ⟨b,off,rfl,fun i hi=>k.rng (h5 i hi) (by simp; exact hb)⟩
theorem WayAt.put {S T:Nat→Prop} {k:Nat} {W W':World} {q:List Nat} {L:Prs} {m:Nat} {cr en:Value} {pl:Nat} {fd:Bool} (h:WayAt T k W q L m cr en pl fd) (hs:∀ x,T x→S x) (kk:Agr T W W') (hc:∀ gs,RdC 1 W cr (ptrs gs)→RdC 1 W' cr (ptrs gs)):WayAt S k W' q L m cr en pl fd:=by
 obtain ⟨⟨gs,h1,h2,h3⟩,h4,h5⟩:=h
 refine ⟨⟨gs,h1,hc gs h2,fun i hi=>⟨((h3 i hi).1.agr kk).mono hs,(h3 i hi).2⟩⟩,?_,h5⟩
 rcases h4 with h4 | ⟨h4,g,h6,h7,h8⟩
 ·exact Or.inl h4
 ·exact Or.inr ⟨h4,g,h6,(h7.agr kk).mono hs,h8⟩
theorem WayAt.cells {S:Nat→Prop} {k:Nat} {W:World} {q:List Nat} {L:Prs} {m:Nat} {cr en:Value} {pl:Nat} {fd:Bool} (h:WayAt S k W q L m cr en pl fd):cr.oneCell' = true∧en.oneCell' = true:=by
 obtain ⟨⟨gs,_,⟨_,_,_,rfl,_⟩,_⟩,h4,_⟩:=h
 rcases h4 with ⟨_,rfl,_⟩ | ⟨_,g,rfl,_⟩ <;> exact ⟨rfl,rfl⟩
set_option maxHeartbeats 2000000 in
theorem xa2p (S:Nat→Prop) (k:Nat) (mv kv:Value) (L:Prs) (q:List Nat) (w:World) (hM:MapAt S k w mv L) (hu:Rd w kv q) (hq:q.length≤64) (hT:Tabs w) :
  Calls Tryz.prog 40 #[mv,kv] w fun e w'=>∃ m cr en pl fd,e = .returned (.tuple #[.agg (wayC k ((hsZ k).kd q) cr en pl fd).toArray,.int .i64 0])∧WayAt S k w' q L m cr en pl fd∧Kept [] w w':=by
 obtain ⟨hk,hs,hfit,hlen,g,tv,rfl,hSg,hh,htop⟩:=hM
 have hH:=hsZ_ok hk
 have hkid:KidAt S (hsZ k) w 64 tv L:=htop
 have HT:=hide (hkid.shrink hH)
 obtain ⟨ua,un,uc,rfl,hul,_⟩:=id hu
 have hun:un≤64:=by omega
 have hu1:¬ (64:Int) < un:=by omega
 have hu2:¬ (un:Int) > 64:=by omega
 have c0:w.cell? ⟨g,0,none⟩ = some (.int .i64 k):=by rw [cell_of_row _ _ _ _ _ _ hh]; rfl
 have c2:w.cell? ⟨g,2,none⟩ = some tv:=by rw [cell_of_row _ _ _ _ _ _ hh]; rfl
 have HU:=hide hu
 have HTb:=hide hT
 have HSr:=hide hs
 have hk0:=(Kept.refl [] w).alloc (.cells zwy 88)
 have HK0:=hide hk0
 have c0a:∀ o,(w.alloc o).cell? ⟨g,0,none⟩ = some (.int .i64 k):=fun o=>((Kept.refl [] w).alloc o).cell c0 (by simp)
 have HC0:=hide c0
 have HC2:=hide c2
 have hE:sumE (k:Int) = 0:=by unfold sumE; rw [wide_k hk]; rfl
 have HE:=hide hE
 have hdl:(sumD (k:Int) (2 :: q)).length = 32:=xa0e _ _
 obtain ⟨D,hD⟩:∃ D,sumD (k:Int) (2 :: q) = D:=⟨_,rfl⟩
 have HD:=hide hD
 rw [hD] at hdl
 have HKD:=hide (show (hsZ k).kd q = D from hD)
 clear hkid htop hh hT hs hk0 hul hD hE c2
 go_enter Tryz.func40,Tryz.ntmps40
 go_wp2_with fail
 rw [xa2t]
 refine Calls.mono (xb6j k _ q _ (by omega) ((uh HU).old (uh HK0) (by simp)) (by omega) ((uh HTb).k (uh HK0))) ?_
 rintro e w1 ⟨rfl,k1⟩
 rw [uh HD,uh HE]
 have HZ1:=hide (k1.heap (heap_alloc_new w (.cells zwy 88)) (by simp))
 have HK1:=hide ((uh HK0).trans k1 (by simp))
 have hz1:=lt_of_block (uh HZ1)
 clear k1 c0 c0a
 have HN1:=hide (heap_alloc_new w1 (.cells (zb 32) 50))
 have HZ2:=hide (((Kept.refl [w1.heap.size] w1).alloc (.cells (zb 32) 50)).setRow (g:=w1.heap.size) (Or.inl (by simp)) (brow D) |>.heap (uh HZ1) (by simp; omega))
 have HN2:=hide (setRow_heap _ _ _ (brow D) _ _ (uh HN1))
 have HK2:=hide ((uh HK1).alloc (.cells (zb 32) 50) |>.setRow (g:=w1.heap.size) (Or.inr (uh HK1).size) (brow D))
 go_upto_region 8 with (rw [zb32]; refine wpList_store_row rfl 50 _ _ rfl w1.heap.size (brow D) rfl rfl _ (zb 32) (uh HN1) (by rw [xa0a,hdl]; exact Tryz.size_dig) (by rw [xa0l,xa0a,hdl]) (xa0f _) ?_)
 try simp only [Act.put]
 generalize (w1.alloc (.cells (zb 32) 50)).setRow w1.heap.size (brow D) = W2 at HZ2 HN2 HK2 ⊢
 have hgne:g≠w.heap.size:=by have:=block_lt_of_cell (uh HC0); simp at this; omega
 have HRD:=hide (xa0k [] (D.map u8) [] (by rw [List.nil_append,List.append_nil]; exact uh HN2) rfl)
 have HV0:=hide ((uh HK2).cell (uh HC0) (by simp))
 have HV2:=hide ((uh HK2).cell (uh HC2) (by simp))
 refine ln_wd (by kernel_rfl) (by kernel_rfl) rfl (fun W=>Kept [w.heap.size] W2 W) (Kept.refl _ W2).drew ?_
 refine LinY.mv (x:=.tmp 0) rfl (.pointer (some ⟨g,0,none⟩)) rfl (by simp only [Act.put,sa1,sa2,sa3]; rfl) ?_
 refine LinY.rd (.pointer (some ⟨g,0,none⟩)) (fun W hW=>by go_simp) (by simp only [Act.put,sa1,sa2,sa3]; rfl) ?_
 refine LinY.rd (.pointer (some ⟨g,0,none⟩)) (fun W hW=>by go_simp) (by simp only [Act.put,sa1,sa2,sa3]; rfl) ?_
 refine LinY.rd (.int .i64 k) (fun W hW=>by have h9:=hW.cell (uh HV0) (by simp; exact hgne); go_simp) (by simp only [Act.put,sa1,sa2,sa3]; rfl) ?_
 refine LinY.mv (x:=.tmp 0) rfl (.pointer (some ⟨g,0,none⟩)) rfl (by simp only [Act.put,sa1,sa2,sa3]; rfl) ?_
 refine LinY.rd (.pointer (some ⟨g,0,none⟩)) (fun W hW=>by go_simp) (by simp only [Act.put,sa1,sa2,sa3]; rfl) ?_
 refine LinY.rd (.pointer (some ⟨g,2,none⟩)) (fun W hW=>by go_simp) (by simp only [Act.put,sa1,sa2,sa3]; rfl) ?_
 refine LinY.rd (tv) (fun W hW=>by have h9:=hW.cell (uh HV2) (by simp; exact hgne); go_simp) (by simp only [Act.put,sa1,sa2,sa3]; rfl) ?_
 refine LinY.ld 50 (.tmp 6) rfl w1.heap.size 0 rfl (D.map u8) _ (fun W hW=>hW.rng (uh HRD) (by simp; omega)) Tryz.underlying50 rfl (by rw [List.length_map,hdl]; exact Tryz.size_dig) (by simp only [Act.put,sa1,sa2,sa3]; rfl) ?_
 refine LinY.mv (x:=.tmp 1) rfl (.slice ua un uc) rfl (by simp only [Act.put,sa1,sa2,sa3]; rfl) ?_
 have hd2:=(Kept.refl [] W2).drew
 have hkd2:=(uh HK2).trans hd2 (by simp)
 have hwo:=xb5s (lowS S w) k tv L (.slice ua un uc) q W2.drew hk ((uh HT).agr (Agr.nil hkd2)) (uh HSr) ((uh HU).old hkd2 (by simp)) hlen
 rw [uh HKD] at hwo
 refine ChL.call rfl Tryz.call67 [.int .i64 k,tv,.agg (brow D),.slice ua un uc] rfl hwo ?_
 rintro e w3 ⟨m,cr,en,pl,fd,rfl,hway,k3⟩
 have hk3:=hd2.trans k3 (by simp)
 refine ⟨_,rfl,hk3.mono (by simp),?_⟩
 simp only [Act.put,sa1,sa2,sa3]
 have hz3:=hk3.heap (uh HZ2) (by simp)
 have hcl:=hway.cells
 have hws:((wayC k D cr en pl fd).toArray).size = 37:=by rw [List.size_toArray,xa0w hdl]
 have hkf:=(Kept.refl [w.heap.size] w3).setRow (g:=w.heap.size) (Or.inl (by simp)) (wayC k D cr en pl fd).toArray
 have hks:=((uh HK2).trans hk3 (by simp)).setRow (g:=w.heap.size) (Or.inr (Nat.le_refl _)) (wayC k D cr en pl fd).toArray
 have hwf:=hway.put (S:=S) (xb2v S w) (Agr.kept hkf (by intro x hx hlo; rw [List.mem_singleton] at hx; have:=hlo.2; omega)) (fun gs h=>h.off hz3 hkf)
 have hrf:=setRow_heap _ _ _ (wayC k D cr en pl fd).toArray _ _ hz3
 have hk3f:=(hk3.mono (M:=[w.heap.size]) (by simp)).trans hkf (by simp)
 refine ChL.st 88 (.tmp 4) (.tmp 40) rfl w.heap.size (wayC k D cr en pl fd).toArray rfl rfl _ zwy hz3 (by rw [hws]; exact Tryz.size_way) (by rw [hws]; rfl) (xa1k _ _ hcl.1 hcl.2) hk3f (by simp only [Act.put]; rfl) ?_
 refine ChL.op (.int .i64 0) (by go_simp) hk3f (by simp only [Act.put,sa1,sa2,sa3]; rfl) (ChL.fin ?_)
 go_wp2
 refine bodyPost_ret (v:=.tuple #[.agg (wayC k D cr en pl fd).toArray,.int .i64 0]) ?_ rfl ⟨m,cr,en,pl,fd,by rw [uh HKD],hwf,hks⟩
 exact xa0g rfl _ _ w.heap.size _ (wayC k D cr en pl fd).toArray (0,0) _ rfl hrf Tryz.underlying88 rfl (by rw [hws]; exact Tryz.size_way) _ rfl
abbrev VP:=Value × Value
def PR (S:Nat→Prop) (W:World) (l:List VP) (L:Prs):Prop:=l.length = L.length∧∀ i,i < l.length→Sty S W (fun w=>Rd w (l.getD i (undef,undef)).1 (L.getD i ([],[])).1∧Rd w (l.getD i (undef,undef)).2 (L.getD i ([],[])).2)
theorem PR.agr {S:Nat→Prop} {W W':World} {l:List VP} {L:Prs} (h:PR S W l L) (a:Agr S W W'):PR S W' l L:=⟨h.1,fun i hi=>(h.2 i hi).agr a⟩
theorem PR.nil (S:Nat→Prop) (W:World):PR S W [] []:=⟨rfl,fun i h=>by simp at h⟩
theorem PR.one {S:Nat→Prop} {W:World} {x y:Value} {a b:List Nat} (hx:Sty S W (fun w=>Rd w x a)) (hy:Sty S W (fun w=>Rd w y b)):PR S W [(x,y)] [(a,b)]:=⟨rfl,fun i hi=>by
 have:i = 0:=by simp at hi; omega
 subst this; exact fun w k=>⟨hx w k,hy w k⟩⟩
theorem PR.app {S:Nat→Prop} {W:World} {a b:List VP} {A B:Prs} (h:PR S W a A) (k:PR S W b B):PR S W (a++b) (A++B):=by
 refine ⟨by rw [List.length_append,List.length_append,h.1,k.1],fun i hi=>?_⟩
 rw [List.length_append] at hi
 by_cases hlt:i < a.length
 ·have h1:=h.2 i hlt
  simp only [List.getD_eq_getElem?_getD,List.getElem?_append_left hlt,List.getElem?_append_left (show i < A.length by rw [← h.1]; exact hlt)] at h1 ⊢
  exact h1
 ·have h1:=k.2 (i - a.length) (by omega)
  have e1:(a++b)[i]? = b[i - a.length]?:=List.getElem?_append_right (by omega)
  have e2:(A++B)[i]? = B[i - a.length]?:=by rw [List.getElem?_append_right (by rw [← h.1]; omega),← h.1]
  simp only [List.getD_eq_getElem?_getD,e1,e2] at h1 ⊢
  exact h1
theorem PR.tk {S:Nat→Prop} {W:World} {a:List VP} {A:Prs} (h:PR S W a A) (m:Nat):PR S W (a.take m) (A.take m):=by
 refine ⟨by rw [List.length_take,List.length_take,h.1],fun i hi=>?_⟩
 rw [List.length_take] at hi
 have h1:=h.2 i (by omega)
 simp only [List.getD_eq_getElem?_getD,List.getElem?_take_of_lt (show i < m by omega)] at h1 ⊢
 exact h1
theorem PR.dp {S:Nat→Prop} {W:World} {a:List VP} {A:Prs} (h:PR S W a A) (m:Nat):PR S W (a.drop m) (A.drop m):=by
 refine ⟨by rw [List.length_drop,List.length_drop,h.1],fun i hi=>?_⟩
 rw [List.length_drop] at hi
 have h1:=h.2 (m + i) (by omega)
 simp only [List.getD_eq_getElem?_getD,List.getElem?_drop] at h1 ⊢
 exact h1
def kvR (l:List VP):List (List Value):=l.map fun p=>[p.1,p.2]
theorem xa0v (l:List VP):(kvR l).length = l.length:=by simp [kvR]
theorem kvR_at (l:List VP) (i:Nat) (hi:i < l.length):(kvR l)[i]'(by rw [xa0v]; exact hi) = [l[i].1,l[i].2]:=by simp [kvR]
theorem xb3s (a b:List VP):kvR (a++b) = kvR a++kvR b:=by simp [kvR]
theorem PR.cell {S:Nat→Prop} {W:World} {l:List VP} {L:Prs} (h:PR S W l L):(∀ r∈kvR l,r.length = 2)∧∀ r∈kvR l,∀ u∈r,u.oneCell' = true:=by
 constructor
 ·intro r hr; obtain ⟨p,_,rfl⟩:=List.mem_map.1 hr; rfl
 ·intro r hr u hu
  obtain ⟨p,hp,rfl⟩:=List.mem_map.1 hr
  obtain ⟨i,hi,rfl⟩:=List.getElem_of_mem hp
  have h1:=(h.2 i hi).now
  simp only [List.getD_eq_getElem?_getD,List.getElem?_eq_getElem hi,Option.getD_some] at h1
  obtain ⟨⟨a1,n1,c1,e1,_⟩,⟨a2,n2,c2,e2,_⟩⟩:=h1
  rw [e1,e2] at hu
  simp only [List.mem_cons,List.not_mem_nil,or_false] at hu
  rcases hu with rfl | rfl <;> rfl
theorem KRow.pr {S:Nat→Prop} {W:World} {pv:Value} {L:Prs} (h:KRow S W pv L):∃ b off cap l,pv = .slice (some ⟨b,off,none⟩) l.length cap∧PR S W l L∧RdC 2 W pv (kvR l)∧l.length≤cap∧cap≤9223372036854775807:=by
 obtain ⟨b,off,cap,l,rfl,h2,h3,h4,h5,h6,h7⟩:=h
 refine ⟨b,off,cap,l,rfl,⟨h5,h7⟩,⟨_,_,_,rfl,xa0v l,h2,h3,fun _=>⟨b,off,rfl,fun i hi j u hu=>?_⟩⟩,h2,h3⟩
 rw [xa0v] at hi
 have h8:=h6 i hi
 simp only [List.getD_eq_getElem?_getD,List.getElem?_eq_getElem hi,Option.getD_some] at h8
 have e:(kvR l)[i]'(by rw [xa0v]; exact hi) = [l[i].1,l[i].2]:=by simp [kvR]
 rw [e] at hu
 match j,hu with
 | 0,hu=>rw [Nat.add_zero,h8.1]; exact hu
 | 1,hu=>rw [h8.2]; exact hu
theorem xb1p {S:Nat→Prop} {w:World} {v:Value} {B:Nat} {a b c:List VP} {L:Prs} (h:OwC 32 2 B w v [kvR a,kvR b,kvR c]) (hp:PR S w (a++(b++c)) L) (hn:L≠[]) (hl:(a++(b++c)).length≤1000000000000) (hS:∀ y,B≤y→S y):KRow S w v L:=by
 unfold OwC at h
 have e1:[kvR a,kvR b,kvR c].flatten = kvR (a++(b++c)):=by simp [xb3s]
 rw [e1,xa0v] at h
 have hr:=xa1z (by rw [xa0v]; exact h) hp.cell.1
 have h0:0 < (a++(b++c)).length:=by rw [hp.1]; cases L with
  | nil=>exact absurd rfl hn
  | cons _ _=>simp
 rcases h.2 with ⟨_,h9⟩ | ⟨g,cap,cur,rfl,hg,hh,hc,hm,_⟩
 ·omega
 ·refine ⟨g,0,cap,a++(b++c),rfl,hc,by unfold maxLen at hm; omega,hS g hg,hp.1,fun i hi=>?_,hp.2⟩
  obtain ⟨_,_,_,e9,_,_,_,hcell⟩:=hr
  cases e9
  obtain ⟨b',off',e8,hce⟩:=hcell h0
  cases e8
  have h7:=hce i (by rw [xa0v]; exact hi)
  have e:(kvR (a++(b++c)))[i]'(by rw [xa0v]; exact hi) = [(a++(b++c))[i].1,(a++(b++c))[i].2]:=kvR_at _ i hi
  rw [e] at h7
  simp only [List.getD_eq_getElem?_getD,List.getElem?_eq_getElem hi,Option.getD_some]
  exact ⟨h7 0 _ rfl,h7 1 _ rfl⟩
set_option maxHeartbeats 2000000 in
theorem xa7k (S:Nat→Prop) (k:Nat) (D:List Nat) (cr:Value) (g pl:Nat) (fd:Bool) (E:Prs) (iv:Value) (its:List VP) (IL:Prs) (w:World) (hD:D.length = 32) (hb:BkAt S (hsZ k) w g E) (hpl:pl + (if fd = true then 1 else 0)≤E.length) (hl:E.length≤1000000000) (hi:RdC 2 w iv (kvR its)) (hpi:PR S w its IL) (hil:its.length≤1) (hn:E.take pl++(IL++E.drop (pl + if fd = true then 1 else 0))≠[]) (hS:∀ y,w.heap.size≤y→S y) :
  Calls Tryz.prog 86 #[.agg (wayC k D cr (.pointer (some ⟨g,0,none⟩)) pl fd).toArray,iv] w fun e w'=>∃ ao n c,e = .returned (.slice ao n c)∧KRow S w' (.slice ao n c) (E.take pl++(IL++E.drop (pl + if fd = true then 1 else 0)))∧Kept [] w w':=by
 obtain ⟨pv,hSg,hh,hne,hkr⟩:=hb
 have hkd:((hsZ k).kd (E.headD ([],[])).1).length = 32:=xa0e _ _
 have c1:=(bk_row hh hkd).2.1
 obtain ⟨b,off,cap,l,rfl,hpr,hrd,hc1,hc2⟩:=hkr.pr
 have HK0:=hide ((Kept.refl [] w).alloc (.cells (wayC k D cr (.pointer (some ⟨g,0,none⟩)) pl fd).toArray 88))
 have HG0:=hide (heap_alloc_new w (.cells (wayC k D cr (.pointer (some ⟨g,0,none⟩)) pl fd).toArray 88))
 obtain ⟨cw0,cw1,cw2,cw3,cw4,cw5⟩:=xa0s (uh HG0) hD
 have HC1:=hide ((uh HK0).cell c1 (by simp))
 have HW3:=hide cw3
 have HW4:=hide cw4
 have HPR:=hide hpr
 have HRD:=hide hrd
 have HI:=hide hi
 have HPI:=hide hpi
 have hll:=hpr.1
 obtain ⟨n,hnn⟩:∃ n,l.length = n:=⟨_,rfl⟩
 rw [hnn] at hrd HRD hc1 hll HC1 c1
 have HN:=hide hnn
 have HLL:=hide hll
 rw [← hll] at hpl hl
 have hcell:=hpr.cell
 have hcelli:=hpi.cell
 clear cw0 cw1 cw2 cw3 hpr hrd hkr hh hi hpi hnn hll c1
 obtain ⟨ai,ni,ci,rfl,hi1,_⟩:=id (uh HI)
 rw [xa0v] at hi1
 subst hi1
 obtain ⟨to,hto⟩:∃ t,pl + (if fd = true then 1 else 0) = t:=⟨_,rfl⟩
 rw [hto] at hpl hn ⊢
 have HTo:=hide hto
 go_enter Tryz.func86,Tryz.ntmps86
 have key:∃ t5:Value,t5 = .int .i64 (to:Int):=⟨_,rfl⟩
 cases fd with
 | true =>
  have e1:(pl:Int) + 1 = (to:Int):=by have:=uh HTo; simp at this; omega
  have e2:IntKind.i64.wrap ((pl:Int) + 1) = (to:Int):=by rw [e1]; simp [IntKind.wrap,IntKind.signed,IntKind.bits]; omega
  go_upto_region 4 with fail
  refine ln_ar (by kernel_rfl) (by kernel_rfl) rfl (fun W=>Kept [] (w.alloc (.cells (wayC k D cr (.pointer (some ⟨g,0,none⟩)) pl true).toArray 88)) W) (Kept.refl [] _).drew ?_
  refine LinY.rd (.pointer (some ⟨w.heap.size,34,none⟩)) (fun W hW=>by go_simp) (by simp only [Act.put,sa1,sa2,sa3]; rfl) ?_
  refine LinY.rd (.pointer (some ⟨g,0,none⟩)) (fun W hW=>by have h9:=hW.cell (uh HW3) (by simp); go_simp) (by simp only [Act.put,sa1,sa2,sa3]; rfl) ?_
  refine LinY.rd (.pointer (some ⟨g,0,none⟩)) (fun W hW=>by go_simp) (by simp only [Act.put,sa1,sa2,sa3]; rfl) ?_
  refine LinY.rd (.pointer (some ⟨g,32,none⟩)) (fun W hW=>by go_simp) (by simp only [Act.put,sa1,sa2,sa3]; rfl) ?_
  refine LinY.rd (.slice (some ⟨b,off,none⟩) n cap) (fun W hW=>by have h9:=hW.cell (uh HC1) (by simp); go_simp) (by simp only [Act.put,sa1,sa2,sa3]; rfl) ?_
  refine LinY.rd (.pointer (some ⟨w.heap.size,35,none⟩)) (fun W hW=>by go_simp) (by simp only [Act.put,sa1,sa2,sa3]; rfl) ?_
  refine LinY.rd (.int .i64 pl) (fun W hW=>by have h9:=hW.cell (uh HW4) (by simp); go_simp) (by simp only [Act.put,sa1,sa2,sa3]; rfl) ?_
  refine LinY.mv (x:=.tmp 5) rfl (.int .i64 to) rfl (by simp only [Act.put,sa1,sa2,sa3]; rfl) ?_
  refine LinY.mv (x:=.tmp 1) rfl (.slice ai its.length ci) rfl (by simp only [Act.put,sa1,sa2,sa3]; rfl) ?_
  refine ChL.call rfl Tryz.call118 [.slice (some ⟨b,off,none⟩) n cap,.int .i64 pl,.int .i64 to,.slice ai its.length ci] rfl (xa4h b off n cap pl to _ (kvR l) (kvR its) _ ((uh HRD).old (((uh HK0)).drew)) ((uh HI).old ((uh HK0).drew)) (by omega) (by omega) (by omega) (by rw [xa0v]; omega) hcell.1 hcell.2 hcelli.1 hcelli.2) ?_
  rintro e w2 ⟨v',rfl,ho,k2⟩
  have hkw:=((Kept.refl [] (w.alloc (.cells (wayC k D cr (.pointer (some ⟨g,0,none⟩)) pl true).toArray 88))).drew).trans k2 (by simp)
  have hk2:=(uh HK0).trans hkw (by simp)
  refine ⟨v',rfl,hkw,?_⟩
  simp only [Act.put,sa1,sa2,sa3]
  have hkv:[(kvR l).take pl,kvR its,(kvR l).drop to] = [kvR (l.take pl),kvR its,kvR (l.drop to)]:=by simp [kvR,List.map_take,List.map_drop]
  rw [hkv] at ho
  have hpf:=(((uh HPR).tk pl).app ((uh HPI).app ((uh HPR).dp to))).agr (Agr.nil hk2)
  have hfin:=xb1p ho hpf hn (by have:=uh HN; simp; omega) (fun y hy=>hS y (by have:=(uh HK0).size; simp at hy; omega))
  obtain ⟨ao,n9,c9,e9⟩:∃ ao n c,v' = .slice ao n c:=by
   obtain ⟨b9,o9,c9,l9,e9,_⟩:=id hfin
   exact ⟨_,_,_,e9⟩
  subst e9
  refine ChL.op (.slice ao n9 c9) (by go_simp) hkw (by simp only [Act.put,sa1,sa2,sa3]; rfl) (ChL.fin ?_)
  go_wp2
  go_ret
  exact ⟨_,_,_,rfl,hfin,hk2⟩
 | false =>
  have e1:pl = to:=by have:=uh HTo; simpa using this
  subst e1
  go_upto_region 4 with fail
  refine ln_ar (by kernel_rfl) (by kernel_rfl) rfl (fun W=>Kept [] (w.alloc (.cells (wayC k D cr (.pointer (some ⟨g,0,none⟩)) pl false).toArray 88)) W) (Kept.refl [] _).drew ?_
  refine LinY.rd (.pointer (some ⟨w.heap.size,34,none⟩)) (fun W hW=>by go_simp) (by simp only [Act.put,sa1,sa2,sa3]; rfl) ?_
  refine LinY.rd (.pointer (some ⟨g,0,none⟩)) (fun W hW=>by have h9:=hW.cell (uh HW3) (by simp); go_simp) (by simp only [Act.put,sa1,sa2,sa3]; rfl) ?_
  refine LinY.rd (.pointer (some ⟨g,0,none⟩)) (fun W hW=>by go_simp) (by simp only [Act.put,sa1,sa2,sa3]; rfl) ?_
  refine LinY.rd (.pointer (some ⟨g,32,none⟩)) (fun W hW=>by go_simp) (by simp only [Act.put,sa1,sa2,sa3]; rfl) ?_
  refine LinY.rd (.slice (some ⟨b,off,none⟩) n cap) (fun W hW=>by have h9:=hW.cell (uh HC1) (by simp); go_simp) (by simp only [Act.put,sa1,sa2,sa3]; rfl) ?_
  refine LinY.rd (.pointer (some ⟨w.heap.size,35,none⟩)) (fun W hW=>by go_simp) (by simp only [Act.put,sa1,sa2,sa3]; rfl) ?_
  refine LinY.rd (.int .i64 pl) (fun W hW=>by have h9:=hW.cell (uh HW4) (by simp); go_simp) (by simp only [Act.put,sa1,sa2,sa3]; rfl) ?_
  refine LinY.mv (x:=.tmp 5) rfl (.int .i64 pl) rfl (by simp only [Act.put,sa1,sa2,sa3]; rfl) ?_
  refine LinY.mv (x:=.tmp 1) rfl (.slice ai its.length ci) rfl (by simp only [Act.put,sa1,sa2,sa3]; rfl) ?_
  refine ChL.call rfl Tryz.call118 [.slice (some ⟨b,off,none⟩) n cap,.int .i64 pl,.int .i64 pl,.slice ai its.length ci] rfl (xa4h b off n cap pl pl _ (kvR l) (kvR its) _ ((uh HRD).old (((uh HK0)).drew)) ((uh HI).old ((uh HK0).drew)) (by omega) (by omega) (by omega) (by rw [xa0v]; omega) hcell.1 hcell.2 hcelli.1 hcelli.2) ?_
  rintro e w2 ⟨v',rfl,ho,k2⟩
  have hkw:=((Kept.refl [] (w.alloc (.cells (wayC k D cr (.pointer (some ⟨g,0,none⟩)) pl false).toArray 88))).drew).trans k2 (by simp)
  have hk2:=(uh HK0).trans hkw (by simp)
  refine ⟨v',rfl,hkw,?_⟩
  simp only [Act.put,sa1,sa2,sa3]
  have hkv:[(kvR l).take pl,kvR its,(kvR l).drop pl] = [kvR (l.take pl),kvR its,kvR (l.drop pl)]:=by simp [kvR,List.map_take,List.map_drop]
  rw [hkv] at ho
  have hpf:=(((uh HPR).tk pl).app ((uh HPI).app ((uh HPR).dp pl))).agr (Agr.nil hk2)
  have hfin:=xb1p ho hpf hn (by have:=uh HN; simp; omega) (fun y hy=>hS y (by have:=(uh HK0).size; simp at hy; omega))
  obtain ⟨ao,n9,c9,e9⟩:∃ ao n c,v' = .slice ao n c:=by
   obtain ⟨b9,o9,c9,l9,e9,_⟩:=id hfin
   exact ⟨_,_,_,e9⟩
  subst e9
  refine ChL.op (.slice ao n9 c9) (by go_simp) hkw (by simp only [Act.put,sa1,sa2,sa3]; rfl) (ChL.fin ?_)
  go_wp2
  go_ret
  exact ⟨_,_,_,rfl,hfin,hk2⟩
theorem xb3b {W:World} {cr:Value} {gs:List Nat} (h:RdC 1 W cr (ptrs gs)):∃ ao c b off,cr = .slice ao gs.length c∧gs.length≤c∧c≤9223372036854775807∧(0 < gs.length→ao = some ⟨b,off,none⟩)∧∀ i,i < gs.length→W.cell? ⟨b,off + i,none⟩ = some (.pointer (some ⟨gs.getD i 0,0,none⟩)):=by
 obtain ⟨ao,n,c,rfl,h1,h2,h3,h4⟩:=h
 have hl:gs.length = n:=by rw [← h1,ptrs,List.length_map]
 subst hl
 rcases Nat.eq_zero_or_pos gs.length with h0 | h0
 ·exact ⟨ao,c,0,0,rfl,h2,h3,fun h=>by omega,fun i hi=>by omega⟩
 ·obtain ⟨b,off,rfl,h5⟩:=h4 h0
  refine ⟨_,c,b,off,rfl,h2,h3,fun _=>rfl,fun i hi=>?_⟩
  have h6:=h5 i (by rw [h1]; exact hi) 0 (.pointer (some ⟨gs.getD i 0,0,none⟩)) (by simp [ptrs,List.getD_eq_getElem?_getD,List.getElem?_eq_getElem hi])
  rw [Nat.mul_one,Nat.add_zero] at h6
  exact h6
set_option maxHeartbeats 2000000 in
theorem xa8j (S:Nat→Prop) (k m:Nat) (q:List Nat) (L:Prs) (X:Nat→Prs) (cr en:Value) (pl:Nat) (fd:Bool) (nv:Value) (w:World) (hk:1≤k∧k≤32) (hS:∀ y,w.heap.size≤y→S y) (hW:WayAt S k w q L m cr en pl fd)
  (hX:∀ i,i < m→ch (hsZ k) i (dgt ((hsZ k).kd q) i) (X i) = X (i + 1)∧(∀ j,j < 16→j≠dgt ((hsZ k).kd q) i→ch (hsZ k) i j (X i) = ch (hsZ k) i j (dnL (hsZ k) q L i))∧X i≠[]) (hn:KidAt S (hsZ k) w (64 - m) nv (X m)) (hT:Tabs w) :
  Calls Tryz.prog 56 #[.agg (wayC k ((hsZ k).kd q) cr en pl fd).toArray,nv] w fun e w'=>∃ v,e = .returned v∧KidAt S (hsZ k) w' 64 v (X 0)∧Kept [] w w':=by
 obtain ⟨gs,hgl,hrd,htr⟩:=hW.cr
 have hdeep:=hW.deep
 clear hW
 obtain ⟨ao,c,b,off,rfl,hc1,hc2,hao,hcell⟩:=xb3b hrd
 rw [hgl] at hc1 hao hcell ⊢
 have hDg:=(hsZ_ok hk).dg q
 have hfm:=xa9j hk q
 have HX:=hide hX
 have HTR:=hide htr
 have HC:=hide hcell
 have HTb:=hide hT
 have HAO:=hide hao
 obtain ⟨D,hD⟩:∃ D,(hsZ k).kd q = D:=⟨_,rfl⟩
 rw [hD] at hDg hfm HX ⊢
 have hdl:=hDg.1
 have HK0:=hide ((Kept.refl [] w).alloc (.cells (wayC k D (.slice ao m c) en pl fd).toArray 88))
 have HG0:=hide (heap_alloc_new w (.cells (wayC k D (.slice ao m c) en pl fd).toArray 88))
 obtain ⟨cw0,cw1,cw2,cw3,cw4,cw5⟩:=xa0s (uh HG0) hdl
 have HW0:=hide cw0
 have HW1:=hide cw1
 have HW2:=hide cw2
 have HN:=hide (hn.agr (Agr.nil (uh HK0)))
 have hwm:IntKind.i64.wrap ((m:Int) - 1) = (m:Int) - 1:=by simp [IntKind.wrap,IntKind.signed,IntKind.bits]; omega
 clear hX htr hcell hT hrd hao cw0 cw1 cw3 cw4 cw5 hn hD
 go_enter Tryz.func56,Tryz.ntmps56
 go_wp2_with fail
 have HKa:=hide (Kept.refl [] (w.alloc (.cells (wayC k D (.slice ao m c) en pl fd).toArray 88)))
 have hWs:(w.alloc (.cells (wayC k D (.slice ao m c) en pl fd).toArray 88)).heap.size = w.heap.size + 1:=by simp
 generalize hWa:w.alloc (.cells (wayC k D (.slice ao m c) en pl fd).toArray 88) = Wa at HK0 HG0 HW0 HW1 HW2 HN HKa cw2 hWs ⊢
 clear hWa cw2
 go_loopw [1,5] (fun t1 t5 wr=>∃ (d:Nat) (v:Value),t1 = v∧t5 = .int .i64 ((d:Int) - 1)∧d≤m∧Hid (KidAt S (hsZ k) wr (64 - d) v (X d))∧Hid (Kept [] Wa wr)) (fun _ t _=>(intOf t + 1).toNat)
 case atStart=>exact ⟨m,nv,rfl,by go_num,Nat.le_refl _,HN,HKa⟩
 case round =>
  obtain ⟨d,v,rfl,rfl,hdm,HKd,HKw⟩:=hrel
  cases d with
  | zero =>
   have hm1:¬ (0:Int)≤((0:Nat):Int) - 1:=by omega
   go_wp2_with fail
   go_ret
   exact ⟨_,rfl,uh HKd,(uh HK0).trans (uh HKw) (by simp)⟩
  | succ d =>
   have hki:((d + 1:Nat):Int) - 1 = (d:Int):=by omega
   have h0d:(0:Int)≤(d:Int):=by omega
   rw [hki]
   have hd1:(d:Int) < m:=by omega
   have hdm':d < m:=by omega
   obtain ⟨X1,X2,X3⟩:=uh HX d hdm'
   have hx16:=dgt_lt hDg.2 d
   have haod:=uh HAO (by omega)
   have hcc:=uh HC d hdm'
   obtain ⟨ht1,ht2⟩:=uh HTR d hdm'
   obtain ⟨f,hf⟩:∃ f,64 - d = f + 1:=⟨63 - d,by omega⟩
   have hff:63 - f = d:=by omega
   have hf2:64 - (d + 1) = f:=by omega
   rw [hf] at ht1
   generalize gs.getD d 0 = g at hcc ht1
   have HX1:=hide X1
   have HX2:=hide X2
   have HTD:=hide ht1
   have HTS:=hide ht2
   have hk0w:=(uh HK0).trans (uh HKw) (by simp)
   have hcw:=hk0w.cell hcc (by simp)
   have HCW:=hide hcw
   have HKW:=hide hk0w
   have HV0:=hide ((uh HKw).cell (uh HW0) (by simp))
   have HV1:=hide ((uh HKw).rng (uh HW1) (by simp))
   have HV2:=hide ((uh HKw).cell (uh HW2) (by simp))
   rw [hf2] at HKd
   subst haod
   clear X1 X2 ht1 ht2 hcc hcw hk0w HC HAO HTR
   go_upto_region 4 with fail
   refine ln_li (by kernel_rfl) (by kernel_rfl) rfl (fun W=>Kept [] wr W) (Kept.refl [] _).drew ?_
   refine LinY.rd (.pointer (some ⟨w.heap.size,33,none⟩)) (fun W hW=>by go_simp) (by simp only [Act.put,sa1,sa2,sa3]; rfl) ?_
   refine LinY.rd (.slice (some ⟨b,off,none⟩) m c) (fun W hW=>by have h9:=hW.cell (uh HV2) (by simp); go_simp) (by simp only [Act.put,sa1,sa2,sa3]; rfl) ?_
   refine LinY.mv (x:=.tmp 5) rfl (.int .i64 d) rfl (by simp only [Act.put,sa1,sa2,sa3]; rfl) ?_
   refine LinY.rd (.pointer (some ⟨b,off + d,none⟩)) (fun W hW=>by go_simp) (by simp only [Act.put,sa1,sa2,sa3]; rfl) ?_
   refine LinY.rd (.pointer (some ⟨g,0,none⟩)) (fun W hW=>by have h9:=hW.cell (uh HCW) (by simp); go_simp) (by simp only [Act.put,sa1,sa2,sa3]; rfl) ?_
   refine LinY.rd (.pointer (some ⟨w.heap.size,0,none⟩)) (fun W hW=>by go_simp) (by simp only [Act.put,sa1,sa2,sa3]; rfl) ?_
   refine LinY.rd (.int .i64 k) (fun W hW=>by have h9:=hW.cell (uh HV0) (by simp); go_simp) (by simp only [Act.put,sa1,sa2,sa3]; rfl) ?_
   refine LinY.rd (.pointer (some ⟨w.heap.size,0,none⟩)) (fun W hW=>by go_simp) (by simp only [Act.put,sa1,sa2,sa3]; rfl) ?_
   refine LinY.rd (.int .i64 k) (fun W hW=>by have h9:=hW.cell (uh HV0) (by simp); go_simp) (by simp only [Act.put,sa1,sa2,sa3]; rfl) ?_
   refine LinY.rd (.pointer (some ⟨w.heap.size,1,none⟩)) (fun W hW=>by go_simp) (by simp only [Act.put,sa1,sa2,sa3]; rfl) ?_
   refine LinY.ld 50 (.tmp 23) rfl w.heap.size 1 rfl (D.map u8) _ (fun W hW=>hW.rng (uh HV1) (by simp)) Tryz.underlying50 rfl (by rw [List.length_map,hdl]; exact Tryz.size_dig) (by simp only [Act.put,sa1,sa2,sa3]; rfl) ?_
   refine LinY.mv (x:=.tmp 5) rfl (.int .i64 d) rfl (by simp only [Act.put,sa1,sa2,sa3]; rfl) ?_
   refine LinY.mv (x:=.tmp 1) rfl (u1) rfl (by simp only [Act.put,sa1,sa2,sa3]; rfl) ?_
   refine ChL.call rfl Tryz.call84 [.int .i64 k,.agg (brow D),.int .i64 d] rfl (xa2i k D d _ hk hDg hfm (by omega)) ?_
   rintro e w2 ⟨rfl,k2⟩
   have hkw:=((Kept.refl [] wr).drew).trans k2 (by simp)
   have HKw2:=hide hkw
   refine ⟨_,rfl,hkw,?_⟩
   simp only [Act.put,sa1,sa2,sa3]
   obtain ⟨x,hx⟩:∃ x,dgt D d = x:=⟨_,rfl⟩
   rw [hx] at hx16 HX1 HX2 ⊢
   have HKW2:=hide ((uh HKW).trans hkw (by simp))
   refine ChL.call rfl Tryz.call83 [.pointer (some ⟨g,0,none⟩),.int .i64 k,.int .i64 x,u1] rfl (xb1b S k f g x (dnL (hsZ k) q L d) (X d) u1 w2 hk (fun y hy=>hS y (Nat.le_trans (uh HKW2).size hy)) ((uh HTD).agr (Agr.nil (uh HKW2))) (uh HTS) hx16 (by rw [hff,uh HX1]; exact (uh HKd).agr (Agr.nil hkw)) (by rw [hff]; exact uh HX2) X3 ((uh HTb).k (uh HKW2))) ?_
   rintro e w3 ⟨v3,rfl,ht3,k3⟩
   have hkw3:=hkw.trans k3 (by simp)
   refine ⟨_,rfl,hkw3,?_⟩
   simp only [Act.put,sa1,sa2,sa3]
   refine ChL.op v3 (by go_simp) hkw3 (by simp only [Act.put,sa1,sa2,sa3]; rfl) (ChL.fin ?_)
   have HF3:=hide (Or.inr (by rw [hf]; exact ht3):KidAt S (hsZ k) w3 (64 - d) v3 (X d))
   have HK3:=hide ((uh HKw).trans hkw3 (by simp))
   clear ht3 hkw3 hkw k3 k2
   go_wp2
   refine ⟨⟨d,v3,rfl,by go_num,by omega,HF3,HK3⟩,?_⟩
   simp [intOf]
   try omega
theorem xa3g:∀ {L:Prs},Fit L→(pairB L).length≤350 * L.length
 | [],_=>by simp [pairB]
 | x :: L,h=>by
  have ih:=xa3g (L:=L) (fun p hp=>h p (by simp [hp]))
  have h1:=h x (by simp)
  have u1:=uv_len x.1.length (by omega)
  have u2:=uv_len x.2.length (by omega)
  have e:pairB (x :: L) = (uv x.1.length++x.1++(uv x.2.length++x.2))++pairB L:=by simp [pairB]
  rw [e,List.length_append,List.length_append,List.length_append,List.length_append,List.length_cons]
  omega
theorem bk_of {S:Nat→Prop} {k g:Nat} {D:List Nat} {pv:Value} {ps:Prs} {W:World} (hS:S g) (hg:W.heap[g]? = some (.cells (bkC D pv ((hsZ k).hb ps)).toArray 93 (0,0))) (hn:ps≠[]) (hD:∀ y∈ps,(hsZ k).kd y.1 = D) (hr:KRow S W pv ps):BkAt S (hsZ k) W g ps:=by
 refine ⟨pv,hS,?_,hn,hr⟩
 have e:(hsZ k).kd (ps.headD ([],[])).1 = D:=by cases ps with
  | nil=>exact absurd rfl hn
  | cons y ps=>exact hD y (by simp)
 rw [e]; exact hg
theorem fnd_ex {q:List Nat} {L:Prs} (h:fnd q L = true):∃ z∈L,z.1 = q:=Classical.byContradiction (fun hn=>by
 unfold fnd at h
 rw [xa2a.2 (fun z hz e=>hn ⟨z,hz,e⟩)] at h; simp at h)
theorem xc2d {q:List Nat} {L:Prs} (h:fnd q L = true) (hl:L.length = 1):delP q L = []:=by
 have h1:=xb7w h
 rw [hl] at h1
 exact List.eq_nil_of_length_eq_zero (by omega)
theorem kd_all {H:Hs} {q:List Nat} {L:Prs} (hs:sgl H L = true) (h:fnd q L = true):∀ y∈L,H.kd y.1 = H.kd q:=fun y hy=>by
 obtain ⟨z,hz,e⟩:=fnd_ex h
 rw [xa1e.1 hs y hy z hz,e]
set_option maxHeartbeats 2000000 in
theorem xa6l (S:Nat→Prop) (k m:Nat) (q:List Nat) (L:Prs) (cr en:Value) (pl:Nat) (w:World) (hk:1≤k∧k≤32) (hS:∀ y,w.heap.size≤y→S y) (hW:WayAt S k w q L m cr en pl true) (hs:Srt (hsZ k) L) (hf:Fit L) (hn:L.length≤1000000000) (hT:Tabs w) :
  Calls Tryz.prog 58 #[.agg (wayC k ((hsZ k).kd q) cr en pl true).toArray] w fun e w'=>∃ v,e = .returned v∧KidAt S (hsZ k) w' (64 - m) v (delP q (dnL (hsZ k) q L m))∧Kept [] w w':=by
 rcases hW.en with ⟨_,_,_,hx⟩ | ⟨hsg,g,rfl,hb,hpl,hfd⟩
 ·cases hx
 have hM1:=dn_srt (q:=q) hs m
 have hM2:=dn_len (H:=hsZ k) (q:=q) (L:=L) m
 have hM3:=dn_sub (H:=hsZ k) (q:=q) (L:=L) m
 clear hW
 generalize dnL (hsZ k) q L m = M at *
 have hMf:Fit M:=hf.sub hM3
 have hris:=xa5o hM1 hsg
 have hfd':=hfd.symm
 have hdp:=xb6e hris hfd'
 have hat:=(fnd_at hris).1 hfd'
 have hall:=kd_all hsg hfd'
 have hone:=xc2d hfd'
 rw [← hpl] at hdp hat
 have hdl:∀ y∈delP q M,y∈M:=fun y hy=>((xa5h y).1 hy).1
 have HDl:=hide hdl
 have HDP:=hide hdp
 have HAl:=hide hall
 have HOne:=hide hone
 have HB:=hide hb
 have hpf:=xa3g (hMf.sub hdl)
 have hlt:=Nat.le_of_lt (xb7w hfd')
 have HPB:=hide (show (pairB (delP q M)).length≤1000000000000 by omega)
 have HTb:=hide hT
 have HSg:=hide (xa1e.2 (fun x hx y hy=>xa1e.1 hsg x (hdl x hx) y (hdl y hy)):sgl (hsZ k) (delP q M) = true)
 have hDg:=((hsZ_ok hk).dg q).1
 obtain ⟨D,hD⟩:∃ D,(hsZ k).kd q = D:=⟨_,rfl⟩
 rw [hD] at hDg HAl ⊢
 obtain ⟨pv,hSg,hh,hne,hkr⟩:=hb
 have hkd:((hsZ k).kd (M.headD ([],[])).1).length = 32:=xa0e _ _
 have c1:=(bk_row hh hkd).2.1
 obtain ⟨b,off,cap,l,rfl,hpr,hrd,hc1,hc2⟩:=hkr.pr
 have hll:=hpr.1
 have HK0:=hide ((Kept.refl [] w).alloc (.cells (wayC k D cr (.pointer (some ⟨g,0,none⟩)) pl true).toArray 88))
 have HG0:=hide (heap_alloc_new w (.cells (wayC k D cr (.pointer (some ⟨g,0,none⟩)) pl true).toArray 88))
 obtain ⟨cw0,cw1,cw2,cw3,cw4,cw5⟩:=xa0s (uh HG0) hDg
 have HW0:=hide cw0
 have HW1:=hide cw1
 have HWY:=hide (xa0k [] (wayC k D cr (.pointer (some ⟨g,0,none⟩)) pl true) [] (by rw [List.nil_append,List.append_nil]; exact uh HG0) rfl)
 have HC1:=hide ((uh HK0).cell c1 (by simp))
 have c1':=uh HC1
 obtain ⟨n,hnn⟩:∃ n,l.length = n:=⟨_,rfl⟩
 rw [hnn] at hll c1' HC1
 have HML:=hide hll
 have HM2:=hide hM2
 have HPl:=hide hat.1
 clear hll hpr hrd hkr hh hpf hlt hdl hdp hone hris hfd hfd' hM1 hM2 hM3 hsg hne c1 cw0 cw1 cw2 cw4 cw5 hnn hat hpl
 go_enter Tryz.func58,Tryz.ntmps58
 by_cases hn1:n = 1
 ·subst hn1
  go_wp2_with fail
  go_ret
  exact ⟨_,rfl,Or.inl ⟨uh HOne (uh HML).symm,rfl⟩,uh HK0⟩
 ·have hi1:¬ ((n:Int) = 1):=by omega
  have hi2:decide ((n:Int) = 1) = false:=by rw [decide_eq_false_iff_not]; exact hi1
  have hnd:delP q M≠[]:=by
   intro e
   have h1:=congrArg List.length (uh HDP)
   rw [e,List.length_append,List.length_take,List.length_drop] at h1
   have h2:=uh HPl
   have h3:=uh HML
   simp at h1
   omega
  go_upto_region 3 with fail
  refine ln_eo (by kernel_rfl) (by kernel_rfl) rfl (fun W=>Kept [] (w.alloc (.cells (wayC k D cr (.pointer (some ⟨g,0,none⟩)) pl true).toArray 88)) W) (Kept.refl [] _).drew ?_
  refine LinY.rd (.pointer (some ⟨w.heap.size,0,none⟩)) (fun W hW=>by go_simp) (by simp only [Act.put,sa1,sa2,sa3]; rfl) ?_
  refine LinY.rd (.int .i64 k) (fun W hW=>by have h9:=hW.cell (uh HW0) (by simp); go_simp) (by simp only [Act.put,sa1,sa2,sa3]; rfl) ?_
  refine LinY.rd (.pointer (some ⟨w.heap.size,1,none⟩)) (fun W hW=>by go_simp) (by simp only [Act.put,sa1,sa2,sa3]; rfl) ?_
  refine LinY.ld 50 (.tmp 12) rfl w.heap.size 1 rfl (D.map u8) _ (fun W hW=>hW.rng (uh HW1) (by simp)) Tryz.underlying50 rfl (by rw [List.length_map,hDg]; exact Tryz.size_dig) (by simp only [Act.put,sa1,sa2,sa3]; rfl) ?_
  refine LinY.ld 88 (.tmp 1) rfl w.heap.size 0 rfl (wayC k D cr (.pointer (some ⟨g,0,none⟩)) pl true) _ (fun W hW=>hW.rng (uh HWY) (by simp)) Tryz.underlying88 rfl (by rw [xa0w hDg]; exact Tryz.size_way) (by simp only [Act.put,sa1,sa2,sa3]; rfl) ?_
  refine ChL.call rfl Tryz.call86 [.agg (wayC k D cr (.pointer (some ⟨g,0,none⟩)) pl true).toArray,.slice none 0 0] rfl (xa7k S k D cr g pl true M (.slice none 0 0) [] [] _ hDg ((uh HB).agr (Agr.nil ((uh HK0).drew))) (by rw [if_pos rfl]; exact uh HPl) (by have:=uh HM2; omega) (RdC.nil 2 _) (PR.nil S _) (by simp) (by have h8:=hnd; rw [uh HDP] at h8; simpa using h8) (fun y hy=>hS y (by have:=(uh HK0).size; simp at hy; omega))) ?_
  rintro e w2 ⟨ao,n2,c2,rfl,hkr2,k2⟩
  have hkw:=((Kept.refl [] (w.alloc (.cells (wayC k D cr (.pointer (some ⟨g,0,none⟩)) pl true).toArray 88))).drew).trans k2 (by simp)
  have HK2:=hide ((uh HK0).trans hkw (by simp))
  have hkr3:KRow S w2 (.slice ao n2 c2) (delP q M):=by rw [uh HDP]; simpa using hkr2
  refine ⟨_,rfl,hkw,?_⟩
  simp only [Act.put,sa1,sa2,sa3]
  refine ChL.call rfl Tryz.call85 [.int .i64 k,.agg (brow D),.slice ao n2 c2] rfl (xa2c k D ao n2 c2 (delP q M) w2 hk hDg hkr3.rdK (uh HPB) ((uh HTb).k (uh HK2))) ?_
  rintro e w3 ⟨g3,rfl,hg3,hc3,k3⟩
  have hkw3:=hkw.trans k3 (by simp)
  have hk3:=(uh HK2).trans k3 (by simp)
  refine ⟨_,rfl,hkw3,?_⟩
  simp only [Act.put,sa1,sa2,sa3]
  have hbk:=bk_of (S:=S) (hS g3 (by have:=(uh HK2).size; omega)) hc3 hnd (fun y hy=>uh HAl y (uh HDl y hy)) (hkr3.agr (Agr.nil k3))
  refine ChL.op (bkV g3) (by go_simp) hkw3 (by simp only [Act.put,sa1,sa2,sa3]; rfl) ?_
  refine ChL.op (bkV g3) (by go_simp) hkw3 (by simp only [Act.put,sa1,sa2,sa3]; rfl) (ChL.fin ?_)
  go_wp2
  go_ret
  exact ⟨_,rfl,Or.inr (TreeAt.ofBk _ hbk (uh HSg)),hk3⟩
theorem Tryz.size_pair:(Tryz.prog.info? 32).map (·.size) = some 2:=by kernel_rfl
theorem infoQ:(Tryz.prog.info? 32).map (fun i=>(i.zero,i.size)) = some (some (.agg #[.slice none 0 0,.slice none 0 0]),2):=by kernel_rfl
theorem infoQp:∃ i,Tryz.prog.info? 32 = some i∧i.zero = some (.agg #[.slice none 0 0,.slice none 0 0])∧i.size = 2:=by
 have h:=infoQ
 generalize Tryz.prog.info? 32 = o at h
 cases o with
 | none=>cases h
 | some i=>exact ⟨i,rfl,(Prod.mk.inj (Option.some.inj h)).1,(Prod.mk.inj (Option.some.inj h)).2⟩
theorem fillQ (x y:Value):Instr.fill (fun i=>some (i * 2,2)) ((Array.range (1 * 2)).map ((Value.agg #[.slice none 0 0,.slice none 0 0]).cells[· % (Value.agg #[.slice none 0 0,.slice none 0 0]).cells.size]!)) [(0,.agg #[x,y])] = some #[x,y]:=by kernel_rfl
theorem xa7x {o:Oper} {a:Act} (w:World) (x:Operand) (ho:o.op = .buildSlice 22 1 #[(0,x)]) (ku vu:Value) (hx:a.eval x = .agg #[ku,vu]):(execOp a.eval o).run Tryz.prog w = .ok (.value (.slice (some ⟨w.heap.size,0,none⟩) 1 1)) (w.alloc (.cells #[ku,vu] 32)):=by
 obtain ⟨i0,hi,hz0,hz1⟩:=infoQp
 have hb:=run_buildSlice w 22 32 1 #[(0,.agg #[ku,vu])] #[ku,vu] i0 _ Tryz.underlying22 hi hz0 (by rw [hz1]; decide) (by rw [hz1]; decide) (by rw [hz1]; exact fillQ ku vu)
 unfold execOp
 simp only [ho,List.map_toArray,List.map_cons,List.map_nil,hx,Sem.run_bind,hb,Result.andThen_ok]
 rfl
theorem xa3k {ops:Array Oper} {rest:List Oper} {o:Oper} {a:Act} {w:World} {Q:Exit→Act→World→Prop} (hw:Region.wanted o (yielded ops a.tmps) = true) (x:Operand) (ho:o.op = .buildSlice 22 1 #[(0,x)]) (ku vu:Value) (hx:a.eval x = .agg #[ku,vu])
  (h:wpList Tryz.prog ops Q rest (a.put o.dst (.slice (some ⟨w.heap.size,0,none⟩) 1 1)) (w.alloc (.cells #[ku,vu] 32))):wpList Tryz.prog ops Q (o :: rest) a w :=
 wpList_want hw fun _ hK=>by
  unfold Oper.wp
  rw [xa7x w x ho ku vu hx]
  exact hK _ _ h
theorem kr_lit {S:Nat→Prop} {w:World} {kv vv:Value} {q v:List Nat} (hS:S w.heap.size) (hk:Sty S w (fun w=>Rd w kv q)) (hv:Sty S w (fun w=>Rd w vv v)):KRow S (w.alloc (.cells #[kv,vv] 32)) (.slice (some ⟨w.heap.size,0,none⟩) 1 1) [(q,v)]:=by
 have ha:Agr S w (w.alloc (.cells #[kv,vv] 32)):=Agr.nil ((Kept.refl [] w).alloc _)
 refine ⟨w.heap.size,0,1,[(kv,vv)],rfl,Nat.le_refl _,by omega,hS,rfl,fun i hi=>?_,fun i hi=>?_⟩
 ·have h0:i = 0:=by simp at hi; omega
  subst h0
  constructor
  ·rw [cell_of_row _ _ _ _ _ _ (heap_alloc_new w (.cells #[kv,vv] 32))]; rfl
  ·rw [cell_of_row _ _ _ _ _ _ (heap_alloc_new w (.cells #[kv,vv] 32))]; rfl
 ·have h0:i = 0:=by simp at hi; omega
  subst h0
  exact fun w' k=>⟨hk w' (ha.trans k),hv w' (ha.trans k)⟩
theorem xc0h (H:Hs) (q v:List Nat):insP H q v [] = [(q,v)]:=rfl
theorem xb9z (H:Hs) (q v:List Nat):sgl H [(q,v)] = true:=xa1e.2 (fun x hx y hy=>by
 have e1:x = (q,v):=by simpa using hx
 have e2:y = (q,v):=by simpa using hy
 rw [e1,e2])
theorem xc0w {k m:Nat} {q v DA:List Nat} {M:Prs} (hk:1≤k∧k≤32) (hs:Srt (hsZ k) M) (hn:M≠[]) (ha:∀ y∈M,(hsZ k).kd y.1 = DA) (hon:On (hsZ k) m q M) (hne:DA≠(hsZ k).kd q):∃ part,m≤part∧Fork (hsZ k) part q v M DA:=by
 obtain ⟨y,hy⟩:∃ y,y∈M:=by cases M with
  | nil=>exact absurd rfl hn
  | cons y M=>exact ⟨y,by simp⟩
 have hDA:=ha y hy
 obtain ⟨_,s2,s3,s4⟩:=xa5y DA ((hsZ k).kd q) (2 * k) 0
 have hlt:comL DA ((hsZ k).kd q) (2 * k) 0 < 0 + 2 * k:=by
  refine Nat.lt_of_le_of_ne s2 (fun e=>hne ?_)
  rw [← hDA] at s3 e ⊢
  exact kd_ext (hsZ_ok hk) (fun j hj=>s3 j (by omega) (by rw [e]; have:(hsZ k).wd = k:=rfl; omega))
 have hpne:=s4 hlt
 refine ⟨comL DA ((hsZ k).kd q) (2 * k) 0,?_,⟨hs,hn,ha,?_,fun j hj=>s3 j (by omega) hj,hpne,?_⟩⟩
 ·refine Nat.le_of_not_lt (fun g=>hpne ?_)
  rw [← hDA]
  rw [← hDA] at g
  exact hon y hy _ g
 ·rw [← hDA]; exact (hsZ_ok hk).dg y.1
 ·have:(hsZ k).wd = k:=rfl
  omega
set_option maxHeartbeats 4000000 in
theorem xa5d (S:Nat→Prop) (k m:Nat) (q v:List Nat) (L:Prs) (cr en kv vv:Value) (pl:Nat) (fd:Bool) (w:World) (hk:1≤k∧k≤32) (hS:∀ y,w.heap.size≤y→S y) (hW:WayAt S k w q L m cr en pl fd) (hs:Srt (hsZ k) L) (hf:Fit L) (hn:L.length≤1000000000) (hq:q.length≤64) (hv:v.length≤256)
  (hkv:Sty S w (fun w=>Rd w kv q)) (hvv:Sty S w (fun w=>Rd w vv v)) (hT:Tabs w) :
  Calls Tryz.prog 57 #[.agg (wayC k ((hsZ k).kd q) cr en pl fd).toArray,.agg #[kv,vv]] w fun e w'=>∃ t,e = .returned t∧TreeAt S (hsZ k) w' (64 - m) t (insP (hsZ k) q v (dnL (hsZ k) q L m))∧Kept [] w w':=by
 have hon:=dn_on (H:=hsZ k) (q:=q) (L:=L) m
 have hM1:=dn_srt (q:=q) hs m
 have hM2:=dn_len (H:=hsZ k) (q:=q) (L:=L) m
 have hM3:=dn_sub (H:=hsZ k) (q:=q) (L:=L) m
 have hend:=hW.en
 obtain ⟨gs,hgl,hrd,_⟩:=hW.cr
 obtain ⟨ao,n,c,rfl,hnl,_⟩:=hrd
 have hnm:n = m:=by rw [← hnl,ptrs,List.length_map,hgl]
 subst hnm
 have hdeep:=hW.deep
 clear hW hnl hgl
 generalize dnL (hsZ k) q L n = M at *
 have hMf:Fit M:=hf.sub hM3
 have hfq:Fit [(q,v)]:=fun p hp=>by
  have:p = (q,v):=by simpa using hp
  subst this; exact ⟨hq,hv⟩
 have hDg:=((hsZ_ok hk).dg q).1
 obtain ⟨D,hD⟩:∃ D,(hsZ k).kd q = D:=⟨_,rfl⟩
 rw [hD] at hDg ⊢
 have hk0:=((Kept.refl [] w).alloc (.cells (wayC k D (.slice ao n c) en pl fd).toArray 88)).alloc (.cells #[kv,vv] 32)
 have hg0:=((Kept.refl [] (w.alloc (.cells (wayC k D (.slice ao n c) en pl fd).toArray 88))).alloc (.cells #[kv,vv] 32)).heap (heap_alloc_new w (.cells (wayC k D (.slice ao n c) en pl fd).toArray 88)) (by simp)
 have hp0:=xa2z w (.cells (wayC k D (.slice ao n c) en pl fd).toArray 88) (.cells #[kv,vv] 32)
 have hz0:((w.alloc (.cells (wayC k D (.slice ao n c) en pl fd).toArray 88)).alloc (.cells #[kv,vv] 32)).heap.size = w.heap.size + 2:=by simp
 go_enter Tryz.func57,Tryz.ntmps57
 go_upto_region 1 with fail
 generalize (w.alloc (.cells (wayC k D (.slice ao n c) en pl fd).toArray 88)).alloc (.cells #[kv,vv] 32) = W0 at hk0 hg0 hp0 hz0 ⊢
 obtain ⟨cw0,cw1,cw2,cw3,cw4,cw5⟩:=xa0s hg0 hDg
 have HK0:=hide hk0
 have HW0:=hide cw0
 have HW1:=hide cw1
 have HW2:=hide cw2
 have HW3:=hide cw3
 have HWY:=hide (xa0k [] (wayC k D (.slice ao n c) en pl fd) [] (by rw [List.nil_append,List.append_nil]; exact hg0) rfl)
 have HWP:=hide (xa0k [] [kv,vv] [] hp0 rfl)
 have HP0:=hide hp0
 have HKV:=hide (hkv.agr (Agr.nil hk0))
 have HVV:=hide (hvv.agr (Agr.nil hk0))
 have HTb:=hide (hT.k hk0)
 have hS0:∀ y,W0.heap.size≤y→S y:=fun y hy=>hS y (by omega)
 have HOn:=hide hon
 have HMs:=hide hM1
 have HMl:=hide hM2
 have HMf:=hide hMf
 have HPB1:=hide (show (pairB [(q,v)]).length≤1000000000000 by have:=xa3g hfq; simp at this; omega)
 have HDq:=hide hD
 clear cw0 cw1 cw2 cw4 cw5 hg0 hp0 hkv hvv hT hon hM1 hM2 hM3 hMf hk0 hfq hf hs
 rcases hend with ⟨hM,rfl,rfl,rfl⟩ | ⟨hsg,g,rfl,hb,hpl,hfd⟩
 ·subst hM
  refine ln_eg (by kernel_rfl) (by kernel_rfl) (fun W=>Kept [] W0 W) (Kept.refl [] W0).drew ?_
  refine LinG.rd (by rfl) (.pointer (some ⟨w.heap.size,34,none⟩)) (fun W hW=>by go_simp) (by simp only [Act.put,sa1,sa2,sa3]; rfl) ?_
  refine LinG.rd (by rfl) (.pointer none) (fun W hW=>by have h9:=hW.cell (uh HW3) (by simp); go_simp) (by simp only [Act.put,sa1,sa2,sa3]; rfl) ?_
  refine LinG.rd (by rfl) (.bool false) (fun W hW=>by go_simp) (by simp only [Act.put,sa1,sa2,sa3]; rfl) ?_
  refine LinG.rd (by rfl) (.bool false) (fun W hW=>by go_simp) (by simp only [Act.put,sa1,sa2,sa3]; rfl) ?_
  refine LinG.no (by rfl) (by simp only [Act.put,sa1,sa2,sa3]; rfl) ?_
  refine LinG.no (by rfl) (by simp only [Act.put,sa1,sa2,sa3]; rfl) ?_
  refine LinG.no (by rfl) (by simp only [Act.put,sa1,sa2,sa3]; rfl) ?_
  refine LinG.no (by rfl) (by simp only [Act.put,sa1,sa2,sa3]; rfl) ?_
  refine LinG.no (by rfl) (by simp only [Act.put,sa1,sa2,sa3]; rfl) ?_
  refine LinG.no (by rfl) (by simp only [Act.put,sa1,sa2,sa3]; rfl) ?_
  refine LinG.no (by rfl) (by simp only [Act.put,sa1,sa2,sa3]; rfl) ?_
  refine LinG.no (by rfl) (by simp only [Act.put,sa1,sa2,sa3]; rfl) ?_
  refine LinG.rd (by rfl) (.bool false) (fun W hW=>by go_simp) (by simp only [Act.put,sa1,sa2,sa3]; rfl) ?_
  refine LinG.fin ?_
  have hkl:=(kr_lit (S:=S) (w:=W0) (kv:=kv) (vv:=vv) (q:=q) (v:=v) (hS0 _ (Nat.le_refl _)) (uh HKV) (uh HVV)).agr (Agr.nil (Kept.refl [] (W0.alloc (.cells #[kv,vv] 32))).drew)
  rw [hz0] at hkl
  have HKL:=hide hkl
  have HKA:=hide (((Kept.refl [] W0).alloc (.cells #[kv,vv] 32)).drew)
  clear hkl
  have h7a:=(Kept.refl [] W0).drew.cell (uh HW0) (by simp)
  go_wp2_with (first
   | (refine wpList_load_mid rfl 50 (.tmp 31) rfl w.heap.size 1 rfl (D.map u8) _ ((Kept.refl [] W0).drew.rng (uh HW1) (by simp)) Tryz.underlying50 rfl (by rw [List.length_map,hDg]; exact Tryz.size_dig) ?_)
   | (refine wpList_load_row rfl 32 (.tmp 3) rfl (w.heap.size + 1) rfl 32 #[kv,vv] (0,0) _ ((Kept.refl [] W0).drew.heap (uh HP0) (by simp)) Tryz.underlying32 rfl Tryz.size_pair ?_)
   | (refine xa3k rfl (.tmp 33) rfl kv vv rfl ?_))
  refine Calls.mono (xa2c k D (some ⟨w.heap.size + 2,0,none⟩) 1 1 [(q,v)] _ hk hDg (uh HKL).rdK (uh HPB1) ((uh HTb).k (uh HKA))) ?_
  rintro e w3 ⟨g3,rfl,hg3,hc3,k3⟩
  have hk3:=(uh HKA).trans k3 (by simp)
  have hbk:=bk_of (S:=S) (hS0 g3 (by have:=(uh HKA).size; omega)) hc3 (by simp) (fun y hy=>by rw [show y = (q,v) by simpa using hy]; exact uh HDq) ((uh HKL).agr (Agr.nil k3))
  have HBK:=hide hbk
  have HK3:=hide hk3
  clear hbk hk3 hc3 k3
  have h9:=(uh HK3).cell (uh HW3) (by simp)
  go_wp2_with fail
  go_ret
  rw [xc0h]
  exact ⟨_,rfl,TreeAt.ofBk _ (uh HBK) (xb9z _ _ _),(uh HK0).trans (uh HK3) (by simp)⟩
 ·obtain ⟨pv,hSg,hh,hne,hkr⟩:=id hb
  have hkd:((hsZ k).kd (M.headD ([],[])).1).length = 32:=xa0e _ _
  have b0:=(bk_row hh hkd).1
  have hall:∀ y∈M,(hsZ k).kd y.1 = (hsZ k).kd (M.headD ([],[])).1:=fun y hy=>xa1e.1 hsg y hy _ (by cases M with
   | nil=>exact absurd rfl hne
   | cons z M=>simp)
  generalize (hsZ k).kd (M.headD ([],[])).1 = DA at hkd b0 hall
  have HB0:=hide ((uh HK0).rng b0 (by simp))
  have HB:=hide (hb.agr (Agr.nil (uh HK0)))
  have HAll:=hide hall
  have HSG:=hide hsg
  have HPl:=hide hpl
  have HFd:=hide hfd
  have HNe:=hide hne
  have heq:=fun W=>dig_eq W DA D hkd hDg
  obtain ⟨sm,hsm⟩:∃ sm,decide (DA = D) = sm:=⟨_,rfl⟩
  rw [hsm] at heq
  have HEQ:=hide heq
  clear hb hh hkr b0 hall hsg hpl hfd hne heq
  refine ln_eg (by kernel_rfl) (by kernel_rfl) (fun W=>Kept [] W0 W) (Kept.refl [] W0).drew ?_
  refine LinG.rd (by rfl) (.pointer (some ⟨w.heap.size,34,none⟩)) (fun W hW=>by go_simp) (by simp only [Act.put,sa1,sa2,sa3]; rfl) ?_
  refine LinG.rd (by rfl) (.pointer (some ⟨g,0,none⟩)) (fun W hW=>by have h9:=hW.cell (uh HW3) (by simp); go_simp) (by simp only [Act.put,sa1,sa2,sa3]; rfl) ?_
  refine LinG.rd (by rfl) (.bool true) (fun W hW=>by go_simp) (by simp only [Act.put,sa1,sa2,sa3]; rfl) ?_
  refine LinG.rd (by rfl) (.bool true) (fun W hW=>by go_simp) (by simp only [Act.put,sa1,sa2,sa3]; rfl) ?_
  refine LinG.rd (by rfl) (.pointer (some ⟨w.heap.size,34,none⟩)) (fun W hW=>by go_simp) (by simp only [Act.put,sa1,sa2,sa3]; rfl) ?_
  refine LinG.rd (by rfl) (.pointer (some ⟨g,0,none⟩)) (fun W hW=>by have h9:=hW.cell (uh HW3) (by simp); go_simp) (by simp only [Act.put,sa1,sa2,sa3]; rfl) ?_
  refine LinG.rd (by rfl) (.pointer (some ⟨g,0,none⟩)) (fun W hW=>by go_simp) (by simp only [Act.put,sa1,sa2,sa3]; rfl) ?_
  refine LinG.rd (by rfl) (.pointer (some ⟨g,0,none⟩)) (fun W hW=>by go_simp) (by simp only [Act.put,sa1,sa2,sa3]; rfl) ?_
  refine LinG.ld (by rfl) 50 (.tmp 13) rfl g 0 rfl (DA.map u8) _ (fun W hW=>hW.rng (uh HB0) (by simp)) Tryz.underlying50 rfl (by rw [List.length_map,hkd]; exact Tryz.size_dig) (by simp only [Act.put,sa1,sa2,sa3]; rfl) ?_
  refine LinG.rd (by rfl) (.pointer (some ⟨w.heap.size,1,none⟩)) (fun W hW=>by go_simp) (by simp only [Act.put,sa1,sa2,sa3]; rfl) ?_
  refine LinG.ld (by rfl) 50 (.tmp 15) rfl w.heap.size 1 rfl (D.map u8) _ (fun W hW=>hW.rng (uh HW1) (by simp)) Tryz.underlying50 rfl (by rw [List.length_map,hDg]; exact Tryz.size_dig) (by simp only [Act.put,sa1,sa2,sa3]; rfl) ?_
  refine LinG.rd (by rfl) (.bool sm) (fun W hW=>xa9t 50 (.tmp 14) (.tmp 16) 50 rfl (brow DA) (brow D) rfl rfl W sm (by kernel_rfl) (uh HEQ W)) (by simp only [Act.put,sa1,sa2,sa3]; rfl) ?_
  refine LinG.rd (by rfl) (.bool sm) (fun W hW=>by go_simp) (by simp only [Act.put,sa1,sa2,sa3]; rfl) ?_
  refine LinG.fin ?_
  cases sm with
  | true =>
   have hDD:DA = D:=of_decide_eq_true hsm
   subst hDD
   have hall2:∀ y∈M,(hsZ k).kd y.1 = (hsZ k).kd q:=fun y hy=>by rw [uh HAll y hy,uh HDq]
   have hris:=xa5o (uh HMs) (uh HSG)
   have hip:=xb6p (H:=hsZ k) (v:=v) hris hall2
   rw [← uh HPl,← uh HFd] at hip
   have hple:pl + (if fd = true then 1 else 0)≤M.length:=by
    have h1:=plc_le q M
    cases hfd2:fd with
    | false=>rw [uh HPl]; simpa using h1
    | true =>
     have h2:=(fnd_at (k:=q) hris).1 (by rw [← uh HFd,hfd2])
     rw [uh HPl,if_pos rfl]; exact h2.1
   have hin:∀ y∈insP (hsZ k) q v M,(hsZ k).kd y.1 = DA:=fun y hy=>by
    rcases (xa2l (uh HMs) y).1 hy with rfl | ⟨h1,_⟩
    ·exact uh HDq
    ·exact uh HAll y h1
   have hfi:Fit (insP (hsZ k) q v M):=fun p hp=>by
    rcases (xa2l (uh HMs) p).1 hp with rfl | ⟨h1,_⟩
    ·exact ⟨hq,hv⟩
    ·exact uh HMf p h1
   have hpb:=xa3g hfi
   have hlen:(insP (hsZ k) q v M).length≤M.length + 1:=by rw [hip]; simp; omega
   have HPB2:=hide (show (pairB (insP (hsZ k) q v M)).length≤1000000000000 by have:=uh HMl; omega)
   have HIP:=hide hip
   have HIN:=hide hin
   clear hpb hlen hfi hin hip hris hall2
   go_upto_region 2 with fail
   refine ln_ew (by kernel_rfl) (by kernel_rfl) rfl (fun W=>Kept [] W0 W) (Kept.refl [] W0).drew.drew ?_
   refine LinY.rd (.pointer (some ⟨w.heap.size,0,none⟩)) (fun W hW=>by go_simp) (by simp only [Act.put,sa1,sa2,sa3]; rfl) ?_
   refine LinY.rd (.int .i64 k) (fun W hW=>by have h9:=hW.cell (uh HW0) (by simp); go_simp) (by simp only [Act.put,sa1,sa2,sa3]; rfl) ?_
   refine LinY.rd (.pointer (some ⟨w.heap.size,1,none⟩)) (fun W hW=>by go_simp) (by simp only [Act.put,sa1,sa2,sa3]; rfl) ?_
   refine LinY.ld 50 (.tmp 21) rfl w.heap.size 1 rfl (DA.map u8) _ (fun W hW=>hW.rng (uh HW1) (by simp)) Tryz.underlying50 rfl (by rw [List.length_map,hDg]; exact Tryz.size_dig) (by simp only [Act.put,sa1,sa2,sa3]; rfl) ?_
   refine LinY.ld 88 (.tmp 2) rfl w.heap.size 0 rfl (wayC k DA (.slice ao n c) (.pointer (some ⟨g,0,none⟩)) pl fd) _ (fun W hW=>hW.rng (uh HWY) (by simp)) Tryz.underlying88 rfl (by rw [xa0w hDg]; exact Tryz.size_way) (by simp only [Act.put,sa1,sa2,sa3]; rfl) ?_
   refine LinY.ld 32 (.tmp 3) rfl (w.heap.size + 1) 0 rfl ([kv,vv]) _ (fun W hW=>hW.rng (uh HWP) (by simp)) Tryz.underlying32 rfl (Tryz.size_pair) (by simp only [Act.put,sa1,sa2,sa3]; rfl) ?_
   have hd2:=(Kept.refl [] W0).drew.drew
   obtain ⟨W2,hW2⟩:∃ W2,W0.drew.drew = W2:=⟨_,rfl⟩
   rw [hW2] at hd2 ⊢
   clear hW2
   have HD2:=hide hd2
   have hkl:=kr_lit (S:=S) (w:=W2) (kv:=kv) (vv:=vv) (q:=q) (v:=v) (hS0 _ hd2.size) ((uh HKV).agr (Agr.nil hd2)) ((uh HVV).agr (Agr.nil hd2))
   have hka:=hd2.alloc (.cells #[kv,vv] 32)
   have HKA:=hide hka
   refine ChL.op (.slice (some ⟨W2.heap.size,0,none⟩) 1 1) (xa7x W2 (.tmp 24) rfl kv vv rfl) hka (by simp only [Act.put,sa1,sa2,sa3]; rfl) ?_
   obtain ⟨b9,off9,cap9,l9,e9,hpr9,hrd9,_,_⟩:=hkl.pr
   have hl9:l9.length = 1:=hpr9.1
   refine ChL.call rfl Tryz.call86 [.agg (wayC k DA (.slice ao n c) (.pointer (some ⟨g,0,none⟩)) pl fd).toArray,.slice (some ⟨W2.heap.size,0,none⟩) 1 1] rfl (xa7k S k DA (.slice ao n c) g pl fd M (.slice (some ⟨W2.heap.size,0,none⟩) 1 1) l9 [(q,v)] _ hDg ((uh HB).agr (Agr.nil hka)) hple (by have:=uh HMl; omega) hrd9 hpr9 (by omega) (by simp) (fun y hy=>hS0 y (Nat.le_trans hka.size hy))) ?_
   rintro e w2 ⟨a2,n2,c2,rfl,hkr2,k2⟩
   have hkw:=hka.trans k2 (by simp)
   have hkr3:KRow S w2 (.slice a2 n2 c2) (insP (hsZ k) q v M):=by rw [uh HIP]; exact hkr2
   refine ⟨_,rfl,hkw,?_⟩
   simp only [Act.put,sa1,sa2,sa3]
   refine ChL.call rfl Tryz.call85 [.int .i64 k,.agg (brow DA),.slice a2 n2 c2] rfl (xa2c k DA a2 n2 c2 (insP (hsZ k) q v M) w2 hk hDg hkr3.rdK (uh HPB2) ((uh HTb).k hkw)) ?_
   rintro e w3 ⟨g3,rfl,hg3,hc3,k3⟩
   have hkw3:=hkw.trans k3 (by simp)
   refine ⟨_,rfl,hkw3,?_⟩
   simp only [Act.put,sa1,sa2,sa3]
   have hbk:=bk_of (S:=S) (hS0 g3 (by have:=hkw.size; omega)) hc3 ins_ne (uh HIN) (hkr3.agr (Agr.nil k3))
   refine ChL.op (bkV g3) (by go_simp) hkw3 (by simp only [Act.put,sa1,sa2,sa3]; rfl) ?_
   refine ChL.op (bkV g3) (by go_simp) hkw3 (by simp only [Act.put,sa1,sa2,sa3]; rfl) (ChL.fin ?_)
   go_wp2
   go_ret
   exact ⟨_,rfl,TreeAt.ofBk _ hbk (xa1e.2 (fun x hx y hy=>by rw [uh HIN x hx,uh HIN y hy])),(uh HK0).trans hkw3 (by simp)⟩
  | false =>
   have hDD:DA≠D:=of_decide_eq_false hsm
   obtain ⟨part,hmp,hfork⟩:=xc0w (v:=v) hk (uh HMs) (uh HNe) (uh HAll) (uh HOn) (by rw [uh HDq]; exact hDD)
   have hkl:=(kr_lit (S:=S) (w:=W0) (kv:=kv) (vv:=vv) (q:=q) (v:=v) (hS0 _ (Nat.le_refl _)) (uh HKV) (uh HVV)).agr (Agr.nil (Kept.refl [] (W0.alloc (.cells #[kv,vv] 32))).drew)
   rw [hz0] at hkl
   have HKL:=hide hkl
   have HKA:=hide (((Kept.refl [] W0).alloc (.cells #[kv,vv] 32)).drew)
   clear hkl
   have h7a:=(Kept.refl [] W0).drew.cell (uh HW0) (by simp)
   go_wp2_with (first
    | (refine wpList_load_mid rfl 50 (.tmp 31) rfl w.heap.size 1 rfl (D.map u8) _ ((Kept.refl [] W0).drew.rng (uh HW1) (by simp)) Tryz.underlying50 rfl (by rw [List.length_map,hDg]; exact Tryz.size_dig) ?_)
    | (refine wpList_load_row rfl 32 (.tmp 3) rfl (w.heap.size + 1) rfl 32 #[kv,vv] (0,0) _ ((Kept.refl [] W0).drew.heap (uh HP0) (by simp)) Tryz.underlying32 rfl Tryz.size_pair ?_)
    | (refine xa3k rfl (.tmp 33) rfl kv vv rfl ?_))
   refine Calls.mono (xa2c k D (some ⟨w.heap.size + 2,0,none⟩) 1 1 [(q,v)] _ hk hDg (uh HKL).rdK (uh HPB1) ((uh HTb).k (uh HKA))) ?_
   rintro e w3 ⟨g3,rfl,hg3,hc3,k3⟩
   have hk3:=(uh HKA).trans k3 (by simp)
   have hbk:=bk_of (S:=S) (hS0 g3 (by have:=(uh HKA).size; omega)) hc3 (by simp) (fun y hy=>by rw [show y = (q,v) by simpa using hy]; exact uh HDq) ((uh HKL).agr (Agr.nil k3))
   have HBK:=hide hbk
   have HK3:=hide hk3
   clear hbk hk3 hc3 k3
   have h9:=(uh HK3).cell (uh HW3) (by simp)
   have h8:=(uh HK3).cell (uh HW2) (by simp)
   have h7:=(uh HK3).cell (uh HW0) (by simp)
   go_wp2_with fail
   refine Calls.mono (xb3g S k n part g g3 M q v DA w3 hk (fun y hy=>hS0 y (Nat.le_trans (uh HK3).size hy)) hfork hmp ((uh HB).agr (Agr.nil (uh HK3))) (uh HBK) ((uh HTb).k (uh HK3))) ?_
   rintro e w4 ⟨tt,rfl,ht4,k4⟩
   have HT4:=hide ht4
   have HK4:=hide (((uh HK0).trans (uh HK3) (by simp)).trans k4 (by simp))
   clear ht4 k4
   go_wp2_with fail
   go_ret
   exact ⟨_,rfl,uh HT4,uh HK4⟩
set_option maxHeartbeats 1000000 in
theorem xa1j (v:Value) (p:List Nat) (w:World) (h:Rd w v p) :
  Calls Tryz.prog 41 #[v] w fun e w'=>(∃ v',e = .returned v'∧Rd w' v' p∧∀ x∈blk v',w.heap.size≤x)∧Kept [] w w':=by
 have H:=hide h
 obtain ⟨a1,n1,c1,rfl,hn1,hc1,⟨hc2,hc3⟩,hc4,hc5,hc6⟩:=id h
 subst hn1
 clear h hc6 hc5
 cases a1 with
 | none =>
  have h0:p.length = 0:=by have:=hc4 rfl; omega
  have hp:p = []:=List.eq_nil_of_length_eq_zero h0
  clear hc4
  subst hp
  simp only [List.length_nil]
  have hq:∀ W:World,(binOp .eql 30 (.slice none 0 c1) (.slice none 0 0)).run Tryz.prog W = .ok (.bool true) W:=by
   intro W
   simp only [binOp]
   simp [run_equal_slice_nil W 30 5 none 0 c1 Tryz.underlying30]
  go_enter Tryz.func41,Tryz.ntmps41
  go_wp2
  go_ret
  exact ⟨⟨_,rfl,Rd.nil _,by simp [blk]⟩,Kept.refl _ _⟩
 | some ad =>
  clear hc4
  have HO:=hide (World.ownsRow_made (base:=w.heap.size) (e:=5) (size:=1) w #[] 0 (Nat.le_refl _) (by unfold maxLen; omega) (by simp))
  have hq:∀ W:World,(binOp .eql 30 (.slice (some ad) p.length c1) (.slice none 0 0)).run Tryz.prog W = .ok (.bool false) W:=by
   intro W
   simp only [binOp]
   simp [run_equal_slice_nil W 30 5 (some ad) p.length c1 Tryz.underlying30]
  go_enter Tryz.func41,Tryz.ntmps41
  go_wp2_with (at_builtin; refine xa0c rfl (.tmp 5) (.tmp 6) rfl rfl _ w.heap.size (.slice (some ⟨w.heap.size,0,none⟩) 0 0) [] p (some ad) p.length c1 (uh HO) ((uh H).old ((Kept.refl [] w).alloc _) (by simp)) (by simp; omega) (by simp) rfl rfl ?_; intro ao1 cap1 w1 HO1 HG1 HA1; simp only [List.nil_append,List.length_nil,Nat.zero_add] at HO1 HA1; have HK1:=hide (((Kept.refl [] w).alloc _).grown (uh HG1) (by intro k hk; right; simp [Value.ownBlock] at hk; omega)); clear HG1)
  go_ret
  refine ⟨⟨_,rfl,xa4d (uh HO1) (uh H).byte hc3,?_⟩,uh HK1⟩
  intro x hx
  cases ao1 with
  | none=>simp [blk] at hx
  | some a=>simp [blk] at hx; subst hx; exact ((uh HO1).lt a.block rfl).1
theorem xb7d {H:Hs} {q v:List Nat}:∀ {L:Prs},Srt H L→(insP H q v L).length = if fnd q L = true then L.length else L.length + 1
 | [],_=>rfl
 | y :: L,h=>by
  have ih:=xb7d (q:=q) (v:=v) h.tail
  rw [xa2g]
  by_cases g1:kc H q y.1 < 0
  ·rw [if_pos g1]
   have hn:getP q (y :: L) = none:=xa2a.2 (fun z hz e=>by
    rcases List.mem_cons.1 hz with rfl | hz
    ·rw [e,xa1x] at g1; omega
    ·have h2:=xa3m g1 (h.head z hz); rw [e,xa1x] at h2; omega)
   have hf:fnd q (y :: L) = false:=by unfold fnd; rw [hn]; rfl
   rw [hf]; rfl
  ·rw [if_neg g1]
   by_cases g2:kc H q y.1 = 0
   ·rw [if_pos g2]
    have e:=xa7u g2
    have hf:fnd q (y :: L) = true:=by unfold fnd; rw [xa4n,if_pos e.symm]; rfl
    rw [hf]; rfl
   ·rw [if_neg g2]
    have hne:¬ y.1 = q:=fun e=>g2 (by rw [e,xa1x])
    have hf:fnd q (y :: L) = fnd q L:=by unfold fnd; rw [xa4n,if_neg hne]
    rw [hf,List.length_cons,ih,List.length_cons]
    split <;> rfl
theorem WayAt.fd {S:Nat→Prop} {k:Nat} {W:World} {q:List Nat} {L:Prs} {m:Nat} {cr en:Value} {pl:Nat} {fd:Bool} (h:WayAt S k W q L m cr en pl fd):fd = fnd q L:=by
 have hg:=dn_get (H:=hsZ k) (q:=q) (L:=L) m
 rcases h.en with ⟨hm,_,_,rfl⟩ | ⟨_,g,_,_,_,rfl⟩
 ·unfold fnd; rw [← hg,hm]; rfl
 ·unfold fnd; rw [hg]
theorem xa7p (x y:Value) {X1 Y1:Option Addr} {X2 X3 Y2 Y3:Nat}:Tryz.prog.built 32 [(0,.slice X1 X2 X3),(1,.slice Y1 Y2 Y3)] = some #[.slice X1 X2 X3,.slice Y1 Y2 Y3]:=by kernel_rfl
theorem mapI:∃ i,Tryz.prog.info? 102 = some i∧i.zero = some (.agg #[.int .i64 0,.int .i64 0,.nilIface]):=by
 have h:(Tryz.prog.info? 102).map (·.zero) = some (some (.agg #[.int .i64 0,.int .i64 0,.nilIface])):=by kernel_rfl
 generalize Tryz.prog.info? 102 = o at h
 cases o with
 | none=>cases h
 | some i=>exact ⟨i,rfl,Option.some.inj h⟩
theorem fmap:∀ fs,Tryz.prog.underlying 102 = some (.struct fs)→fs.toList.mapM (fun f=>(Tryz.prog.info? f.type).map fun i=>(f.offset,i.size)) = some [(0,1),(1,1),(2,1)]:=by
 intro fs hfs
 rw [Tryz.underlying102] at hfs
 injection hfs with hfs
 injection hfs with hfs
 subst hfs
 kernel_rfl
theorem xb5c (k n:Int) (tv:Value) (h:tv.cells = #[tv]):Tryz.prog.built 102 [(0,.int .i64 k),(1,.int .i64 n),(2,tv)] = some #[.int .i64 k,.int .i64 n,tv]:=by
 obtain ⟨it,hit,hz⟩:=mapI
 obtain ⟨fs,hfs⟩:∃ fs,Tryz.prog.underlying 102 = some (.struct fs):=⟨_,Tryz.underlying102⟩
 have hpl:=fmap fs hfs
 unfold Program.built
 rw [hit,hfs]
 simp only [hz,hpl,Value.cells]
 have s1:=xa1d (place:=([(0,1),(1,1),(2,1)].toArray[·]?)) (i:=0) (n:=1) (rest:=[(1,.int .i64 n),(2,tv)]) [] [.int .i64 0] [.int .i64 0,.nilIface] [.int .i64 k] (X:=.int .i64 k) rfl rfl rfl rfl
 have s2:=xa1d (place:=([(0,1),(1,1),(2,1)].toArray[·]?)) (i:=1) (n:=1) (rest:=[(2,tv)]) [.int .i64 k] [.int .i64 0] [.nilIface] [.int .i64 n] (X:=.int .i64 n) rfl rfl rfl rfl
 have s3:=xa1d (place:=([(0,1),(1,1),(2,1)].toArray[·]?)) (i:=2) (n:=1) (rest:=[]) [.int .i64 k,.int .i64 n] [.nilIface] [] [tv] (X:=tv) h rfl rfl rfl
 exact s1.trans (s2.trans s3)
theorem xa6g {o:Oper} {a:Act} (w:World) {x y z:Operand} {k n:Int} {tv:Value} (ho:o.op = .build 102 #[(0,x),(1,y),(2,z)]∧a.eval x = .int .i64 k∧a.eval y = .int .i64 n∧a.eval z = tv) (h:tv.cells = #[tv]):(execOp a.eval o).run Tryz.prog w = .ok (.value (.agg #[.int .i64 k,.int .i64 n,tv])) w:=by
 obtain ⟨h0,h1,h2,h3⟩:=ho
 have hb:=run_build (P:=Tryz.prog) w 102 #[(0,.int .i64 k),(1,.int .i64 n),(2,tv)] _ (xb5c k n tv h)
 unfold execOp
 simp only [h0,List.map_toArray,List.map_cons,List.map_nil,h1,h2,h3,Sem.run_bind,hb,Result.andThen_ok]
 rfl
theorem xa3x {S:Nat→Prop} {k f:Nat} {W:World} {v:Value} {L:Prs} (h:KidAt S (hsZ k) W f v L):v.cells = #[v]:=by
 rcases h with ⟨_,rfl⟩ | h
 ·rfl
 ·rcases h.own with ⟨g,_,_,_,rfl,_⟩ | ⟨g,_,_,_,rfl,_⟩ <;> rfl
theorem xb7v {H:Hs} {q v:List Nat} {L:Prs} (hs:Srt H L) (hf:Fit L) (hq:q.length≤64) (hv:v.length≤256):Fit (insP H q v L):=fun p hp=>by
 rcases (xa2l hs p).1 hp with rfl | ⟨h1,_⟩
 ·exact ⟨hq,hv⟩
 ·exact hf p h1
theorem xa5a {W:World} {g k:Nat} {D:List Nat} {cr en:Value} {pl:Nat} {fd:Bool} {t:TypeId} (h:W.heap[g]? = some (.cells (wayC k D cr en pl fd).toArray t (0,0))):W.rangeAt g 0 (wayC k D cr en pl fd):=xa0k [] (wayC k D cr en pl fd) [] (by rw [List.nil_append,List.append_nil]; exact h) rfl
set_option maxHeartbeats 4000000 in
theorem xb6q (S:Nat→Prop) (k:Nat) (mv kv vv:Value) (L:Prs) (q v:List Nat) (w:World) (hM:MapAt S k w mv L) (hku:Rd w kv q) (hvu:Rd w vv v) (hq:q.length≤64) (hv:v.length≤256) (hL:L.length < 1000000000) (hS:∀ y,w.heap.size≤y→S y) (hT:Tabs w) :
  Calls Tryz.prog 30 #[mv,kv,vv] w fun e w'=>∃ m',e = .returned (.tuple #[m',.int .i64 0])∧MapAt S k w' m' (insP (hsZ k) q v L)∧Kept [] w w':=by
 have HM:=hide hM
 obtain ⟨hk,hs,hfit,hlen,g,tv,rfl,hSg,hh,htop⟩:=hM
 have hH:=hsZ_ok hk
 obtain ⟨va,vn,vc,rfl,hvl,_⟩:=id hvu
 have hun:vn≤256:=by omega
 have hu1:¬ (256:Int) < vn:=by omega
 have hu2:¬ (vn:Int) > 256:=by omega
 have c0:w.cell? ⟨g,0,none⟩ = some (.int .i64 k):=by rw [cell_of_row _ _ _ _ _ _ hh]; rfl
 have c1:w.cell? ⟨g,1,none⟩ = some (.int .i64 (L.length:Nat)):=by rw [cell_of_row _ _ _ _ _ _ hh]; rfl
 have HC0:=hide c0
 have HC1:=hide c1
 have HKU:=hide hku
 have HVU:=hide hvu
 have HTb:=hide hT
 have HSr:=hide hs
 have HFt:=hide hfit
 have hil:=xb7d (q:=q) (v:=v) hs
 clear hh htop hT hs c0 c1 hku hvu hfit hSg
 go_enter Tryz.func30,Tryz.ntmps30
 go_wp2_with fail
 refine Calls.mono (xa2p S k _ kv L q w (uh HM) (uh HKU) hq (uh HTb)) ?_
 rintro e w1 ⟨m,cr,en,pl,fd,rfl,hway,k1⟩
 have hfd:=hway.fd
 rw [← hfd] at hil
 have hon:=hway.cells
 have HWay:=hide hway
 have hDl:((hsZ k).kd q).length = 32:=(hH.dg q).1
 obtain ⟨D,hD⟩:∃ D,(hsZ k).kd q = D:=⟨_,rfl⟩
 have HD:=hide hD
 rw [hD] at hDl ⊢
 clear hD hfd hway
 have hws:((wayC k D cr en pl fd).toArray).size = 37:=by rw [List.size_toArray,xa0w hDl]
 have HZ1:=hide (heap_alloc_new w1 (.cells zwy 88))
 have HN2:=hide (setRow_heap _ _ _ (wayC k D cr en pl fd).toArray _ _ (uh HZ1))
 have HK12:=hide ((Kept.refl [] w1).alloc (.cells zwy 88) |>.setRow (g:=w1.heap.size) (Or.inr (Nat.le_refl _)) (wayC k D cr en pl fd).toArray)
 have HK2:=hide (k1.trans (uh HK12) (by simp))
 have hz2:((w1.alloc (.cells zwy 88)).setRow w1.heap.size (wayC k D cr en pl fd).toArray).heap.size = w1.heap.size + 1:=by simp [World.setRow]
 have hw1:=k1.size
 clear k1
 obtain ⟨c,hc⟩:∃ c,L.length = c:=⟨_,rfl⟩
 rw [hc] at hil hL HC1
 have hwr:IntKind.i64.wrap ((c:Int) + 1) = ((c + 1:Nat):Int):=by simp [IntKind.wrap,IntKind.signed,IntKind.bits]; omega
 obtain ⟨W2,hW2⟩:∃ W2,(w1.alloc (.cells zwy 88)).setRow w1.heap.size (wayC k D cr en pl fd).toArray = W2:=⟨_,rfl⟩
 rw [hW2] at HN2 HK12 HK2 hz2
 have c1a:=(uh HK2).cell (uh HC1) (by simp)
 have c5a:=(xa0s (uh HN2) hDl).2.2.2.2.2
 cases fd with
 | true =>
  rw [if_pos rfl] at hil
  go_wp2_with (rw [xa2t]; refine wpList_store_row rfl 88 (.tmp 8) (.tmp 16) rfl w1.heap.size (wayC k D cr en pl true).toArray rfl rfl _ zwy (uh HZ1) (by rw [hws]; exact Tryz.size_way) (by rw [hws]; rfl) (xa1k _ _ hon.1 hon.2) ?_; rw [hW2]; simp only [Act.put])
  refine Calls.mono (xa1j kv q W2 ((uh HKU).old (uh HK2) (by simp))) ?_
  rintro e w3 ⟨⟨kz,rfl,hkz,hkb⟩,k3⟩
  obtain ⟨ka,kn,kc',rfl,_⟩:=id hkz
  have HK3:=hide ((uh HK2).trans k3 (by simp))
  have HN3:=hide (k3.heap (uh HN2) (by simp))
  have HK13:=hide ((uh HK12).trans k3 (by simp))
  have hz3:=k3.size
  have HKz:=hide hkz
  have HKb:=hide hkb
  clear k3 hkz hkb
  go_wp2_with fail
  refine Calls.mono (xa1j _ v w3 ((uh HVU).old (uh HK3) (by simp))) ?_
  rintro e w4 ⟨⟨vz,rfl,hvz,hvb⟩,k4⟩
  obtain ⟨va',vn',vc',rfl,_⟩:=id hvz
  have HK4:=hide ((uh HK3).trans k4 (by simp))
  have HN4:=hide (k4.heap (uh HN3) (by simp))
  have HK14:=hide ((uh HK13).trans k4 (by simp))
  have hz4:=k4.size
  have HKz4:=hide ((uh HKz).old k4 (by simp))
  have HVz:=hide hvz
  have HVb:=hide hvb
  clear k4 hvz hvb
  have HP5:=hide (heap_alloc_new w4 (.cells #[.slice ka kn kc',.slice va' vn' vc'] 32))
  have HK45:=hide ((Kept.refl [] w4).alloc (.cells #[.slice ka kn kc',.slice va' vn' vc'] 32))
  have HN5:=hide ((uh HK45).heap (uh HN4) (by simp))
  have HK5:=hide ((uh HK4).trans (uh HK45) (by simp))
  have HK15:=hide ((uh HK14).trans (uh HK45) (by simp))
  have HKz5:=hide ((uh HKz4).old (uh HK45) (by simp))
  have HVz5:=hide ((uh HVz).old (uh HK45) (by simp))
  go_upto_region 10 with fail
  try simp only [Act.put]
  generalize w4.alloc (.cells #[.slice ka kn kc',.slice va' vn' vc'] 32) = W5 at HP5 HK45 HN5 HK5 HK15 HKz5 HVz5 ⊢
  clear c1a c5a
  have HV0:=hide ((uh HK5).cell (uh HC0) (by simp))
  refine ln_pt (by kernel_rfl) (by kernel_rfl) rfl (fun W=>Kept [] W5 W) (Kept.refl _ W5).drew ?_
  refine LinY.mv (x:=.tmp 0) rfl (.pointer (some ⟨g,0,none⟩)) rfl (by simp only [Act.put,sa1,sa2,sa3]; rfl) ?_
  refine LinY.rd (.pointer (some ⟨g,0,none⟩)) (fun W hW=>by go_simp) (by simp only [Act.put,sa1,sa2,sa3]; rfl) ?_
  refine LinY.rd (.pointer (some ⟨g,0,none⟩)) (fun W hW=>by go_simp) (by simp only [Act.put,sa1,sa2,sa3]; rfl) ?_
  refine LinY.rd (.int .i64 k) (fun W hW=>by have h9:=hW.cell (uh HV0) (by simp); go_simp) (by simp only [Act.put,sa1,sa2,sa3]; rfl) ?_
  refine LinY.mv (x:=.tmp 10) rfl (.int .i64 c) rfl (by simp only [Act.put,sa1,sa2,sa3]; rfl) ?_
  refine LinY.ld 88 (.tmp 8) rfl w1.heap.size 0 rfl (wayC k D cr en pl true) _ (fun W hW=>hW.rng (xa5a (uh HN5)) (by simp)) Tryz.underlying88 rfl (by rw [xa0w hDl]; exact Tryz.size_way) (by simp only [Act.put,sa1,sa2,sa3]; rfl) ?_
  refine LinY.ld 88 (.tmp 8) rfl w1.heap.size 0 rfl (wayC k D cr en pl true) _ (fun W hW=>hW.rng (xa5a (uh HN5)) (by simp)) Tryz.underlying88 rfl (by rw [xa0w hDl]; exact Tryz.size_way) (by simp only [Act.put,sa1,sa2,sa3]; rfl) ?_
  refine LinY.ld 32 (.tmp 11) rfl w4.heap.size 0 rfl ([.slice ka kn kc',.slice va' vn' vc']) _ (fun W hW=>hW.rng (xa0k [] [.slice ka kn kc',.slice va' vn' vc'] [] (uh HP5) rfl) (by simp)) Tryz.underlying32 rfl Tryz.size_pair (by simp only [Act.put,sa1,sa2,sa3]; rfl) ?_
  have hd5:=(Kept.refl [] W5).drew
  have hw5:=(uh HWay).old ((uh HK15).trans hd5 (by simp))
  have hS5:∀ y,W5.drew.heap.size≤y→S y:=fun y hy=>hS y (Nat.le_trans ((uh HK5).trans hd5 (by simp)).size hy)
  have hew:=xa5d S k m q v L cr en (.slice ka kn kc') (.slice va' vn' vc') pl true W5.drew hk hS5 hw5 (uh HSr) (uh HFt) (by omega) hq hv
   (Sty.rd ((uh HKz5).old hd5 (by simp)) (fun x hx=>hS x (Nat.le_trans (uh HK2).size (uh HKb x hx))))
   (Sty.rd ((uh HVz5).old hd5 (by simp)) (fun x hx=>hS x (Nat.le_trans (uh HK3).size (uh HVb x hx)))) ((uh HTb).k ((uh HK5).trans hd5 (by simp)))
  rw [uh HD] at hew
  refine ChL.call rfl Tryz.call57 [.agg (wayC k D cr en pl true).toArray,.agg #[.slice ka kn kc',.slice va' vn' vc']] rfl hew ?_
  rintro e w6 ⟨t6,rfl,ht6,k6⟩
  have hk6:=hd5.trans k6 (by simp)
  refine ⟨_,rfl,hk6,?_⟩
  simp only [Act.put,sa1,sa2,sa3]
  have hk60:=(uh HK5).trans hk6 (by simp)
  have hli:=xa8j S k m q L (fun i=>insP (hsZ k) q v (dnL (hsZ k) q L i)) cr en pl true t6 w6 hk (fun y hy=>hS y (Nat.le_trans hk60.size hy)) (hw5.old k6) (fun i hi=>⟨put_in (dn_srt (uh HSr) i),xb4c (dn_srt (uh HSr) i),ins_ne⟩) (Or.inr ht6) ((uh HTb).k hk60)
  rw [uh HD] at hli
  refine ChL.call rfl Tryz.call56 [.agg (wayC k D cr en pl true).toArray,t6] rfl hli ?_
  rintro e w7 ⟨t7,rfl,ht7,k7⟩
  have hk7:=hk6.trans k7 (by simp)
  refine ⟨_,rfl,hk7,?_⟩
  simp only [Act.put,sa1,sa2,sa3]
  have hk70:=hk60.trans k7 (by simp)
  have hone:t7.cells = #[t7]:=xa3x ht7
  refine ChL.op (.agg #[.int .i64 k,.int .i64 c,t7]) (xa6g w7 ⟨rfl,rfl,rfl,rfl⟩ hone) hk7 (by simp only [Act.put,sa1,sa2,sa3]; rfl) ?_
  have hka:=hk7.alloc (.cells #[.int .i64 k,.int .i64 c,t7] 102)
  have hkz:=hk70.alloc (.cells #[.int .i64 k,.int .i64 c,t7] 102)
  refine ChL.op (.pointer (some ⟨w7.heap.size,0,none⟩)) (by go_simp) hka (by simp only [Act.put,sa1,sa2,sa3]; rfl) ?_
  refine ChL.op (.pointer (some ⟨w7.heap.size,0,none⟩)) (by go_simp) hka (by simp only [Act.put,sa1,sa2,sa3]; rfl) ?_
  refine ChL.op (.int .i64 0) (by go_simp) hka (by simp only [Act.put,sa1,sa2,sa3]; rfl) (ChL.fin ?_)
  have hfin:MapAt S k (w7.alloc (.cells #[.int .i64 k,.int .i64 c,t7] 102)) (.pointer (some ⟨w7.heap.size,0,none⟩)) (insP (hsZ k) q v L) :=
   ⟨hk,(uh HSr).ins q v,xb7v (uh HSr) (uh HFt) hq hv,by omega,w7.heap.size,t7,rfl,hS _ hk70.size,by rw [hil]; exact heap_alloc_new _ _,ht7.agr (Agr.nil ((Kept.refl [] w7).alloc _))⟩
  go_wp2
  go_ret2
  exact ⟨_,rfl,hfin,hkz⟩
 | false =>
  rw [if_neg (by decide)] at hil
  go_wp2_with (rw [xa2t]; refine wpList_store_row rfl 88 (.tmp 8) (.tmp 16) rfl w1.heap.size (wayC k D cr en pl false).toArray rfl rfl _ zwy (uh HZ1) (by rw [hws]; exact Tryz.size_way) (by rw [hws]; rfl) (xa1k _ _ hon.1 hon.2) ?_; rw [hW2]; simp only [Act.put])
  refine Calls.mono (xa1j kv q W2 ((uh HKU).old (uh HK2) (by simp))) ?_
  rintro e w3 ⟨⟨kz,rfl,hkz,hkb⟩,k3⟩
  obtain ⟨ka,kn,kc',rfl,_⟩:=id hkz
  have HK3:=hide ((uh HK2).trans k3 (by simp))
  have HN3:=hide (k3.heap (uh HN2) (by simp))
  have HK13:=hide ((uh HK12).trans k3 (by simp))
  have hz3:=k3.size
  have HKz:=hide hkz
  have HKb:=hide hkb
  clear k3 hkz hkb
  go_wp2_with fail
  refine Calls.mono (xa1j _ v w3 ((uh HVU).old (uh HK3) (by simp))) ?_
  rintro e w4 ⟨⟨vz,rfl,hvz,hvb⟩,k4⟩
  obtain ⟨va',vn',vc',rfl,_⟩:=id hvz
  have HK4:=hide ((uh HK3).trans k4 (by simp))
  have HN4:=hide (k4.heap (uh HN3) (by simp))
  have HK14:=hide ((uh HK13).trans k4 (by simp))
  have hz4:=k4.size
  have HKz4:=hide ((uh HKz).old k4 (by simp))
  have HVz:=hide hvz
  have HVb:=hide hvb
  clear k4 hvz hvb
  have HP5:=hide (heap_alloc_new w4 (.cells #[.slice ka kn kc',.slice va' vn' vc'] 32))
  have HK45:=hide ((Kept.refl [] w4).alloc (.cells #[.slice ka kn kc',.slice va' vn' vc'] 32))
  have HN5:=hide ((uh HK45).heap (uh HN4) (by simp))
  have HK5:=hide ((uh HK4).trans (uh HK45) (by simp))
  have HK15:=hide ((uh HK14).trans (uh HK45) (by simp))
  have HKz5:=hide ((uh HKz4).old (uh HK45) (by simp))
  have HVz5:=hide ((uh HVz).old (uh HK45) (by simp))
  go_upto_region 10 with fail
  try simp only [Act.put]
  generalize w4.alloc (.cells #[.slice ka kn kc',.slice va' vn' vc'] 32) = W5 at HP5 HK45 HN5 HK5 HK15 HKz5 HVz5 ⊢
  clear c1a c5a
  have HV0:=hide ((uh HK5).cell (uh HC0) (by simp))
  refine ln_pt (by kernel_rfl) (by kernel_rfl) rfl (fun W=>Kept [] W5 W) (Kept.refl _ W5).drew ?_
  refine LinY.mv (x:=.tmp 0) rfl (.pointer (some ⟨g,0,none⟩)) rfl (by simp only [Act.put,sa1,sa2,sa3]; rfl) ?_
  refine LinY.rd (.pointer (some ⟨g,0,none⟩)) (fun W hW=>by go_simp) (by simp only [Act.put,sa1,sa2,sa3]; rfl) ?_
  refine LinY.rd (.pointer (some ⟨g,0,none⟩)) (fun W hW=>by go_simp) (by simp only [Act.put,sa1,sa2,sa3]; rfl) ?_
  refine LinY.rd (.int .i64 k) (fun W hW=>by have h9:=hW.cell (uh HV0) (by simp); go_simp) (by simp only [Act.put,sa1,sa2,sa3]; rfl) ?_
  refine LinY.mv (x:=.tmp 10) rfl (.int .i64 (c + 1:Nat)) rfl (by simp only [Act.put,sa1,sa2,sa3]; rfl) ?_
  refine LinY.ld 88 (.tmp 8) rfl w1.heap.size 0 rfl (wayC k D cr en pl false) _ (fun W hW=>hW.rng (xa5a (uh HN5)) (by simp)) Tryz.underlying88 rfl (by rw [xa0w hDl]; exact Tryz.size_way) (by simp only [Act.put,sa1,sa2,sa3]; rfl) ?_
  refine LinY.ld 88 (.tmp 8) rfl w1.heap.size 0 rfl (wayC k D cr en pl false) _ (fun W hW=>hW.rng (xa5a (uh HN5)) (by simp)) Tryz.underlying88 rfl (by rw [xa0w hDl]; exact Tryz.size_way) (by simp only [Act.put,sa1,sa2,sa3]; rfl) ?_
  refine LinY.ld 32 (.tmp 11) rfl w4.heap.size 0 rfl ([.slice ka kn kc',.slice va' vn' vc']) _ (fun W hW=>hW.rng (xa0k [] [.slice ka kn kc',.slice va' vn' vc'] [] (uh HP5) rfl) (by simp)) Tryz.underlying32 rfl Tryz.size_pair (by simp only [Act.put,sa1,sa2,sa3]; rfl) ?_
  have hd5:=(Kept.refl [] W5).drew
  have hw5:=(uh HWay).old ((uh HK15).trans hd5 (by simp))
  have hS5:∀ y,W5.drew.heap.size≤y→S y:=fun y hy=>hS y (Nat.le_trans ((uh HK5).trans hd5 (by simp)).size hy)
  have hew:=xa5d S k m q v L cr en (.slice ka kn kc') (.slice va' vn' vc') pl false W5.drew hk hS5 hw5 (uh HSr) (uh HFt) (by omega) hq hv
   (Sty.rd ((uh HKz5).old hd5 (by simp)) (fun x hx=>hS x (Nat.le_trans (uh HK2).size (uh HKb x hx))))
   (Sty.rd ((uh HVz5).old hd5 (by simp)) (fun x hx=>hS x (Nat.le_trans (uh HK3).size (uh HVb x hx)))) ((uh HTb).k ((uh HK5).trans hd5 (by simp)))
  rw [uh HD] at hew
  refine ChL.call rfl Tryz.call57 [.agg (wayC k D cr en pl false).toArray,.agg #[.slice ka kn kc',.slice va' vn' vc']] rfl hew ?_
  rintro e w6 ⟨t6,rfl,ht6,k6⟩
  have hk6:=hd5.trans k6 (by simp)
  refine ⟨_,rfl,hk6,?_⟩
  simp only [Act.put,sa1,sa2,sa3]
  have hk60:=(uh HK5).trans hk6 (by simp)
  have hli:=xa8j S k m q L (fun i=>insP (hsZ k) q v (dnL (hsZ k) q L i)) cr en pl false t6 w6 hk (fun y hy=>hS y (Nat.le_trans hk60.size hy)) (hw5.old k6) (fun i hi=>⟨put_in (dn_srt (uh HSr) i),xb4c (dn_srt (uh HSr) i),ins_ne⟩) (Or.inr ht6) ((uh HTb).k hk60)
  rw [uh HD] at hli
  refine ChL.call rfl Tryz.call56 [.agg (wayC k D cr en pl false).toArray,t6] rfl hli ?_
  rintro e w7 ⟨t7,rfl,ht7,k7⟩
  have hk7:=hk6.trans k7 (by simp)
  refine ⟨_,rfl,hk7,?_⟩
  simp only [Act.put,sa1,sa2,sa3]
  have hk70:=hk60.trans k7 (by simp)
  have hone:t7.cells = #[t7]:=xa3x ht7
  refine ChL.op (.agg #[.int .i64 k,.int .i64 (c + 1:Nat),t7]) (xa6g w7 ⟨rfl,rfl,rfl,rfl⟩ hone) hk7 (by simp only [Act.put,sa1,sa2,sa3]; rfl) ?_
  have hka:=hk7.alloc (.cells #[.int .i64 k,.int .i64 (c + 1:Nat),t7] 102)
  have hkz:=hk70.alloc (.cells #[.int .i64 k,.int .i64 (c + 1:Nat),t7] 102)
  refine ChL.op (.pointer (some ⟨w7.heap.size,0,none⟩)) (by go_simp) hka (by simp only [Act.put,sa1,sa2,sa3]; rfl) ?_
  refine ChL.op (.pointer (some ⟨w7.heap.size,0,none⟩)) (by go_simp) hka (by simp only [Act.put,sa1,sa2,sa3]; rfl) ?_
  refine ChL.op (.int .i64 0) (by go_simp) hka (by simp only [Act.put,sa1,sa2,sa3]; rfl) (ChL.fin ?_)
  have hfin:MapAt S k (w7.alloc (.cells #[.int .i64 k,.int .i64 (c + 1:Nat),t7] 102)) (.pointer (some ⟨w7.heap.size,0,none⟩)) (insP (hsZ k) q v L) :=
   ⟨hk,(uh HSr).ins q v,xb7v (uh HSr) (uh HFt) hq hv,by omega,w7.heap.size,t7,rfl,hS _ hk70.size,by rw [hil]; exact heap_alloc_new _ _,ht7.agr (Agr.nil ((Kept.refl [] w7).alloc _))⟩
  go_wp2
  go_ret2
  exact ⟨_,rfl,hfin,hkz⟩
theorem xb7z (S:Nat→Prop) (k:Nat) (mv:Value) (L:Prs) (w:World) (hM:MapAt S k w mv L) :
  Calls Tryz.prog 37 #[mv] w fun e w'=>e = .returned (.int .i64 k)∧Kept [] w w':=by
 obtain ⟨hk,hs,hfit,hlen,g,tv,rfl,hSg,hh,htop⟩:=hM
 have c1:w.cell? ⟨g,0,none⟩ = some (.int .i64 k):=by rw [cell_of_row _ _ _ _ _ _ hh]; rfl
 clear hh htop hs hfit
 go_enter Tryz.func37,Tryz.ntmps37
 go_wp2
 go_ret
 exact ⟨rfl,Kept.refl _ _⟩
theorem xb3o (k:Int):Tryz.prog.built 102 [(0,.int .i64 k)] = some #[.int .i64 k,.int .i64 0,.nilIface]:=by kernel_rfl
theorem xc0p (S:Nat→Prop) (k:Nat) (w:World) (hk:1≤k∧k≤32) (hS:∀ y,w.heap.size≤y→S y) :
  Calls Tryz.prog 34 #[.int .i64 k] w fun e w'=>∃ m',e = .returned (.tuple #[m',.int .i64 0])∧MapAt S k w' m' []∧Kept [] w w':=by
 have h1:¬ (k:Int) < 1:=by omega
 have h2:¬ (32:Int) < k:=by omega
 have h3:¬ (k:Int) > 32:=by omega
 go_enter Tryz.func34,Tryz.ntmps34
 go_wp2_with (refine xa0p rfl 102 _ rfl #[.int .i64 k,.int .i64 0,.nilIface] (by simp only [List.map_toArray,List.map_cons,List.map_nil]; exact xb3o k) ?_)
 go_ret2
 exact ⟨_,rfl,⟨hk,List.Pairwise.nil,fun p hp=>by simp at hp,by simp,w.heap.size,.nilIface,rfl,hS _ (Nat.le_refl _),heap_alloc_new w _,Or.inl ⟨rfl,rfl⟩⟩,(Kept.refl [] w).alloc _⟩
theorem xc2j (z:Int) (w:World) (hz:widthB z = false) :
  Calls Tryz.prog 34 #[.int .i64 z] w fun e w'=>e = .returned (.tuple #[.pointer none,.int .i64 1])∧Kept [] w w':=by
 have h0:¬ (1≤z∧z≤32):=by simpa [widthB] using hz
 by_cases h1:z < 1
 ·go_enter Tryz.func34,Tryz.ntmps34
  go_wp2
  go_ret2
  exact ⟨rfl,Kept.refl _ _⟩
 ·have h2:z > 32:=by omega
  have h3:(32:Int) < z:=by omega
  clear h0
  go_enter Tryz.func34,Tryz.ntmps34
  go_wp2
  go_ret2
  exact ⟨rfl,Kept.refl _ _⟩
def rootP (k:Nat) (L:Prs):List Nat:=if L.isEmpty then cutL k (hash [5]) else nodP (hsZ k) 64 L
set_option maxHeartbeats 2000000 in
theorem xa6i (S:Nat→Prop) (k:Nat) (mv:Value) (L:Prs) (w:World) (hM:MapAt S k w mv L) (hT:Tabs w) :
  Calls Tryz.prog 20 #[mv] w fun e w'=>e = .returned (.agg (brow (rootP k L)))∧Kept [] w w':=by
 obtain ⟨hk,hs,hfit,hlen,g,tv,rfl,hSg,hh,htop⟩:=hM
 have c0:w.cell? ⟨g,0,none⟩ = some (.int .i64 k):=by rw [cell_of_row _ _ _ _ _ _ hh]; rfl
 have c2:w.cell? ⟨g,2,none⟩ = some tv:=by rw [cell_of_row _ _ _ _ _ _ hh]; rfl
 have HZ0:=hide (heap_alloc_new w (.cells (zb 32) 50))
 have HK0:=hide ((Kept.refl [] w).alloc (.cells (zb 32) 50))
 have c0a:∀ o,(w.alloc o).cell? ⟨g,0,none⟩ = some (.int .i64 k):=fun o=>((Kept.refl [] w).alloc o).cell c0 (by simp)
 have c2a:∀ o,(w.alloc o).cell? ⟨g,2,none⟩ = some tv:=fun o=>((Kept.refl [] w).alloc o).cell c2 (by simp)
 have HTb:=hide hT
 have he1:=en_bk
 have he2:=en_br
 have he3:=en_nil
 have hg1:=eg_bk
 have hg2:=eg_br
 rcases htop with ⟨rfl,rfl⟩ | ht
 ·obtain ⟨O,hO⟩:∃ O,cutL k (hash [5]) = O:=⟨_,rfl⟩
  have hOl:O.length = 32:=by rw [← hO]; exact xa0z k (hash [5]) (by omega) (xa1s [5])
  have hR:rootP k [] = O:=hO
  rw [hR]
  have HO:=hide hO
  clear hO hR hh hT c0 c2
  go_enter Tryz.func20,Tryz.ntmps20
  go_wp2_with fail
  rw [zb32]
  refine Calls.mono (xb6b k _ (by omega) (wide_k hk) ((uh HTb).k (uh HK0))) ?_
  rintro e w1 ⟨rfl,k1⟩
  rw [Int.toNat_natCast,uh HO]
  have HK1:=hide ((uh HK0).trans k1 (by simp))
  have HZ1:=hide (k1.heap (uh HZ0) (by simp))
  have hlt:=lt_of_block (uh HZ1)
  clear k1 c0a c2a
  have HN1:=hide (heap_alloc_new w1 (.cells (zb 32) 50))
  have HN2:=hide (setRow_heap _ _ _ (brow O) _ _ (uh HN1))
  have HK12:=hide ((Kept.refl [] w1).alloc (.cells (zb 32) 50) |>.setRow (g:=w1.heap.size) (Or.inr (Nat.le_refl _)) (brow O))
  have HZ2:=hide ((uh HK12).heap (uh HZ1) (by simp))
  have HK2:=hide ((uh HK1).trans (uh HK12) (by simp))
  go_wp2_with (first
   | (rw [zb32]; refine wpList_store_row rfl 50 (.tmp 3) (.tmp 21) rfl w1.heap.size (brow O) rfl rfl _ (zb 32) (uh HN1) (by rw [xa0a,hOl]; exact Tryz.size_dig) (by rw [xa0l,xa0a,hOl]) (xa0f _) ?_)
   | (refine wpList_load_row rfl 50 (.tmp 3) rfl w1.heap.size rfl 50 (brow O) (0,0) _ (uh HN2) Tryz.underlying50 rfl (by rw [xa0a,hOl]; exact Tryz.size_dig) ?_)
   | (refine wpList_store_row rfl 50 (.tmp 2) (.tmp 23) rfl w.heap.size (brow O) rfl rfl _ (zb 32) (uh HZ2) (by rw [xa0a,hOl]; exact Tryz.size_dig) (by rw [xa0l,xa0a,hOl]) (xa0f _) ?_))
  refine bodyPost_ret (v:=.agg (brow O)) ?_ rfl ⟨rfl,(uh HK2).setRow (Or.inr (Nat.le_refl _)) _⟩
  exact results_cell_row rfl _ _ w.heap.size _ (brow O) (0,0) _ rfl (setRow_heap _ _ _ _ _ _ (uh HZ2)) Tryz.underlying50 rfl (by rw [xa0a,hOl]; exact Tryz.size_dig)
 ·have hne:=ht.ne
  have hR:rootP k L = nodP (hsZ k) 64 L:=by
   unfold rootP
   cases L with
   | nil=>exact absurd rfl hne
   | cons y L=>rfl
  rw [hR]
  have hO2:=(nod_dg k 64 L).1
  have hown:=ht.own
  generalize nodP (hsZ k) 64 L = O at hown hO2
  clear hR hh hT c0 c2 ht hne
  rcases hown with ⟨g1,D,pv,hs1,rfl,hD,hh1⟩ | ⟨g1,x,kv,hs1,rfl,hh1⟩
  ·have HH:=hide (((Kept.refl [] w).alloc (.cells (zb 32) 50)).heap hh1 (by simp))
   clear hh1 hs1
   go_enter Tryz.func20,Tryz.ntmps20
   go_wp2_with fail
   rw [zb32]
   refine Calls.mono (xb1m g1 D O pv _ (uh HH) hD hO2) ?_
   rintro e w1 ⟨rfl,k1⟩
   have HK1:=hide ((uh HK0).trans k1 (by simp))
   have HZ1:=hide (k1.heap (uh HZ0) (by simp))
   clear k1 c0a c2a
   go_wp2_with (refine wpList_store_row rfl 50 (.tmp 2) (.tmp 28) rfl w.heap.size (brow O) rfl rfl _ (zb 32) (uh HZ1) (by rw [xa0a,hO2]; exact Tryz.size_dig) (by rw [xa0l,xa0a,hO2]) (xa0f _) ?_)
   refine bodyPost_ret (v:=.agg (brow O)) ?_ rfl ⟨rfl,(uh HK1).setRow (Or.inr (Nat.le_refl _)) _⟩
   exact results_cell_row rfl _ _ w.heap.size _ (brow O) (0,0) _ rfl (setRow_heap _ _ _ _ _ _ (uh HZ1)) Tryz.underlying50 rfl (by rw [xa0a,hO2]; exact Tryz.size_dig)
  ·have HH:=hide (((Kept.refl [] w).alloc (.cells (zb 32) 50)).heap hh1 (by simp))
   clear hh1 hs1
   go_enter Tryz.func20,Tryz.ntmps20
   go_wp2_with fail
   rw [zb32]
   refine Calls.mono (xb2f g1 x O kv _ (uh HH) hO2) ?_
   rintro e w1 ⟨rfl,k1⟩
   have HK1:=hide ((uh HK0).trans k1 (by simp))
   have HZ1:=hide (k1.heap (uh HZ0) (by simp))
   clear k1 c0a c2a
   go_wp2_with (refine wpList_store_row rfl 50 (.tmp 2) (.tmp 28) rfl w.heap.size (brow O) rfl rfl _ (zb 32) (uh HZ1) (by rw [xa0a,hO2]; exact Tryz.size_dig) (by rw [xa0l,xa0a,hO2]) (xa0f _) ?_)
   refine bodyPost_ret (v:=.agg (brow O)) ?_ rfl ⟨rfl,(uh HK1).setRow (Or.inr (Nat.le_refl _)) _⟩
   exact results_cell_row rfl _ _ w.heap.size _ (brow O) (0,0) _ rfl (setRow_heap _ _ _ _ _ _ (uh HZ1)) Tryz.underlying50 rfl (by rw [xa0a,hO2]; exact Tryz.size_dig)
end
section
open Go Go.RowKit Go.BigFrame
theorem ln_ly {P:Program} {Q:Exit→Act→World→Prop} {id:Nat} {o0 o1 o2 o3 o4 o5 o6 o7 o8 o9 o10:Oper} {a:Act} {w:World} (hm:P.follows .mixedOrders = true) (hb:linB #[o0,o1,o2,o3,o4,o5,o6,o7,o8,o9,o10] [0,1,2,4,5] [3,6,7,8,9,10] [] = true) (hg:([o0,o1,o2,o4,o5]++([o3,o6,o7,o8,o9,o10]++[])).all (fun o=>o.guard.isNone) = true) (S:World→Prop) (hS:S w.drew)
  (h:LinY P S (ChL P Q S (Q .normal) [o3,o6,o7,o8,o9,o10]) [o0,o1,o2,o4,o5] a w.drew):(Code.region id #[o0,o1,o2,o3,o4,o5,o6,o7,o8,o9,o10] true).wp P Q a w:=xa0u (R:=[0,1,2,4,5]) (C:=[3,6,7,8,9,10]) (rs:=[o0,o1,o2,o4,o5]) (cs:=[o3,o6,o7,o8,o9,o10]) hm hb rfl rfl hg hS h
end
section
open Go.RowKit Go.BigFrame
theorem ChL.app {Q:Exit→Act→World→Prop} {S:World→Prop} {F:Act→World→Prop} {cs:List Oper} {o:Oper} {a:Act} (T e:Nat) (s x:Operand)
  (ho:o.op = .call { callee:=.builtin .append,args:=#[s,x],argTypes:=#[T,T] }) (hty:o.type = T)
  (w:World) (base:Nat) (z:Value) (sz bytes:Nat) (hu:Tryz.prog.underlying T = some (.slice e)) (hinf:(Tryz.prog.info? e).map (fun i=>(i.zero,i.size,i.bytes)) = some (some z,sz,bytes)) (hzs:z.cells.size = sz) (hs0:0 < sz)
  (v:Value) (n:Nat) (xs:List Value) (h:w.ownsRow base e sz v n xs) (ao:Option Addr) (m c:Nat) (rows:List (List Value)) (hr:RdC sz w (.slice ao m c) rows) (hs:∀ r∈rows,r.length = sz) (hone:∀ r∈rows,∀ u∈r,u.oneCell' = true)
  (hl:(n + m) * bytes≤140737488355328) (hl2:n + m≤1000000000000) (hb:base≤w.heap.size) (he:a.eval s = v) (hx:a.eval x = .slice ao m c)
  (hK:∀ ao' cap' w1,Hid (w1.ownsRow base e sz (.slice ao' (n + m) cap') (n + m) (xs++rows.flatten))→Hid (w.grownBy w1 v.ownBlock)→Hid ((Value.slice ao' (n + m) cap').ownBlock = v.ownBlock∨(Value.slice ao' (n + m) cap').ownBlock = some w.heap.size) →
   S w1∧ChL Tryz.prog Q S F cs (a.put o.dst (.slice ao' (n + m) cap')) w1):ChL Tryz.prog Q S F (o :: cs) a w:=by
 obtain ⟨ao',cap',w1,hrun,h2,h3,h4⟩:=appendC w base T e z sz bytes hu hinf hzs hs0 v n xs h ao m c rows hr hs hone hl hl2 hb
 unfold ChL
 unfold Oper.wp execOp
 simp only [ho,hty,resolve,invoke,builtin,Sem.run_bind,Sem.run_pure,Result.andThen_ok,List.map_toArray,List.map_cons,List.map_nil,he,hx,hrun]
 exact hK ao' cap' w1 h2 h3 h4
theorem PR.shrink {S:Nat→Prop} {W:World} {l:List VP} {L:Prs} (h:PR S W l L):PR (lowS S W) W l L:=⟨h.1,fun i hi=>(h.2 i hi).shrink⟩
theorem PR.mono {S T:Nat→Prop} {W:World} {l:List VP} {L:Prs} (hs:∀ x,T x→S x) (h:PR T W l L):PR S W l L:=⟨h.1,fun i hi=>(h.2 i hi).mono hs⟩
def tB (B:Nat) (v:Value):Nat→Prop:=fun y=>B≤y∧v.ownBlock≠some y
structure LayAt (B:Nat) (w:World) (v:Value) (l:List VP) (L:Prs):Prop where
 own:w.ownsRow B 32 2 v l.length (kvR l).flatten
 pr:PR (tB B v) w l L
theorem LayAt.agr {B:Nat} {w w':World} {v:Value} {l:List VP} {L:Prs} (h:LayAt B w v l L) (k:Kept [] w w'):LayAt B w' v l L:=⟨k.owns h.own (by simp),h.pr.agr (Agr.nil k)⟩
theorem LayAt.nil (B:Nat) (w:World):LayAt B w (.slice none 0 0) [] []:=⟨World.ownsRow_nil _ _ _ _,PR.nil _ _⟩
theorem LayAt.snoc {B:Nat} {w w1:World} {v v':Value} {l:List VP} {L:Prs} {kz vz:Value} {a b:List Nat} (h:LayAt B w v l L) (hk:Rd w kz a) (hv:Rd w vz b) (hkb:∀ x∈blk kz,tB B v x) (hvb:∀ x∈blk vz,tB B v x)
  (ho:w1.ownsRow B 32 2 v' (l.length + 1) ((kvR l).flatten++(kvR [(kz,vz)]).flatten)) (hg:w.grownBy w1 v.ownBlock) (hb:v'.ownBlock = v.ownBlock∨v'.ownBlock = some w.heap.size):LayAt B w1 v' (l++[(kz,vz)]) (L++[(a,b)]):=by
 have hp:=(h.pr.app (PR.one (Sty.rd hk hkb) (Sty.rd hv hvb))).shrink
 have hK:=(Kept.refl v.ownBlock.toList w).grown hg (by intro x hx; left; simp [hx])
 have ha:Agr (lowS (tB B v) w) w w1:=⟨hK.size,fun x hx hl=>hK.block x hl (by
  intro hm
  have:v.ownBlock = some x:=by simpa using hm
  exact hx.1.2 this)⟩
 refine ⟨?_,(hp.agr ha).mono (fun x hx=>⟨hx.1.1,?_⟩)⟩
 ·rw [List.length_append,xb3s,List.flatten_append]; exact ho
 ·rcases hb with e | e
  ·rw [e]; exact hx.1.2
  ·rw [e]; intro e2; have h2:=hx.2; injection e2 with e3; omega
theorem xb5j {o:Oper} {a:Act} (w:World) {x y:Operand} {X1 Y1:Option Addr} {X2 X3 Y2 Y3:Nat} (ho:o.op = .build 32 #[(0,x),(1,y)]∧a.eval x = .slice X1 X2 X3∧a.eval y = .slice Y1 Y2 Y3):(execOp a.eval o).run Tryz.prog w = .ok (.value (.agg #[.slice X1 X2 X3,.slice Y1 Y2 Y3])) w:=by
 obtain ⟨h0,h1,h2⟩:=ho
 have hb:=run_build (P:=Tryz.prog) w 32 #[(0,.slice X1 X2 X3),(1,.slice Y1 Y2 Y3)] _ (xa7p undef undef)
 unfold execOp
 simp only [h0,List.map_toArray,List.map_cons,List.map_nil,h1,h2,Sem.run_bind,hb,Result.andThen_ok]
 rfl
set_option maxHeartbeats 4000000 in
theorem xa8o (S:Nat→Prop) (k g:Nat) (E L:Prs) (lv:Value) (l:List VP) (W0 w:World) (hb:BkAt S (hsZ k) W0 g E) (hk0:Kept [] W0 w) (hl:LayAt W0.heap.size w lv l L) (hn:L.length + E.length≤1000000000) :
  Calls Tryz.prog 48 #[.pointer (some ⟨g,0,none⟩),lv] w fun e w'=>∃ v' l',e = .returned v'∧LayAt W0.heap.size w' v' l' (L++E)∧Kept [] W0 w':=by
 obtain ⟨pv,hSg,hh,hne,hkr⟩:=hb
 have hkd:((hsZ k).kd (E.headD ([],[])).1).length = 32:=xa0e _ _
 have c1:=(bk_row hh hkd).2.1
 obtain ⟨b,off,cap,le,rfl,hc1,hc2,hSb,hle,hcells,hrds⟩:=hkr
 have HC1:=hide c1
 have c1a:=hk0.cell c1 (by simp)
 have HCE:=hide hcells
 have HRD:=hide (fun i (hi:i < le.length)=>(hrds i hi).now)
 obtain ⟨n,hnn⟩:∃ n,le.length = n:=⟨_,rfl⟩
 rw [hnn] at hle hc1 HC1 HCE HRD c1a
 have HLE:=hide hle
 have HKW:=hide hk0
 have HLY:=hide hl
 rw [← hle] at hn
 clear hcells hrds hh hkd c1 hl hk0 hnn hle hne
 go_enter Tryz.func48,Tryz.ntmps48
 go_wp2
 go_loopw [1,12] (fun t1 t12 wr=>∃ (i:Nat) (v:Value) (lx:List VP),t12 = .int .i64 i∧t1 = v∧i≤n∧Hid (LayAt W0.heap.size wr v lx (L++E.take i))∧Hid (Kept [] W0 wr)) (fun _ t _=>n - (intOf t).toNat)
 case atStart=>exact ⟨0,lv,l,rfl,rfl,Nat.zero_le _,hide (by rw [List.take_zero,List.append_nil]; exact uh HLY),HKW⟩
 case round =>
  clear HLY HKW c1a
  obtain ⟨i,v,lx,rfl,rfl,hi,HLx,HKr⟩:=hrel
  by_cases hlt:i < n
  ·have hlt':(i:Int) < n:=by omega
   obtain ⟨hx1,hx2⟩:=uh HCE i hlt
   obtain ⟨hr1,hr2⟩:=uh HRD i hlt
   generalize (le.getD i (undef,undef)).1 = kx at hx1 hr1
   generalize (le.getD i (undef,undef)).2 = vx at hx2 hr2
   have hEi:E.take (i + 1) = E.take i++[E.getD i ([],[])]:=by
    have hiE:i < E.length:=by have:=uh HLE; omega
    rw [List.take_succ_eq_append_getElem hiE,List.getD_eq_getElem?_getD,List.getElem?_eq_getElem hiE]; rfl
   have HEi:=hide hEi
   clear hEi
   generalize E.getD i ([],[]) = ei at hr1 hr2 HEi
   obtain ⟨ka,kb⟩:=ei
   obtain ⟨x1,x2,x3,rfl,_⟩:=id hr1
   obtain ⟨y1,y2,y3,rfl,_⟩:=id hr2
   have hlx:=(uh HLx).pr.1
   rw [List.length_append,List.length_take] at hlx
   have HLX:=hide hlx
   clear hlx
   obtain ⟨vo,vc,rfl⟩:=xa0h (uh HLx).own
   have hm1:=(uh HKr).cell hx1 (by simp)
   have hm2:=(uh HKr).cell hx2 (by simp)
   have HRG:=hide (show wr.rangeAt b (off + i * 2) [.slice x1 x2 x3,.slice y1 y2 y3] from fun j u hj=>by
    match j,hj with
    | 0,hj=>rw [Nat.add_zero,hm1]; exact hj
    | 1,hj=>rw [hm2]; exact hj)
   have HP2:=hide (heap_alloc_new wr (.cells #[.slice x1 x2 x3,.slice y1 y2 y3] 32))
   have HK2:=hide ((Kept.refl [] wr).alloc (.cells #[.slice x1 x2 x3,.slice y1 y2 y3] 32))
   have hws:(wr.alloc (.cells #[.slice x1 x2 x3,.slice y1 y2 y3] 32)).heap.size = wr.heap.size + 1:=by simp
   have hown:∀ y,(Value.slice vo lx.length vc).ownBlock = some y→W0.heap.size≤y∧y < wr.heap.size:=fun y hy=>(uh HLx).own.lt y hy
   have HR1:=hide hr1
   have HR2:=hide hr2
   clear hx1 hx2 hr1 hr2 hm1 hm2
   go_upto_region 4 with (refine wpList_load_mid rfl 32 (.tmp 14) rfl b (off + i * 2) rfl [.slice x1 x2 x3,.slice y1 y2 y3] _ (uh HRG) Tryz.underlying32 rfl Tryz.size_pair ?_)
   try simp only [Act.put]
   generalize wr.alloc (.cells #[.slice x1 x2 x3,.slice y1 y2 y3] 32) = W2 at HP2 HK2 hws ⊢
   have hcp:=xa0k [] [.slice x1 x2 x3,.slice y1 y2 y3] [] (uh HP2) rfl
   have HQ1:=hide (show W2.cell? ⟨wr.heap.size,0,none⟩ = some (.slice x1 x2 x3) from hcp 0 _ rfl)
   have HQ2:=hide (show W2.cell? ⟨wr.heap.size,1,none⟩ = some (.slice y1 y2 y3) from hcp 1 _ rfl)
   have hno:wr.heap.size∉(Value.slice vo lx.length vc).ownBlock.toList:=by
    intro hm
    have:=hown _ (by simpa using hm)
    omega
   obtain ⟨OB,hOB⟩:∃ OB,(Value.slice vo lx.length vc).ownBlock = OB:=⟨_,rfl⟩
   rw [hOB] at hno hown
   refine ln_ly (by kernel_rfl) (by kernel_rfl) rfl (fun W=>Kept OB.toList W2 W) (Kept.refl _ W2).drew ?_
   refine LinY.mv (x:=.tmp 1) rfl (.slice vo lx.length vc) rfl (by simp only [Act.put,sa1,sa2,sa3]; rfl) ?_
   refine LinY.rd (.pointer (some ⟨wr.heap.size,0,none⟩)) (fun W hW=>by go_simp) (by simp only [Act.put,sa1,sa2,sa3]; rfl) ?_
   refine LinY.rd (.slice x1 x2 x3) (fun W hW=>by have h9:=hW.cell (uh HQ1) hno; go_simp) (by simp only [Act.put,sa1,sa2,sa3]; rfl) ?_
   refine LinY.rd (.pointer (some ⟨wr.heap.size,1,none⟩)) (fun W hW=>by go_simp) (by simp only [Act.put,sa1,sa2,sa3]; rfl) ?_
   refine LinY.rd (.slice y1 y2 y3) (fun W hW=>by have h9:=hW.cell (uh HQ2) hno; go_simp) (by simp only [Act.put,sa1,sa2,sa3]; rfl) ?_
   have hd2:=(Kept.refl [] W2).drew
   have hk02:=(uh HKr).trans ((uh HK2).trans hd2 (by simp)) (by simp)
   have hsz:wr.heap.size < W2.drew.heap.size:=by have:=hd2.size; omega
   have HLd:=hide ((uh HLx).agr ((uh HK2).trans hd2 (by simp)))
   obtain ⟨W3,hW3⟩:∃ W3,W2.drew = W3:=⟨_,rfl⟩
   rw [hW3] at hd2 hk02 hsz HLd ⊢
   refine ChL.call rfl Tryz.call41 [.slice x1 x2 x3] rfl (xa1j _ ka W3 ((uh HR1).old hk02 (by simp))) ?_
   rintro e w4 ⟨⟨kz,rfl,hA,hAb⟩,k4⟩
   have hk4:=hd2.trans k4 (by simp)
   refine ⟨_,rfl,hk4.mono (by simp),?_⟩
   simp only [Act.put,sa1,sa2,sa3]
   refine ChL.call rfl Tryz.call41 [.slice y1 y2 y3] rfl (xa1j _ kb w4 ((uh HR2).old (hk02.trans k4 (by simp)) (by simp))) ?_
   rintro e w5 ⟨⟨vz,rfl,hB,hBb⟩,k5⟩
   have hk5:=hk4.trans k5 (by simp)
   refine ⟨_,rfl,hk5.mono (by simp),?_⟩
   simp only [Act.put,sa1,sa2,sa3]
   have hA5:=hA.old k5 (by simp)
   have hz4:=k4.size
   obtain ⟨p1,p2,p3,rfl,_⟩:=id hA5
   obtain ⟨q1,q2,q3,rfl,_⟩:=id hB
   refine ChL.op (.agg #[.slice p1 p2 p3,.slice q1 q2 q3]) (xb5j w5 ⟨rfl,rfl,rfl⟩) (hk5.mono (by simp)) (by simp only [Act.put,sa1,sa2,sa3]; rfl) ?_
   have hka:=(Kept.refl [] w5).alloc (.cells #[.slice p1 p2 p3,.slice q1 q2 q3] 32)
   have hk6:=hk5.trans hka (by simp)
   refine ChL.op (.slice (some ⟨w5.heap.size,0,none⟩) 1 1) (xa7x w5 (.tmp 23) rfl _ _ rfl) (hk6.mono (by simp)) (by simp only [Act.put,sa1,sa2,sa3]; rfl) ?_
   have hrl:RdC 2 (w5.alloc (.cells #[.slice p1 p2 p3,.slice q1 q2 q3] 32)) (.slice (some ⟨w5.heap.size,0,none⟩) 1 1) (kvR [(.slice p1 p2 p3,.slice q1 q2 q3)]):=⟨_,1,1,rfl,rfl,Nat.le_refl _,by omega,fun _=>⟨w5.heap.size,0,rfl,fun j hj=>by
    have h0:j = 0:=by rw [xa0v] at hj; simp at hj; omega
    subst h0
    exact xa0k [] [.slice p1 p2 p3,.slice q1 q2 q3] [] (heap_alloc_new w5 _) rfl⟩⟩
   have hly:=((uh HLd).agr ((k4.trans k5 (by simp)).trans hka (by simp)))
   have hk06:=hk02.trans ((k4.trans k5 (by simp)).trans hka (by simp)) (by simp)
   refine ChL.app 22 32 (.tmp 16) (.tmp 24) rfl rfl _ W0.heap.size (.agg #[.slice none 0 0,.slice none 0 0]) 2 48 Tryz.underlying22 Tryz.infoQ rfl (by decide) (.slice vo lx.length vc) lx.length (kvR lx).flatten hly.own (some ⟨w5.heap.size,0,none⟩) 1 1 (kvR [(.slice p1 p2 p3,.slice q1 q2 q3)]) hrl (by intro r hr; simp [kvR] at hr; rw [hr]; rfl) (by intro r hr u hu; simp [kvR] at hr; rw [hr] at hu; simp at hu; rcases hu with rfl | rfl <;> rfl) (by have:=uh HLX; omega) (by have:=uh HLX; omega) hk06.size rfl rfl ?_
   intro ao7 c7 w7 HO7 HG7 HA7
   have hg7:=uh HG7
   rw [hOB] at hg7
   have hk7:=(Kept.refl OB.toList _).grown hg7 (by intro x hx; left; simp [hx])
   have hk27:=(hk6.mono (M:=OB.toList) (by simp)).trans hk7 (fun x hx=>Or.inl hx)
   refine ⟨hk27,?_⟩
   simp only [Act.put,sa1,sa2,sa3]
   refine ChL.op (.slice ao7 (lx.length + 1) c7) (by go_simp) hk27 (by simp only [Act.put,sa1,sa2,sa3]; rfl) (ChL.fin ?_)
   have hsn:=hly.snoc (hA5.old hka (by simp)) (hB.old hka (by simp)) (fun x hx=>⟨by have:=hAb x hx; have:=hk02.size; omega,fun e=>by rw [hOB] at e; have:=(hown x e).2; have:=hAb x hx; omega⟩) (fun x hx=>⟨by have:=hBb x hx; have:=hk02.size; omega,fun e=>by rw [hOB] at e; have:=(hown x e).2; have:=hBb x hx; omega⟩) (uh HO7) (uh HG7) (uh HA7)
   have hk07:=hk06.grown (uh HG7) (fun x hx=>Or.inr (by rw [hOB] at hx; exact (hown x hx).1))
   have HSN:=hide hsn
   have HK7:=hide hk07
   clear hsn hk07 hk27 hk7 hk6 hk06 hly hrl hA hB hA5 k4 k5 hka
   go_wp2
   refine ⟨⟨i + 1,.slice ao7 (lx.length + 1) c7,_,by go_num,rfl,hlt,hide (by rw [uh HEi,← List.append_assoc]; exact uh HSN),HK7⟩,?_⟩
   simp [intOf]; omega
  ·have hie:i = n:=by omega
   subst hie
   have hlt':¬ (i:Int) < i:=by omega
   go_wp2
   go_ret
   have h9:=uh HLx
   rw [List.take_of_length_le (by have:=uh HLE; omega)] at h9
   first | exact ⟨_,rfl,⟨lx,h9⟩,uh HKr⟩ | exact ⟨_,lx,rfl,h9,uh HKr⟩
theorem xb7h (a : Addr) (w : World) : (method 326 86 (.pointer (some a)) "notary/hamt.lay").run Tryz.prog w = .ok (48, .pointer (some a)) w := by kernel_rfl
theorem xb7j (a : Addr) (w : World) : (method 326 104 (.pointer (some a)) "notary/hamt.lay").run Tryz.prog w = .ok (168, .pointer (some a)) w := by kernel_rfl
theorem xb6v {H:Hs} {d i:Nat} {L:Prs} (h:Pre H d L):Pre H (d + 1) (ch H d i L):=fun x hx y hy j hj=>by
 obtain ⟨a1,a2⟩:=(ch_mem x).1 hx
 obtain ⟨b1,b2⟩:=(ch_mem y).1 hy
 rcases Nat.lt_or_ge j d with g | g
 ·exact h x a1 y b1 j g
 ·rw [show j = d by omega,a2,b2]
theorem TreeAt.form {S:Nat→Prop} {H:Hs} {W:World} {f:Nat} {v:Value} {L:Prs} (h:TreeAt S H W f v L):(∃ g,v = bkV g∧BkAt S H W g L)∨(∃ g,v = brV g∧sgl H L = false):=by
 cases hs:sgl H L with
 | true=>exact Or.inl (h.bk hs)
 | false =>
  cases f with
  | zero=>rw [h.1] at hs; cases hs
  | succ f =>
   obtain ⟨g,_,_,e,_⟩:=h.2 hs
   exact Or.inr ⟨g,e,rfl⟩
set_option maxHeartbeats 4000000 in
theorem xb7y (S:Nat→Prop) (k:Nat) (hk:1≤k∧k≤32):∀ (f:Nat),f≤64→∀ (g:Nat) (M L:Prs) (lv:Value) (l:List VP) (W0 w:World),TreeAt S (hsZ k) W0 f (brV g) M→sgl (hsZ k) M = false→Srt (hsZ k) M→Pre (hsZ k) (64 - f) M→Kept [] W0 w→LayAt W0.heap.size w lv l L→L.length + M.length≤1000000000 →
  Calls Tryz.prog 168 #[.pointer (some ⟨g,0,none⟩),lv] w fun e w'=>∃ v' l',e = .returned v'∧LayAt W0.heap.size w' v' l' (L++M)∧Kept [] W0 w':=by
 intro f
 induction f with
 | zero=>intro _ g M L lv l W0 w ht hs; rw [ht.1] at hs; cases hs
 | succ f ih =>
  intro hf g M L lv l W0 w ht hs hsr hpre hk0 hl hn
  have hH:=hsZ_ok hk
  have IH:=hide (ih (by omega))
  clear ih
  obtain ⟨g',kv,vs,e,hSg,hh,hrow,hlen,hkd⟩:=ht.2 hs
  have eg:g' = g:=by injection e with _ e2; injection e2 with e3; injection e3 with e4; injection e4 with e5; exact e5.symm
  subst eg
  obtain ⟨_,b1,_⟩:=br_row hh
  have hfl:(kidsL (hsZ k) (63 - f) M).flatten = M:=xc2a hH (by omega) hsr (by rw [show 63 - f = 64 - (f + 1) by omega]; exact hpre)
  have hKs:∀ K∈kidsL (hsZ k) (63 - f) M,Srt (hsZ k) K∧Pre (hsZ k) (64 - f) K:=fun K hK=>by
   obtain ⟨j,_,rfl⟩:=List.mem_map.1 hK
   refine ⟨hsr.ch _ _,?_⟩
   have h9:Pre (hsZ k) (63 - f) M:=by rw [show 63 - f = 64 - (f + 1) by omega]; exact hpre
   have h8:=xb6v (i:=j) h9
   rw [show 63 - f + 1 = 64 - f by omega] at h8
   exact h8
  generalize kidsL (hsZ k) (63 - f) M = Ks at hlen hkd hfl hKs
  have HFl:=hide hfl
  have HKs:=hide hKs
  have HKd:=hide hkd
  have HLen:=hide hlen
  obtain ⟨b,off,cap,rfl,hc1,hc2,hSb,hcells⟩:=hrow
  obtain ⟨n,hnn⟩:∃ n,vs.length = n:=⟨_,rfl⟩
  rw [hnn] at hc1 hcells b1 HKd HLen
  have c1a:=hk0.cell b1 (by simp)
  have HCE:=hide hcells
  have HKW:=hide hk0
  have HLY:=hide hl
  have HN:=hide hn
  have hm1:=xb7h
  have hm2:=xb7j
  clear hfl hKs hkd hlen hcells hk0 hl hnn hh b1 ht hs hsr hpre e hn
  go_enter Tryz.func168,Tryz.ntmps168
  go_wp2
  go_loopw [1,12] (fun t1 t12 wr=>∃ (i:Nat) (v:Value) (lx:List VP),t12 = .int .i64 i∧t1 = v∧i≤n∧Hid (LayAt W0.heap.size wr v lx (L++(Ks.take i).flatten))∧Hid (Kept [] W0 wr)) (fun _ t _=>n - (intOf t).toNat)
  case atStart=>exact ⟨0,lv,l,rfl,rfl,Nat.zero_le _,hide (by rw [List.take_zero,List.flatten_nil,List.append_nil]; exact uh HLY),HKW⟩
  case round =>
   clear HLY HKW c1a
   obtain ⟨i,v,lx,rfl,rfl,hi,HLx,HKr⟩:=hrel
   by_cases hlt:i < n
   ·have hlt':(i:Int) < n:=by omega
    have hx1:=(uh HKr).cell (uh HCE i hlt) (by simp)
    have hti:=uh HKd i hlt
    have hiK:i < Ks.length:=by have:=uh HLen; omega
    have hmem:Ks.getD i []∈Ks:=by rw [List.getD_eq_getElem?_getD,List.getElem?_eq_getElem hiK]; exact List.getElem_mem hiK
    obtain ⟨hks1,hks2⟩:=uh HKs _ hmem
    have hEi:(Ks.take (i + 1)).flatten = (Ks.take i).flatten++Ks.getD i []:=by
     rw [List.take_succ_eq_append_getElem hiK,List.flatten_append,List.getD_eq_getElem?_getD,List.getElem?_eq_getElem hiK]; simp
    have hle:(L++(Ks.take i).flatten).length + (Ks.getD i []).length≤1000000000:=by
     have h1:=congrArg List.length (uh HFl)
     have h2:Ks.flatten = (Ks.take (i + 1)).flatten++(Ks.drop (i + 1)).flatten:=by rw [← List.flatten_append,List.take_append_drop]
     rw [h2,hEi,List.length_append,List.length_append] at h1
     have:=uh HN
     rw [List.length_append]; omega
    have HEi:=hide hEi
    have HLe:=hide hle
    clear hEi hle hmem
    generalize Ks.getD i [] = K at hti hks1 hks2 HEi HLe
    generalize vs.getD i undef = tv at hx1 hti
    rcases hti.form with ⟨gb,rfl,hb⟩ | ⟨gb,rfl,hsg⟩
    ·go_wp2_with fail
     refine Calls.mono (xa8o S k gb K (L++(Ks.take i).flatten) _ lx W0 wr hb (uh HKr) (uh HLx) (uh HLe)) ?_
     rintro e w2 ⟨v2,l2,rfl,hl2,k2⟩
     have HL2:=hide hl2
     have HK2:=hide k2
     clear hl2 k2
     go_wp2_with fail
     refine ⟨⟨i + 1,v2,l2,by go_num,rfl,hlt,hide (by rw [uh HEi,← List.append_assoc]; exact uh HL2),HK2⟩,?_⟩
     simp [intOf]; omega
    ·go_wp2_with fail
     refine Calls.mono (uh IH gb K (L++(Ks.take i).flatten) _ lx W0 wr hti hsg hks1 hks2 (uh HKr) (uh HLx) (uh HLe)) ?_
     rintro e w2 ⟨v2,l2,rfl,hl2,k2⟩
     have HL2:=hide hl2
     have HK2:=hide k2
     clear hl2 k2
     go_wp2_with fail
     refine ⟨⟨i + 1,v2,l2,by go_num,rfl,hlt,hide (by rw [uh HEi,← List.append_assoc]; exact uh HL2),HK2⟩,?_⟩
     simp [intOf]; omega
   ·have hie:i = n:=by omega
    subst hie
    have hlt':¬ (i:Int) < i:=by omega
    go_wp2
    go_ret
    have h9:=uh HLx
    rw [List.take_of_length_le (by have:=uh HLen; omega),uh HFl] at h9
    first | exact ⟨_,rfl,⟨lx,h9⟩,uh HKr⟩ | exact ⟨_,lx,rfl,h9,uh HKr⟩
set_option maxHeartbeats 2000000 in
theorem xb4m (S:Nat→Prop) (k:Nat) (mv:Value) (L:Prs) (w:World) (hM:MapAt S k w mv L) :
  Calls Tryz.prog 31 #[mv] w fun e w'=>∃ v' l',e = .returned v'∧LayAt w.heap.size w' v' l' L∧Kept [] w w':=by
 obtain ⟨hk,hs,hfit,hlen,g,tv,rfl,hSg,hh,htop⟩:=hM
 have c2:w.cell? ⟨g,2,none⟩ = some tv:=by rw [cell_of_row _ _ _ _ _ _ hh]; rfl
 have he1:=en_bk
 have he2:=en_br
 have he3:=en_nil
 have hg1:=eg_bk
 have hg2:=eg_br
 have hm1:=xb7h
 have hm2:=xb7j
 rcases htop with ⟨rfl,rfl⟩ | ht
 ·clear hh
  go_enter Tryz.func31,Tryz.ntmps31
  go_wp2_with fail
  go_ret
  first | exact ⟨_,rfl,⟨[],LayAt.nil _ _⟩,Kept.refl _ _⟩ | exact ⟨_,[],rfl,LayAt.nil _ _,Kept.refl _ _⟩
 ·have hf:=ht.form
  have HT:=hide ht
  have HS:=hide hs
  clear hh ht hs hfit
  rcases hf with ⟨gb,rfl,hb⟩ | ⟨gb,rfl,hsg⟩
  ·go_enter Tryz.func31,Tryz.ntmps31
   go_wp2_with fail
   refine Calls.mono (xa8o S k gb L [] _ [] w w hb (Kept.refl _ _) (LayAt.nil _ _) (by simpa using hlen)) ?_
   rintro e w2 ⟨v2,l2,rfl,hl2,k2⟩
   have HL2:=hide hl2
   have HK2:=hide k2
   clear hl2 k2
   go_wp2_with fail
   go_ret
   first | exact ⟨_,rfl,⟨l2,uh HL2⟩,uh HK2⟩ | exact ⟨_,l2,rfl,uh HL2,uh HK2⟩
  ·go_enter Tryz.func31,Tryz.ntmps31
   go_wp2_with fail
   refine Calls.mono (xb7y S k hk 64 (Nat.le_refl _) gb L [] _ [] w w (uh HT) hsg (uh HS) (fun x _ y _ j hj=>by omega) (Kept.refl _ _) (LayAt.nil _ _) (by simpa using hlen)) ?_
   rintro e w2 ⟨v2,l2,rfl,hl2,k2⟩
   have HL2:=hide hl2
   have HK2:=hide k2
   clear hl2 k2
   go_wp2_with fail
   go_ret
   first | exact ⟨_,rfl,⟨l2,uh HL2⟩,uh HK2⟩ | exact ⟨_,l2,rfl,uh HL2,uh HK2⟩
theorem xb7o {H:Hs} {q:List Nat}:∀ {L:Prs},Srt H L→fnd q L = true→(delP q L).length + 1 = L.length
 | [],_,h=>by simp [fnd,getP] at h
 | y :: L,hs,h=>by
  by_cases e:y.1 = q
  ·have h1:delP q (y :: L) = delP q L:=by unfold delP; rw [List.filter_cons]; simp [e]
   rw [h1,xa9c (fun z hz e2=>by have:=hs.head z hz; rw [e,e2,xa1x] at this; omega)]; rfl
  ·have h3:fnd q (y :: L) = fnd q L:=by unfold fnd; rw [xa4n,if_neg e]
   rw [h3] at h
   have h1:delP q (y :: L) = y :: delP q L:=by unfold delP; rw [List.filter_cons]; simp [e]
   rw [h1,List.length_cons,xb7o hs.tail h]; rfl
theorem del_no {q:List Nat} {L:Prs} (h:fnd q L = false):delP q L = L:=by
 refine xa9c (fun y hy e=>?_)
 unfold fnd at h
 have h1:getP q L = none:=by cases hg:getP q L with
  | none=>rfl
  | some v=>rw [hg] at h; simp at h
 exact xa2a.1 h1 y hy e
set_option maxHeartbeats 4000000 in
theorem xb3k (S:Nat→Prop) (k:Nat) (mv kv:Value) (L:Prs) (q:List Nat) (w:World) (hM:MapAt S k w mv L) (hku:Rd w kv q) (hq:q.length≤64) (hS:∀ y,w.heap.size≤y→S y) (hT:Tabs w) :
  Calls Tryz.prog 32 #[mv,kv] w fun e w'=>∃ m',e = .returned (.tuple #[m',.bool (fnd q L),.int .i64 0])∧MapAt S k w' m' (delP q L)∧Kept [] w w':=by
 have HM:=hide hM
 obtain ⟨hk,hs,hfit,hlen,g,tv,rfl,hSg,hh,htop⟩:=hM
 have hH:=hsZ_ok hk
 have c0:w.cell? ⟨g,0,none⟩ = some (.int .i64 k):=by rw [cell_of_row _ _ _ _ _ _ hh]; rfl
 have c1:w.cell? ⟨g,1,none⟩ = some (.int .i64 (L.length:Nat)):=by rw [cell_of_row _ _ _ _ _ _ hh]; rfl
 have c2:w.cell? ⟨g,2,none⟩ = some tv:=by rw [cell_of_row _ _ _ _ _ _ hh]; rfl
 have hdl:=xb7o (q:=q) hs
 have hdn:=del_no (q:=q) (L:=L)
 have hle:(delP q L).length≤L.length:=List.length_filter_le _ _
 have hlen':=hlen
 obtain ⟨z,hz⟩:∃ z:Int,((L.length:Nat):Int) = z:=⟨_,rfl⟩
 rw [hz] at c1
 have HC0:=hide c0
 have HC1:=hide c1
 have HC2:=hide c2
 have HKU:=hide hku
 have HTb:=hide hT
 have HSr:=hide hs
 have HFt:=hide hfit
 have HTop:=hide htop
 clear hh htop hT hs c0 c1 c2 hku hfit hSg
 go_enter Tryz.func32,Tryz.ntmps32
 go_wp2_with fail
 refine Calls.mono (xa2p S k _ kv L q w (uh HM) (uh HKU) hq (uh HTb)) ?_
 rintro e w1 ⟨m,cr,en,pl,fd,rfl,hway,k1⟩
 have hfd:=hway.fd
 rw [← hfd] at hdl hdn
 have HFd:=hide hfd
 have hon:=hway.cells
 have HWay:=hide hway
 have hDl:((hsZ k).kd q).length = 32:=(hH.dg q).1
 obtain ⟨D,hD⟩:∃ D,(hsZ k).kd q = D:=⟨_,rfl⟩
 have HD:=hide hD
 rw [hD] at hDl ⊢
 clear hD hfd hway
 have hws:((wayC k D cr en pl fd).toArray).size = 37:=by rw [List.size_toArray,xa0w hDl]
 have HZ1:=hide (heap_alloc_new w1 (.cells zwy 88))
 have HN2:=hide (setRow_heap _ _ _ (wayC k D cr en pl fd).toArray _ _ (uh HZ1))
 have HK12:=hide ((Kept.refl [] w1).alloc (.cells zwy 88) |>.setRow (g:=w1.heap.size) (Or.inr (Nat.le_refl _)) (wayC k D cr en pl fd).toArray)
 have HK2:=hide (k1.trans (uh HK12) (by simp))
 have hw1:=k1.size
 clear k1
 obtain ⟨W2,hW2⟩:∃ W2,(w1.alloc (.cells zwy 88)).setRow w1.heap.size (wayC k D cr en pl fd).toArray = W2:=⟨_,rfl⟩
 rw [hW2] at HN2 HK12 HK2
 have c5a:=(xa0s (uh HN2) hDl).2.2.2.2.2
 have HV0:=hide ((uh HK2).cell (uh HC0) (by simp))
 have HV1:=hide ((uh HK2).cell (uh HC1) (by simp))
 have HV2:=hide ((uh HK2).cell (uh HC2) (by simp))
 cases fd with
 | false =>
  have hdn':=hdn rfl
  go_upto_region 5 with (rw [xa2t]; refine wpList_store_row rfl 88 (.tmp 7) (.tmp 13) rfl w1.heap.size (wayC k D cr en pl false).toArray rfl rfl _ zwy (uh HZ1) (by rw [hws]; exact Tryz.size_way) (by rw [hws]; rfl) (xa1k _ _ hon.1 hon.2) ?_; rw [hW2]; simp only [Act.put])
  refine ln_dn (by kernel_rfl) (by kernel_rfl) rfl (fun W=>Kept [] W2 W) (Kept.refl _ W2).drew ?_
  refine LinY.mv (x:=.tmp 0) rfl (.pointer (some ⟨g,0,none⟩)) rfl (by simp only [Act.put,sa1,sa2,sa3]; rfl) ?_
  refine LinY.rd (.pointer (some ⟨g,0,none⟩)) (fun W hW=>by go_simp) (by simp only [Act.put,sa1,sa2,sa3]; rfl) ?_
  refine LinY.rd (.pointer (some ⟨g,0,none⟩)) (fun W hW=>by go_simp) (by simp only [Act.put,sa1,sa2,sa3]; rfl) ?_
  refine LinY.rd (.int .i64 k) (fun W hW=>by have h9:=hW.cell (uh HV0) (by simp); go_simp) (by simp only [Act.put,sa1,sa2,sa3]; rfl) ?_
  refine LinY.mv (x:=.tmp 0) rfl (.pointer (some ⟨g,0,none⟩)) rfl (by simp only [Act.put,sa1,sa2,sa3]; rfl) ?_
  refine LinY.rd (.pointer (some ⟨g,0,none⟩)) (fun W hW=>by go_simp) (by simp only [Act.put,sa1,sa2,sa3]; rfl) ?_
  refine LinY.rd (.pointer (some ⟨g,1,none⟩)) (fun W hW=>by go_simp) (by simp only [Act.put,sa1,sa2,sa3]; rfl) ?_
  refine LinY.rd (.int .i64 z) (fun W hW=>by have h9:=hW.cell (uh HV1) (by simp); go_simp) (by simp only [Act.put,sa1,sa2,sa3]; rfl) ?_
  refine LinY.mv (x:=.tmp 0) rfl (.pointer (some ⟨g,0,none⟩)) rfl (by simp only [Act.put,sa1,sa2,sa3]; rfl) ?_
  refine LinY.rd (.pointer (some ⟨g,0,none⟩)) (fun W hW=>by go_simp) (by simp only [Act.put,sa1,sa2,sa3]; rfl) ?_
  refine LinY.rd (.pointer (some ⟨g,2,none⟩)) (fun W hW=>by go_simp) (by simp only [Act.put,sa1,sa2,sa3]; rfl) ?_
  refine LinY.rd (tv) (fun W hW=>by have h9:=hW.cell (uh HV2) (by simp); go_simp) (by simp only [Act.put,sa1,sa2,sa3]; rfl) ?_
  have hd2:=(Kept.refl [] W2).drew
  have htw:TopAt S (hsZ k) W2.drew tv L:=(uh HTop).agr (Agr.nil ((uh HK2).trans hd2 (by simp)))
  have hone:tv.cells = #[tv]:=xa3x (S:=S) (f:=64) htw
  obtain ⟨W3,hW3⟩:∃ W3,W2.drew = W3:=⟨_,rfl⟩
  rw [hW3] at hd2 htw ⊢
  refine ChL.op (.agg #[.int .i64 k,.int .i64 z,tv]) (xa6g W3 ⟨rfl,rfl,rfl,rfl⟩ hone) hd2 (by simp only [Act.put,sa1,sa2,sa3]; rfl) ?_
  have hka:=hd2.alloc (.cells #[.int .i64 k,.int .i64 z,tv] 102)
  have hkz:=((uh HK2).trans hd2 (by simp)).alloc (.cells #[.int .i64 k,.int .i64 z,tv] 102)
  refine ChL.op (.pointer (some ⟨W3.heap.size,0,none⟩)) (by go_simp) hka (by simp only [Act.put,sa1,sa2,sa3]; rfl) ?_
  refine ChL.op (.pointer (some ⟨W3.heap.size,0,none⟩)) (by go_simp) hka (by simp only [Act.put,sa1,sa2,sa3]; rfl) ?_
  refine ChL.op (.bool false) (by go_simp) hka (by simp only [Act.put,sa1,sa2,sa3]; rfl) ?_
  refine ChL.op (.int .i64 0) (by go_simp) hka (by simp only [Act.put,sa1,sa2,sa3]; rfl) (ChL.fin ?_)
  have hfin:MapAt S k (W3.alloc (.cells #[.int .i64 k,.int .i64 z,tv] 102)) (.pointer (some ⟨W3.heap.size,0,none⟩)) (delP q L):=by
   rw [hdn']
   exact ⟨hk,uh HSr,uh HFt,hlen',W3.heap.size,tv,rfl,hS _ ((uh HK2).trans hd2 (by simp)).size,by rw [hz]; exact heap_alloc_new _ _,htw.agr (Agr.nil ((Kept.refl [] W3).alloc _))⟩
  go_wp2
  go_ret3
  exact ⟨.pointer (some ⟨W3.heap.size,0,none⟩),by rw [← uh HFd]; rfl,hfin,hkz⟩
 | true =>
  have hdl':=hdl rfl
  obtain ⟨y,hy⟩:∃ y:Int,(((delP q L).length:Nat):Int) = y:=⟨_,rfl⟩
  have hwr:IntKind.i64.wrap (z - 1) = y:=by rw [← hz,← hy]; simp [IntKind.wrap,IntKind.signed,IntKind.bits]; omega
  go_upto_region 6 with (rw [xa2t]; refine wpList_store_row rfl 88 (.tmp 7) (.tmp 13) rfl w1.heap.size (wayC k D cr en pl true).toArray rfl rfl _ zwy (uh HZ1) (by rw [hws]; exact Tryz.size_way) (by rw [hws]; rfl) (xa1k _ _ hon.1 hon.2) ?_; rw [hW2]; simp only [Act.put])
  refine ln_dl (by kernel_rfl) (by kernel_rfl) rfl (fun W=>Kept [] W2 W) (Kept.refl _ W2).drew ?_
  refine LinY.mv (x:=.tmp 0) rfl (.pointer (some ⟨g,0,none⟩)) rfl (by simp only [Act.put,sa1,sa2,sa3]; rfl) ?_
  refine LinY.rd (.pointer (some ⟨g,0,none⟩)) (fun W hW=>by go_simp) (by simp only [Act.put,sa1,sa2,sa3]; rfl) ?_
  refine LinY.rd (.pointer (some ⟨g,0,none⟩)) (fun W hW=>by go_simp) (by simp only [Act.put,sa1,sa2,sa3]; rfl) ?_
  refine LinY.rd (.int .i64 k) (fun W hW=>by have h9:=hW.cell (uh HV0) (by simp); go_simp) (by simp only [Act.put,sa1,sa2,sa3]; rfl) ?_
  refine LinY.mv (x:=.tmp 0) rfl (.pointer (some ⟨g,0,none⟩)) rfl (by simp only [Act.put,sa1,sa2,sa3]; rfl) ?_
  refine LinY.rd (.pointer (some ⟨g,0,none⟩)) (fun W hW=>by go_simp) (by simp only [Act.put,sa1,sa2,sa3]; rfl) ?_
  refine LinY.rd (.pointer (some ⟨g,1,none⟩)) (fun W hW=>by go_simp) (by simp only [Act.put,sa1,sa2,sa3]; rfl) ?_
  refine LinY.rd (.int .i64 z) (fun W hW=>by have h9:=hW.cell (uh HV1) (by simp); go_simp) (by simp only [Act.put,sa1,sa2,sa3]; rfl) ?_
  refine LinY.rd (.int .i64 y) (fun W hW=>by go_simp) (by simp only [Act.put,sa1,sa2,sa3]; rfl) ?_
  refine LinY.ld 88 (.tmp 7) rfl w1.heap.size 0 rfl (wayC k D cr en pl true) _ (fun W hW=>hW.rng (xa5a (uh HN2)) (by simp)) Tryz.underlying88 rfl (by rw [xa0w hDl]; exact Tryz.size_way) (by simp only [Act.put,sa1,sa2,sa3]; rfl) ?_
  refine LinY.ld 88 (.tmp 7) rfl w1.heap.size 0 rfl (wayC k D cr en pl true) _ (fun W hW=>hW.rng (xa5a (uh HN2)) (by simp)) Tryz.underlying88 rfl (by rw [xa0w hDl]; exact Tryz.size_way) (by simp only [Act.put,sa1,sa2,sa3]; rfl) ?_
  have hd5:=(Kept.refl [] W2).drew
  have hk50:=(uh HK2).trans hd5 (by simp)
  have hw5:=(uh HWay).old ((uh HK12).trans hd5 (by simp))
  have hew:=xa6l S k m q L cr en pl W2.drew hk (fun y hy=>hS y (Nat.le_trans hk50.size hy)) hw5 (uh HSr) (uh HFt) hlen' ((uh HTb).k hk50)
  rw [uh HD] at hew
  refine ChL.call rfl Tryz.call58 [.agg (wayC k D cr en pl true).toArray] rfl hew ?_
  rintro e w6 ⟨t6,rfl,ht6,k6⟩
  have hk6:=hd5.trans k6 (by simp)
  refine ⟨_,rfl,hk6,?_⟩
  simp only [Act.put,sa1,sa2,sa3]
  have hk60:=(uh HK2).trans hk6 (by simp)
  obtain ⟨gs,_,_,htr⟩:=hw5.cr
  have hli:=xa8j S k m q L (fun i=>delP q (dnL (hsZ k) q L i)) cr en pl true t6 w6 hk (fun y hy=>hS y (Nat.le_trans hk60.size hy)) (hw5.old k6) (fun i hi=>⟨ch_del _ _ _ _ _,xc0d,del_ne (htr i hi).2⟩) ht6 ((uh HTb).k hk60)
  rw [uh HD] at hli
  refine ChL.call rfl Tryz.call56 [.agg (wayC k D cr en pl true).toArray,t6] rfl hli ?_
  rintro e w7 ⟨t7,rfl,ht7,k7⟩
  have hk7:=hk6.trans k7 (by simp)
  refine ⟨_,rfl,hk7,?_⟩
  simp only [Act.put,sa1,sa2,sa3]
  have hk70:=hk60.trans k7 (by simp)
  have hone:t7.cells = #[t7]:=xa3x ht7
  refine ChL.op (.agg #[.int .i64 k,.int .i64 y,t7]) (xa6g w7 ⟨rfl,rfl,rfl,rfl⟩ hone) hk7 (by simp only [Act.put,sa1,sa2,sa3]; rfl) ?_
  have hka:=hk7.alloc (.cells #[.int .i64 k,.int .i64 y,t7] 102)
  have hkz:=hk70.alloc (.cells #[.int .i64 k,.int .i64 y,t7] 102)
  refine ChL.op (.pointer (some ⟨w7.heap.size,0,none⟩)) (by go_simp) hka (by simp only [Act.put,sa1,sa2,sa3]; rfl) ?_
  refine ChL.op (.pointer (some ⟨w7.heap.size,0,none⟩)) (by go_simp) hka (by simp only [Act.put,sa1,sa2,sa3]; rfl) ?_
  refine ChL.op (.bool true) (by go_simp) hka (by simp only [Act.put,sa1,sa2,sa3]; rfl) ?_
  refine ChL.op (.int .i64 0) (by go_simp) hka (by simp only [Act.put,sa1,sa2,sa3]; rfl) (ChL.fin ?_)
  have hfin:MapAt S k (w7.alloc (.cells #[.int .i64 k,.int .i64 y,t7] 102)) (.pointer (some ⟨w7.heap.size,0,none⟩)) (delP q L) :=
   ⟨hk,(uh HSr).del q,(uh HFt).sub (fun x hx=>((xa5h x).1 hx).1),by omega,w7.heap.size,t7,rfl,hS _ hk70.size,by rw [hy]; exact heap_alloc_new _ _,ht7.agr (Agr.nil ((Kept.refl [] w7).alloc _))⟩
  go_wp2
  go_ret3
  exact ⟨.pointer (some ⟨w7.heap.size,0,none⟩),by rw [← uh HFd]; rfl,hfin,hkz⟩
theorem get_no {q:List Nat} {L:Prs} (h:fnd q L = false):getP q L = none:=by
 unfold fnd at h
 cases hg:getP q L with
 | none=>rfl
 | some v=>rw [hg] at h; simp at h
theorem xc1g {H:Hs} {q:List Nat} {L:Prs} (hs:Srt H L) (hr:Rise L) (h:fnd q L = true):plc q L < L.length∧getP q L = some (L.getD (plc q L) ([],[])).2:=by
 obtain ⟨h1,h2⟩:=(fnd_at hr).1 h
 refine ⟨h1,(xa3c hs).2 ?_⟩
 have h3:=List.getElem_mem h1
 rw [List.getD_eq_getElem?_getD,List.getElem?_eq_getElem h1,Option.getD_some] at h2 ⊢
 generalize L[plc q L] = x at h2 h3 ⊢
 have e:(q,x.2) = x:=by rw [← h2]
 rw [e]; exact h3
set_option maxHeartbeats 2000000 in
theorem xc0g (S:Nat→Prop) (k:Nat) (mv kv:Value) (L:Prs) (q:List Nat) (w:World) (hM:MapAt S k w mv L) (hku:Rd w kv q) (hq:q.length≤64) (hT:Tabs w) :
  Calls Tryz.prog 17 #[mv,kv] w fun e w'=>∃ v',e = .returned (.tuple #[v',.bool (fnd q L),.int .i64 0])∧Rd w' v' ((getP q L).getD [])∧(∀ x∈blk v',w.heap.size≤x)∧Kept [] w w':=by
 have HM:=hide hM
 obtain ⟨hk,hs,hfit,hlen,g,tv,rfl,hSg,hh,htop⟩:=hM
 have hH:=hsZ_ok hk
 have HKU:=hide hku
 have HTb:=hide hT
 have HSr:=hide hs
 clear hh htop hT hs hku hfit hSg
 go_enter Tryz.func17,Tryz.ntmps17
 go_wp2_with fail
 refine Calls.mono (xa2p S k _ kv L q w (uh HM) (uh HKU) hq (uh HTb)) ?_
 rintro e w1 ⟨m,cr,en,pl,fd,rfl,hway,k1⟩
 have hfd:=hway.fd
 have HFd:=hide hfd
 have hon:=hway.cells
 have hend:=hway.en
 have hgt:=dn_get (H:=hsZ k) (q:=q) (L:=L) m
 have hMs:=dn_srt (q:=q) (uh HSr) m
 have hDl:((hsZ k).kd q).length = 32:=(hH.dg q).1
 obtain ⟨D,hD⟩:∃ D,(hsZ k).kd q = D:=⟨_,rfl⟩
 rw [hD] at hDl ⊢
 clear hD hfd hway
 generalize dnL (hsZ k) q L m = M at hend hgt hMs
 have hws:((wayC k D cr en pl fd).toArray).size = 37:=by rw [List.size_toArray,xa0w hDl]
 have HZ1:=hide (heap_alloc_new w1 (.cells zwy 88))
 have HN2:=hide (setRow_heap _ _ _ (wayC k D cr en pl fd).toArray _ _ (uh HZ1))
 have HK12:=hide ((Kept.refl [] w1).alloc (.cells zwy 88) |>.setRow (g:=w1.heap.size) (Or.inr (Nat.le_refl _)) (wayC k D cr en pl fd).toArray)
 have HK2:=hide (k1.trans (uh HK12) (by simp))
 have hw1:=k1.size
 clear k1
 obtain ⟨W2,hW2⟩:∃ W2,(w1.alloc (.cells zwy 88)).setRow w1.heap.size (wayC k D cr en pl fd).toArray = W2:=⟨_,rfl⟩
 rw [hW2] at HN2 HK12 HK2
 obtain ⟨cw0,cw1,cw2,cw3,cw4,cw5⟩:=xa0s (uh HN2) hDl
 have HW3:=hide cw3
 have HW4:=hide cw4
 clear cw0 cw1 cw2 cw3 cw4
 cases fd with
 | false =>
  go_wp2_with (rw [xa2t]; refine wpList_store_row rfl 88 (.tmp 7) (.tmp 13) rfl w1.heap.size (wayC k D cr en pl false).toArray rfl rfl _ zwy (uh HZ1) (by rw [hws]; exact Tryz.size_way) (by rw [hws]; rfl) (xa1k _ _ hon.1 hon.2) ?_; rw [hW2]; simp only [Act.put])
  go_ret3
  refine ⟨.slice none 0 0,by rw [← uh HFd]; rfl,?_,by simp [blk],uh HK2⟩
  rw [get_no (uh HFd).symm]
  exact Rd.nil _
 | true =>
  rcases hend with ⟨_,_,_,hx⟩ | ⟨hsg,g1,rfl,hb,hpl,hfd⟩
  ·cases hx
  have hris:=xa5o hMs hsg
  obtain ⟨hp1,hp2⟩:=xc1g hMs hris hfd.symm
  rw [← hpl] at hp1 hp2
  obtain ⟨pv,hSg1,hh1,hne,hkr⟩:=hb
  have hkd:((hsZ k).kd (M.headD ([],[])).1).length = 32:=xa0e _ _
  have c1:=(bk_row hh1 hkd).2.1
  obtain ⟨b,off,cap,l,rfl,hc1,hc2,hSb,hll,hcells,hrds⟩:=hkr
  have hcv:=(hcells pl (by omega)).2
  have hrv:=(hrds pl (by omega)).now.2
  have hgl:(getP q L).getD [] = (M.getD pl ([],[])).2:=by rw [← hgt,hp2]; rfl
  have HGL:=hide hgl
  generalize (M.getD pl ([],[])).2 = val at hrv hgl HGL
  generalize (l.getD pl (undef,undef)).2 = vz at hcv hrv
  obtain ⟨za,zn,zc,rfl,_⟩:=id hrv
  have hpn:pl < l.length:=by omega
  have hpi:(pl:Int) < (l.length:Int):=by omega
  generalize l.length = n at hc1 hpn hpi c1
  have HC1:=hide ((uh HK12).cell c1 (by simp))
  have HCV:=hide ((uh HK12).cell hcv (by simp))
  have HRV:=hide (hrv.old (uh HK12) (by simp))
  clear hcells hrds hcv hrv c1 hh1 hp2 hgt hgl hfd hpl hsg hris hMs hne
  go_upto_region 4 with (rw [xa2t]; refine wpList_store_row rfl 88 (.tmp 7) (.tmp 13) rfl w1.heap.size (wayC k D cr (.pointer (some ⟨g1,0,none⟩)) pl true).toArray rfl rfl _ zwy (uh HZ1) (by rw [hws]; exact Tryz.size_way) (by rw [hws]; rfl) (xa1k _ _ hon.1 hon.2) ?_; rw [hW2]; simp only [Act.put])
  refine ln_gt (by kernel_rfl) (by kernel_rfl) rfl (fun W=>Kept [] W2 W) (Kept.refl _ W2).drew ?_
  refine LinY.rd (.pointer (some ⟨w1.heap.size,34,none⟩)) (fun W hW=>by go_simp) (by simp only [Act.put,sa1,sa2,sa3]; rfl) ?_
  refine LinY.rd (.pointer (some ⟨g1,0,none⟩)) (fun W hW=>by have h9:=hW.cell (uh HW3) (by simp); go_simp) (by simp only [Act.put,sa1,sa2,sa3]; rfl) ?_
  refine LinY.rd (.pointer (some ⟨g1,0,none⟩)) (fun W hW=>by go_simp) (by simp only [Act.put,sa1,sa2,sa3]; rfl) ?_
  refine LinY.rd (.pointer (some ⟨g1,32,none⟩)) (fun W hW=>by go_simp) (by simp only [Act.put,sa1,sa2,sa3]; rfl) ?_
  refine LinY.rd (.slice (some ⟨b,off,none⟩) n cap) (fun W hW=>by have h9:=hW.cell (uh HC1) (by simp); go_simp) (by simp only [Act.put,sa1,sa2,sa3]; rfl) ?_
  refine LinY.rd (.pointer (some ⟨w1.heap.size,35,none⟩)) (fun W hW=>by go_simp) (by simp only [Act.put,sa1,sa2,sa3]; rfl) ?_
  refine LinY.rd (.int .i64 pl) (fun W hW=>by have h9:=hW.cell (uh HW4) (by simp); go_simp) (by simp only [Act.put,sa1,sa2,sa3]; rfl) ?_
  refine LinY.rd (.pointer (some ⟨b,off + pl * 2,none⟩)) (fun W hW=>by go_simp) (by simp only [Act.put,sa1,sa2,sa3]; rfl) ?_
  refine LinY.rd (.pointer (some ⟨b,off + pl * 2 + 1,none⟩)) (fun W hW=>by go_simp) (by simp only [Act.put,sa1,sa2,sa3]; rfl) ?_
  refine LinY.rd (.slice za zn zc) (fun W hW=>by have h9:=hW.cell (uh HCV) (by simp); go_simp) (by simp only [Act.put,sa1,sa2,sa3]; rfl) ?_
  have hd2:=(Kept.refl [] W2).drew
  refine ChL.call rfl Tryz.call41 [.slice za zn zc] rfl (xa1j _ val W2.drew ((uh HRV).old hd2 (by simp))) ?_
  rintro e w3 ⟨⟨vz,rfl,hvz,hvb⟩,k3⟩
  have hk3:=hd2.trans k3 (by simp)
  have hk30:=(uh HK2).trans hk3 (by simp)
  have hk20:=(uh HK2).trans hd2 (by simp)
  obtain ⟨ya,yn,yc,rfl,_⟩:=id hvz
  refine ⟨_,rfl,hk3,?_⟩
  simp only [Act.put,sa1,sa2,sa3]
  refine ChL.op (.slice ya yn yc) (by go_simp) hk3 (by simp only [Act.put,sa1,sa2,sa3]; rfl) ?_
  refine ChL.op (.bool true) (by go_simp) hk3 (by simp only [Act.put,sa1,sa2,sa3]; rfl) ?_
  refine ChL.op (.int .i64 0) (by go_simp) hk3 (by simp only [Act.put,sa1,sa2,sa3]; rfl) (ChL.fin ?_)
  go_wp2
  go_ret3
  exact ⟨.slice ya yn yc,by rw [← uh HFd]; rfl,by rw [uh HGL]; exact hvz,fun x hx=>Nat.le_trans hk20.size (hvb x hx),hk30⟩
end
section
open Go Go.RowKit Go.BigFrame
theorem ln_wa {P:Program} {Q:Exit→Act→World→Prop} {id:Nat} {o0 o1 o2 o3 o4 o5 o6 o7 o8 o9 o10 o11 o12 o13:Oper} {a:Act} {w:World} (hm:P.follows .mixedOrders = true) (hb:linB #[o0,o1,o2,o3,o4,o5,o6,o7,o8,o9,o10,o11,o12,o13] [0,1,2,3,4,5,6,7,8] [9,10,11,12,13] [] = true) (hg:([o0,o1,o2,o3,o4,o5,o6,o7,o8]++([o9,o10,o11,o12,o13]++[])).all (fun o=>o.guard.isNone) = true) (S:World→Prop) (hS:S w.drew)
  (h:LinY P S (ChL P Q S (Q .normal) [o9,o10,o11,o12,o13]) [o0,o1,o2,o3,o4,o5,o6,o7,o8] a w.drew):(Code.region id #[o0,o1,o2,o3,o4,o5,o6,o7,o8,o9,o10,o11,o12,o13] true).wp P Q a w:=xa0u (R:=[0,1,2,3,4,5,6,7,8]) (C:=[9,10,11,12,13]) (rs:=[o0,o1,o2,o3,o4,o5,o6,o7,o8]) (cs:=[o9,o10,o11,o12,o13]) hm hb rfl rfl hg hS h
end
section
open Go.RowKit Go.BigFrame
theorem LayAt.rdK {B:Nat} {w:World} {v:Value} {l:List VP} {L:Prs} (h:LayAt B w v l L):RdK w v L:=by
 obtain ⟨_,len,cap,rfl,hl,hc1,hc2,hcell⟩:=xa1z (by rw [xa0v]; exact h.own) h.pr.cell.1
 rw [xa0v] at hl
 have e1:∀ i,i < l.length→(l.map (·.1)).getD i undef = (l.getD i (undef,undef)).1∧(l.map (·.2)).getD i undef = (l.getD i (undef,undef)).2:=fun i hi=>by
  simp [List.getD_eq_getElem?_getD,List.getElem?_eq_getElem hi]
 refine ⟨_,len,cap,l.map (·.1),l.map (·.2),rfl,by rw [← hl]; exact h.pr.1.symm,hc1,hc2,fun i hi=>?_,fun h0=>?_⟩
 ·rw [(e1 i (by omega)).1,(e1 i (by omega)).2]; exact (h.pr.2 i (by omega)).now
 ·obtain ⟨b,off,rfl,hce⟩:=hcell h0
  refine ⟨b,off,rfl,fun i hi=>?_⟩
  have hi':i < l.length:=by omega
  have h7:=hce i (by rw [xa0v]; exact hi')
  have e:(kvR l)[i]'(by rw [xa0v]; exact hi') = [l[i].1,l[i].2]:=kvR_at _ i hi'
  rw [e] at h7
  rw [(e1 i hi').1,(e1 i hi').2]
  simp only [List.getD_eq_getElem?_getD,List.getElem?_eq_getElem hi',Option.getD_some]
  exact ⟨h7 0 _ rfl,h7 1 _ rfl⟩
abbrev Stp:=Nat × List (List Nat)
def stR (l:List (Nat × Value)):List (List Value):=l.map fun p=>[.int .u16 (p.1:Int),p.2]
structure SLay (B:Nat) (w:World) (v:Value) (l:List (Nat × Value)) (ss:List Stp):Prop where
 own:w.ownsRow B 64 2 v l.length (stR l).flatten
 len:l.length = ss.length
 pr:∀ i,i < l.length→(l.getD i (0,undef)).1 = (ss.getD i (0,[])).1∧(ss.getD i (0,[])).1 < 65536∧Sty (tB B v) w (fun w=>RdD w (l.getD i (0,undef)).2 (ss.getD i (0,[])).2)
theorem SLay.agr {B:Nat} {w w':World} {v:Value} {l:List (Nat × Value)} {ss:List Stp} (h:SLay B w v l ss) (k:Kept [] w w'):SLay B w' v l ss:=⟨k.owns h.own (by simp),h.len,fun i hi=>⟨(h.pr i hi).1,(h.pr i hi).2.1,(h.pr i hi).2.2.agr (Agr.nil k)⟩⟩
theorem SLay.nil (B:Nat) (w:World):SLay B w (.slice none 0 0) [] []:=⟨World.ownsRow_nil _ _ _ _,rfl,fun i hi=>by simp at hi⟩
theorem SLay.rdS {B:Nat} {w:World} {v:Value} {l:List (Nat × Value)} {ss:List Stp} (h:SLay B w v l ss):RdS w v ss:=by
 have hsl:(stR l).length = l.length:=by simp [stR]
 obtain ⟨_,len,cap,rfl,hl,hc1,hc2,hcell⟩:=xa1z (rows:=stR l) (by rw [hsl]; exact h.own) (by intro r hr; obtain ⟨p,_,rfl⟩:=List.mem_map.1 hr; rfl)
 rw [hsl] at hl
 have e1:∀ i,i < l.length→(l.map (·.2)).getD i undef = (l.getD i (0,undef)).2:=fun i hi=>by
  simp [List.getD_eq_getElem?_getD,List.getElem?_eq_getElem hi]
 refine ⟨_,len,cap,l.map (·.2),rfl,by rw [← hl]; exact h.len.symm,hc1,hc2,fun i hi=>?_,fun h0=>?_⟩
 ·rw [e1 i (by omega)]; exact ⟨(h.pr i (by omega)).2.1,(h.pr i (by omega)).2.2.now⟩
 ·obtain ⟨b,off,rfl,hce⟩:=hcell h0
  refine ⟨b,off,rfl,fun i hi=>?_⟩
  have hi':i < l.length:=by omega
  have h7:=hce i (by rw [hsl]; exact hi')
  have e:(stR l)[i]'(by rw [hsl]; exact hi') = [.int .u16 (l[i].1:Int),l[i].2]:=by simp [stR]
  rw [e] at h7
  rw [e1 i hi',← (h.pr i hi').1]
  simp only [List.getD_eq_getElem?_getD,List.getElem?_eq_getElem hi',Option.getD_some]
  exact ⟨h7 0 _ rfl,h7 1 _ rfl⟩
theorem xa6d {α:Type} (l:List α) (a d:α) (i:Nat):(l++[a]).getD i d = if i < l.length then l.getD i d else if i = l.length then a else d:=by
 simp only [List.getD_eq_getElem?_getD]
 by_cases h:i < l.length
 ·rw [if_pos h,List.getElem?_append_left h]
 ·rw [if_neg h,List.getElem?_append_right (by omega)]
  by_cases g:i = l.length
  ·rw [if_pos g]; subst g; simp
  ·rw [if_neg g,List.getElem?_eq_none (by simp; omega)]; rfl
theorem SLay.snoc {B:Nat} {w w1:World} {v v':Value} {l:List (Nat × Value)} {ss:List Stp} {x:Nat} {dv:Value} {ds:List (List Nat)} (h:SLay B w v l ss) (hx:x < 65536) (hd:Sty (tB B v) w (fun w=>RdD w dv ds))
  (ho:w1.ownsRow B 64 2 v' (l.length + 1) ((stR l).flatten++(stR [(x,dv)]).flatten)) (hg:w.grownBy w1 v.ownBlock) (hb:v'.ownBlock = v.ownBlock∨v'.ownBlock = some w.heap.size):SLay B w1 v' (l++[(x,dv)]) (ss++[(x,ds)]):=by
 have hK:=(Kept.refl v.ownBlock.toList w).grown hg (by intro x hx; left; simp [hx])
 have ha:Agr (lowS (tB B v) w) w w1:=⟨hK.size,fun x hx hl=>hK.block x hl (by
  intro hm
  have:v.ownBlock = some x:=by simpa using hm
  exact hx.1.2 this)⟩
 have hT:∀ x,lowS (tB B v) w x→tB B v' x:=fun x hx=>⟨hx.1.1,by
  rcases hb with e | e
  ·rw [e]; exact hx.1.2
  ·rw [e]; intro e2; have h2:=hx.2; injection e2 with e3; omega⟩
 refine ⟨?_,by rw [List.length_append,List.length_append,h.len]; rfl,fun i hi=>?_⟩
 ·rw [List.length_append,show stR (l++[(x,dv)]) = stR l++stR [(x,dv)] by simp [stR],List.flatten_append]; exact ho
 ·rw [List.length_append] at hi
  have hi2:i < l.length + 1:=hi
  rw [xa6d,xa6d,← h.len]
  by_cases g:i < l.length
  ·rw [if_pos g,if_pos g]
   exact ⟨(h.pr i g).1,(h.pr i g).2.1,(((h.pr i g).2.2.shrink).agr ha).mono hT⟩
  ·have g2:i = l.length:=by omega
   rw [if_neg g,if_neg g,if_pos g2,if_pos g2]
   exact ⟨rfl,hx,((hd.shrink).agr ha).mono hT⟩
theorem Sty.rdD {S:Nat→Prop} {W:World} {v:Value} {ds:List (List Nat)} (h:RdD W v ds) (hs:∀ x∈blk v,S x):Sty S W (fun w=>RdD w v ds):=fun w k=>by
 obtain ⟨ao,len,cap,rfl,h1,h2,h3,h4,h5⟩:=h
 refine ⟨ao,len,cap,rfl,h1,h2,h3,h4,fun hp=>?_⟩
 obtain ⟨b,off,rfl,hc⟩:=h5 hp
 exact ⟨b,off,rfl,fun i hi j u hu=>k.cell (hc i hi j u hu) (hs b (by simp [blk]))⟩
def stp (k:Nat) (q:List Nat) (L:Prs) (i:Nat):Stp:=(bm (hsZ k) i (dnL (hsZ k) q L i),(kidsL (hsZ k) i (dnL (hsZ k) q L i)).map (nodP (hsZ k) (63 - i)))
theorem Tryz.infoSt:(Tryz.prog.info? 64).map (fun i=>(i.zero,i.size,i.bytes)) = some (some (.agg #[.int .u16 0,.slice none 0 0]),2,32):=by kernel_rfl
theorem xb1h (x:Int) {X1:Option Addr} {X2 X3:Nat}:Tryz.prog.built 64 [(0,.int .u16 x),(1,.slice X1 X2 X3)] = some #[.int .u16 x,.slice X1 X2 X3]:=by kernel_rfl
theorem xb5w {o:Oper} {a:Act} (w:World) {x y:Operand} {n:Int} {X1:Option Addr} {X2 X3:Nat} (ho:o.op = .build 64 #[(0,x),(1,y)]∧a.eval x = .int .u16 n∧a.eval y = .slice X1 X2 X3):(execOp a.eval o).run Tryz.prog w = .ok (.value (.agg #[.int .u16 n,.slice X1 X2 X3])) w:=by
 obtain ⟨h0,h1,h2⟩:=ho
 have hb:=run_build (P:=Tryz.prog) w 64 #[(0,.int .u16 n),(1,.slice X1 X2 X3)] _ (xb1h n)
 unfold execOp
 simp only [h0,List.map_toArray,List.map_cons,List.map_nil,h1,h2,Sem.run_bind,hb,Result.andThen_ok]
 rfl
theorem infoStp:∃ i,Tryz.prog.info? 64 = some i∧i.zero = some (.agg #[.int .u16 0,.slice none 0 0])∧i.size = 2:=by
 have h:=Tryz.infoSt
 generalize Tryz.prog.info? 64 = o at h
 cases o with
 | none=>cases h
 | some i =>
  have h1:=Option.some.inj h
  exact ⟨i,rfl,(Prod.mk.inj h1).1,(Prod.mk.inj (Prod.mk.inj h1).2).1⟩
theorem fillS (x y:Value) (hx:x.cells = #[x]):Instr.fill (fun i=>some (i * 2,2)) ((Array.range (1 * 2)).map ((Value.agg #[.int .u16 0,.slice none 0 0]).cells[· % (Value.agg #[.int .u16 0,.slice none 0 0]).cells.size]!)) [(0,.agg #[x,y])] = some #[x,y]:=by kernel_rfl
theorem xa8f {o:Oper} {a:Act} (w:World) (x:Operand) (ho:o.op = .buildSlice 33 1 #[(0,x)]) (n:Int) (vu:Value) (hx:a.eval x = .agg #[.int .u16 n,vu]):(execOp a.eval o).run Tryz.prog w = .ok (.value (.slice (some ⟨w.heap.size,0,none⟩) 1 1)) (w.alloc (.cells #[.int .u16 n,vu] 64)):=by
 obtain ⟨i0,hi,hz0,hz1⟩:=infoStp
 have hb:=run_buildSlice w 33 64 1 #[(0,.agg #[.int .u16 n,vu])] #[.int .u16 n,vu] i0 _ Tryz.underlying33 hi hz0 (by rw [hz1]; decide) (by rw [hz1]; decide) (by rw [hz1]; exact fillS (.int .u16 n) vu rfl)
 unfold execOp
 simp only [ho,List.map_toArray,List.map_cons,List.map_nil,hx,Sem.run_bind,hb,Result.andThen_ok]
 rfl
def WalkP (k:Nat) (w:World) (q:List Nat) (L:Prs) (sv pv:Value):Prop:=∃ m,RdS w sv ((List.range m).map (stp k q L))∧RdK w pv (dnL (hsZ k) q L m)∧(∀ i,i < m→sgl (hsZ k) (dnL (hsZ k) q L i) = false)∧sgl (hsZ k) (dnL (hsZ k) q L m) = true
end
theorem p_fold {H:Hs} (hH:H.Ok) {q:List Nat} {L:Prs} {m:Nat} (hf:∀ i,i < m→sgl H (dnL H q L i) = false):m≤2 * H.wd:=by
 cases m with
 | zero=>omega
 | succ i=>have:=deep hH (dn_on (H:=H) (q:=q) (L:=L) i).pre (hf i (by omega)); omega
theorem p_kid {H:Hs} (hH:H.Ok) {q:List Nat} {L:Prs} {i f:Nat} (hb:(bm H i (dnL H q L i)).testBit (dgt (H.kd q) i) = true):cnt (bm H i (dnL H q L i)) (dgt (H.kd q) i) < ((kidsL H i (dnL H q L i)).map (nodP H f)).length∧((kidsL H i (dnL H q L i)).map (nodP H f)).getD (cnt (bm H i (dnL H q L i)) (dgt (H.kd q) i)) [] = nodP H f (dnL H q L (i + 1)):=by
 have h:=kid_at (L:=dnL H q L i) (dgk hH q i) hb
 have hl:cnt (bm H i (dnL H q L i)) (dgt (H.kd q) i) < (kidsL H i (dnL H q L i)).length:=(List.getElem?_eq_some_iff.1 h).1
 refine ⟨by rw [List.length_map]; exact hl,?_⟩
 rw [List.getD_eq_getElem?_getD,List.getElem?_map,h]; rfl
def wod (s:Stp) (c:Nat):Stp:=(s.1,if s.1.testBit c = true then s.2.eraseIdx (cnt s.1 c) else s.2)
def prf (k:Nat) (q:List Nat) (L:Prs) (i:Nat):Stp:=wod (stp k q L i) (dgt ((hsZ k).kd q) i)
def prfL (k:Nat) (q:List Nat) (L:Prs) (m:Nat):List Stp:=(List.range m).map (prf k q L)
theorem xb9k (k:Nat) (q:List Nat) (L:Prs) (m:Nat):(prfL k q L m).length = m:=by simp [prfL]
theorem xc1r (k:Nat) (q:List Nat) (L:Prs) (i:Nat):(prf k q L i).2.length≤16:=by
 have h1:(stp k q L i).2.length≤16:=by
  show ((kidsL (hsZ k) i (dnL (hsZ k) q L i)).map (nodP (hsZ k) (63 - i))).length≤16
  rw [List.length_map,xa1q]; exact cnt_le _ _
 unfold prf wod
 show (if _ then _ else _:List (List Nat)).length≤16
 split
 ·exact Nat.le_trans (List.length_eraseIdx_le _ _) h1
 ·exact h1
structure WayM (k:Nat) (q:List Nat) (L:Prs) (m:Nat):Prop where
 ns:∀ i,i < m→sgl (hsZ k) (dnL (hsZ k) q L i) = false
 sg:sgl (hsZ k) (dnL (hsZ k) q L m) = true
theorem xb1z {k:Nat} {q:List Nat} {L:Prs} {m n:Nat} (h:WayM k q L m) (g:WayM k q L n):m = n:=by
 rcases Nat.lt_trichotomy m n with h1 | h1 | h1
 ·have:=g.ns m h1; rw [h.sg] at this; cases this
 ·exact h1
 ·have:=h.ns n h1; rw [g.sg] at this; cases this
theorem WayM.le {k:Nat} (hk:1≤k∧k≤32) {q:List Nat} {L:Prs} {m:Nat} (h:WayM k q L m):m≤2 * k:=p_fold (hsZ_ok hk) h.ns
theorem p_dgt {k:Nat} (hk:1≤k∧k≤32) (q:List Nat) {i:Nat} (hi:i < 2 * k):atC (k:Int) (keyS (k:Int) q) (i:Int) = dgt ((hsZ k).kd q) i:=xc1m (wide_k hk) (xb5h (wide_k hk) q) (by simpa using hi)
section
open Go.RowKit Go.BigFrame
theorem xa7w (b:Nat) (t:TypeId):∀ (vs pre mid post:List Value) (w:World),mid.length = vs.length→w.heap[b]? = some (.cells (pre++(mid++post)).toArray t (0,0))→(w.setCells b pre.length vs).heap[b]? = some (.cells (pre++(vs++post)).toArray t (0,0))
 | [],pre,mid,post,w,hl,h=>by
  have:mid = []:=List.eq_nil_of_length_eq_zero (by simpa using hl)
  subst this; exact h
 | v :: r,pre,mid,post,w,hl,h=>by
  obtain ⟨x,mid,rfl⟩:∃ x q,mid = x :: q:=by cases mid with | nil=>simp at hl | cons x q=>exact ⟨x,q,rfl⟩
  rw [World.setCells]
  have h1:=heap_setCell_same w b pre.length _ t v h
  have e1:(pre++(x :: mid++post)).toArray.setIfInBounds pre.length v = ((pre++[v])++(mid++post)).toArray:=by simp
  rw [e1] at h1
  have h2:=xa7w b t r (pre++[v]) mid post _ (by simpa using hl) h1
  rw [List.length_append,List.length_cons,List.length_nil,List.append_assoc] at h2
  simpa using h2
theorem xa5z {L:List Nat} {w0:World} (b:Nat) (hb:b∈L∨w0.heap.size≤b):∀ (vs:List Value) (o:Nat) (w:World),Kept L w0 w→Kept L w0 (w.setCells b o vs)
 | [],o,w,h=>h
 | v :: r,o,w,h=>by
  rw [World.setCells]
  exact xa5z b hb r (o + 1) _ (h.setCell (p:=⟨b,o,none⟩) hb v)
theorem p_rddX {w:World} {g:Nat} {t:TypeId} {fr:Nat × Nat} {ds:List (List Nat)} {zs:List Value} {c:Nat} (h:w.heap[g]? = some (.cells (flatD ds++zs).toArray t fr)) (hd:∀ d∈ds,Dg d) (hl:ds.length≤c) (hc:c≤1000000):RdD w (.slice (some ⟨g,0,none⟩) ds.length c) ds:=by
 refine ⟨_,ds.length,c,rfl,rfl,hl,by omega,hd,fun _=>⟨g,0,rfl,fun i hi j v hj=>?_⟩⟩
 have hdl:∀ d∈ds,d.length = 32:=fun d hm=>(hd d hm).1
 have hj2:j < 32:=by
  have:=(List.getElem?_eq_some_iff.1 hj).1
  rw [List.length_map] at this
  have h9:(ds.getD i []).length = 32:=by rw [List.getD_eq_getElem?_getD,List.getElem?_eq_getElem hi]; exact hdl _ (List.getElem_mem _)
  omega
 have hln:=xa3d hdl
 rw [cell_of_row _ _ _ _ _ _ h,List.getElem?_toArray,Nat.zero_add,List.getElem?_append_left (by omega),xb3i hdl i hi j hj2]
 exact hj
theorem p_two1 {a b:Value} (ha:a.oneCell' = true) (hb:b.oneCell' = true):(#[a,b]:Array Value).all (·.oneCell') = true:=by simp [ha,hb]
def stV (s:Stp) (p:Nat × Nat):List Value:=[.int .u16 (s.1:Int),.slice (some ⟨p.1,0,none⟩) s.2.length p.2]
def snR (ss:List Stp) (gs:List (Nat × Nat)):List (List Value):=List.zipWith stV ss gs
theorem xb0f {ss:List Stp} {gs:List (Nat × Nat)} (h:gs.length = ss.length):(snR ss gs).length = ss.length:=by simp [snR,h]
theorem snR_at {ss:List Stp} {gs:List (Nat × Nat)} (h:gs.length = ss.length) (i:Nat) (hi:i < ss.length):(snR ss gs)[i]'(by rw [xb0f h]; exact hi) = stV (ss.getD i (0,[])) (gs.getD i (0,0)):=by
 simp [snR,List.getD_eq_getElem?_getD,List.getElem?_eq_getElem hi,List.getElem?_eq_getElem (show i < gs.length by omega)]
theorem xb1i {ss:List Stp} {gs:List (Nat × Nat)}:∀ r∈snR ss gs,r.length = 2:=fun r hr=>by
 obtain ⟨i,hi,rfl⟩:=List.getElem_of_mem hr
 simp [snR,stV]
structure KidB (B:Nat) (w:World) (v:Value) (s:Stp) (p:Nat × Nat):Prop where
 new:B≤p.1
 ne:v.ownBlock≠some p.1
 row:∃ zs:List Value,w.heap[p.1]? = some (.cells (flatD s.2++zs).toArray 50 (0,0))∧zs.length = (p.2 - s.2.length) * 32∧∀ u∈zs,u.oneCell' = true
 cap:s.2.length≤p.2∧p.2≤16
 bm:s.1 < 65536
 dg:∀ d∈s.2,Dg d
structure SNew (B:Nat) (w:World) (v:Value) (gs:List (Nat × Nat)) (ss:List Stp):Prop where
 own:w.ownsRow B 64 2 v ss.length (snR ss gs).flatten
 len:gs.length = ss.length
 kid:∀ i,i < ss.length→KidB B w v (ss.getD i (0,[])) (gs.getD i (0,0))
 dis:∀ i j,i < gs.length→j < gs.length→i≠j→(gs.getD i (0,0)).1≠(gs.getD j (0,0)).1
theorem KidB.kept {B:Nat} {w w':World} {v:Value} {s:Stp} {p:Nat × Nat} {M:List Nat} (h:KidB B w v s p) (k:Kept M w w') (hn:p.1∉M):KidB B w' v s p:=by
 obtain ⟨h1,h2,⟨zs,h3,h4⟩,h5,h6,h7⟩:=h
 exact ⟨h1,h2,⟨zs,k.heap h3 hn,h4⟩,h5,h6,h7⟩
theorem KidB.lt {B:Nat} {w:World} {v:Value} {s:Stp} {p:Nat × Nat} (h:KidB B w v s p):p.1 < w.heap.size:=by
 obtain ⟨h1,h2,⟨zs,h3,h4⟩,h5,h6,h7⟩:=h
 exact lt_of_block h3
theorem SNew.kept {B:Nat} {w w':World} {v:Value} {gs:List (Nat × Nat)} {ss:List Stp} (h:SNew B w v gs ss) (k:Kept [] w w'):SNew B w' v gs ss:=⟨k.owns h.own (by simp),h.len,fun i hi=>(h.kid i hi).kept k (by simp),h.dis⟩
theorem SNew.nil (B:Nat) (w:World):SNew B w (.slice none 0 0) [] []:=⟨World.ownsRow_nil _ _ _ _,rfl,fun i hi=>by simp at hi,fun i j hi=>by simp at hi⟩
theorem xa7g {α:Type} (l:List α) (a d:α) (i:Nat):(l++[a]).getD i d = if i < l.length then l.getD i d else if i = l.length then a else d:=xa6d l a d i
theorem SNew.snoc {B:Nat} {w w1:World} {v v':Value} {gs:List (Nat × Nat)} {ss:List Stp} {s:Stp} {p:Nat × Nat} (h:SNew B w v gs ss) (hk:KidB B w v s p) (hd:∀ q∈gs,q.1≠p.1)
  (ho:w1.ownsRow B 64 2 v' (ss.length + 1) ((snR ss gs).flatten++(stV s p))) (hg:w.grownBy w1 v.ownBlock) (hb:v'.ownBlock = v.ownBlock∨v'.ownBlock = some w.heap.size):SNew B w1 v' (gs++[p]) (ss++[s]):=by
 have hK:=(Kept.refl v.ownBlock.toList w).grown hg (by intro x hx; left; simp [hx])
 have hup:∀ {s p},KidB B w v s p→KidB B w1 v' s p:=fun {s p} k=>by
  have hlt:=k.lt
  obtain ⟨h1,h2,⟨zs,h3,h4⟩,h5,h6,h7⟩:=k
  refine ⟨h1,?_,⟨zs,hK.heap h3 (fun hm=>h2 (by simpa using hm)),h4⟩,h5,h6,h7⟩
  rcases hb with e | e
  ·rw [e]; exact h2
  ·rw [e]; intro e2; injection e2 with e3; omega
 refine ⟨?_,by rw [List.length_append,List.length_append,h.len]; rfl,fun i hi=>?_,fun i j hi hj hn=>?_⟩
 ·rw [List.length_append,show snR (ss++[s]) (gs++[p]) = snR ss gs++[stV s p] by unfold snR; rw [List.zipWith_append h.len.symm]; rfl,List.flatten_append]
  simpa using ho
 ·rw [List.length_append] at hi
  have hi2:i < ss.length + 1:=hi
  rw [xa7g,xa7g,h.len]
  by_cases g:i < ss.length
  ·rw [if_pos g,if_pos g]; exact hup (h.kid i g)
  ·have g2:i = ss.length:=by omega
   rw [if_neg g,if_neg g,if_pos g2,if_pos g2]; exact hup hk
 ·rw [List.length_append] at hi hj
  simp only [List.length_cons,List.length_nil] at hi hj
  rw [xa7g,xa7g]
  have hm:∀ x,x < gs.length→(gs.getD x (0,0)).1≠p.1:=fun x hx=>hd _ (by rw [List.getD_eq_getElem?_getD,List.getElem?_eq_getElem hx]; exact List.getElem_mem hx)
  by_cases g1:i < gs.length
  ·by_cases g2:j < gs.length
   ·rw [if_pos g1,if_pos g2]; exact h.dis i j g1 g2 hn
   ·rw [if_pos g1,if_neg g2,if_pos (by omega)]; exact hm i g1
  ·by_cases g2:j < gs.length
   ·rw [if_neg g1,if_pos g2,if_pos (by omega)]; exact fun e=>hm j g2 e.symm
   ·omega
theorem SNew.rdS {B:Nat} {w:World} {v:Value} {gs:List (Nat × Nat)} {ss:List Stp} (h:SNew B w v gs ss):RdS w v ss:=by
 have hsl:=xb0f h.len
 obtain ⟨_,len,cap,rfl,hl,hc1,hc2,hcell⟩:=xa1z (rows:=snR ss gs) (by rw [hsl]; exact h.own) xb1i
 rw [hsl] at hl
 subst hl
 have e1:∀ i,i < ss.length→((snR ss gs).map (fun r=>r.getD 1 undef)).getD i undef = .slice (some ⟨(gs.getD i (0,0)).1,0,none⟩) (ss.getD i (0,[])).2.length (gs.getD i (0,0)).2:=fun i hi=>by
  rw [List.getD_eq_getElem?_getD,List.getElem?_map,List.getElem?_eq_getElem (by rw [hsl]; exact hi),Option.map_some,Option.getD_some,snR_at h.len i hi]; rfl
 refine ⟨_,ss.length,cap,(snR ss gs).map (fun r=>r.getD 1 undef),rfl,rfl,hc1,hc2,fun i hi=>?_,fun h0=>?_⟩
 ·obtain ⟨h1,h2,⟨zs,h3,h4⟩,h5,h6,h7⟩:=h.kid i hi
  rw [e1 i hi]; exact ⟨h6,p_rddX h3 h7 h5.1 (by omega)⟩
 ·obtain ⟨b,off,rfl,hce⟩:=hcell h0
  refine ⟨b,off,rfl,fun i hi=>?_⟩
  have h7:=hce i (by rw [hsl]; exact hi)
  rw [snR_at h.len i hi] at h7
  rw [e1 i hi]
  exact ⟨h7 0 _ rfl,h7 1 _ rfl⟩
theorem SNew.at_ {B:Nat} {w:World} {v:Value} {gs:List (Nat × Nat)} {ss:List Stp} (h:SNew B w v gs ss) {i:Nat} (hi:i < ss.length):∃ g c,v = .slice (some ⟨g,0,none⟩) ss.length c∧B≤g∧w.rangeAt g (i * 2) (stV (ss.getD i (0,[])) (gs.getD i (0,0)))∧∃ cur,w.heap[g]? = some (.cells cur 64 (0,0)):=by
 rcases h.own.2 with ⟨e,h9⟩ | ⟨g,cap,cur,rfl,hg,hh,hc,hm,hsz,ht⟩
 ·omega
 ·refine ⟨g,cap,rfl,hg,fun j u hu=>?_,?_⟩
  ·have h8:=h.own.cells (g:=g) rfl (i * 2 + j) u (xa8n xb1i (show i < (snR ss gs).length by rw [xb0f h.len]; exact hi) (by rw [snR_at h.len i hi]; exact hu))
   rw [Addr.add_lit] at h8
   simpa using h8
  ·exact ⟨cur,hh⟩
theorem xa9r {u:Value}:∀ {rows:List (List Value)} (hs:∀ r∈rows,r.length = 2) {i:Nat} (hi:i < rows.length) (a:Value) (ha:rows[i][0]? = some a),rows.flatten.set (i * 2 + 1) u = (rows.set i [a,u]).flatten
 | [],hs,i,hi,a,ha=>by simp at hi
 | r :: rs,hs,0,hi,a,ha=>by
  obtain ⟨x,y,rfl⟩:∃ x y,r = [x,y]:=by
   have:=hs r (by simp)
   match r,this with
   | [x,y],_=>exact ⟨x,y,rfl⟩
  have e:x = a:=by simpa using ha
  subst e
  simp
 | r :: rs,hs,i + 1,hi,a,ha=>by
  obtain ⟨x,y,rfl⟩:∃ x y,r = [x,y]:=by
   have:=hs r (by simp)
   match r,this with
   | [x,y],_=>exact ⟨x,y,rfl⟩
  have ih:=xa9r (u:=u) (fun r hr=>hs r (by simp [hr])) (i:=i) (by simpa using hi) a ha
  rw [List.set_cons_succ,List.flatten_cons,List.flatten_cons,← ih,show (i + 1) * 2 + 1 = (i * 2 + 1) + 1 + 1 by omega]
  rfl
theorem xc0t {ss:List Stp} {gs:List (Nat × Nat)} (h:gs.length = ss.length) (i:Nat) (hi:i < ss.length) (s:Stp):snR (ss.set i s) gs = (snR ss gs).set i (stV s (gs.getD i (0,0))):=by
 apply List.ext_getElem
 ·simp [snR]
 ·intro j h1 h2
  have hj:j < ss.length:=by simp [snR,h] at h1; omega
  simp only [snR,List.getElem_zipWith,List.getElem_set]
  by_cases e:i = j
  ·subst e
   simp [List.getD_eq_getElem?_getD,List.getElem?_eq_getElem (show i < gs.length by omega)]
  ·simp [e]
theorem xc1e {α:Type} {l:List α} {i:Nat} {a d:α} (h:i < l.length):(l.set i a).getD i d = a:=by
 rw [List.getD_eq_getElem?_getD,List.getElem?_set_self h,Option.getD_some]
theorem xc2q {α:Type} {l:List α} {i j:Nat} {a d:α} (h:i≠j):(l.set i a).getD j d = l.getD j d:=by
 rw [List.getD_eq_getElem?_getD,List.getElem?_set_ne h,← List.getD_eq_getElem?_getD]
theorem SNew.put {B:Nat} {w w1:World} {v:Value} {gs:List (Nat × Nat)} {ss:List Stp} (h:SNew B w v gs ss) {i:Nat} (hi:i < ss.length) {g c:Nat} (hv:v = .slice (some ⟨g,0,none⟩) ss.length c) {ds:List (List Nat)} (k:Kept [(gs.getD i (0,0)).1] w w1)
  (hk:KidB B w1 v ((ss.getD i (0,[])).1,ds) (gs.getD i (0,0))):SNew B (w1.setCell ⟨g,i * 2 + 1,none⟩ (.slice (some ⟨(gs.getD i (0,0)).1,0,none⟩) ds.length (gs.getD i (0,0)).2)) v gs (ss.set i ((ss.getD i (0,[])).1,ds)):=by
 have hgn:∀ j,j < ss.length→(gs.getD j (0,0)).1≠g:=fun j hj e=>by
  have:=(h.kid j hj).ne
  rw [hv] at this
  exact this (by rw [e]; rfl)
 have hKg:=(Kept.refl [g] w1).setCell (p:=⟨g,i * 2 + 1,none⟩) (Or.inl (by simp)) (.slice (some ⟨(gs.getD i (0,0)).1,0,none⟩) ds.length (gs.getD i (0,0)).2)
 refine ⟨?_,by rw [List.length_set]; exact h.len,fun j hj=>?_,h.dis⟩
 ·have ho:=k.owns h.own (fun b hb hm=>hgn i hi (by
   rw [hv] at hb
   have e1:g = b:=Option.some.inj hb
   rw [e1]; exact (List.mem_singleton.1 hm).symm))
  rcases ho.2 with ⟨e,h9⟩ | ⟨g',cap,cur,e,hg,hh,hc,hm,hsz,ht⟩
  ·omega
  ·have hx:=e
   rw [hv] at hx
   simp only [Value.slice.injEq,Option.some.injEq,Addr.mk.injEq,and_true,true_and] at hx
   obtain ⟨hx1,hx2⟩:=hx
   subst hx1
   subst hx2
   have h1:=heap_setCell_same w1 g (i * 2 + 1) cur _ (.slice (some ⟨(gs.getD i (0,0)).1,0,none⟩) ds.length (gs.getD i (0,0)).2) hh
   have hsl:=xb0f h.len
   have hfl:(snR ss gs).flatten.set (i * 2 + 1) (.slice (some ⟨(gs.getD i (0,0)).1,0,none⟩) ds.length (gs.getD i (0,0)).2) = (snR (ss.set i ((ss.getD i (0,[])).1,ds)) gs).flatten:=by
    rw [xc0t h.len i hi,xa9r xb1i (by rw [hsl]; exact hi) (.int .u16 ((ss.getD i (0,[])).1:Int)) (by rw [snR_at h.len i hi]; rfl)]
    rfl
   refine ⟨?_,Or.inr ⟨g,c,_,by rw [hv,List.length_set],hg,h1,by rw [List.length_set]; exact hc,hm,by rw [Array.size_setIfInBounds]; exact hsz,?_⟩⟩
   ·rw [← hfl,List.length_set,ho.1,List.length_set]
   ·rw [List.length_set,Array.toList_setIfInBounds,List.take_set,ht,hfl]
 ·rw [List.length_set] at hj
  by_cases e:i = j
  ·subst e
   rw [xc1e hi]
   exact hk.kept hKg (fun hm=>hgn i hi (List.mem_singleton.1 hm))
  ·rw [xc2q e]
   refine ((h.kid j hj).kept k ?_).kept hKg (fun hm=>hgn j hj (List.mem_singleton.1 hm))
   simp only [List.mem_singleton]
   exact h.dis j i (by have:=h.len; omega) (by have:=h.len; omega) (fun e2=>e e2.symm)
end
section
open Go Go.RowKit Go.BigFrame
theorem ln_l4 {P:Program} {Q:Exit→Act→World→Prop} {id:Nat} {o0 o1 o2 o3 o4 o5 o6 o7 o8:Oper} {a:Act} {w:World} (hm:P.follows .mixedOrders = true) (hb:linB #[o0,o1,o2,o3,o4,o5,o6,o7,o8] [0,1,2,3,4,5,6,7,8] [] [] = true) (hg:([o0,o1,o2,o3,o4,o5,o6,o7,o8]++([]++[])).all (fun o=>o.guard.isNone) = true) (S:World→Prop) (hS:S w.drew)
  (h:LinY P S (ChL P Q S (Q .normal) []) [o0,o1,o2,o3,o4,o5,o6,o7,o8] a w.drew):(Code.region id #[o0,o1,o2,o3,o4,o5,o6,o7,o8] true).wp P Q a w:=xa0u (R:=[0,1,2,3,4,5,6,7,8]) (C:=[]) (rs:=[o0,o1,o2,o3,o4,o5,o6,o7,o8]) (cs:=[]) hm hb rfl rfl hg hS h
theorem ln_l5 {P:Program} {Q:Exit→Act→World→Prop} {id:Nat} {o0 o1 o2 o3 o4 o5 o6 o7 o8 o9 o10 o11:Oper} {a:Act} {w:World} (hm:P.follows .mixedOrders = true) (hb:linB #[o0,o1,o2,o3,o4,o5,o6,o7,o8,o9,o10,o11] [0,1,2,3,4,5,6,7,8,9,10] [11] [] = true) (hg:([o0,o1,o2,o3,o4,o5,o6,o7,o8,o9,o10]++([o11]++[])).all (fun o=>o.guard.isNone) = true) (S:World→Prop) (hS:S w.drew)
  (h:LinY P S (ChL P Q S (Q .normal) [o11]) [o0,o1,o2,o3,o4,o5,o6,o7,o8,o9,o10] a w.drew):(Code.region id #[o0,o1,o2,o3,o4,o5,o6,o7,o8,o9,o10,o11] true).wp P Q a w:=xa0u (R:=[0,1,2,3,4,5,6,7,8,9,10]) (C:=[11]) (rs:=[o0,o1,o2,o3,o4,o5,o6,o7,o8,o9,o10]) (cs:=[o11]) hm hb rfl rfl hg hS h
end
section
open Go.RowKit Go.BigFrame
def lessI:List Nat→List Nat→Int
 | [],b=>-(b.length:Int)
 | x :: a,[]=>(a.length:Int) + 1
 | x :: a,y :: b=>if x = y then lessI a b else (x:Int) - (y:Int)
theorem xa6j:∀ a b:List Nat,(lessI a b < 0↔ordL a b < 0)∧(lessI a b = 0↔ordL a b = 0)
 | [],[]=>by simp [lessI,ordL]
 | [],y :: b=>by simp [lessI,ordL]; omega
 | x :: a,[]=>by simp [lessI,ordL]; omega
 | x :: a,y :: b=>by
  have ih:=xa6j a b
  by_cases h:x = y
  ·subst h
   have e1:lessI (x :: a) (x :: b) = lessI a b:=by rw [lessI,if_pos rfl]
   have e2:ordL (x :: a) (x :: b) = ordL a b:=by rw [ordL,if_neg (Nat.lt_irrefl _),if_neg (Nat.lt_irrefl _)]
   rw [e1,e2]; exact ih
  ·have e1:lessI (x :: a) (y :: b) = (x:Int) - (y:Int):=by rw [lessI,if_neg h]
   rw [e1]
   rcases Nat.lt_or_ge x y with g | g
   ·have e2:ordL (x :: a) (y :: b) = -1:=by rw [ordL,if_pos g]
    rw [e2]; omega
   ·have e2:ordL (x :: a) (y :: b) = 1:=by rw [ordL,if_neg (by omega),if_pos (by omega)]
    rw [e2]; omega
theorem xb4k (a b:List Nat) (h:a = []∨b = []):lessI a b = (a.length:Int) - (b.length:Int):=by
 rcases h with rfl | rfl
 ·simp [lessI]
 ·cases a with
  | nil=>simp [lessI]
  | cons x a=>simp [lessI]
theorem xb1o (a b:List Nat) (i:Nat) (ha:i < a.length) (hb:i < b.length):lessI (a.drop i) (b.drop i) = if a.getD i 0 = b.getD i 0 then lessI (a.drop (i + 1)) (b.drop (i + 1)) else (a.getD i 0:Int) - (b.getD i 0:Int):=by
 rw [List.drop_eq_getElem_cons ha,List.drop_eq_getElem_cons hb,List.getD_eq_getElem?_getD,List.getD_eq_getElem?_getD,List.getElem?_eq_getElem ha,List.getElem?_eq_getElem hb]
 rfl
set_option maxHeartbeats 2000000 in
theorem xb1n (u v:Value) (a b:List Nat) (w:World) (ha:Rd w u a) (hb:Rd w v b) :
  Calls Tryz.prog 93 #[u,v] w fun e w'=>e = .returned (.int .i64 (lessI a b))∧Kept [] w w':=by
 have HA:=hide ha.byte
 have HB:=hide hb.byte
 obtain ⟨ao,n,c,rfl,h1,h2,h3,_,_,h6⟩:=ha
 obtain ⟨bo,m,d,rfl,g1,g2,g3,_,_,g6⟩:=hb
 have HCA:=hide h6
 have HCB:=hide g6
 have HL:=hide (show lessI (a.drop 0) (b.drop 0) = lessI a b from rfl)
 obtain ⟨C,hC⟩:∃ C,lessI a b = C:=⟨_,rfl⟩
 rw [hC] at HL ⊢
 have HN:=hide h1
 have HM:=hide g1
 have hwr:IntKind.i64.wrap ((n:Int) - (m:Int)) = (n:Int) - (m:Int):=by simp [IntKind.wrap,IntKind.signed,IntKind.bits]; omega
 have HK:=hide (Kept.refl [] w)
 clear h1 h6 g1 g6 hC
 go_enter Tryz.func93,Tryz.ntmps93
 go_wp2
 go_loopw [5] (fun t5 wr=>∃ (i:Nat),t5 = .int .i64 i∧i≤n∧i≤m∧Hid (lessI (a.drop i) (b.drop i) = C)∧Hid (Kept [] w wr)) (fun t _=>n - (intOf t).toNat)
 case atStart=>exact ⟨0,rfl,Nat.zero_le _,Nat.zero_le _,HL,HK⟩
 case round =>
  clear HL HK
  obtain ⟨i,rfl,hin,him,HL,HK⟩:=hrel
  by_cases hlt:i < n∧i < m
  ·obtain ⟨l1,l2⟩:=hlt
   have q1:(i:Int) < n:=by omega
   have q2:(i:Int) < m:=by omega
   obtain ⟨ba,oa,rfl,hca⟩:=uh HCA (by omega)
   obtain ⟨bb,ob,rfl,hcb⟩:=uh HCB (by omega)
   have HX:=hide ((uh HK).cell (hca i l1) (by simp))
   have HY:=hide ((uh HK).cell (hcb i l2) (by simp))
   have hst:=xb1o a b i (by have:=uh HN; omega) (by have:=uh HM; omega)
   have hx256:a.getD i 0 < 256:=uh HA _ (by have:=uh HN; rw [List.getD_eq_getElem?_getD,List.getElem?_eq_getElem (by omega)]; exact List.getElem_mem _)
   have hy256:b.getD i 0 < 256:=uh HB _ (by have:=uh HM; rw [List.getD_eq_getElem?_getD,List.getElem?_eq_getElem (by omega)]; exact List.getElem_mem _)
   rw [uh HL] at hst
   clear hca hcb
   generalize a.getD i 0 = x at HX hst hx256
   generalize b.getD i 0 = y at HY hst hy256
   have HST:=hide hst
   clear hst
   by_cases hxy:x = y
   ·subst hxy
    have HL2:=hide (show lessI (a.drop (i + 1)) (b.drop (i + 1)) = C by have:=uh HST; rw [if_pos rfl] at this; exact this.symm)
    go_upto_region 4 with fail
    refine ln_l4 (by kernel_rfl) (by kernel_rfl) rfl (fun W=>Kept [] wr W) (Kept.refl _ wr).drew ?_
    refine LinY.mv (x:=.tmp 0) rfl (.slice (some ⟨ba,oa,none⟩) n c) rfl (by simp only [Act.put,sa1,sa2,sa3]; rfl) ?_
    refine LinY.mv (x:=.tmp 5) rfl (.int .i64 i) rfl (by simp only [Act.put,sa1,sa2,sa3]; rfl) ?_
    refine LinY.rd (.pointer (some ⟨ba,oa + i,none⟩)) (fun W hW=>by go_simp) (by simp only [Act.put,sa1,sa2,sa3]; rfl) ?_
    refine LinY.rd (.int .u8 x) (fun W hW=>by have h9:=hW.cell (uh HX) (by simp); go_simp) (by simp only [Act.put,sa1,sa2,sa3]; rfl) ?_
    refine LinY.mv (x:=.tmp 1) rfl (.slice (some ⟨bb,ob,none⟩) m d) rfl (by simp only [Act.put,sa1,sa2,sa3]; rfl) ?_
    refine LinY.mv (x:=.tmp 5) rfl (.int .i64 i) rfl (by simp only [Act.put,sa1,sa2,sa3]; rfl) ?_
    refine LinY.rd (.pointer (some ⟨bb,ob + i,none⟩)) (fun W hW=>by go_simp) (by simp only [Act.put,sa1,sa2,sa3]; rfl) ?_
    refine LinY.rd (.int .u8 x) (fun W hW=>by have h9:=hW.cell (uh HY) (by simp); go_simp) (by simp only [Act.put,sa1,sa2,sa3]; rfl) ?_
    refine LinY.rd (.bool false) (fun W hW=>by go_simp) (by simp only [Act.put,sa1,sa2,sa3]; rfl) ?_
    refine LinY.fin (ChL.fin ?_)
    have hkd:=(uh HK).trans (Kept.refl [] wr).drew (by simp)
    go_wp2
    refine ⟨⟨i + 1,by go_num,by omega,by omega,HL2,hide hkd⟩,?_⟩
    all_goals (simp [intOf]; omega)
   ·have hz:(x:Int)≠(y:Int):=by omega
    have hz2:¬ (x:Int) = (y:Int):=hz
    have hC2:C = (x:Int) - (y:Int):=by have:=uh HST; rw [if_neg hxy] at this; exact this
    have hwr2:IntKind.i64.wrap ((x:Int) - (y:Int)) = (x:Int) - (y:Int):=by simp [IntKind.wrap,IntKind.signed,IntKind.bits]; omega
    have hwx:IntKind.i64.wrap (x:Int) = (x:Int):=by simp [IntKind.wrap,IntKind.signed,IntKind.bits]; omega
    have hwy:IntKind.i64.wrap (y:Int) = (y:Int):=by simp [IntKind.wrap,IntKind.signed,IntKind.bits]; omega
    go_upto_region 4 with fail
    refine ln_l4 (by kernel_rfl) (by kernel_rfl) rfl (fun W=>Kept [] wr W) (Kept.refl _ wr).drew ?_
    refine LinY.mv (x:=.tmp 0) rfl (.slice (some ⟨ba,oa,none⟩) n c) rfl (by simp only [Act.put,sa1,sa2,sa3]; rfl) ?_
    refine LinY.mv (x:=.tmp 5) rfl (.int .i64 i) rfl (by simp only [Act.put,sa1,sa2,sa3]; rfl) ?_
    refine LinY.rd (.pointer (some ⟨ba,oa + i,none⟩)) (fun W hW=>by go_simp) (by simp only [Act.put,sa1,sa2,sa3]; rfl) ?_
    refine LinY.rd (.int .u8 x) (fun W hW=>by have h9:=hW.cell (uh HX) (by simp); go_simp) (by simp only [Act.put,sa1,sa2,sa3]; rfl) ?_
    refine LinY.mv (x:=.tmp 1) rfl (.slice (some ⟨bb,ob,none⟩) m d) rfl (by simp only [Act.put,sa1,sa2,sa3]; rfl) ?_
    refine LinY.mv (x:=.tmp 5) rfl (.int .i64 i) rfl (by simp only [Act.put,sa1,sa2,sa3]; rfl) ?_
    refine LinY.rd (.pointer (some ⟨bb,ob + i,none⟩)) (fun W hW=>by go_simp) (by simp only [Act.put,sa1,sa2,sa3]; rfl) ?_
    refine LinY.rd (.int .u8 y) (fun W hW=>by have h9:=hW.cell (uh HY) (by simp); go_simp) (by simp only [Act.put,sa1,sa2,sa3]; rfl) ?_
    refine LinY.rd (.bool true) (fun W hW=>by go_simp) (by simp only [Act.put,sa1,sa2,sa3]; rfl) ?_
    refine LinY.fin (ChL.fin ?_)
    have hd:=(Kept.refl [] wr).drew
    go_upto_region 5 with fail
    refine ln_l5 (by kernel_rfl) (by kernel_rfl) rfl (fun W=>Kept [] wr W) hd.drew ?_
    refine LinY.mv (x:=.tmp 0) rfl (.slice (some ⟨ba,oa,none⟩) n c) rfl (by simp only [Act.put,sa1,sa2,sa3]; rfl) ?_
    refine LinY.mv (x:=.tmp 5) rfl (.int .i64 i) rfl (by simp only [Act.put,sa1,sa2,sa3]; rfl) ?_
    refine LinY.rd (.pointer (some ⟨ba,oa + i,none⟩)) (fun W hW=>by go_simp) (by simp only [Act.put,sa1,sa2,sa3]; rfl) ?_
    refine LinY.rd (.int .u8 x) (fun W hW=>by have h9:=hW.cell (uh HX) (by simp); go_simp) (by simp only [Act.put,sa1,sa2,sa3]; rfl) ?_
    refine LinY.rd (.int .i64 x) (fun W hW=>by go_simp) (by simp only [Act.put,sa1,sa2,sa3]; rfl) ?_
    refine LinY.mv (x:=.tmp 1) rfl (.slice (some ⟨bb,ob,none⟩) m d) rfl (by simp only [Act.put,sa1,sa2,sa3]; rfl) ?_
    refine LinY.mv (x:=.tmp 5) rfl (.int .i64 i) rfl (by simp only [Act.put,sa1,sa2,sa3]; rfl) ?_
    refine LinY.rd (.pointer (some ⟨bb,ob + i,none⟩)) (fun W hW=>by go_simp) (by simp only [Act.put,sa1,sa2,sa3]; rfl) ?_
    refine LinY.rd (.int .u8 y) (fun W hW=>by have h9:=hW.cell (uh HY) (by simp); go_simp) (by simp only [Act.put,sa1,sa2,sa3]; rfl) ?_
    refine LinY.rd (.int .i64 y) (fun W hW=>by go_simp) (by simp only [Act.put,sa1,sa2,sa3]; rfl) ?_
    refine LinY.rd (.int .i64 ((x:Int) - (y:Int))) (fun W hW=>by go_simp) (by simp only [Act.put,sa1,sa2,sa3]; rfl) ?_
    refine ChL.op (.int .i64 ((x:Int) - (y:Int))) (by go_simp) (hd.drew) (by simp only [Act.put,sa1,sa2,sa3]; rfl) (ChL.fin ?_)
    go_wp2
    go_ret
    exact ⟨by rw [hC2]; rfl,(uh HK).trans hd.drew (by simp)⟩
  ·have hend:lessI (a.drop i) (b.drop i) = (n:Int) - (m:Int):=by
    have e1:=uh HN
    have e2:=uh HM
    rw [xb4k _ _ (by
     by_cases q:i < n
     ·exact Or.inr (List.drop_of_length_le (by omega))
     ·exact Or.inl (List.drop_of_length_le (by omega))),List.length_drop,List.length_drop]
    omega
   rw [uh HL] at hend
   have HE:=hide hend
   clear hend
   by_cases q:i < n
   ·have q1:(i:Int) < n:=by omega
    have q2:¬ (i:Int) < m:=by omega
    go_wp2
    go_ret
    exact ⟨by rw [uh HE]; first | rfl | (rw [hwr]) | (simp [hwr]),uh HK⟩
   ·have q1:¬ (i:Int) < n:=by omega
    go_wp2
    go_ret
    exact ⟨by rw [uh HE]; first | rfl | (rw [hwr]) | (simp [hwr]),uh HK⟩
end
def putS (H:Hs) (q v:List Nat) (s:Bool × Prs) (y:List Nat × List Nat):Bool × Prs :=
 (s.1 || decide (kc H q y.1≤0),(if s.1 = false∧kc H q y.1≤0 then s.2++[(q,v)] else s.2)++(if kc H q y.1 = 0 then [] else [y]))
def putF (q v:List Nat) (s:Bool × Prs):Prs:=if s.1 = true then s.2 else s.2++[(q,v)]
theorem xa8r {H:Hs} {q v:List Nat}:∀ {L acc:Prs},(∀ y∈L,kc H q y.1 < 0)→L.foldl (putS H q v) (true,acc) = (true,acc++L)
 | [],acc,_=>by simp
 | y :: L,acc,h=>by
  have h1:=h y (by simp)
  rw [List.foldl_cons]
  have e:putS H q v (true,acc) y = (true,acc++[y]):=by
   unfold putS; rw [if_neg (by simp),if_neg (by omega)]; simp
  rw [e,xa8r (fun z hz=>h z (by simp [hz]))]
  simp
theorem xb0b {H:Hs} {q v:List Nat}:∀ {L acc:Prs},Srt H L→putF q v (L.foldl (putS H q v) (false,acc)) = acc++insP H q v L
 | [],acc,_=>by simp [putF,insP]
 | y :: L,acc,h=>by
  rw [List.foldl_cons,xa2g]
  by_cases g1:kc H q y.1 < 0
  ·have e:putS H q v (false,acc) y = (true,acc++[(q,v),y]):=by
    unfold putS; rw [if_pos ⟨rfl,by show kc H q y.1≤0; omega⟩,if_neg (by omega),decide_eq_true (by omega)]; simp
   rw [e,xa8r (fun z hz=>xa3m g1 (h.head z hz)),if_pos g1]
   simp [putF]
  ·by_cases g2:kc H q y.1 = 0
   ·have e:putS H q v (false,acc) y = (true,acc++[(q,v)]):=by
     unfold putS; rw [if_pos ⟨rfl,by show kc H q y.1≤0; omega⟩,if_pos g2,decide_eq_true (by omega)]; simp
    rw [e,xa8r (fun z hz=>by rw [xa7u g2]; exact h.head z hz),if_neg g1,if_pos g2]
    simp [putF]
   ·have e:putS H q v (false,acc) y = (false,acc++[y]):=by
     unfold putS; rw [if_neg (by simp; omega),if_neg g2,decide_eq_false (by omega)]; simp
    rw [e,xb0b h.tail,if_neg g1,if_neg g2]
    simp
def putI (H:Hs) (q v:List Nat) (L:Prs) (i:Nat):Bool × Prs:=(L.take i).foldl (putS H q v) (false,[])
theorem xb5z (H:Hs) (q v:List Nat) (L:Prs):putI H q v L 0 = (false,[]):=rfl
theorem xa9s (H:Hs) (q v:List Nat) (L:Prs) (i:Nat) (hi:i < L.length):putI H q v L (i + 1) = putS H q v (putI H q v L i) (L.getD i ([],[])):=by
 unfold putI
 rw [List.take_succ_eq_append_getElem hi,List.foldl_append,List.getD_eq_getElem?_getD,List.getElem?_eq_getElem hi]; rfl
theorem xb9s (H:Hs) (q v:List Nat) (L:Prs) (h:Srt H L):putF q v (putI H q v L L.length) = insP H q v L:=by
 unfold putI; rw [List.take_of_length_le (Nat.le_refl _),xb0b h]; simp
theorem xb9q (H:Hs) (q v:List Nat) (s:Bool × Prs) (y:List Nat × List Nat):(putS H q v s y).2.length≤s.2.length + 2:=by
 unfold putS
 rw [List.length_append]
 have h1:(if s.1 = false∧kc H q y.1≤0 then s.2++[(q,v)] else s.2).length≤s.2.length + 1:=by split <;> simp
 have h2:(if kc H q y.1 = 0 then ([]:Prs) else [y]).length≤1:=by split <;> simp
 omega
theorem xb1v (H:Hs) (q v:List Nat) (L:Prs):∀ i,i≤L.length→(putI H q v L i).2.length≤2 * i
 | 0,_=>by simp [xb5z]
 | i + 1,hi=>by
  have ih:=xb1v H q v L i (by omega)
  rw [xa9s H q v L i (by omega)]
  have:=xb9q H q v (putI H q v L i) (L.getD i ([],[]))
  omega
def ordI (H:Hs) (a b:List Nat):Int:=if lessI (H.kd a) (H.kd b) = 0 then lessI a b else lessI (H.kd a) (H.kd b)
theorem xc0a (H:Hs) (a b:List Nat):(ordI H a b < 0↔kc H a b < 0)∧(ordI H a b = 0↔kc H a b = 0):=by
 have h1:=xa6j (H.kd a) (H.kd b)
 have h2:=xa6j a b
 unfold ordI kc
 by_cases g:lessI (H.kd a) (H.kd b) = 0
 ·rw [if_pos g,if_pos (h1.2.1 g)]; exact h2
 ·rw [if_neg g,if_neg (fun e=>g (h1.2.2 e))]; exact h1
def kidI (H:Hs) (f d:Nat) (L:Prs) (i:Nat):List (List Nat):=((List.range i).filter (fun j=>!(ch H d j L).isEmpty)).map fun j=>nodP H f (ch H d j L)
def bmI (H:Hs) (d:Nat) (L:Prs) (i:Nat):Nat:=bmk (fun j=>!(ch H d j L).isEmpty) i
theorem xb9i {H:Hs} {f d:Nat} {L:Prs} {i:Nat} (h:(ch H d i L).isEmpty = false):kidI H f d L (i + 1) = kidI H f d L i++[nodP H f (ch H d i L)]:=by
 unfold kidI; rw [List.range_succ,List.filter_append,List.map_append]; simp [h]
theorem xc1w {H:Hs} {f d:Nat} {L:Prs} {i:Nat} (h:(ch H d i L).isEmpty = true):kidI H f d L (i + 1) = kidI H f d L i:=by
 unfold kidI; rw [List.range_succ,List.filter_append,List.map_append]; simp [h]
theorem xc0f {H:Hs} {d:Nat} {L:Prs} {i:Nat} (h:(ch H d i L).isEmpty = false):bmI H d L (i + 1) = bmI H d L i + 2 ^ i:=by
 unfold bmI; conv=>lhs; unfold bmk
 rw [if_pos (by rw [h]; rfl)]
theorem bmI_no {H:Hs} {d:Nat} {L:Prs} {i:Nat} (h:(ch H d i L).isEmpty = true):bmI H d L (i + 1) = bmI H d L i:=by
 unfold bmI; conv=>lhs; unfold bmk
 rw [if_neg (by rw [h]; decide)]
theorem bmI_lt (H:Hs) (d:Nat) (L:Prs) (i:Nat):bmI H d L i < 2 ^ i:=bmk_lt _ i
theorem xc1a (H:Hs) (d:Nat) (L:Prs):bmI H d L 16 = bm H d L:=rfl
theorem xb9r (H:Hs) (f d:Nat) (L:Prs):kidI H f d L 16 = (kidsL H d L).map (nodP H f):=by
 unfold kidI kidsL; rw [prs_eq,List.map_map]; rfl
theorem xb9f (H:Hs) (f d:Nat) (L:Prs) (i:Nat):(kidI H f d L i).length≤i:=by
 unfold kidI; rw [List.length_map]; exact Nat.le_trans (List.length_filter_le _ _) (by simp)
theorem xb8p {H:Hs} (hH:H.Ok) {L:Prs} (h:Srt H L) (hn:L≠[]):sgl H L = decide (H.kd (L.getD 0 ([],[])).1 = H.kd (L.getD (L.length - 1) ([],[])).1):=by
 cases L with
 | nil=>exact absurd rfl hn
 | cons x L =>
  have el:((x :: L).getD ((x :: L).length - 1) ([],[])) = (x :: L).getLast (by simp):=by
   rw [List.getLast_eq_getElem,List.getD_eq_getElem?_getD,List.getElem?_eq_getElem (by simp)]; rfl
  rw [el]
  by_cases g:H.kd x.1 = H.kd ((x :: L).getLast (by simp)).1
  ·rw [xb8f hH h g]
   exact (decide_eq_true g).symm
  ·rw [List.getD_cons_zero,decide_eq_false g]
   cases hs:sgl H (x :: L) with
   | false=>rfl
   | true=>exact absurd (xa1e.1 hs x (by simp) _ (List.getLast_mem _)) g
section
open Go.RowKit Go.BigFrame
def fitP (q v:List Nat):Bool:=decide (q.length≤64∧v.length≤256)
theorem xa6q (x y:Value) (q v:List Nat) (w:World) (hx:Rd w x q) (hy:Rd w y v) :
  Calls Tryz.prog 35 #[x,y] w fun e w'=>e = .returned (.int .i64 (if fitP q v = true then 0 else 2))∧w' = w:=by
 obtain ⟨ao,n,c,rfl,h1,_⟩:=hx
 obtain ⟨bo,m,d,rfl,g1,_⟩:=hy
 have he:fitP q v = decide (n≤64∧m≤256):=by unfold fitP; rw [h1,g1]
 rw [he]
 clear he h1 g1
 by_cases p1:n≤64
 ·have p2:¬ (n:Int) > 64:=by omega
  have p3:¬ (64:Int) < n:=by omega
  by_cases r1:m≤256
  ·have r2:¬ (m:Int) > 256:=by omega
   have r3:¬ (256:Int) < m:=by omega
   rw [decide_eq_true ⟨p1,r1⟩,if_pos rfl]
   go_enter Tryz.func35,Tryz.ntmps35
   go_wp2
   go_ret
   exact ⟨rfl,rfl⟩
  ·have r2:(m:Int) > 256:=by omega
   have r3:(256:Int) < m:=by omega
   rw [decide_eq_false (fun h=>r1 h.2),if_neg (by decide)]
   go_enter Tryz.func35,Tryz.ntmps35
   go_wp2
   go_ret
   exact ⟨rfl,rfl⟩
 ·have p2:(n:Int) > 64:=by omega
  have p3:(64:Int) < n:=by omega
  rw [decide_eq_false (fun h=>p1 h.1),if_neg (by decide)]
  go_enter Tryz.func35,Tryz.ntmps35
  go_wp2
  go_ret
  exact ⟨rfl,rfl⟩
def itC (D:List Nat) (kv vv:Value):List Value:=D.map u8++([kv,vv]++[])
theorem xa2d {D:List Nat} (h:D.length = 32) (kv vv:Value):(itC D kv vv).length = 34:=by simp [itC,h]
def zit:Array Value:=(itC (List.replicate 32 0) (.slice none 0 0) (.slice none 0 0)).toArray
theorem lit_it:(#[.int .u8 0,.int .u8 0,.int .u8 0,.int .u8 0,.int .u8 0,.int .u8 0,.int .u8 0,.int .u8 0,.int .u8 0,.int .u8 0,.int .u8 0,.int .u8 0,.int .u8 0,.int .u8 0,.int .u8 0,.int .u8 0,.int .u8 0,.int .u8 0,.int .u8 0,.int .u8 0,.int .u8 0,.int .u8 0,.int .u8 0,.int .u8 0,.int .u8 0,.int .u8 0,.int .u8 0,.int .u8 0,.int .u8 0,.int .u8 0,.int .u8 0,.int .u8 0,.slice none 0 0,.slice none 0 0]:Array Value) = zit:=rfl
theorem Tryz.size_it:(Tryz.prog.info? 116).map (·.size) = some 34:=by kernel_rfl
theorem Tryz.infoIt:(Tryz.prog.info? 116).map (fun i=>(i.zero,i.size,i.bytes)) = some (some (.agg zit),34,80):=by kernel_rfl
theorem xb7g {D:List Nat} {kv vv:Value} (h1:kv.oneCell' = true) (h2:vv.oneCell' = true):∀ u∈itC D kv vv,u.oneCell' = true:=by
 intro u hu
 unfold itC at hu
 rcases List.mem_append.1 hu with h | h
 ·obtain ⟨x,_,rfl⟩:=List.mem_map.1 h; rfl
 ·simp only [List.cons_append,List.nil_append,List.mem_cons,List.not_mem_nil,or_false] at h
  rcases h with rfl | rfl
  ·exact h1
  ·exact h2
theorem xa7n {D:List Nat} {kv vv:Value} (h1:kv.oneCell' = true) (h2:vv.oneCell' = true):(itC D kv vv).toArray.all (·.oneCell') = true :=
 Array.all_eq_true_iff_forall_mem.2 (fun v hv=>xb7g h1 h2 v (by simpa using hv))
theorem xa1a {D:List Nat} (h:D.length = 32) (kv vv:Value):(itC D kv vv).toArray.size = 34:=by rw [List.size_toArray,xa2d h]
theorem it_row {W:World} {g:Nat} {D:List Nat} {kv vv:Value} {t:TypeId} {fr:Nat × Nat} (h:W.heap[g]? = some (.cells (itC D kv vv).toArray t fr)) (hD:D.length = 32):W.rangeAt g 0 (D.map u8)∧W.cell? ⟨g,32,none⟩ = some kv∧W.cell? ⟨g,33,none⟩ = some vv:=by
 have h1:=xa0k [] (D.map u8) ([kv,vv]++[]) (n:=0) (by simpa [itC] using h) rfl
 have h2:=xa0k (D.map u8) [kv,vv] [] (n:=32) h (by rw [List.length_map,hD])
 exact ⟨h1,h2 0 _ rfl,h2 1 _ rfl⟩
theorem xb3v {W:World} {g:Nat} {D:List Nat} {kv vv:Value} {t:TypeId} {fr:Nat × Nat} (h:W.heap[g]? = some (.cells (itC D kv vv).toArray t fr)) (hD:D.length = 32):W.rangeAt g 32 [kv,vv] :=
 xa0k (D.map u8) [kv,vv] [] (n:=32) h (by rw [List.length_map,hD])
def itR (k:Nat) (l:List VP) (L:Prs):List (List Value):=(l.zip L).map fun p=>itC ((hsZ k).kd p.2.1) p.1.1 p.1.2
theorem xb0a {k:Nat} {l:List VP} {L:Prs} (h:l.length = L.length):(itR k l L).length = l.length:=by simp [itR,h]
theorem xa2f {k:Nat} {l:List VP} {L:Prs}:∀ r∈itR k l L,r.length = 34:=by
 intro r hr
 obtain ⟨p,_,rfl⟩:=List.mem_map.1 hr
 exact xa2d (xa0e _ _) _ _
theorem xc1c {k:Nat} {l l':List VP} {L L':Prs} (h:l.length = L.length):itR k (l++l') (L++L') = itR k l L++itR k l' L':=by
 unfold itR; rw [List.zip_append h,List.map_append]
theorem itR_at {k:Nat} {l:List VP} {L:Prs} (h:l.length = L.length) (i:Nat) (hi:i < l.length):(itR k l L)[i]'(by rw [xb0a h]; exact hi) = itC ((hsZ k).kd (L.getD i ([],[])).1) (l.getD i (undef,undef)).1 (l.getD i (undef,undef)).2:=by
 have hi2:i < L.length:=by omega
 simp [itR,List.getD_eq_getElem?_getD,List.getElem?_eq_getElem hi,List.getElem?_eq_getElem hi2]
theorem xc1v {S:Nat→Prop} {s:Nat} {W W':World} {v:Value} {rows:List (List Value)} (h:RdC s W v rows) (a:Agr S W W') (hs:∀ x∈blk v,S x):RdC s W' v rows:=by
 obtain ⟨ao,len,cap,rfl,h1,h2,h3,h4⟩:=h
 refine ⟨ao,len,cap,rfl,h1,h2,h3,fun hp=>?_⟩
 obtain ⟨b,off,rfl,hc⟩:=h4 hp
 exact ⟨b,off,rfl,fun i hi j u hu=>a.cell (hc i hi j u hu) (hs b (by simp [blk]))⟩
def IAt (T:Nat→Prop) (k:Nat) (W:World) (v:Value) (L:Prs):Prop:=∃ l:List VP,RdC 34 W v (itR k l L)∧(∀ x∈blk v,T x∧x < W.heap.size)∧PR T W l L
theorem IAt.agr {T:Nat→Prop} {k:Nat} {W W':World} {v:Value} {L:Prs} (h:IAt T k W v L) (a:Agr T W W'):IAt T k W' v L:=by
 obtain ⟨l,h1,h2,h3⟩:=h
 exact ⟨l,xc1v h1 a (fun x hx=>(h2 x hx).1),fun x hx=>⟨(h2 x hx).1,Nat.lt_of_lt_of_le (h2 x hx).2 a.1⟩,h3.agr a⟩
theorem IAt.nil (T:Nat→Prop) (k:Nat) (W:World):IAt T k W (.slice none 0 0) []:=⟨[],RdC.nil _ _,by simp [blk],PR.nil _ _⟩
theorem IAt.parts {T:Nat→Prop} {k:Nat} {W:World} {v:Value} {L:Prs} (h:IAt T k W v L):∃ (ao:Option Addr) (c:Nat) (l:List VP),v = .slice ao L.length c∧L.length≤c∧c≤9223372036854775807∧l.length = L.length∧PR T W l L ∧
  (0 < L.length→∃ b off,ao = some ⟨b,off,none⟩∧T b∧∀ i,i < L.length→W.rangeAt b (off + i * 34) (itC ((hsZ k).kd (L.getD i ([],[])).1) (l.getD i (undef,undef)).1 (l.getD i (undef,undef)).2)):=by
 obtain ⟨l,⟨ao,len,cap,rfl,h1,h2,h3,h4⟩,hb,hp⟩:=h
 have hl:=hp.1
 rw [xb0a hl,hl] at h1
 subst h1
 refine ⟨ao,cap,l,rfl,h2,h3,hl,hp,fun h0=>?_⟩
 obtain ⟨b,off,rfl,hc⟩:=h4 h0
 refine ⟨b,off,rfl,(hb b (by simp [blk])).1,fun i hi=>?_⟩
 have h9:=hc i (by rw [xb0a hl,hl]; exact hi)
 rw [itR_at hl i (by omega)] at h9
 exact h9
theorem xb7x {w:World} {v:Value} {bs:List Nat} (h:Rd w v bs):v.oneCell' = true:=by obtain ⟨_,_,_,rfl,_⟩:=h; rfl
theorem PR.one' {T:Nat→Prop} {W:World} {l:List VP} {L:Prs} (h:PR T W l L) (i:Nat) (hi:i < l.length):(l.getD i (undef,undef)).1.oneCell' = true∧(l.getD i (undef,undef)).2.oneCell' = true:=by
 obtain ⟨h1,h2⟩:=(h.2 i hi).now
 exact ⟨xb7x h1,xb7x h2⟩
def tS (T:Nat→Prop) (v:Value):Nat→Prop:=fun y=>T y∧v.ownBlock≠some y
structure ILay (T:Nat→Prop) (B:Nat) (k:Nat) (w:World) (v:Value) (l:List VP) (L:Prs):Prop where
 own:w.ownsRow B 116 34 v l.length (itR k l L).flatten
 pr:PR (tS T v) w l L
theorem ILay.nil (T:Nat→Prop) (B k:Nat) (w:World):ILay T B k w (.slice none 0 0) [] []:=⟨World.ownsRow_nil _ _ _ _,PR.nil _ _⟩
theorem ILay.agr {T:Nat→Prop} {B k:Nat} {w w':World} {v:Value} {l:List VP} {L:Prs} (h:ILay T B k w v l L) (kk:Kept [] w w'):ILay T B k w' v l L:=⟨kk.owns h.own (by simp),h.pr.agr (Agr.nil kk)⟩
theorem ILay.at_ {T:Nat→Prop} {B k:Nat} {w:World} {v:Value} {l:List VP} {L:Prs} (h:ILay T B k w v l L) (hT:∀ y,B≤y→T y):IAt T k w v L:=by
 have hl:=h.pr.1
 refine ⟨l,xa1z (by rw [xb0a hl]; exact h.own) xa2f,fun x hx=>?_,h.pr.mono (fun x hx=>hx.1)⟩
 obtain ⟨ao,cap,rfl⟩:=xa0h h.own
 cases ao with
 | none=>simp [blk] at hx
 | some a =>
  rcases h.own.2 with ⟨e,_⟩ | ⟨g,c,cur,e,hg,_⟩
  ·cases e
  ·injection e with e1
   injection e1 with e2
   have:x = g:=by rw [e2] at hx; simpa [blk] using hx
   have hlt:=(h.own.lt x (by rw [this,e2]; rfl)).2
   exact ⟨hT x (by omega),hlt⟩
theorem ILay.snoc {T:Nat→Prop} {B k:Nat} {w w1:World} {v v':Value} {l:List VP} {L:Prs} {kz vz:Value} {a b:List Nat} (h:ILay T B k w v l L) (hkv:Sty (tS T v) w (fun w=>Rd w kz a∧Rd w vz b))
  (ho:w1.ownsRow B 116 34 v' (l.length + 1) ((itR k l L).flatten++(itR k [(kz,vz)] [(a,b)]).flatten)) (hg:w.grownBy w1 v.ownBlock) (hb:v'.ownBlock = v.ownBlock∨v'.ownBlock = some w.heap.size):ILay T B k w1 v' (l++[(kz,vz)]) (L++[(a,b)]):=by
 have hp:=(h.pr.app (PR.one (S:=tS T v) (W:=w) (x:=kz) (y:=vz) (a:=a) (b:=b) (fun w' k'=>(hkv w' k').1) (fun w' k'=>(hkv w' k').2))).shrink
 have hK:=(Kept.refl v.ownBlock.toList w).grown hg (by intro x hx; left; simp [hx])
 have ha:Agr (lowS (tS T v) w) w w1:=⟨hK.size,fun x hx hl=>hK.block x hl (by
  intro hm
  have:v.ownBlock = some x:=by simpa using hm
  exact hx.1.2 this)⟩
 refine ⟨?_,(hp.agr ha).mono (fun x hx=>⟨hx.1.1,?_⟩)⟩
 ·rw [List.length_append,xc1c h.pr.1,List.flatten_append]; exact ho
 ·rcases hb with e | e
  ·rw [e]; exact hx.1.2
  ·rw [e]; intro e2; have h2:=hx.2; injection e2 with e3; omega
theorem infoItp:∃ i,Tryz.prog.info? 116 = some i∧i.zero = some (.agg zit)∧i.size = 34:=by
 have h:=Tryz.infoIt
 generalize Tryz.prog.info? 116 = o at h
 cases o with
 | none=>cases h
 | some i =>
  have h1:=Option.some.inj h
  exact ⟨i,rfl,(Prod.mk.inj h1).1,(Prod.mk.inj (Prod.mk.inj h1).2).1⟩
theorem xb9d {o:Oper} {a:Act} (w:World) (x:Operand) (ho:o.op = .buildSlice 26 1 #[(0,x)]) (cs:List Value) (hcs:cs.length = 34) (hx:a.eval x = .agg cs.toArray):(execOp a.eval o).run Tryz.prog w = .ok (.value (.slice (some ⟨w.heap.size,0,none⟩) 1 1)) (w.alloc (.cells cs.toArray 116)):=by
 obtain ⟨i0,hi,hz0,hz1⟩:=infoItp
 have h9:=Great.fill_whole (s:=34) (by omega) [Value.agg cs.toArray] ((Array.range (1 * 34)).map ((Value.agg zit).cells[· % (Value.agg zit).cells.size]!)) (by
  intro v hv
  have e:v = Value.agg cs.toArray:=by simpa using hv
  subst e
  show cs.toArray.size = 34
  rw [List.size_toArray,hcs]) (by simp)
 have hb:=run_buildSlice w 26 116 1 #[(0,.agg cs.toArray)] cs.toArray i0 _ Tryz.underlying26 hi hz0 (by rw [hz1]; decide) (by rw [hz1]; decide) (by
  rw [hz1]
  refine Eq.trans h9 ?_
  show some (cs.toArray.toList++[]).toArray = some cs.toArray
  rw [List.append_nil])
 unfold execOp
 simp only [ho,List.map_toArray,List.map_cons,List.map_nil,hx,Sem.run_bind,hb,Result.andThen_ok]
 rfl
theorem xa1c {ops:Array Oper} {rest:List Oper} {o:Oper} {a:Act} {w:World} {Q:Exit→Act→World→Prop} (hw:Region.wanted o (yielded ops a.tmps) = true) (x:Operand) (ho:o.op = .buildSlice 26 1 #[(0,x)]) (cs:List Value) (hcs:cs.length = 34) (hx:a.eval x = .agg cs.toArray)
  (h:wpList Tryz.prog ops Q rest (a.put o.dst (.slice (some ⟨w.heap.size,0,none⟩) 1 1)) (w.alloc (.cells cs.toArray 116))):wpList Tryz.prog ops Q (o :: rest) a w :=
 wpList_want hw fun _ hK=>by
  unfold Oper.wp
  rw [xb9d w x ho cs hcs hx]
  exact hK _ _ h
theorem lit_rd {W:World} {k g:Nat} {q v:List Nat} {kv vv:Value} (h:W.heap[g]? = some (.cells (itC ((hsZ k).kd q) kv vv).toArray 116 (0,0))):RdC 34 W (.slice (some ⟨g,0,none⟩) 1 1) (itR k [(kv,vv)] [(q,v)]) :=
 ⟨_,1,1,rfl,rfl,Nat.le_refl _,by omega,fun _=>⟨g,0,rfl,fun j hj=>by
  have h0:j = 0:=by simp [itR] at hj; omega
  subst h0
  exact xa0k [] (itC ((hsZ k).kd q) kv vv) [] (by rw [List.nil_append,List.append_nil]; exact h) rfl⟩⟩
theorem xa4i {k:Nat} {q v:List Nat} {kv vv:Value} (h1:kv.oneCell' = true) (h2:vv.oneCell' = true):∀ r∈itR k [(kv,vv)] [(q,v)],∀ u∈r,u.oneCell' = true:=by
 intro r hr u hu
 have e:r = itC ((hsZ k).kd q) kv vv:=by simpa [itR] using hr
 subst e
 exact xb7g h1 h2 u hu
end
section
open Go Go.RowKit Go.BigFrame
section
variable {P:Program} {Q:Exit→Act→World→Prop} {S:World→Prop}
theorem xb8e {id:Nat} {O:Array Oper} {a:Act} {w:World} {R C:List Nat} {rs cs:List Oper} (hm:P.follows .mixedOrders = true) (hb:linB O R C [] = true) (hR:R.map (O[·]?) = rs.map some) (hC:C.map (O[·]?) = cs.map some) (hg:cs.all (fun o=>o.guard.isNone) = true)
  (hS:S w.drew) (h:LinG P O S (ChL P Q S (Q .normal) cs) rs a w.drew):(Code.region id O true).wp P Q a w:=by
 unfold linB at hb
 simp only [Bool.and_eq_true,decide_eq_true_eq] at hb
 obtain ⟨⟨b1,b2⟩,b3,b4,b5,b6⟩:=hb
 rw [List.all_eq_true] at hg
 refine wp_region_noPanic ?_
 refine wp_region_held_drew (S:=S) hm hS (fun _=>?_)
 rw [b2]
 have h2:=fun a w h=>xa2q (P:=P) (Q:=Q) (S:=S) (xa2y (decide_eq_true b6)) C cs (linD R (linS O)) a w hC (fun o ho=>by simpa using hg o ho) b4 rfl h
 have:=xa2k (P:=P) (Q:=Q) (S:=S) b1 h2 R rs (linS O) a w.drew hR b3 rfl hS h
 unfold linS at this
 rw [show R.length + (C.length + (([]:List Nat).length + 0)) = R.length + (C.length + 0) from rfl]
 rw [show R.length + (C.length + (([]:List Nat).length + 0)) = R.length + (C.length + 0) from rfl] at b2
 rw [b2] at this
 exact this
end
theorem lr_or {P:Program} {Q:Exit→Act→World→Prop} {id:Nat} {o0 o1 o2 o3 o4 o5:Oper} {a:Act} {w:World} (hm:P.follows .mixedOrders = true) (hb:linB #[o0,o1,o2,o3,o4,o5] [0,1,2,3] [4,5] [] = true) (hg:([o0,o1,o2,o3]++([o4,o5]++[])).all (fun o=>o.guard.isNone) = true) (S:World→Prop) (hS:S w.drew)
  (h:LinY P S (ChL P Q S (Q .normal) [o4,o5]) [o0,o1,o2,o3] a w.drew):(Code.region id #[o0,o1,o2,o3,o4,o5] true).wp P Q a w:=xa0u (R:=[0,1,2,3]) (C:=[4,5]) (rs:=[o0,o1,o2,o3]) (cs:=[o4,o5]) hm hb rfl rfl hg hS h
theorem lr_sp {P:Program} {Q:Exit→Act→World→Prop} {id:Nat} {o0 o1 o2 o3 o4 o5 o6 o7 o8 o9:Oper} {a:Act} {w:World} (hm:P.follows .mixedOrders = true) (hb:linB #[o0,o1,o2,o3,o4,o5,o6,o7,o8,o9] [0,1,2,3,4,5,6,7] [8,9] [] = true) (hg:([o0,o1,o2,o3,o4,o5,o6,o7]++([o8,o9]++[])).all (fun o=>o.guard.isNone) = true) (S:World→Prop) (hS:S w.drew)
  (h:LinY P S (ChL P Q S (Q .normal) [o8,o9]) [o0,o1,o2,o3,o4,o5,o6,o7] a w.drew):(Code.region id #[o0,o1,o2,o3,o4,o5,o6,o7,o8,o9] true).wp P Q a w:=xa0u (R:=[0,1,2,3,4,5,6,7]) (C:=[8,9]) (rs:=[o0,o1,o2,o3,o4,o5,o6,o7]) (cs:=[o8,o9]) hm hb rfl rfl hg hS h
theorem xc1k {P:Program} {Q:Exit→Act→World→Prop} {id:Nat} {o0 o1 o2 o3 o4 o5 o6 o7 o8 o9 o10 o11 o12 o13 o14 o15 o16:Oper} {a:Act} {w:World} (hm:P.follows .mixedOrders = true) (hb:linB #[o0,o1,o2,o3,o4,o5,o6,o7,o8,o9,o10,o11,o12,o13,o14,o15,o16] [0,1,2,3,4,5,6,7,8,9,10,11,12,13,14,15,16] [] [] = true) (hg:([o0,o1,o2,o3,o4,o5,o6,o7,o8,o9,o10,o11,o12,o13,o14,o15,o16]++([]++[])).all (fun o=>o.guard.isNone) = true) (S:World→Prop) (hS:S w.drew)
  (h:LinY P S (ChL P Q S (Q .normal) []) [o0,o1,o2,o3,o4,o5,o6,o7,o8,o9,o10,o11,o12,o13,o14,o15,o16] a w.drew):(Code.region id #[o0,o1,o2,o3,o4,o5,o6,o7,o8,o9,o10,o11,o12,o13,o14,o15,o16] true).wp P Q a w:=xa0u (R:=[0,1,2,3,4,5,6,7,8,9,10,11,12,13,14,15,16]) (C:=[]) (rs:=[o0,o1,o2,o3,o4,o5,o6,o7,o8,o9,o10,o11,o12,o13,o14,o15,o16]) (cs:=[]) hm hb rfl rfl hg hS h
theorem lr_ss6 {P:Program} {Q:Exit→Act→World→Prop} {id:Nat} {o0 o1 o2 o3 o4 o5 o6 o7 o8 o9 o10 o11 o12 o13 o14 o15 o16 o17 o18 o19 o20 o21 o22 o23 o24 o25:Oper} {a:Act} {w:World} (hm:P.follows .mixedOrders = true) (hb:linB #[o0,o1,o2,o3,o4,o5,o6,o7,o8,o9,o10,o11,o12,o13,o14,o15,o16,o17,o18,o19,o20,o21,o22,o23,o24,o25] [0,1,2,3,4,5,6,7,8,9,10,11,12,13,14,15,16,17,18,19,20,21,22,23,24,25] [] [] = true) (S:World→Prop) (hS:S w.drew)
  (h:LinG P #[o0,o1,o2,o3,o4,o5,o6,o7,o8,o9,o10,o11,o12,o13,o14,o15,o16,o17,o18,o19,o20,o21,o22,o23,o24,o25] S (Q .normal) [o0,o1,o2,o3,o4,o5,o6,o7,o8,o9,o10,o11,o12,o13,o14,o15,o16,o17,o18,o19,o20,o21,o22,o23,o24,o25] a w.drew):(Code.region id #[o0,o1,o2,o3,o4,o5,o6,o7,o8,o9,o10,o11,o12,o13,o14,o15,o16,o17,o18,o19,o20,o21,o22,o23,o24,o25] true).wp P Q a w:=xb6i (R:=[0,1,2,3,4,5,6,7,8,9,10,11,12,13,14,15,16,17,18,19,20,21,22,23,24,25]) (rs:=[o0,o1,o2,o3,o4,o5,o6,o7,o8,o9,o10,o11,o12,o13,o14,o15,o16,o17,o18,o19,o20,o21,o22,o23,o24,o25]) hm hb rfl hS h
theorem lr_si {P:Program} {Q:Exit→Act→World→Prop} {id:Nat} {o0 o1 o2 o3 o4 o5 o6 o7 o8 o9 o10 o11 o12 o13 o14 o15 o16 o17:Oper} {a:Act} {w:World} (hm:P.follows .mixedOrders = true) (hb:linB #[o0,o1,o2,o3,o4,o5,o6,o7,o8,o9,o10,o11,o12,o13,o14,o15,o16,o17] [0,1,2,3,4,5,6,7,8,9,10,11,12,13,14,15,16] [17] [] = true) (hg:[o17].all (fun o=>o.guard.isNone) = true) (S:World→Prop) (hS:S w.drew)
  (h:LinG P #[o0,o1,o2,o3,o4,o5,o6,o7,o8,o9,o10,o11,o12,o13,o14,o15,o16,o17] S (ChL P Q S (Q .normal) [o17]) [o0,o1,o2,o3,o4,o5,o6,o7,o8,o9,o10,o11,o12,o13,o14,o15,o16] a w.drew):(Code.region id #[o0,o1,o2,o3,o4,o5,o6,o7,o8,o9,o10,o11,o12,o13,o14,o15,o16,o17] true).wp P Q a w:=xb8e (R:=[0,1,2,3,4,5,6,7,8,9,10,11,12,13,14,15,16]) (C:=[17]) (rs:=[o0,o1,o2,o3,o4,o5,o6,o7,o8,o9,o10,o11,o12,o13,o14,o15,o16]) (cs:=[o17]) hm hb rfl rfl hg hS h
end
section
open Go.RowKit Go.BigFrame
set_option maxHeartbeats 1000000 in
theorem xa4k (d:List Nat) (i:Nat) (w:World) (hd:Dg d) (hi:i < 64) :
  Calls Tryz.prog 61 #[.agg (brow d),.int .i64 i] w fun e w'=>e = .returned (.int .i64 (dgt d i:Int))∧Kept [] w w':=by
 have hx:d.getD (i / 2) 0 < 256:=by rw [List.getD_eq_getElem?_getD,List.getElem?_eq_getElem (by have:=hd.1; omega)]; exact hd.2 _ (List.getElem_mem _)
 have HA:=hide (heap_alloc_new w (.cells (brow d) 50))
 have ci:=xa0o (uh HA) (i / 2) (by have:=hd.1; omega)
 have HK:=hide ((Kept.refl [] w).alloc (.cells (brow d) 50))
 clear hd
 obtain ⟨x,he⟩:∃ x,d.getD (i / 2) 0 = x:=⟨_,rfl⟩
 obtain ⟨j,hj⟩:∃ j,i / 2 = j:=⟨_,rfl⟩
 rw [he] at hx ci
 have hj2:(i:Int).tdiv 2 = j:=by rw [Int.tdiv_eq_ediv_of_nonneg (by omega)]; omega
 have hj3:(i:Int) / 2 = j:=by omega
 have hj4:(j:Int) < 32:=by omega
 have t1:(x:Int).tdiv 16 = ((x / 16:Nat):Int):=by rw [Int.tdiv_eq_ediv_of_nonneg (by omega)]; omega
 have t2:(x:Int).tmod 16 = ((x % 16:Nat):Int):=by rw [Int.tmod_eq_emod_of_nonneg (by omega)]; omega
 have w1:IntKind.u8.wrap ((x / 16:Nat):Int) = ((x / 16:Nat):Int):=by simp [IntKind.wrap,IntKind.signed,IntKind.bits]; omega
 have w2:IntKind.u8.wrap ((x % 16:Nat):Int) = ((x % 16:Nat):Int):=by simp [IntKind.wrap,IntKind.signed,IntKind.bits]; omega
 have w3:IntKind.i64.wrap ((x / 16:Nat):Int) = ((x / 16:Nat):Int):=by simp [IntKind.wrap,IntKind.signed,IntKind.bits]; omega
 have w4:IntKind.i64.wrap ((x % 16:Nat):Int) = ((x % 16:Nat):Int):=by simp [IntKind.wrap,IntKind.signed,IntKind.bits]; omega
 rw [hj] at ci
 by_cases hp:i % 2 = 0
 ·have hp2:(i:Int) % 2 = 0:=by omega
  have hp3:(i:Int).tmod 2 = 0:=by rw [Int.tmod_eq_emod_of_nonneg (by omega)]; omega
  have HR:=hide (by unfold dgt; rw [if_pos hp,he]:dgt d i = x / 16)
  go_enter Tryz.func61,Tryz.ntmps61
  go_wp2
  go_ret
  exact ⟨by rw [uh HR]; first | rfl | (congr 2; omega),uh HK⟩
 ·have hp2:(i:Int) % 2 = 1:=by omega
  have hp3:(i:Int).tmod 2 = 1:=by rw [Int.tmod_eq_emod_of_nonneg (by omega)]; omega
  have HR:=hide (by unfold dgt; rw [if_neg hp,he]:dgt d i = x % 16)
  go_enter Tryz.func61,Tryz.ntmps61
  go_wp2
  go_ret
  exact ⟨by rw [uh HR]; first | rfl | (congr 2; omega),uh HK⟩
theorem xa9k (v:Value) (bs:List Nat) (w:World) (h:Rd w v bs) :
  Calls Tryz.prog 92 #[v] w fun e w'=>∃ v',e = .returned v'∧Rd w' v' bs∧(∀ x∈blk v',w.heap.size≤x)∧Kept [] w w' :=
 (xb9c v bs w h).mono fun e w' ⟨h1,h2,h3⟩=>⟨_,h1,xa3p h3 h.byte h.len,by simp [blk],h2⟩
theorem itmI:∃ i,Tryz.prog.info? 116 = some i∧i.zero = some (.agg zit):=by
 obtain ⟨i,h1,h2,_⟩:=infoItp
 exact ⟨i,h1,h2⟩
theorem fitm:∀ fs,Tryz.prog.underlying 116 = some (.struct fs)→fs.toList.mapM (fun f=>(Tryz.prog.info? f.type).map fun i=>(f.offset,i.size)) = some [(0,32),(32,2)]:=by
 intro fs hfs
 rw [Tryz.underlying116] at hfs
 injection hfs with hfs
 injection hfs with hfs
 subst hfs
 kernel_rfl
theorem xb2z (D:List Nat) (hD:D.length = 32) (x y:Value):Tryz.prog.built 116 [(0,.agg (brow D)),(1,.agg #[x,y])] = some (itC D x y).toArray:=by
 obtain ⟨it,hit,hz⟩:=itmI
 obtain ⟨fs,hfs⟩:∃ fs,Tryz.prog.underlying 116 = some (.struct fs):=⟨_,Tryz.underlying116⟩
 have hpl:=fitm fs hfs
 unfold Program.built
 rw [hit,hfs]
 simp only [hz,hpl,Value.cells]
 unfold zit itC
 have z1:(List.replicate 32 0:List Nat).length = 32:=List.length_replicate
 generalize (List.replicate 32 0:List Nat) = z at z1 ⊢
 have s1:=xa1d (place:=([(0,32),(32,2)].toArray[·]?)) (i:=0) (n:=32) (rest:=[(1,.agg #[x,y])]) [] (z.map u8) ([.slice none 0 0,.slice none 0 0]++[]) (D.map u8) (X:=.agg (brow D)) rfl rfl (by rw [List.length_map,hD]) (by rw [List.length_map,z1])
 have s2:=xa1d (place:=([(0,32),(32,2)].toArray[·]?)) (i:=1) (n:=2) (rest:=[]) (D.map u8) [.slice none 0 0,.slice none 0 0] [] [x,y] (X:=.agg #[x,y]) rfl (by show some (32,2) = some ((D.map u8).length,2); rw [List.length_map,hD]) rfl rfl
 exact s1.trans s2
set_option maxHeartbeats 2000000 in
theorem xb8h (k:Nat) (kv vv:Value) (q v:List Nat) (w:World) (hk:1≤k∧k≤32) (hku:Rd w kv q) (hvu:Rd w vv v) (hq:q.length≤140737488351232) :
  Calls Tryz.prog 62 #[.int .i64 k,kv,vv] w fun e w'=>∃ kz vz,e = .returned (.agg (itC ((hsZ k).kd q) kz vz).toArray)∧(Rd w' kz q∧Rd w' vz v)∧(∀ x,x∈blk kz∨x∈blk vz→w.heap.size≤x)∧Kept [] w w':=by
 have hDl:((hsZ k).kd q).length = 32:=xa0e _ _
 have hDe:sumD (k:Int) (2 :: q) = (hsZ k).kd q:=rfl
 have HKU:=hide hku
 have HVU:=hide hvu
 generalize (hsZ k).kd q = D at hDl hDe ⊢
 have HDE:=hide hDe
 have HZ0:=hide (heap_alloc_new w (.cells zit 116))
 have HK0:=hide ((Kept.refl [] w).alloc (.cells zit 116))
 clear hku hvu hDe
 go_enter Tryz.func62,Tryz.ntmps62
 go_wp2_with fail
 rw [lit_it]
 refine Calls.mono (xa4s k kv q _ hk ((uh HKU).old (uh HK0) (by simp)) hq) ?_
 rintro e w1 ⟨rfl,k1⟩
 rw [uh HDE]
 have HK1:=hide ((uh HK0).trans k1 (by simp))
 have HZ1:=hide (k1.heap (uh HZ0) (by simp))
 clear k1
 go_wp2_with fail
 refine Calls.mono (xa9k kv q _ ((uh HKU).old (uh HK1) (by simp))) ?_
 rintro e w2 ⟨kz,rfl,ra,na,k2⟩
 have HK2:=hide ((uh HK1).trans k2 (by simp))
 have HZ2:=hide (k2.heap (uh HZ1) (by simp))
 have HRA:=hide ra
 have HNA:=hide na
 obtain ⟨p1,p2,p3,rfl,_⟩:=id ra
 clear k2 ra na
 go_wp2_with fail
 refine Calls.mono (xa9k vv v _ ((uh HVU).old (uh HK2) (by simp))) ?_
 rintro e w3 ⟨vz,rfl,rb,nb,k3⟩
 have HK3:=hide ((uh HK2).trans k3 (by simp))
 have HZ3:=hide (k3.heap (uh HZ2) (by simp))
 have HRA3:=hide ((uh HRA).old k3 (by simp))
 have HRB:=hide rb
 have HNB:=hide nb
 obtain ⟨r1,r2,r3,rfl,_⟩:=id rb
 clear k3 rb nb
 have HB1:=hide (xb2z D hDl (.slice p1 p2 p3) (.slice r1 r2 r3))
 have hsz:=xa1a hDl (.slice p1 p2 p3) (.slice r1 r2 r3)
 have hone:=xa7n (D:=D) (kv:=.slice p1 p2 p3) (vv:=.slice r1 r2 r3) rfl rfl
 go_wp2_with (first
  | (refine xa0p rfl 32 _ rfl #[.slice p1 p2 p3,.slice r1 r2 r3] (by simp only [List.map_toArray,List.map_cons,List.map_nil]; exact xa7p undef undef) ?_)
  | (refine xa0p rfl 116 _ rfl (itC D (.slice p1 p2 p3) (.slice r1 r2 r3)).toArray (by simp only [List.map_toArray,List.map_cons,List.map_nil]; exact uh HB1) ?_)
  | (refine wpList_store_row rfl 116 (.tmp 6) (.tmp 15) rfl w.heap.size (itC D (.slice p1 p2 p3) (.slice r1 r2 r3)).toArray rfl rfl _ zit (uh HZ3) (by rw [hsz]; exact Tryz.size_it) (by rw [hsz]; rfl) hone ?_))
 have hs4:=(uh HK3)
 have k4:=(Kept.refl [w.heap.size] w3).setRow (g:=w.heap.size) (Or.inl (by simp)) (itC D (.slice p1 p2 p3) (.slice r1 r2 r3)).toArray
 refine bodyPost_ret (v:=.agg (itC D (.slice p1 p2 p3) (.slice r1 r2 r3)).toArray) ?_ rfl ⟨.slice p1 p2 p3,.slice r1 r2 r3,rfl,⟨(uh HRA3).kept k4 ?_,(uh HRB).kept k4 ?_⟩,?_,(uh HK3).setRow (Or.inr (Nat.le_refl _)) _⟩
 ·exact results_cell_row rfl _ _ w.heap.size _ _ (0,0) _ rfl (setRow_heap _ _ _ _ _ _ (uh HZ3)) Tryz.underlying116 rfl (by rw [hsz]; exact Tryz.size_it)
 ·intro x hx hm
  have h1:=uh HNA x hx
  have h2:=lt_of_block (uh HZ1)
  simp at hm; omega
 ·intro x hx hm
  have h1:=uh HNB x hx
  have h2:=lt_of_block (uh HZ2)
  simp at hm; omega
 ·intro x hx
  have h0:=(uh HK1).size
  have h2:=(uh HK2).size
  rcases hx with hx | hx
  ·have h1:=uh HNA x hx; omega
  ·have h1:=uh HNB x hx; omega
set_option maxHeartbeats 2000000 in
theorem xb2d (k:Nat) (kx vx ky vy:Value) (a b va vb:List Nat) (w:World) (ha:Rd w kx a) (hb:Rd w ky b) (ha':Rd w vx va) (hb':Rd w vy vb) :
  Calls Tryz.prog 63 #[.agg (itC ((hsZ k).kd a) kx vx).toArray,.agg (itC ((hsZ k).kd b) ky vy).toArray] w fun e w'=>e = .returned (.int .i64 (ordI (hsZ k) a b))∧Kept [] w w':=by
 have hA:Dg ((hsZ k).kd a):=xa2v _ _
 have hB:Dg ((hsZ k).kd b):=xa2v _ _
 obtain ⟨a1,a2,a3,rfl,_⟩:=id ha
 obtain ⟨b1,b2,b3,rfl,_⟩:=id hb
 obtain ⟨c1,c2,c3,rfl,_⟩:=id ha'
 obtain ⟨d1,d2,d3,rfl,_⟩:=id hb'
 have HAu:=hide ha
 have HBu:=hide hb
 have hord:ordI (hsZ k) a b = if lessI ((hsZ k).kd a) ((hsZ k).kd b) = 0 then lessI a b else lessI ((hsZ k).kd a) ((hsZ k).kd b):=rfl
 rw [hord]
 generalize (hsZ k).kd a = A at hA ⊢
 generalize (hsZ k).kd b = B at hB ⊢
 obtain ⟨R,hR⟩:∃ R,(if lessI A B = 0 then lessI a b else lessI A B) = R:=⟨_,rfl⟩
 rw [hR]
 have HR:=hide hR
 clear hord ha hb ha' hb' hR
 have HX:=hide (heap_alloc_new w (.cells (itC A (.slice a1 a2 a3) (.slice c1 c2 c3)).toArray 116))
 have HK1:=hide ((Kept.refl [] w).alloc (.cells (itC A (.slice a1 a2 a3) (.slice c1 c2 c3)).toArray 116))
 obtain ⟨W1,hW1⟩:∃ W1,w.alloc (.cells (itC A (.slice a1 a2 a3) (.slice c1 c2 c3)).toArray 116) = W1:=⟨_,rfl⟩
 rw [hW1] at HX HK1
 have HY:=hide (heap_alloc_new W1 (.cells (itC B (.slice b1 b2 b3) (.slice d1 d2 d3)).toArray 116))
 have HK2:=hide ((Kept.refl [] W1).alloc (.cells (itC B (.slice b1 b2 b3) (.slice d1 d2 d3)).toArray 116))
 have HX2:=hide ((uh HK2).heap (uh HX) (by simp))
 obtain ⟨W2,hW2⟩:∃ W2,W1.alloc (.cells (itC B (.slice b1 b2 b3) (.slice d1 d2 d3)).toArray 116) = W2:=⟨_,rfl⟩
 rw [hW2] at HY HK2 HX2
 have HK:=hide ((uh HK1).trans (uh HK2) (by simp))
 obtain ⟨rA,cA,_⟩:=it_row (uh HX2) hA.1
 obtain ⟨rB,cB,_⟩:=it_row (uh HY) hB.1
 obtain ⟨gx,hgx⟩:∃ gx,w.heap.size = gx:=⟨_,rfl⟩
 obtain ⟨gy,hgy⟩:∃ gy,W1.heap.size = gy:=⟨_,rfl⟩
 rw [hgx] at rA cA
 rw [hgy] at rB cB
 have RA:=hide (show Rd W2 (.slice (some ⟨gx,0,none⟩) 32 32) A from ⟨_,32,32,rfl,hA.1,Nat.le_refl _,⟨by omega,by omega⟩,(fun h=>by cases h),hA.2,fun _=>⟨gx,0,rfl,fun i hi=>by
  have h9:=rA i (u8 (A.getD i 0)) (by rw [List.getElem?_map,List.getD_eq_getElem?_getD,List.getElem?_eq_getElem (by rw [hA.1]; exact hi)]; rfl)
  exact h9⟩⟩)
 have RB:=hide (show Rd W2 (.slice (some ⟨gy,0,none⟩) 32 32) B from ⟨_,32,32,rfl,hB.1,Nat.le_refl _,⟨by omega,by omega⟩,(fun h=>by cases h),hB.2,fun _=>⟨gy,0,rfl,fun i hi=>by
  have h9:=rB i (u8 (B.getD i 0)) (by rw [List.getElem?_map,List.getD_eq_getElem?_getD,List.getElem?_eq_getElem (by rw [hB.1]; exact hi)]; rfl)
  exact h9⟩⟩)
 have HCA:=hide cA
 have HCB:=hide cB
 clear rA rB cA cB
 go_enter Tryz.func63,Tryz.ntmps63
 go_upto_region 1 with fail
 try rw [hgx]
 try rw [hW1]
 try rw [hgy]
 try rw [hW2]
 refine lr_or (by kernel_rfl) (by kernel_rfl) rfl (fun W=>Kept [] W2 W) (Kept.refl _ W2).drew ?_
 refine LinY.rd (.pointer (some ⟨gx,0,none⟩)) (fun W hW=>by go_simp) (by simp only [Act.put,sa1,sa2,sa3]; rfl) ?_
 refine LinY.rd (.slice (some ⟨gx,0,none⟩) 32 32) (fun W hW=>by go_simp) (by simp only [Act.put,sa1,sa2,sa3]; rfl) ?_
 refine LinY.rd (.pointer (some ⟨gy,0,none⟩)) (fun W hW=>by go_simp) (by simp only [Act.put,sa1,sa2,sa3]; rfl) ?_
 refine LinY.rd (.slice (some ⟨gy,0,none⟩) 32 32) (fun W hW=>by go_simp) (by simp only [Act.put,sa1,sa2,sa3]; rfl) ?_
 have hd2:=(Kept.refl [] W2).drew
 refine LinY.fin (ChL.call rfl Tryz.call93 [.slice (some ⟨gx,0,none⟩) 32 32,.slice (some ⟨gy,0,none⟩) 32 32] rfl (xb1n _ _ A B W2.drew ((uh RA).old hd2 (by simp)) ((uh RB).old hd2 (by simp))) ?_)
 rintro e w4 ⟨rfl,k4⟩
 have hk4:=hd2.trans k4 (by simp)
 refine ⟨_,rfl,hk4,?_⟩
 simp only [Act.put,sa1,sa2,sa3]
 refine ChL.op (.int .i64 (lessI A B)) (by go_simp) hk4 (by simp only [Act.put,sa1,sa2,sa3]; rfl) (ChL.fin ?_)
 have HK4:=hide ((uh HK).trans hk4 (by simp))
 have cA4:=hk4.cell (uh HCA) (by simp)
 have cB4:=hk4.cell (uh HCB) (by simp)
 by_cases hz:lessI A B = 0
 ·have HRR:=hide (show lessI a b = R by have h9:=uh HR; rw [if_pos hz] at h9; exact h9)
  obtain ⟨X,hX⟩:∃ X,lessI A B = X:=⟨_,rfl⟩
  clear HR
  rw [hX] at hz ⊢
  subst hz
  go_wp2_with fail
  refine Calls.mono (xb1n _ _ a b w4 ((uh HAu).old (uh HK4) (by simp)) ((uh HBu).old (uh HK4) (by simp))) ?_
  rintro e w5 ⟨rfl,k5⟩
  have HK5:=hide ((uh HK4).trans k5 (by simp))
  clear k5
  go_wp2_with fail
  go_ret
  exact ⟨by rw [uh HRR]; rfl,uh HK5⟩
 ·have hrr:lessI A B = R:=by have h9:=uh HR; rw [if_neg hz] at h9; exact h9
  clear HR
  rw [hrr] at hz ⊢
  clear hrr
  have hz2:((R != 0):Bool) = true:=by rw [bne_iff_ne]; exact hz
  go_wp2_with fail
  go_ret
  exact ⟨rfl,uh HK4⟩
theorem sty_up {T:Nat→Prop} {v:Value} {w W:World} {P:World→Prop} (h:Sty T w P) (k:Kept [] w W) (ho:∀ x,v.ownBlock = some x→w.heap.size≤x):Sty (tS T v) W P:=fun w' a =>
 h.shrink w' ⟨Nat.le_trans k.size a.1,fun x hx hl=>(a.2 x ⟨hx.1,fun e=>by have:=ho x e; have:=hx.2; omega⟩ (Nat.lt_of_lt_of_le hl k.size)).trans (k.block x hl (by simp))⟩
theorem xb7m (H:Hs) (d i:Nat) (L:Prs) (e:List Nat × List Nat):ch H d i (L++[e]) = ch H d i L++(if dgt (H.kd e.1) d = i then [e] else []):=by
 unfold ch
 rw [List.filter_append,List.filter_cons]
 by_cases h:dgt (H.kd e.1) d = i
 ·rw [if_pos (by simpa using h),if_pos h]; rfl
 ·rw [if_neg (by simpa using h),if_neg h]; rfl
theorem ch_len (H:Hs) (d i:Nat) (L:Prs):(ch H d i L).length≤L.length:=List.length_filter_le _ _
set_option maxHeartbeats 4000000 in
theorem xa7s (T:Nat→Prop) (k d i:Nat) (mv:Value) (L:Prs) (w:World) (hM:IAt T k w mv L) (hd:d < 64) (hi:i < 16) (hl:L.length≤1000000000) (hT:∀ y,w.heap.size≤y→T y) :
  Calls Tryz.prog 90 #[mv,.int .i64 d,.int .i64 i] w fun e w'=>∃ v',e = .returned v'∧IAt T k w' v' (ch (hsZ k) d i L)∧Kept [] w w':=by
 have HM:=hide hM
 obtain ⟨ao,c,l,rfl,hc1,hc2,hll,hpr,hcell⟩:=hM.parts
 have HCE:=hide hcell
 have HPR:=hide hpr
 obtain ⟨n,hn⟩:∃ n,L.length = n:=⟨_,rfl⟩
 have HN:=hide hn
 rw [hn] at hc1 hl hll HCE ⊢
 clear hM hcell hpr hn
 go_enter Tryz.func90,Tryz.ntmps90
 go_wp2
 go_loopw [7,12] (fun t7 t12 wr=>∃ (j:Nat) (v:Value) (lx:List VP),t12 = .int .i64 j∧t7 = v∧j≤n∧Hid (ILay T w.heap.size k wr v lx (ch (hsZ k) d i (L.take j)))∧Hid (Kept [] w wr)) (fun _ t _=>n - (intOf t).toNat)
 case atStart=>exact ⟨0,.slice none 0 0,[],rfl,rfl,Nat.zero_le _,hide (ILay.nil _ _ _ _),hide (Kept.refl _ _)⟩
 case round =>
  obtain ⟨j,v,lx,rfl,rfl,hj,HLx,HKr⟩:=hrel
  by_cases hlt:j < n
  ·have hlt':(j:Int) < n:=by omega
   obtain ⟨b,off,rfl,hTb,hcl⟩:=uh HCE (by omega)
   have hRG:=hcl j hlt
   have hone:=(uh HPR).one' j (by omega)
   have hrd:=(uh HPR).2 j (by omega)
   generalize (l.getD j (undef,undef)).1 = kx at hRG hone hrd
   generalize (l.getD j (undef,undef)).2 = vx at hRG hone hrd
   have HSNOC:=hide (show L.take (j + 1) = L.take j++[L.getD j ([],[])] by
    have hjL:j < L.length:=by have:=uh HN; omega
    rw [List.take_succ_eq_append_getElem hjL,List.getD_eq_getElem?_getD,List.getElem?_eq_getElem hjL]; rfl)
   generalize L.getD j ([],[]) = ej at hRG hrd HSNOC
   obtain ⟨ka,va⟩:=ej
   have hDg:Dg ((hsZ k).kd ka):=xa2v _ _
   obtain ⟨D,hD⟩:∃ D,(hsZ k).kd ka = D:=⟨_,rfl⟩
   simp only [hD] at hRG
   rw [hD] at hDg
   have HD:=hide hD
   have HSTY:=hide hrd
   have HRG:=hide (show wr.rangeAt b (off + j * 34) (itC D kx vx) from fun u z hz=>(uh HKr).cell (hRG u z hz) (by simp))
   have HZ1:=hide (heap_alloc_new wr (.cells zit 116))
   have HN2:=hide (setRow_heap _ _ _ (itC D kx vx).toArray _ _ (uh HZ1))
   have HK12:=hide ((Kept.refl [] wr).alloc (.cells zit 116) |>.setRow (g:=wr.heap.size) (Or.inr (Nat.le_refl _)) (itC D kx vx).toArray)
   obtain ⟨W2,hW2⟩:∃ W2,(wr.alloc (.cells zit 116)).setRow wr.heap.size (itC D kx vx).toArray = W2:=⟨_,rfl⟩
   rw [hW2] at HN2 HK12
   have HK2:=hide ((uh HKr).trans (uh HK12) (by simp))
   have hwsz:w.heap.size≤wr.heap.size:=by have:=(uh HKr).size; omega
   obtain ⟨rD2,cK2,cV2⟩:=it_row (uh HN2) hDg.1
   have HRD2:=hide rD2
   have HCK2:=hide cK2
   have HCV2:=hide cV2
   have HPA2:=hide (xb3v (uh HN2) hDg.1)
   obtain ⟨kx1,kx2,kx3,rfl,_⟩:=hrd.now.1
   obtain ⟨vx1,vx2,vx3,rfl,_⟩:=hrd.now.2
   clear hrd hRG hcl rD2 hD hDg hone
   go_wp2_with (first
   | (refine wpList_load_mid rfl 116 (.tmp 14) rfl b (off + j * 34) rfl (itC D (.slice kx1 kx2 kx3) (.slice vx1 vx2 vx3)) _ (uh HRG) Tryz.underlying116 rfl (by rw [xa2d (by rw [← uh HD]; exact xa0e _ _)]; exact Tryz.size_it) ?_)
   | (rw [lit_it]; refine wpList_store_row rfl 116 (.tmp 9) (.tmp 15) rfl wr.heap.size (itC D (.slice kx1 kx2 kx3) (.slice vx1 vx2 vx3)).toArray rfl rfl _ zit (uh HZ1) (by rw [xa1a (by rw [← uh HD]; exact xa0e _ _)]; exact Tryz.size_it) (by rw [xa1a (by rw [← uh HD]; exact xa0e _ _)]; rfl) (xa7n rfl rfl) ?_; rw [hW2]; simp only [Act.put])
   | (refine wpList_load_mid rfl 50 (.tmp 16) rfl wr.heap.size 0 rfl (D.map u8) _ (uh HRD2) Tryz.underlying50 rfl (by rw [List.length_map,show D.length = 32 by rw [← uh HD]; exact xa0e _ _]; exact Tryz.size_dig) ?_))
   refine Calls.mono (xa4k D d W2 (by rw [← uh HD]; exact xa2v _ _) hd) ?_
   rintro e w4 ⟨rfl,k4⟩
   have HN4:=hide (k4.heap (uh HN2) (by simp))
   have HK4:=hide ((uh HK2).trans k4 (by simp))
   have HL4:=hide (((uh HLx).agr (uh HK12)).agr k4)
   have HZD:=hide (show dgt ((hsZ k).kd ka) d = dgt D d by rw [uh HD])
   clear k4
   generalize dgt D d = z at HZD ⊢
   by_cases hz:z = i
   ·subst hz
    obtain ⟨vo,vc,rfl⟩:=xa0h (uh HL4).own
    have hown:∀ z,(Value.slice vo lx.length vc).ownBlock = some z→w.heap.size≤z:=fun z hz=>((uh HL4).own.lt z hz).1
    have HW5:=hide (heap_alloc_new w4 (.cells (itC D (.slice kx1 kx2 kx3) (.slice vx1 vx2 vx3)).toArray 116))
    have HK45:=hide ((Kept.refl [] w4).alloc (.cells (itC D (.slice kx1 kx2 kx3) (.slice vx1 vx2 vx3)).toArray 116))
    have HL5:=hide ((uh HL4).agr (uh HK45))
    have HK5:=hide ((uh HK4).trans (uh HK45) (by simp))
    have HRL:=hide (lit_rd (k:=k) (q:=ka) (v:=va) (kv:=(.slice kx1 kx2 kx3)) (vv:=(.slice vx1 vx2 vx3)) (by rw [uh HD]; exact uh HW5))
    have hln:=(uh HL4).pr.1
    have hbnd:lx.length + 1≤1000000001:=by have h1:=ch_len (hsZ k) d z (L.take j); rw [List.length_take] at h1; omega
    clear hln
    go_wp2_with (first
   | (refine wpList_load_row rfl 116 (.tmp 9) rfl wr.heap.size rfl 116 (itC D (.slice kx1 kx2 kx3) (.slice vx1 vx2 vx3)).toArray (0,0) _ (uh HN4) Tryz.underlying116 rfl (by rw [xa1a (by rw [← uh HD]; exact xa0e _ _)]; exact Tryz.size_it) ?_)
   | (refine xa1c rfl (.tmp 23) rfl (itC D (.slice kx1 kx2 kx3) (.slice vx1 vx2 vx3)) (xa2d (by rw [← uh HD]; exact xa0e _ _) _ _) rfl ?_)
   | (at_builtin; refine xa0j rfl 26 116 (.tmp 22) (.tmp 24) rfl rfl _ w.heap.size (.agg zit) 34 80 Tryz.underlying26 Tryz.infoIt rfl (by decide) (.slice vo lx.length vc) lx.length (itR k lx (ch (hsZ k) d z (L.take j))).flatten (uh HL5).own (some ⟨w4.heap.size,0,none⟩) 1 1 (itR k [((.slice kx1 kx2 kx3),(.slice vx1 vx2 vx3))] [(ka,va)]) (uh HRL) xa2f (xa4i rfl rfl) (by omega) (by omega) (uh HK5).size rfl rfl ?_; intro ao7 c7 w7 HO7 HG7 HA7))
    have HS7:=hide ((uh HL5).snoc (a:=ka) (b:=va) (sty_up (uh HSTY) (uh HK5) hown) (uh HO7) (uh HG7) (uh HA7))
    have HK7:=hide ((uh HK5).grown (uh HG7) (fun z hz=>Or.inr (hown z hz)))
    clear hown hbnd
    refine ⟨⟨j + 1,.slice ao7 (lx.length + 1) c7,_,by go_num,rfl,hlt,hide (by rw [uh HSNOC,xb7m,if_pos (uh HZD)]; exact uh HS7),HK7⟩,?_⟩
    simp [intOf]; omega
   ·have hz2:((z:Int) == (i:Int)) = false:=by rw [beq_eq_false_iff_ne]; omega
    go_wp2_with fail
    refine ⟨⟨j + 1,_,lx,by go_num,rfl,hlt,hide (by rw [uh HSNOC,xb7m,if_neg (by rw [uh HZD]; exact hz),List.append_nil]; exact uh HL4),HK4⟩,?_⟩
    simp [intOf]; omega
  ·have hje:j = n:=by omega
   subst hje
   have hlt':¬ (j:Int) < j:=by omega
   go_wp2
   go_ret
   have h9:=(uh HLx).at_ hT
   rw [List.take_of_length_le (by have:=uh HN; omega)] at h9
   exact ⟨_,rfl,h9,uh HKr⟩
theorem same_k (u v:Value) (p q:List Nat) (w:World) (hu:Rd w u p) (hv:Rd w v q) :
  Calls Tryz.prog 21 #[u,v] w fun e w'=>e = .returned (.bool (decide (p = q)))∧Kept [] w w' :=
 (xb8z u v p q w hu hv).mono fun e w' ⟨h1,n,h2⟩=>⟨h1,by rw [h2]; exact (Kept.refl [] w).drewN n⟩
set_option maxHeartbeats 2000000 in
theorem xa8b (kx vx ky vy:Value) (a b va vb:List Nat) (w:World) (h1:Rd w kx a) (h2:Rd w vx va) (h3:Rd w ky b) (h4:Rd w vy vb) :
  Calls Tryz.prog 49 #[.agg #[kx,vx],.agg #[ky,vy]] w fun e w'=>e = .returned (.bool (decide (a = b) && decide (va = vb)))∧Kept [] w w':=by
 obtain ⟨a1,a2,a3,rfl,_⟩:=id h1
 obtain ⟨b1,b2,b3,rfl,_⟩:=id h2
 obtain ⟨c1,c2,c3,rfl,_⟩:=id h3
 obtain ⟨d1,d2,d3,rfl,_⟩:=id h4
 have H1:=hide h1
 have H2:=hide h2
 have H3:=hide h3
 have H4:=hide h4
 have HX:=hide (heap_alloc_new w (.cells #[.slice a1 a2 a3,.slice b1 b2 b3] 32))
 have HK1:=hide ((Kept.refl [] w).alloc (.cells #[.slice a1 a2 a3,.slice b1 b2 b3] 32))
 have HKB:=hide (fun (W:World)=>(Kept.refl [] W).alloc (.cells #[.slice c1 c2 c3,.slice d1 d2 d3] 32))
 have HYB:=hide (fun (W:World)=>heap_alloc_new W (.cells #[.slice c1 c2 c3,.slice d1 d2 d3] 32))
 have HX2:=hide ((uh HKB _).heap (uh HX) (by simp))
 have HK:=hide ((uh HK1).trans (uh HKB _) (by simp))
 have HY:=hide (uh HYB (w.alloc (.cells #[.slice a1 a2 a3,.slice b1 b2 b3] 32)))
 obtain ⟨W2,hW2⟩:∃ W2,(w.alloc (.cells #[.slice a1 a2 a3,.slice b1 b2 b3] 32)).alloc (.cells #[.slice c1 c2 c3,.slice d1 d2 d3] 32) = W2:=⟨_,rfl⟩
 have hz:(w.alloc (.cells #[.slice a1 a2 a3,.slice b1 b2 b3] 32)).heap.size = w.heap.size + 1:=by simp
 rw [hW2] at HX2 HK HY
 rw [hz] at HY
 have x0:=xa0k [] [.slice a1 a2 a3,.slice b1 b2 b3] [] (uh HX2) rfl
 have y0:=xa0k [] [.slice c1 c2 c3,.slice d1 d2 d3] [] (uh HY) rfl
 have k1:W2.cell? ⟨w.heap.size,0,none⟩ = some (.slice a1 a2 a3):=x0 0 _ rfl
 have k2:W2.cell? ⟨w.heap.size,1,none⟩ = some (.slice b1 b2 b3):=x0 1 _ rfl
 have k3:W2.cell? ⟨w.heap.size + 1,0,none⟩ = some (.slice c1 c2 c3):=y0 0 _ rfl
 have k4:W2.cell? ⟨w.heap.size + 1,1,none⟩ = some (.slice d1 d2 d3):=y0 1 _ rfl
 obtain ⟨R1,hR1⟩:∃ R1,decide (a = b) = R1:=⟨_,rfl⟩
 obtain ⟨R2,hR2⟩:∃ R2,decide (va = vb) = R2:=⟨_,rfl⟩
 have HR1:=hide hR1
 have HR2:=hide hR2
 rw [hR1,hR2]
 clear x0 y0 h1 h2 h3 h4 hz hR1 hR2 HX HK1 HKB HYB
 have HC2:=hide k2
 have HC4:=hide k4
 go_enter Tryz.func49,Tryz.ntmps49
 go_upto_region 1 with fail
 try rw [hW2]
 clear hW2
 go_wp2_with fail
 refine Calls.mono (same_k _ _ a b W2 ((uh H1).old (uh HK) (by simp)) ((uh H3).old (uh HK) (by simp))) ?_
 rintro e w4 ⟨rfl,k5⟩
 rw [uh HR1]
 have HK4:=hide ((uh HK).trans k5 (by simp))
 have c2':=k5.cell (uh HC2) (by simp)
 have c4':=k5.cell (uh HC4) (by simp)
 clear k1 k2 k3 k4 k5
 cases R1 with
 | false =>
  go_wp2_with fail
  go_ret
  exact ⟨rfl,uh HK4⟩
 | true =>
  go_wp2_with fail
  refine Calls.mono (same_k _ _ va vb w4 ((uh H2).old (uh HK4) (by simp)) ((uh H4).old (uh HK4) (by simp))) ?_
  rintro e w5 ⟨rfl,k6⟩
  rw [uh HR2]
  have HK5:=hide ((uh HK4).trans k6 (by simp))
  clear k6 c2' c4'
  go_wp2_with fail
  go_ret
  exact ⟨by simp,uh HK5⟩
theorem xa4j {α:Type} {p q:List α} {d:α} {k:Nat} (h:p.take k = q.take k) (hp:k < p.length) (hq:k < q.length) (e:p.getD k d = q.getD k d):p.take (k + 1) = q.take (k + 1):=by
 rw [List.take_succ_eq_append_getElem hp,List.take_succ_eq_append_getElem hq,h]
 rw [List.getD_eq_getElem?_getD,List.getD_eq_getElem?_getD,List.getElem?_eq_getElem hp,List.getElem?_eq_getElem hq] at e
 simp only [Option.getD_some] at e
 rw [e]
set_option maxHeartbeats 4000000 in
theorem xa5m (u v:Value) (ps qs:Prs) (w:World) (hu:RdK w u ps) (hv:RdK w v qs) :
  Calls Tryz.prog 23 #[u,v] w fun e w'=>e = .returned (.bool (decide (ps = qs)))∧Kept [] w w':=by
 obtain ⟨ao,len,cap,vs,us,rfl,h1,h2,h3,h4,h5⟩:=hu
 obtain ⟨ao',len',cap',vs',us',rfl,g1,g2,g3,g4,g5⟩:=hv
 have H4:=hide h4
 have H5:=hide h5
 have G4:=hide g4
 have G5:=hide g5
 obtain ⟨R,hR⟩:∃ R,decide (ps = qs) = R:=⟨_,rfl⟩
 rw [hR]
 have HR:=hide hR
 clear h4 h5 g4 g5 hR
 have HL1:=hide h1
 have HL2:=hide g1
 clear h1 g1
 by_cases hl:len = len'
 ·subst hl
  have hb:((len:Int) != (len:Int)) = false:=by simp
  go_enter Tryz.func23,Tryz.ntmps23
  go_wp2_with fail
  go_loopw [5] (fun t5 wr=>∃ (i:Nat),i≤len∧t5 = .int .i64 i∧Hid (ps.take i = qs.take i)∧Hid (Kept [] w wr)) (fun t _=>len - (intOf t).toNat)
  case atStart=>exact ⟨0,Nat.zero_le _,rfl,hide (by simp),hide (Kept.refl _ _)⟩
  case round =>
   obtain ⟨i,hi,rfl,HA,HK⟩:=hrel
   by_cases hlt:i < len
   ·have hlt':(i:Int) < len:=by omega
    have hip:i < ps.length:=by have:=uh HL1; omega
    have hiq:i < qs.length:=by have:=uh HL2; omega
    obtain ⟨b,o,rfl,hcell⟩:=uh H5 (by omega)
    obtain ⟨b',o',rfl,gcell⟩:=uh G5 (by omega)
    have p1:=(uh HK).cell (hcell i hlt).1 (by simp)
    have p2:=(uh HK).cell (hcell i hlt).2 (by simp)
    have q1:=(uh HK).cell (gcell i hlt).1 (by simp)
    have q2:=(uh HK).cell (gcell i hlt).2 (by simp)
    have HP:=hide (uh H4 i hlt)
    have HQ:=hide (uh G4 i hlt)
    have HN:=hide (fun (h:ps.getD i ([],[]) = qs.getD i ([],[]))=>xa4j (uh HA) hip hiq h)
    have HM:=hide (fun (h:¬ ps.getD i ([],[]) = qs.getD i ([],[]))=>show R = false by rw [← uh HR]; exact decide_eq_false (fun e=>h (by rw [e])))
    clear hcell gcell
    generalize ps.getD i ([],[]) = x at HP HN HM
    generalize qs.getD i ([],[]) = y at HQ HN HM
    generalize vs.getD i undef = va at p1 HP
    generalize us.getD i undef = vb at p2 HP
    generalize vs'.getD i undef = vc at q1 HQ
    generalize us'.getD i undef = vd at q2 HQ
    obtain ⟨xk,xv⟩:=x
    obtain ⟨yk,yv⟩:=y
    simp only at HP HQ
    obtain ⟨a1,a2,a3,rfl,_⟩:=(uh HP).1
    obtain ⟨b1,b2,b3,rfl,_⟩:=(uh HP).2
    obtain ⟨c1,c2,c3,rfl,_⟩:=(uh HQ).1
    obtain ⟨d1,d2,d3,rfl,_⟩:=(uh HQ).2
    have HRX:=hide (show wr.rangeAt b (o + i * 2) [.slice a1 a2 a3,.slice b1 b2 b3] from fun j u hj=>by
     match j,hj with
     | 0,hj=>rw [Nat.add_zero,p1]; exact hj
     | 1,hj=>rw [p2]; exact hj)
    have HRY:=hide (show wr.rangeAt b' (o' + i * 2) [.slice c1 c2 c3,.slice d1 d2 d3] from fun j u hj=>by
     match j,hj with
     | 0,hj=>rw [Nat.add_zero,q1]; exact hj
     | 1,hj=>rw [q2]; exact hj)
    clear p1 p2 q1 q2
    have HSC:=hide (fun (W:World) (hW:Kept [] wr W)=>xa8b _ _ _ _ xk yk xv yv W ((uh HP).1.old ((uh HK).trans hW (by simp)) (by simp)) ((uh HP).2.old ((uh HK).trans hW (by simp)) (by simp)) ((uh HQ).1.old ((uh HK).trans hW (by simp)) (by simp)) ((uh HQ).2.old ((uh HK).trans hW (by simp)) (by simp)))
    have HXY:=hide (show (decide (xk = yk) && decide (xv = yv)) = decide ((xk,xv) = (yk,yv)) by rw [Bool.eq_iff_iff]; simp)
    obtain ⟨X,hX⟩:∃ X,(decide (xk = yk) && decide (xv = yv)) = X:=⟨_,rfl⟩
    rw [hX] at HXY
    simp only [hX] at HSC
    clear hX
    go_upto_region 6 with fail
    refine lr_sp (by kernel_rfl) (by kernel_rfl) rfl (fun W=>Kept [] wr W) (Kept.refl _ wr).drew ?_
    refine LinY.rd (.slice (some ⟨b,o,none⟩) len cap) (fun W hW=>by go_simp) (by simp only [Act.put,sa1,sa2,sa3]; rfl) ?_
    refine LinY.rd (.int .i64 i) (fun W hW=>by go_simp) (by simp only [Act.put,sa1,sa2,sa3]; rfl) ?_
    refine LinY.rd (.pointer (some ⟨b,o + i * 2,none⟩)) (fun W hW=>by go_simp) (by simp only [Act.put,sa1,sa2,sa3]; rfl) ?_
    refine LinY.ld 32 (.tmp 19) rfl b (o + i * 2) rfl [.slice a1 a2 a3,.slice b1 b2 b3] _ (fun W hW=>hW.rng (uh HRX) (by simp)) Tryz.underlying32 rfl Tryz.size_pair (by simp only [Act.put,sa1,sa2,sa3]; rfl) ?_
    refine LinY.rd (.slice (some ⟨b',o',none⟩) len cap') (fun W hW=>by go_simp) (by simp only [Act.put,sa1,sa2,sa3]; rfl) ?_
    refine LinY.rd (.int .i64 i) (fun W hW=>by go_simp) (by simp only [Act.put,sa1,sa2,sa3]; rfl) ?_
    refine LinY.rd (.pointer (some ⟨b',o' + i * 2,none⟩)) (fun W hW=>by go_simp) (by simp only [Act.put,sa1,sa2,sa3]; rfl) ?_
    refine LinY.ld 32 (.tmp 23) rfl b' (o' + i * 2) rfl [.slice c1 c2 c3,.slice d1 d2 d3] _ (fun W hW=>hW.rng (uh HRY) (by simp)) Tryz.underlying32 rfl Tryz.size_pair (by simp only [Act.put,sa1,sa2,sa3]; rfl) ?_
    have hd2:=(Kept.refl [] wr).drew
    refine LinY.fin (ChL.call rfl Tryz.call49 [.agg #[.slice a1 a2 a3,.slice b1 b2 b3],.agg #[.slice c1 c2 c3,.slice d1 d2 d3]] rfl (uh HSC wr.drew hd2) ?_)
    rintro e w4 ⟨rfl,k4⟩
    have hk4:=hd2.trans k4 (by simp)
    refine ⟨_,rfl,hk4,?_⟩
    simp only [Act.put,sa1,sa2,sa3]
    refine ChL.op (.bool (!X)) (by go_simp) hk4 (by simp only [Act.put,sa1,sa2,sa3]; rfl) (ChL.fin ?_)
    have HK4:=hide ((uh HK).trans hk4 (by simp))
    clear hk4 k4 hd2 HSC HRX HRY HP HQ
    cases X with
    | true =>
     have hh:(xk,xv) = (yk,yv):=of_decide_eq_true (uh HXY).symm
     have HN2:=hide (uh HN hh)
     clear HN HM HXY hh
     go_wp2_with fail
     refine ⟨⟨i + 1,by omega,by go_num,HN2,HK4⟩,?_⟩
     simp [intOf]; omega
    | false =>
     have hh:¬ (xk,xv) = (yk,yv):=of_decide_eq_false (uh HXY).symm
     have hr:R = false:=uh HM hh
     clear HN HM HXY hh HR
     subst hr
     go_wp2_with fail
     go_ret
     exact ⟨rfl,uh HK4⟩
   ·have hlt':¬ (i:Int) < len:=by omega
    have hie:i = len:=by omega
    have hr:R = true:=by
     rw [← uh HR]
     refine decide_eq_true ?_
     have h9:=uh HA
     rw [List.take_of_length_le (by have:=uh HL1; omega),List.take_of_length_le (by have:=uh HL2; omega)] at h9
     exact h9
    clear HR
    subst hr
    go_wp2
    go_ret
    exact ⟨rfl,uh HK⟩
 ·have hb:((len:Int) != (len':Int)) = true:=by rw [bne_iff_ne]; omega
  have hr:R = false:=by
   rw [← uh HR]
   refine decide_eq_false (fun e=>hl ?_)
   have h1:=uh HL1
   have h2:=uh HL2
   rw [← h1,← h2,e]
  clear HR hl
  subst hr
  go_enter Tryz.func23,Tryz.ntmps23
  go_wp2
  go_ret
  exact ⟨rfl,Kept.refl _ _⟩
set_option maxHeartbeats 8000000 in
theorem xa6p (u v:Value) (ss tt:List Stp) (w:World) (hu:RdS w u ss) (hv:RdS w v tt) :
  Calls Tryz.prog 28 #[u,v] w fun e w'=>e = .returned (.bool (decide (ss = tt)))∧Kept [] w w':=by
 obtain ⟨ao,len,cap,vs,rfl,h1,h2,h3,h4,h5⟩:=hu
 obtain ⟨ao',len',cap',us,rfl,g1,g2,g3,g4,g5⟩:=hv
 have H4:=hide h4
 have H5:=hide h5
 have G4:=hide g4
 have G5:=hide g5
 obtain ⟨R,hR⟩:∃ R,decide (ss = tt) = R:=⟨_,rfl⟩
 rw [hR]
 have HR:=hide hR
 clear h4 h5 g4 g5 hR
 have HL1:=hide h1
 have HL2:=hide g1
 clear h1 g1
 by_cases hl:len = len'
 ·subst hl
  have hb:((len:Int) != (len:Int)) = false:=by simp
  go_enter Tryz.func28,Tryz.ntmps28
  go_wp2_with fail
  go_loopw [5] (fun t5 wr=>∃ (i:Nat),i≤len∧t5 = .int .i64 i∧Hid (ss.take i = tt.take i)∧Hid (Kept [] w wr)) (fun t _=>len - (intOf t).toNat)
  case atStart=>exact ⟨0,Nat.zero_le _,rfl,hide (by simp),hide (Kept.refl _ _)⟩
  case round =>
   obtain ⟨i,hi,rfl,HA,HK⟩:=hrel
   by_cases hlt:i < len
   ·have hlt':(i:Int) < len:=by omega
    have hip:i < ss.length:=by have:=uh HL1; omega
    have hiq:i < tt.length:=by have:=uh HL2; omega
    obtain ⟨b,o,rfl,hcell⟩:=uh H5 (by omega)
    obtain ⟨b',o',rfl,gcell⟩:=uh G5 (by omega)
    have p1:=(hcell i hlt).1
    have p2:=(hcell i hlt).2
    have q1:=(gcell i hlt).1
    have q2:=(gcell i hlt).2
    obtain ⟨hbx,hdx⟩:=uh H4 i hlt
    obtain ⟨hby,hdy⟩:=uh G4 i hlt
    have HN:=hide (fun (h:ss.getD i (0,[]) = tt.getD i (0,[]))=>xa4j (uh HA) hip hiq h)
    have HM:=hide (fun (h:¬ ss.getD i (0,[]) = tt.getD i (0,[]))=>show R = false by rw [← uh HR]; exact decide_eq_false (fun e=>h (by rw [e])))
    clear hcell gcell
    generalize ss.getD i (0,[]) = x at hdx hbx p1 HN HM
    generalize tt.getD i (0,[]) = y at hdy hby q1 HN HM
    generalize vs.getD i undef = va at p2 hdx
    generalize us.getD i undef = vb at q2 hdy
    obtain ⟨bx,dx⟩:=x
    obtain ⟨by_,dy⟩:=y
    simp only at hdx hdy p1 q1 hbx hby
    obtain ⟨xa,xn,xc,rfl,x1,x2,x3,x4,x5⟩:=hdx
    obtain ⟨ya,yn,yc,rfl,y1,y2,y3,y4,y5⟩:=hdy
    have HP1:=hide ((uh HK).cell p1 (by simp))
    have HP2:=hide ((uh HK).cell p2 (by simp))
    have HQ1:=hide ((uh HK).cell q1 (by simp))
    have HQ2:=hide ((uh HK).cell q2 (by simp))
    have HX5:=hide x5
    have HY5:=hide y5
    have HX4:=hide x4
    have HY4:=hide y4
    have HX1:=hide x1
    have HY1:=hide y1
    clear p1 p2 q1 q2 x5 y5 x4 y4 x1 y1
    have hd2:=(Kept.refl [] wr).drew
    by_cases hbb:bx = by_
    ·subst hbb
     have e0:((bx:Int) != (bx:Int)) = false:=by simp
     by_cases hnn:xn = yn
     ·subst hnn
      have e1:((xn:Int) != (xn:Int)) = false:=by simp
      go_upto_region 6 with fail
      refine lr_ss6 (by kernel_rfl) (by kernel_rfl) (fun W=>Kept [] wr W) hd2 ?_
      refine LinG.rd (by rfl) (.slice (some ⟨b,o,none⟩) len cap) (fun W hW=>by go_simp) (by simp only [Act.put,sa1,sa2,sa3]; rfl) ?_
      refine LinG.rd (by rfl) (.int .i64 i) (fun W hW=>by go_simp) (by simp only [Act.put,sa1,sa2,sa3]; rfl) ?_
      refine LinG.rd (by rfl) (.pointer (some ⟨b,o + i * 2,none⟩)) (fun W hW=>by go_simp) (by simp only [Act.put,sa1,sa2,sa3]; rfl) ?_
      refine LinG.rd (by rfl) (.pointer (some ⟨b,o + i * 2,none⟩)) (fun W hW=>by go_simp) (by simp only [Act.put,sa1,sa2,sa3]; rfl) ?_
      refine LinG.rd (by rfl) (.int .u16 bx) (fun W hW=>by have h9:=hW.cell (uh HP1) (by simp); go_simp) (by simp only [Act.put,sa1,sa2,sa3]; rfl) ?_
      refine LinG.rd (by rfl) (.slice (some ⟨b',o',none⟩) len cap') (fun W hW=>by go_simp) (by simp only [Act.put,sa1,sa2,sa3]; rfl) ?_
      refine LinG.rd (by rfl) (.int .i64 i) (fun W hW=>by go_simp) (by simp only [Act.put,sa1,sa2,sa3]; rfl) ?_
      refine LinG.rd (by rfl) (.pointer (some ⟨b',o' + i * 2,none⟩)) (fun W hW=>by go_simp) (by simp only [Act.put,sa1,sa2,sa3]; rfl) ?_
      refine LinG.rd (by rfl) (.pointer (some ⟨b',o' + i * 2,none⟩)) (fun W hW=>by go_simp) (by simp only [Act.put,sa1,sa2,sa3]; rfl) ?_
      refine LinG.rd (by rfl) (.int .u16 bx) (fun W hW=>by have h9:=hW.cell (uh HQ1) (by simp); go_simp) (by simp only [Act.put,sa1,sa2,sa3]; rfl) ?_
      refine LinG.rd (by rfl) (.bool false) (fun W hW=>by go_simp) (by simp only [Act.put,sa1,sa2,sa3]; rfl) ?_
      refine LinG.rd (by rfl) (.bool false) (fun W hW=>by go_simp) (by simp only [Act.put,sa1,sa2,sa3]; rfl) ?_
      refine LinG.rd (by rfl) (.slice (some ⟨b,o,none⟩) len cap) (fun W hW=>by go_simp) (by simp only [Act.put,sa1,sa2,sa3]; rfl) ?_
      refine LinG.rd (by rfl) (.int .i64 i) (fun W hW=>by go_simp) (by simp only [Act.put,sa1,sa2,sa3]; rfl) ?_
      refine LinG.rd (by rfl) (.pointer (some ⟨b,o + i * 2,none⟩)) (fun W hW=>by go_simp) (by simp only [Act.put,sa1,sa2,sa3]; rfl) ?_
      refine LinG.rd (by rfl) (.pointer (some ⟨b,o + i * 2 + 1,none⟩)) (fun W hW=>by go_simp) (by simp only [Act.put,sa1,sa2,sa3]; rfl) ?_
      refine LinG.rd (by rfl) (.slice xa xn xc) (fun W hW=>by have h9:=hW.cell (uh HP2) (by simp); go_simp) (by simp only [Act.put,sa1,sa2,sa3]; rfl) ?_
      refine LinG.rd (by rfl) (.int .i64 xn) (fun W hW=>by go_simp) (by simp only [Act.put,sa1,sa2,sa3]; rfl) ?_
      refine LinG.rd (by rfl) (.slice (some ⟨b',o',none⟩) len cap') (fun W hW=>by go_simp) (by simp only [Act.put,sa1,sa2,sa3]; rfl) ?_
      refine LinG.rd (by rfl) (.int .i64 i) (fun W hW=>by go_simp) (by simp only [Act.put,sa1,sa2,sa3]; rfl) ?_
      refine LinG.rd (by rfl) (.pointer (some ⟨b',o' + i * 2,none⟩)) (fun W hW=>by go_simp) (by simp only [Act.put,sa1,sa2,sa3]; rfl) ?_
      refine LinG.rd (by rfl) (.pointer (some ⟨b',o' + i * 2 + 1,none⟩)) (fun W hW=>by go_simp) (by simp only [Act.put,sa1,sa2,sa3]; rfl) ?_
      refine LinG.rd (by rfl) (.slice ya xn yc) (fun W hW=>by have h9:=hW.cell (uh HQ2) (by simp); go_simp) (by simp only [Act.put,sa1,sa2,sa3]; rfl) ?_
      refine LinG.rd (by rfl) (.int .i64 xn) (fun W hW=>by go_simp) (by simp only [Act.put,sa1,sa2,sa3]; rfl) ?_
      refine LinG.rd (by rfl) (.bool false) (fun W hW=>by go_simp) (by simp only [Act.put,sa1,sa2,sa3]; rfl) ?_
      refine LinG.rd (by rfl) (.bool false) (fun W hW=>by go_simp) (by simp only [Act.put,sa1,sa2,sa3]; rfl) ?_
      refine LinG.fin ?_
      have c2:=hd2.cell (uh HP2) (by simp)
      have HK1:=hide ((uh HK).trans hd2 (by simp))
      have hxl:xn≤xc:=x2
      go_wp2_with fail
      obtain ⟨wo,hwo⟩:∃ wo,wo = wr:=⟨_,rfl⟩
      subst hwo
      go_loopw [6] (fun t6 wq=>∃ (j:Nat),j≤xn∧t6 = .int .i64 j∧Hid (dx.take j = dy.take j)∧Hid (Kept [] wo wq)) (fun t _=>xn - (intOf t).toNat)
      case atStart=>exact ⟨0,Nat.zero_le _,rfl,hide (by simp),hide hd2⟩
      case round =>
       obtain ⟨j,hj,rfl,HB,HKq⟩:=hrel
       clear c2 hd2
       have c2:=(uh HKq).cell (uh HP2) (by simp)
       have HKw:=hide ((uh HK).trans (uh HKq) (by simp))
       by_cases hjl:j < xn
       ·have hjl':(j:Int) < xn:=by omega
        have hjx:j < dx.length:=by have:=uh HX1; omega
        have hjy:j < dy.length:=by have:=uh HY1; omega
        obtain ⟨g,off,rfl,hcx⟩:=uh HX5 (by omega)
        obtain ⟨g',off',rfl,hcy⟩:=uh HY5 (by omega)
        have hrx:=hcx j hjl
        have hry:=hcy j hjl
        have hDx:=uh HX4 (dx.getD j []) (by rw [List.getD_eq_getElem?_getD,List.getElem?_eq_getElem hjx]; exact List.getElem_mem hjx)
        have hDy:=uh HY4 (dy.getD j []) (by rw [List.getD_eq_getElem?_getD,List.getElem?_eq_getElem hjy]; exact List.getElem_mem hjy)
        have HNj:=hide (fun (h:dx.getD j [] = dy.getD j [])=>xa4j (uh HB) hjx hjy h)
        have HMj:=hide (fun (h:¬ dx.getD j [] = dy.getD j [])=>uh HM (fun e=>h (by rw [(Prod.mk.inj e).2])))
        generalize dx.getD j [] = d at hrx hDx HNj HMj
        generalize dy.getD j [] = d' at hry hDy HNj HMj
        have heq:=fun W=>dig_eq W d d' hDx.1 hDy.1
        obtain ⟨sm,hsm⟩:∃ sm,decide (d = d') = sm:=⟨_,rfl⟩
        rw [hsm] at heq
        have HEQ:=hide heq
        have HSM:=hide hsm
        have HRX:=hide (show wr.rangeAt g (off + j * 32) (d.map u8) from fun u z hz=>(uh HKw).cell (hrx u z hz) (by simp))
        have HRY:=hide (show wr.rangeAt g' (off' + j * 32) (d'.map u8) from fun u z hz=>(uh HKw).cell (hry u z hz) (by simp))
        have HP2q:=hide c2
        have HQ2q:=hide ((uh HKq).cell (uh HQ2) (by simp))
        have hdl:=hDx.1
        have hdl':=hDy.1
        clear hrx hry hcx hcy heq hsm hDx hDy
        go_upto_region 11 with fail
        have hq2:=(Kept.refl [] wr).drew
        refine xc1k (by kernel_rfl) (by kernel_rfl) rfl (fun W=>Kept [] wr W) hq2 ?_
        refine LinY.rd (.slice (some ⟨b,o,none⟩) len cap) (fun W hW=>by go_simp) (by simp only [Act.put,sa1,sa2,sa3]; rfl) ?_
        refine LinY.rd (.int .i64 i) (fun W hW=>by go_simp) (by simp only [Act.put,sa1,sa2,sa3]; rfl) ?_
        refine LinY.rd (.pointer (some ⟨b,o + i * 2,none⟩)) (fun W hW=>by go_simp) (by simp only [Act.put,sa1,sa2,sa3]; rfl) ?_
        refine LinY.rd (.pointer (some ⟨b,o + i * 2 + 1,none⟩)) (fun W hW=>by go_simp) (by simp only [Act.put,sa1,sa2,sa3]; rfl) ?_
        refine LinY.rd (.slice (some ⟨g,off,none⟩) xn xc) (fun W hW=>by have h9:=hW.cell (uh HP2q) (by simp); go_simp) (by simp only [Act.put,sa1,sa2,sa3]; rfl) ?_
        refine LinY.rd (.int .i64 j) (fun W hW=>by go_simp) (by simp only [Act.put,sa1,sa2,sa3]; rfl) ?_
        refine LinY.rd (.pointer (some ⟨g,off + j * 32,none⟩)) (fun W hW=>by go_simp) (by simp only [Act.put,sa1,sa2,sa3]; rfl) ?_
        refine LinY.ld 50 (.tmp 60) rfl g (off + j * 32) rfl (d.map u8) _ (fun W hW=>hW.rng (uh HRX) (by simp)) Tryz.underlying50 rfl (by rw [List.length_map,hdl]; exact Tryz.size_dig) (by simp only [Act.put,sa1,sa2,sa3]; rfl) ?_
        refine LinY.rd (.slice (some ⟨b',o',none⟩) len cap') (fun W hW=>by go_simp) (by simp only [Act.put,sa1,sa2,sa3]; rfl) ?_
        refine LinY.rd (.int .i64 i) (fun W hW=>by go_simp) (by simp only [Act.put,sa1,sa2,sa3]; rfl) ?_
        refine LinY.rd (.pointer (some ⟨b',o' + i * 2,none⟩)) (fun W hW=>by go_simp) (by simp only [Act.put,sa1,sa2,sa3]; rfl) ?_
        refine LinY.rd (.pointer (some ⟨b',o' + i * 2 + 1,none⟩)) (fun W hW=>by go_simp) (by simp only [Act.put,sa1,sa2,sa3]; rfl) ?_
        refine LinY.rd (.slice (some ⟨g',off',none⟩) xn yc) (fun W hW=>by have h9:=hW.cell (uh HQ2q) (by simp); go_simp) (by simp only [Act.put,sa1,sa2,sa3]; rfl) ?_
        refine LinY.rd (.int .i64 j) (fun W hW=>by go_simp) (by simp only [Act.put,sa1,sa2,sa3]; rfl) ?_
        refine LinY.rd (.pointer (some ⟨g',off' + j * 32,none⟩)) (fun W hW=>by go_simp) (by simp only [Act.put,sa1,sa2,sa3]; rfl) ?_
        refine LinY.ld 50 (.tmp 68) rfl g' (off' + j * 32) rfl (d'.map u8) _ (fun W hW=>hW.rng (uh HRY) (by simp)) Tryz.underlying50 rfl (by rw [List.length_map,hdl']; exact Tryz.size_dig) (by simp only [Act.put,sa1,sa2,sa3]; rfl) ?_
        refine LinY.rd (.bool (!sm)) (fun W hW=>xc0l 50 (.tmp 61) (.tmp 69) 50 rfl (brow d) (brow d') rfl rfl W sm (by kernel_rfl) (uh HEQ W)) (by simp only [Act.put,sa1,sa2,sa3]; rfl) ?_
        refine LinY.fin (ChL.fin ?_)
        have HKq2:=hide ((uh HKq).trans hq2 (by simp))
        have c2n:=hq2.cell c2 (by simp)
        clear hq2 HRX HRY HEQ c2
        cases sm with
        | true =>
         have HT:=hide (uh HNj (of_decide_eq_true (uh HSM)))
         clear HNj HMj HSM
         go_wp2_with fail
         refine ⟨⟨j + 1,by omega,by go_num,HT,HKq2⟩,?_⟩
         simp [intOf]; omega
        | false =>
         have hr:R = false:=uh HMj (of_decide_eq_false (uh HSM))
         clear HNj HMj HSM HR HM HN
         subst hr
         go_wp2_with fail
         go_ret
         exact ⟨rfl,(uh HK).trans (uh HKq2) (by simp)⟩
       ·have hje:j = xn:=by omega
        have hjl':¬ (j:Int) < xn:=by omega
        have hdd:dx = dy:=by
         have h9:=uh HB
         rw [List.take_of_length_le (by have:=uh HX1; omega),List.take_of_length_le (by have:=uh HY1; omega)] at h9
         exact h9
        have HT:=hide (uh HN (by rw [hdd]))
        clear HN HM hdd
        go_wp2_with fail
        refine ⟨⟨i + 1,by omega,by go_num,HT,HKw⟩,?_⟩
        simp [intOf]; omega
     ·have e1:((xn:Int) != (yn:Int)) = true:=by rw [bne_iff_ne]; omega
      have hr:R = false:=uh HM (fun e=>hnn (by have h9:=(Prod.mk.inj e).2; have h1:=uh HX1; have h2:=uh HY1; rw [← h1,← h2,h9]))
      clear HN HM HR
      subst hr
      go_upto_region 6 with fail
      refine lr_ss6 (by kernel_rfl) (by kernel_rfl) (fun W=>Kept [] wr W) hd2 ?_
      refine LinG.rd (by rfl) (.slice (some ⟨b,o,none⟩) len cap) (fun W hW=>by go_simp) (by simp only [Act.put,sa1,sa2,sa3]; rfl) ?_
      refine LinG.rd (by rfl) (.int .i64 i) (fun W hW=>by go_simp) (by simp only [Act.put,sa1,sa2,sa3]; rfl) ?_
      refine LinG.rd (by rfl) (.pointer (some ⟨b,o + i * 2,none⟩)) (fun W hW=>by go_simp) (by simp only [Act.put,sa1,sa2,sa3]; rfl) ?_
      refine LinG.rd (by rfl) (.pointer (some ⟨b,o + i * 2,none⟩)) (fun W hW=>by go_simp) (by simp only [Act.put,sa1,sa2,sa3]; rfl) ?_
      refine LinG.rd (by rfl) (.int .u16 bx) (fun W hW=>by have h9:=hW.cell (uh HP1) (by simp); go_simp) (by simp only [Act.put,sa1,sa2,sa3]; rfl) ?_
      refine LinG.rd (by rfl) (.slice (some ⟨b',o',none⟩) len cap') (fun W hW=>by go_simp) (by simp only [Act.put,sa1,sa2,sa3]; rfl) ?_
      refine LinG.rd (by rfl) (.int .i64 i) (fun W hW=>by go_simp) (by simp only [Act.put,sa1,sa2,sa3]; rfl) ?_
      refine LinG.rd (by rfl) (.pointer (some ⟨b',o' + i * 2,none⟩)) (fun W hW=>by go_simp) (by simp only [Act.put,sa1,sa2,sa3]; rfl) ?_
      refine LinG.rd (by rfl) (.pointer (some ⟨b',o' + i * 2,none⟩)) (fun W hW=>by go_simp) (by simp only [Act.put,sa1,sa2,sa3]; rfl) ?_
      refine LinG.rd (by rfl) (.int .u16 bx) (fun W hW=>by have h9:=hW.cell (uh HQ1) (by simp); go_simp) (by simp only [Act.put,sa1,sa2,sa3]; rfl) ?_
      refine LinG.rd (by rfl) (.bool false) (fun W hW=>by go_simp) (by simp only [Act.put,sa1,sa2,sa3]; rfl) ?_
      refine LinG.rd (by rfl) (.bool false) (fun W hW=>by go_simp) (by simp only [Act.put,sa1,sa2,sa3]; rfl) ?_
      refine LinG.rd (by rfl) (.slice (some ⟨b,o,none⟩) len cap) (fun W hW=>by go_simp) (by simp only [Act.put,sa1,sa2,sa3]; rfl) ?_
      refine LinG.rd (by rfl) (.int .i64 i) (fun W hW=>by go_simp) (by simp only [Act.put,sa1,sa2,sa3]; rfl) ?_
      refine LinG.rd (by rfl) (.pointer (some ⟨b,o + i * 2,none⟩)) (fun W hW=>by go_simp) (by simp only [Act.put,sa1,sa2,sa3]; rfl) ?_
      refine LinG.rd (by rfl) (.pointer (some ⟨b,o + i * 2 + 1,none⟩)) (fun W hW=>by go_simp) (by simp only [Act.put,sa1,sa2,sa3]; rfl) ?_
      refine LinG.rd (by rfl) (.slice xa xn xc) (fun W hW=>by have h9:=hW.cell (uh HP2) (by simp); go_simp) (by simp only [Act.put,sa1,sa2,sa3]; rfl) ?_
      refine LinG.rd (by rfl) (.int .i64 xn) (fun W hW=>by go_simp) (by simp only [Act.put,sa1,sa2,sa3]; rfl) ?_
      refine LinG.rd (by rfl) (.slice (some ⟨b',o',none⟩) len cap') (fun W hW=>by go_simp) (by simp only [Act.put,sa1,sa2,sa3]; rfl) ?_
      refine LinG.rd (by rfl) (.int .i64 i) (fun W hW=>by go_simp) (by simp only [Act.put,sa1,sa2,sa3]; rfl) ?_
      refine LinG.rd (by rfl) (.pointer (some ⟨b',o' + i * 2,none⟩)) (fun W hW=>by go_simp) (by simp only [Act.put,sa1,sa2,sa3]; rfl) ?_
      refine LinG.rd (by rfl) (.pointer (some ⟨b',o' + i * 2 + 1,none⟩)) (fun W hW=>by go_simp) (by simp only [Act.put,sa1,sa2,sa3]; rfl) ?_
      refine LinG.rd (by rfl) (.slice ya yn yc) (fun W hW=>by have h9:=hW.cell (uh HQ2) (by simp); go_simp) (by simp only [Act.put,sa1,sa2,sa3]; rfl) ?_
      refine LinG.rd (by rfl) (.int .i64 yn) (fun W hW=>by go_simp) (by simp only [Act.put,sa1,sa2,sa3]; rfl) ?_
      refine LinG.rd (by rfl) (.bool true) (fun W hW=>by go_simp) (by simp only [Act.put,sa1,sa2,sa3]; rfl) ?_
      refine LinG.rd (by rfl) (.bool true) (fun W hW=>by go_simp) (by simp only [Act.put,sa1,sa2,sa3]; rfl) ?_
      refine LinG.fin ?_
      go_wp2_with fail
      go_ret
      exact ⟨rfl,(uh HK).trans hd2 (by simp)⟩
    ·have e0:((bx:Int) != (by_:Int)) = true:=by rw [bne_iff_ne]; omega
     have hr:R = false:=uh HM (fun e=>hbb (Prod.mk.inj e).1)
     clear HN HM HR
     subst hr
     go_upto_region 6 with fail
     refine lr_ss6 (by kernel_rfl) (by kernel_rfl) (fun W=>Kept [] wr W) hd2 ?_
     refine LinG.rd (by rfl) (.slice (some ⟨b,o,none⟩) len cap) (fun W hW=>by go_simp) (by simp only [Act.put,sa1,sa2,sa3]; rfl) ?_
     refine LinG.rd (by rfl) (.int .i64 i) (fun W hW=>by go_simp) (by simp only [Act.put,sa1,sa2,sa3]; rfl) ?_
     refine LinG.rd (by rfl) (.pointer (some ⟨b,o + i * 2,none⟩)) (fun W hW=>by go_simp) (by simp only [Act.put,sa1,sa2,sa3]; rfl) ?_
     refine LinG.rd (by rfl) (.pointer (some ⟨b,o + i * 2,none⟩)) (fun W hW=>by go_simp) (by simp only [Act.put,sa1,sa2,sa3]; rfl) ?_
     refine LinG.rd (by rfl) (.int .u16 bx) (fun W hW=>by have h9:=hW.cell (uh HP1) (by simp); go_simp) (by simp only [Act.put,sa1,sa2,sa3]; rfl) ?_
     refine LinG.rd (by rfl) (.slice (some ⟨b',o',none⟩) len cap') (fun W hW=>by go_simp) (by simp only [Act.put,sa1,sa2,sa3]; rfl) ?_
     refine LinG.rd (by rfl) (.int .i64 i) (fun W hW=>by go_simp) (by simp only [Act.put,sa1,sa2,sa3]; rfl) ?_
     refine LinG.rd (by rfl) (.pointer (some ⟨b',o' + i * 2,none⟩)) (fun W hW=>by go_simp) (by simp only [Act.put,sa1,sa2,sa3]; rfl) ?_
     refine LinG.rd (by rfl) (.pointer (some ⟨b',o' + i * 2,none⟩)) (fun W hW=>by go_simp) (by simp only [Act.put,sa1,sa2,sa3]; rfl) ?_
     refine LinG.rd (by rfl) (.int .u16 by_) (fun W hW=>by have h9:=hW.cell (uh HQ1) (by simp); go_simp) (by simp only [Act.put,sa1,sa2,sa3]; rfl) ?_
     refine LinG.rd (by rfl) (.bool true) (fun W hW=>by go_simp) (by simp only [Act.put,sa1,sa2,sa3]; rfl) ?_
     refine LinG.rd (by rfl) (.bool true) (fun W hW=>by go_simp) (by simp only [Act.put,sa1,sa2,sa3]; rfl) ?_
     refine LinG.no (by rfl) (by simp only [Act.put,sa1,sa2,sa3]; rfl) ?_
     refine LinG.no (by rfl) (by simp only [Act.put,sa1,sa2,sa3]; rfl) ?_
     refine LinG.no (by rfl) (by simp only [Act.put,sa1,sa2,sa3]; rfl) ?_
     refine LinG.no (by rfl) (by simp only [Act.put,sa1,sa2,sa3]; rfl) ?_
     refine LinG.no (by rfl) (by simp only [Act.put,sa1,sa2,sa3]; rfl) ?_
     refine LinG.no (by rfl) (by simp only [Act.put,sa1,sa2,sa3]; rfl) ?_
     refine LinG.no (by rfl) (by simp only [Act.put,sa1,sa2,sa3]; rfl) ?_
     refine LinG.no (by rfl) (by simp only [Act.put,sa1,sa2,sa3]; rfl) ?_
     refine LinG.no (by rfl) (by simp only [Act.put,sa1,sa2,sa3]; rfl) ?_
     refine LinG.no (by rfl) (by simp only [Act.put,sa1,sa2,sa3]; rfl) ?_
     refine LinG.no (by rfl) (by simp only [Act.put,sa1,sa2,sa3]; rfl) ?_
     refine LinG.no (by rfl) (by simp only [Act.put,sa1,sa2,sa3]; rfl) ?_
     refine LinG.no (by rfl) (by simp only [Act.put,sa1,sa2,sa3]; rfl) ?_
     refine LinG.rd (by rfl) (.bool true) (fun W hW=>by go_simp) (by simp only [Act.put,sa1,sa2,sa3]; rfl) ?_
     refine LinG.fin ?_
     go_wp2_with fail
     go_ret
     exact ⟨rfl,(uh HK).trans hd2 (by simp)⟩
   ·have hlt':¬ (i:Int) < len:=by omega
    have hie:i = len:=by omega
    have hr:R = true:=by
     rw [← uh HR]
     refine decide_eq_true ?_
     have h9:=uh HA
     rw [List.take_of_length_le (by have:=uh HL1; omega),List.take_of_length_le (by have:=uh HL2; omega)] at h9
     exact h9
    clear HR
    subst hr
    go_wp2
    go_ret
    exact ⟨rfl,uh HK⟩
 ·have hb:((len:Int) != (len':Int)) = true:=by rw [bne_iff_ne]; omega
  have hr:R = false:=by
   rw [← uh HR]
   refine decide_eq_false (fun e=>hl ?_)
   have h1:=uh HL1
   have h2:=uh HL2
   rw [← h1,← h2,e]
  clear HR hl
  subst hr
  go_enter Tryz.func28,Tryz.ntmps28
  go_wp2
  go_ret
  exact ⟨rfl,Kept.refl _ _⟩
def digN (ss:List Stp):Nat:=(ss.map (fun s=>s.2.length)).sum
theorem xb0i {ss:List Stp} {i:Nat} (h:i < ss.length):digN (ss.take (i + 1)) = digN (ss.take i) + (ss.getD i (0,[])).2.length:=by
 unfold digN
 rw [List.take_succ_eq_append_getElem h,List.map_append,List.sum_append,List.getD_eq_getElem?_getD,List.getElem?_eq_getElem h]; simp
theorem xb1l {ss:List Stp} (h:∀ s∈ss,s.2.length≤1048576):∀ i,digN (ss.take i)≤1048576 * i
 | 0=>by simp [digN]
 | i + 1=>by
  rcases Nat.lt_or_ge i ss.length with hi | hi
  ·rw [xb0i hi]
   have h1:=xb1l h i
   have h2:=h (ss.getD i (0,[])) (by rw [List.getD_eq_getElem?_getD,List.getElem?_eq_getElem hi]; exact List.getElem_mem hi)
   omega
  ·rw [List.take_of_length_le (by omega)]
   have h1:=xb1l h i
   rw [List.take_of_length_le hi] at h1
   omega
theorem RdS.at_ {w:World} {ao:Option Addr} {n c:Nat} {ss:List Stp} (h:RdS w (.slice ao n c) ss) {i:Nat} (hi:i < ss.length):∃ b o v,ao = some ⟨b,o,none⟩∧w.rangeAt b (o + i * 2) [.int .u16 ((ss.getD i (0,[])).1:Int),v]∧(ss.getD i (0,[])).1 < 65536∧RdD w v (ss.getD i (0,[])).2:=by
 obtain ⟨ao',len,cap,vs,e,h1,h2,h3,h4,h5⟩:=h
 cases e
 obtain ⟨b,o,rfl,hc⟩:=h5 (by omega)
 have h6:=hc i (by omega)
 refine ⟨b,o,vs.getD i undef,rfl,fun j u hj=>?_,(h4 i (by omega)).1,(h4 i (by omega)).2⟩
 match j,hj with
 | 0,hj=>rw [Nat.add_zero,h6.1]; exact hj
 | 1,hj=>rw [h6.2]; exact hj
set_option maxHeartbeats 4000000 in
theorem xb5r (sv pv:Value) (ss:List Stp) (ps:Prs) (w:World) (hs:RdS w sv ss) (hp:RdK w pv ps) (hl:ss.length≤1048576) (hk:∀ s∈ss,s.2.length≤1048576) :
  Calls Tryz.prog 15 #[.agg #[sv,pv]] w fun e w'=>e = .returned (.tuple #[.int .i64 (digN ss:Nat),.int .i64 (ps.length:Nat)])∧Kept [] w w':=by
 obtain ⟨sa,sn,sc,vs0,rfl,hsn,_⟩:=id hs
 obtain ⟨pa,pn,pc,_,_,rfl,hpn,_⟩:=id hp
 have HPN:=hide hpn
 have HSN:=hide hsn
 have HS:=hide hs
 have HDN:=hide (xb1l hk)
 have hl2:sn≤1048576:=by omega
 have HA:=hide (heap_alloc_new w (.cells #[.slice sa sn sc,.slice pa pn pc] 35))
 have HK:=hide ((Kept.refl [] w).alloc (.cells #[.slice sa sn sc,.slice pa pn pc] 35))
 have c0:(w.alloc (.cells #[.slice sa sn sc,.slice pa pn pc] 35)).cell? ⟨w.heap.size,0,none⟩ = some (.slice sa sn sc):=cell_of_row _ _ 0 _ _ _ (uh HA)
 clear hs hp hpn hl hk hsn
 go_enter Tryz.func15,Tryz.ntmps15
 obtain ⟨W,hW⟩:∃ W,w.alloc (.cells #[.slice sa sn sc,.slice pa pn pc] 35) = W:=⟨_,rfl⟩
 rw [hW] at HA HK c0
 go_wp2_with fail
 try rw [hW]
 clear hW
 go_loopw [4,10] (fun t4 t10 wr=>∃ (i:Nat),i≤sn∧t10 = .int .i64 i∧t4 = .int .i64 (digN (ss.take i):Nat)∧Hid (Kept [] W wr)) (fun _ t _=>sn - (intOf t).toNat)
 case atStart=>exact ⟨0,Nat.zero_le _,rfl,by simp [digN],hide (Kept.refl _ _)⟩
 case round =>
  obtain ⟨i,hi,rfl,rfl,HKr⟩:=hrel
  have HKw:=hide ((uh HK).trans (uh HKr) (by simp))
  by_cases hlt:i < sn
  ·have hlt':(i:Int) < sn:=by omega
   have hil:i < ss.length:=by have:=uh HSN; omega
   obtain ⟨b,o,v,rfl,hr,hb,hd⟩:=(uh HS).at_ hil
   have hsc:=xb0i hil
   have hdb:=uh HDN i
   have hdb2:=uh HDN (i + 1)
   have HRG:=hide (show wr.rangeAt b (o + i * 2) _ from fun j u hj=>(uh HKw).cell (hr j u hj) (by simp))
   obtain ⟨da,dn,dc,rfl,hdn,_⟩:=id hd
   rw [hdn] at hsc
   have HSC:=hide hsc
   generalize (ss.getD i (0,[])).1 = x at HRG hb
   obtain ⟨S0,hS0⟩:∃ S0,digN (ss.take i) = S0:=⟨_,rfl⟩
   rw [hS0] at HSC hdb hsc ⊢
   rw [hsc] at hdb2
   have hA:=heap_alloc_new wr (.cells #[.int .u16 (x:Int),.slice da dn dc] 64)
   have HKA:=hide ((Kept.refl [] wr).alloc (.cells #[.int .u16 (x:Int),.slice da dn dc] 64))
   have c1:(wr.alloc (.cells #[.int .u16 (x:Int),.slice da dn dc] 64)).cell? ⟨wr.heap.size,1,none⟩ = some (.slice da dn dc):=cell_of_row _ _ 1 _ _ _ hA
   clear hr hd hdn hsc hA hS0
   go_wp2_with (refine wpList_load_mid rfl 64 (.tmp 12) rfl b (o + i * 2) rfl [.int .u16 (x:Int),.slice da dn dc] _ (uh HRG) Tryz.underlying64 rfl (by kernel_rfl) ?_)
   refine ⟨⟨i + 1,hlt,by go_num,by rw [uh HSC]; go_num,hide ((uh HKr).trans (uh HKA) (by simp))⟩,?_⟩
   simp [intOf]; omega
  ·have hie:i = sn:=by omega
   have hlt':¬ (i:Int) < sn:=by omega
   have hall:digN (ss.take i) = digN ss:=by rw [List.take_of_length_le (by have:=uh HSN; omega)]
   have c2:wr.cell? ⟨w.heap.size,1,none⟩ = some (.slice pa pn pc):=(uh HKr).cell (cell_of_row _ _ 1 _ _ _ (uh HA)) (by simp)
   obtain ⟨D,hD⟩:∃ D,digN (ss.take i) = D:=⟨_,rfl⟩
   rw [hD]
   have HALL:=hide (show digN ss = D by rw [← hall,hD])
   clear hall hie hD
   go_wp2_with fail
   go_quiet (fail)
   go_wp2
   go_ret2
   exact ⟨by rw [uh HALL,uh HPN]; rfl,((uh HKw).drewN _)⟩
set_option maxHeartbeats 4000000 in
theorem xa5r (sv pv tv qv:Value) (ss tt:List Stp) (ps qs:Prs) (w:World) (h1:RdS w sv ss) (h2:RdK w pv ps) (h3:RdS w tv tt) (h4:RdK w qv qs) :
  Calls Tryz.prog 14 #[.agg #[sv,pv],.agg #[tv,qv]] w fun e w'=>e = .returned (.bool (decide (ss = tt) && decide (ps = qs)))∧Kept [] w w':=by
 obtain ⟨a1,a2,a3,_,rfl,_⟩:=id h1
 obtain ⟨b1,b2,b3,_,_,rfl,_⟩:=id h2
 obtain ⟨c1,c2,c3,_,rfl,_⟩:=id h3
 obtain ⟨d1,d2,d3,_,_,rfl,_⟩:=id h4
 have H1:=hide h1
 have H2:=hide h2
 have H3:=hide h3
 have H4:=hide h4
 have HX:=hide (heap_alloc_new w (.cells #[.slice a1 a2 a3,.slice b1 b2 b3] 35))
 have HK1:=hide ((Kept.refl [] w).alloc (.cells #[.slice a1 a2 a3,.slice b1 b2 b3] 35))
 have HKB:=hide (fun (W:World)=>(Kept.refl [] W).alloc (.cells #[.slice c1 c2 c3,.slice d1 d2 d3] 35))
 have HYB:=hide (fun (W:World)=>heap_alloc_new W (.cells #[.slice c1 c2 c3,.slice d1 d2 d3] 35))
 have HX2:=hide ((uh HKB _).heap (uh HX) (by simp))
 have HK:=hide ((uh HK1).trans (uh HKB _) (by simp))
 have HY:=hide (uh HYB (w.alloc (.cells #[.slice a1 a2 a3,.slice b1 b2 b3] 35)))
 obtain ⟨W2,hW2⟩:∃ W2,(w.alloc (.cells #[.slice a1 a2 a3,.slice b1 b2 b3] 35)).alloc (.cells #[.slice c1 c2 c3,.slice d1 d2 d3] 35) = W2:=⟨_,rfl⟩
 have hz:(w.alloc (.cells #[.slice a1 a2 a3,.slice b1 b2 b3] 35)).heap.size = w.heap.size + 1:=by simp
 rw [hW2] at HX2 HK HY
 rw [hz] at HY
 have x0:=xa0k [] [.slice a1 a2 a3,.slice b1 b2 b3] [] (uh HX2) rfl
 have y0:=xa0k [] [.slice c1 c2 c3,.slice d1 d2 d3] [] (uh HY) rfl
 have k1:W2.cell? ⟨w.heap.size,0,none⟩ = some (.slice a1 a2 a3):=x0 0 _ rfl
 have k2:W2.cell? ⟨w.heap.size,1,none⟩ = some (.slice b1 b2 b3):=x0 1 _ rfl
 have k3:W2.cell? ⟨w.heap.size + 1,0,none⟩ = some (.slice c1 c2 c3):=y0 0 _ rfl
 have k4:W2.cell? ⟨w.heap.size + 1,1,none⟩ = some (.slice d1 d2 d3):=y0 1 _ rfl
 obtain ⟨R1,hR1⟩:∃ R1,decide (ss = tt) = R1:=⟨_,rfl⟩
 obtain ⟨R2,hR2⟩:∃ R2,decide (ps = qs) = R2:=⟨_,rfl⟩
 have HR1:=hide hR1
 have HR2:=hide hR2
 rw [hR1,hR2]
 clear x0 y0 h1 h2 h3 h4 hz hR1 hR2 HX HK1 HKB HYB
 have HC2:=hide k2
 have HC4:=hide k4
 go_enter Tryz.func14,Tryz.ntmps14
 go_upto_region 1 with fail
 try rw [hW2]
 clear hW2
 go_wp2_with fail
 refine Calls.mono (xa6p _ _ ss tt W2 ((uh H1).old (uh HK)) ((uh H3).old (uh HK))) ?_
 rintro e w4 ⟨rfl,k5⟩
 rw [uh HR1]
 have HK4:=hide ((uh HK).trans k5 (by simp))
 have c2':=k5.cell (uh HC2) (by simp)
 have c4':=k5.cell (uh HC4) (by simp)
 clear k1 k2 k3 k4 k5
 cases R1 with
 | false =>
  go_wp2_with fail
  go_ret
  exact ⟨rfl,uh HK4⟩
 | true =>
  go_wp2_with fail
  refine Calls.mono (xa5m _ _ ps qs w4 ((uh H2).old (uh HK4)) ((uh H4).old (uh HK4))) ?_
  rintro e w5 ⟨rfl,k6⟩
  rw [uh HR2]
  have HK5:=hide ((uh HK4).trans k6 (by simp))
  clear k6 c2' c4'
  go_wp2_with fail
  go_ret
  exact ⟨by simp,uh HK5⟩
theorem rdk_of {T:Nat→Prop} {W:World} {v:Value} {l:List VP} {L:Prs} (h:RdC 2 W v (kvR l)) (hp:PR T W l L):RdK W v L:=by
 obtain ⟨ao,len,cap,rfl,hl,hc1,hc2,hcell⟩:=h
 rw [xa0v] at hl
 have e1:∀ i,i < l.length→(l.map (·.1)).getD i undef = (l.getD i (undef,undef)).1∧(l.map (·.2)).getD i undef = (l.getD i (undef,undef)).2:=fun i hi=>by
  simp [List.getD_eq_getElem?_getD,List.getElem?_eq_getElem hi]
 refine ⟨_,len,cap,l.map (·.1),l.map (·.2),rfl,by rw [← hl]; exact hp.1.symm,hc1,hc2,fun i hi=>?_,fun h0=>?_⟩
 ·rw [(e1 i (by omega)).1,(e1 i (by omega)).2]; exact (hp.2 i (by omega)).now
 ·obtain ⟨b,off,rfl,hce⟩:=hcell h0
  refine ⟨b,off,rfl,fun i hi=>?_⟩
  have hi':i < l.length:=by omega
  have h7:=hce i (by rw [xa0v]; exact hi')
  have e:(kvR l)[i]'(by rw [xa0v]; exact hi') = [l[i].1,l[i].2]:=kvR_at _ i hi'
  rw [e] at h7
  rw [(e1 i hi').1,(e1 i hi').2]
  simp only [List.getD_eq_getElem?_getD,List.getElem?_eq_getElem hi',Option.getD_some]
  exact ⟨h7 0 _ rfl,h7 1 _ rfl⟩
theorem kvR_tk (l:List VP) (j:Nat) (hj:j < l.length):kvR (l.take (j + 1)) = kvR (l.take j)++[[(l.getD j (undef,undef)).1,(l.getD j (undef,undef)).2]]:=by
 rw [List.take_succ_eq_append_getElem hj,xb3s,List.getD_eq_getElem?_getD,List.getElem?_eq_getElem hj]; rfl
set_option maxHeartbeats 4000000 in
theorem xa3s (T:Nat→Prop) (k:Nat) (mv:Value) (L:Prs) (w:World) (hM:IAt T k w mv L) (hl:L.length≤1000000000) :
  Calls Tryz.prog 29 #[mv] w fun e w'=>∃ v',e = .returned v'∧RdK w' v' L∧(∀ y∈blk v',w.heap.size≤y)∧Kept [] w w':=by
 have HM:=hide hM
 obtain ⟨ao,c,l,rfl,hc1,hc2,hll,hpr,hcell⟩:=hM.parts
 have HCE:=hide hcell
 have HPR:=hide hpr
 obtain ⟨n,hn⟩:∃ n,L.length = n:=⟨_,rfl⟩
 have HN:=hide hn
 rw [hn] at hc1 hl hll HCE ⊢
 clear hM hcell hpr hn
 go_enter Tryz.func29,Tryz.ntmps29
 go_wp2
 go_loopw [3,8] (fun t7 t12 wr=>∃ (j:Nat) (v:Value),t12 = .int .i64 j∧t7 = v∧j≤n∧Hid (wr.ownsRow w.heap.size 32 2 v j (kvR (l.take j)).flatten)∧Hid (Kept [] w wr)) (fun _ t _=>n - (intOf t).toNat)
 case atStart=>exact ⟨0,.slice none 0 0,rfl,rfl,Nat.zero_le _,hide (World.ownsRow_nil _ _ _ _),hide (Kept.refl _ _)⟩
 case round =>
  obtain ⟨j,v,rfl,rfl,hj,HOx,HKr⟩:=hrel
  by_cases hlt:j < n
  ·have hlt':(j:Int) < n:=by omega
   have HTK:=hide (kvR_tk l j (by omega))
   obtain ⟨b,off,rfl,hTb,hcl⟩:=uh HCE (by omega)
   have hRG:=hcl j hlt
   have hone:=(uh HPR).one' j (by omega)
   have hrd:=(uh HPR).2 j (by omega)
   generalize (l.getD j (undef,undef)).1 = kx at hRG hone hrd HTK
   generalize (l.getD j (undef,undef)).2 = vx at hRG hone hrd HTK
   have HSNOC:=hide (show L.take (j + 1) = L.take j++[L.getD j ([],[])] by
    have hjL:j < L.length:=by have:=uh HN; omega
    rw [List.take_succ_eq_append_getElem hjL,List.getD_eq_getElem?_getD,List.getElem?_eq_getElem hjL]; rfl)
   generalize L.getD j ([],[]) = ej at hRG hrd HSNOC
   obtain ⟨ka,va⟩:=ej
   have hDg:Dg ((hsZ k).kd ka):=xa2v _ _
   obtain ⟨D,hD⟩:∃ D,(hsZ k).kd ka = D:=⟨_,rfl⟩
   simp only [hD] at hRG
   rw [hD] at hDg
   have HD:=hide hD
   have HSTY:=hide hrd
   have HRG:=hide (show wr.rangeAt b (off + j * 34) (itC D kx vx) from fun u z hz=>(uh HKr).cell (hRG u z hz) (by simp))
   have HZ1:=hide (heap_alloc_new wr (.cells zit 116))
   have HN2:=hide (setRow_heap _ _ _ (itC D kx vx).toArray _ _ (uh HZ1))
   have HK12:=hide ((Kept.refl [] wr).alloc (.cells zit 116) |>.setRow (g:=wr.heap.size) (Or.inr (Nat.le_refl _)) (itC D kx vx).toArray)
   obtain ⟨W2,hW2⟩:∃ W2,(wr.alloc (.cells zit 116)).setRow wr.heap.size (itC D kx vx).toArray = W2:=⟨_,rfl⟩
   rw [hW2] at HN2 HK12
   have HK2:=hide ((uh HKr).trans (uh HK12) (by simp))
   have hwsz:w.heap.size≤wr.heap.size:=by have:=(uh HKr).size; omega
   obtain ⟨rD2,cK2,cV2⟩:=it_row (uh HN2) hDg.1
   have HRD2:=hide rD2
   have HCK2:=hide cK2
   have HCV2:=hide cV2
   have HPA2:=hide (xb3v (uh HN2) hDg.1)
   obtain ⟨kx1,kx2,kx3,rfl,_⟩:=hrd.now.1
   obtain ⟨vx1,vx2,vx3,rfl,_⟩:=hrd.now.2
   clear hrd hRG hcl rD2 hD hDg hone
   have HO2:=hide ((uh HK12).owns (uh HOx) (by simp))
   obtain ⟨vo,vc,rfl⟩:=xa0h (uh HOx)
   have hown:∀ z,(Value.slice vo j vc).ownBlock = some z→w.heap.size≤z:=fun z hz=>((uh HOx).lt z hz).1
   have HW5:=hide (heap_alloc_new W2 (.cells #[.slice kx1 kx2 kx3,.slice vx1 vx2 vx3] 32))
   have HK45:=hide ((Kept.refl [] W2).alloc (.cells #[.slice kx1 kx2 kx3,.slice vx1 vx2 vx3] 32))
   have HO5:=hide ((uh HK45).owns (uh HO2) (by simp))
   have HK5:=hide ((uh HK2).trans (uh HK45) (by simp))
   have HRL:=hide (show RdC 2 (W2.alloc (.cells #[.slice kx1 kx2 kx3,.slice vx1 vx2 vx3] 32)) (.slice (some ⟨W2.heap.size,0,none⟩) 1 1) (kvR [(.slice kx1 kx2 kx3,.slice vx1 vx2 vx3)]) from ⟨_,1,1,rfl,rfl,Nat.le_refl _,by omega,fun _=>⟨W2.heap.size,0,rfl,fun j hj=>by
    have h0:j = 0:=by rw [xa0v] at hj; simp at hj; omega
    subst h0
    exact xa0k [] [.slice kx1 kx2 kx3,.slice vx1 vx2 vx3] [] (uh HW5) rfl⟩⟩)
   have hbnd:j + 1≤1000000001:=by omega
   go_wp2_with (first
   | (refine wpList_load_mid rfl 116 (.tmp 10) rfl b (off + j * 34) rfl (itC D (.slice kx1 kx2 kx3) (.slice vx1 vx2 vx3)) _ (uh HRG) Tryz.underlying116 rfl (by rw [xa2d (by rw [← uh HD]; exact xa0e _ _)]; exact Tryz.size_it) ?_)
   | (rw [lit_it]; refine wpList_store_row rfl 116 (.tmp 5) (.tmp 11) rfl wr.heap.size (itC D (.slice kx1 kx2 kx3) (.slice vx1 vx2 vx3)).toArray rfl rfl _ zit (uh HZ1) (by rw [xa1a (by rw [← uh HD]; exact xa0e _ _)]; exact Tryz.size_it) (by rw [xa1a (by rw [← uh HD]; exact xa0e _ _)]; rfl) (xa7n rfl rfl) ?_; rw [hW2]; simp only [Act.put])
   | (refine wpList_load_mid rfl 32 (.tmp 13) rfl wr.heap.size 32 rfl [.slice kx1 kx2 kx3,.slice vx1 vx2 vx3] _ (uh HPA2) Tryz.underlying32 rfl Tryz.size_pair ?_)
   | (refine xa3k rfl (.tmp 14) rfl (.slice kx1 kx2 kx3) (.slice vx1 vx2 vx3) rfl ?_)
   | (at_builtin; refine xa0j rfl 22 32 (.tmp 12) (.tmp 15) rfl rfl _ w.heap.size (.agg #[.slice none 0 0,.slice none 0 0]) 2 48 Tryz.underlying22 Tryz.infoQ rfl (by decide) (.slice vo j vc) j (kvR (l.take j)).flatten (uh HO5) (some ⟨W2.heap.size,0,none⟩) 1 1 (kvR [(.slice kx1 kx2 kx3,.slice vx1 vx2 vx3)]) (uh HRL) (by intro r hr; simp [kvR] at hr; rw [hr]; rfl) (by intro r hr u hu; simp [kvR] at hr; rw [hr] at hu; simp at hu; rcases hu with rfl | rfl <;> rfl) (by omega) (by omega) (uh HK5).size rfl rfl ?_; intro ao7 c7 w7 HO7 HG7 HA7))
   have HK7:=hide ((uh HK5).grown (uh HG7) (fun z hz=>Or.inr (hown z hz)))
   clear hown hbnd
   refine ⟨⟨j + 1,.slice ao7 (j + 1) c7,by go_num,rfl,hlt,hide (by rw [uh HTK,List.flatten_append]; exact uh HO7),HK7⟩,?_⟩
   simp [intOf]; omega
  ·have hje:j = n:=by omega
   subst hje
   have hlt':¬ (j:Int) < j:=by omega
   go_wp2
   go_ret
   have h9:=uh HOx
   rw [List.take_of_length_le (by omega)] at h9
   exact ⟨_,rfl,rdk_of (xa1z (by rw [xa0v,hll]; exact h9) (uh HPR).cell.1) ((uh HPR).agr (Agr.nil (uh HKr))),fun y hy=>by
    rcases h9.2 with ⟨e,_⟩ | ⟨g,c,cur,e,hg,_⟩
    ·rw [e] at hy; simp [blk] at hy
    ·rw [e] at hy; have h8:y = g:=by simpa [blk] using hy
     omega,uh HKr⟩
theorem xa4m (T:Nat→Prop) (k:Nat) (mv:Value) (L:Prs) (w:World) (hM:IAt T k w mv L) (hl:L.length≤1000000000) :
  Calls Tryz.prog 29 #[mv] w fun e w'=>∃ v',e = .returned v'∧RdK w' v' L∧Kept [] w w' :=
 (xa3s T k mv L w hM hl).mono fun e w' ⟨v,h1,h2,_,h4⟩=>⟨v,h1,h2,h4⟩
set_option maxHeartbeats 2000000 in
theorem xa4l (T:Nat→Prop) (k:Nat) (mv:Value) (L:Prs) (w:World) (hk:1≤k∧k≤32) (hM:IAt T k w mv L) (hs:Srt (hsZ k) L) (hl:L.length≤1000000000) :
  Calls Tryz.prog 88 #[mv] w fun e w'=>e = .returned (.bool (sgl (hsZ k) L))∧Kept [] w w':=by
 obtain ⟨ao,c,l,rfl,hc1,hc2,hll,hpr,hcell⟩:=hM.parts
 by_cases h0:L = []
 ·subst h0
  rw [xb0d]
  clear hcell hpr hM
  go_enter Tryz.func88,Tryz.ntmps88
  go_upto_region 1 with fail
  refine lr_si (by kernel_rfl) (by kernel_rfl) rfl (fun W=>Kept [] w W) (Kept.refl _ w).drew ?_
  refine LinG.rd (by rfl) (.slice ao 0 c) (fun W hW=>by go_simp) (by simp only [Act.put,sa1,sa2,sa3]; rfl) ?_
  refine LinG.rd (by rfl) (.int .i64 0) (fun W hW=>by go_simp) (by simp only [Act.put,sa1,sa2,sa3]; rfl) ?_
  refine LinG.rd (by rfl) (.bool true) (fun W hW=>by go_simp) (by simp only [Act.put,sa1,sa2,sa3]; rfl) ?_
  refine LinG.rd (by rfl) (.bool true) (fun W hW=>by go_simp) (by simp only [Act.put,sa1,sa2,sa3]; rfl) ?_
  iterate 12 refine LinG.no (by rfl) (by simp only [Act.put,sa1,sa2,sa3]; rfl) ?_
  refine LinG.rd (by rfl) (.bool true) (fun W hW=>by go_simp) (by simp only [Act.put,sa1,sa2,sa3]; rfl) ?_
  refine LinG.fin (ChL.op (.bool true) (by go_simp) (Kept.refl _ w).drew (by simp only [Act.put,sa1,sa2,sa3]; rfl) (ChL.fin ?_))
  go_wp2
  go_ret
  exact ⟨rfl,(Kept.refl _ w).drew⟩
 ·rw [xb8p (hsZ_ok hk) hs h0]
  have hp:0 < L.length:=by cases L with
   | nil=>exact absurd rfl h0
   | cons y L=>simp
  obtain ⟨b,off,rfl,hTb,hcl⟩:=hcell hp
  have hr0:=hcl 0 hp
  have hr1:=hcl (L.length - 1) (by omega)
  generalize (l.getD 0 (undef,undef)).1 = x0 at hr0
  generalize (l.getD 0 (undef,undef)).2 = y0 at hr0
  generalize (l.getD (L.length - 1) (undef,undef)).1 = x1 at hr1
  generalize (l.getD (L.length - 1) (undef,undef)).2 = y1 at hr1
  have hA:((hsZ k).kd (L.getD 0 ([],[])).1).length = 32:=xa0e _ _
  have hB:((hsZ k).kd (L.getD (L.length - 1) ([],[])).1).length = 32:=xa0e _ _
  generalize (hsZ k).kd (L.getD 0 ([],[])).1 = A at hr0 hA ⊢
  generalize (hsZ k).kd (L.getD (L.length - 1) ([],[])).1 = B at hr1 hB ⊢
  obtain ⟨n,hn⟩:∃ n,L.length = n:=⟨_,rfl⟩
  rw [hn] at hr1 hp hl hc1 ⊢
  have q1:((n:Int) == 0) = false:=by rw [beq_eq_false_iff_ne]; omega
  have q2:IntKind.i64.wrap ((n:Int) - 1) = ((n - 1:Nat):Int):=by simp [IntKind.wrap,IntKind.signed,IntKind.bits]; omega
  have q3:(0:Int) < n:=by omega
  have q4:((n - 1:Nat):Int) < n:=by omega
  have q5:¬ n = 0:=by omega
  have HR0:=hide (show w.rangeAt b off (A.map u8) from fun j u hu=>by
   have h9:=hr0 j u (by rw [itC,List.getElem?_append_left (by rw [List.length_map]; have:=(List.getElem?_eq_some_iff.1 hu).1; simpa using this)]; exact hu)
   simpa using h9)
  have HR1:=hide (show w.rangeAt b (off + (n - 1) * 34) (B.map u8) from fun j u hu=>by
   exact hr1 j u (by rw [itC,List.getElem?_append_left (by rw [List.length_map]; have:=(List.getElem?_eq_some_iff.1 hu).1; simpa using this)]; exact hu))
  have heq:=fun W=>dig_eq W A B hA hB
  obtain ⟨sm,hsm⟩:∃ sm,decide (A = B) = sm:=⟨_,rfl⟩
  rw [hsm] at heq ⊢
  have HEQ:=hide heq
  clear hr0 hr1 heq hsm hcl hcell hpr hM hs h0 hn hll
  obtain ⟨m,hm⟩:∃ m,n - 1 = m:=⟨_,rfl⟩
  rw [hm] at q2 q4 HR1
  clear hm
  go_enter Tryz.func88,Tryz.ntmps88
  go_upto_region 1 with fail
  refine lr_si (by kernel_rfl) (by kernel_rfl) rfl (fun W=>Kept [] w W) (Kept.refl _ w).drew ?_
  refine LinG.rd (by rfl) (.slice (some ⟨b,off,none⟩) n c) (fun W hW=>by go_simp) (by simp only [Act.put,sa1,sa2,sa3]; rfl) ?_
  refine LinG.rd (by rfl) (.int .i64 n) (fun W hW=>by go_simp) (by simp only [Act.put,sa1,sa2,sa3]; rfl) ?_
  refine LinG.rd (by rfl) (.bool false) (fun W hW=>by go_simp) (by simp only [Act.put,sa1,sa2,sa3]; rfl) ?_
  refine LinG.rd (by rfl) (.bool false) (fun W hW=>by go_simp) (by simp only [Act.put,sa1,sa2,sa3]; rfl) ?_
  refine LinG.rd (by rfl) (.slice (some ⟨b,off,none⟩) n c) (fun W hW=>by go_simp) (by simp only [Act.put,sa1,sa2,sa3]; rfl) ?_
  refine LinG.rd (by rfl) (.pointer (some ⟨b,off,none⟩)) (fun W hW=>by go_simp) (by simp only [Act.put,sa1,sa2,sa3]; rfl) ?_
  refine LinG.rd (by rfl) (.pointer (some ⟨b,off,none⟩)) (fun W hW=>by go_simp) (by simp only [Act.put,sa1,sa2,sa3]; rfl) ?_
  refine LinG.ld (by rfl) 50 (.tmp 9) rfl b off rfl (A.map u8) _ (fun W hW=>hW.rng (uh HR0) (by simp)) Tryz.underlying50 rfl (by rw [List.length_map,hA]; exact Tryz.size_dig) (by simp only [Act.put,sa1,sa2,sa3]; rfl) ?_
  refine LinG.rd (by rfl) (.slice (some ⟨b,off,none⟩) n c) (fun W hW=>by go_simp) (by simp only [Act.put,sa1,sa2,sa3]; rfl) ?_
  refine LinG.rd (by rfl) (.slice (some ⟨b,off,none⟩) n c) (fun W hW=>by go_simp) (by simp only [Act.put,sa1,sa2,sa3]; rfl) ?_
  refine LinG.rd (by rfl) (.int .i64 n) (fun W hW=>by go_simp) (by simp only [Act.put,sa1,sa2,sa3]; rfl) ?_
  refine LinG.rd (by rfl) (.int .i64 (m:Nat)) (fun W hW=>by go_simp) (by simp only [Act.put,sa1,sa2,sa3]; rfl) ?_
  refine LinG.rd (by rfl) (.pointer (some ⟨b,off + m * 34,none⟩)) (fun W hW=>by go_simp) (by simp only [Act.put,sa1,sa2,sa3]; rfl) ?_
  refine LinG.rd (by rfl) (.pointer (some ⟨b,off + m * 34,none⟩)) (fun W hW=>by go_simp) (by simp only [Act.put,sa1,sa2,sa3]; rfl) ?_
  refine LinG.ld (by rfl) 50 (.tmp 16) rfl b (off + m * 34) rfl (B.map u8) _ (fun W hW=>hW.rng (uh HR1) (by simp)) Tryz.underlying50 rfl (by rw [List.length_map,hB]; exact Tryz.size_dig) (by simp only [Act.put,sa1,sa2,sa3]; rfl) ?_
  refine LinG.rd (by rfl) (.bool sm) (fun W hW=>xa9t 50 (.tmp 10) (.tmp 17) 50 rfl (brow A) (brow B) rfl rfl W sm (by kernel_rfl) (uh HEQ W)) (by simp only [Act.put,sa1,sa2,sa3]; rfl) ?_
  refine LinG.rd (by rfl) (.bool sm) (fun W hW=>by go_simp) (by simp only [Act.put,sa1,sa2,sa3]; rfl) ?_
  refine LinG.fin (ChL.op (.bool sm) (by go_simp) (Kept.refl _ w).drew (by simp only [Act.put,sa1,sa2,sa3]; rfl) (ChL.fin ?_))
  go_wp2
  go_ret
  exact ⟨rfl,(Kept.refl _ w).drew⟩
theorem xa3v {P:Program} (w:World) (g off:Nat) (t ty:TypeId) (cur:Array Value) (v:Value) (hg:w.heap[g]? = some (.cells cur t (0,0))) (ho:off + 1≤cur.size) (hi:(P.info? ty).map (·.size) = some 1)
  (h1:v.oneCell' = true):(storeVar ty ⟨g,off,none⟩ v).run P w = .ok () (w.setRow g (cur.toList.take off++[v]++cur.toList.drop (off + 1)).toArray):=by
 have:=run_storeCells_at (P:=P) g off t [v] 0 cur w hg (by simpa using ho) (fun x hx=>by simp at hx; subst hx; exact h1)
 have hc:v.cells = #[v]:=by cases v <;> first | rfl | cases h1
 cases hq:P.info? ty with
 | none=>simp [hq] at hi
 | some i =>
  have hs:i.size = 1:=by simpa [hq] using hi
  simp only [Nat.add_zero] at this
  simp [storeVar,sizeOf,typeInfo,hq,hc,hs,this]
def dgR (ds:List (List Nat)):List (List Value):=ds.map fun d=>d.map u8
theorem xa6h {ds:List (List Nat)} (h:∀ d∈ds,Dg d):∀ r∈dgR ds,r.length = 32:=by
 intro r hr
 obtain ⟨d,hd,rfl⟩:=List.mem_map.1 hr
 rw [List.length_map]; exact (h d hd).1
theorem xb6t {ds:List (List Nat)}:∀ r∈dgR ds,∀ u∈r,u.oneCell' = true:=by
 intro r hr u hu
 obtain ⟨d,hd,rfl⟩:=List.mem_map.1 hr
 obtain ⟨x,_,rfl⟩:=List.mem_map.1 hu
 rfl
theorem xb1j {w:World} {v:Value} {ds:List (List Nat)} (h:RdC 32 w v (dgR ds)) (hd:∀ d∈ds,Dg d):RdD w v ds:=by
 obtain ⟨ao,len,cap,rfl,h1,h2,h3,h4⟩:=h
 have hl:(dgR ds).length = ds.length:=by simp [dgR]
 refine ⟨ao,len,cap,rfl,by rw [← h1,hl],h2,h3,hd,fun hp=>?_⟩
 obtain ⟨b,off,rfl,hc⟩:=h4 hp
 refine ⟨b,off,rfl,fun i hi j u hu=>?_⟩
 have hi':i < (dgR ds).length:=by omega
 have h9:=hc i hi' j u (by
  have e:(dgR ds)[i] = (ds.getD i []).map u8:=by
   rw [hl] at hi'
   simp [dgR,List.getD_eq_getElem?_getD,List.getElem?_eq_getElem hi']
  rw [e]; exact hu)
 exact h9
theorem Tryz.infoDg3:(Tryz.prog.info? 50).map (fun i=>(i.zero,i.size,i.bytes)) = some (some (.agg (zb 32)),32,32):=by kernel_rfl
theorem infoDgp:∃ i,Tryz.prog.info? 50 = some i∧i.zero = some (.agg (zb 32))∧i.size = 32:=by
 have h:=Tryz.infoDg3
 generalize Tryz.prog.info? 50 = o at h
 cases o with
 | none=>cases h
 | some i =>
  have h1:=Option.some.inj h
  exact ⟨i,rfl,(Prod.mk.inj h1).1,(Prod.mk.inj (Prod.mk.inj h1).2).1⟩
theorem xb0h {o:Oper} {a:Act} (w:World) (x:Operand) (ho:o.op = .buildSlice 62 1 #[(0,x)]) (d:List Nat) (hd:d.length = 32) (hx:a.eval x = .agg (brow d)):(execOp a.eval o).run Tryz.prog w = .ok (.value (.slice (some ⟨w.heap.size,0,none⟩) 1 1)) (w.alloc (.cells (brow d) 50)):=by
 obtain ⟨i0,hi,hz0,hz1⟩:=infoDgp
 have h9:=Great.fill_whole (s:=32) (by omega) [Value.agg (brow d)] ((Array.range (1 * 32)).map ((Value.agg (zb 32)).cells[· % (Value.agg (zb 32)).cells.size]!)) (by
  intro v hv
  have e:v = Value.agg (brow d):=by simpa using hv
  subst e
  show (brow d).size = 32
  rw [xa0a,hd]) (by simp)
 have hb:=run_buildSlice w 62 50 1 #[(0,.agg (brow d))] (brow d) i0 _ Tryz.underlying62 hi hz0 (by rw [hz1]; decide) (by rw [hz1]; decide) (by
  rw [hz1]
  refine Eq.trans h9 ?_
  show some ((brow d).toList++[]).toArray = some (brow d)
  rw [List.append_nil])
 unfold execOp
 simp only [ho,List.map_toArray,List.map_cons,List.map_nil,hx,Sem.run_bind,hb,Result.andThen_ok]
 rfl
theorem Tryz.size_u16:(Tryz.prog.info? 61).map (·.size) = some 1:=by kernel_rfl
theorem Tryz.size_dgs:(Tryz.prog.info? 62).map (·.size) = some 1:=by kernel_rfl
theorem Tryz.size_stp:(Tryz.prog.info? 64).map (·.size) = some 2:=by kernel_rfl
theorem xb3x (k f d:Nat) (L:Prs) (i:Nat):∀ x∈kidI (hsZ k) f d L i,Dg x:=fun x hx=>by
 obtain ⟨j,_,rfl⟩:=List.mem_map.1 hx
 exact nod_dg k f _
abbrev iv (n:Nat):Value:=.int .i64 (n:Int)
theorem xb0s {P:Program} {ops:Array Oper} {rest:List Oper} {o:Oper} {a:Act} {w:World} {Q:Exit→Act→World→Prop} (hgd:o.guard = none) (t t2:TypeId) (x y:Operand)
  (ho:o.op = .binOp .shr t x y t2) (b i q:Nat) (hi:i < 16) (hx:a.eval x = .int .u16 (b:Int)) (hy:a.eval y = .int .i64 (i:Int)) (hq:(b:Int) / 2 ^ i = (q:Int)) (hK:wpList P ops Q rest (a.put o.dst (.int .u16 (q:Int))) w):wpList P ops Q (o :: rest) a w:=by
 have e:(Op.shift .shr .u16 (b:Int) .i64 (i:Int)).run P w = .ok (.int .u16 (q:Int)) w:=by
  rw [shift_shr .u16 .i64 (b:Int) (i:Int) (by omega) (by simp [IntKind.bits]; omega),Int.toNat_natCast,hq]
  rfl
 refine wpList_plain hgd fun K hK'=>?_
 unfold Oper.wp execOp
 simp only [ho,hx,hy,binOp,eqGuard,Sem.run_bind,Bool.not_false,if_true,Sem.run_pure,Result.andThen_ok,e]
 exact hK' _ _ hK
end
section
open Go
section
variable {P:Program} {ops:Array Oper} {Q:Exit→Act→World→Prop} {md:Region.Mode} {S:Array Bool→World→Prop}
def AnyL (P:Program) (md:Region.Mode) (ops:Array Oper) (Q:Exit→Act→World→Prop) (S:Array Bool→World→Prop):Nat→Array Bool→Act→World→Prop
 | 0,d,a,w=>Region.ready md ops d = []∧Q .normal a w
 | g + 1,d,a,w=>(Region.ready md ops d = []→Q .normal a w)∧∀ i∈Region.ready md ops d,wpOp P ops Q i (fun a' w'=>S (d.setIfInBounds i true) w'∧AnyL P md ops Q S g (d.setIfInBounds i true) a' w') a w
theorem AnyL.any:∀ (g:Nat) (d:Array Bool) (a:Act) (w:World),AnyL P md ops Q S g d a w→wpAny P md ops Q g d a w
 | 0,_,_,_,h=>h
 | g + 1,_,_,_,h=>⟨h.1,fun i hi=>wpOp_mono (fun a' w' h'=>AnyL.any g _ a' w' h'.2) (h.2 i hi)⟩
theorem AnyL.first {i t:Nat} {oi ot:Oper} {v:Value} {T:World→Prop} (hi:ops[i]? = some oi) (ht:ops[t]? = some ot) (hit:t≠i) (hb:∃ e∈ot.after,Region.binds md e = true∧e.on = i)
  (hsel:∀ (j:Nat) (o:Oper) cs b,ops[j]? = some o→o.op≠.select cs b) (hQ:∀ c a w,Q (.panic c) (a.put oi.dst v) w→Q (.panic c) a w)
  (hST:∀ d w,S d w→d.getD t true = false→T w) (hSi:∀ d w,S (d.setIfInBounds i true) w↔S d w) :
  ∀ (g:Nat) (d:Array Bool) (a:Act) (w:World),
   (∀ j oj,ops[j]? = some oj→j≠i→d.getD j true = false→(∀ e∈oj.after,Region.binds md e = true→e.on≠i)→oi.apart ops oj = true) →
   i∈Region.ready md ops d→YieldsIf P ops T oi v a→d.getD t true = false→S d w →
   AnyL P md ops Q S g (d.setIfInBounds i true) (a.put oi.dst v) w→AnyL P md ops Q S (g + 1) d a w:=by
 intro g
 induction g with
 | zero =>
  intro d a w _ hr hy hdt hS H
  refine ⟨fun h=>(by rw [h] at hr; cases hr),fun j hj=>?_⟩
  by_cases hji:j = i
  ·subst hji; exact hy.wpOp hi (hST d w hS hdt) ⟨(hSi d w).2 hS,H⟩
  ·have:=ready_mono hj hji
   rw [H.1] at this
   cases this
 | succ g ih =>
  intro d a w hfree hr hy hdt hS H
  refine ⟨fun h=>(by rw [h] at hr; cases hr),fun j hj=>?_⟩
  by_cases hji:j = i
  ·subst hji; exact hy.wpOp hi (hST d w hS hdt) ⟨(hSi d w).2 hS,H⟩
  ·have h1:=H.2 j (ready_mono hj hji)
   obtain ⟨hjun,oj,hoj,hall⟩:=mem_ready.1 hj
   have hnot:∀ e∈oj.after,Region.binds md e = true→e.on≠i:=fun e he hb heq=>by
    have h1:=hall e he hb
    have h0:=(mem_ready.1 hr).1
    rw [heq] at h1
    rcases Nat.lt_or_ge i d.size with h' | h'
    ·simp [h'] at h0 h1; rw [h0] at h1; cases h1
    ·simp [Array.getElem?_eq_none h'] at h1
   have hjt:j≠t:=fun e9=>by
    subst e9
    rw [ht] at hoj
    injection hoj with hoj
    obtain ⟨e,he,hb1,hb2⟩:=hb
    exact hnot e (by rw [← hoj]; exact he) hb1 hb2
   have h2:=wpOp_putIf hoj (hfree j oj hoj hji hjun hnot) (fun cs b=>hsel i oi cs b hi) (fun cs b=>hsel j oj cs b hoj) hQ hy h1
   refine wpOp_mono (fun a' w' h3=>?_) h2
   have hc:=Array.setIfInBounds_comm (xs:=d) true true hji
   have hS':S (d.setIfInBounds j true) w':=(hSi _ w').1 (by rw [hc]; exact h3.2.1)
   refine ⟨hS',ih (d.setIfInBounds j true) a' w' (fun k ok hk hki hun hno=>?_) (ready_mono hr (Ne.symm hji)) h3.1 ?_ hS' ?_⟩
   ·refine hfree k ok hk hki ?_ hno
    by_cases hjk:j = k
    ·subst hjk; exact hjun
    ·rw [getD_set_ne true hjk] at hun; exact hun
   ·rw [getD_set_ne true hjt]; exact hdt
   ·rw [hc]; exact h3.2.2
theorem AnyL.take {i t:Nat} {oi ot:Oper} {v:Value} {T:World→Prop} {g:Nat} {d:Array Bool} {a:Act} {w:World} (hi:ops[i]? = some oi) (ht:ops[t]? = some ot) (hit:t≠i) (hs:Region.noSelect ops = true) (hf:Region.free md ops d i = true)
  (hr:(Region.ready md ops d).contains i = true) (hb:ot.after.any (fun e=>Region.binds md e && e.on == i) = true) (hQ:∀ c a w,Q (.panic c) (a.put oi.dst v) w→Q (.panic c) a w)
  (hST:∀ d w,S d w→d.getD t true = false→T w) (hSi:∀ d w,S (d.setIfInBounds i true) w↔S d w) (hy:YieldsIf P ops T oi v a) (hd:d.getD t true = false) (hS:S d w)
  (h:AnyL P md ops Q S g (d.setIfInBounds i true) (a.put oi.dst v) w):AnyL P md ops Q S (g + 1) d a w:=by
 refine AnyL.first hi ht hit ?_ (Region.noSelect_spec hs) hQ hST hSi g d a w (Region.free_spec hi hf) (by simpa using hr) hy hd hS h
 obtain ⟨e,he,h9⟩:=Array.any_eq_true'.1 hb
 simp only [Bool.and_eq_true,beq_iff_eq] at h9
 exact ⟨e,he,h9⟩
theorem AnyL.forced {i:Nat} {o:Oper} {g:Nat} {d:Array Bool} {a:Act} {w:World} (hr:Region.ready md ops d = [i]) (ho:ops[i]? = some o) (hg:o.guard = none)
  (h:∀ K:Act→World→Prop,(∀ a' w',S (d.setIfInBounds i true) w'→AnyL P md ops Q S g (d.setIfInBounds i true) a' w'→K a' w')→o.wp P a w K Q):AnyL P md ops Q S (g + 1) d a w:=by
 refine ⟨fun h0=>(by rw [hr] at h0; cases h0),fun j hj=>?_⟩
 rw [hr] at hj
 obtain rfl:j = i:=by simpa using hj
 refine wpOp_step ho (fun K' hK=>?_)
 rw [if_pos (by unfold Region.wanted; rw [hg])]
 exact h K' (fun a' w' h1 h2=>hK a' w' ⟨h1,h2⟩)
end
section
variable {P:Program} {Q:Exit→Act→World→Prop}
end
end
section
open Go Go.RowKit Go.BigFrame
section
variable {P:Program} {Q:Exit→Act→World→Prop} {T:World→Prop}
def linRT (O:Array Oper) (t:Nat):List Nat→Array Bool→Bool
 | [],_=>true
 | i :: r,d=>(Region.free .any O d i && (Region.ready .any O d).contains i) && ((match O[t]? with | some ot=>ot.after.any (fun e=>Region.binds .any e && e.on == i) | none=>false) && (decide (t≠i) && (decide (d.getD t true = false) && linRT O t r (d.setIfInBounds i true))))
def lateS (T:World→Prop) (t:Nat):Array Bool→World→Prop:=fun d w=>d.getD t true = false→T w
theorem xb8j {t i:Nat} (h:t≠i) (d:Array Bool) (w:World):lateS T t (d.setIfInBounds i true) w↔lateS T t d w:=by
 unfold lateS
 rw [getD_set_ne true (fun e=>h e.symm)]
theorem xb4i (t:Nat) (d:Array Bool) (w:World):lateS T t (d.setIfInBounds t true) w:=fun h=>by
 exfalso
 by_cases hd:t < d.size
 ·simp [Array.getD,hd] at h
 ·simp [Array.getD,hd] at h
theorem xa6o {O:Array Oper} {F:Act→World→Prop} {m t:Nat} {ot:Oper} {D:Array Bool} (ht:O[t]? = some ot) (hs:Region.noSelect O = true) (hF:∀ a w,F a w→AnyL P .any O (NoPanic Q) (lateS T t) m D a w) :
  ∀ (R:List Nat) (rs:List Oper) (d:Array Bool) (a:Act) (w:World),R.map (O[·]?) = rs.map some→(∀ o∈rs,o.guard = none)→linRT O t R d = true→linD R d = D→T w→LinY P T F rs a w→AnyL P .any O (NoPanic Q) (lateS T t) (R.length + m) d a w
 | [],[],d,a,w,_,_,_,hc,_,h=>by rw [List.length_nil,Nat.zero_add]; have e:d = D:=hc; rw [e]; exact hF a w h
 | [],_ :: _,_,_,_,he,_,_,_,_,_=>by simp at he
 | i :: R,[],_,_,_,he,_,_,_,_,_=>by simp at he
 | i :: R,o :: rs,d,a,w,he,hg,hr,hc,hS,h=>by
  simp only [List.map_cons,List.cons.injEq] at he
  simp only [linRT,ht,Bool.and_eq_true,decide_eq_true_eq] at hr
  obtain ⟨v,hv,h2⟩:=h
  have hw:∀ y,Region.wanted o y = true:=fun y=>by unfold Region.wanted; rw [hg o (by simp)]
  rw [List.length_cons,show R.length + 1 + m = (R.length + m) + 1 by omega]
  refine AnyL.take (i:=i) (t:=t) (oi:=o) (ot:=ot) (T:=T) he.1 ht hr.2.2.1 hs hr.1.1 hr.1.2 hr.2.1 (fun _ _ _ h=>h) (fun d w h9 hd=>h9 hd) (fun d w=>xb8j hr.2.2.1 d w) (Or.inl ⟨hw _,hv⟩) hr.2.2.2.1 (fun _=>hS) ?_
  exact xa6o ht hs hF R rs _ _ w he.2 (fun x hx=>hg x (by simp [hx])) hr.2.2.2.2 hc hS h2
theorem xa6z {O:Array Oper} {F:Act→World→Prop} {m t:Nat} {D:Array Bool} (hF:∀ a w,F a w→AnyL P .any O (NoPanic Q) (lateS T t) m D a w):∀ (C:List Nat) (cs:List Oper) (d:Array Bool) (a:Act) (w:World),C.map (O[·]?) = cs.map some→(∀ o∈cs,o.guard = none)→linC O C d = true→linD C d = D→ChL P Q T F cs a w→AnyL P .any O (NoPanic Q) (lateS T t) (C.length + m) d a w
 | [],[],d,a,w,_,_,_,hD,h=>by rw [List.length_nil,Nat.zero_add]; have e:d = D:=hD; rw [e]; exact hF a w h
 | [],_ :: _,_,_,_,he,_,_,_,_=>by simp at he
 | i :: C,[],_,_,_,he,_,_,_,_=>by simp at he
 | i :: C,o :: cs,d,a,w,he,hg,hb,hD,h=>by
  simp only [List.map_cons,List.cons.injEq] at he
  simp only [linC,Bool.and_eq_true,decide_eq_true_eq] at hb
  rw [List.length_cons,show C.length + 1 + m = (C.length + m) + 1 by omega]
  refine AnyL.forced hb.1 he.1 (hg o (by simp)) (fun K hK=>?_)
  exact Oper.wp_mono (fun a' w' h2=>hK a' w' (fun _=>h2.1) (xa6z hF C cs _ a' w' he.2 (fun x hx=>hg x (by simp [hx])) hb.2 hD h2.2)) h
def linBT (O:Array Oper) (R C:List Nat) (t:Nat):Bool :=
 (Region.noSelect O && decide (O.size = R.length + (C.length + 1))) && (linRT O t R (linS O) && (linC O C (linD R (linS O)) && (decide (Region.ready .any O (linD C (linD R (linS O))) = [t]) && decide (Region.ready .any O ((linD C (linD R (linS O))).setIfInBounds t true) = []))))
theorem xb2n {id:Nat} {O:Array Oper} {a:Act} {w:World} {R C:List Nat} {t:Nat} {rs cs:List Oper} {ot:Oper} (hm:P.follows .mixedOrders = true) (hb:linBT O R C t = true) (hR:R.map (O[·]?) = rs.map some) (hC:C.map (O[·]?) = cs.map some) (ht:O[t]? = some ot) (hg:(rs++(cs++[ot])).all (fun o=>o.guard.isNone) = true)
  (hT:T w.drew) (h:LinY P T (ChL P Q T (fun a w=>ot.wp P a w (Q .normal) (NoPanic Q)) cs) rs a w.drew):(Code.region id O true).wp P Q a w:=by
 unfold linBT at hb
 simp only [Bool.and_eq_true,decide_eq_true_eq] at hb
 obtain ⟨⟨b1,b2⟩,b3,b4,b5,b6⟩:=hb
 rw [List.all_append,List.all_append,Bool.and_eq_true,Bool.and_eq_true,List.all_eq_true,List.all_eq_true,List.all_eq_true] at hg
 refine wp_region_noPanic ?_
 refine wp_region_any hm ?_
 refine AnyL.any (S:=lateS T t) _ _ _ _ ?_
 rw [b2]
 have h3:∀ a w,ot.wp P a w (Q .normal) (NoPanic Q)→AnyL P .any O (NoPanic Q) (lateS T t) 1 (linD C (linD R (linS O))) a w:=fun a w h=>by
  refine AnyL.forced b5 ht (by simpa using hg.2.2 ot (by simp)) (fun K hK=>?_)
  exact Oper.wp_mono (fun a' w' h2=>hK a' w' (xb4i t _ w') ⟨b6,NoPanic.normal h2⟩) h
 have h2:=fun a w h=>xa6z (P:=P) (Q:=Q) (T:=T) (t:=t) h3 C cs (linD R (linS O)) a w hC (fun o ho=>by simpa using hg.2.1 o ho) b4 rfl h
 have:=xa6o (P:=P) (Q:=Q) (T:=T) ht b1 h2 R rs (linS O) a w.drew hR (fun o ho=>by simpa using hg.1 o ho) b3 rfl hT h
 unfold linS at this
 rw [b2] at this
 exact this
end
end
end Go.Proofs.YtiopaaeejppnnaaGreatDoor
