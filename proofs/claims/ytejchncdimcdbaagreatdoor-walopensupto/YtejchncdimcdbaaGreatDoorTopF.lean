import Derived.Test.YtejchncdimcdbaaGreatDoorTopE
namespace Go.Proofs.YtejchncdimcdbaaGreatDoor
set_option linter.unusedVariables false
set_option linter.unusedSimpArgs false
set_option maxRecDepth 100000
section
open Go.RowKit Go.BigFrame Go.Maps Go.Sort
theorem xc2n {X:IFile} {SY:Nat} (h:X.sy = SY):toDF X = ⟨X.nm,X.bs,SY,X.nd⟩:=by unfold toDF; rw [h]; rfl
theorem fr_bad {sec:Int} {l:List IFile} (h1:1≤sec) (h2:sec≤4096) (h:¬ FormedL l):FrR sec l = 3:=by
 unfold FrR
 rw [if_pos ⟨h1,h2⟩,xa2o h]
 rfl
theorem xc1m {sec:Int} {l:List IFile} (h1:1≤sec) (h2:sec≤4096) (h:FormedL l):FrR sec l = 0:=by
 unfold FrR
 rw [if_pos ⟨h1,h2⟩,(xa2e l).2 h]
 rfl
set_option maxHeartbeats 4000000 in
theorem xb1u (sec:Int) (v:Value) (l:List IFile) (bb:Nat) (w:World) (hr:RdC 4 w v (l.map ifC)) (ho:∀ f∈l,OkIf w f) (hl:l.length≤1048576) (hb:∀ f∈l,f.bs.length≤bb) (hbb:bb≤140737488330000) :
  Calls Tryz.prog 14 #[.int .i64 sec,v] w fun e w'=>∃ p,e = .returned (.tuple #[p,.int .i64 (FrR sec l:Nat)])∧Kept [] w w'∧(FrR sec l≠0→p = .pointer none)∧(FrR sec l = 0→∃ c R,p = .pointer (some ⟨c,0,none⟩)∧RK w' c R l.length bb ⟨sec.toNat,0,0,false,fun _=>none,l.map toDF⟩∧∀ x∈R,w.heap.size≤x):=by
 by_cases hs:1≤sec∧sec≤4096
 ·obtain ⟨S,hS⟩:∃ S:Nat,sec = S:=⟨sec.toNat,by omega⟩
  subst hS
  have hs1:¬ (S:Int) < 1:=by omega
  have hs2:¬ (4096:Int) < (S:Int):=by omega
  have HFB:=hide (fun (h:¬ FormedL l)=>fr_bad hs.1 hs.2 h)
  have HFG:=hide (fun (h:FormedL l)=>xc1m hs.1 hs.2 h)
  have HS:=hide hs
  obtain ⟨FR,hFR⟩:∃ FR,FrR (S:Int) l = FR:=⟨_,rfl⟩
  rw [hFR] at HFB HFG ⊢
  obtain ⟨va,vl,vc,rfl,g1,g2,g3,g4⟩:=hr
  rw [List.length_map] at g1
  subst g1
  have H4:=hide g4
  have HO:=hide ho
  have HB:=hide hb
  have k0:=(Kept.refl [] w).alloc (.cells #[.int .i64 (S:Int),.slice none 0 0,.slice none 0 0,.int .i64 0,.int .i64 0,.bool false] 94 (0,0))
  have g0:=heap_alloc_new w (.cells #[.int .i64 (S:Int),.slice none 0 0,.slice none 0 0,.int .i64 0,.int .i64 0,.bool false] 94 (0,0))
  obtain ⟨W0,hW0⟩:∃ W,w.alloc (.cells #[.int .i64 (S:Int),.slice none 0 0,.slice none 0 0,.int .i64 0,.int .i64 0,.bool false] 94 (0,0)) = W:=⟨_,rfl⟩
  rw [hW0] at k0 g0
  have HW0:=hide hW0
  have HK0:=hide k0
  have hz:zblk (.slice none 0 0) (([]:List (Int × Int)).map faC) = []:=rfl
  have HP0:=hide (⟨g0,OwnFl.nil _ _,rfl,RdC.nil 2 _,Nat.zero_le _,by funext a; rfl,by rw [hz]; simp,by simp [blk],by rw [hz]; simp⟩:RP W0 w.heap.size ⟨S,0,0,false,fun _=>none,[]⟩ (.slice none 0 0) [] (.slice none 0 0) [] 0)
  clear g4 ho hb hs k0 g0 hW0 hz hFR
  go_enter Tryz.func14,Tryz.ntmps14
  go_wp2_with (first | (rw [uh HW0]) | fail)
  go_loopw [20] (fun t20 wr=>∃ (i:Nat) (fsv:Value) (ts:List (DF × Value)),i≤l.length∧t20 = .int .i64 i∧Hid (∀ j (hj:j < l.length),j < i→okF l j hj)∧Hid (RP wr w.heap.size ⟨S,0,0,false,fun _=>none,(l.take i).map toDF⟩ fsv ts (.slice none 0 0) [] 0)∧Hid (∀ x∈rkB w.heap.size fsv ts (.slice none 0 0) [],w.heap.size≤x)∧Hid (Kept [] w wr)) (fun t _=>l.length - (intOf t).toNat)
  case atStart=>exact ⟨0,_,_,Nat.zero_le _,rfl,hide (fun j hj h=>by omega),HP0,hide (by simp [rkB,flB,blk,zblk]),HK0⟩
  case round =>
   obtain ⟨i,fsv,ts,hi,rfl,HA,HP,HNW,HK⟩:=hrel
   obtain ⟨fa,fc,hfsv,hfg⟩:=(uh HP).own.shapeL
   subst hfsv
   by_cases hlt:i < l.length
   ·have hlt':(i:Int) < l.length:=by omega
    obtain ⟨b,off,rfl,hcc⟩:=uh H4 (by omega)
    have hrr:=hcc i (by rw [List.length_map]; exact hlt)
    rw [List.getElem_map] at hrr
    have p0:=(uh HK).cell (hrr 0 _ rfl) (by simp)
    have p1:=(uh HK).cell (hrr 1 _ rfl) (by simp)
    have p2:=(uh HK).cell (hrr 2 _ rfl) (by simp)
    have p3:=(uh HK).cell (hrr 3 _ rfl) (by simp)
    rw [Nat.add_zero] at p0
    have hof:=uh HO l[i] (List.getElem_mem hlt)
    have HPR:=hide (fun (hp:0 < i)=>by
     have h9:=hcc (i - 1) (by rw [List.length_map]; omega)
     rw [List.getElem_map] at h9
     exact h9 0 _ rfl:∀ hp:0 < i,w.cell? ⟨b,off + (i - 1) * 4 + 0,none⟩ = some (.string l[i - 1].nm))
    have HOK:Hid (isNm l[i].nm = true→0≤l[i].sy→l[i].sy≤l[i].bs.length→(∀ hp:0 < i,l[i - 1].nm.data.toList < l[i].nm.data.toList)→okF l i hlt):=hide (fun a1 a2 a3 a4=>⟨a1,a2,a3,a4⟩)
    have HNO:=hide (fun (hf:FormedL l)=>hf i hlt)
    unfold okF at HNO
    have HTS:=hide (List.take_succ_eq_append_getElem hlt)
    have HXB:=hide (uh HB l[i] (List.getElem_mem hlt))
    clear hrr hcc
    obtain ⟨xa,xl,xc,hv⟩:=(show ∃ va vl vc,l[i].v = .slice va vl vc by obtain ⟨a,b,c,h9,_⟩:=hof.1; exact ⟨a,b,c,h9⟩)
    have hvl:xl = l[i].bs.length:=by
     obtain ⟨a,b,c,h9,h10,_⟩:=hof.1
     rw [hv] at h9
     injection h9 with _ h9 _
     rw [h9,h10]
    have hnl:=hof.2.1
    have HRD:=hide (by have h9:=hof.1; rw [hv] at h9; exact h9.kept (uh HK) (by simp))
    rw [hv] at p1
    generalize hX:l[i] = X at *
    subst hvl
    have hX9:l[i] = X:=hX
    clear hof hX hv
    go_upto_region 7 with fail
    have HKV1:=hide ((Kept.refl [] wr).alloc (.cells #[.string X.nm,.slice xa X.bs.length xc,.int .i64 X.sy,.bool X.nd] 74 (0,0)))
    have HGV:=hide (heap_alloc_new wr (.cells #[.string X.nm,.slice xa X.bs.length xc,.int .i64 X.sy,.bool X.nd] 74 (0,0)))
    obtain ⟨V,hV⟩:∃ W,wr.alloc (.cells #[.string X.nm,.slice xa X.bs.length xc,.int .i64 X.sy,.bool X.nd] 74 (0,0)) = W:=⟨_,rfl⟩
    rw [hV] at HKV1 HGV ⊢
    clear hV p0 p1 p2 p3
    have HKV:=hide ((uh HK).trans (uh HKV1) (by simp))
    have z0:=cell_of_row _ _ 0 _ _ _ (uh HGV)
    have z1:=cell_of_row _ _ 1 _ _ _ (uh HGV)
    have z2:=cell_of_row _ _ 2 _ _ _ (uh HGV)
    have z3:=cell_of_row _ _ 3 _ _ _ (uh HGV)
    simp at z0 z1 z2 z3
    have HNM:=hide (fun j:Nat=>(xb0l X.nm (V.drewN j) (by omega)).mono (fun e w' h9=>⟨h9.1,0,by rw [h9.2]; rfl⟩):∀ j:Nat,Calls Tryz.prog 44 #[.string X.nm] (V.drewN j) fun e w'=>e = .returned (.bool (isNm X.nm))∧∃ n,w' = (V.drewN j).drewN n)
    have HH2:=hide g2
    by_cases hgood:okF l i hlt
    ·obtain ⟨hn,s0',s1',hlt9⟩:=hgood
     rw [hX9] at hn s0' s1'
     rw [hn] at HNM
     have s0:¬ X.sy < 0:=by omega
     have s1:¬ (X.bs.length:Int) < X.sy:=by omega
     obtain ⟨SY,hSY⟩:∃ SY:Nat,X.sy = SY:=⟨X.sy.toNat,by omega⟩
     rw [hSY] at s0 s1 z2
     have HSY:=hide hSY
     have HOKI:=hide (uh HOK hn s0' s1' (fun hp=>by have h9:=hlt9 hp; rw [hX9] at h9; exact h9))
     clear hSY
     by_cases hp:0 < i
     case' pos =>
      have HLT9:=hide (by have h9:=hlt9 hp; rw [hX9] at h9; exact h9:l[i - 1].nm.data.toList < X.nm.data.toList)
      have q0:=(uh HKV).cell (uh HPR hp) (by simp)
      rw [Nat.add_zero] at q0
      have hip:(0:Int) < (i:Int):=by omega
      have hsub:(i:Int) - 1 = ((i - 1:Nat):Int):=by omega
      generalize l[i - 1] = Y at q0 HLT9
      obtain ⟨i1,hi1⟩:∃ i1,i - 1 = i1:=⟨_,rfl⟩
      rw [hi1] at q0 hsub
      have hi1c:(i1:Int) < l.length:=by omega
      clear hn HOK HNO HPR hlt9 s0' s1'
      refine wp_region_quiet_lit (by kernel_rfl) (by kernel_rfl) ?_
      repeat (go_big_quiet_step (first | (go_at_call 44; exact Calls.mono (uh HNM _) (fun e x h=>⟨h.1,by obtain ⟨m,hm⟩:=h.2; exact ⟨_,by rw [hm,xa0g]⟩⟩))))
      refine wpQuiet_nil ?_
      rintro _ ⟨m5,rfl⟩
      rw [xa5q,decide_eq_true (uh HLT9)]
      clear q0 hsub hip hi1c
     case' neg =>
      have hip:¬ (0:Int) < (i:Int):=by omega
      clear hn HOK HNO HPR hlt9 s0' s1'
      refine wp_region_quiet_lit (by kernel_rfl) (by kernel_rfl) ?_
      repeat (go_big_quiet_step (first | (go_at_call 44; exact Calls.mono (uh HNM _) (fun e x h=>⟨h.1,by obtain ⟨m,hm⟩:=h.2; exact ⟨_,by rw [hm,xa0g]⟩⟩))))
      refine wpQuiet_nil ?_
      rintro _ ⟨m5,rfl⟩
      clear hip
     all_goals
      clear hp
      have z0:=((Kept.refl [] V).drewN m5).cell z0 (by simp)
      have z1:=((Kept.refl [] V).drewN m5).cell z1 (by simp)
      have z2:=((Kept.refl [] V).drewN m5).cell z2 (by simp)
      have z3:=((Kept.refl [] V).drewN m5).cell z3 (by simp)
      have HKX:=hide ((uh HKV1).drewN m5)
      obtain ⟨V5,hV5⟩:∃ W,V.drewN m5 = W:=⟨_,rfl⟩
      rw [hV5] at z0 z1 z2 z3 HKX ⊢
      clear hV5
      go_upto_region 9 with fail
      have HPX:=hide ((uh HP).old (uh HKX))
      have q1:=cell_of_row _ _ 1 _ _ _ (uh HPX).row
      simp [rkC] at q1
      have hnb:∀ x,(.slice fa ts.length fc:Value).ownBlock = some x→x < wr.heap.size∧x≠w.heap.size:=by
       intro x hx
       have h1:=xa1a hx
       exact ⟨((uh HP).own.ge x (by simp only [flB,List.mem_append]; exact .inl h1)).2,rk_ne (uh HP).row (uh HP).own x (by simp only [flB,List.mem_append]; exact .inl h1)⟩
      have HNC:=hide (fun hm=>by simp only [Option.mem_toList] at hm; exact (hnb _ hm).2 rfl:w.heap.size∉(.slice fa ts.length fc:Value).ownBlock.toList)
      have HNV:=hide (fun hm=>by simp only [Option.mem_toList] at hm; have:=(hnb _ hm).1; omega:wr.heap.size∉(.slice fa ts.length fc:Value).ownBlock.toList)
      have HNB:=hide hnb
      have HRD5:=hide ((uh HRD).kept (uh HKX) (by simp))
      have HTL:=hide (by have h9:=(uh HP).len; simp at h9; omega:ts.length≤1048576)
      have HEQ:=hide (by rw [uh HTS,List.map_append,List.map_cons,List.map_nil,xc2n (uh HSY)]:(l.take (i + 1)).map toDF = (l.take i).map toDF++[⟨X.nm,X.bs,SY,X.nd⟩])
      clear hnb
      refine xc2o (by kernel_rfl) (by kernel_rfl) (by kernel_rfl) (by kernel_rfl) (by kernel_rfl) (by kernel_rfl) (by kernel_rfl) (by kernel_rfl) (by kernel_rfl) (by kernel_rfl) (by kernel_rfl) (by kernel_rfl) (by kernel_rfl) (by kernel_rfl) (by kernel_rfl) (by kernel_rfl) (by kernel_rfl) (by kernel_rfl) (by kernel_rfl) (by kernel_rfl) (by kernel_rfl) rfl (by kernel_rfl) rfl (by kernel_rfl) rfl (by kernel_rfl) rfl (by kernel_rfl) rfl (by kernel_rfl) rfl (by kernel_rfl)
       (.pointer (some ⟨w.heap.size,0,none⟩)) (.pointer (some ⟨w.heap.size,0,none⟩)) (.pointer (some ⟨w.heap.size,0,none⟩)) (.pointer (some ⟨w.heap.size,1,none⟩)) (.slice fa ts.length fc) (.agg #[.string X.nm,.slice xa X.bs.length xc,.int .i64 (SY:Int),.bool X.nd]) _ _ _ _ _ _
       (fun w'=>Kept (.slice fa ts.length fc:Value).ownBlock.toList V5 w')
       (fun w'=>Kept [] V5 w')
       (fun u0 w'=>(∃ g2,u0 = .agg #[.string X.nm,.slice (some ⟨g2,0,none⟩) X.bs.length X.bs.length,.int .i64 (SY:Int),.bool X.nd]∧w'.ownsRow V5.heap.size 5 1 (.slice (some ⟨g2,0,none⟩) X.bs.length X.bs.length) X.bs.length (X.bs.map Go.Proofs.YtejchncdimcdbaaGreatDoor.u8)∧V5.heap.size≤g2)∧Kept [] V5 w')
       (fun u0 u1 w'=>(∃ g2 H,u1 = .slice (some ⟨H,0,none⟩) 1 1∧w'.heap[H]? = some (.cells #[.string X.nm,.slice (some ⟨g2,0,none⟩) X.bs.length X.bs.length,.int .i64 (SY:Int),.bool X.nd] 74 (0,0))∧w'.ownsRow V5.heap.size 5 1 (.slice (some ⟨g2,0,none⟩) X.bs.length X.bs.length) X.bs.length (X.bs.map Go.Proofs.YtejchncdimcdbaaGreatDoor.u8)∧V5.heap.size≤g2)∧Kept [] V5 w')
       (fun u0 u1 u2 w'=>(∃ g2 g5 cap5 W,u2 = .slice (some ⟨g5,0,none⟩) (ts.length + 1) cap5∧OwnFl 0 w' u2 (ts++[(⟨X.nm,X.bs,SY,X.nd⟩,.slice (some ⟨g2,0,none⟩) X.bs.length X.bs.length)])∧Kept [] V5 W∧W.grownBy w' (.slice fa ts.length fc:Value).ownBlock∧((.slice fa ts.length fc:Value).ownBlock = some g5∨g5 = W.heap.size)∧V5.heap.size≤g2)∧Kept (.slice fa ts.length fc:Value).ownBlock.toList V5 w')
       (fun u0 u1 u2 u3 w'=>u3 = .pointer (some ⟨w.heap.size,0,none⟩)∧(∃ g2 g5 cap5 W,u2 = .slice (some ⟨g5,0,none⟩) (ts.length + 1) cap5∧OwnFl 0 w' u2 (ts++[(⟨X.nm,X.bs,SY,X.nd⟩,.slice (some ⟨g2,0,none⟩) X.bs.length X.bs.length)])∧Kept [] V5 W∧W.grownBy w' (.slice fa ts.length fc:Value).ownBlock∧((.slice fa ts.length fc:Value).ownBlock = some g5∨g5 = W.heap.size)∧V5.heap.size≤g2)∧Kept (.slice fa ts.length fc:Value).ownBlock.toList V5 w')
       (fun u0 u1 u2 u3 u4 w'=>u4 = .pointer (some ⟨w.heap.size,1,none⟩)∧(∃ g2 g5 cap5 W,u2 = .slice (some ⟨g5,0,none⟩) (ts.length + 1) cap5∧OwnFl 0 w' u2 (ts++[(⟨X.nm,X.bs,SY,X.nd⟩,.slice (some ⟨g2,0,none⟩) X.bs.length X.bs.length)])∧Kept [] V5 W∧W.grownBy w' (.slice fa ts.length fc:Value).ownBlock∧((.slice fa ts.length fc:Value).ownBlock = some g5∨g5 = W.heap.size)∧V5.heap.size≤g2)∧Kept (.slice fa ts.length fc:Value).ownBlock.toList V5 w')
       (fun u0 u1 u2 u3 u4 w'=>∃ fsv' ts',RP w' w.heap.size ⟨S,0,0,false,fun _=>none,(l.take (i + 1)).map toDF⟩ fsv' ts' (.slice none 0 0) [] 0∧Ev wr w' (rkB w.heap.size (.slice fa ts.length fc) ts (.slice none 0 0) []) (rkB w.heap.size fsv' ts' (.slice none 0 0) []))
       (by simp only [Act.put,sa1,sa2,sa3]; rfl) (by exact Or.inl ⟨by rfl,fun W' hW'=>by  go_simp⟩)
       (by simp only [Act.put,sa1,sa2,sa3]; rfl) (by exact Or.inl ⟨by rfl,fun W' hW'=>by  go_simp⟩)
       (by simp only [Act.put,sa1,sa2,sa3]; rfl) (by exact Or.inl ⟨by rfl,fun W' hW'=>by  go_simp⟩)
       (by simp only [Act.put,sa1,sa2,sa3]; rfl) (by exact Or.inl ⟨by rfl,fun W' hW'=>by  go_simp⟩)
       (by simp only [Act.put,sa1,sa2,sa3]; rfl) (by exact Or.inl ⟨by rfl,fun W' hW'=>by have h90:=hW'.cell q1 (uh HNC); go_simp⟩)
       (by simp only [Act.put,sa1,sa2,sa3]; rfl) (by exact Or.inl ⟨by rfl,fun W' hW'=>by have h90:=hW'.cell z0 (uh HNV); have h91:=hW'.cell z1 (uh HNV); have h92:=hW'.cell z2 (uh HNV); have h93:=hW'.cell z3 (uh HNV); go_simp⟩)
       (Kept.refl [] V5).drew
       ⟨fun w' h=>h.mono (by simp),fun u0 w' h=>h.2.mono (by simp),fun u0 u1 w' h=>h.2.mono (by simp),fun u0 u1 u2 w' h=>h.2,fun u0 u1 u2 u3 w' h=>h.2.2,fun u0 u1 u2 u3 u4 w' h=>h.2.2⟩
       (by
        intro w' k K hK
        refine xa0e rfl Tryz.call45 [.agg #[.string X.nm,.slice xa X.bs.length xc,.int .i64 (SY:Int),.bool X.nd]] rfl (xb1i ⟨X.nm,X.bs,SY,X.nd⟩ (.slice xa X.bs.length xc) w' ((uh HRD5).kept k (by simp))) ?_
        rintro e w2 ⟨g2,rfl,ho,k2⟩
        exact ⟨_,rfl,hK _ _ ⟨⟨g2,rfl,ownsB k.size ho,Nat.le_trans k.size (ho.lt g2 rfl).1⟩,k.trans k2 (by simp)⟩⟩)
       (by
        rintro u0 w' ⟨⟨g2,rfl,ho,hg⟩,k⟩ K hK
        unfold Oper.wp execOp
        go_simp
        exact hK _ _ ⟨⟨g2,w'.heap.size,rfl,heap_alloc_new _ _,((Kept.refl [] w').alloc _).owns ho (by simp),hg⟩,k.alloc _⟩)
       (by
        rintro u0 u1 w' ⟨⟨g2,H,rfl,hH,ho,hg⟩,k⟩ K hK
        have hO:=(uh HPX).own.keptF k (by simp)
        obtain ⟨g5,cap5,w5,hrun,h3,h4,h5⟩:=pushFl w' 0 (.slice fa ts.length fc) ts (⟨X.nm,X.bs,SY,X.nd⟩,.slice (some ⟨g2,0,none⟩) X.bs.length X.bs.length) H hO hH ⟨xb0a ho,(uh HRD).byte,by have:=uh HXB; show X.bs.length≤_; omega⟩ (by
         intro a ha y hy hz
         simp only [blk,List.mem_singleton] at hz
         subst hz
         have h9:=((uh HPX).own.ge _ (by simp only [flB,List.mem_append,List.mem_flatMap]; exact .inr ⟨a,ha,hy⟩)).2
         omega) (by have:=uh HTL; omega) (Nat.zero_le _)
        exact xa6c rfl rfl rfl rfl hrun (hK _ _ ⟨⟨g2,g5,cap5,w',rfl,h3,k,h4,h5,hg⟩,(k.mono (by simp)).grown h4 (by intro x hx; left; simp [hx])⟩))
       (by rintro u0 u1 u2 w' ⟨⟨g2,g5,cap5,W9,rfl,h3,k,h4,h5,hg⟩,k9⟩ K hK; unfold Oper.wp execOp; go_simp; exact hK _ _ ⟨rfl,⟨g2,g5,cap5,W9,rfl,h3,k,h4,h5,hg⟩,k9⟩)
       (by rintro u0 u1 u2 u3 w' ⟨rfl,⟨g2,g5,cap5,W9,rfl,h3,k,h4,h5,hg⟩,k9⟩ K hK; unfold Oper.wp execOp; go_simp; exact hK _ _ ⟨rfl,⟨g2,g5,cap5,W9,rfl,h3,k,h4,h5,hg⟩,k9⟩)
       (by
        rintro u0 u1 u2 u3 u4 w' ⟨rfl,⟨g2,g5,cap5,W9,rfl,h3,k,h4,h5,hg⟩,k9⟩ K hK
        have hk9:=(uh HKX).trans k (by simp)
        have hrow:=(uh HP).row_push hk9 h4
        have r1:=cell_of_row _ _ 1 _ _ _ hrow
        simp [rkC] at r1
        have f1:=frozen_of_row _ _ 1 _ _ hrow
        have hfin:=(uh HP).push hk9 h3 h4 h5 (by intro x hx; simp only [blk,List.mem_singleton] at hx; subst hx; have:=(uh HKX).size; omega)
        unfold Oper.wp execOp
        go_simp
        exact hK _ ⟨_,_,by rw [uh HEQ]; exact hfin.1,hfin.2⟩)
       ?_
      rintro u0 u1 u2 u3 u4 w9 ⟨fsv',ts',hp9,ev9⟩
      simp only [Act.put,sa1,sa2,sa3]
      have HP9:=hide hp9
      have HNW9:=hide ((uh HK).ev (uh HNW) ev9)
      clear hp9 ev9 q1 z0 z1 z2 z3
      go_wp2_with fail
      refine ⟨⟨i + 1,fsv',ts',by omega,by simp,hide (fun j hj h9=>?_),HP9,hide (uh HNW9).2,hide (uh HNW9).1⟩,?_⟩
      ·by_cases hji:j < i
       ·exact uh HA j hj hji
       ·have:j = i:=by omega
        subst this
        exact uh HOKI
      ·simp [intOf]; omega
    ·have HBAD:=hide (uh HFB (fun hf=>hgood (hf i hlt)))
     cases hn:isNm X.nm
     ·rw [hn] at HNM
      clear hn hgood HOK HNO HPR
      refine wp_region_quiet_lit (by kernel_rfl) (by kernel_rfl) ?_
      repeat (go_big_quiet_step (first | (go_at_call 44; exact Calls.mono (uh HNM _) (fun e x h=>⟨h.1,by obtain ⟨m,hm⟩:=h.2; exact ⟨_,by rw [hm,xa0g]⟩⟩))))
      refine wpQuiet_nil ?_
      rintro _ ⟨m5,rfl⟩
      go_wp2_with fail
      go_ret2
      exact ⟨_,by rw [uh HBAD]; rfl,(uh HKV).drewN _,fun _=>rfl,fun h9=>absurd (h9.symm.trans (uh HBAD)) (by decide)⟩
     ·rw [hn] at HNM
      by_cases s0:X.sy < 0
      ·clear hn hgood HOK HNO HPR
       refine wp_region_quiet_lit (by kernel_rfl) (by kernel_rfl) ?_
       repeat (go_big_quiet_step (first | (go_at_call 44; exact Calls.mono (uh HNM _) (fun e x h=>⟨h.1,by obtain ⟨m,hm⟩:=h.2; exact ⟨_,by rw [hm,xa0g]⟩⟩))))
       refine wpQuiet_nil ?_
       rintro _ ⟨m5,rfl⟩
       go_wp2_with fail
       go_ret2
       exact ⟨_,by rw [uh HBAD]; rfl,(uh HKV).drewN _,fun _=>rfl,fun h9=>absurd (h9.symm.trans (uh HBAD)) (by decide)⟩
      ·by_cases s1:(X.bs.length:Int) < X.sy
       ·clear hn hgood HOK HNO HPR
        refine wp_region_quiet_lit (by kernel_rfl) (by kernel_rfl) ?_
        repeat (go_big_quiet_step (first | (go_at_call 44; exact Calls.mono (uh HNM _) (fun e x h=>⟨h.1,by obtain ⟨m,hm⟩:=h.2; exact ⟨_,by rw [hm,xa0g]⟩⟩))))
        refine wpQuiet_nil ?_
        rintro _ ⟨m5,rfl⟩
        go_wp2_with fail
        go_ret2
        exact ⟨_,by rw [uh HBAD]; rfl,(uh HKV).drewN _,fun _=>rfl,fun h9=>absurd (h9.symm.trans (uh HBAD)) (by decide)⟩
       ·have hp:0 < i:=by
         rcases Nat.eq_zero_or_pos i with h9 | h9
         ·exact absurd (uh HOK hn (by omega) (by omega) (fun hp=>by omega)) hgood
         ·exact h9
        have HLT9:=hide (fun h9=>hgood (uh HOK hn (by omega) (by omega) (fun _=>h9)):¬ l[i - 1].nm.data.toList < X.nm.data.toList)
        have q0:=(uh HKV).cell (uh HPR hp) (by simp)
        rw [Nat.add_zero] at q0
        have hip:(0:Int) < (i:Int):=by omega
        have hsub:(i:Int) - 1 = ((i - 1:Nat):Int):=by omega
        generalize l[i - 1] = Y at q0 HLT9
        obtain ⟨i1,hi1⟩:∃ i1,i - 1 = i1:=⟨_,rfl⟩
        rw [hi1] at q0 hsub
        have hi1c:(i1:Int) < l.length:=by omega
        clear hn hgood HOK HNO HPR
        refine wp_region_quiet_lit (by kernel_rfl) (by kernel_rfl) ?_
        repeat (go_big_quiet_step (first | (go_at_call 44; exact Calls.mono (uh HNM _) (fun e x h=>⟨h.1,by obtain ⟨m,hm⟩:=h.2; exact ⟨_,by rw [hm,xa0g]⟩⟩))))
        refine wpQuiet_nil ?_
        rintro _ ⟨m5,rfl⟩
        rw [xa5q,decide_eq_false (uh HLT9)]
        clear q0 hsub hip
        go_wp2_with fail
        go_ret2
        exact ⟨_,by rw [uh HBAD]; rfl,(uh HKV).drewN _,fun _=>rfl,fun h9=>absurd (h9.symm.trans (uh HBAD)) (by decide)⟩
   ·have hlt':¬ (i:Int) < l.length:=by omega
    have hie:i = l.length:=by omega
    subst hie
    rw [List.take_length] at HP
    have hF:FormedL l:=fun j hj=>uh HA j hj hj
    have HFF:=hide hF
    have HGD:=hide (uh HFG hF)
    have hp:=uh HP
    have HRK:=hide (RP.rk (nb:=l.length) (bb:=bb) ⟨hp.row,hp.own,hp.fst,hp.rd,Nat.zero_le _,hp.ft,hp.ca,hp.fa,hp.lt⟩ ⟨by simp,by simp⟩ (by simp) (by
     intro f hf
     obtain ⟨a,ha,rfl⟩:=List.mem_map.1 hf
     exact uh HB a ha) (by have:=uh HS; constructor <;> (show _; simp only; omega)) (by
     intro f hf
     obtain ⟨a,ha,rfl⟩:=List.mem_map.1 hf
     obtain ⟨j,hj,rfl⟩:=List.getElem_of_mem ha
     have h9:=hF j hj
     have h8:=h9.2.1
     have h7:=h9.2.2.1
     show (l[j].sy).toNat≤l[j].bs.length
     omega) (xa5z hF))
    clear hF hp
    go_wp2_with fail
    go_ret2
    exact ⟨_,by rw [uh HGD]; rfl,uh HK,fun h9=>absurd (uh HGD) h9,fun _=>⟨w.heap.size,rfl,_,uh HRK,uh HNW⟩⟩
 ·obtain ⟨FR,hFR⟩:∃ FR,FrR sec l = FR:=⟨_,rfl⟩
  have HFR:=hide (by rw [← hFR]; unfold FrR; rw [if_neg hs]:FR = 1)
  rw [hFR]
  clear hFR
  obtain ⟨va,vl,vc,rfl,_⟩:=hr
  clear ho hb
  by_cases h1:sec < 1
  ·clear hs
   go_enter Tryz.func14,Tryz.ntmps14
   go_wp2_with fail
   go_ret2
   exact ⟨_,by rw [uh HFR]; rfl,Kept.refl _ _,fun _=>rfl,fun h9=>absurd (h9.symm.trans (uh HFR)) (by decide)⟩
  ·have h2:(4096:Int) < sec:=by omega
   clear hs
   go_enter Tryz.func14,Tryz.ntmps14
   go_wp2_with fail
   go_ret2
   exact ⟨_,by rw [uh HFR]; rfl,Kept.refl _ _,fun _=>rfl,fun h9=>absurd (h9.symm.trans (uh HFR)) (by decide)⟩
theorem xb8j (sec:Int) (v:Value) (l:List IFile) (bb:Nat) (w:World) (h:RdC 4 w v (l.map ifC)) (ho:∀ f∈l,OkIf w f) (hl:l.length≤1048576) (hb:∀ f∈l,f.bs.length≤bb) :
  Calls Tryz.prog 13 #[.int .i64 sec,v] w fun e w'=>∃ p,e = .returned (.tuple #[p,.int .i64 (FrR sec l:Nat)])∧Kept [] w w'∧(FrR sec l≠0→p = .pointer none)∧(FrR sec l = 0→∃ d D,p = .pointer (some ⟨d,0,none⟩)∧DK w' d D l.length bb ⟨sec.toNat,0,0,false,fun _=>none,l.map toDF⟩∧∀ x∈D,w.heap.size≤x):=by
 unfold FrR
 by_cases hs:1≤sec∧sec≤4096
 ·rw [if_pos hs]
  cases hf:formedB l
  ·refine Calls.mono (xb6p sec v l w hs.1 hs.2 h ho (by omega) hf) ?_
   rintro e w' ⟨rfl,kk⟩
   exact ⟨_,rfl,kk,fun _=>rfl,fun h9=>by simp at h9⟩
  ·have hs2:((sec.toNat:Nat):Int) = sec:=by omega
   have hc:=from_D sec.toNat v l bb w (by omega) (by omega) h ho (by omega) hb hf
   rw [hs2] at hc
   refine Calls.mono hc ?_
   rintro e w' ⟨d,D,rfl,hd,kk,hn⟩
   exact ⟨_,rfl,kk,fun h9=>absurd rfl h9,fun _=>⟨d,D,rfl,hd,hn⟩⟩
 ·rw [if_neg hs]
  refine Calls.mono (xb9w sec v w (by omega)) ?_
  rintro e w' ⟨rfl,rfl⟩
  exact ⟨_,rfl,Kept.refl _ _,fun _=>rfl,fun h9=>by simp at h9⟩
theorem xc2a (l:List IFile):totA (l.map toDF) = (l.map fun f=>f.bs.length).sum:=by
 unfold totA
 rw [List.map_map]
 rfl
theorem xb2r {α:Type} (l:List α) (μ:α→Nat):∀ a∈l,μ a≤(l.map μ).sum:=by
 induction l with
 | nil=>simp
 | cons x r ih =>
  intro a ha
  simp only [List.map_cons,List.sum_cons]
  rcases List.mem_cons.1 ha with rfl | ha
  ·omega
  ·have:=ih a ha; omega
theorem xb1y {α:Type} (l:List α) (μ:α→Nat):(l.map fun a=>μ a + 1).sum = (l.map μ).sum + l.length:=by
 induction l with
 | nil=>rfl
 | cons x r ih=>simp only [List.map_cons,List.sum_cons,List.length_cons,ih]; omega
set_option maxHeartbeats 8000000 in
theorem walOpens_walk (sec:Int) (v:Value) (l:List IFile) (wd lim:Int) (W:World) (h1:-9223372036854775808≤sec∧sec≤9223372036854775807) (hr:RdC 4 W v (l.map ifC)) (ho:∀ f∈l,OkIf W f) (hs:(l.map fun f=>f.bs.length + 1).sum + 1≤1048576) (h2:-9223372036854775808≤wd∧wd≤9223372036854775807) (h3:-9223372036854775808≤lim∧lim≤9223372036854775807) (hv:VarsS W) :
  Calls Tryz.prog 4 #[.int .i64 sec,v,.int .i64 wd,.int .i64 lim] W fun r w'=>r = .returned (.bool true)∧Below W.heap.size W w':=by
 rw [xb1y] at hs
 have hll:l.length≤1048576:=by omega
 have hbb:∀ f∈l,f.bs.length≤1048576:=fun f hf=>by have:=xb2r l (fun f=>f.bs.length) f hf; omega
 have HTO:=hide (by rw [xc2a]; omega:totA (l.map toDF)≤1048576)
 have HAW:=hide (xb5l W hv)
 have HVG:=hide (VarsG.start hv)
 have HR:=hide hr
 have HO:=hide ho
 have HLL:=hide hll
 have HBB:=hide hbb
 obtain ⟨va,vl,vc,rfl,_⟩:=id hr
 obtain ⟨FR,hFR⟩:∃ FR,FrR sec l = FR:=⟨_,rfl⟩
 have HFR:=hide hFR
 clear hv hr ho hs hll hbb hFR
 go_enter Tryz.func4,Tryz.ntmps4
 go_wp2_with fail
 refine Calls.mono (uh HAW) ?_
 rintro e w1 ⟨rfl,k1⟩
 have HK1:=hide k1
 have HFA:=hide (xb8j sec _ l 1048576 w1 ((uh HR).kept k1 (by simp)) (fun f hf=>⟨((uh HO) f hf).1.old k1 (by simp),((uh HO) f hf).2⟩) (uh HLL) (uh HBB))
 rw [uh HFR] at HFA
 clear k1 HAW
 go_wp2_with fail
 refine Calls.mono (uh HFA) ?_
 rintro e w2 ⟨p,rfl,k2,hp0,hp1⟩
 have HK2:=hide ((uh HK1).trans k2 (by simp))
 have HP0:=hide hp0
 have HP1:=hide hp1
 have HDF:=hide (xb1u sec _ l 1048576 w2 ((uh HR).kept (uh HK2) (by simp)) (fun f hf=>⟨((uh HO) f hf).1.old (uh HK2) (by simp),((uh HO) f hf).2⟩) (uh HLL) (uh HBB) (by omega))
 rw [uh HFR] at HDF
 clear k2 hp0 hp1 HFA
 have hpe:((FR:Int) != (FR:Int)) = false:=by simp
 by_cases h0:FR = 0
 ·subst h0
  obtain ⟨d,D,hpd,hD,hDn⟩:=uh HP1 (by simp)
  subst hpd
  have HD2:=hide hD
  have HDN:=hide hDn
  clear hD hDn HP0 HP1
  go_wp2_with fail
  refine Calls.mono (uh HDF) ?_
  rintro e w3 ⟨q,rfl,k3,_,hq1⟩
  obtain ⟨c,R,hqc,hC,hRn⟩:=hq1 (by simp)
  subst hqc
  have HK3:=hide ((uh HK2).trans k3 (by simp))
  have hF3:DKf w3 d D l.length 0 1048576 ⟨sec.toNat,0,0,false,fun _=>none,l.map toDF⟩:=((uh HD2).old k3).toF (by show (0:Int)≤0; omega)
  have HF3:=hide hF3
  have HC3:=hide hC
  have HRN:=hide hRn
  have HRD:=hide (fun x (hx:x∈R) (hm:x∈D)=>by have h9:=hRn x hx; have h8:=(uh HD2).lt x hm; omega:∀ x∈R,x∉D)
  have HDG:=hide (fun x hx=>Nat.le_trans (uh HK1).size ((uh HDN) x hx):∀ x∈D,W.heap.size≤x)
  have HOP:=hide (xa9z d l.length 0 1048576 W.heap.size wd lim D _ w3 hF3 ((uh HVG).old (uh HK3)) (uh HDG) (uh HK3).size (by have:=uh HLL; omega) (by omega) (by omega) (Nat.le_trans (rdT_le _ hF3.dist) (by have:=uh HTO; dsimp only; omega)))
  have hrt:rdT (⟨sec.toNat,0,0,false,fun _=>none,l.map toDF⟩:DSt) (nmsOf ⟨sec.toNat,0,0,false,fun _=>none,l.map toDF⟩)≤1000000000000:=Nat.le_trans (rdT_le _ hF3.dist) (by have:=uh HTO; dsimp only; omega)
  have HRT:=hide hrt
  clear hF3 hC hRn hq1 HDF k3 hrt
  generalize (⟨sec.toNat,0,0,false,fun _=>none,l.map toDF⟩:DSt) = σ at HF3 HC3 HOP HRT
  go_wp2_with fail
  refine Calls.mono (uh HOP) ?_
  rintro e w4 ⟨B4,lp,bv,ts,rfl,hA⟩
  obtain ⟨ba,bc,rfl⟩:=hA.ow.shape
  have HA:=hide hA
  have hC4:RK w4 c R l.length 1048576 σ:=(uh HC3).kept hA.ev.1 (uh HRD)
  have HDO:=hide (xb4b c l.length 1048576 wd lim R σ w4 hC4 (uh HF3).nms (by have:=uh HLL; omega) (by omega) (uh HRT))
  have HK4:=hide ((uh HK3).trans hA.ev.1 (fun x hx=>Or.inr (uh HDG x hx)))
  have HR3:=hide (fun x hx=>(uh HC3).lt x hx:∀ x∈R,x < w3.heap.size)
  have HLPV:=hide (by
   cases hl:(opD σ wd lim).l with
   | none=>exact Or.inl (hA.no hl)
   | some s=>obtain ⟨l9,h9,_⟩:=hA.so s hl; exact Or.inr ⟨l9,h9⟩:lp = .pointer none∨∃ l9,lp = .pointer (some ⟨l9,0,none⟩))
  clear hA hC4 HOP
  obtain ⟨A,hAe⟩:∃ A,opD σ wd lim = A:=⟨_,rfl⟩
  rw [hAe] at HA HDO ⊢
  clear hAe HRT
  go_wp2_with fail
  refine Calls.mono (uh HDO) ?_
  rintro e w5 ⟨R5,mp,bv5,ts5,rfl,hM⟩
  obtain ⟨ba5,bc5,rfl⟩:=hM.ow.shape
  have HM:=hide hM
  have hae:((A.e:Int) != (A.e:Int)) = false:=by simp
  have HBX:=hide ((uh HA).ow.re (Y:=[]) hM.ev.1 (fun x hx=>Or.inl (uh HR3 x hx)) (by simp))
  have HB1:=hide (by have h9:=(uh HBX).toB.rdB; rw [← (uh HA).bs] at h9; exact h9:RdB w5 (.slice ba ts.length bc) A.bs)
  have HB2:=hide (by have h9:=hM.ow.toB.rdB; rw [← hM.bs] at h9; exact h9:RdB w5 (.slice ba5 ts5.length bc5) A.bs)
  have HBT:=hide (xa5d _ _ A.bs A.bs w5 (uh HB1) (uh HB2))
  rw [decide_eq_true rfl] at HBT
  have HK5:=hide ((uh HK4).trans hM.ev.1 (fun x hx=>Or.inr (Nat.le_trans (uh HK2).size ((uh HRN) x hx))))
  have HRB:=hide (fun x (hx:x∈B4) (hm:x∈R)=>by
   rcases (uh HA).ev.2 x hx with h9 | h9
   ·exact uh HRD x hm h9
   ·have:=uh HR3 x hm; omega:∀ x∈B4,x∉R)
  have HF5:=hide ((uh HA).dk.kept hM.ev.1 (uh HRB))
  have HLM:=hide (by
   cases hl:A.l with
   | none=>exact Or.inl ⟨(uh HA).no hl,hM.no hl⟩
   | some s =>
    obtain ⟨l9,h9,h8,h7,_⟩:=(uh HA).so s hl
    obtain ⟨m9,g9,g8,g7,_⟩:=hM.so s hl
    obtain ⟨num,byt,so,e1,e2,e3⟩:=g7.row
    exact Or.inr ⟨l9,m9,s,num,byt,so,h9,g9,hM.ev.1.heap h7.row (fun hm=>by have:=uh HR3 _ hm; omega),e1,fun h0=>(e3 h0).1⟩:(lp = .pointer none∧mp = .pointer none)∨∃ l m s num byt so,lp = .pointer (some ⟨l,0,none⟩)∧mp = .pointer (some ⟨m,0,none⟩)∧w5.heap[l]? = some (.cells (lgC d s) 117 (0,0))∧w5.heap[m]? = some (.cells (rlC c s.wd s.lim num s.ep s.nx byt so s.st) 125 (0,0))∧(s.st = 0→num = s.num))
  have HC5:=hide hM.rk
  clear hM HDO HA
  go_wp2_with fail
  refine Calls.mono (uh HBT) ?_
  rintro e w6 ⟨rfl,k6⟩
  have HK6:=hide ((uh HK5).trans k6 (by simp))
  have HLK:=hide (xb4o d _ _ _ B4 c _ _ R5 A.σ w6 lp mp ((uh HF5).old k6) ((uh HC5).old k6) (by have:=uh HLL; omega) (by have:=uh HLL; omega) (by omega) (by have:=uh HLL; omega) (by omega) (by
   rcases uh HLM with h9 | ⟨l9,m9,s,num,byt,so,h9,h8,h7,h6,h5⟩
   ·exact Or.inl h9
   ·exact Or.inr ⟨l9,m9,s,num,byt,so,h9,h8,k6.heap h7 (by simp),k6.heap h6 (by simp),h5⟩))
  clear k6 HBT
  go_wp2_with fail
  refine Calls.mono (uh HLK) ?_
  rintro e w7 ⟨rfl,k7⟩
  have HK7:=hide ((uh HK6).trans k7 (by simp))
  clear k7
  go_wp2_with fail
  go_ret
  exact ⟨rfl,(uh HK7).below (Nat.le_refl _) (by simp)⟩
 ·have h0':((FR:Int) != 0) = true:=by rw [bne_iff_ne]; omega
  have hpn:=uh HP0 h0
  subst hpn
  have HF0:=hide h0
  clear h0 HP0 HP1
  go_wp2_with fail
  refine Calls.mono (uh HDF) ?_
  rintro e w3 ⟨q,rfl,k3,hq0,_⟩
  have hqn:=hq0 (uh HF0)
  subst hqn
  have HK3:=hide ((uh HK2).trans k3 (by simp))
  obtain ⟨E,HO3,HR3⟩:∃ E:Int,Hid (Calls Tryz.prog 15 #[.pointer none,.int .i64 wd,.int .i64 lim] w3 fun e w'=>e = .returned (.tuple #[.pointer none,.slice none 0 0,.int .i64 E])∧w' = w3)∧Hid (Calls Tryz.prog 16 #[.pointer none,.int .i64 wd,.int .i64 lim] w3 fun e w'=>e = .returned (.tuple #[.pointer none,.slice none 0 0,.int .i64 E])∧w' = w3):=by
   by_cases h:argOk wd lim = true
   ·exact ⟨5,hide (xb6r wd lim w3 h),hide (xb3w wd lim w3 h)⟩
   ·exact ⟨1,hide (xb1m _ (Or.inl rfl) wd lim w3 (by simpa using h)),hide (xa8c _ (Or.inl rfl) wd lim w3 (by simpa using h))⟩
  have he:(E != E) = false:=by simp
  clear k3 hq0 HDF
  go_wp2_with fail
  refine Calls.mono (uh HO3) ?_
  rintro e w4 ⟨rfl,rfl⟩
  go_wp2_with fail
  refine Calls.mono (uh HR3) ?_
  rintro e w5 ⟨rfl,rfl⟩
  have HBT:=hide (xa5d _ _ [] [] w5 (RdB.nil w5) (RdB.nil w5))
  rw [decide_eq_true rfl] at HBT
  go_wp2_with fail
  refine Calls.mono (uh HBT) ?_
  rintro e w6 ⟨rfl,k6⟩
  have HK6:=hide ((uh HK3).trans k6 (by simp))
  clear k6
  go_wp2_with fail
  go_ret
  exact ⟨rfl,(uh HK6).below (Nat.le_refl _) (by simp)⟩
end
end Go.Proofs.YtejchncdimcdbaaGreatDoor
