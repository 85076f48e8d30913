import Derived.Test.YtepmjkkjhjkdgaaGreatDoorTopC
namespace Go.Proofs.YtepmjkkjhjkdgaaGreatDoor
set_option linter.unusedVariables false
set_option linter.unusedSimpArgs false
set_option maxRecDepth 100000
section
open Go.RowKit Go.BigFrame
theorem xb7z {a1 b1:Option Addr} {a2 a3 b2 b3:Nat}:Tryz.prog.built 64 [(0,.slice a1 a2 a3),(1,.slice b1 b2 b3)] = some #[.slice a1 a2 a3,.slice b1 b2 b3]:=by kernel_rfl
theorem Tryz.size_kp:(Tryz.prog.info? 64).map (·.size) = some 2:=by kernel_rfl
theorem Tryz.size_stpP:(Tryz.prog.info? 52).map (·.size) = some 2:=by kernel_rfl
theorem xa9c {S:Nat→Prop} {k:Nat} {W:World} {v:Value} {L:Prs} (h:MapAt S k W v L):∃ g,v = .pointer (some ⟨g,0,none⟩):=by
  obtain ⟨g,tv,e,_⟩:=h.at_
  exact ⟨g,e⟩
def mixL (k:Nat) (q:List Nat) (L:Prs) (m i:Nat):List Stp:=(List.range m).map (fun j=>if j < i then prf k q L j else stp k q L j)
theorem xa5c (k:Nat) (q:List Nat) (L:Prs) (m i:Nat):(mixL k q L m i).length = m:=by simp [mixL]
theorem xb5i (k:Nat) (q:List Nat) (L:Prs) (m:Nat):mixL k q L m 0 = (List.range m).map (stp k q L):=by
  unfold mixL
  exact List.map_congr_left (fun j _=>by rw [if_neg (by omega)])
theorem xb7j (k:Nat) (q:List Nat) (L:Prs) (m:Nat):mixL k q L m m = prfL k q L m:=by
  unfold mixL prfL
  exact List.map_congr_left (fun j hj=>by rw [if_pos (by simpa using hj)])
theorem xb2j {k:Nat} {q:List Nat} {L:Prs} {m i:Nat} (hi:i < m):(mixL k q L m i).getD i (0,[]) = stp k q L i:=by
  unfold mixL
  rw [List.getD_eq_getElem?_getD,List.getElem?_map,List.getElem?_range hi]
  simp
theorem xb5o {k:Nat} {q:List Nat} {L:Prs} {m i:Nat} (hi:i < m):(mixL k q L m i).set i (prf k q L i) = mixL k q L m (i + 1):=by
  apply List.ext_getElem
  · simp [mixL]
  · intro j h1 h2
    simp only [mixL,List.length_map,List.length_range] at h2
    simp only [mixL,List.getElem_set,List.getElem_map,List.getElem_range]
    by_cases e:i = j
    · subst e; simp
    · rw [if_neg e]
      by_cases g:j < i
      · rw [if_pos g,if_pos (by omega)]
      · rw [if_neg g,if_neg (by omega)]
def ProofN (k B:Nat) (w:World) (q:List Nat) (L:Prs) (sv pv:Value):Prop:=∃ m gs C l,SLP B w sv pv gs (prfL k q L m) (dnL (hsZ k) q L m) C l∧WayM k q L m
def ProofP (k:Nat) (w:World) (q:List Nat) (L:Prs) (sv pv:Value):Prop:=∃ m,RdS w sv (prfL k q L m)∧RdK w pv (dnL (hsZ k) q L m)∧WayM k q L m
theorem ProofN.p {k B:Nat} {w:World} {q:List Nat} {L:Prs} {sv pv:Value} (h:ProofN k B w q L sv pv):ProofP k w q L sv pv:=by
  obtain ⟨m,gs,C,l,h1,h2⟩:=h
  exact ⟨m,h1.st.rdS,h1.ly.rdK,h2⟩
theorem xb5a {k:Nat} (hk:1≤k∧k≤32) {q:List Nat} {L:Prs} {m i:Nat} (h:WayM k q L m):(stp k q L i).1.testBit (dgt ((hsZ k).kd q) i) = true→cnt (stp k q L i).1 (dgt ((hsZ k).kd q) i) < (stp k q L i).2.length:=fun hb=>(p_kid (hsZ_ok hk) (f:=63 - i) hb).1
set_option maxHeartbeats 8000000 in
theorem xa9a (S:Nat→Prop) (k:Nat) (mv kv:Value) (L:Prs) (q:List Nat) (w:World) (hM:MapAt S k w mv L) (hku:Rd w kv q) (hq:q.length≤64) (hT:Tabs w) :
    Calls Tryz.prog 29 #[mv,kv] w fun e w'=>∃ sv pv,e = .returned (.tuple #[.agg #[sv,pv],.int .i64 0])∧ProofN k w.heap.size w' q L sv pv∧Kept [] w w':=by
  have HM:=hide hM
  have hk:=hM.ok
  have HKU:=hide hku
  have HTb:=hide hT
  have hH:=hsZ_ok hk
  obtain ⟨mg,rfl⟩:=(xa9c hM)
  obtain ⟨ka,kn,kc,rfl,hkn,_⟩:=id hku
  have hkn2:¬ (kn:Int) > 64:=by omega
  have hkn3:¬ (64:Int) < kn:=by omega
  have HQ:=hide hq
  have HG0:=hide (heap_alloc_new w (.cells #[.slice none 0 0,.slice none 0 0] 64))
  have HK0:=hide ((Kept.refl [] w).alloc (.cells #[.slice none 0 0,.slice none 0 0] 64))
  obtain ⟨W,hW⟩:∃ W,w.alloc (.cells #[.slice none 0 0,.slice none 0 0] 64) = W:=⟨_,rfl⟩
  rw [hW] at HG0 HK0
  have hDg:Dg ((hsZ k).kd q):=hH.dg q
  have HWN:=hide (xb4e S k _ _ L q W ((uh HM).agr (Agr.nil (uh HK0))) ((uh HKU).old (uh HK0) (by simp)) hq ((uh HTb).k (uh HK0)))
  clear hM hku hT hq hkn
  go_enter Tryz.func29,Tryz.ntmps29
  go_upto_region 1 with fail
  try rw [hW]
  clear hW
  go_wp2_with fail
  refine Calls.mono (uh HWN) ?_
  clear HWN
  rintro e w1 ⟨sv,pv,rfl,⟨m,gs,C,l,hsn,hway,hcap⟩,k1⟩
  have HK1:=hide ((uh HK0).trans k1 (by simp))
  have HG1:=hide (k1.heap (uh HG0) (by simp))
  have HS1:=hide hsn
  have HWY:=hide hway
  have HCAP:=hide hcap
  have hm2:=hway.le hk
  obtain ⟨so,sc,rfl⟩:=xa0k hsn.st.own
  obtain ⟨po,pc,rfl⟩:=xa0k hsn.ly.own
  have hml:((List.range m).map (stp k q L)).length = m:=by simp
  rw [hml]
  obtain ⟨pn,hpn⟩:∃ pn,l.length = pn:=⟨_,rfl⟩
  rw [hpn]
  rw [hpn,hml] at HS1
  have HBW:=hide (show w.heap.size < W.heap.size from lt_of_block (uh HG0))
  clear k1 hsn hway hcap hpn
  go_wp2_with fail
  refine Calls.mono (xb8p S k _ L w1 ((uh HM).agr (Agr.nil (uh HK1)))) ?_
  rintro e w2 ⟨rfl,k2⟩
  have HK2:=hide ((uh HK1).trans k2 (by simp))
  have HG2:=hide (k2.heap (uh HG1) (by simp))
  have HS2:=hide ((uh HS1).kept k2)
  clear k2
  go_wp2_with fail
  refine Calls.mono (xa7d (k:Int) _ q w2 (by omega) ((uh HKU).old (uh HK2) (by simp)) (by have:=uh HQ; omega) ((uh HTb).k (uh HK2))) ?_
  rintro e w3 ⟨rfl,k3⟩
  have hDe:sumD (k:Int) (2 :: q) = (hsZ k).kd q:=rfl
  have hse:sumE (k:Int) = 0:=by unfold sumE; rw [wide_k hk]; rfl
  rw [hDe,hse]
  obtain ⟨D,hD⟩:∃ D,(hsZ k).kd q = D:=⟨_,rfl⟩
  rw [hD] at hDg ⊢
  have hDl:=hDg.1
  have HAT:=hide (show ∀ i,i < m→atC (k:Int) D (i:Int) = dgt D i from fun i hi=>by rw [← hD]; exact p_dgt hk q (by omega))
  have HPF:=hide (show ∀ i,prf k q L i = wod (stp k q L i) (dgt D i) from fun i=>by rw [← hD]; rfl)
  have HCT:=hide (show ∀ i,(stp k q L i).1.testBit (dgt D i) = true→cnt (stp k q L i).1 (dgt D i) < (stp k q L i).2.length from fun i=>by rw [← hD]; exact xb5a hk (uh HWY))
  have HK3:=hide ((uh HK2).trans k3 (by simp))
  have HG3:=hide (k3.heap (uh HG2) (by simp))
  have HS3:=hide ((uh HS2).kept k3)
  have HZ1:=hide (heap_alloc_new w3 (.cells (zb 32) 58))
  have HX0:=hide (setRow_heap _ _ _ (brow D) _ _ (uh HZ1))
  have HK34:=hide ((Kept.refl [] w3).alloc (.cells (zb 32) 58) |>.setRow (g:=w3.heap.size) (Or.inr (Nat.le_refl _)) (brow D))
  obtain ⟨W0,hW0⟩:∃ W0,(w3.alloc (.cells (zb 32) 58)).setRow w3.heap.size (brow D) = W0:=⟨_,rfl⟩
  rw [hW0] at HX0 HK34
  have HK4:=hide ((uh HK3).trans (uh HK34) (by simp))
  have HG4:=hide ((uh HK34).heap (uh HG3) (by simp))
  have HS4:=hide ((uh HS3).kept (uh HK34))
  have HSD:=hide (by rw [xa0a,hDl]; exact Tryz.size_dig:(Tryz.prog.info? 58).map (·.size) = some (brow D).size)
  have HLT:=hide (uh HS3).st.lts
  have HGL:=hide (show gs.length = m by have h1:=(uh HS3).st.len; rw [hml] at h1; exact h1)
  have HS5:Hid (SLP W.heap.size W0 (.slice so m sc) (.slice po pn pc) gs (mixL k q L m 0) (dnL (hsZ k) q L m) C l):=hide (by rw [xb5i]; exact uh HS4)
  obtain ⟨E,hE⟩:∃ E,dnL (hsZ k) q L m = E:=⟨_,rfl⟩
  rw [hE] at HS5
  have HE:=hide hE
  clear hE
  clear k3 hD hDe hse HG1 HG2 HG3 HS1 HS2 HS3 HS4 HK34 HK1 HK2 HK3 HG0 HM HKU
  go_wp2_with (rw [zb32]; refine wpList_store_row rfl 58 (.tmp 10) (.tmp 37) rfl w3.heap.size (brow D) rfl rfl _ (zb 32) (uh HZ1) (uh HSD) (by rw [xa0d,xa0a,hDl]) (xa0b _) ?_; rw [hW0]; simp only [Act.put])
  clear hW0 HZ1
  go_loopw [41] (fun t41 wr=>∃ (i:Nat),t41 = .int .i64 i∧i≤m∧Hid (SLP W.heap.size wr (.slice so m sc) (.slice po pn pc) gs (mixL k q L m i) E C l)∧Hid (wr.heap[w3.heap.size]? = some (.cells (brow D) 58 (0,0)))∧Hid (wr.heap[w.heap.size]? = some (.cells #[.slice none 0 0,.slice none 0 0] 64 (0,0)))∧Hid (Kept [] w wr)) (fun t _=>m - (intOf t).toNat)
  case atStart=>exact ⟨0,rfl,Nat.zero_le _,HS5,HX0,HG4,HK4⟩
  case round =>
    clear HS5 HX0 HG4 HK4
    obtain ⟨i,rfl,hi,HSr,HXr,HGr,HKr⟩:=hrel
    by_cases hlt:i < m
    · have hlt':(i:Int) < m:=by omega
      have hil:i < (mixL k q L m i).length:=by rw [xa5c]; exact hlt
      obtain ⟨g,c,hv,hBg,hrg,cur,hcur⟩:=(uh HSr).st.at_ hil
      have hkid:=(uh HSr).st.kid i hil
      have hmn:(mixL k q L m i).length = m:=xa5c _ _ _ _ _
      rw [hmn] at hv
      have hso:so = some ⟨g,0,none⟩:=by injection hv
      have hsc:sc = c:=by injection hv
      subst hso
      subst hsc
      clear hv
      rw [xb2j hlt] at hrg hkid
      have hgC:=(uh HSr).lo.2 g rfl
      have hg3:=(uh HLT).2 g rfl
      have hmem:gs.getD i (0,0)∈gs:=by
        have:=uh HGL
        rw [List.getD_eq_getElem?_getD,List.getElem?_eq_getElem (by omega)]; exact List.getElem_mem _
      have hpC:=(uh HSr).lo.1 _ hmem
      have hp3:=(uh HLT).1 _ hmem
      have hcap:=uh HCAP i hlt
      have hPF:=uh HPF i
      have hct:=uh HCT i
      have hat:=uh HAT i hlt
      obtain ⟨ST,hST⟩:∃ ST,stp k q L i = ST:=⟨_,rfl⟩
      rw [hST] at hrg hkid hcap hPF hct
      have HST:=hide hST
      obtain ⟨P,hP⟩:∃ P,gs.getD i (0,0) = P:=⟨_,rfl⟩
      rw [hP] at hrg hkid hcap hpC hp3
      have HP:=hide hP
      obtain ⟨x,ds⟩:=ST
      obtain ⟨p1,p2⟩:=P
      obtain ⟨hnw,hne,⟨zs,hrow,hzs,hz1⟩,hcp,hbm,hdg⟩:=hkid
      simp only at hrg hcap hPF hct hpC hp3 hnw hne hrow hzs hcp hbm hdg
      subst hcap
      have hzn:zs = []:=List.eq_nil_of_length_eq_zero (by rw [hzs,Nat.sub_self])
      subst hzn
      rw [List.append_nil] at hrow
      have hgp:p1≠g:=fun e=>hne (by rw [e]; rfl)
      obtain ⟨n,hn⟩:∃ n,ds.length = n:=⟨_,rfl⟩
      have hstv:stV (x,ds) (p1,ds.length) = [.int .u16 (x:Int),.slice (some ⟨p1,0,none⟩) n n]:=by unfold stV; rw [hn]
      rw [hn] at hct hcp
      rw [hstv] at hrg
      have HRG:=hide hrg
      have HCUR:=hide hcur
      obtain ⟨dg,hdgt⟩:∃ dg,dgt D i = dg:=⟨_,rfl⟩
      rw [hdgt] at hPF hct hat
      have hdl16:dg < 16:=by rw [← hdgt]; exact dgt_lt hDg.2 i
      have hA:=heap_alloc_new wr (.cells #[.int .u16 (x:Int),.slice (some ⟨p1,0,none⟩) n n] 52)
      have hkA:=(Kept.refl [] wr).alloc (.cells #[.int .u16 (x:Int),.slice (some ⟨p1,0,none⟩) n n] 52)
      have HA:=hide hA
      have HKA:=hide hkA
      have HXA:=hide (hkA.heap (uh HXr) (by simp))
      have HIR:=hide (show p1 < wr.heap.size∧g < wr.heap.size from ⟨lt_of_block hrow,block_lt_of_cell (hrg 0 _ rfl)⟩)
      have HRW:=hide hrow
      obtain ⟨wa,hwa⟩:∃ wa,wr.alloc (.cells #[.int .u16 (x:Int),.slice (some ⟨p1,0,none⟩) n n] 52) = wa:=⟨_,rfl⟩
      rw [hwa] at HA HKA HXA
      clear hA hkA hrg hcur hdgt hST hP hmem hstv hil hmn hrow
      go_upto_region 11 with (refine wpList_load_mid rfl 52 (.tmp 44) rfl g (i * 2) rfl [.int .u16 (x:Int),.slice (some ⟨p1,0,none⟩) n n] _ (uh HRG) Tryz.underlying52 rfl Tryz.size_stpP ?_)
      try simp only [Act.put]
      try rw [hwa]
      clear hwa
      go_wp2_with (refine wpList_load_row rfl 58 (.tmp 10) rfl w3.heap.size rfl 58 (brow D) (0,0) _ (uh HXA) Tryz.underlying58 rfl (uh HSD) ?_)
      refine Calls.mono (at_any (k:Int) D (i:Int) wa (by omega) (by omega) hDg) ?_
      rintro e wb ⟨rfl,kb⟩
      rw [hat]
      have HB:=hide (kb.heap (uh HA) (by simp))
      have HKrb:=hide ((uh HKA).trans kb (by simp))
      have HWC:=hide (xa8k x dg p1 n ds wb hbm hdl16 ((uh HKrb).heap (uh HRW) (by simp)) hn (fun d hd=>(hdg d hd).1) hcp.2 hct)
      clear kb hat hct
      go_wp2_with (refine wpList_load_row rfl 52 (.tmp 13) rfl wr.heap.size rfl 52 #[.int .u16 (x:Int),.slice (some ⟨p1,0,none⟩) n n] (0,0) _ (uh HB) Tryz.underlying52 rfl Tryz.size_stpP ?_)
      refine Calls.mono (uh HWC) ?_
      clear HWC
      rintro e wc ⟨zs,rfl,hhc,hzl,hzo,kc⟩
      have hq1:wb.cell? ⟨g,i * 2 + 1,none⟩ = some (.slice (some ⟨p1,0,none⟩) n n):=(uh HKrb).cell (uh HRG 1 _ rfl) (by simp)
      have hq2:wc.cell? ⟨g,i * 2 + 1,none⟩ = some (.slice (some ⟨p1,0,none⟩) n n):=kc.cell hq1 (by simp; exact fun e=>hgp e.symm)
      have hq3:wc.frozen? ⟨g,i * 2 + 1,none⟩ = false:=frozen_of_row _ _ _ _ _ (kc.heap ((uh HKrb).heap (uh HCUR) (by simp)) (by simp; exact fun e=>hgp e.symm))
      obtain ⟨d2,hd2⟩:∃ d2,(wod (x,ds) dg).2 = d2:=⟨_,rfl⟩
      rw [hd2] at hhc hzl ⊢
      have hl2:d2.length≤n:=by
        rw [← hd2,← hn]
        show (if _ then _ else _:List (List Nat)).length≤_
        split
        · exact List.length_eraseIdx_le _ _
        · exact Nat.le_refl _
      have hdd2:∀ d∈d2,Dg d:=fun d hd=>by
        rw [← hd2] at hd
        have hd3:d∈(if x.testBit dg = true then ds.eraseIdx (cnt x dg) else ds):=hd
        split at hd3
        · exact hdg d (List.mem_of_mem_eraseIdx hd3)
        · exact hdg d hd3
      have hPD:=uh HP
      rw [hn] at hPD
      have hprf:prf k q L i = (x,d2):=by rw [hPF,← hd2]; rfl
      have hsb:=(uh HSr).kept (uh HKrb)
      have hkc:KidB W.heap.size wc (.slice (some ⟨g,0,none⟩) m sc) (((mixL k q L m i).getD i (0,[])).1,d2) (gs.getD i (0,0)):=by
        rw [xb2j hlt,uh HST,hPD]
        exact ⟨hnw,hne,⟨zs,hhc,hzl,hzo⟩,⟨hl2,hcp.2⟩,hbm,hdd2⟩
      have hpt:=hsb.st.put (i:=i) (by rw [xa5c]; exact hlt) (g:=g) (c:=sc) (by rw [xa5c]) (by rw [hPD]; exact kc) hkc
      rw [xb2j hlt,uh HST,hPD] at hpt
      simp only at hpt
      rw [← hprf,xb5o hlt] at hpt
      have hKg:=(Kept.refl [g] wc).setCell (p:=⟨g,i * 2 + 1,none⟩) (Or.inl (by simp)) (.slice (some ⟨p1,0,none⟩) d2.length n)
      have hly:=(hsb.ly.far kc (fun y hy=>by rw [List.mem_singleton.1 hy]; exact hpC)).far hKg (fun y hy=>by rw [List.mem_singleton.1 hy]; exact hgC)
      have HSd:=hide (show SLP W.heap.size _ _ _ _ _ _ _ _ from ⟨hpt,hly,hsb.lo,hsb.bc⟩)
      have hxb:=(uh HKrb).heap (uh HXr) (by simp)
      have hgb:=(uh HKrb).heap (uh HGr) (by simp)
      have hbw:=uh HBW
      have HXd:=hide (hKg.heap (kc.heap hxb (by simp; omega)) (by simp; omega))
      have HGd:=hide (hKg.heap (kc.heap hgb (by simp; omega)) (by simp; omega))
      have HKd:=hide ((((uh HKr).trans (uh HKrb) (by simp)).trans kc (fun y hy=>Or.inr (by rw [List.mem_singleton.1 hy]; omega))).setCell (p:=⟨g,i * 2 + 1,none⟩) (Or.inr (show w.heap.size≤g by omega)) (.slice (some ⟨p1,0,none⟩) d2.length n))
      clear hq1 hhc hzl hzo kc hd2 hl2 hdd2 hPD hprf hsb hkc hpt hKg hly hxb hgb hbw hPF hdg hn
      go_wp2_with fail
      refine ⟨⟨i + 1,by go_num,hlt,HSd,HXd,HGd,HKd⟩,?_⟩
      simp [intOf]; omega
    · have hie:i = m:=by omega
      subst hie
      have hlt':¬ (i:Int) < i:=by omega
      have HWP:=hide (setRow_heap _ _ _ #[.slice so i sc,.slice po pn pc] _ _ (uh HGr))
      have hKz:=(Kept.refl [w.heap.size] wr).setRow (g:=w.heap.size) (Or.inl (by simp)) #[.slice so i sc,.slice po pn pc]
      have HSz:=hide ((uh HSr).far hKz (fun y hy=>by rw [List.mem_singleton.1 hy]; exact uh HBW))
      have HKz:=hide ((uh HKr).setRow (g:=w.heap.size) (Or.inr (Nat.le_refl _)) #[.slice so i sc,.slice po pn pc])
      clear hKz
      go_wp2_with (first
        | (refine xa0h rfl 64 _ rfl #[.slice so i sc,.slice po pn pc] (by simp only [List.map_toArray,List.map_cons,List.map_nil]; exact xb7z) ?_)
        | (refine wpList_store_row rfl 64 (.tmp 4) (.tmp 63) rfl w.heap.size #[.slice so i sc,.slice po pn pc] rfl rfl _ #[.slice none 0 0,.slice none 0 0] (uh HGr) Tryz.size_kp rfl (p_two1 rfl rfl) ?_))
      refine bodyPost_ret (v:=.tuple #[.agg #[.slice so i sc,.slice po pn pc],.int .i64 0]) ?_ rfl ?_
      · exact xa0c rfl _ _ w.heap.size _ #[.slice so i sc,.slice po pn pc] (0,0) _ rfl (uh HWP) Tryz.underlying64 rfl Tryz.size_kp (.int .i64 0) rfl
      · have h9:=uh HSz
        rw [xb7j,← uh HE] at h9
        exact ⟨_,_,rfl,⟨i,gs,C,l,h9.base (uh HK0).size,uh HWY⟩,uh HKz⟩
theorem ProofP.form {k:Nat} {w:World} {q:List Nat} {L:Prs} {sv pv:Value} (h:ProofP k w q L sv pv):∃ s1 s2 s3 p1 p2 p3,sv = .slice s1 s2 s3∧pv = .slice p1 p2 p3:=by
  obtain ⟨m,⟨s1,s2,s3,_,e2,_⟩,⟨p1,p2,p3,_,_,e,_⟩,_⟩:=h
  exact ⟨s1,s2,s3,p1,p2,p3,e2,e⟩


theorem ins_le (H:Hs) (q v:List Nat):∀ L:Prs,(insP H q v L).length≤L.length + 1
  | []=>by simp [insP]
  | y :: L=>by
    have ih:=ins_le H q v L
    rw [xa2i]
    split
    · simp
    · split
      · simp
      · simp only [List.length_cons]; omega
end
section
open Go Go.RowKit Go.BigFrame

end
section
open Go.RowKit Go.BigFrame




end

section
open Go.RowKit Go.BigFrame
theorem xb6n {w:World} {g:Nat} (bs:List Nat) {cs:Array Value} {fr:Nat × Nat} (h:w.heap[g]? = some (.cells cs 5 fr)) (hc:cs = (bs.map u8).toArray) (hb:∀ x∈bs,x < 256) (n:Nat) (hn:bs.length = n) (hl:n≤140737488355328):Rd w (.slice (some ⟨g,0,none⟩) n n) bs:=by
  refine ⟨_,n,n,rfl,hn,Nat.le_refl _,⟨by omega,hl⟩,fun h=>by simp at h,hb,fun hp=>⟨g,0,rfl,fun i hi=>?_⟩⟩
  subst hc
  have hi':i < bs.length:=by omega
  rw [cell_of_row _ _ _ _ _ _ h,Nat.zero_add,List.getElem?_toArray,List.getElem?_map,List.getD_eq_getElem?_getD,List.getElem?_eq_getElem hi']
  rfl
abbrev bt (x:Int):Obj:=.cells #[.int .u8 x] 5 (1,2)
theorem bt_rd (w:World) (x:Nat) (hx:x < 256):Rd (w.alloc (bt x)) (.slice (some ⟨w.heap.size,0,none⟩) 1 1) [x]:=xb6n (n:=1) [x] (heap_alloc_new w (bt x)) rfl (by intro y hy; simp at hy; omega) rfl (by decide)


structure BkOk (w0 w:World) (g:Nat) (sl:Value) (l:List VP) (bs:Prs):Prop where
  g0:w0.heap.size≤g
  hd:w.heap[g]? = some (.cells #[sl] 88 (0,0))
  own:w.ownsRow w0.heap.size 33 2 sl l.length (kvR l).flatten
  len:l.length = bs.length
  rd:∀ i,i < l.length→Rd w0 (l.getD i (undef,undef)).1 (bs.getD i ([],[])).1∧Rd w0 (l.getD i (undef,undef)).2 (bs.getD i ([],[])).2
  kk:Kept [] w0 w
theorem xa4r (l:List VP):∀ r∈kvR l,r.length = 2:=fun r hr=>by
  obtain ⟨p,_,rfl⟩:=List.mem_map.1 hr; rfl
theorem bkR_at (l:List VP) (i:Nat) (hi:i < l.length):(kvR l)[i]'(by rw [xa0l]; exact hi) = [(l.getD i (undef,undef)).1,(l.getD i (undef,undef)).2]:=by
  simp [kvR,List.getD_eq_getElem?_getD,List.getElem?_eq_getElem hi]
theorem BkOk.at_ {w0 w:World} {g:Nat} {sl:Value} {l:List VP} {bs:Prs} (h:BkOk w0 w g sl l bs) {i:Nat} (hi:i < l.length):∃ b c,sl = .slice (some ⟨b,0,none⟩) l.length c∧w0.heap.size≤b∧b < w.heap.size∧b≠g∧w.cell? ⟨b,i * 2,none⟩ = some (l.getD i (undef,undef)).1∧w.cell? ⟨b,i * 2 + 1,none⟩ = some (l.getD i (undef,undef)).2∧∃ cur,w.heap[b]? = some (.cells cur 33 (0,0)):=by
  rcases h.own.2 with ⟨e,h9⟩ | ⟨b,cap,cur,rfl,hg,hh,hc,hm,hsz,ht⟩
  · omega
  · have hne:b≠g:=fun e=>by
      have h1:=h.hd
      rw [← e,hh] at h1
      cases h1
    refine ⟨b,cap,rfl,hg,lt_of_block hh,hne,?_,?_,cur,hh⟩
    · have h8:=h.own.cells (g:=b) rfl (i * 2 + 0) (l.getD i (undef,undef)).1 (xa3p (xa4r l) (show i < (kvR l).length by rw [xa0l]; exact hi) (j:=0) (by rw [bkR_at l i hi]; rfl))
      rw [Addr.add_lit] at h8
      simp only [Nat.zero_add,Nat.add_zero] at h8
      exact h8
    · have h8:=h.own.cells (g:=b) rfl (i * 2 + 1) (l.getD i (undef,undef)).2 (xa3p (xa4r l) (show i < (kvR l).length by rw [xa0l]; exact hi) (j:=1) (by rw [bkR_at l i hi]; rfl))
      rw [Addr.add_lit] at h8
      simp only [Nat.zero_add,Nat.add_zero] at h8
      exact h8
theorem BkOk.kept {w0 w w':World} {g:Nat} {sl:Value} {l:List VP} {bs:Prs} (h:BkOk w0 w g sl l bs) (k:Kept [] w w'):BkOk w0 w' g sl l bs :=
  ⟨h.g0,k.heap h.hd (by simp),k.owns h.own (by simp),h.len,h.rd,h.kk.trans k (by simp)⟩
theorem BkOk.form {w0 w:World} {g:Nat} {sl:Value} {l:List VP} {bs:Prs} (h:BkOk w0 w g sl l bs):∃ ao c,sl = .slice ao l.length c:=xa0k h.own
set_option maxHeartbeats 4000000 in
theorem xb8n (w0:World) (g:Nat) (sl:Value) (l:List VP) (bs:Prs) (kv:Value) (q:List Nat) (w:World) (h:BkOk w0 w g sl l bs) (hq:Rd w kv q) (hl:bs.length≤1000000000) :
    Calls Tryz.prog 42 #[.pointer (some ⟨g,0,none⟩),kv] w fun e w'=>∃ v',e = .returned (.tuple #[v',.bool (getP q bs).isSome])∧Rd w' v' ((getP q bs).getD [])∧Kept [] w w':=by
  obtain ⟨ao,c,rfl⟩:=h.form
  have HB:=hide h
  have HQ:=hide hq
  have hln:=h.len
  obtain ⟨n,hn⟩:∃ n,l.length = n:=⟨_,rfl⟩
  rw [hn] at hln
  have HN:=hide hn
  have HLN:=hide hln.symm
  have hn9:n≤1000000000:=by omega
  have HC:=hide (show w.cell? ⟨g,0,none⟩ = some (.slice ao n c) by rw [cell_of_row _ _ 0 _ _ _ h.hd,hn]; rfl)
  clear h hq hl hln hn
  go_enter Tryz.func42,Tryz.ntmps42
  go_wp2_with fail
  go_loopw [6] (fun t6 wr=>∃ (i:Nat),t6 = .int .i64 i∧i≤n∧Hid (∀ j,j < i→(bs.getD j ([],[])).1≠q)∧Hid (Kept [] w wr)) (fun t _=>n - (intOf t).toNat)
  case atStart=>exact ⟨0,rfl,Nat.zero_le _,hide (fun j hj=>by omega),hide (Kept.refl _ _)⟩
  case round =>
    obtain ⟨i,rfl,hi,HNE,HKr⟩:=hrel
    have hc0:=(uh HKr).cell (uh HC) (by simp)
    by_cases hlt:i < n
    · have hlt':(i:Int) < n:=by omega
      obtain ⟨b,c',e,hb0,hbw,hbg,hx1,hx2,_⟩:=(uh HB).at_ (i:=i) (by rw [uh HN]; exact hlt)
      have ea:ao = some ⟨b,0,none⟩:=by injection e
      subst ea
      have hrd:=(uh HB).rd i (by rw [uh HN]; exact hlt)
      have HR1:=hide (hrd.1.old (uh HB).kk (by simp))
      have HR2:=hide (hrd.2.old (uh HB).kk (by simp))
      have hy1:=(uh HKr).cell hx1 (by simp)
      have hy2:=(uh HKr).cell hx2 (by simp)
      have HY2:=hide hy2
      have HNX:=hide (show ∀ e9:(bs.getD i ([],[])).1 = q,bix q bs = i from fun e9=>bix_of (by rw [uh HLN]; exact hlt) (uh HNE) e9)
      have HGB:=hide (xa3a q bs)
      generalize (l.getD i (undef,undef)).1 = x1 at hy1 HR1
      generalize (l.getD i (undef,undef)).2 = x2 at hy2 HR2 HY2
      obtain ⟨a1,a2,a3,rfl,_⟩:=id (uh HR1)
      obtain ⟨b1,b2,b3,rfl,_⟩:=id (uh HR2)
      clear hrd hx1 hx2 e hbw hb0
      go_wp2_with fail
      refine Calls.mono (xa2k _ _ (bs.getD i ([],[])).1 q wr ((uh HR1).old (uh HKr) (by simp)) ((uh HQ).old (uh HKr) (by simp))) ?_
      rintro e w3 ⟨rfl,h3⟩
      rw [h3]
      clear h3
      by_cases hk:(bs.getD i ([],[])).1 = q
      · have hbi:=uh HNX hk
        have HG:=hide (show getP q bs = some (bs.getD i ([],[])).2 by rw [uh HGB,hbi,if_pos (by rw [uh HLN]; exact hlt)])
        rw [decide_eq_true hk]
        go_wp2_with fail
        go_ret2
        exact ⟨_,by rw [uh HG]; rfl,by rw [uh HG]; exact (uh HR2).old (uh HKr) (by simp),uh HKr⟩
      · rw [decide_eq_false hk]
        have HNE2:=hide (show ∀ j,j < i + 1→(bs.getD j ([],[])).1≠q from fun j hj=>by
          rcases Nat.lt_or_ge j i with g9 | g9
          · exact uh HNE j g9
          · rw [show j = i by omega]; exact hk)
        clear hk
        go_wp2_with fail
        refine ⟨⟨i + 1,by go_num,hlt,HNE2,HKr⟩,?_⟩
        simp [intOf]; omega
    · have hie:i = n:=by omega
      subst hie
      have hlt':¬ (i:Int) < i:=by omega
      have hall:=xb3l (q:=q) (L:=bs) (fun j hj=>uh HNE j (by rw [uh HLN] at hj; exact hj))
      have HG:=hide (show getP q bs = none by rw [xa3a,hall,if_neg (by omega)])
      clear hall
      go_wp2_with fail
      go_ret2
      exact ⟨_,by rw [uh HG]; rfl,by rw [uh HG]; exact Rd.nil _,uh HKr⟩
theorem xa7g {α:Type} (l:List α) (a d:α) (i:Nat) (hi:i < l.length + 1):(l++[a]).getD i d = if i < l.length then l.getD i d else a:=by
  rw [xa9g]
  by_cases h:i < l.length
  · rw [if_pos h,if_pos h]
  · rw [if_neg h,if_neg h,if_pos (by omega)]
end
section
open Go Go.RowKit Go.BigFrame
theorem lp_u19 {P:Program} {Q:Exit→Act→World→Prop} {id:Nat} {o0 o1 o2 o3 o4 o5 o6 o7 o8 o9 o10 o11 o12 o13 o14 o15 o16 o17 o18:Oper} {a:Act} {w:World} (hm:P.follows .mixedOrders = true) (hb:linBT #[o0,o1,o2,o3,o4,o5,o6,o7,o8,o9,o10,o11,o12,o13,o14,o15,o16,o17,o18] [0,1,2,3,4,5,6,7,8,9,10,11,12,13,14,15,16,17] [] 18 = true) (hg:([o0,o1,o2,o3,o4,o5,o6,o7,o8,o9,o10,o11,o12,o13,o14,o15,o16,o17]++([]++[o18])).all (fun o=>o.guard.isNone) = true) (T:World→Prop) (hT:T w.drew)
    (h:LinY P T (ChL P Q T (fun a w=>o18.wp P a w (Q .normal) (NoPanic Q)) []) [o0,o1,o2,o3,o4,o5,o6,o7,o8,o9,o10,o11,o12,o13,o14,o15,o16,o17] a w.drew):(Code.region id #[o0,o1,o2,o3,o4,o5,o6,o7,o8,o9,o10,o11,o12,o13,o14,o15,o16,o17,o18] true).wp P Q a w:=xb1q (R:=[0,1,2,3,4,5,6,7,8,9,10,11,12,13,14,15,16,17]) (C:=[]) (t:=18) (rs:=[o0,o1,o2,o3,o4,o5,o6,o7,o8,o9,o10,o11,o12,o13,o14,o15,o16,o17]) (cs:=[]) hm hb rfl rfl rfl hg hT h
theorem lp_u15 {P:Program} {Q:Exit→Act→World→Prop} {id:Nat} {o0 o1 o2 o3 o4 o5 o6 o7 o8 o9 o10 o11 o12 o13 o14:Oper} {a:Act} {w:World} (hm:P.follows .mixedOrders = true) (hb:linBT #[o0,o1,o2,o3,o4,o5,o6,o7,o8,o9,o10,o11,o12,o13,o14] [0,1,2,3,4,5,6,7,8,9,10,11] [12,13] 14 = true) (hg:([o0,o1,o2,o3,o4,o5,o6,o7,o8,o9,o10,o11]++([o12,o13]++[o14])).all (fun o=>o.guard.isNone) = true) (T:World→Prop) (hT:T w.drew)
    (h:LinY P T (ChL P Q T (fun a w=>o14.wp P a w (Q .normal) (NoPanic Q)) [o12,o13]) [o0,o1,o2,o3,o4,o5,o6,o7,o8,o9,o10,o11] a w.drew):(Code.region id #[o0,o1,o2,o3,o4,o5,o6,o7,o8,o9,o10,o11,o12,o13,o14] true).wp P Q a w:=xb1q (R:=[0,1,2,3,4,5,6,7,8,9,10,11]) (C:=[12,13]) (t:=14) (rs:=[o0,o1,o2,o3,o4,o5,o6,o7,o8,o9,o10,o11]) (cs:=[o12,o13]) hm hb rfl rfl rfl hg hT h
theorem lp_f8 {P:Program} {Q:Exit→Act→World→Prop} {id:Nat} {o0 o1 o2 o3 o4 o5 o6 o7:Oper} {a:Act} {w:World} (hm:P.follows .mixedOrders = true) (hb:linBT #[o0,o1,o2,o3,o4,o5,o6,o7] [0,1,3,4] [2,5,6] 7 = true) (hg:([o0,o1,o3,o4]++([o2,o5,o6]++[o7])).all (fun o=>o.guard.isNone) = true) (T:World→Prop) (hT:T w.drew)
    (h:LinY P T (ChL P Q T (fun a w=>o7.wp P a w (Q .normal) (NoPanic Q)) [o2,o5,o6]) [o0,o1,o3,o4] a w.drew):(Code.region id #[o0,o1,o2,o3,o4,o5,o6,o7] true).wp P Q a w:=xb1q (R:=[0,1,3,4]) (C:=[2,5,6]) (t:=7) (rs:=[o0,o1,o3,o4]) (cs:=[o2,o5,o6]) hm hb rfl rfl rfl hg hT h
end
section
open Go.RowKit Go.BigFrame
def bkS (g:Nat) (sl:Value):Nat→Prop:=fun y=>sl.ownBlock≠some y∧y≠g
theorem Tryz.size_prs2:(Tryz.prog.info? 22).map (·.size) = some 1:=by kernel_rfl
theorem BkOk.set {w0 w:World} {g:Nat} {sl:Value} {l:List VP} {bs:Prs} (h:BkOk w0 w g sl l bs) {i b c:Nat} (hi:i < l.length) (e:sl = .slice (some ⟨b,0,none⟩) l.length c) (vv:Value) (v:List Nat) (hv:Rd w0 vv v) :
    BkOk w0 (w.setCell ⟨b,i * 2 + 1,none⟩ vv) g sl (l.set i ((l.getD i (undef,undef)).1,vv)) (bs.set i ((bs.getD i ([],[])).1,v)):=by
  obtain ⟨b',c',e',hb0,hbw,hbg,hx1,hx2,cur0,hcur0⟩:=h.at_ hi
  rw [e] at e'
  cases e'
  have hK:=(Kept.refl [b] w).setCell (p:=⟨b,i * 2 + 1,none⟩) (Or.inl (by simp)) vv
  refine ⟨h.g0,hK.heap h.hd (by simp; exact fun e9=>hbg e9.symm),?_,by rw [List.length_set,List.length_set]; exact h.len,fun j hj=>?_,h.kk.setCell (p:=⟨b,i * 2 + 1,none⟩) (Or.inr hb0) vv⟩
  · rcases h.own.2 with ⟨e9,h9⟩ | ⟨b2,cap,cur,e2,hg,hh,hc,hm,hsz,ht⟩
    · omega
    · rw [e] at e2
      cases e2
      have h1:=heap_setCell_same w b (i * 2 + 1) cur _ vv hh
      have hfl:(kvR l).flatten.set (i * 2 + 1) vv = (kvR (l.set i ((l.getD i (undef,undef)).1,vv))).flatten:=by
        rw [xa5p (xa4r l) (i:=i) (by rw [xa0l]; exact hi) (l.getD i (undef,undef)).1 (by rw [bkR_at l i hi]; rfl)]
        congr 1
        simp [kvR,List.map_set]
      refine ⟨?_,Or.inr ⟨b,c,_,by rw [e,List.length_set],hg,h1,by rw [List.length_set]; exact hc,hm,by rw [Array.size_setIfInBounds]; exact hsz,?_⟩⟩
      · rw [← hfl,List.length_set,h.own.1,List.length_set]
      · rw [List.length_set,Array.toList_setIfInBounds,List.take_set,ht,hfl]
  · rw [List.length_set] at hj
    by_cases e9:i = j
    · subst e9
      have hib:i < bs.length:=by have:=h.len; omega
      rw [xa7b hi,xa7b hib]
      exact ⟨(h.rd i hi).1,hv⟩
    · rw [xa6s e9,xa6s e9]
      exact h.rd j hj
set_option maxHeartbeats 8000000 in
theorem xb9b (w0:World) (g:Nat) (sl:Value) (l:List VP) (bs:Prs) (kv vv:Value) (q v:List Nat) (w:World) (h:BkOk w0 w g sl l bs) (hq:Rd w0 kv q) (hv:Rd w0 vv v) (hl:bs.length≤1000000000) :
    Calls Tryz.prog 75 #[.pointer (some ⟨g,0,none⟩),kv,vv] w fun e w'=>e = .returned (.tuple #[])∧∃ sl' l',BkOk w0 w' g sl' l' (bset bs q v)∧Agr (bkS g sl) w w'∧(sl'.ownBlock = sl.ownBlock∨∃ y,sl'.ownBlock = some y∧w.heap.size≤y):=by
  obtain ⟨ao,c,rfl⟩:=h.form
  have HB:=hide h
  have HQ:=hide hq
  have HV:=hide hv
  have hln:=h.len
  obtain ⟨n,hn⟩:∃ n,l.length = n:=⟨_,rfl⟩
  rw [hn] at hln HB ⊢
  have HN:=hide hn
  have HLN:=hide hln.symm
  have hn9:n≤1000000000:=by omega
  have HC:=hide (show w.cell? ⟨g,0,none⟩ = some (.slice ao n c) by rw [cell_of_row _ _ 0 _ _ _ h.hd,hn]; rfl)
  obtain ⟨qa,qn,qc,rfl,_⟩:=id hq
  obtain ⟨va,vn,vc,rfl,_⟩:=id hv
  clear h hq hv hl hln hn
  go_enter Tryz.func75,Tryz.ntmps75
  go_wp2_with fail
  go_loopw [6] (fun t6 wr=>∃ (i:Nat),t6 = .int .i64 i∧i≤n∧Hid (∀ j,j < i→(bs.getD j ([],[])).1≠q)∧Hid (Kept [] w wr)) (fun t _=>n - (intOf t).toNat)
  case atStart=>exact ⟨0,rfl,Nat.zero_le _,hide (fun j hj=>by omega),hide (Kept.refl _ _)⟩
  case round =>
    obtain ⟨i,rfl,hi,HNE,HKr⟩:=hrel
    have hc0:=(uh HKr).cell (uh HC) (by simp)
    by_cases hlt:i < n
    · have hlt':(i:Int) < n:=by omega
      have hil:i < l.length:=by rw [uh HN]; exact hlt
      obtain ⟨b,c',e,hb0,hbw,hbg,hx1,hx2,cur,hcur⟩:=(uh HB).at_ hil
      have ea:ao = some ⟨b,0,none⟩:=by injection e
      have ec:c = c':=by injection e
      subst ea
      subst ec
      have hrd:=(uh HB).rd i hil
      have HR1:=hide (hrd.1.old (uh HB).kk (by simp))
      have hy1:=(uh HKr).cell hx1 (by simp)
      have hy2:=(uh HKr).cell hx2 (by simp)
      have hy3:wr.frozen? ⟨b,i * 2 + 1,none⟩ = false:=frozen_of_row _ _ _ _ _ ((uh HKr).heap hcur (by simp))
      have HY2:=hide hy2
      have HY3:=hide hy3
      have HC0:=hide hc0
      have HBG:=hide hbg
      have HNX:=hide (show ∀ e9:(bs.getD i ([],[])).1 = q,bix q bs = i from fun e9=>bix_of (by rw [uh HLN]; exact hlt) (uh HNE) e9)
      obtain ⟨x1,hx1e⟩:∃ x1,(l.getD i (undef,undef)).1 = x1:=⟨_,rfl⟩
      rw [hx1e] at hy1 HR1
      obtain ⟨a1,a2,a3,rfl,_⟩:=id (uh HR1)
      clear hrd hx1 hx2 e hbw hb0 hcur hy2 hy3 hx1e
      go_wp2_with fail
      refine Calls.mono (xa2k _ _ (bs.getD i ([],[])).1 q wr ((uh HR1).old (uh HKr) (by simp)) ((uh HQ).old ((uh HB).kk.trans (uh HKr) (by simp)) (by simp))) ?_
      rintro e w3 ⟨rfl,h3⟩
      rw [h3]
      clear h3
      by_cases hk:(bs.getD i ([],[])).1 = q
      · have hbi:=uh HNX hk
        have HBI:=hide hbi
        rw [decide_eq_true hk]
        have hc1:=uh HY2
        have hc2:=uh HY3
        clear hk hbi hy1
        go_wp2_with fail
        have hBr:=(uh HB).kept (uh HKr)
        have hs:=hBr.set hil (b:=b) (c:=c) (by rw [uh HN]) (.slice va vn vc) v (uh HV)
        have hbs:bset bs q v = bs.set i ((bs.getD i ([],[])).1,v):=by unfold bset; rw [uh HBI,if_pos (by rw [uh HLN]; exact hlt)]
        rw [← hbs] at hs
        have hK:=(Kept.refl [b] wr).setCell (p:=⟨b,i * 2 + 1,none⟩) (Or.inl (by simp)) (.slice va vn vc)
        first
          | refine bodyPost_ret (v:=.tuple #[]) (results_none rfl _ _ _) rfl ?_
          | refine bodyPost_end (v:=.tuple #[]) (results_none rfl _ _ _) rfl ?_
        exact ⟨rfl,_,_,hs,⟨by have h1:=(uh HKr).size; have h2:=hK.size; omega,fun x hx hl=>by
          have h1:x∉[b]:=fun hm=>by
            have h2:=List.mem_singleton.1 hm
            exact hx.1 (by rw [h2]; rfl)
          rw [hK.block x (by have:=(uh HKr).size; omega) h1,(uh HKr).block x hl (by simp)]⟩,Or.inl rfl⟩
      · rw [decide_eq_false hk]
        have HNE2:=hide (show ∀ j,j < i + 1→(bs.getD j ([],[])).1≠q from fun j hj=>by
          rcases Nat.lt_or_ge j i with g9 | g9
          · exact uh HNE j g9
          · rw [show j = i by omega]; exact hk)
        clear hk
        go_wp2_with fail
        refine ⟨⟨i + 1,by go_num,hlt,HNE2,HKr⟩,?_⟩
        simp [intOf]; omega
    · have hie:i = n:=by omega
      subst hie
      have hlt':¬ (i:Int) < i:=by omega
      have hall:=xb3l (q:=q) (L:=bs) (fun j hj=>uh HNE j (by rw [uh HLN] at hj; exact hj))
      have HBS:=hide (show bset bs q v = bs++[(q,v)] by unfold bset; rw [hall,if_neg (by omega)])
      have HBr:=hide ((uh HB).kept (uh HKr))
      have HP5:=hide (heap_alloc_new wr (.cells #[.slice qa qn qc,.slice va vn vc] 33))
      have hk5:=(Kept.refl [] wr).alloc (.cells #[.slice qa qn qc,.slice va vn vc] 33)
      have HB5:=hide ((uh HBr).kept hk5)
      have HK5:=hide ((uh HKr).trans hk5 (by simp))
      have HRL:=hide (show RdC 2 (wr.alloc (.cells #[.slice qa qn qc,.slice va vn vc] 33)) (.slice (some ⟨wr.heap.size,0,none⟩) 1 1) (kvR [(.slice qa qn qc,.slice va vn vc)]) from ⟨_,1,1,rfl,rfl,Nat.le_refl _,by omega,fun _=>⟨wr.heap.size,0,rfl,fun j hj=>by
          have h0:j = 0:=by rw [xa0l] at hj; simp at hj; omega
          subst h0
          exact xa0j [] [.slice qa qn qc,.slice va vn vc] [] (uh HP5) rfl⟩⟩)
      obtain ⟨w5,hw5⟩:∃ w5,wr.alloc (.cells #[.slice qa qn qc,.slice va vn vc] 33) = w5:=⟨_,rfl⟩
      rw [hw5] at HB5 HK5 HRL
      have HW05:=hide (show w0.heap.size≤w5.heap.size from (uh HB5).kk.size)
      have HOB:=hide (fun y hy=>(uh HB5).own.lt y hy)
      have HGN:=hide (show (Value.slice ao i c).ownBlock≠some g from fun e9=>by
        rcases (uh HB5).own.2 with ⟨e,h9⟩ | ⟨b2,cap,cur,e2,hg,hh,_⟩
        · rw [e] at e9; cases e9
        · rw [e2] at e9
          have h1:b2 = g:=Option.some.inj e9
          have h2:=(uh HB5).hd
          rw [← h1,hh] at h2
          cases h2)
      clear hall hk5
      go_wp2_with (first
        | (refine xa2r rfl (.tmp 41) rfl (.slice qa qn qc) (.slice va vn vc) rfl ?_; rw [hw5])
        | (at_builtin; refine xa0u rfl 22 33 (.tmp 38) (.tmp 42) rfl rfl _ w0.heap.size (.agg #[.slice none 0 0,.slice none 0 0]) 2 48 Tryz.underlying22 Tryz.infoQ rfl (by decide) (.slice ao i c) i (kvR l).flatten (by have h9:=(uh HB5).own; rw [uh HN] at h9; exact h9) (some ⟨wr.heap.size,0,none⟩) 1 1 (kvR [(.slice qa qn qc,.slice va vn vc)]) (uh HRL) (by intro r hr; simp [kvR] at hr; rw [hr]; rfl) (by intro r hr u hu; simp [kvR] at hr; rw [hr] at hu; simp at hu; rcases hu with rfl | rfl <;> rfl) (by omega) (by omega) (uh HW05) rfl rfl ?_; intro ao7 c7 w7 HO7 HG7 HA7; clear hw5)
        | (refine xb5f rfl 22 (.tmp 45) (.tmp 43) rfl g 0 88 #[.slice ao i c] #[.slice ao7 (i + 1) c7] (.slice ao7 (i + 1) c7) rfl rfl (((Kept.refl (Value.slice ao i c).ownBlock.toList w5).grown (uh HG7) (by intro y hy; left; simp [hy])).heap (by have h9:=(uh HB5).hd; exact h9) (fun hm=>uh HGN (by simpa using hm))) (by simp) Tryz.size_prs2 rfl rfl ?_))
      first
        | refine bodyPost_ret (v:=.tuple #[]) (results_none rfl _ _ _) rfl ?_
        | refine bodyPost_end (v:=.tuple #[]) (results_none rfl _ _ _) rfl ?_
      have hg7:=(Kept.refl (Value.slice ao i c).ownBlock.toList w5).grown (uh HG7) (by intro y hy; left; simp [hy])
      have hgh:=hg7.heap (by have h9:=(uh HB5).hd; exact h9) (fun hm=>uh HGN (by simpa using hm))
      have hg8:=setRow_heap _ _ _ #[.slice ao7 (i + 1) c7] _ _ hgh
      have hk8:=(Kept.refl [g] w7).setRow (g:=g) (Or.inl (by simp)) #[.slice ao7 (i + 1) c7]
      have hb5:=uh HB5
      have hlb:bs.length = i:=uh HLN
      have hll:l.length = i:=uh HN
      have hno7:(Value.slice ao7 (i + 1) c7).ownBlock≠some g:=fun e9=>by
        rcases (uh HO7).2 with ⟨e,h9⟩ | ⟨b2,cap,cur,e2,hg,hh,_⟩
        · rw [e] at e9; cases e9
        · rw [e2] at e9
          have h1:b2 = g:=Option.some.inj e9
          rw [← h1] at hgh
          rw [hgh] at hh
          cases hh
      refine ⟨rfl,.slice ao7 (i + 1) c7,⟨l++[(.slice qa qn qc,.slice va vn vc)],?_⟩,⟨?_,fun x hx hl=>?_⟩,?_⟩
      · rw [uh HBS]
        refine ⟨hb5.g0,hg8,?_,by simp [hll,hlb],fun j hj=>?_,((hb5.kk.trans hg7 (fun y hy=>Or.inr (uh HOB y (by simpa using hy)).1)).trans hk8 (fun y hy=>Or.inr (by rw [List.mem_singleton.1 hy]; exact hb5.g0)))⟩
        · rw [List.length_append,hll,xb2k,List.flatten_append]
          exact hk8.owns (uh HO7) (fun y hy hm=>by rw [List.mem_singleton.1 hm] at hy; exact hno7 hy)
        · rw [List.length_append] at hj
          have hj2:j < l.length + 1:=hj
          rw [xa7g _ _ _ _ hj2,xa7g _ _ _ _ (by omega)]
          by_cases g9:j < l.length
          · rw [if_pos g9,if_pos (by omega)]; exact hb5.rd j g9
          · rw [if_neg g9,if_neg (by omega)]; exact ⟨uh HQ,uh HV⟩
      · have h1:=(uh HK5).size
        have h2:=hg7.size
        have h3:=hk8.size
        omega
      · have h1:x∉(Value.slice ao i c).ownBlock.toList:=fun hm=>hx.1 (by simpa using hm)
        have h2:x∉[g]:=fun hm=>hx.2 (List.mem_singleton.1 hm)
        have h3:=(uh HK5).size
        have h4:=hg7.size
        rw [hk8.block x (by omega) h2,hg7.block x (by omega) h1,(uh HK5).block x hl (by simp)]
      · rcases uh HA7 with h9 | h9
        · exact Or.inl h9
        · exact Or.inr ⟨_,h9,(uh HK5).size⟩
theorem xa6d {x y:Value}:∀ {rows:List (List Value)} (hs:∀ r∈rows,r.length = 2) {i:Nat} (hi:i < rows.length),(rows.flatten.set (i * 2) x).set (i * 2 + 1) y = (rows.set i [x,y]).flatten
  | [],hs,i,hi=>by simp at hi
  | r :: rs,hs,0,hi=>by
    obtain ⟨a,b,rfl⟩:∃ x y,r = [x,y]:=by
      have:=hs r (by simp)
      match r,this with
      | [x,y],_=>exact ⟨x,y,rfl⟩
    simp
  | r :: rs,hs,i + 1,hi=>by
    obtain ⟨a,b,rfl⟩:∃ x y,r = [x,y]:=by
      have:=hs r (by simp)
      match r,this with
      | [x,y],_=>exact ⟨x,y,rfl⟩
    have ih:=xa6d (rows:=rs) (x:=x) (y:=y) (fun r hr=>hs r (by simp [hr])) (i:=i) (by simpa using hi)
    rw [List.set_cons_succ,List.flatten_cons,List.flatten_cons,← ih,show (i + 1) * 2 = i * 2 + 1 + 1 by omega]
    rfl
theorem xb9f (l:List VP) (i:Nat) (x y:Value):(kvR l).set i [x,y] = kvR (l.set i (x,y)):=by simp [kvR,List.map_set]
theorem BkOk.set2 {w0 w:World} {g:Nat} {sl:Value} {l:List VP} {bs:Prs} (h:BkOk w0 w g sl l bs) {i b c:Nat} (hi:i < l.length) (e:sl = .slice (some ⟨b,0,none⟩) l.length c) (x y:Value) (p:List Nat × List Nat) (hx:Rd w0 x p.1) (hy:Rd w0 y p.2) :
    BkOk w0 (w.setCells b (i * 2) [x,y]) g sl (l.set i (x,y)) (bs.set i p):=by
  obtain ⟨b',c',e',hb0,hbw,hbg,hx1,hx2,cur0,hcur0⟩:=h.at_ hi
  rw [e] at e'
  cases e'
  have hK:=xa2e (L:=[b]) (w0:=w) b (Or.inl (by simp)) [x,y] (i * 2) w (Kept.refl _ _)
  have hK0:=xa2e (L:=[]) (w0:=w0) b (Or.inr hb0) [x,y] (i * 2) w h.kk
  refine ⟨h.g0,hK.heap h.hd (by simp; exact fun e9=>hbg e9.symm),?_,by rw [List.length_set,List.length_set]; exact h.len,fun j hj=>?_,hK0⟩
  · rcases h.own.2 with ⟨e9,h9⟩ | ⟨b2,cap,cur,e2,hg,hh,hc,hm,hsz,ht⟩
    · omega
    · rw [e] at e2
      cases e2
      have h1:=heap_setCell_same _ b (i * 2 + 1) _ _ y (heap_setCell_same w b (i * 2) cur _ x hh)
      have hfl:=xa6d (x:=x) (y:=y) (xa4r l) (i:=i) (by rw [xa0l]; exact hi)
      rw [xb9f] at hfl
      refine ⟨?_,Or.inr ⟨b,c,_,by rw [e,List.length_set],hg,h1,by rw [List.length_set]; exact hc,hm,by rw [Array.size_setIfInBounds,Array.size_setIfInBounds]; exact hsz,?_⟩⟩
      · rw [← hfl,List.length_set,List.length_set,h.own.1,List.length_set]
      · rw [List.length_set,Array.toList_setIfInBounds,Array.toList_setIfInBounds,List.take_set,List.take_set,ht,hfl]
  · rw [List.length_set] at hj
    by_cases e9:i = j
    · subst e9
      have hib:i < bs.length:=by have:=h.len; omega
      rw [xa7b hi,xa7b hib]
      exact ⟨hx,hy⟩
    · rw [xa6s e9,xa6s e9]
      exact h.rd j hj
theorem xa7e:∀ {rows:List (List Value)} (hs:∀ r∈rows,r.length = 2) (m:Nat),m≤rows.length→rows.flatten.take (m * 2) = (rows.take m).flatten
  | rows,hs,0,_=>by simp
  | [],hs,m + 1,h=>by simp at h
  | r :: rs,hs,m + 1,h=>by
    obtain ⟨a,b,rfl⟩:∃ x y,r = [x,y]:=by
      have:=hs r (by simp)
      match r,this with
      | [x,y],_=>exact ⟨x,y,rfl⟩
    have ih:=xa7e (rows:=rs) (fun r hr=>hs r (by simp [hr])) m (by simpa using h)
    rw [List.take_succ_cons,List.flatten_cons,List.flatten_cons,← ih,show (m + 1) * 2 = m * 2 + 1 + 1 by omega]
    rfl
theorem xb0s {w:World} {base:Nat} {b n m c:Nat} {l:List VP} (h:w.ownsRow base 33 2 (.slice (some ⟨b,0,none⟩) n c) l.length (kvR l).flatten) (hn:l.length = n) (hm:m≤n):w.ownsRow base 33 2 (.slice (some ⟨b,0,none⟩) m c) (l.take m).length (kvR (l.take m)).flatten:=by
  have hl:(l.take m).length = m:=by rw [List.length_take]; omega
  have hk:kvR (l.take m) = (kvR l).take m:=by simp [kvR,List.map_take]
  have hf:=xa7e (xa4r l) m (by rw [xa0l]; omega)
  rcases h.2 with ⟨e9,h9⟩ | ⟨b2,cap,cur,e2,hg,hh,hc,hmx,hsz,ht⟩
  · cases e9
  · cases e2
    refine ⟨?_,Or.inr ⟨b,c,cur,by rw [hl],hg,hh,by omega,hmx,hsz,?_⟩⟩
    · rw [xa8b (xa4r _),xa0l]
    · rw [hl,hk,← hf,← ht,List.take_take]
      congr 1
      omega
set_option maxHeartbeats 8000000 in
theorem xb2p (w0:World) (g:Nat) (sl:Value) (l:List VP) (bs:Prs) (kv:Value) (q:List Nat) (w:World) (h:BkOk w0 w g sl l bs) (hq:Rd w0 kv q) (hl:bs.length≤1000000000) :
    Calls Tryz.prog 77 #[.pointer (some ⟨g,0,none⟩),kv] w fun e w'=>e = .returned (.bool (getP q bs).isSome)∧∃ sl' l',BkOk w0 w' g sl' l' (bun bs q)∧Agr (bkS g sl) w w'∧sl'.ownBlock = sl.ownBlock:=by
  obtain ⟨ao,c,rfl⟩:=h.form
  have HB:=hide h
  have HQ:=hide hq
  have hln:=h.len
  obtain ⟨n,hn⟩:∃ n,l.length = n:=⟨_,rfl⟩
  rw [hn] at hln HB ⊢
  have HN:=hide hn
  have HLN:=hide hln.symm
  have hn9:n≤1000000000:=by omega
  have HC:=hide (show w.cell? ⟨g,0,none⟩ = some (.slice ao n c) by rw [cell_of_row _ _ 0 _ _ _ h.hd,hn]; rfl)
  clear h hq hl hln hn
  go_enter Tryz.func77,Tryz.ntmps77
  go_wp2_with fail
  go_loopw [5] (fun t5 wr=>∃ (i:Nat),t5 = .int .i64 i∧i≤n∧Hid (∀ j,j < i→(bs.getD j ([],[])).1≠q)∧Hid (Kept [] w wr)) (fun t _=>n - (intOf t).toNat)
  case atStart=>exact ⟨0,rfl,Nat.zero_le _,hide (fun j hj=>by omega),hide (Kept.refl _ _)⟩
  case round =>
    obtain ⟨i,rfl,hi,HNE,HKr⟩:=hrel
    have hc0:=(uh HKr).cell (uh HC) (by simp)
    by_cases hlt:i < n
    · have hlt':(i:Int) < n:=by omega
      have hil:i < l.length:=by rw [uh HN]; exact hlt
      obtain ⟨b,c',e,hb0,hbw,hbg,hx1,hx2,cur,hcur⟩:=(uh HB).at_ hil
      have ea:ao = some ⟨b,0,none⟩:=by injection e
      have ec:c = c':=by injection e
      subst ea
      subst ec
      have hrd:=(uh HB).rd i hil
      have HR1:=hide (hrd.1.old (uh HB).kk (by simp))
      have hy1:=(uh HKr).cell hx1 (by simp)
      have HC0:=hide hc0
      have HNX:=hide (show ∀ e9:(bs.getD i ([],[])).1 = q,bix q bs = i from fun e9=>bix_of (by rw [uh HLN]; exact hlt) (uh HNE) e9)
      have hncB:n≤c:=by
        rcases (uh HB).own.2 with ⟨e9,h9⟩ | ⟨b2,cap,cur2,e2,_,_,hc9,_⟩
        · cases e9
        · cases e2
          have:=uh HN
          omega
      obtain ⟨x1,hx1e⟩:∃ x1,(l.getD i (undef,undef)).1 = x1:=⟨_,rfl⟩
      rw [hx1e] at hy1 HR1
      obtain ⟨a1,a2,a3,rfl,_⟩:=id (uh HR1)
      clear hrd hx1 hx2 e hbw hb0 hcur hx1e
      go_wp2_with fail
      refine Calls.mono (xa2k _ _ (bs.getD i ([],[])).1 q wr ((uh HR1).old (uh HKr) (by simp)) ((uh HQ).old ((uh HB).kk.trans (uh HKr) (by simp)) (by simp))) ?_
      rintro e w3 ⟨rfl,h3⟩
      rw [h3]
      clear h3
      by_cases hk:(bs.getD i ([],[])).1 = q
      · have hbi:=uh HNX hk
        have HBI:=hide hbi
        rw [decide_eq_true hk]
        clear hk hbi hy1
        go_upto_region 5 with fail
        obtain ⟨r,hr⟩:∃ r,r = n - 1:=⟨_,rfl⟩
        have hri:(n:Int) - 1 = (r:Int):=by omega
        have hrl:r < n:=by omega
        have hrl2:(r:Int) < n:=by omega
        have hrc:r≤c:=by omega
        have hrc2:¬ c < r:=by omega
        have HWR:=hide (show IntKind.i64.wrap (r:Int) = (r:Int) by simp [IntKind.wrap,IntKind.signed,IntKind.bits]; omega)
        have hBr:=(uh HB).kept (uh HKr)
        obtain ⟨b3,c3,e3,hb30,hb3w,hb3g,hz1,hz2,cur3,hcur3⟩:=hBr.at_ (i:=r) (by rw [uh HN]; exact hrl)
        rw [uh HN] at e3
        cases e3
        have hrd3:=hBr.rd r (by rw [uh HN]; exact hrl)
        have HR3:=hide hrd3
        obtain ⟨u1,hu1⟩:∃ u1,(l.getD r (undef,undef)).1 = u1:=⟨_,rfl⟩
        obtain ⟨u2,hu2⟩:∃ u2,(l.getD r (undef,undef)).2 = u2:=⟨_,rfl⟩
        rw [hu1] at hz1 HR3
        rw [hu2] at hz2 HR3
        have HU:=hide (show wr.rangeAt b (r * 2) [u1,u2] from fun j u hj=>by
          match j,hj with
          | 0,hj=>rw [Nat.add_zero,hz1]; exact hj
          | 1,hj=>rw [hz2]; exact hj)
        have h1one:u1.oneCell' = true:=by obtain ⟨_,_,_,e8,_⟩:=(uh HR3).1; rw [e8]; rfl
        have h2one:u2.oneCell' = true:=by obtain ⟨_,_,_,e8,_⟩:=(uh HR3).2; rw [e8]; rfl
        have HONE:=hide (And.intro h1one h2one)
        obtain ⟨b4,c4,e4,hb40,hb4w,hb4g,hq1,hq2,cur4,hcur4⟩:=hBr.at_ (i:=i) hil
        rw [uh HN] at e4
        cases e4
        have HTH:=hide (show ∀ W,Kept [] wr W→W.there b (i * 2) 2 from fun W hW j hj=>by
          refine ⟨?_,frozen_of_row _ _ _ _ _ (hW.heap hcur4 (by simp))⟩
          match j,hj with
          | 0,_=>rw [Nat.add_zero,hW.cell hq1 (by simp)]; rfl
          | 1,_=>rw [hW.cell hq2 (by simp)]; rfl)
        have HBr:=hide hBr
        clear hr hBr hz1 hz2 hrd3 hu1 hu2 hq1 hq2 hcur3 hcur4 h1one h2one hb3w hb3g hb40 hb4w hb30 hc0
        have hd2:=(Kept.refl [] wr).drew
        refine lp_u19 (by kernel_rfl) (by kernel_rfl) rfl (fun W=>Kept [] wr W) hd2 ?_
        refine LinY.rd (.pointer (some ⟨g,0,none⟩)) (fun W hW=>by go_simp) (by simp only [Act.put,sa1,sa2,sa3]; rfl) ?_
        refine LinY.rd (.pointer (some ⟨g,0,none⟩)) (fun W hW=>by go_simp) (by simp only [Act.put,sa1,sa2,sa3]; rfl) ?_
        refine LinY.rd (.pointer (some ⟨g,0,none⟩)) (fun W hW=>by go_simp) (by simp only [Act.put,sa1,sa2,sa3]; rfl) ?_
        refine LinY.rd (.slice (some ⟨b,0,none⟩) n c) (fun W hW=>by have h9:=hW.cell (uh HC0) (by simp); go_simp) (by simp only [Act.put,sa1,sa2,sa3]; rfl) ?_
        refine LinY.rd (.int .i64 i) (fun W hW=>by go_simp) (by simp only [Act.put,sa1,sa2,sa3]; rfl) ?_
        refine LinY.rd (.pointer (some ⟨g,0,none⟩)) (fun W hW=>by go_simp) (by simp only [Act.put,sa1,sa2,sa3]; rfl) ?_
        refine LinY.rd (.pointer (some ⟨g,0,none⟩)) (fun W hW=>by go_simp) (by simp only [Act.put,sa1,sa2,sa3]; rfl) ?_
        refine LinY.rd (.pointer (some ⟨g,0,none⟩)) (fun W hW=>by go_simp) (by simp only [Act.put,sa1,sa2,sa3]; rfl) ?_
        refine LinY.rd (.slice (some ⟨b,0,none⟩) n c) (fun W hW=>by have h9:=hW.cell (uh HC0) (by simp); go_simp) (by simp only [Act.put,sa1,sa2,sa3]; rfl) ?_
        refine LinY.rd (.pointer (some ⟨g,0,none⟩)) (fun W hW=>by go_simp) (by simp only [Act.put,sa1,sa2,sa3]; rfl) ?_
        refine LinY.rd (.pointer (some ⟨g,0,none⟩)) (fun W hW=>by go_simp) (by simp only [Act.put,sa1,sa2,sa3]; rfl) ?_
        refine LinY.rd (.pointer (some ⟨g,0,none⟩)) (fun W hW=>by go_simp) (by simp only [Act.put,sa1,sa2,sa3]; rfl) ?_
        refine LinY.rd (.slice (some ⟨b,0,none⟩) n c) (fun W hW=>by have h9:=hW.cell (uh HC0) (by simp); go_simp) (by simp only [Act.put,sa1,sa2,sa3]; rfl) ?_
        refine LinY.rd (.int .i64 n) (fun W hW=>by go_simp) (by simp only [Act.put,sa1,sa2,sa3]; rfl) ?_
        refine LinY.rd (.int .i64 r) (fun W hW=>by have h9:=uh HWR; go_simp) (by simp only [Act.put,sa1,sa2,sa3]; rfl) ?_
        refine LinY.rd (.pointer (some ⟨b,r * 2,none⟩)) (fun W hW=>by go_simp) (by simp only [Act.put,sa1,sa2,sa3]; rfl) ?_
        refine LinY.ld 33 (.tmp 40) rfl b (r * 2) rfl [u1,u2] _ (fun W hW=>hW.rng (uh HU) (by simp)) Tryz.underlying33 rfl Tryz.size_pair (by simp only [Act.put,sa1,sa2,sa3]; rfl) ?_
        refine LinY.rd (.pointer (some ⟨b,i * 2,none⟩)) (fun W hW=>by go_simp) (by simp only [Act.put,sa1,sa2,sa3]; rfl) ?_
        obtain ⟨W4,hW4⟩:∃ W4,wr.drew = W4:=⟨_,rfl⟩
        rw [hW4] at hd2 ⊢
        refine LinY.fin (ChL.fin (wp_store_mid 33 (.tmp 42) (.tmp 41) rfl b (i * 2) #[u1,u2] rfl rfl (uh HTH W4 hd2) Tryz.size_pair (p_two1 (uh HONE).1 (uh HONE).2) ?_))
        have hB4:=(uh HBr).kept hd2
        have hs:=hB4.set2 hil (b:=b) (c:=c) (by rw [uh HN]) u1 u2 (bs.getD r ([],[])) (uh HR3).1 (uh HR3).2
        have HS5:=hide hs
        have hk45:=xa2e (L:=[b]) (w0:=W4) b (Or.inl (by simp)) [u1,u2] (i * 2) W4 (Kept.refl _ _)
        have HK5:=hide (((uh HKr).mono (M:=[b]) (by simp)).trans (hd2.mono (M:=[b]) (by simp)) (fun x hx=>Or.inl hx) |>.trans hk45 (fun x hx=>Or.inl hx))
        obtain ⟨W5,hW5⟩:∃ W5,W4.setCells b (i * 2) [u1,u2] = W5:=⟨_,rfl⟩
        have hW5':W4.setCells b (i * 2) #[u1,u2].toList = W5:=hW5
        rw [hW5] at HS5 HK5
        rw [hW5']
        clear hs hB4 hk45 hd2 hW4 hW5 hW5'
        go_upto_region 6 with fail
        have hc5:W5.cell? ⟨g,0,none⟩ = some (.slice (some ⟨b,0,none⟩) n c):=by rw [cell_of_row _ _ 0 _ _ _ (uh HS5).hd]; rfl
        have HC5:=hide hc5
        have hd3:=(Kept.refl [] W5).drew
        clear hc5
        refine lp_u15 (by kernel_rfl) (by kernel_rfl) rfl (fun W=>Kept [] W5 W) hd3 ?_
        refine LinY.rd (.pointer (some ⟨g,0,none⟩)) (fun W hW=>by go_simp) (by simp only [Act.put,sa1,sa2,sa3]; rfl) ?_
        refine LinY.rd (.pointer (some ⟨g,0,none⟩)) (fun W hW=>by go_simp) (by simp only [Act.put,sa1,sa2,sa3]; rfl) ?_
        refine LinY.rd (.pointer (some ⟨g,0,none⟩)) (fun W hW=>by go_simp) (by simp only [Act.put,sa1,sa2,sa3]; rfl) ?_
        refine LinY.rd (.pointer (some ⟨g,0,none⟩)) (fun W hW=>by go_simp) (by simp only [Act.put,sa1,sa2,sa3]; rfl) ?_
        refine LinY.rd (.slice (some ⟨b,0,none⟩) n c) (fun W hW=>by have h9:=hW.cell (uh HC5) (by simp); go_simp) (by simp only [Act.put,sa1,sa2,sa3]; rfl) ?_
        refine LinY.rd (.pointer (some ⟨g,0,none⟩)) (fun W hW=>by go_simp) (by simp only [Act.put,sa1,sa2,sa3]; rfl) ?_
        refine LinY.rd (.pointer (some ⟨g,0,none⟩)) (fun W hW=>by go_simp) (by simp only [Act.put,sa1,sa2,sa3]; rfl) ?_
        refine LinY.rd (.pointer (some ⟨g,0,none⟩)) (fun W hW=>by go_simp) (by simp only [Act.put,sa1,sa2,sa3]; rfl) ?_
        refine LinY.rd (.slice (some ⟨b,0,none⟩) n c) (fun W hW=>by have h9:=hW.cell (uh HC5) (by simp); go_simp) (by simp only [Act.put,sa1,sa2,sa3]; rfl) ?_
        refine LinY.rd (.int .i64 n) (fun W hW=>by go_simp) (by simp only [Act.put,sa1,sa2,sa3]; rfl) ?_
        refine LinY.rd (.int .i64 r) (fun W hW=>by have h9:=uh HWR; go_simp) (by simp only [Act.put,sa1,sa2,sa3]; rfl) ?_
        refine LinY.rd (.slice (some ⟨b,0,none⟩) r c) (fun W hW=>by go_simp) (by simp only [Act.put,sa1,sa2,sa3]; rfl) ?_
        obtain ⟨W6,hW6⟩:∃ W6,W5.drew = W6:=⟨_,rfl⟩
        rw [hW6] at hd3 ⊢
        have hS6:=(uh HS5).kept hd3
        refine LinY.fin (ChL.op (.pointer (some ⟨g,0,none⟩)) (by go_simp) hd3 (by simp only [Act.put,sa1,sa2,sa3]; rfl) ?_)
        refine ChL.op (.pointer (some ⟨g,0,none⟩)) (by go_simp) hd3 (by simp only [Act.put,sa1,sa2,sa3]; rfl) ?_
        refine (ChL.fin (xa3f 22 (.tmp 56) (.tmp 54) rfl g 0 88 #[.slice (some ⟨b,0,none⟩) n c] #[.slice (some ⟨b,0,none⟩) r c] (.slice (some ⟨b,0,none⟩) r c) rfl rfl hS6.hd (by simp) Tryz.size_prs2 rfl rfl ?_))
        have hg8:=setRow_heap _ _ _ #[.slice (some ⟨b,0,none⟩) r c] _ _ hS6.hd
        have hk8:=(Kept.refl [g] W6).setRow (g:=g) (Or.inl (by simp)) #[.slice (some ⟨b,0,none⟩) r c]
        have hk08:=hS6.kk.setRow (g:=g) (Or.inr hS6.g0) #[.slice (some ⟨b,0,none⟩) r c]
        have hll:(l.set i (u1,u2)).length = n:=by rw [List.length_set]; exact uh HN
        have hown:=hk8.owns (xb0s (m:=r) (by have h9:=hS6.own; exact h9) hll (by omega)) (fun y hy hm=>by
          have h1:b = y:=Option.some.inj hy
          rw [List.mem_singleton.1 hm] at h1
          exact hbg h1)
        have HX:=hide (show BkOk w0 (W6.setRow g #[.slice (some ⟨b,0,none⟩) r c]) g (.slice (some ⟨b,0,none⟩) r c) ((l.set i (u1,u2)).take r) (bun bs q) from by
          have hbu:bun bs q = (bs.set i (bs.getD r ([],[]))).take r:=by
            unfold bun
            rw [uh HBI,uh HLN,if_pos hlt,show n - 1 = r by omega]
          rw [hbu]
          refine ⟨hS6.g0,hg8,hown,by rw [List.length_take,List.length_take,hS6.len],fun j hj=>?_,hk08⟩
          rw [List.length_take] at hj
          have h9:=hS6.rd j (by omega)
          rw [List.getD_eq_getElem?_getD,List.getElem?_take,if_pos (by omega),← List.getD_eq_getElem?_getD]
          rw [List.getD_eq_getElem?_getD (l:=(bs.set i (bs.getD r ([],[]))).take r),List.getElem?_take,if_pos (by omega),← List.getD_eq_getElem?_getD]
          exact h9)
        have HKX:=hide (((uh HK5).trans (hd3.mono (M:=[b]) (by simp)) (fun x hx=>Or.inl hx)).mono (M:=[b,g]) (by intro x hx; simp at hx ⊢; exact Or.inl hx) |>.trans (hk8.mono (M:=[b,g]) (by intro x hx; simp at hx ⊢; exact Or.inr hx)) (fun x hx=>Or.inl hx))
        have HGS:=hide (show (getP q bs).isSome = true by rw [xa3a,uh HBI,if_pos (by rw [uh HLN]; exact hlt)]; rfl)
        clear hS6 hg8 hk8 hk08 hown hll hd3 hW6
        generalize W6.setRow g #[.slice (some ⟨b,0,none⟩) r c] = W7 at HX HKX ⊢
        go_wp2_with fail
        go_ret
        refine ⟨by rw [uh HGS]; rfl,?_⟩
        have hag:Agr (bkS g (.slice (some ⟨b,0,none⟩) n c)) w W7:=⟨(uh HKX).size,fun x hx hl=>(uh HKX).block x hl (fun hm=>by
          rcases List.mem_cons.1 hm with h1 | h1
          · exact hx.1 (by rw [h1]; rfl)
          · exact hx.2 (List.mem_singleton.1 h1))⟩
        first
          | exact ⟨_,_,uh HX,hag,rfl⟩
          | exact ⟨_,⟨_,uh HX⟩,hag,rfl⟩
      · rw [decide_eq_false hk]
        have HNE2:=hide (show ∀ j,j < i + 1→(bs.getD j ([],[])).1≠q from fun j hj=>by
          rcases Nat.lt_or_ge j i with g9 | g9
          · exact uh HNE j g9
          · rw [show j = i by omega]; exact hk)
        clear hk
        go_wp2_with fail
        refine ⟨⟨i + 1,by go_num,hlt,HNE2,HKr⟩,?_⟩
        simp [intOf]; omega
    · have hie:i = n:=by omega
      subst hie
      have hlt':¬ (i:Int) < i:=by omega
      have hall:=xb3l (q:=q) (L:=bs) (fun j hj=>uh HNE j (by rw [uh HLN] at hj; exact hj))
      have HBS:=hide (show bun bs q = bs by unfold bun; rw [hall,if_neg (by omega)])
      have HGS:=hide (show (getP q bs).isSome = false by rw [xa3a,hall,if_neg (by omega)]; rfl)
      have HBr:=hide ((uh HB).kept (uh HKr))
      clear hall
      go_wp2_with fail
      go_ret
      refine ⟨by rw [uh HGS]; rfl,?_⟩
      have hx:=uh HBr
      rw [← uh HBS] at hx
      first
        | exact ⟨_,_,hx,Agr.nil (uh HKr),rfl⟩
        | exact ⟨_,⟨_,hx⟩,Agr.nil (uh HKr),rfl⟩
structure En where
  k:Nat
  key:List Nat
  val:List Nat
deriving DecidableEq
def enC (e:En) (kv vv:Value):Array Value:=#[.int .u8 (e.k:Int),kv,vv]
structure OkE (w:World) (e:En) (kv vv:Value):Prop where
  k:e.k < 256
  key:Rd w kv e.key
  val:Rd w vv e.val
theorem OkE.old {w w':World} {e:En} {kv vv:Value} (h:OkE w e kv vv) (k:Kept [] w w'):OkE w' e kv vv:=⟨h.k,h.key.old k (by simp),h.val.old k (by simp)⟩
def RdN (w:World) (v:Value) (es:List En):Prop :=
  ∃ (ao:Option Addr) (len cap:Nat) (kv vv:Nat→Value),v = .slice ao len cap∧es.length = len∧len≤cap∧cap≤9223372036854775807∧(∀ i (h:i < es.length),OkE w es[i] (kv i) (vv i)) ∧
    (0 < len→∃ b off,ao = some ⟨b,off,none⟩∧∀ i (h:i < es.length),w.rangeAt b (off + i * 3) (enC es[i] (kv i) (vv i)).toList)
theorem xb0r {L:List Nat} {w w':World} {b o:Nat} {cs:List Value} (h:w.rangeAt b o cs) (k:Kept L w w') (hb:b∉L):w'.rangeAt b o cs:=fun j v hv=>k.cell (h j v hv) hb
theorem RdN.old {w w':World} {v:Value} {es:List En} (h:RdN w v es) (k:Kept [] w w'):RdN w' v es:=by
  obtain ⟨ao,len,cap,kv,vv,h1,h2,h3,h4,h5,h6⟩:=h
  refine ⟨ao,len,cap,kv,vv,h1,h2,h3,h4,fun i hi=>(h5 i hi).old k,fun hp=>?_⟩
  obtain ⟨b,off,e,hc⟩:=h6 hp
  exact ⟨b,off,e,fun i hi=>xb0r (hc i hi) k (by simp)⟩
theorem RdN.nil (w:World):RdN w (.slice none 0 0) []:=⟨none,0,0,fun _=>undef,fun _=>undef,rfl,rfl,Nat.le_refl _,by omega,fun i h=>by simp at h,fun h=>by omega⟩
theorem MapAt.monoB {S T:Nat→Prop} {k:Nat} {W:World} {v:Value} {L:Prs} (hs:∀ x,T x→S x) (h:MapAt T k W v L):MapAt S k W v L:=by
  obtain ⟨h1,h2,h3,h4,g,tv,h5,h6,h7,h8⟩:=h
  refine ⟨h1,h2,h3,h4,g,tv,h5,hs g h6,h7,?_⟩
  rcases h8 with h | h
  · exact Or.inl h
  · exact Or.inr (h.mono hs)
theorem MapAt.shrinkB {S:Nat→Prop} {k:Nat} {W:World} {v:Value} {L:Prs} (h:MapAt S k W v L):MapAt (lowS S W) k W v L:=by
  have hk:=h.ok
  obtain ⟨h1,h2,h3,h4,g,tv,h5,h6,h7,h8⟩:=h
  refine ⟨h1,h2,h3,h4,g,tv,h5,⟨h6,lt_of_block h7⟩,h7,?_⟩
  rcases h8 with h | h
  · exact Or.inl h
  · exact Or.inr (h.shrink (hsZ_ok hk))
theorem RdN.form {w:World} {v:Value} {es:List En} (h:RdN w v es):∃ ao n c,v = .slice ao n c∧es.length = n∧n≤c∧c≤9223372036854775807:=by
  obtain ⟨ao,n,c,_,_,h1,h2,h3,h4,_⟩:=h
  exact ⟨ao,n,c,h1,by omega,h3,h4⟩
theorem xb4i {a:Option Addr} {n c:Nat}:Tryz.prog.built 85 [(0,.int .u8 2),(1,.slice a n c)] = some #[.int .u8 2,.slice a n c,.slice none 0 0]:=by kernel_rfl
theorem xa8o {a a':Option Addr} {n c n' c':Nat}:Tryz.prog.built 85 [(0,.int .u8 1),(1,.slice a n c),(2,.slice a' n' c')] = some #[.int .u8 1,.slice a n c,.slice a' n' c']:=by kernel_rfl
theorem xb0p {o:Oper} {a:Act} (w:World) {x y:Operand} {X1 Y1:Option Addr} {X2 X3 Y2 Y3:Nat} (ho:o.op = .build 85 #[(0,.const (.int .u8 1)),(1,x),(2,y)]∧a.eval x = .slice X1 X2 X3∧a.eval y = .slice Y1 Y2 Y3):(execOp a.eval o).run Tryz.prog w = .ok (.value (.agg #[.int .u8 1,.slice X1 X2 X3,.slice Y1 Y2 Y3])) w:=by
  obtain ⟨h0,h1,h2⟩:=ho
  have hb:=run_build (P:=Tryz.prog) w 85 #[(0,.int .u8 1),(1,.slice X1 X2 X3),(2,.slice Y1 Y2 Y3)] _ xa8o
  have h3:a.eval (.const (.int .u8 1)) = .int .u8 1:=rfl
  unfold execOp
  simp only [h0,List.map_toArray,List.map_cons,List.map_nil,h1,h2,h3,Sem.run_bind,hb,Result.andThen_ok]
  rfl
theorem Tryz.size_en:(Tryz.prog.info? 85).map (·.size) = some 3:=by kernel_rfl
def fitE (e:En):En:=if e.k % 2 = 0 then ⟨2,e.key.take 64,[]⟩ else ⟨1,e.key.take 64,e.val.take 256⟩
set_option maxHeartbeats 4000000 in
theorem xa2m (kv:Value) (q:List Nat) (m:Nat) (w:World) (h:Rd w kv q) (hm:m≤1000) :
    Calls Tryz.prog 41 #[kv,.int .i64 m] w fun e w'=>∃ v',e = .returned v'∧(∀ w9,Rd w9 kv q→Rd w9 v' (q.take m))∧Kept [] w w':=by
  obtain ⟨ao,n,c,rfl,hn,hc,hcc,hz,_⟩:=id h
  clear h
  by_cases hlt:m < n
  · have h1:(m:Int) < n:=by omega
    have h2:(n:Int) > m:=h1
    have h3:m≤c:=by omega
    have h4:¬ c < m:=by omega
    have HT:=hide (fun (w9:World) (h9:Rd w9 (.slice ao n c) q)=>(Rd.take (n:=m) (by rw [hn]; exact h9) (by omega):Rd w9 (.slice ao m c) (q.take m)))
    clear hz hn
    go_enter Tryz.func41,Tryz.ntmps41
    go_wp2_with fail
    go_ret
    exact ⟨_,rfl,uh HT,by first | exact Kept.refl _ _ | exact (Kept.refl [] w).drew⟩
  · have h1:¬ (m:Int) < n:=by omega
    have h2:¬ (n:Int) > m:=h1
    have HT:=hide (fun (w9:World) (h9:Rd w9 (.slice ao n c) q)=>(by rw [List.take_of_length_le (by omega)]; exact h9:Rd w9 (.slice ao n c) (q.take m)))
    clear hz hn
    go_enter Tryz.func41,Tryz.ntmps41
    go_wp2_with fail
    go_ret
    exact ⟨_,rfl,uh HT,by first | exact Kept.refl _ _ | exact (Kept.refl [] w).drew⟩
set_option maxHeartbeats 4000000 in
theorem xb0x (x:Nat) (hx:x < 256) (w:World) :
    Calls Tryz.prog 39 #[.int .u8 x] w fun e w'=>e = .returned (.int .i64 ((1 + x % 32:Nat):Int))∧Kept [] w w':=by
  have h1:IntKind.i64.wrap (x:Int) = (x:Int):=by simp [IntKind.wrap,IntKind.signed,IntKind.bits]; omega
  have h2:Int.tmod (x:Int) 32 = ((x % 32:Nat):Int):=by rw [Int.tmod_eq_emod_of_nonneg (by omega)]; omega
  have h3:IntKind.i64.wrap ((x % 32:Nat):Int) = ((x % 32:Nat):Int):=by simp [IntKind.wrap,IntKind.signed,IntKind.bits]; omega
  have h4:IntKind.i64.wrap (1 + ((x % 32:Nat):Int)) = ((1 + x % 32:Nat):Int):=by simp [IntKind.wrap,IntKind.signed,IntKind.bits]; omega
  generalize x % 32 = y at h2 h3 h4 ⊢
  go_enter Tryz.func39,Tryz.ntmps39
  go_wp2_with fail
  go_ret
  exact ⟨by first | rfl | (rw [h4]; rfl) | (simp; omega),by first | exact Kept.refl _ _ | exact (Kept.refl [] w).drew⟩
set_option maxHeartbeats 8000000 in
theorem xb5d (e:En) (kv vv:Value) (w:World) (h:OkE w e kv vv) :
    Calls Tryz.prog 74 #[.agg #[.int .u8 (e.k:Int),kv,vv]] w fun x w'=>∃ kv' vv',x = .returned (.agg #[.int .u8 ((fitE e).k:Int),kv',vv'])∧(∀ w9,OkE w9 e kv vv→OkE w9 (fitE e) kv' vv')∧Kept [] w w':=by
  obtain ⟨k,key,val⟩:=e
  obtain ⟨hk,hkey,hval⟩:=h
  simp only at hk hkey hval
  obtain ⟨k1,k2,k3,rfl,_⟩:=id hkey
  obtain ⟨v1,v2,v3,rfl,_⟩:=id hval
  have HB:=hide (heap_alloc_new w (.cells #[.int .u8 (k:Int),.slice k1 k2 k3,.slice v1 v2 v3] 85))
  have hk1:=(Kept.refl [] w).alloc (.cells #[.int .u8 (k:Int),.slice k1 k2 k3,.slice v1 v2 v3] 85)
  obtain ⟨W1,hW1⟩:∃ W1,w.alloc (.cells #[.int .u8 (k:Int),.slice k1 k2 k3,.slice v1 v2 v3] 85) = W1:=⟨_,rfl⟩
  have hsz:W1.heap.size = w.heap.size + 1:=by rw [← hW1]; simp
  rw [hW1] at HB hk1
  have HZ:=hide (heap_alloc_new W1 (.cells #[.int .u8 0,.slice none 0 0,.slice none 0 0] 85))
  have hk2:=(Kept.refl [] W1).alloc (.cells #[.int .u8 0,.slice none 0 0,.slice none 0 0] 85)
  obtain ⟨W2,hW2⟩:∃ W2,W1.alloc (.cells #[.int .u8 0,.slice none 0 0,.slice none 0 0] 85) = W2:=⟨_,rfl⟩
  rw [hW2] at HZ hk2
  rw [hsz] at HZ
  have HK2:=hide (hk1.trans hk2 (by simp))
  have hb2:=hk2.heap (uh HB) (by simp)
  have HC0:=hide (show W2.cell? ⟨w.heap.size,0,none⟩ = some (.int .u8 (k:Int)) from cell_of_row _ _ 0 _ _ _ hb2)
  have HC1:=hide (show W2.cell? ⟨w.heap.size,1,none⟩ = some (.slice k1 k2 k3) from cell_of_row _ _ 1 _ _ _ hb2)
  have HC2:=hide (show W2.cell? ⟨w.heap.size,2,none⟩ = some (.slice v1 v2 v3) from cell_of_row _ _ 2 _ _ _ hb2)
  have HKY:=hide hkey
  have HVL:=hide hval
  have HSZ:=hide hsz
  clear hkey hval hk1 hk2 hb2 hsz
  have hm:Int.tmod (k:Int) 2 = ((k % 2:Nat):Int):=by rw [Int.tmod_eq_emod_of_nonneg (by omega)]; omega
  have hwr:IntKind.u8.wrap ((k % 2:Nat):Int) = ((k % 2:Nat):Int):=by simp [IntKind.wrap,IntKind.signed,IntKind.bits]; omega
  by_cases hz:k % 2 = 0
  · have hfe:fitE ⟨k,key,val⟩ = ⟨2,key.take 64,[]⟩:=by unfold fitE; rw [if_pos hz]
    rw [hfe]
    rw [hz] at hm hwr
    clear hfe
    go_enter Tryz.func74,Tryz.ntmps74
    go_upto_region 1 with fail
    try rw [hW1]
    try rw [hW2]
    rw [uh HSZ]
    clear hW1 hW2
    have c0:=uh HC0
    have c1:=uh HC1
    go_wp2_with fail
    refine Calls.mono (xa2m _ key 64 W2 ((uh HKY).old (uh HK2) (by simp)) (by decide)) ?_
    rintro x w3 ⟨v',rfl,ht,k3⟩
    have HT:=hide ht
    obtain ⟨t1,t2,t3,rfl,_⟩:=id (ht _ (uh HKY))
    have HZ3:=hide (k3.heap (uh HZ) (by simp))
    have HK3:=hide ((uh HK2).trans k3 (by simp))
    clear k3 c0 c1 ht
    go_wp2_with (first
      | (refine xa0h rfl 85 _ rfl #[.int .u8 2,.slice t1 t2 t3,.slice none 0 0] (by simp only [List.map_toArray,List.map_cons,List.map_nil]; exact xb4i) ?_)
      | (refine wpList_store_row rfl 85 (.tmp 2) (.tmp 10) rfl (w.heap.size + 1) #[.int .u8 2,.slice t1 t2 t3,.slice none 0 0] rfl rfl _ #[.int .u8 0,.slice none 0 0,.slice none 0 0] (uh HZ3) Tryz.size_en rfl (by simp [Value.oneCell']) ?_))
    refine bodyPost_ret (v:=.agg #[.int .u8 2,.slice t1 t2 t3,.slice none 0 0]) ?_ rfl ⟨_,_,rfl,fun w9 h9=>⟨by show (2:Nat) < 256; omega,uh HT w9 h9.key,Rd.nil _⟩,(uh HK3).setRow (g:=w.heap.size + 1) (Or.inr (by omega)) _⟩
    exact results_cell_row rfl _ _ (w.heap.size + 1) 85 #[.int .u8 2,.slice t1 t2 t3,.slice none 0 0] (0,0) _ rfl (setRow_heap _ _ _ _ _ _ (uh HZ3)) Tryz.underlying85 rfl Tryz.size_en
  · have hz1:k % 2 = 1:=by omega
    have hfe:fitE ⟨k,key,val⟩ = ⟨1,key.take 64,val.take 256⟩:=by unfold fitE; rw [if_neg hz]
    rw [hfe]
    rw [hz1] at hm hwr
    clear hfe
    go_enter Tryz.func74,Tryz.ntmps74
    go_upto_region 1 with fail
    try rw [hW1]
    try rw [hW2]
    rw [uh HSZ]
    clear hW1 hW2
    have c0:=uh HC0
    go_upto_region 3 with fail
    clear c0
    have hd2:=(Kept.refl [] W2).drew
    refine lp_f8 (by kernel_rfl) (by kernel_rfl) rfl (fun W=>Kept [] W2 W) hd2 ?_
    refine LinY.rd (.pointer (some ⟨w.heap.size,1,none⟩)) (fun W hW=>by go_simp) (by simp only [Act.put,sa1,sa2,sa3]; rfl) ?_
    refine LinY.rd (.slice k1 k2 k3) (fun W hW=>by have h9:=hW.cell (uh HC1) (by simp); go_simp) (by simp only [Act.put,sa1,sa2,sa3]; rfl) ?_
    refine LinY.rd (.pointer (some ⟨w.heap.size,2,none⟩)) (fun W hW=>by go_simp) (by simp only [Act.put,sa1,sa2,sa3]; rfl) ?_
    refine LinY.rd (.slice v1 v2 v3) (fun W hW=>by have h9:=hW.cell (uh HC2) (by simp); go_simp) (by simp only [Act.put,sa1,sa2,sa3]; rfl) ?_
    refine LinY.fin (ChL.call rfl Tryz.call41 [.slice k1 k2 k3,.int .i64 ((64:Nat):Int)] rfl (xa2m _ key 64 W2.drew ((uh HKY).old ((uh HK2).trans hd2 (by simp)) (by simp)) (by decide)) ?_)
    rintro x w3 ⟨v',rfl,ht,k3⟩
    have HT:=hide ht
    obtain ⟨t1,t2,t3,rfl,_⟩:=id (ht _ (uh HKY))
    have hk3:=hd2.trans k3 (by simp)
    refine ⟨_,rfl,hk3,?_⟩
    simp only [Act.put,sa1,sa2,sa3]
    refine ChL.call rfl Tryz.call41 [.slice v1 v2 v3,.int .i64 ((256:Nat):Int)] rfl (xa2m _ val 256 w3 ((uh HVL).old ((uh HK2).trans hk3 (by simp)) (by simp)) (by decide)) ?_
    rintro x w4 ⟨u',rfl,hu,k4⟩
    have HU:=hide hu
    obtain ⟨u1,u2,u3,rfl,_⟩:=id (hu _ (uh HVL))
    have hk4:=hk3.trans k4 (by simp)
    refine ⟨_,rfl,hk4,?_⟩
    simp only [Act.put,sa1,sa2,sa3]
    refine ChL.op (.agg #[.int .u8 1,.slice t1 t2 t3,.slice u1 u2 u3]) (xb0p w4 ⟨rfl,rfl,rfl⟩) hk4 (by simp only [Act.put,sa1,sa2,sa3]; rfl) ?_
    have hz4:=hk4.heap (uh HZ) (by simp)
    refine ChL.fin (wp_store_row 85 (.tmp 2) (.tmp 17) rfl (w.heap.size + 1) #[.int .u8 1,.slice t1 t2 t3,.slice u1 u2 u3] rfl rfl _ #[.int .u8 0,.slice none 0 0,.slice none 0 0] hz4 Tryz.size_en rfl (by simp [Value.oneCell']) ?_)
    have HZ4:=hide hz4
    have HK4:=hide ((uh HK2).trans hk4 (by simp))
    clear hz4 hk4 hk3 hd2 k4 k3 hu ht
    go_wp2_with fail
    refine bodyPost_ret (v:=.agg #[.int .u8 1,.slice t1 t2 t3,.slice u1 u2 u3]) ?_ rfl ⟨_,_,rfl,fun w9 h9=>⟨by show (1:Nat) < 256; omega,uh HT w9 h9.key,uh HU w9 h9.val⟩,(uh HK4).setRow (g:=w.heap.size + 1) (Or.inr (by omega)) _⟩
    exact results_cell_row rfl _ _ (w.heap.size + 1) 85 #[.int .u8 1,.slice t1 t2 t3,.slice u1 u2 u3] (0,0) _ rfl (setRow_heap _ _ _ _ _ _ (uh HZ4)) Tryz.underlying85 rfl Tryz.size_en
theorem MapAt.step {g:Nat} {sl sl':Value} {k:Nat} {w w':World} {v:Value} {L:Prs} (h:MapAt (bkS g sl) k w v L) (a:Agr (bkS g sl) w w') (hb:sl'.ownBlock = sl.ownBlock∨∃ y,sl'.ownBlock = some y∧w.heap.size≤y):MapAt (bkS g sl') k w' v L:=by
  have h1:=h.shrinkB
  have h2:MapAt (lowS (bkS g sl) w) k w' v L:=h1.agr ⟨a.1,fun x hx hl=>a.2 x hx.1 hl⟩
  refine h2.monoB (fun x hx=>⟨fun e=>?_,hx.1.2⟩)
  rcases hb with h9 | ⟨y,h9,h10⟩
  · rw [h9] at e; exact hx.1.1 e
  · rw [h9] at e
    have h11:y = x:=Option.some.inj e
    have:=hx.2
    omega
theorem BkOk.new {w0 w:World} {g:Nat} {sl:Value} {l:List VP} {bs:Prs} (h:BkOk w0 w g sl l bs):∀ y,w.heap.size≤y→bkS g sl y:=fun y hy=>⟨fun e=>by have:=(h.own.lt y e).2; omega,fun e=>by have:=lt_of_block h.hd; omega⟩
theorem xc1b (q:List Nat) (L:Prs):(delP q L).length≤L.length:=List.length_filter_le _ _
def stepE (k:Nat) (L:Prs) (e:En):Prs:=if e.k % 2 = 0 then delP (e.key.take 64) L else insP (hsZ k) (e.key.take 64) (e.val.take 256) L
def mapL (k:Nat) (es:List En):Prs:=es.foldl (stepE k) []
theorem xb4t (k:Nat) {es:List En} {i:Nat} (hi:i < es.length):mapL k (es.take (i + 1)) = stepE k (mapL k (es.take i)) es[i]:=by
  unfold mapL
  rw [List.take_succ_eq_append_getElem hi,List.foldl_append]; rfl
theorem xb5k (k:Nat) (L:Prs) (e:En):stepE k L e = if (fitE e).k = 2 then delP (fitE e).key L else insP (hsZ k) (fitE e).key (fitE e).val L:=by
  unfold stepE fitE
  by_cases h:e.k % 2 = 0
  · rw [if_pos h,if_pos h,if_pos rfl]
  · rw [if_neg h,if_neg h,if_neg (show ¬ (1:Nat) = 2 by decide)]
structure MpOk (w0 w:World) (k g gb:Nat) (sl:Value) (l:List VP) (bs L:Prs) (n:Nat):Prop where
  m:MapAt (bkS gb sl) k w (.pointer (some ⟨g,0,none⟩)) L
  b:BkOk w0 w gb sl l bs
  e:∀ q,getP q bs = getP q L
  u:Uq bs
  nb:bs.length≤n
  nL:L.length≤n
theorem MpOk.kept {w0 w w':World} {k g gb:Nat} {sl:Value} {l:List VP} {bs L:Prs} {n:Nat} (h:MpOk w0 w k g gb sl l bs L n) (kk:Kept [] w w'):MpOk w0 w' k g gb sl l bs L n:=⟨h.m.agr (Agr.nil kk),h.b.kept kk,h.e,h.u,h.nb,h.nL⟩
set_option maxHeartbeats 8000000 in
theorem xa7j (k:Nat) (hk:1≤k∧k≤32) (ev:Value) (es:List En) (w:World) (hE:RdN w ev es) (hl:es.length≤100000000) (hT:Tabs w) :
    Calls Tryz.prog 40 #[.int .i64 k,ev] w fun e w'=>∃ g gb,e = .returned (.tuple #[.pointer (some ⟨g,0,none⟩),.pointer (some ⟨gb,0,none⟩)])∧∃ sl l bs,MpOk w w' k g gb sl l bs (mapL k es) es.length:=by
  obtain ⟨ao,n,c,kvf,vvf,rfl,hn,hc1,hc2,hok,hcell⟩:=hE
  have HN:=hide hn
  rw [hn] at hl ⊢
  have HOK:=hide hok
  have HCE:=hide hcell
  have HT:=hide hT
  have hS9:∀ y,w.heap.size≤y→(fun _:Nat=>True) y:=fun _ _=>trivial
  have HNW:=hide (xb9v (fun _=>True) k w hk hS9)
  clear hn hok hcell hT hS9
  go_enter Tryz.func40,Tryz.ntmps40
  go_wp2_with fail
  refine Calls.mono (uh HNW) ?_
  clear HNW
  rintro e w1 ⟨m1,rfl,hm1,k1⟩
  obtain ⟨g1,rfl⟩:=xa9c hm1
  have HG:=hide (heap_alloc_new w1 (.cells #[.slice none 0 0] 88))
  have hk2:=(Kept.refl [] w1).alloc (.cells #[.slice none 0 0] 88)
  obtain ⟨W1,hW1⟩:∃ W1,w1.alloc (.cells #[.slice none 0 0] 88) = W1:=⟨_,rfl⟩
  rw [hW1] at HG hk2
  have HMP:=hide (show MpOk w W1 k g1 w1.heap.size (.slice none 0 0) [] [] [] 0 from ⟨((hm1.shrinkB).monoB (fun x hx=>⟨by simp [Value.ownBlock],by have:=hx.2; omega⟩)).agr (Agr.nil hk2),⟨k1.size,uh HG,World.ownsRow_nil _ _ _ _,rfl,fun i hi=>by simp at hi,k1.trans hk2 (by simp)⟩,fun q=>rfl,List.Pairwise.nil,Nat.le_refl _,Nat.le_refl _⟩)
  obtain ⟨gb,hgb⟩:∃ gb,w1.heap.size = gb:=⟨_,rfl⟩
  rw [hgb] at HMP
  clear hm1 k1 hk2 HG
  go_upto_region 5 with fail
  try rw [hW1]
  try rw [hgb]
  clear hW1 hgb
  go_wp2_with fail
  go_loopw [6,9] (fun t6 t9 wr=>∃ (i gx:Nat),t9 = .int .i64 i∧t6 = .pointer (some ⟨gx,0,none⟩)∧i≤n∧Hid (∃ sl l bs,MpOk w wr k gx gb sl l bs (mapL k (es.take i)) i)) (fun _ t _=>n - (intOf t).toNat)
  case atStart=>exact ⟨0,g1,rfl,rfl,Nat.zero_le _,hide ⟨_,_,_,uh HMP⟩⟩
  case round =>
    clear HMP
    obtain ⟨i,gx,rfl,rfl,hi,HX⟩:=hrel
    obtain ⟨sl,l,bs,hmp⟩:=uh HX
    have HM:=hide hmp
    clear HX hmp
    by_cases hlt:i < n
    · have hlt':(i:Int) < n:=by omega
      have hiL:i < es.length:=by have:=uh HN; omega
      have HSU:=hide (show mapL k (es.take (i + 1)) = _ by rw [xb4t k hiL,xb5k])
      obtain ⟨b,off,rfl,hcl⟩:=uh HCE (by omega)
      have hrg:=hcl i hiL
      have hoe:=uh HOK i hiL
      generalize mapL k (es.take i) = L at HM HSU
      generalize es[i] = en at hrg hoe HSU
      generalize kvf i = kv at hrg hoe
      generalize vvf i = vv at hrg hoe
      have HOE:=hide hoe
      obtain ⟨x1,x2,x3,rfl,_⟩:=id hoe.key
      obtain ⟨y1,y2,y3,rfl,_⟩:=id hoe.val
      have HRG:=hide (show wr.rangeAt b (off + i * 3) [.int .u8 (en.k:Int),.slice x1 x2 x3,.slice y1 y2 y3] from fun j u hj=>(uh HM).b.kk.cell (hrg j u hj) (by simp))
      clear hrg hoe hcl
      go_wp2_with (refine wpList_load_mid rfl 85 (.tmp 37) rfl b (off + i * 3) rfl [.int .u8 (en.k:Int),.slice x1 x2 x3,.slice y1 y2 y3] _ (uh HRG) Tryz.underlying85 rfl Tryz.size_en ?_)
      refine Calls.mono (xb5d en _ _ wr ((uh HOE).old (uh HM).b.kk)) ?_
      rintro e w2 ⟨kv',vv',rfl,hfit,k2⟩
      have hoe2:=hfit w (uh HOE)
      obtain ⟨a1,a2,a3,rfl,_⟩:=id hoe2.key
      obtain ⟨d1,d2,d3,rfl,_⟩:=id hoe2.val
      have HO2:=hide hoe2
      have HA:=hide (heap_alloc_new w2 (.cells #[.int .u8 ((fitE en).k:Int),.slice a1 a2 a3,.slice d1 d2 d3] 85))
      have hka:=(Kept.refl [] w2).alloc (.cells #[.int .u8 ((fitE en).k:Int),.slice a1 a2 a3,.slice d1 d2 d3] 85)
      have HM3:=hide ((uh HM).kept (k2.trans hka (by simp)))
      obtain ⟨w3,hw3⟩:∃ w3,w2.alloc (.cells #[.int .u8 ((fitE en).k:Int),.slice a1 a2 a3,.slice d1 d2 d3] 85) = w3:=⟨_,rfl⟩
      rw [hw3] at HA HM3
      have HQK:=hide (show (fitE en).key.length≤64 by unfold fitE; split <;> (rw [List.length_take]; omega))
      have HVK:=hide (show (fitE en).val.length≤256 by unfold fitE; split <;> simp <;> omega)
      have hkk:(fitE en).k = 2∨(fitE en).k = 1:=by unfold fitE; split <;> simp
      have HB3:=hide (uh HM3).b
      have hbl:=(uh HM3).nb
      have hLl:=(uh HM3).nL
      clear hfit k2 hka HM hoe2
      go_upto_region 9 with fail
      try rw [hw3]
      clear hw3
      have HC0:=hide (show w3.cell? ⟨w2.heap.size,0,none⟩ = some (.int .u8 ((fitE en).k:Int)) from cell_of_row _ _ 0 _ _ _ (uh HA))
      have HC1:=hide (show w3.cell? ⟨w2.heap.size,1,none⟩ = some (.slice a1 a2 a3) from cell_of_row _ _ 1 _ _ _ (uh HA))
      have HC2:=hide (show w3.cell? ⟨w2.heap.size,2,none⟩ = some (.slice d1 d2 d3) from cell_of_row _ _ 2 _ _ _ (uh HA))
      generalize fitE en = f at HO2 HQK HVK hkk HC0 HSU
      obtain ⟨fk,fkey,fval⟩:=f
      simp only at hkk
      have HKY:=hide (uh HO2).key
      have HVL:=hide (uh HO2).val
      simp only at HKY HVL HC0 HQK HVK
      clear HO2 HA
      rcases hkk with rfl | rfl
      · have HSV:=hide (show mapL k (es.take (i + 1)) = delP fkey L by rw [uh HSU,if_pos rfl])
        have hc0:=uh HC0
        have hc1:=uh HC1
        go_wp2_with fail
        refine Calls.mono (xb2r (bkS gb sl) k _ _ L fkey w3 (uh HM3).m ((uh HKY).old (uh HB3).kk (by simp)) (uh HQK) (uh HB3).new ((uh HT).k (uh HB3).kk)) ?_
        rintro e w4 ⟨m4,rfl,hm4,k4⟩
        obtain ⟨g4,rfl⟩:=xa9c hm4
        have HM4:=hide hm4
        have HB4:=hide ((uh HB3).kept k4)
        have HFN:=hide (show fnd fkey L = (getP fkey bs).isSome by rw [xb8x,(uh HM3).e])
        rw [uh HFN]
        have hc1':=k4.cell (uh HC1) (by simp)
        clear hm4 k4 hc0 hc1
        go_wp2_with fail
        refine Calls.mono (xb2p w gb sl l bs _ fkey w4 (uh HB4) (uh HKY) (by omega)) ?_
        rintro e w5 ⟨rfl,sl5,l5,hb5,ha5,ho5⟩
        have HM5:=hide (show MpOk w w5 k g4 gb sl5 l5 (bun bs fkey) (delP fkey L) (i + 1) from ⟨(uh HM4).step ha5 (Or.inl ho5),hb5,fun q'=>by rw [xb9k (uh HM3).u,(uh HM3).e,xb9t (uh HM3).m.srt],uq_bun (uh HM3).u _,Nat.le_trans (bun_le _ _) (by omega),Nat.le_trans (xc1b _ _) (by omega)⟩)
        clear hb5 ha5 ho5 hc1'
        generalize (getP fkey bs).isSome = FN
        cases FN
        all_goals
          go_wp2_with fail
          refine ⟨⟨i + 1,g4,by go_num,rfl,hlt,hide ⟨_,_,_,by rw [uh HSV]; exact uh HM5⟩⟩,?_⟩
          simp [intOf]; omega
      · have HSV:=hide (show mapL k (es.take (i + 1)) = insP (hsZ k) fkey fval L by rw [uh HSU,if_neg (show ¬ (1:Nat) = 2 by decide)])
        have hc0:=uh HC0
        have hc1:=uh HC1
        have hc2:=uh HC2
        go_wp2_with fail
        refine Calls.mono (xc0y (bkS gb sl) k _ _ _ L fkey fval w3 (uh HM3).m ((uh HKY).old (uh HB3).kk (by simp)) ((uh HVL).old (uh HB3).kk (by simp)) (uh HQK) (uh HVK) (by omega) (uh HB3).new ((uh HT).k (uh HB3).kk)) ?_
        rintro e w4 ⟨m4,rfl,hm4,k4⟩
        obtain ⟨g4,rfl⟩:=xa9c hm4
        have HM4:=hide hm4
        have HB4:=hide ((uh HB3).kept k4)
        have hc1':=k4.cell (uh HC1) (by simp)
        have hc2':=k4.cell (uh HC2) (by simp)
        clear hm4 k4 hc0 hc1 hc2
        go_wp2_with fail
        refine Calls.mono (xb9b w gb sl l bs _ _ fkey fval w4 (uh HB4) (uh HKY) (uh HVL) (by omega)) ?_
        rintro e w5 ⟨rfl,sl5,l5,hb5,ha5,ho5⟩
        have HM5:=hide (show MpOk w w5 k g4 gb sl5 l5 (bset bs fkey fval) (insP (hsZ k) fkey fval L) (i + 1) from ⟨(uh HM4).step ha5 ho5,hb5,fun q'=>by rw [xb7o,(uh HM3).e,xc1e (uh HM3).m.srt],xc0i (uh HM3).u _ _,Nat.le_trans (xb9r _ _ _) (by omega),Nat.le_trans (ins_le _ _ _ _) (by omega)⟩)
        clear hb5 ha5 ho5 hc1' hc2'
        go_wp2_with fail
        refine ⟨⟨i + 1,g4,by go_num,rfl,hlt,hide ⟨_,_,_,by rw [uh HSV]; exact uh HM5⟩⟩,?_⟩
        simp [intOf]; omega
    · have hie:i = n:=by omega
      subst hie
      have hlt':¬ (i:Int) < i:=by omega
      rw [List.take_of_length_le (by have:=uh HN; omega)] at HM
      go_wp2_with fail
      go_ret2
      exact ⟨gx,gb,rfl,sl,l,bs,uh HM⟩
theorem xa8t {k:Nat} (hk:1≤k∧k≤32) (L:Prs):Dg (rootP k L):=by
  unfold rootP
  split
  · rw [← xa7z hk]; exact xa1v _ _
  · exact nod_dg k 64 L
structure ProofH (k:Nat) (w:World) (q:List Nat) (L:Prs) (sv pv:Value) (ss:List Stp) (ps:Prs):Prop where
  s:RdS w sv ss
  p:RdK w pv ps
  pb:(pairB ps).length≤1000000000000
  sl:ss.length≤100000
  pl:ps.length≤1000000000000
  kl:∀ s∈ss,s.2.length≤1000000000
  e:rtE (k:Int) q ss ps = 0
  d:rtD (k:Int) q ss ps = rootP k L
  v:rtV (k:Int) q ss ps = getP q L
  ce:ckE (k:Int) (rootP k L) q ss ps = 0
  cv:ckV (k:Int) (rootP k L) q ss ps = getP q L
theorem ProofP.h {k:Nat} (hk:1≤k∧k≤32) {w:World} {q:List Nat} {L:Prs} {sv pv:Value} (h:ProofP k w q L sv pv) (hq:q.length≤64) (hs:Srt (hsZ k) L) (hf:Fit L) (hl:L.length≤100000000):∃ ss ps,ProofH k w q L sv pv ss ps:=by
  obtain ⟨m,h1,h2,h3⟩:=h
  have hm:=h3.le hk
  have hdl:=dn_len (H:=hsZ k) (q:=q) (L:=L) m
  have hfd:Fit (dnL (hsZ k) q L m):=hf.sub (fun x hx=>dn_sub m x hx)
  have hpb:=xa2p hfd
  exact ⟨_,_,h1,h2,by omega,by rw [xa5l]; omega,by omega,fun s hs=>by
    obtain ⟨i,_,rfl⟩:=List.mem_map.1 hs
    exact Nat.le_trans (xc0c _ _ _ _) (by decide),p_rtE hk hq h3 hs hf,p_rtD hk hq h3 hs hf,p_rtV hk hq h3 hs hf,p_ckE hk hq h3 hs hf,p_ckV hk hq h3 hs hf⟩
theorem ProofH.old {k:Nat} {w w':World} {q:List Nat} {L:Prs} {sv pv:Value} {ss:List Stp} {ps:Prs} (h:ProofH k w q L sv pv ss ps) (kk:Kept [] w w'):ProofH k w' q L sv pv ss ps:={ h with s:=h.s.old kk,p:=h.p.old kk }
theorem xb0u (z:Int) (ks:List Nat) (ss:List (Nat × List (List Nat))) (m:Nat):fitsB z ks (ss++[(0,[])]) m (ss.length + 1) = false:=by
  have h1:(ss++[((0:Nat),([]:List (List Nat)))]).getD ss.length (0,[]) = (0,[]):=by simp [List.getD_eq_getElem?_getD]
  unfold fitsB
  rw [h1]
  unfold fitS
  simp
theorem xb4b (z:Int) (ks:List Nat) (ss:List (Nat × List (List Nat))) (ps:List (List Nat × List Nat)):provB z ks (ss++[(0,[])]) ps = false:=by
  unfold provB
  rw [List.length_append,List.length_singleton,xb0u]
  simp
theorem xb2z (z:Int) (key:List Nat) (kn:List (List Nat)) (ss:List (Nat × List (List Nat))):hfE z key kn (ss++[(0,[])]) = hfE z key kn ss:=by
  have h1:(ss++[((0:Nat),([]:List (List Nat)))]).all (fun s=>s.2.all (formB z)) = ss.all (fun s=>s.2.all (formB z)):=by rw [List.all_append]; simp
  unfold hfE
  rw [h1]
theorem xb8z {z:Int} {key:List Nat} {ss:List (Nat × List (List Nat))} {ps:List (List Nat × List Nat)} (h:rtE z key ss ps = 0):rtE z key (ss++[(0,[])]) ps = 10:=by
  unfold rtE at h ⊢
  rw [xb4b,xb2z]
  by_cases h1:hfE z key [] ss = 0
  · rw [if_pos h1]; rfl
  · rw [if_neg h1] at h; exact absurd h h1
theorem xb1m {z:Int} {root key:List Nat} {ss:List (Nat × List (List Nat))} {ps:List (List Nat × List Nat)} (h:rtE z key ss ps = 0) (hc:ckE z root key ss ps = 0):ckE z root key (ss++[(0,[])]) ps = 10:=by
  unfold ckE at hc ⊢
  rw [xb2z,xb8z h]
  by_cases h1:hfE z key [root] ss = 0
  · rw [if_pos h1]; rfl
  · rw [if_neg h1] at hc; exact absurd hc h1
theorem xb8d {z:Int} {root key:List Nat} {ss:List (Nat × List (List Nat))} {ps:List (List Nat × List Nat)} (h:rtE z key ss ps = 0) (hc:ckE z root key ss ps = 0):ckV z root key (ss++[(0,[])]) ps = none:=by
  unfold ckV
  rw [xb1m h hc]
  rfl
theorem xb6p (k:Nat) (q:List Nat) (m:Nat):dnL (hsZ k) q [] m = []:=List.eq_nil_iff_forall_not_mem.2 (fun x hx=>by have h9:=dn_sub m x hx; simp at h9)
theorem xb8h {k:Nat} {q:List Nat} {m:Nat} (h:WayM k q [] m):m = 0:=by
  rcases Nat.eq_zero_or_pos m with h1 | h1
  · exact h1
  · have h2:=h.ns 0 h1
    rw [xb6p] at h2
    exact absurd h2 (by simp [sgl])
theorem xb9a (k:Nat):mapL k [] = []:=rfl
end
section
open Go Go.RowKit Go.BigFrame
theorem lp_a11 {P:Program} {Q:Exit→Act→World→Prop} {id:Nat} {o0 o1 o2 o3 o4 o5 o6 o7 o8 o9 o10 o11 o12:Oper} {a:Act} {w:World} (hm:P.follows .mixedOrders = true) (hb:linB #[o0,o1,o2,o3,o4,o5,o6,o7,o8,o9,o10,o11,o12] [0,1,3,4] [2,5] [6,7,8,9,10,11,12] = true) (hg:([o0,o1,o3,o4]++([o2,o5]++[o6,o7,o8,o9,o10,o11,o12])).all (fun o=>o.guard.isNone) = true) (S:World→Prop) (hS:S w.drew)
    (h:LinY P S (ChL P Q S (fun a w=>S w∧LinY P S (Q .normal) [o6,o7,o8,o9,o10,o11,o12] a w) [o2,o5]) [o0,o1,o3,o4] a w.drew):(Code.region id #[o0,o1,o2,o3,o4,o5,o6,o7,o8,o9,o10,o11,o12] true).wp P Q a w:=wp_lin (R:=[0,1,3,4]) (C:=[2,5]) (T:=[6,7,8,9,10,11,12]) (rs:=[o0,o1,o3,o4]) (cs:=[o2,o5]) (ts:=[o6,o7,o8,o9,o10,o11,o12]) hm hb rfl rfl rfl hg hS h
theorem lp_r17 {P:Program} {Q:Exit→Act→World→Prop} {id:Nat} {o0 o1 o2 o3 o4 o5 o6 o7 o8 o9 o10 o11 o12 o13 o14 o15 o16:Oper} {a:Act} {w:World} (hm:P.follows .mixedOrders = true) (hb:linB #[o0,o1,o2,o3,o4,o5,o6,o7,o8,o9,o10,o11,o12,o13,o14,o15,o16] [0,1,2,3,4,5,6,7,8,9,10,11,12,13,14,15,16] [] [] = true) (hg:([o0,o1,o2,o3,o4,o5,o6,o7,o8,o9,o10,o11,o12,o13,o14,o15,o16]++([]++[])).all (fun o=>o.guard.isNone) = true) (S:World→Prop) (hS:S w.drew)
    (h:LinY P S (ChL P Q S (Q .normal) []) [o0,o1,o2,o3,o4,o5,o6,o7,o8,o9,o10,o11,o12,o13,o14,o15,o16] a w.drew):(Code.region id #[o0,o1,o2,o3,o4,o5,o6,o7,o8,o9,o10,o11,o12,o13,o14,o15,o16] true).wp P Q a w:=xa0y (R:=[0,1,2,3,4,5,6,7,8,9,10,11,12,13,14,15,16]) (C:=[]) (rs:=[o0,o1,o2,o3,o4,o5,o6,o7,o8,o9,o10,o11,o12,o13,o14,o15,o16]) (cs:=[]) hm hb rfl rfl hg hS h
section
variable {P:Program} {Q:Exit→Act→World→Prop} {S:World→Prop} {R:Nat→World→World→Prop} {F:Nat→Value→World→Prop} {U:Nat→Option Nat}
structure DagI (O:Array Oper) (U:Nat→Option Nat) (D:List Nat) (F:Nat→Value→World→Prop) (S:World→Prop) (b:Act) (d:Array Bool) (a:Act) (w:World):Prop where
  s:S w
  defs:a.defers = b.defers
  size:a.tmps.size = b.tmps.size
  frame:∀ s,s∉D→a.tmps[s]? = b.tmps[s]?
  fact:∀ i s,D[i]? = some s→d.getD i false = true→(∀ k,U i = some k→d.getD k false = false)→F i (a.eval (.tmp s)) w
  clo:∀ i o,i < D.length→O[i]? = some o→d.getD i false = true→∀ e∈o.after,Region.binds .any e = true→d.getD e.on false = true
  dsize:d.size = O.size
  late:∀ j,D.length≤j→d.getD j false = false
def DagS (P:Program) (Q:Exit→Act→World→Prop) (D:List Nat) (F:Nat→Value→World→Prop) (S:World→Prop) (R:Nat→World→World→Prop) (b:Act) (i:Nat) (o:Oper):Prop :=
  ∀ a W,S W→(∀ s,s∉D→a.eval (.tmp s) = b.eval (.tmp s))→(∀ j s,D[j]? = some s→(o.after.any fun e=>Region.binds .any e && e.on == j) = true→F j (a.eval (.tmp s)) W) →
    ChL P Q S (fun a' W'=>∃ v,a' = a.put o.dst v∧R i W W'∧F i v W') [o] a W
def DagY (P:Program) (Q:Exit→Act→World→Prop) (D:List Nat) (F:Nat→Value→World→Prop) (S:World→Prop) (R:Nat→World→World→Prop) (b:Act):Nat→List Oper→Prop
  | _,[]=>True
  | i,o :: r=>DagS P Q D F S R b i o∧DagY P Q D F S R b (i + 1) r
theorem DagY.at_ {D:List Nat} {b:Act}:∀ (l:List Oper) (k i:Nat) (o:Oper),DagY P Q D F S R b k l→l[i]? = some o→DagS P Q D F S R b (k + i) o
  | [],_,_,_,_,h=>by simp at h
  | x :: l,k,0,o,hy,h=>by
    have:x = o:=by simpa using h
    subst this; exact hy.1
  | x :: l,k,i + 1,o,hy,h=>by
    have h2:=DagY.at_ l (k + 1) i o hy.2 (by simpa using h)
    rw [show k + (i + 1) = k + 1 + i by omega]; exact h2
theorem xa9p {l:Array Edge} {p:Edge→Bool} (h:l.any p = true):∃ e,e∈l∧p e = true:=by
  rw [← Array.any_toList,List.any_eq_true] at h
  obtain ⟨e,h1,h2⟩:=h
  exact ⟨e,by simpa using h1,h2⟩
theorem xb8b:∀ (D:List Nat) (i j:Nat) (hi:i < D.length) (hj:j < D.length),D.Nodup→D[i] = D[j]→i = j:=fun D i j hi hj hn he=>by
  have h1:=List.pairwise_iff_getElem.1 hn
  rcases Nat.lt_trichotomy i j with h | h | h
  · exact absurd he (h1 i j hi hj h)
  · exact h
  · exact absurd he.symm (h1 j i hj hi h)
def dagM (n m:Nat):Array Bool:=(List.replicate n true++List.replicate m false).toArray
def dagE (O:Array Oper) (i k:Nat):Bool:=match O[i]? with | some o=>o.after.any (fun e=>Region.binds .any e && e.on == k) | none=>false
def dagB (O:Array Oper) (U:Nat→Option Nat) (D:List Nat):Bool :=
  decide (D.length≤O.size) && (decide D.Nodup && ((List.range D.length).all (fun i=>match O[i]? with | some o=>decide (o.dst = D[i]?) && (o.guard.isNone && o.after.all (fun e=>!Region.binds .any e || decide (e.on < i))) | none=>false)
    && ((List.range D.length).all (fun i=>(match U i with | none=>true | some k=>decide (k < D.length)) && (List.range D.length).all (fun k=>!dagE O k i || decide (U i = none∨U i = some k)))
    && (List.range O.size).all (fun j=>decide (j < D.length) || (match O[j]? with | some o=>(List.range D.length).all (fun i=>o.after.any (fun e=>Region.binds .any e && e.on == i)) | none=>false)))))
theorem xa8l:∀ (n:Nat) (p:Nat→Bool),(∃ i,i < n∧p i = false)→∃ i,i < n∧p i = false∧∀ j,j < i→p j = true
  | 0,_,⟨_,h,_⟩=>absurd h (Nat.not_lt_zero _)
  | n + 1,p,⟨i,hi,hp⟩=>by
    by_cases h:∃ j,j < n∧p j = false
    · obtain ⟨j,h1,h2,h3⟩:=xa8l n p h
      exact ⟨j,by omega,h2,h3⟩
    · have hall:∀ j,j < n→p j = true:=fun j hj=>by
        cases hpj:p j with
        | true=>rfl
        | false=>exact absurd ⟨j,hj,hpj⟩ h
      have:i = n:=by
        by_cases e:i = n
        · exact e
        · have:=hall i (by omega); rw [hp] at this; cases this
      subst this
      exact ⟨i,by omega,hp,hall⟩
def dagN (d:Array Bool):Nat→Nat
  | 0=>0
  | n + 1=>dagN d n + (if d.getD n false = true then 0 else 1)
theorem xa9e (d:Array Bool):∀ n,dagN d n = 0→∀ i,i < n→d.getD i false = true
  | 0,_,_,h=>absurd h (Nat.not_lt_zero _)
  | n + 1,h,i,hi=>by
    unfold dagN at h
    by_cases e:d.getD n false = true
    · rw [if_pos e] at h
      by_cases e2:i = n
      · subst e2; exact e
      · exact xa9e d n (by omega) i (by omega)
    · rw [if_neg e] at h; omega
theorem xb1t (d:Array Bool):∀ n k,dagN d n = k + 1→∃ i,i < n∧d.getD i false = false
  | 0,k,h=>by simp [dagN] at h
  | n + 1,k,h=>by
    unfold dagN at h
    by_cases e:d.getD n false = true
    · rw [if_pos e] at h
      obtain ⟨i,h1,h2⟩:=xb1t d n k (by omega)
      exact ⟨i,by omega,h2⟩
    · exact ⟨n,by omega,by simpa using e⟩
theorem xa3d (d:Array Bool) (i j:Nat) (hi:i < d.size):(d.setIfInBounds i true).getD j false = (if j = i then true else d.getD j false):=by
  by_cases e:j = i
  · subst e; simp [Array.getD,hi]
  · rw [if_neg e]
    simp only [Array.getD_eq_getD_getElem?,Array.getElem?_setIfInBounds_ne (fun h:i = j=>e h.symm)]
theorem xb2h (d:Array Bool) (i:Nat) (hs:i < d.size) (hf:d.getD i false = false):∀ n,dagN (d.setIfInBounds i true) n + (if i < n then 1 else 0) = dagN d n
  | 0=>by simp [dagN]
  | n + 1=>by
    have ih:=xb2h d i hs hf n
    unfold dagN
    rw [xa3d d i n hs]
    by_cases e:n = i
    · subst e
      rw [if_pos rfl,if_pos rfl,hf,if_pos (by omega:n < n + 1)]
      rw [if_neg (by omega:¬ n < n)] at ih
      simp; omega
    · rw [if_neg e]
      by_cases e2:i < n
      · rw [if_pos e2] at ih; rw [if_pos (by omega:i < n + 1)]; omega
      · rw [if_neg e2] at ih; rw [if_neg (by omega:¬ i < n + 1)]; omega
theorem xb8w {O:Array Oper} {D:List Nat} {d:Array Bool} (hs:d.size = O.size) (hle:D.length≤O.size) (h1:∀ i,i < D.length→d.getD i false = true) (h2:∀ j,D.length≤j→d.getD j false = false):d = dagM D.length (O.size - D.length):=by
  apply Array.ext
  · simp [dagM]; omega
  · intro i hi hi2
    have hg:d.getD i false = d[i]:=by simp [Array.getD,hi]
    by_cases e:i < D.length
    · rw [← hg,h1 i e]; simp [dagM,List.getElem_append,e]
    · rw [← hg,h2 i (by omega)]; simp [dagM,List.getElem_append,e]
theorem xa6r {a:Act} {s:Nat} {v:Value} (h:s < a.tmps.size):(a.put (some s) v).eval (.tmp s) = v:=by
  show (a.tmps.setIfInBounds s v).getD s undef = v
  simp [Array.getD,h]
theorem xb0i {a:Act} {s t:Nat} {v:Value} (h:t≠s):(a.put (some s) v).eval (.tmp t) = a.eval (.tmp t):=by
  show (a.tmps.setIfInBounds s v).getD t undef = a.tmps.getD t undef
  simp only [Array.getD_eq_getD_getElem?,Array.getElem?_setIfInBounds_ne (fun e:s = t=>h e.symm)]
theorem xb7y {O:Array Oper} {D:List Nat} {b:Act} (hb:dagB O U D = true) (hsz:∀ s∈D,s < b.tmps.size) (hst:∀ k i v W W',k < D.length→i < D.length→k≠i→U i≠some k→dagE O i k = false→(∀ j,U i = some j→dagE O k j = false)→R k W W'→F i v W→F i v W')
    (hY:∀ i o,i < D.length→O[i]? = some o→DagS P Q D F S R b i o) {m:Nat}
    (hF:∀ a w,DagI O U D F S b (dagM D.length (O.size - D.length)) a w→wpAnyH P .any O (NoPanic Q) (fun _=>True) m (dagM D.length (O.size - D.length)) a w) :
    ∀ (k:Nat) (d:Array Bool) (a:Act) (w:World),DagI O U D F S b d a w→dagN d D.length = k→wpAnyH P .any O (NoPanic Q) (fun _=>True) (k + m) d a w:=by
  unfold dagB at hb
  simp only [Bool.and_eq_true,decide_eq_true_eq,List.all_eq_true,List.mem_range] at hb
  obtain ⟨hle,hnd,h1,hU,h2⟩:=hb
  have hdst:∀ i o,i < D.length→O[i]? = some o→o.dst = D[i]?∧o.guard = none∧∀ e∈o.after,Region.binds .any e = true→e.on < i:=fun i o hi ho=>by
    have h3:=h1 i hi
    rw [ho] at h3
    simp only [Bool.and_eq_true,decide_eq_true_eq,Array.all_eq_true_iff_forall_mem] at h3
    refine ⟨h3.1,by simpa using h3.2.1,fun e he hbd=>?_⟩
    have h4:=h3.2.2 e he
    rw [hbd] at h4
    simpa using h4
  intro k
  induction k with
  | zero =>
    intro d a w hI hk
    have hd:=xb8w hI.dsize hle (xa9e d _ hk) hI.late
    subst hd
    rw [Nat.zero_add]
    exact hF a w hI
  | succ k ih =>
    intro d a w hI hk
    obtain ⟨i0,hi0,hf0,hbef⟩:=xa8l D.length (fun i=>d.getD i false) (xb1t d _ k hk)
    have hgd:∀ i,i < O.size→d.getD i true = d.getD i false:=fun i hi=>by simp [Array.getD,hI.dsize,hi]
    have hr0:i0∈Region.ready .any O d:=by
      refine mem_ready.2 ⟨by rw [hgd i0 (by omega)]; exact hf0,O[i0]'(by omega),Array.getElem?_eq_getElem (by omega),fun e he hbd=>?_⟩
      exact hbef _ ((hdst i0 _ hi0 (Array.getElem?_eq_getElem (by omega))).2.2 e he hbd)
    rw [show k + 1 + m = (k + m) + 1 by omega]
    refine wpAnyH_all (rs:=Region.ready .any O d) rfl (fun e=>by rw [e] at hr0; cases hr0) (fun i hi=>?_)
    obtain ⟨hun,o,ho,hed⟩:=mem_ready.1 hi
    have hio:i < O.size:=(Array.getElem?_eq_some_iff.1 ho).1
    have hin:i < D.length:=by
      rcases Nat.lt_or_ge i D.length with h | h
      · exact h
      · exfalso
        have h3:=h2 i hio
        rw [ho] at h3
        simp only [Bool.or_eq_true,decide_eq_true_eq,List.all_eq_true,List.mem_range] at h3
        rcases h3 with h3 | h3
        · omega
        · have h4:=h3 i0 hi0
          obtain ⟨e,he,h5⟩:=xa9p h4
          simp only [Bool.and_eq_true,beq_iff_eq] at h5
          have:=hed e he h5.1
          rw [h5.2] at this
          have h6:d.getD i0 false = false:=hf0
          rw [h6] at this; cases this
    have hun2:d.getD i false = false:=by rw [← hgd i hio]; exact hun
    obtain ⟨hds,hg,_⟩:=hdst i o hin ho
    have hw:∀ y,Region.wanted o y = true:=fun y=>by unfold Region.wanted; rw [hg]
    have hsi:D[i]? = some D[i]:=List.getElem?_eq_getElem hin
    have hsm:D[i]∈D:=List.getElem_mem _
    have hstep:=hY i o hin ho a w hI.s (fun s hs=>by show a.tmps.getD s undef = b.tmps.getD s undef; simp only [Array.getD_eq_getD_getElem?,hI.frame s hs]) (fun j s hj hany=>by
      obtain ⟨e,he,h5⟩:=xa9p hany
      simp only [Bool.and_eq_true,beq_iff_eq] at h5
      have:=hed e he h5.1
      rw [h5.2] at this
      refine hI.fact j s hj this (fun k hk=>?_)
      have hjl:j < D.length:=(List.getElem?_eq_some_iff.1 hj).1
      have h6:=(hU j hjl).2 i hin
      have h7:dagE O i j = true:=by unfold dagE; rw [ho]; exact hany
      rw [h7] at h6
      simp only [Bool.not_true,Bool.false_or,decide_eq_true_eq] at h6
      rcases h6 with h6 | h6
      · rw [h6] at hk; cases hk
      · rw [h6] at hk; injection hk with hk; subst hk; exact hun2)
    unfold wpOp
    simp only [ho]
    rw [if_pos (hw _)]
    refine Or.inl (Oper.wp_mono (fun a' w' h2=>⟨trivial,?_⟩) hstep)
    obtain ⟨hS',v,rfl,hR,hFi⟩:=h2
    rw [hds,hsi]
    have hlt:D[i] < a.tmps.size:=by rw [hI.size]; exact hsz _ hsm
    refine ih _ _ w' ⟨hS',hI.defs,?_,?_,?_,?_,?_,?_⟩ ?_
    · show (a.tmps.setIfInBounds _ v).size = _
      rw [Array.size_setIfInBounds]; exact hI.size
    · intro s hs
      show (a.tmps.setIfInBounds _ v)[s]? = _
      rw [Array.getElem?_setIfInBounds_ne (fun e=>hs (by rw [← e]; exact hsm))]
      exact hI.frame s hs
    · intro j s hj hdj hlive
      rw [xa3d d i j (by rw [hI.dsize]; exact hio)] at hdj
      by_cases e:j = i
      · subst e
        have:D[j] = s:=by rw [hsi] at hj; injection hj
        subst this
        rw [xa6r hlt]; exact hFi
      · rw [if_neg e] at hdj
        have hne:s≠D[i]:=fun e2=>by
          have hjl:j < D.length:=(List.getElem?_eq_some_iff.1 hj).1
          have h7:D[j] = s:=by rw [List.getElem?_eq_getElem hjl] at hj; injection hj
          rw [← h7] at e2
          exact e (xb8b D j i hjl hin hnd e2)
        rw [xb0i hne]
        have hjl:j < D.length:=(List.getElem?_eq_some_iff.1 hj).1
        refine hst i j _ _ _ hin hjl (fun e2=>e e2.symm) (fun e2=>?_) ?_ (fun k2 hk2=>?_) hR (hI.fact j s hj hdj (fun k hk=>?_))
        · have:=hlive i e2
          rw [xa3d d i i (by rw [hI.dsize]; exact hio),if_pos rfl] at this; cases this
        · cases he:dagE O j i with
          | false=>rfl
          | true =>
            unfold dagE at he
            have hoj:O[j]? = some (O[j]'(by omega)):=Array.getElem?_eq_getElem (by omega)
            rw [hoj] at he
            obtain ⟨e3,he3,h5⟩:=xa9p he
            simp only [Bool.and_eq_true,beq_iff_eq] at h5
            have:=hI.clo j _ hjl hoj hdj e3 he3 h5.1
            rw [h5.2,hun2] at this; cases this
        · cases he:dagE O i k2 with
          | false=>rfl
          | true =>
            unfold dagE at he
            rw [ho] at he
            obtain ⟨e3,he3,h5⟩:=xa9p he
            simp only [Bool.and_eq_true,beq_iff_eq] at h5
            have h8:=hed e3 he3 h5.1
            have h9:=hlive k2 hk2
            rw [h5.2] at h8
            rw [xa3d d i k2 (by rw [hI.dsize]; exact hio)] at h9
            by_cases e4:k2 = i
            · rw [if_pos e4] at h9; cases h9
            · rw [if_neg e4,h8] at h9; cases h9
        · have:=hlive k hk
          rw [xa3d d i k (by rw [hI.dsize]; exact hio)] at this
          by_cases e4:k = i
          · rw [if_pos e4] at this; cases this
          · rw [if_neg e4] at this; exact this
    · intro j o' hj hoj hdj e3 he3 hbd
      rw [xa3d d i e3.on (by rw [hI.dsize]; exact hio)]
      by_cases e4:e3.on = i
      · rw [if_pos e4]
      · rw [if_neg e4]
        rw [xa3d d i j (by rw [hI.dsize]; exact hio)] at hdj
        by_cases e5:j = i
        · subst e5; rw [ho] at hoj; injection hoj with hoj; subst hoj; exact hed e3 he3 hbd
        · rw [if_neg e5] at hdj; exact hI.clo j o' hj hoj hdj e3 he3 hbd
    · rw [Array.size_setIfInBounds]; exact hI.dsize
    · intro j hj
      rw [xa3d d i j (by rw [hI.dsize]; exact hio),if_neg (by omega)]
      exact hI.late j hj
    · have:=xb2h d i (by rw [hI.dsize]; exact hio) hun2 D.length
      rw [if_pos hin] at this
      omega
theorem xa7t (g:Nat→Value):∀ (D:List Nat) (b:Act),(D.foldl (fun a s=>a.put (some s) (g s)) b).defers = b.defers∧(D.foldl (fun a s=>a.put (some s) (g s)) b).tmps.size = b.tmps.size∧∀ s,(D.foldl (fun a s=>a.put (some s) (g s)) b).tmps[s]? = if s∈D∧s < b.tmps.size then some (g s) else b.tmps[s]?
  | [],b=>⟨rfl,rfl,fun s=>by simp⟩
  | x :: D,b=>by
    obtain ⟨h1,h2,h3⟩:=xa7t g D (b.put (some x) (g x))
    have hz:(b.put (some x) (g x)).tmps.size = b.tmps.size:=Array.size_setIfInBounds ..
    refine ⟨h1,h2.trans hz,fun s=>?_⟩
    rw [List.foldl_cons,h3 s,hz]
    by_cases e:s∈D∧s < b.tmps.size
    · rw [if_pos e,if_pos ⟨List.mem_cons_of_mem _ e.1,e.2⟩]
    · rw [if_neg e]
      show (b.tmps.setIfInBounds x (g x))[s]? = _
      by_cases ex:x = s
      · subst ex
        by_cases hl:x < b.tmps.size
        · rw [if_pos ⟨List.mem_cons_self,hl⟩]; simp [hl]
        · rw [if_neg (fun h=>hl h.2)]; simp [hl]
      · rw [Array.getElem?_setIfInBounds_ne ex,if_neg (fun h=>?_)]
        rcases List.mem_cons.1 h.1 with e2 | e2
        · exact ex e2.symm
        · exact e ⟨e2,h.2⟩
theorem xa3b (g:Nat→Value) (D:List Nat) (b:Act) (hsz:D.all (fun s=>decide (s < b.tmps.size)) = true) (s:Nat) (hs:s∈D):(D.foldl (fun a s=>a.put (some s) (g s)) b).eval (.tmp s) = g s:=by
  have hl:s < b.tmps.size:=by simpa using List.all_eq_true.1 hsz s hs
  have h:=(xa7t g D b).2.2 s
  rw [if_pos ⟨hs,hl⟩] at h
  show (D.foldl (fun a s=>a.put (some s) (g s)) b).tmps.getD s undef = _
  rw [Array.getD_eq_getD_getElem?,h]; rfl
theorem DagI.form {O:Array Oper} {D:List Nat} {b:Act} {a:Act} {w:World} {d:Array Bool} (hsz:∀ s∈D,s < b.tmps.size) (h:DagI O U D F S b d a w):a = D.foldl (fun x s=>x.put (some s) (a.eval (.tmp s))) b:=by
  obtain ⟨h1,h2,h3⟩:=xa7t (fun s=>a.eval (.tmp s)) D b
  obtain ⟨at_,ad⟩:=a
  have e1:(D.foldl (fun x s=>x.put (some s) (Act.eval ⟨at_,ad⟩ (.tmp s))) b).defers = ad:=by rw [h1]; exact h.defs.symm
  have e2:(D.foldl (fun x s=>x.put (some s) (Act.eval ⟨at_,ad⟩ (.tmp s))) b).tmps = at_:=by
    apply Array.ext_getElem?
    intro s
    rw [h3 s]
    by_cases e:s∈D∧s < b.tmps.size
    · rw [if_pos e]
      have hl:s < at_.size:=by have:=h.size; simp only at this; omega
      show some (at_.getD s undef) = _
      simp [Array.getD,hl]
    · rw [if_neg e]
      by_cases e2:s∈D
      · exact absurd ⟨e2,hsz s e2⟩ e
      · exact (h.frame s e2).symm
  generalize D.foldl (fun x s=>x.put (some s) (Act.eval ⟨at_,ad⟩ (.tmp s))) b = c at e1 e2
  obtain ⟨ct,cd⟩:=c
  simp only at e1 e2
  rw [e1,e2]
def dagBT (O:Array Oper) (U:Nat→Option Nat) (D:List Nat):Bool:=dagB O U D && (decide (O.size = D.length + 1) && (decide (Region.ready .any O (dagM D.length 1) = [D.length]) && decide (Region.ready .any O ((dagM D.length 1).setIfInBounds D.length true) = [])))
theorem xb9x {id:Nat} {O:Array Oper} {a:Act} {w:World} {D:List Nat} {os:List Oper} {ot:Oper} (hm:P.follows .mixedOrders = true) (U:Nat→Option Nat) (hb:dagBT O U D = true) (ho:O.toList = os++[ot]) (hol:os.length = D.length) (hgt:ot.guard = none) (hsz:D.all (fun s=>decide (s < a.tmps.size)) = true)
    (F:Nat→Value→World→Prop) (S:World→Prop) (R:Nat→World→World→Prop) (hst:∀ k i v W W',k < D.length→i < D.length→k≠i→U i≠some k→dagE O i k = false→(∀ j,U i = some j→dagE O k j = false)→R k W W'→F i v W→F i v W') (hS:S w.drew) (hY:DagY P Q D F S R a 0 os)
    (hend:∀ (g:Nat→Value) (W:World),S W→(∀ i s,D[i]? = some s→U i = none→F i (g s) W)→ChL P Q (fun _=>True) (Q .normal) [ot] (D.foldl (fun x s=>x.put (some s) (g s)) a) W):(Code.region id O true).wp P Q a w:=by
  unfold dagBT at hb
  simp only [Bool.and_eq_true,decide_eq_true_eq] at hb
  obtain ⟨b0,b1,b2,b3⟩:=hb
  have hszm:∀ s∈D,s < a.tmps.size:=fun s hs=>by simpa using List.all_eq_true.1 hsz s hs
  have hat:∀ i,O[i]? = (os++[ot])[i]?:=fun i=>by rw [← ho,Array.getElem?_toList]
  refine wp_region_noPanic ?_
  refine wp_region_held_drew (S:=fun _=>True) hm trivial (fun _=>?_)
  have e1:O.size - D.length = 1:=by omega
  have hc:=xb7y (P:=P) (Q:=Q) (S:=S) (R:=R) (F:=F) (U:=U) (b:=a) (m:=1) b0 hszm hst (fun i o hi hoi=>by
    rw [hat i,List.getElem?_append_left (by omega)] at hoi
    have:=DagY.at_ os 0 i o hY hoi
    rw [Nat.zero_add] at this; exact this) (fun a2 w2 hI=>?_) D.length (Array.replicate O.size false) a w.drew ⟨hS,rfl,rfl,fun _ _=>rfl,fun i s _ h=>?_,fun i o _ _ h=>?_,by simp,fun j _=>?_⟩ ?_
  · rw [b1]; rw [b1] at hc; exact hc
  · have hfm:a2 = D.foldl (fun x s=>x.put (some s) (a2.eval (.tmp s))) a:=hI.form hszm
    have hfac:∀ i s,D[i]? = some s→U i = none→F i (a2.eval (.tmp s)) w2:=fun i s hi hu=>hI.fact i s hi (by
      have hil:i < D.length:=(List.getElem?_eq_some_iff.1 hi).1
      simp [dagM,Array.getD,List.getElem_append,hil]; omega) (fun k hk=>by rw [hu] at hk; cases hk)
    have hlast:=hend (fun s=>a2.eval (.tmp s)) w2 hI.s hfac
    rw [← hfm] at hlast
    rw [e1]
    have hoo:O[D.length]? = some ot:=by rw [hat,← hol]; simp
    have hw:∀ y,Region.wanted ot y = true:=fun y=>by unfold Region.wanted; rw [hgt]
    refine wpAnyH_all (rs:=[D.length]) b2 (by simp) (fun j hj=>?_)
    rw [List.mem_singleton] at hj
    subst hj
    unfold wpOp
    simp only [hoo]
    rw [if_pos (hw _)]
    exact Or.inl (Oper.wp_mono (fun a' w' h9=>⟨trivial,b3,NoPanic.normal h9.2⟩) hlast)
  · exfalso
    have:(Array.replicate O.size false).getD i false = false:=by
      by_cases h9:i < O.size
      · simp [Array.getD,h9]
      · simp [Array.getD,h9]
    rw [this] at h; cases h
  · exfalso
    have:(Array.replicate O.size false).getD i false = false:=by
      by_cases h9:i < O.size
      · simp [Array.getD,h9]
      · simp [Array.getD,h9]
    rw [this] at h; cases h
  · by_cases h9:j < O.size
    · simp [Array.getD,h9]
    · simp [Array.getD,h9]
  · have:∀ n,dagN (Array.replicate O.size false) n = n:=by
      intro n
      induction n with
      | zero=>rfl
      | succ n ih =>
        unfold dagN
        rw [ih]
        have:(Array.replicate O.size false).getD n false = false:=by
          by_cases h9:n < O.size
          · simp [Array.getD,h9]
          · simp [Array.getD,h9]
        rw [this]; simp
    exact this _
end
end
section
open Go.RowKit Go.BigFrame
def sqW (ss:List Stp) (kv:Nat→Value):List (List Value):=(List.range ss.length).map fun i=>[.int .u16 ((ss.getD i (0,[])).1:Int),kv i]
theorem xa2a (ss:List Stp) (kv:Nat→Value):(sqW ss kv).length = ss.length:=by simp [sqW]
theorem xb6j (ss:List Stp) (kv:Nat→Value):∀ r∈sqW ss kv,r.length = 2:=fun r hr=>by
  obtain ⟨i,_,rfl⟩:=List.mem_map.1 hr; rfl
theorem sqW_at (ss:List Stp) (kv:Nat→Value) (i:Nat) (hi:i < (sqW ss kv).length):(sqW ss kv)[i] = [.int .u16 ((ss.getD i (0,[])).1:Int),kv i]:=by simp [sqW]
theorem xb8y {w:World} {v:Value} {ss:List Stp} (h:RdS w v ss):∃ kv,RdC 2 w v (sqW ss kv)∧∀ i,i < ss.length→(ss.getD i (0,[])).1 < 65536∧RdD w (kv i) (ss.getD i (0,[])).2:=by
  obtain ⟨ao,len,cap,vs,rfl,h2,h4,h5,h6,h7⟩:=h
  refine ⟨fun i=>vs.getD i undef,⟨ao,len,cap,rfl,by rw [xa2a,h2],h4,h5,fun hp=>?_⟩,fun i hi=>h6 i (by omega)⟩
  obtain ⟨b,off,e,hc⟩:=h7 hp
  refine ⟨b,off,e,fun i hi j u hu=>?_⟩
  rw [sqW_at] at hu
  rw [xa2a] at hi
  match j,hu with
  | 0,hu=>injection hu with hu; subst hu; exact (hc i (by omega)).1
  | 1,hu=>injection hu with hu; subst hu; exact (hc i (by omega)).2
theorem rdS_of {w:World} {v:Value} {ss:List Stp} {kv:Nat→Value} (h:RdC 2 w v (sqW ss kv)) (hk:∀ i,i < ss.length→(ss.getD i (0,[])).1 < 65536∧RdD w (kv i) (ss.getD i (0,[])).2):RdS w v ss:=by
  obtain ⟨ao,len,cap,rfl,h1,h2,h3,h4⟩:=h
  rw [xa2a] at h1
  have hv:∀ i,i < ss.length→((List.range ss.length).map kv).getD i undef = kv i:=fun i hi=>by simp [List.getD_eq_getElem?_getD,hi]
  refine ⟨ao,len,cap,(List.range ss.length).map kv,rfl,h1,h2,h3,fun i hi=>⟨(hk i (by omega)).1,by rw [hv i (by omega)]; exact (hk i (by omega)).2⟩,fun hp=>?_⟩
  obtain ⟨b,off,e,hc⟩:=h4 hp
  refine ⟨b,off,e,fun i hi=>?_⟩
  have h9:=hc i (by rw [xa2a]; omega)
  rw [sqW_at] at h9
  exact ⟨h9 0 _ rfl,by rw [hv i (by omega)]; exact h9 1 _ rfl⟩
theorem xb9c (ss:List Stp) (kv:Nat→Value) (nl:Value):sqW (ss++[(0,[])]) (fun i=>if i < ss.length then kv i else nl) = sqW ss kv++[[.int .u16 0,nl]]:=by
  apply List.ext_getElem
  · simp [xa2a]
  · intro i h1 h2
    rw [xa2a,List.length_append,List.length_singleton] at h1
    rw [sqW_at]
    by_cases hi:i < ss.length
    · rw [List.getElem_append_left (by rw [xa2a]; exact hi),sqW_at,if_pos hi,List.getD_eq_getElem?_getD,List.getD_eq_getElem?_getD,List.getElem?_append_left hi]
    · have:i = ss.length:=by omega
      subst this
      rw [List.getElem_append_right (by rw [xa2a]; exact Nat.le_refl _),if_neg hi,List.getD_eq_getElem?_getD,List.getElem?_append_right (Nat.le_refl _)]
      simp [xa2a]
theorem xa9s {W:World} {B T:Nat} {v:Value} {ss:List Stp} {kv:Nat→Value} {n:Nat} (hn:ss.length = n) (h:W.ownsRow B T 2 v (n + 1) ((sqW ss kv).flatten++[.int .u16 0,.slice none 0 0]))
    (hk:∀ i,i < ss.length→(ss.getD i (0,[])).1 < 65536∧RdD W (kv i) (ss.getD i (0,[])).2):RdS W v (ss++[(0,[])]):=by
  refine rdS_of (kv:=fun i=>if i < ss.length then kv i else .slice none 0 0) (xa2v (base:=B) (e:=T) ?_ (xb6j _ _)) (fun i hi=>?_)
  · rw [xa2a,List.length_append,List.length_singleton,xb9c,hn,List.flatten_append]
    simpa using h
  · rw [List.length_append,List.length_singleton] at hi
    by_cases hl:i < ss.length
    · rw [List.getD_eq_getElem?_getD,List.getElem?_append_left hl,← List.getD_eq_getElem?_getD,if_pos hl]; exact hk i hl
    · have:i = ss.length:=by omega
      subst this
      rw [List.getD_eq_getElem?_getD,List.getElem?_append_right (Nat.le_refl _),if_neg hl]
      refine ⟨by simp,?_⟩
      simp only [Nat.sub_self,List.getElem?_cons_zero,Option.getD_some]
      exact RdD.nil _
def F16 (B kb:Nat) (s1 p1:Option Addr) (s2 s3 p2 p3:Nat) (rows:List Value) (n:Nat):Nat→Value→World→Prop
  | 0,v,W=>∃ g,v = .slice (some ⟨g,0,none⟩) 0 0∧B≤g∧W.heap[g]? = some (.cells #[] 52 (0,0))
  | 1,v,_=>v = .pointer (some ⟨kb,0,none⟩)
  | 2,v,_=>v = .slice s1 s2 s3
  | 3,v,W=>W.ownsRow B 52 2 v n rows
  | 4,v,_=>v = .agg #[.int .u16 0,.slice none 0 0]
  | 5,v,W=>∃ g,v = .slice (some ⟨g,0,none⟩) 1 1∧W.heap[g]? = some (.cells #[.int .u16 0,.slice none 0 0] 52 (0,0))
  | 6,v,W=>W.ownsRow B 52 2 v (n + 1) (rows++[.int .u16 0,.slice none 0 0])
  | 7,v,_=>v = .pointer (some ⟨kb,1,none⟩)
  | 8,v,_=>v = .slice p1 p2 p3
  | 9,v,W=>∃ x,v = .agg #[x,.slice p1 p2 p3]∧W.ownsRow B 52 2 x (n + 1) (rows++[.int .u16 0,.slice none 0 0])
  | 10,v,W=>∃ g,v = .pointer (some ⟨g,0,none⟩)∧B≤g∧W.heap[g]? = some (.cells #[.slice none 0 0,.slice none 0 0] 64 (0,0))
  | _,_,_=>True
theorem F16.kept {B kb:Nat} {s1 p1:Option Addr} {s2 s3 p2 p3:Nat} {rows:List Value} {n:Nat} {W W':World} {v:Value} (k:Kept [] W W'):∀ i,F16 B kb s1 p1 s2 s3 p2 p3 rows n i v W→F16 B kb s1 p1 s2 s3 p2 p3 rows n i v W'
  | 0,⟨g,h1,h2,h3⟩=>⟨g,h1,h2,k.heap h3 (by simp)⟩
  | 1,h=>h
  | 2,h=>h
  | 3,h=>k.owns h (by simp)
  | 4,h=>h
  | 5,⟨g,h1,h3⟩=>⟨g,h1,k.heap h3 (by simp)⟩
  | 6,h=>k.owns h (by simp)
  | 7,h=>h
  | 8,h=>h
  | 9,⟨x,h1,h2⟩=>⟨x,h1,k.owns h2 (by simp)⟩
  | 10,⟨g,h1,h2,h3⟩=>⟨g,h1,h2,k.heap h3 (by simp)⟩
  | _ + 11,_=>trivial
def R16:Nat→World→World→Prop
  | 3,W,W'=>∃ b,Kept [b] W W'∧W.heap[b]? = some (.cells #[] 52 (0,0))
  | 6,W,W'=>∃ b cs,Kept [b] W W'∧W.heap[b]? = some (.cells cs 52 (0,0))
  | _,W,W'=>Kept [] W W'
def U16:Nat→Option Nat:=fun i=>if i = 0 then some 3 else if i = 3∨i = 5 then some 6 else none
theorem row_ne {W:World} {g b:Nat} {c1 c2:Array Value} {t1 t2:TypeId} {f1 f2:Nat × Nat} (h1:W.heap[g]? = some (.cells c1 t1 f1)) (h2:W.heap[b]? = some (.cells c2 t2 f2)) (hne:c1.size≠c2.size∨t1≠t2):g∉[b]:=fun hm=>by
  rw [List.mem_singleton] at hm
  subst hm
  rw [h1] at h2
  injection h2 with h2
  injection h2 with e1 e2 e3
  rcases hne with h | h
  · exact h (by rw [e1])
  · exact h e2
theorem F16.stable {B kb:Nat} {s1 p1:Option Addr} {s2 s3 p2 p3:Nat} {rows:List Value} {n:Nat} (E:Nat→Nat→Bool) (h93:E 6 3 = true) (h96:E 9 6 = true):∀ (k i:Nat) (v:Value) (W W':World),k < 11→i < 11→k≠i→U16 i≠some k→E i k = false→(∀ j,U16 i = some j→E k j = false)→R16 k W W'→F16 B kb s1 p1 s2 s3 p2 p3 rows n i v W→F16 B kb s1 p1 s2 s3 p2 p3 rows n i v W':=by
  intro k i v W W' hk hi hne hU hE hJ hR hF
  by_cases h3:k = 3
  · subst h3
    obtain ⟨b,kk,hb⟩:=hR
    match i,hi,hne,hU,hE,hF with
    | 0,_,_,hU,_,_=>exact absurd rfl hU
    | 1,_,_,_,_,h=>exact h
    | 2,_,_,_,_,h=>exact h
    | 4,_,_,_,_,h=>exact h
    | 5,_,_,_,_,⟨g,h1,h3⟩=>exact ⟨g,h1,kk.heap h3 (row_ne h3 hb (.inl (by decide)))⟩
    | 6,_,_,_,hE,_=>rw [h93] at hE; cases hE
    | 7,_,_,_,_,h=>exact h
    | 8,_,_,_,_,h=>exact h
    | 9,_,_,_,_,⟨x,h1,h2⟩ =>
      refine ⟨x,h1,kk.owns h2 (fun y hy=>?_)⟩
      rcases h2.2 with ⟨rfl,h0⟩ | ⟨g,cap,cur,rfl,_,hg,hc,_,hsz,_⟩
      · omega
      · have:g = y:=by simpa [Value.ownBlock] using hy
        subst this
        exact row_ne hg hb (.inl (by rw [hsz]; simp; omega))
    | 10,_,_,_,_,⟨g,h1,h2,h3⟩=>exact ⟨g,h1,h2,kk.heap h3 (row_ne h3 hb (.inr (by decide)))⟩
  · by_cases h6:k = 6
    · subst h6
      obtain ⟨b,cs,kk,hb⟩:=hR
      match i,hi,hne,hU,hE,hF,hJ with
      | 0,_,_,_,_,_,hJ=>exact absurd (hJ 3 rfl) (by rw [h93]; decide)
      | 1,_,_,_,_,h,_=>exact h
      | 2,_,_,_,_,h,_=>exact h
      | 3,_,_,hU,_,_,_=>exact absurd rfl hU
      | 4,_,_,_,_,h,_=>exact h
      | 5,_,_,hU,_,_,_=>exact absurd rfl hU
      | 7,_,_,_,_,h,_=>exact h
      | 8,_,_,_,_,h,_=>exact h
      | 9,_,_,_,hE,_,_=>rw [h96] at hE; cases hE
      | 10,_,_,_,_,⟨g,h1,h2,h3⟩,_=>exact ⟨g,h1,h2,kk.heap h3 (row_ne h3 hb (.inr (by decide)))⟩
    · have kk:Kept [] W W':=by
        unfold R16 at hR
        split at hR
        · exact absurd rfl h3
        · exact absurd rfl h6
        · exact hR
      exact F16.kept kk i hF
theorem xb8k {o:Oper} {a:Act} (w:World) (ho:o.op = .buildSlice 45 0 #[]):(execOp a.eval o).run Tryz.prog w = .ok (.value (.slice (some ⟨w.heap.size,0,none⟩) 0 0)) (w.alloc (.cells #[] 52)):=by
  obtain ⟨i0,hi,hz0,hz1⟩:=infoStp
  have hb:(Instr.buildSlice 45 0 #[]).run Tryz.prog w = .ok (.slice (some ⟨w.heap.size,0,none⟩) 0 0) (w.alloc (.cells #[] 52)):=by
    simp [Instr.buildSlice,run_underlying Tryz.underlying45,sizeOf,typeInfo,zeroValue,hi,hz0,hz1,newRow,Instr.fill]
    have e:Array.map (fun x:Nat=>(default:Value)) (Array.range 0) = #[]:=Array.eq_empty_of_size_eq_zero (by simp)
    rw [e]
  unfold execOp
  simp only [ho,List.map_toArray,List.map_nil,Sem.run_bind,hb,Result.andThen_ok]
  rfl
theorem xb0l:Tryz.prog.built 52 [] = some #[.int .u16 0,.slice none 0 0]:=by kernel_rfl
theorem xb4x {o:Oper} {a:Act} (w:World) (ho:o.op = .build 52 #[]):(execOp a.eval o).run Tryz.prog w = .ok (.value (.agg #[.int .u16 0,.slice none 0 0])) w:=by
  have hb:=run_build (P:=Tryz.prog) w 52 #[] _ xb0l
  unfold execOp
  simp only [ho,List.map_toArray,List.map_nil,Sem.run_bind,hb,Result.andThen_ok]
  rfl
theorem xb4z {X1 Y1:Option Addr} {X2 X3 Y2 Y3:Nat}:Tryz.prog.built 64 [(0,.slice X1 X2 X3),(1,.slice Y1 Y2 Y3)] = some #[.slice X1 X2 X3,.slice Y1 Y2 Y3]:=by kernel_rfl
theorem xb9d {o:Oper} {a:Act} (w:World) {x y:Operand} {X1 Y1:Option Addr} {X2 X3 Y2 Y3:Nat} (ho:o.op = .build 64 #[(0,x),(1,y)]) (h1:a.eval x = .slice X1 X2 X3) (h2:a.eval y = .slice Y1 Y2 Y3):(execOp a.eval o).run Tryz.prog w = .ok (.value (.agg #[.slice X1 X2 X3,.slice Y1 Y2 Y3])) w:=by
  have hb:=run_build (P:=Tryz.prog) w 64 #[(0,.slice X1 X2 X3),(1,.slice Y1 Y2 Y3)] _ xb4z
  unfold execOp
  simp only [ho,List.map_toArray,List.map_cons,List.map_nil,h1,h2,Sem.run_bind,hb,Result.andThen_ok]
  rfl
theorem put_lt {w w':World} {L:List Nat} (k:Kept L w w') {u:World} (k0:Kept [] u w) (hu:∀ x∈L,u.heap.size≤x):Kept [] u w':=k0.trans k (by
  intro x hx
  right
  exact hu x hx)
set_option maxHeartbeats 4000000 in
theorem xb0q {Q:Exit→Act→World→Prop} {id:Nat} {o0 o1 o2 o3 o4 o5 o6 o7 o8 o9 o10 o11:Oper} {a:Act} {w:World} (hb:dagBT #[o0,o1,o2,o3,o4,o5,o6,o7,o8,o9,o10,o11] U16 [148,149,150,151,152,153,154,155,156,157,24] = true) (hE3:dagE #[o0,o1,o2,o3,o4,o5,o6,o7,o8,o9,o10,o11] 6 3 = true) (hE6:dagE #[o0,o1,o2,o3,o4,o5,o6,o7,o8,o9,o10,o11] 9 6 = true) (hgt:o11.guard = none) (hsz:([148,149,150,151,152,153,154,155,156,157,24]:List Nat).all (fun s=>decide (s < a.tmps.size)) = true)
    (ho0:o0.op = .buildSlice 45 0 #[]) (ho1:o1.op = .fieldAddr 64 (.tmp 13) 0) (ho2:o2.op = .load 45 (.tmp 149))
    (ho3:o3.op = .call { callee:=.builtin .append,args:=#[.tmp 148,.tmp 150],argTypes:=#[45,45] }) (ht3:o3.type = 45) (ho4:o4.op = .build 52 #[]) (ho5:o5.op = .buildSlice 45 1 #[(0,.tmp 152)])
    (ho6:o6.op = .call { callee:=.builtin .append,args:=#[.tmp 151,.tmp 153],argTypes:=#[45,45] }) (ht6:o6.type = 45) (ho7:o7.op = .fieldAddr 64 (.tmp 13) 1) (ho8:o8.op = .load 22 (.tmp 155))
    (ho9:o9.op = .build 64 #[(0,.tmp 154),(1,.tmp 156)]) (ho10:o10.op = .alloc 64) (ho11:o11.op = .store 64 (.tmp 24) (.tmp 157))
    (e3:(o3.after.any fun e=>Region.binds .any e && e.on == 0) = true∧(o3.after.any fun e=>Region.binds .any e && e.on == 2) = true)
    (e2:(o2.after.any fun e=>Region.binds .any e && e.on == 1) = true) (e5:(o5.after.any fun e=>Region.binds .any e && e.on == 4) = true)
    (e6:(o6.after.any fun e=>Region.binds .any e && e.on == 3) = true∧(o6.after.any fun e=>Region.binds .any e && e.on == 5) = true)
    (e8:(o8.after.any fun e=>Region.binds .any e && e.on == 7) = true) (e9:(o9.after.any fun e=>Region.binds .any e && e.on == 6) = true∧(o9.after.any fun e=>Region.binds .any e && e.on == 8) = true)
    {kb:Nat} {s1 p1:Option Addr} {s2 s3 p2 p3:Nat} {ss:List Stp} (h13:a.eval (.tmp 13) = .pointer (some ⟨kb,0,none⟩)) (hkb:w.rangeAt kb 0 [.slice s1 s2 s3,.slice p1 p2 p3]) (hs:RdS w (.slice s1 s2 s3) ss) (hl:ss.length≤100000)
    (hend:∀ (g:Nat→Value) (g4:Nat) (x1:Option Addr) (x2 x3:Nat) (W:World),g 24 = .pointer (some ⟨g4,0,none⟩)→RdS W (.slice x1 x2 x3) (ss++[(0,[])])→W.rangeAt g4 0 [.slice x1 x2 x3,.slice p1 p2 p3]→Kept [] w W →
      Q .normal ((([148,149,150,151,152,153,154,155,156,157,24]:List Nat).foldl (fun x s=>x.put (some s) (g s)) a).put o11.dst undef) W):(Code.region id #[o0,o1,o2,o3,o4,o5,o6,o7,o8,o9,o10,o11] true).wp Tryz.prog Q a w:=by
  obtain ⟨kv,hrc,hkv⟩:=xb8y hs
  obtain ⟨n,hn⟩:∃ n,ss.length = n:=⟨_,rfl⟩
  have hs2:s2 = n:=by
    obtain ⟨ao,len,cap,h1,h2,_⟩:=hrc
    injection h1 with e1 e2 e3
    rw [xa2a] at h2
    omega
  subst hs2
  have hc0:∀ W,Kept [] w W→W.cell? ⟨kb,0,none⟩ = some (.slice s1 s2 s3):=fun W k=>k.cell (hkb 0 _ rfl) (by simp)
  have hc1:∀ W,Kept [] w W→W.cell? ⟨kb,1,none⟩ = some (.slice p1 p2 p3):=fun W k=>k.cell (hkb 1 _ rfl) (by simp)
  refine xb9x (D:=[148,149,150,151,152,153,154,155,156,157,24]) (os:=[o0,o1,o2,o3,o4,o5,o6,o7,o8,o9,o10]) (ot:=o11) (by kernel_rfl) U16 hb rfl rfl hgt hsz (F16 w.heap.size kb s1 p1 s2 s3 p2 p3 (sqW ss kv).flatten s2) (fun W=>Kept [] w W) R16 ?_ (Kept.refl [] w).drew ⟨?_,?_,?_,?_,?_,?_,?_,?_,?_,?_,?_,trivial⟩ ?_
  · intro k i v W W' hk hi hne hU hE hJ hR hF
    exact F16.stable (dagE #[o0,o1,o2,o3,o4,o5,o6,o7,o8,o9,o10,o11]) hE3 hE6 k i v W W' hk hi hne hU hE hJ hR hF
  · intro b W hS hfr hf
    refine ChL.op _ (xb8k W ho0) (hS.alloc _) rfl (ChL.fin ⟨_,rfl,(Kept.refl [] W).alloc _,_,rfl,hS.size,heap_alloc_new W _⟩)
  · intro b W hS hfr hf
    have h13b:=(hfr 13 (by decide)).trans h13
    refine ChL.op (.pointer (some ⟨kb,0,none⟩)) (by unfold execOp; simp only [ho1,h13b]; go_simp) hS rfl (ChL.fin ⟨_,rfl,Kept.refl [] W,rfl⟩)
  · intro b W hS hfr hf
    have h9:=hf 1 149 rfl e2
    have hc:=hc0 W hS
    refine ChL.op (.slice s1 s2 s3) (by unfold execOp; simp only [ho2,show b.eval (.tmp 149) = _ from h9]; go_simp) hS rfl (ChL.fin ⟨_,rfl,Kept.refl [] W,rfl⟩)
  · intro b W hS hfr hf
    obtain ⟨g,hg,hgb,hgh⟩:=hf 0 148 rfl e3.1
    have h2:=hf 2 150 rfl e3.2
    refine ChL.app 45 52 (.tmp 148) (.tmp 150) ho3 ht3 W w.heap.size (.agg #[.int .u16 0,.slice none 0 0]) 2 32 Tryz.underlying45 Tryz.infoSt rfl (by decide) (.slice (some ⟨g,0,none⟩) 0 0) 0 [] ⟨rfl,.inr ⟨g,0,#[],rfl,hgb,hgh,Nat.le_refl _,by decide,rfl,rfl⟩⟩ s1 s2 s3 (sqW ss kv) (hrc.old hS) (xb6j _ _) ?_ (by omega) (by omega) hS.size hg h2 ?_
    · intro r hr u hu
      obtain ⟨i,hi,rfl⟩:=List.mem_map.1 hr
      have hil:i < ss.length:=by simpa using hi
      obtain ⟨z1,z2,z3,zk,_⟩:=(hkv i hil).2
      simp only [List.mem_cons,List.not_mem_nil,or_false] at hu
      rcases hu with rfl | rfl
      · rfl
      · rw [zk]; rfl
    · intro ao' cap' w1 ho hgr hat
      rw [Nat.zero_add,List.nil_append] at ho
      have kk:Kept [g] W w1:=(Kept.refl [g] W).grown (uh hgr) (by intro x hx; left; simpa [Value.ownBlock,eq_comm] using hx)
      refine ⟨put_lt kk hS (by simpa using hgb),ChL.fin ⟨_,by rw [Nat.zero_add],⟨g,kk,hgh⟩,uh ho⟩⟩
  · intro b W hS hfr hf
    refine ChL.op _ (xb4x W ho4) hS rfl (ChL.fin ⟨_,rfl,Kept.refl [] W,rfl⟩)
  · intro b W hS hfr hf
    have h4:=hf 4 152 rfl e5
    refine ChL.op _ (xb3p W (.tmp 152) ho5 0 _ h4) (hS.alloc _) rfl (ChL.fin ⟨_,rfl,(Kept.refl [] W).alloc _,_,rfl,heap_alloc_new W _⟩)
  · intro b W hS hfr hf
    have h3:=hf 3 151 rfl e6.1
    obtain ⟨g,hg,hgh⟩:=hf 5 153 rfl e6.2
    have h3':W.ownsRow w.heap.size 52 2 (b.eval (.tmp 151)) s2 (sqW ss kv).flatten:=h3
    obtain ⟨vo,vc,hv⟩:=xa0k h3'
    rw [hv] at h3'
    have hrd:RdC 2 W (.slice (some ⟨g,0,none⟩) 1 1) [[.int .u16 0,.slice none 0 0]]:=⟨_,_,_,rfl,rfl,Nat.le_refl _,by decide,fun _=>⟨g,0,rfl,fun i hi j u hu=>by
      have hi0:i = 0:=by simpa using hi
      subst hi0
      have:=xa0j [] [.int .u16 0,.slice none 0 0] [] hgh rfl
      exact this j u hu⟩⟩
    refine ChL.app 45 52 (.tmp 151) (.tmp 153) ho6 ht6 W w.heap.size (.agg #[.int .u16 0,.slice none 0 0]) 2 32 Tryz.underlying45 Tryz.infoSt rfl (by decide) (.slice vo s2 vc) s2 (sqW ss kv).flatten h3' (some ⟨g,0,none⟩) 1 1 [[.int .u16 0,.slice none 0 0]] hrd (by simp) (by simp [Value.oneCell']) (by omega) (by omega) hS.size hv hg ?_
    intro ao' cap' w1 ho hgr hat
    have hb9:∀ x,(Value.slice vo s2 vc).ownBlock = some x→w.heap.size≤x:=fun x hx=>(h3'.lt x hx).1
    have ho1:w1.ownsRow w.heap.size 52 2 (.slice ao' (s2 + 1) cap') (s2 + 1) ((sqW ss kv).flatten++[.int .u16 0,.slice none 0 0]):=by
      have h9:=uh ho
      simpa using h9
    rcases h3'.2 with ⟨h0,_⟩ | ⟨gv,capv,cur,h0,hgv,hgc,_⟩
    · injection h0 with e1 e2 e3
      subst e1
      have kk:Kept [g] W w1:=(Kept.refl [g] W).grown (uh hgr) (by intro x hx; simp [Value.ownBlock] at hx)
      have k0:Kept [] W w1:=(Kept.refl [] W).grown (uh hgr) (by intro x hx; simp [Value.ownBlock] at hx)
      exact ⟨hS.trans k0 (by simp),ChL.fin ⟨_,rfl,⟨g,_,kk,hgh⟩,ho1⟩⟩
    · injection h0 with e1 e2 e3
      subst e1
      have kk:Kept [gv] W w1:=(Kept.refl [gv] W).grown (uh hgr) (by intro x hx; left; simpa [Value.ownBlock,eq_comm] using hx)
      exact ⟨put_lt kk hS (by simpa using hgv),ChL.fin ⟨_,rfl,⟨gv,_,kk,hgc⟩,ho1⟩⟩
  · intro b W hS hfr hf
    have h13b:=(hfr 13 (by decide)).trans h13
    refine ChL.op (.pointer (some ⟨kb,1,none⟩)) (by unfold execOp; simp only [ho7,h13b]; go_simp) hS rfl (ChL.fin ⟨_,rfl,Kept.refl [] W,rfl⟩)
  · intro b W hS hfr hf
    have h9:=hf 7 155 rfl e8
    have hc:=hc1 W hS
    refine ChL.op (.slice p1 p2 p3) (by unfold execOp; simp only [ho8,show b.eval (.tmp 155) = _ from h9]; go_simp) hS rfl (ChL.fin ⟨_,rfl,Kept.refl [] W,rfl⟩)
  · intro b W hS hfr hf
    have h6:W.ownsRow w.heap.size 52 2 (b.eval (.tmp 154)) (s2 + 1) ((sqW ss kv).flatten++[.int .u16 0,.slice none 0 0]):=hf 6 154 rfl e9.1
    have h8:b.eval (.tmp 156) = .slice p1 p2 p3:=hf 8 156 rfl e9.2
    obtain ⟨vo,vc,hv⟩:=xa0k h6
    rw [hv] at h6
    refine ChL.op _ (xb9d W ho9 hv h8) hS rfl (ChL.fin ⟨_,rfl,Kept.refl [] W,_,rfl,h6⟩)
  · intro b W hS hfr hf
    refine ChL.op (.pointer (some ⟨W.heap.size,0,none⟩)) (w':=W.alloc (.cells #[.slice none 0 0,.slice none 0 0] 64)) (by unfold execOp; simp only [ho10]; go_simp) (hS.alloc _) rfl (ChL.fin ⟨_,rfl,(Kept.refl [] W).alloc _,_,rfl,hS.size,heap_alloc_new W _⟩)
  · intro g W hS hf
    obtain ⟨x,hx9,hown⟩:=hf 9 157 rfl rfl
    obtain ⟨g4,hg4,hgb,hgh⟩:=hf 10 24 rfl rfl
    obtain ⟨x1,x3,rfl⟩:=xa0k hown
    have hkW:∀ i,i < ss.length→(ss.getD i (0,[])).1 < 65536∧RdD W (kv i) (ss.getD i (0,[])).2:=fun i hi=>⟨(hkv i hi).1,(hkv i hi).2.old hS⟩
    have hrs:=xa9s hn hown hkW
    have hne:∀ y,(Value.slice x1 (s2 + 1) x3).ownBlock = some y→y≠g4:=fun y hy e=>by
      rcases hown.2 with ⟨_,h0⟩ | ⟨gv,capv,cur,h0,_,hgc,_⟩
      · omega
      · injection h0 with e1 e2 e3
        subst e1
        have:gv = y:=by simpa [Value.ownBlock] using hy
        subst this
        subst e
        exact row_ne hgh hgc (.inr (by decide)) (by simp)
    have k1:Kept [g4] W (W.setRow g4 #[.slice x1 (s2 + 1) x3,.slice p1 p2 p3]):=(Kept.refl [g4] W).setRow (g:=g4) (.inl (by simp)) _
    have kw:Kept [] w (W.setRow g4 #[.slice x1 (s2 + 1) x3,.slice p1 p2 p3]):=put_lt k1 hS (by simpa using hgb)
    have hrs1:RdS (W.setRow g4 #[.slice x1 (s2 + 1) x3,.slice p1 p2 p3]) (.slice x1 (s2 + 1) x3) (ss++[(0,[])]) :=
      xa9s hn (k1.owns hown (fun y hy=>by rw [List.mem_singleton]; exact hne y hy)) (fun i hi=>⟨(hkv i hi).1,(hkv i hi).2.old kw⟩)
    refine ChL.st 64 (.tmp 24) (.tmp 157) ho11 g4 #[.slice x1 (s2 + 1) x3,.slice p1 p2 p3] ((xa3b g _ a hsz 24 (by decide)).trans hg4) ((xa3b g _ a hsz 157 (by decide)).trans hx9) 64 #[.slice none 0 0,.slice none 0 0] hgh Tryz.size_kp rfl (p_two1 rfl rfl) trivial rfl (ChL.fin ?_)
    exact hend g g4 x1 (s2 + 1) x3 _ hg4 hrs1 (fun j u hu=>xa0j [] [.slice x1 (s2 + 1) x3,.slice p1 p2 p3] [] (setRow_heap _ _ _ _ _ _ hgh) rfl j u hu) kw
theorem Tryz.infoEn:(Tryz.prog.info? 85).map (fun i=>(i.zero,i.size,i.bytes)) = some (some (.agg #[.int .u8 0,.slice none 0 0,.slice none 0 0]),3,56):=by kernel_rfl
def enRows (es:List En) (kv vv:Nat→Value):List (List Value):=(List.range es.length).map fun i=>(enC (es.getD i ⟨0,[],[]⟩) (kv i) (vv i)).toList
theorem xa2c (es:List En) (kv vv:Nat→Value):(enRows es kv vv).length = es.length:=by simp [enRows]
theorem xa9b (es:List En) (kv vv:Nat→Value) (i:Nat) (hi:i < es.length):(enRows es kv vv)[i]'(by rw [xa2c]; exact hi) = (enC es[i] (kv i) (vv i)).toList:=by
  simp [enRows,List.getD_eq_getElem?_getD,List.getElem?_eq_getElem hi]
theorem xa4h (es:List En) (kv vv:Nat→Value):∀ r∈enRows es kv vv,r.length = 3:=fun r hr=>by
  obtain ⟨i,_,rfl⟩:=List.mem_map.1 hr; rfl
theorem rdN_of {w:World} {v:Value} {rows:List (List Value)} {es:List En} {kv vv:Nat→Value} (h:RdC 3 w v rows) (hl:rows.length = es.length) (hr:∀ i (hi:i < es.length),rows[i]'(by omega) = (enC es[i] (kv i) (vv i)).toList) (ho:∀ i (hi:i < es.length),OkE w es[i] (kv i) (vv i)):RdN w v es:=by
  obtain ⟨ao,n,c,rfl,h1,h2,h3,h4⟩:=h
  refine ⟨ao,n,c,kv,vv,rfl,by omega,h2,h3,ho,fun hp=>?_⟩
  obtain ⟨b,off,e,hc⟩:=h4 hp
  exact ⟨b,off,e,fun i hi=>by rw [← hr i hi]; exact hc i (by omega)⟩
theorem rdC_of {w:World} {v:Value} {es:List En} (h:RdN w v es):∃ kv vv,RdC 3 w v (enRows es kv vv)∧(∀ i (hi:i < es.length),OkE w es[i] (kv i) (vv i)):=by
  obtain ⟨ao,n,c,kv,vv,rfl,h1,h2,h3,h4,h5⟩:=h
  refine ⟨kv,vv,⟨ao,n,c,rfl,by rw [xa2c,h1],h2,h3,fun hp=>?_⟩,h4⟩
  obtain ⟨b,off,e,hc⟩:=h5 hp
  exact ⟨b,off,e,fun i hi=>by rw [xa2c] at hi; rw [xa9b es kv vv i hi]; exact hc i hi⟩
theorem xb8o {w:World} {v:Value} {es:List En} {kv vv:Nat→Value} {e0:En} {k0 v0:Value} (h:RdC 3 w v ((enC e0 k0 v0).toList :: enRows es kv vv)) (h0:OkE w e0 k0 v0) (ho:∀ i (hi:i < es.length),OkE w es[i] (kv i) (vv i)):RdN w v (e0 :: es):=by
  refine rdN_of (kv:=fun i=>if i = 0 then k0 else kv (i - 1)) (vv:=fun i=>if i = 0 then v0 else vv (i - 1)) h (by simp [xa2c]) (fun i hi=>?_) (fun i hi=>?_)
  · cases i with
    | zero=>simp
    | succ i =>
      have hi2:i < es.length:=by simpa using hi
      simp only [List.getElem_cons_succ,Nat.add_sub_cancel,if_neg (Nat.succ_ne_zero i)]
      exact xa9b es kv vv i hi2
  · cases i with
    | zero=>simpa using h0
    | succ i =>
      have hi2:i < es.length:=by simpa using hi
      simp only [List.getElem_cons_succ,Nat.add_sub_cancel,if_neg (Nat.succ_ne_zero i)]
      exact ho i hi2
theorem xc0q {w:World} {kv vv:Nat→Value} {es:List En} (ho:∀ i (hi:i < es.length),OkE w es[i] (kv i) (vv i)) (es':List En) (i:Nat) (hi:i < es.length) (u:Value) (hu:u∈(enC (es'.getD i ⟨0,[],[]⟩) (kv i) (vv i)).toList):u.oneCell' = true:=by
  obtain ⟨_,_,_,e1,_⟩:=(ho i hi).key
  obtain ⟨_,_,_,e2,_⟩:=(ho i hi).val
  simp [enC] at hu
  rcases hu with rfl | rfl | rfl
  · rfl
  · rw [e1]; rfl
  · rw [e2]; rfl
def en1:En:=⟨1,[102,105,114,115,116],[49]⟩
abbrev b5o:Obj:=.cells #[.int .u8 102,.int .u8 105,.int .u8 114,.int .u8 115,.int .u8 116] 5 (5,6)
set_option maxHeartbeats 16000000 in
theorem wholeShown_walk (n8:Nat) (ev:Value) (es:List En) (pv:Value) (pr:List Nat) (pick:Nat) (w:World) (h8:n8 < 256) (hE:RdN w ev es) (hel:es.length≤1048576) (hp:Rd w pv pr) (hpl:pr.length≤1048576) (hpk:pick < 65536) (hT:Tabs w) :
    Calls Tryz.prog 6 #[.int .u8 n8,ev,pv,.int .u16 pick] w fun e w'=>e = .returned (.bool true)∧Below w.heap.size w w':=by
  have HT:=hide hT
  have HE:=hide hE
  have HP:=hide hp
  have HEL:=hide hel
  obtain ⟨ea,en,ec,rfl,hen,_⟩:=hE.form
  obtain ⟨pa,pn,pc,rfl,hpn,_⟩:=id hp
  have HEN:=hide hen
  have hen9:en≤1048576:=by omega
  have kc:=fun (w:World) (C:Array Value) (n c:Nat)=>Lib.run_convert_bytes_const (P:=Tryz.prog) w 23 5 C n c Tryz.underlying23 Tryz.underlying5
  have kc1:=fun (w:World) (o:Obj) (C:Array Value) (n c:Nat)=>Go.Joins.run_convert_bytes_const_at (P:=Tryz.prog) (w.alloc o) 23 5 C n c (w.heap.size + 1) (by simp) Tryz.underlying23 Tryz.underlying5
  clear hT hE hel hp hpl hen
  go_enter Tryz.func6,Tryz.ntmps6
  go_wp2_with fail
  refine Calls.mono (xb0x n8 h8 w) ?_
  rintro e w1 ⟨rfl,k1⟩
  have HK1:=hide k1
  have hk:1≤1 + n8 % 32∧1 + n8 % 32≤32:=by omega
  generalize 1 + n8 % 32 = k at hk ⊢
  clear k1
  obtain ⟨kvf,vvf,hrc,hoe⟩:=rdC_of ((uh HE).old (uh HK1))
  have z1:(w1.alloc b5o).heap.size = w1.heap.size + 1:=by simp
  have z2:((w1.alloc b5o).alloc (bt 49)).heap.size = w1.heap.size + 1 + 1:=by simp
  have ka:=(Kept.refl [] w1).alloc b5o
  have kb:=(Kept.refl [] (w1.alloc b5o)).alloc (bt 49)
  obtain ⟨RW,hRW⟩:∃ RW:Obj,RW = .cells #[.int .u8 1,.slice (some ⟨w1.heap.size,0,none⟩) 5 5,.slice (some ⟨w1.heap.size + 1,0,none⟩) 1 1] 85:=⟨_,rfl⟩
  have ke:=(Kept.refl [] ((w1.alloc b5o).alloc (bt 49))).alloc RW
  have r1:=((xb6n (n:=5) [102,105,114,115,116] (heap_alloc_new w1 b5o) rfl (by intro y hy; simp at hy; omega) rfl (by decide)).old kb (by simp)).old ke (by simp)
  have r2:=(bt_rd (w1.alloc b5o) 49 (by decide)).old ke (by simp)
  rw [z1] at r2
  have hx:=heap_alloc_new ((w1.alloc b5o).alloc (bt 49)) RW
  rw [z2] at hx
  have kall:=(ka.trans kb (by simp)).trans ke (by simp)
  rw [hRW] at r1 r2 hx kall
  obtain ⟨X,hX⟩:∃ X,((w1.alloc b5o).alloc (bt 49)).alloc (.cells #[.int .u8 1,.slice (some ⟨w1.heap.size,0,none⟩) 5 5,.slice (some ⟨w1.heap.size + 1,0,none⟩) 1 1] 85) = X:=⟨_,rfl⟩
  rw [hX] at r1 r2 hx kall
  have HO1:=hide (show OkE X en1 (.slice (some ⟨w1.heap.size,0,none⟩) 5 5) (.slice (some ⟨w1.heap.size + 1,0,none⟩) 1 1) from ⟨by show (1:Nat) < 256; omega,r1,r2⟩)
  have HOW:=hide (show X.ownsRow w1.heap.size 85 3 (.slice (some ⟨w1.heap.size + 1 + 1,0,none⟩) 1 1) 1 (enC en1 (.slice (some ⟨w1.heap.size,0,none⟩) 5 5) (.slice (some ⟨w1.heap.size + 1,0,none⟩) 1 1)).toList from ⟨rfl,Or.inr ⟨w1.heap.size + 1 + 1,1,_,rfl,by omega,hx,Nat.le_refl _,by unfold maxLen; omega,rfl,rfl⟩⟩)
  have HRC:=hide (hrc.kept kall (by simp))
  have HOE:=hide (fun i hi=>(hoe i hi).old kall)
  have HOE1:=hide hoe
  have HK1X:=hide kall
  have HKX:=hide ((uh HK1).trans kall (by simp))
  have HSX:=hide kall.size
  clear z1 z2 ka kb ke r1 r2 hx kall hRW hrc hoe
  have T1:=hide (show ∀ r∈enRows es kvf vvf,∀ u∈r,u.oneCell' = true by intro r hr u hu; obtain ⟨i,hi,rfl⟩:=List.mem_map.1 hr; exact xc0q (uh HOE) es i (by simpa using hi) u hu)
  have T2:=hide (show (1 + en) * 56≤140737488355328 by omega)
  have T3:=hide (show 1 + en≤1000000000000 by omega)
  obtain ⟨XS,hXS⟩:∃ XS,XS = (enC en1 (.slice (some ⟨w1.heap.size,0,none⟩) 5 5) (.slice (some ⟨w1.heap.size + 1,0,none⟩) 1 1)).toList:=⟨_,rfl⟩
  rw [← hXS] at HOW
  obtain ⟨RS,hRS⟩:∃ RS,RS = enRows es kvf vvf:=⟨_,rfl⟩
  have T4:=hide (xa4h es kvf vvf)
  rw [← hRS] at T1 HRC T4
  have HXS:=hide hXS
  have HRS:=hide hRS
  clear hXS hRS
  go_wp2_with (first
    | (refine xa0h rfl 85 _ rfl #[.int .u8 1,.slice (some ⟨w1.heap.size,0,none⟩) 5 5,.slice (some ⟨w1.heap.size + 1,0,none⟩) 1 1] (by simp only [List.map_toArray,List.map_cons,List.map_nil]; exact xa8o) ?_)
    | (at_builtin; refine xa0u rfl 79 85 (.tmp 44) (.tmp 45) rfl rfl _ w1.heap.size (.agg #[.int .u8 0,.slice none 0 0,.slice none 0 0]) 3 56 Tryz.underlying79 Tryz.infoEn rfl (by decide) (.slice (some ⟨w1.heap.size + 1 + 1,0,none⟩) 1 1) 1 _ (uh HOW) ea en ec RS (uh HRC) (uh T4) (uh T1) (uh T2) (uh T3) (uh HSX) rfl rfl ?_; intro ao7 c7 w7 HO7 HG7 HA7))
  have hkg:=(Kept.refl [w1.heap.size + 1 + 1] X).grown (uh HG7) (by intro y hy; left; have h9:w1.heap.size + 1 + 1 = y:=Option.some.inj hy; simp [h9])
  have hwx:=(uh HK1).size
  have hkw7:=(uh HKX).trans hkg (fun y hy=>Or.inr (by rw [List.mem_singleton.1 hy]; omega))
  have hk17:=(uh HK1X).trans hkg (fun y hy=>Or.inr (by rw [List.mem_singleton.1 hy]; omega))
  have hrd7:RdN w7 (.slice ao7 (1 + en) c7) (en1 :: es):=by
    have ho7:=uh HO7
    rw [uh HXS,uh HRS] at ho7
    have hlen:((enC en1 (.slice (some ⟨w1.heap.size,0,none⟩) 5 5) (.slice (some ⟨w1.heap.size + 1,0,none⟩) 1 1)).toList :: enRows es kvf vvf).length = 1 + en:=by rw [List.length_cons,xa2c,uh HEN]; omega
    have hrc:=xa2v (rows:=(enC en1 (.slice (some ⟨w1.heap.size,0,none⟩) 5 5) (.slice (some ⟨w1.heap.size + 1,0,none⟩) 1 1)).toList :: enRows es kvf vvf) (by rw [hlen]; exact ho7) (fun r hr=>by
      rcases List.mem_cons.1 hr with h | h
      · rw [h]; rfl
      · exact xa4h es kvf vvf r h)
    have h1:=uh HO1
    refine xb8o hrc ⟨h1.k,h1.key.kept hkg (by simp [blk] <;> omega),h1.val.kept hkg (by simp [blk] <;> omega)⟩ (fun i hi=>(uh HOE1 i hi).old hk17)
  have HR7:=hide hrd7
  have HK7:=hide hkw7
  clear hkg hwx hkw7 hk17 hrd7 HO7 HG7 HA7 HXS HRS T1 T2 T3 T4 HRC HOE HOE1 HO1 HOW HSX HKX HK1X
  have hel9:(en1 :: es).length≤1048577:=by rw [List.length_cons]; have:=uh HEL; omega
  refine Calls.mono (xa7j k hk _ (en1 :: es) w7 (uh HR7) (by omega) ((uh HT).k (uh HK7))) ?_
  rintro e w8 ⟨g,gb,rfl,sl,l,bs,hmp⟩
  have HMP:=hide hmp
  have HNB:=hide hmp.nb
  have HNL:=hide hmp.nL
  generalize mapL k (en1 :: es) = L at HMP HNL
  clear hmp
  have HK8:=hide ((uh HK7).trans (uh HMP).b.kk (by simp))
  go_wp2_with fail
  refine Calls.mono (xa2m _ pr 64 w8 ((uh HP).old (uh HK8) (by simp)) (by decide)) ?_
  rintro e w9 ⟨kv9,rfl,hkv,k9⟩
  have HKV:=hide ((hkv _ (uh HP)).old ((uh HK8).trans k9 (by simp)) (by simp))
  obtain ⟨κ1,κ2,κ3,rfl,_⟩:=id (hkv _ (uh HP))
  have HM9:=hide ((uh HMP).kept k9)
  have HK9:=hide ((uh HK8).trans k9 (by simp))
  have HQ:=hide (show (pr.take 64).length≤64 by rw [List.length_take]; omega)
  generalize pr.take 64 = qk at HKV HQ
  clear hkv k9 HMP HK8
  obtain ⟨ao,cap,hsl⟩:=(uh HM9).b.form
  subst hsl
  obtain ⟨nb,hnb⟩:=(⟨_,rfl⟩:∃ nb,l.length = nb)
  have hbl:bs.length = nb:=by rw [← hnb]; exact (uh HM9).b.len.symm
  have HBL:=hide hbl
  have HLN:=hide hnb
  have hnb9:nb≤1048577:=by have:=uh HNB; omega
  have HC:=hide (show w9.cell? ⟨gb,0,none⟩ = some (.slice ao nb cap) by rw [cell_of_row _ _ 0 _ _ _ (uh HM9).b.hd,hnb]; rfl)
  clear hnb hbl
  have hp1:Int.tmod (pick:Int) 2 = ((pick % 2:Nat):Int):=by rw [Int.tmod_eq_emod_of_nonneg (by omega)]; omega
  have hp2:IntKind.u16.wrap ((pick % 2:Nat):Int) = ((pick % 2:Nat):Int):=by simp [IntKind.wrap,IntKind.signed,IntKind.bits]; omega
  have HP1:=hide hp1
  have HP2:=hide hp2
  clear hp1 hp2
  go_upto_region 6 with fail
  go_cut [64] (fun s64 wc=>s64 = .bool (decide (0 < nb∧pick % 2 = 0))∧w9 = wc)
  case first =>
    have hc0:=uh HC
    have hp1:=uh HP1
    have hp2:=uh HP2
    by_cases hn0:0 < nb
    · have hn1:(nb:Int) > 0:=by omega
      have hn2:(0:Int) < nb:=by omega
      by_cases hpe:pick % 2 = 0
      · rw [hpe] at hp1 hp2
        go_wp2_with fail
        go_meet
        case rel=>exact ⟨by rw [decide_eq_true ⟨hn0,hpe⟩],rfl⟩
      · have hpe1:pick % 2 = 1:=by omega
        rw [hpe1] at hp1 hp2
        go_wp2_with fail
        go_meet
        case rel=>exact ⟨by rw [decide_eq_false (fun h=>hpe h.2)],rfl⟩
    · have hn1:¬ (nb:Int) > 0:=by omega
      have hn2:nb = 0:=by omega
      subst hn2
      go_wp2_with fail
      go_meet
      case rel=>exact ⟨by rw [decide_eq_false (fun h=>hn0 h.1)],rfl⟩
  case rest =>
  obtain ⟨h64,hwc⟩:=hcut
  subst h64
  subst hwc
  obtain ⟨B,hB⟩:∃ B,decide (0 < nb∧pick % 2 = 0) = B:=⟨_,rfl⟩
  rw [hB]
  go_upto_if 64 with fail
  go_cut [12] (fun k12 wc=>∃ q9 a b c,k12 = .slice a b c∧Hid (Rd wc (.slice a b c) q9)∧Hid (q9.length≤64)∧Hid (Kept [] w9 wc))
  case first =>
   cases B
   · go_wp2_with fail
     go_meet
     case rel=>exact ⟨qk,_,_,_,rfl,HKV,HQ,hide (Kept.refl [] w9)⟩
   · obtain ⟨hn0,hpe⟩:=of_decide_eq_true hB
     clear hB
     go_upto_region 7 with fail
     obtain ⟨p2,hp2e⟩:∃ p2,p2 = pick / 2:=⟨_,rfl⟩
     obtain ⟨j,hj⟩:∃ j,j = p2 % nb:=⟨_,rfl⟩
     have hjl:j < nb:=by rw [hj]; exact Nat.mod_lt _ hn0
     have hjl2:(j:Int) < nb:=by omega
     have hd1:Int.tdiv (pick:Int) 2 = (p2:Int):=by rw [Int.tdiv_eq_ediv_of_nonneg (by omega)]; omega
     have hd2:IntKind.u16.wrap (p2:Int) = (p2:Int):=by simp [IntKind.wrap,IntKind.signed,IntKind.bits]; omega
     have hd3:IntKind.i64.wrap (p2:Int) = (p2:Int):=by simp [IntKind.wrap,IntKind.signed,IntKind.bits]; omega
     have hd4:Int.tmod (p2:Int) (nb:Int) = (j:Int):=by rw [Int.tmod_eq_emod_of_nonneg (by omega),hj]; rfl
     have hd5:IntKind.i64.wrap (j:Int) = (j:Int):=by simp [IntKind.wrap,IntKind.signed,IntKind.bits]; omega
     have HD1:=hide hd1
     have HD2:=hide hd2
     have HD3:=hide hd3
     have HD4:=hide hd4
     have HD5:=hide hd5
     have hnz:¬ nb = 0:=by omega
     clear hp2e
     obtain ⟨bB,cB,eB,hb0,hbw,hbg,hx1,hx2,_⟩:=(uh HM9).b.at_ (i:=j) (by rw [uh HLN]; exact hjl)
     have ea:ao = some ⟨bB,0,none⟩:=by injection eB
     subst ea
     have hrd:=(uh HM9).b.rd j (by rw [uh HLN]; exact hjl)
     have hin:∃ p∈bs,p.1 = (bs.getD j ([],[])).1:=⟨bs.getD j ([],[]),by rw [List.getD_eq_getElem?_getD,List.getElem?_eq_getElem (by rw [uh HBL]; exact hjl)]; exact List.getElem_mem _,rfl⟩
     have hql:(bs.getD j ([],[])).1.length≤64:=by
       have h1:=xa8y hin
       rw [(uh HM9).e] at h1
       obtain ⟨v9,hv9⟩:=Option.isSome_iff_exists.1 h1
       obtain ⟨p,hp,hpe⟩:=get_in hv9
       rw [← hpe]
       exact ((uh HM9).m.fit p hp).1
     have HKV2:=hide (hrd.1.old (uh HM9).b.kk (by simp))
     have HQ2:=hide hql
     generalize (bs.getD j ([],[])).1 = qj at HKV2 HQ2
     have HX1:=hide hx1
     generalize (l.getD j (undef,undef)).1 = xj at HKV2 HX1
     obtain ⟨j1,j2,j3,rfl,_⟩:=id (uh HKV2)
     clear hd1 hd2 hd3 hd4 hd5 hj hx1 hx2 hrd hin hql eB hbw hb0 hbg HKV HQ
     have hdr:=(Kept.refl [] w9).drew
     refine lp_r17 (by kernel_rfl) (by kernel_rfl) rfl (fun W=>Kept [] w9 W) hdr ?_
     refine LinY.rd (.pointer (some ⟨gb,0,none⟩)) (fun W hW=>by go_simp) (by simp only [Act.put,sa1,sa2,sa3]; rfl) ?_
     refine LinY.rd (.pointer (some ⟨gb,0,none⟩)) (fun W hW=>by go_simp) (by simp only [Act.put,sa1,sa2,sa3]; rfl) ?_
     refine LinY.rd (.pointer (some ⟨gb,0,none⟩)) (fun W hW=>by go_simp) (by simp only [Act.put,sa1,sa2,sa3]; rfl) ?_
     refine LinY.rd (.slice (some ⟨bB,0,none⟩) nb cap) (fun W hW=>by have h9:=hW.cell (uh HC) (by simp); go_simp) (by simp only [Act.put,sa1,sa2,sa3]; rfl) ?_
     refine LinY.rd (.int .u16 pick) (fun W hW=>by go_simp) (by simp only [Act.put,sa1,sa2,sa3]; rfl) ?_
     refine LinY.rd (.int .u16 (p2:Int)) (fun W hW=>by have h9:=uh HD1; have h10:=uh HD2; go_simp) (by simp only [Act.put,sa1,sa2,sa3]; rfl) ?_
     refine LinY.rd (.int .i64 (p2:Int)) (fun W hW=>by have h9:=uh HD3; go_simp) (by simp only [Act.put,sa1,sa2,sa3]; rfl) ?_
     refine LinY.rd (.pointer (some ⟨gb,0,none⟩)) (fun W hW=>by go_simp) (by simp only [Act.put,sa1,sa2,sa3]; rfl) ?_
     refine LinY.rd (.pointer (some ⟨gb,0,none⟩)) (fun W hW=>by go_simp) (by simp only [Act.put,sa1,sa2,sa3]; rfl) ?_
     refine LinY.rd (.pointer (some ⟨gb,0,none⟩)) (fun W hW=>by go_simp) (by simp only [Act.put,sa1,sa2,sa3]; rfl) ?_
     refine LinY.rd (.slice (some ⟨bB,0,none⟩) nb cap) (fun W hW=>by have h9:=hW.cell (uh HC) (by simp); go_simp) (by simp only [Act.put,sa1,sa2,sa3]; rfl) ?_
     refine LinY.rd (.int .i64 nb) (fun W hW=>by go_simp) (by simp only [Act.put,sa1,sa2,sa3]; rfl) ?_
     refine LinY.rd (.int .i64 j) (fun W hW=>by have h9:=uh HD4; have h10:=uh HD5; go_simp) (by simp only [Act.put,sa1,sa2,sa3]; rfl) ?_
     refine LinY.rd (.pointer (some ⟨bB,j * 2,none⟩)) (fun W hW=>by go_simp) (by simp only [Act.put,sa1,sa2,sa3]; rfl) ?_
     refine LinY.rd (.pointer (some ⟨bB,j * 2,none⟩)) (fun W hW=>by go_simp) (by simp only [Act.put,sa1,sa2,sa3]; rfl) ?_
     refine LinY.rd (.slice j1 j2 j3) (fun W hW=>by have h9:=hW.cell (uh HX1) (by simp); go_simp) (by simp only [Act.put,sa1,sa2,sa3]; rfl) ?_
     refine LinY.rd (.slice j1 j2 j3) (fun W hW=>by go_simp) (by simp only [Act.put,sa1,sa2,sa3]; rfl) ?_
     refine LinY.fin (ChL.fin ?_)
     go_wp2_with fail
     go_meet
     case rel=>exact ⟨qj,_,_,_,rfl,hide ((uh HKV2).old hdr (by simp)),HQ2,hide hdr⟩
  case rest =>
  clear hB HKV HQ
  obtain ⟨qk,κ1,κ2,κ3,rfl,HKV,HQ,HKc⟩:=hcut
  have HMV:=hide ((uh HM9).kept (uh HKc))
  have HKW:=hide ((uh HK9).trans (uh HKc) (by simp))
  have HZK:=hide (show -9223372036854775808≤(k:Int)∧(k:Int)≤9223372036854775807 by omega)
  clear HM9 HK9 HKc HC HP1 HP2
  go_wp2_with fail
  refine Calls.mono (xa9a _ k _ _ L qk wc (uh HMV).m (uh HKV) (uh HQ) ((uh HT).k (uh HKW))) ?_
  rintro e w10 ⟨sv,pv,rfl,hp10,k10⟩
  obtain ⟨s1,s2,s3,p1,p2,p3,rfl,rfl⟩:=hp10.p.form
  obtain ⟨ss,ps,hpc⟩:=hp10.p.h hk (uh HQ) (uh HMV).m.srt (uh HMV).m.fit (by have h8:=(uh HMV).nL; omega)
  have HA:=hide (heap_alloc_new w10 (.cells #[.slice s1 s2 s3,.slice p1 p2 p3] 64))
  have hka:=(Kept.refl [] w10).alloc (.cells #[.slice s1 s2 s3,.slice p1 p2 p3] 64)
  have HMB:=hide ((uh HMV).kept (k10.trans hka (by simp)))
  have HKB:=hide ((uh HKW).trans (k10.trans hka (by simp)) (by simp))
  have HKVB:=hide ((uh HKV).old (k10.trans hka (by simp)) (by simp))
  have HPB:=hide (hpc.old hka)
  obtain ⟨w11,hw11⟩:∃ w11,w10.alloc (.cells #[.slice s1 s2 s3,.slice p1 p2 p3] 64) = w11:=⟨_,rfl⟩
  rw [hw11] at HA HMB HKB HKVB HPB
  clear hp10 k10 hka hpc HMV HKW HKV
  go_upto_region 9 with fail
  try rw [hw11]
  clear hw11
  have hRl:=xa8t hk L
  have HRd:=hide hRl
  have hrl:(rootP k L).length = 32:=hRl.1
  have HROOT:=hide (fun (W:World) (hW:Kept [] w11 W)=>xb3a _ k _ L W ((uh HMB).kept hW).m ((uh HT).k ((uh HKB).trans hW (by simp))))
  have HCK:=hide (fun (W:World) (hW:Kept [] w11 W)=>(have hp:=(uh HPB).old hW; xa4e (k:Int) (rootP k L) _ qk _ _ ss ps W (uh HZK) hRl ((uh HKVB).old hW (by simp)) hp.s hp.p ((uh HT).k ((uh HKB).trans hW (by simp))) hp.pb (by have h8:=hp.sl; omega) hp.pl hp.kl))
  rw [(uh HPB).ce,(uh HPB).cv,show ((0:Nat):Int) = 0 from rfl] at HCK
  have HRO:=hide (fun (W:World) (hW:Kept [] w11 W)=>(have hp:=(uh HPB).old hW; xa4w (k:Int) _ qk _ _ ss ps W (uh HZK) ((uh HKVB).old hW (by simp)) hp.s hp.p ((uh HT).k ((uh HKB).trans hW (by simp))) hp.pb (by have h8:=hp.sl; omega) hp.pl hp.kl))
  rw [(uh HPB).e,(uh HPB).d,(uh HPB).v,show ((0:Nat):Int) = 0 from rfl] at HRO
  have HBG:=hide (fun (W:World) (hW:Kept [] w11 W)=>xb8n w7 gb _ l bs _ qk W ((uh HMB).kept hW).b ((uh HKVB).old hW (by simp)) (by have h8:=(uh HMB).nb; omega))
  rw [(uh HMB).e qk] at HBG
  obtain ⟨FN,hFN⟩:∃ FN,(getP qk L).isSome = FN:=⟨_,rfl⟩
  obtain ⟨Y,hY⟩:∃ Y,(getP qk L).getD [] = Y:=⟨_,rfl⟩
  rw [hFN,hY] at HCK HRO HBG
  have HHA:=hide (xa0j [] [.slice s1 s2 s3,.slice p1 p2 p3] [] (uh HA) rfl:w11.rangeAt w10.heap.size 0 [.slice s1 s2 s3,.slice p1 p2 p3])
  clear hFN hY hRl
  have hd4:=(Kept.refl [] w11).drew
  refine lp_a11 (by kernel_rfl) (by kernel_rfl) rfl (fun W=>Kept [] w11 W) hd4 ?_
  refine LinY.rd (.int .i64 k) (fun W hW=>by go_simp) (by simp only [Act.put,sa1,sa2,sa3]; rfl) ?_
  refine LinY.rd (.pointer (some ⟨g,0,none⟩)) (fun W hW=>by go_simp) (by simp only [Act.put,sa1,sa2,sa3]; rfl) ?_
  refine LinY.rd (.slice κ1 κ2 κ3) (fun W hW=>by go_simp) (by simp only [Act.put,sa1,sa2,sa3]; rfl) ?_
  refine LinY.ld 64 (.tmp 13) rfl w10.heap.size 0 rfl [.slice s1 s2 s3,.slice p1 p2 p3] _ (fun W hW=>hW.rng (uh HHA) (by simp)) Tryz.underlying64 rfl Tryz.size_kp (by simp only [Act.put,sa1,sa2,sa3]; rfl) ?_
  refine LinY.fin (ChL.call rfl Tryz.call38 [.pointer (some ⟨g,0,none⟩)] rfl (uh HROOT w11.drew hd4) ?_)
  rintro e w13 ⟨rfl,k13⟩
  have hk13:=hd4.trans k13 (by simp)
  refine ⟨_,rfl,hk13,?_⟩
  simp only [Act.put,sa1,sa2,sa3]
  refine ChL.call rfl Tryz.call37 [.int .i64 k,.agg (brow (rootP k L)),.slice κ1 κ2 κ3,.agg #[.slice s1 s2 s3,.slice p1 p2 p3]] rfl (uh HCK w13 hk13) ?_
  rintro e w14 ⟨⟨v14,rfl,r14⟩,k14⟩
  obtain ⟨ya,yn,yc,rfl,_⟩:=id r14
  have hk14:=hk13.trans k14 (by simp)
  refine ⟨_,rfl,hk14,?_⟩
  simp only [Act.put,sa1,sa2,sa3]
  refine ChL.fin ⟨hk14,?_⟩
  refine LinY.rd (.tuple #[.slice ya yn yc,.bool FN,.int .i64 0]) (fun W hW=>by go_simp) (by simp only [Act.put,sa1,sa2,sa3]; rfl) ?_
  refine LinY.rd (.slice ya yn yc) (fun W hW=>by go_simp) (by simp only [Act.put,sa1,sa2,sa3]; rfl) ?_
  refine LinY.rd (.bool FN) (fun W hW=>by go_simp) (by simp only [Act.put,sa1,sa2,sa3]; rfl) ?_
  refine LinY.rd (.int .i64 0) (fun W hW=>by go_simp) (by simp only [Act.put,sa1,sa2,sa3]; rfl) ?_
  refine LinY.rd (.slice ya yn yc) (fun W hW=>by go_simp) (by simp only [Act.put,sa1,sa2,sa3]; rfl) ?_
  refine LinY.rd (.bool FN) (fun W hW=>by go_simp) (by simp only [Act.put,sa1,sa2,sa3]; rfl) ?_
  refine LinY.rd (.int .i64 0) (fun W hW=>by go_simp) (by simp only [Act.put,sa1,sa2,sa3]; rfl) ?_
  refine LinY.fin ?_
  have HK14:=hide hk14
  have HV14:=hide r14
  clear hk14 k14 hk13 k13 hd4 r14 HCK
  go_wp2_with fail
  refine Calls.mono (uh HBG w14 (uh HK14)) ?_
  rintro e w15 ⟨xv,rfl,rx,k15⟩
  obtain ⟨xa,xn,xc,rfl,_⟩:=id rx
  have HX15:=hide rx
  have HV15:=hide ((uh HV14).old k15 (by simp))
  have HK15:=hide ((uh HK14).trans k15 (by simp))
  clear rx k15 HBG HV14 HK14
  go_upto_region 11 with fail
  go_wp2_with fail
  refine Calls.mono (xa2k _ _ Y Y w15 (uh HV15) (uh HX15)) ?_
  rintro e w16 ⟨rfl,k16⟩
  subst w16
  rw [decide_eq_true rfl]
  clear HX15
  go_upto_region 13 with fail
  have HHB:=hide ((uh HK15).heap (uh HA) (by simp))
  go_wp2_with (refine wpList_load_row rfl 64 (.tmp 13) rfl w10.heap.size rfl 64 #[.slice s1 s2 s3,.slice p1 p2 p3] (0,0) _ (uh HHB) Tryz.underlying64 rfl Tryz.size_kp ?_)
  refine Calls.mono (uh HRO w15 (uh HK15)) ?_
  rintro e w17 ⟨⟨v17,rfl,r17⟩,k17⟩
  obtain ⟨ra,rn,rc,rfl,_⟩:=id r17
  have HZ1:=hide (heap_alloc_new w17 (.cells (zb 32) 58))
  have HX0:=hide (setRow_heap _ _ _ (brow (rootP k L)) _ _ (uh HZ1))
  have HKz:=hide ((Kept.refl [] w17).alloc (.cells (zb 32) 58) |>.setRow (g:=w17.heap.size) (Or.inr (Nat.le_refl _)) (brow (rootP k L)))
  have HSD:=hide (by rw [xa0a,hrl]; exact Tryz.size_dig:(Tryz.prog.info? 58).map (·.size) = some (brow (rootP k L)).size)
  obtain ⟨w18,hw18⟩:∃ w18,(w17.alloc (.cells (zb 32) 58)).setRow w17.heap.size (brow (rootP k L)) = w18:=⟨_,rfl⟩
  rw [hw18] at HX0 HKz
  have HK1518:=hide (k17.trans (uh HKz) (by simp))
  have HR18:=hide (Rd.old r17 (uh HKz) (by simp))
  have HV18:=hide ((uh HV15).old (uh HK1518) (by simp))
  have HK18:=hide ((uh HK15).trans (uh HK1518) (by simp))
  clear k17 r17 HKz HV15 HHB
  go_upto_region 14 with (rw [zb32]; refine wpList_store_row rfl 58 (.tmp 20) (.tmp 125) rfl w17.heap.size (brow (rootP k L)) rfl rfl _ (zb 32) (uh HZ1) (uh HSD) (by rw [xa0d,xa0a,hrl]) (xa0b _) ?_; rw [hw18]; simp only [Act.put])
  clear hw18
  have HSA:=hide (fun (W:World) (hW:Kept [] w18 W)=>(xa2k _ _ Y Y W ((uh HR18).old hW (by simp)) ((uh HV18).old hW (by simp))).mono (fun e w2 h2=>(⟨h2.1,by rw [h2.2]; exact hW⟩:e = .returned (.bool (decide (Y = Y)))∧Kept [] w18 w2)))
  have hYY:decide (Y = Y) = true:=decide_eq_true rfl
  rw [hYY] at HSA
  have HRT:=hide (fun (W:World) (hW:Kept [] w18 W)=>(uh HROOT W ((uh HK18).trans hW (by simp))).mono (fun e w2 h2=>(⟨h2.1,hW.trans h2.2 (by simp)⟩:e = .returned (.agg (brow (rootP k L)))∧Kept [] w18 w2)))
  have heq:=fun W=>dig_eq W (rootP k L) (rootP k L) hrl hrl
  rw [decide_eq_true rfl] at heq
  refine xa0i (by kernel_rfl) (by kernel_rfl) ?_
  iterate 1 (go_big_quiet_step (fail))
  refine xa0f rfl (.bool false) (fun w' hw'=>by go_simp) ?_
  simp only [Act.put,List.setIfInBounds_toArray,List.set_cons_succ,List.set_cons_zero]
  iterate 1 (go_big_quiet_step (fail))
  refine xa0r rfl 58 (.tmp 20) rfl w17.heap.size rfl _ (brow (rootP k L)) (0,0) _ (fun w' hw'=>hw'.heap (uh HX0) (by simp)) Tryz.underlying58 rfl (uh HSD) ?_
  simp only [Act.put,List.setIfInBounds_toArray,List.set_cons_succ,List.set_cons_zero]
  go_big_quiet_step (fail)
  go_big_quiet_want
  go_big_quiet_op
  apply Exists.intro
  refine ⟨fun w' hw'=>?_,?_⟩
  · exact uh HRT w' hw'
  go_big_quiet_on
  refine xa0f rfl (.bool false) (fun w' hw'=>xc0h 58 (.tmp 132) (.tmp 134) _ rfl (brow (rootP k L)) (brow (rootP k L)) rfl rfl w' true (by kernel_rfl) (heq w')) ?_
  simp only [Act.put,List.setIfInBounds_toArray,List.set_cons_succ,List.set_cons_zero]
  refine xa0f rfl (.bool false) (fun w' hw'=>by go_simp) ?_
  simp only [Act.put,List.setIfInBounds_toArray,List.set_cons_succ,List.set_cons_zero]
  iterate 3 (go_big_quiet_step (fail))
  refine xa0f rfl (.bool false) (fun w' hw'=>by go_simp) ?_
  simp only [Act.put,List.setIfInBounds_toArray,List.set_cons_succ,List.set_cons_zero]
  refine xa0f rfl (.bool false) (fun w' hw'=>by go_simp) ?_
  simp only [Act.put,List.setIfInBounds_toArray,List.set_cons_succ,List.set_cons_zero]
  iterate 3 (go_big_quiet_step (fail))
  go_big_quiet_want
  go_big_quiet_op
  apply Exists.intro
  refine ⟨fun w' hw'=>?_,?_⟩
  · exact uh HSA w' hw'
  go_big_quiet_on
  refine xa0f rfl (.bool false) (fun w' hw'=>by go_simp) ?_
  simp only [Act.put,List.setIfInBounds_toArray,List.set_cons_succ,List.set_cons_zero]
  refine xa0f rfl (.bool false) (fun w' hw'=>by go_simp) ?_
  simp only [Act.put,List.setIfInBounds_toArray,List.set_cons_succ,List.set_cons_zero]
  refine wpQuiet_nil ?_
  intro w19 hw19
  have HK19:=hide ((uh HK18).trans hw19 (by simp))
  clear hw19 HSA HRT heq hYY HR18 HV18 HX0 HSD HZ1 HRO HK18 HK1518
  go_upto_region 16 with fail
  go_cut [24] (fun k24 wd=>∃ g4 x1 x2 x3,k24 = .pointer (some ⟨g4,0,none⟩)∧Hid (RdS wd (.slice x1 x2 x3) (ss++[(0,[])]))∧Hid (wd.rangeAt g4 0 [.slice x1 x2 x3,.slice p1 p2 p3])∧Hid (Kept [] w19 wd))
  case first =>
    have hkb:=(uh HK19).rng (uh HHA) (by simp)
    have hrs:=(uh HPB).s.old (uh HK19)
    have hrl:=(uh HPB).sl
    refine xb0q (by kernel_rfl) (by kernel_rfl) (by kernel_rfl) rfl (by kernel_rfl) rfl rfl rfl rfl rfl rfl rfl rfl rfl rfl rfl rfl rfl rfl ⟨by kernel_rfl,by kernel_rfl⟩ (by kernel_rfl) (by kernel_rfl) ⟨by kernel_rfl,by kernel_rfl⟩ (by kernel_rfl) ⟨by kernel_rfl,by kernel_rfl⟩ (kb:=w10.heap.size) rfl hkb hrs hrl ?_
    intro gz g4 x1 x2 x3 W hg hrs2 hrg hkk
    simp only [List.foldl_cons,List.foldl_nil,Act.put,sa1,sa2,sa3]
    rw [hg]
    have HQ1:=hide hrs2
    have HQ2:=hide hrg
    have HQ3:=hide hkk
    clear hrs2 hrg hkk hkb hrs hrl
    go_wp2_with fail
    go_meet
    case rel=>exact ⟨g4,x1,x2,x3,rfl,HQ1,HQ2,HQ3⟩
  case rest =>
  obtain ⟨g4,x1,x2,x3,rfl,HSL,HH24,HKc⟩:=hcut
  have HK20:=hide ((uh HK19).trans (uh HKc) (by simp))
  have HPC:=hide ((uh HPB).old (uh HK20))
  obtain ⟨w20,hw20⟩:∃ w20,wc = w20:=⟨_,rfl⟩
  subst hw20
  have HLC:=hide (fun (W:World) (hW:Kept [] wc W)=>(have hp:=(uh HPC).old hW; xa4e (k:Int) (rootP k L) _ qk _ _ (ss++[(0,[])]) ps W (uh HZK) (uh HRd) ((uh HKVB).old ((uh HK20).trans hW (by simp)) (by simp)) ((uh HSL).old hW) hp.p ((uh HT).k ((uh HKB).trans ((uh HK20).trans hW (by simp)) (by simp))) hp.pb (by rw [List.length_append,List.length_singleton]; have h8:=hp.sl; omega) hp.pl (fun s hs=>by
    rcases List.mem_append.1 hs with h9 | h9
    · exact hp.kl s h9
    · rw [List.mem_singleton.1 h9]; exact Nat.zero_le _)))
  rw [xb1m (uh HPB).e (uh HPB).ce,xb8d (uh HPB).e (uh HPB).ce,show ((10:Nat):Int) = 10 from rfl,show (none:Option (List Nat)).isSome = false from rfl] at HLC
  have HRT24:=hide (fun (W:World) (hW:Kept [] wc W)=>uh HROOT W ((uh HK20).trans hW (by simp)))
  clear HKc HK19 HSL
  go_upto_region 17 with fail
  have hd4:=(Kept.refl [] wc).drew
  refine lp_a11 (by kernel_rfl) (by kernel_rfl) rfl (fun W=>Kept [] wc W) hd4 ?_
  refine LinY.rd (.int .i64 k) (fun W hW=>by go_simp) (by simp only [Act.put,sa1,sa2,sa3]; rfl) ?_
  refine LinY.rd (.pointer (some ⟨g,0,none⟩)) (fun W hW=>by go_simp) (by simp only [Act.put,sa1,sa2,sa3]; rfl) ?_
  refine LinY.rd (.slice κ1 κ2 κ3) (fun W hW=>by go_simp) (by simp only [Act.put,sa1,sa2,sa3]; rfl) ?_
  refine LinY.ld 64 (.tmp 24) rfl g4 0 rfl [.slice x1 x2 x3,.slice p1 p2 p3] _ (fun W hW=>hW.rng (uh HH24) (by simp)) Tryz.underlying64 rfl Tryz.size_kp (by simp only [Act.put,sa1,sa2,sa3]; rfl) ?_
  refine LinY.fin (ChL.call rfl Tryz.call38 [.pointer (some ⟨g,0,none⟩)] rfl (uh HRT24 wc.drew hd4) ?_)
  rintro e wa24 ⟨rfl,ka24⟩
  have hka24:=hd4.trans ka24 (by simp)
  refine ⟨_,rfl,hka24,?_⟩
  simp only [Act.put,sa1,sa2,sa3]
  refine ChL.call rfl Tryz.call37 [.int .i64 k,.agg (brow (rootP k L)),.slice κ1 κ2 κ3,.agg #[.slice x1 x2 x3,.slice p1 p2 p3]] rfl (uh HLC wa24 hka24) ?_
  rintro e wb24 ⟨⟨vb,rfl,rb⟩,kb24⟩
  obtain ⟨y24a,y24b,y24c,rfl,_⟩:=id rb
  have hkb24:=hka24.trans kb24 (by simp)
  refine ⟨_,rfl,hkb24,?_⟩
  simp only [Act.put,sa1,sa2,sa3]
  refine ChL.fin ⟨hkb24,?_⟩
  refine LinY.rd (.tuple #[.slice y24a y24b y24c,.bool false,.int .i64 10]) (fun W hW=>by go_simp) (by simp only [Act.put,sa1,sa2,sa3]; rfl) ?_
  refine LinY.rd (.slice y24a y24b y24c) (fun W hW=>by go_simp) (by simp only [Act.put,sa1,sa2,sa3]; rfl) ?_
  refine LinY.rd (.bool false) (fun W hW=>by go_simp) (by simp only [Act.put,sa1,sa2,sa3]; rfl) ?_
  refine LinY.rd (.int .i64 10) (fun W hW=>by go_simp) (by simp only [Act.put,sa1,sa2,sa3]; rfl) ?_
  refine LinY.rd (.slice y24a y24b y24c) (fun W hW=>by go_simp) (by simp only [Act.put,sa1,sa2,sa3]; rfl) ?_
  refine LinY.rd (.bool false) (fun W hW=>by go_simp) (by simp only [Act.put,sa1,sa2,sa3]; rfl) ?_
  refine LinY.rd (.int .i64 10) (fun W hW=>by go_simp) (by simp only [Act.put,sa1,sa2,sa3]; rfl) ?_
  refine LinY.fin ?_
  have HK21:=hide hkb24
  clear hkb24 kb24 hka24 ka24 hd4 rb
  have HKW:=hide ((uh HKB).trans ((uh HK20).trans (uh HK21) (by simp)) (by simp))
  have HKV:=hide ((uh HKVB).old ((uh HK20).trans (uh HK21) (by simp)) (by simp))
  clear HLC HRT24 HH24 HPC HROOT HPB HHA HK20 HK21 HA HKB HKVB
  go_wp2_with fail
  refine Calls.mono (xa7j k hk (.slice none 0 0) [] wb24 (RdN.nil _) (by simp) ((uh HT).k (uh HKW))) ?_
  rintro e w23 ⟨g5,gb5,rfl,sl5,l5,bs5,hmp5⟩
  rw [xb9a] at hmp5
  have HM5:=hide hmp5
  have HK23:=hide hmp5.b.kk
  clear hmp5
  go_wp2_with fail
  refine Calls.mono (xa9a _ k _ _ [] qk w23 (uh HM5).m ((uh HKV).old (uh HK23) (by simp)) (uh HQ) ((uh HT).k ((uh HKW).trans (uh HK23) (by simp)))) ?_
  rintro e w25 ⟨sv,pv,rfl,hp25,k25⟩
  obtain ⟨m0,hps,hpp,hwy⟩:=hp25.p
  have hm0:=xb8h hwy
  subst hm0
  have hce:=p_ckE hk (uh HQ) hwy (uh HM5).m.srt (uh HM5).m.fit
  have hcv:=p_ckV hk (uh HQ) hwy (uh HM5).m.srt (uh HM5).m.fit
  rw [xb6p] at hpp hce hcv
  rw [show prfL k qk [] 0 = [] from rfl] at hps hce hcv
  obtain ⟨z1,z2,z3,zv,rfl,hz2,_⟩:=id hps
  obtain ⟨t1,t2,t3,tu,tv,rfl,ht2,_⟩:=id hpp
  simp only [List.length_nil] at hz2 ht2
  subst hz2
  subst ht2
  have HA:=hide (heap_alloc_new w25 (.cells #[.slice z1 0 z3,.slice t1 0 t3] 64))
  have hka:=(Kept.refl [] w25).alloc (.cells #[.slice z1 0 z3,.slice t1 0 t3] 64)
  obtain ⟨w26,hw26⟩:∃ w26,w25.alloc (.cells #[.slice z1 0 z3,.slice t1 0 t3] 64) = w26:=⟨_,rfl⟩
  rw [hw26] at HA hka
  have HK26:=hide ((uh HK23).trans (k25.trans hka (by simp)) (by simp))
  have HPS:=hide (hps.old (hka))
  have HPP:=hide (hpp.old (hka))
  have HM6:=hide ((uh HM5).kept (k25.trans hka (by simp)))
  go_upto_region 22 with fail
  try rw [hw26]
  clear hw26 hps hpp k25 hka hp25 hwy HM5
  have HH30:=hide (xa0j [] [.slice z1 0 z3,.slice t1 0 t3] [] (uh HA) rfl:w26.rangeAt w25.heap.size 0 [.slice z1 0 z3,.slice t1 0 t3])
  have HRT30:=hide (fun (W:World) (hW:Kept [] w26 W)=>xb3a _ k _ [] W ((uh HM6).kept hW).m ((uh HT).k ((uh HKW).trans ((uh HK26).trans hW (by simp)) (by simp))))
  have HLC:=hide (fun (W:World) (hW:Kept [] w26 W)=>xa4e (k:Int) (rootP k []) _ qk _ _ [] [] W (uh HZK) (xa8t hk []) ((uh HKV).old ((uh HK26).trans hW (by simp)) (by simp)) ((uh HPS).old hW) ((uh HPP).old hW) ((uh HT).k ((uh HKW).trans ((uh HK26).trans hW (by simp)) (by simp))) (by simp [pairB]) (by simp) (by simp) (by simp))
  rw [hce,hcv,show ((0:Nat):Int) = 0 from rfl,show (getP qk []).isSome = false from rfl] at HLC
  clear hce hcv
  have hd4:=(Kept.refl [] w26).drew
  refine lp_a11 (by kernel_rfl) (by kernel_rfl) rfl (fun W=>Kept [] w26 W) hd4 ?_
  refine LinY.rd (.int .i64 k) (fun W hW=>by go_simp) (by simp only [Act.put,sa1,sa2,sa3]; rfl) ?_
  refine LinY.rd (.pointer (some ⟨g5,0,none⟩)) (fun W hW=>by go_simp) (by simp only [Act.put,sa1,sa2,sa3]; rfl) ?_
  refine LinY.rd (.slice κ1 κ2 κ3) (fun W hW=>by go_simp) (by simp only [Act.put,sa1,sa2,sa3]; rfl) ?_
  refine LinY.ld 64 (.tmp 30) rfl w25.heap.size 0 rfl [.slice z1 0 z3,.slice t1 0 t3] _ (fun W hW=>hW.rng (uh HH30) (by simp)) Tryz.underlying64 rfl Tryz.size_kp (by simp only [Act.put,sa1,sa2,sa3]; rfl) ?_
  refine LinY.fin (ChL.call rfl Tryz.call38 [.pointer (some ⟨g5,0,none⟩)] rfl (uh HRT30 w26.drew hd4) ?_)
  rintro e wa30 ⟨rfl,ka30⟩
  have hka30:=hd4.trans ka30 (by simp)
  refine ⟨_,rfl,hka30,?_⟩
  simp only [Act.put,sa1,sa2,sa3]
  refine ChL.call rfl Tryz.call37 [.int .i64 k,.agg (brow (rootP k [])),.slice κ1 κ2 κ3,.agg #[.slice z1 0 z3,.slice t1 0 t3]] rfl (uh HLC wa30 hka30) ?_
  rintro e wb30 ⟨⟨vb,rfl,rb⟩,kb30⟩
  obtain ⟨y30a,y30b,y30c,rfl,_⟩:=id rb
  have hkb30:=hka30.trans kb30 (by simp)
  refine ⟨_,rfl,hkb30,?_⟩
  simp only [Act.put,sa1,sa2,sa3]
  refine ChL.fin ⟨hkb30,?_⟩
  refine LinY.rd (.tuple #[.slice y30a y30b y30c,.bool false,.int .i64 0]) (fun W hW=>by go_simp) (by simp only [Act.put,sa1,sa2,sa3]; rfl) ?_
  refine LinY.rd (.slice y30a y30b y30c) (fun W hW=>by go_simp) (by simp only [Act.put,sa1,sa2,sa3]; rfl) ?_
  refine LinY.rd (.bool false) (fun W hW=>by go_simp) (by simp only [Act.put,sa1,sa2,sa3]; rfl) ?_
  refine LinY.rd (.int .i64 0) (fun W hW=>by go_simp) (by simp only [Act.put,sa1,sa2,sa3]; rfl) ?_
  refine LinY.rd (.slice y30a y30b y30c) (fun W hW=>by go_simp) (by simp only [Act.put,sa1,sa2,sa3]; rfl) ?_
  refine LinY.rd (.bool false) (fun W hW=>by go_simp) (by simp only [Act.put,sa1,sa2,sa3]; rfl) ?_
  refine LinY.rd (.int .i64 0) (fun W hW=>by go_simp) (by simp only [Act.put,sa1,sa2,sa3]; rfl) ?_
  refine LinY.fin ?_
  have HK31:=hide hkb30
  clear hkb30 kb30 hka30 ka30 hd4 rb
  have HKF:=hide ((uh HKW).trans ((uh HK26).trans (uh HK31) (by simp)) (by simp))
  have hc0:wb30.cell? ⟨w25.heap.size,0,none⟩ = some (.slice z1 0 z3):=(uh HK31).cell (uh HH30 0 _ rfl) (by simp)
  have hc1:wb30.cell? ⟨w25.heap.size,1,none⟩ = some (.slice t1 0 t3):=(uh HK31).cell (uh HH30 1 _ rfl) (by simp)
  clear HLC HRT30 HH30 HPS HPP HM6 HA
  go_wp2
  go_ret
  exact ⟨rfl,(uh HKF).below (Nat.le_refl _) (by simp)⟩
end
section
open Go.ChangeShapes Go.WideShapes Go.ChangeAt Go.RowKit Go.Deep
theorem own:ownKnob Tryz.prog.godebug = none:=by kernel_rfl
theorem laidOut:laidOutB Tryz.prog = true:=by kernel_rfl
theorem xa3v {x:Int} (h:(Lit.int .u8 x).wf = true):0≤x∧x < 256:=by
  simp [Lit.wf,IntKind.min,IntKind.max,IntKind.signed,IntKind.bits] at h
  exact ⟨by omega,by omega⟩
theorem xb7r {H:Type} (d:DataW H):1≤Rows.uptoBulk d:=by
  cases d with
  | lit l=>cases l <;> simp [Rows.uptoBulk]
  | nil=>simp [Rows.uptoBulk]
  | ptr d=>simp [Rows.uptoBulk]
  | slice elems spare=>simp [Rows.uptoBulk]
  | agg parts=>simp [Rows.uptoBulk]
  | iface t d=>simp [Rows.uptoBulk]
  | map entries=>simp [Rows.uptoBulk]
  | held h=>simp [Rows.uptoBulk]
theorem xb8e {H:Type} (l:List (DataW H)):l.length≤Rows.uptoBulkAll l:=by
  induction l with
  | nil=>simp [Rows.uptoBulkAll]
  | cons x r ih=>have:=xb7r x; simp only [Rows.uptoBulkAll,List.length_cons]; omega
section
variable {H:Type} {enc:TypeId × Value→H} {W:World}
theorem xa4l {fuel:Nat} {cs:List Value} {x:DataW H × List MemPlace} (h:DataW.trod enc Tryz.prog W 0 (fun _=>true) true fuel 23 cs = some x) :
    ∃ v bs,cs = [v]∧(bs.length≤140737488355328→Rd W v bs)∧((bs = []∧x.1 = .nil)∨∃ elems spare,x.1 = .slice elems spare∧elems.length = bs.length):=by
  rcases open_ints Tryz.underlying23 Tryz.underlying5 (by kernel_rfl) h with ⟨rfl,rfl⟩ | ⟨a,len,cap,zs,rfl,_,hl,hm,hz,rfl,hcell,hwz⟩
  · exact ⟨_,[],rfl,fun _=>Rd.nil W,.inl ⟨rfl,rfl⟩⟩
  · have h2:(lits (H:=H) .u8 (zs.take len)).length = len:=by simp only [lits,List.length_map,List.length_take]; simp at hz; omega
    have hbl:((zs.take len).map Int.toNat).length = len:=by simp at hz; simp; omega
    refine ⟨_,(zs.take len).map Int.toNat,rfl,fun hB=>⟨_,_,_,rfl,hbl,hl,⟨by unfold maxLen at hm; omega,by omega⟩,by simp,?_,?_⟩,.inr ⟨_,_,rfl,by rw [h2,hbl]⟩⟩
    · intro y hy
      obtain ⟨z,hz1,rfl⟩:=List.mem_map.1 hy
      have:=xa3v (hwz z (List.mem_of_mem_take hz1)); omega
    · intro hp
      simp at hz
      have hc0:=hcell 0 (by omega)
      obtain ⟨b,off,spot⟩:=a
      have hspot:spot = none:=by simpa [Addr.add] using World.cell?_spot hc0
      subst hspot
      refine ⟨b,off,rfl,fun i hi=>?_⟩
      have hc:=hcell i (by omega)
      have hzi:i < zs.length:=by omega
      rw [Addr.add_mid] at hc
      rw [hc]
      have hw:=xa3v (hwz (zs[i]) (List.getElem_mem hzi))
      simp only [List.getD_eq_getElem?_getD,List.getElem?_eq_getElem hzi,Option.getD_some,List.getElem?_map,List.getElem?_take,hi,if_true,Option.map_some]
      simp [u8]; omega
theorem xa3u {d:DataW H} {bs:List Nat} (hx:(bs = []∧d = .nil)∨∃ elems spare,d = .slice elems spare∧elems.length = bs.length):bs.length + 1≤Rows.uptoBulk d:=by
  rcases hx with ⟨rfl,rfl⟩ | ⟨elems,spare,rfl,he⟩
  · simp [Rows.uptoBulk]
  · have:=xb8e elems
    simp only [Rows.uptoBulk]; omega
end
section
variable {H:Type} {enc:TypeId × Value→H} {W:World}
theorem xb0n {d:DataW H} {l:List (DataW H)} (h:d∈l):Rows.uptoBulk d≤Rows.uptoBulkAll l:=by
  induction l with
  | nil=>simp at h
  | cons a l ih =>
    simp only [Rows.uptoBulkAll]
    rcases List.mem_cons.1 h with rfl | h
    · omega
    · have:=ih h; omega
theorem xb3w (D:Nat→DataW H) (l:List Nat) (h:∀ i∈l,1≤Rows.uptoBulk (D i)):l.length≤Rows.uptoBulkAll (l.map D):=by
  induction l with
  | nil=>simp
  | cons a l ih =>
    have h1:=h a (by simp)
    have h2:=ih (fun i hi=>h i (by simp [hi]))
    simp only [List.map_cons,Rows.uptoBulkAll,List.length_cons]
    omega
theorem xb3x (cs:List Value) (a n:Nat):cs.drop a = (cs.drop a).take n++cs.drop (a + n):=by
  rw [← List.drop_drop,List.take_append_drop]
theorem xb3t {fuel:Nat} {cs:List Value} {x:DataW H × List MemPlace} (h:DataW.trod enc Tryz.prog W 0 (fun _=>true) true fuel 85 cs = some x) (hB:Rows.uptoBulk x.1≤1048576) :
    ∃ (e:En) (kv vv:Value),cs = (enC e kv vv).toList∧OkE W e kv vv∧e.key.length + e.val.length + 2≤Rows.uptoBulk x.1:=by
  obtain ⟨xs,n,_,rfl,hl,hlen,hf⟩:=DataW.trod_struct Tryz.underlying85 h
  rw [show Tryz.prog.cellsOf 85 = 3 from by kernel_rfl] at hl
  match xs,hlen with
  | [y0,y1,y2],_ =>
    have ci:Tryz.prog.cellsOf 5 = 1:=by kernel_rfl
    have cb:Tryz.prog.cellsOf 23 = 1:=by kernel_rfl
    have f0:DataW.trod enc Tryz.prog W 0 (fun _=>true) true n 5 ((cs.drop 0).take 1) = some y0:=by rw [← ci]; exact hf 0 _ rfl
    have f1:DataW.trod enc Tryz.prog W 0 (fun _=>true) true n 23 ((cs.drop 1).take 1) = some y1:=by have this:DataW.trod enc Tryz.prog W 0 (fun _=>true) true n 23 ((cs.drop 1).take (Tryz.prog.cellsOf 23)) = some y1:=hf 1 _ rfl; rw [cb] at this; exact this
    have f2:DataW.trod enc Tryz.prog W 0 (fun _=>true) true n 23 ((cs.drop 2).take 1) = some y2:=by have this:DataW.trod enc Tryz.prog W 0 (fun _=>true) true n 23 ((cs.drop 2).take (Tryz.prog.cellsOf 23)) = some y2:=hf 2 _ rfl; rw [cb] at this; exact this
    simp only [List.map_cons,List.map_nil,Rows.uptoBulk,Rows.uptoBulkAll] at hB ⊢
    obtain ⟨k,e0,_,w0⟩:=DataW.trod_int Tryz.underlying5 f0
    obtain ⟨kv,key,e1,hr1,hb1⟩:=xa4l f1
    obtain ⟨vv,val,e2,hr2,hb2⟩:=xa4l f2
    have g1:=xa3u hb1
    have g2:=xa3u hb2
    have hk:=xa3v w0
    refine ⟨⟨k.toNat,key,val⟩,kv,vv,?_,⟨by show k.toNat < 256; omega,hr1 (by omega),hr2 (by omega)⟩,by show key.length + val.length + 2≤_; omega⟩
    have hd:cs.drop 3 = []:=List.drop_eq_nil_of_le (by omega)
    have this:=xb3x cs 0 1
    rw [e0,xb3x cs 1 1,e1,xb3x cs 2 1,e2,hd,List.drop_zero] at this
    rw [this]
    simp [enC,Int.toNat_of_nonneg hk.1]
instance:Inhabited En:=⟨⟨0,[],[]⟩⟩
theorem xa8g {fuel:Nat} {cs:List Value} {x:DataW H × List MemPlace} (h:DataW.trod enc Tryz.prog W 0 (fun _=>true) true fuel 79 cs = some x) (hB:Rows.uptoBulk x.1≤1048576) :
    ∃ v es,cs = [v]∧RdN W v es∧es.length≤1048576:=by
  rcases open_slice Tryz.underlying79 h with ⟨rfl,rfl⟩ | ⟨a,len,cap,m,n,D,Pl,rfl,_,hl,hm,hmm,rfl,hx⟩
  · exact ⟨_,[],rfl,RdN.nil W,by simp⟩
  · have hC:Tryz.prog.cellsOf 85 = 3:=by kernel_rfl
    rw [hC] at hx
    simp only [if_true] at hmm
    simp only [Rows.uptoBulk] at hB
    obtain ⟨f,hf⟩:=choose_lt (α:=En × Value × Value) (n:=len) (p:=fun i o=>((∀ j v,(enC o.1 o.2.1 o.2.2).toList[j]? = some v→W.cell? ((a.add (i * 3)).add j) = some v)∧OkE W o.1 o.2.1 o.2.2)∧1≤Rows.uptoBulk (D i)) (by
      intro i hi
      obtain ⟨cs',h1,h2⟩:=hx i (by omega)
      have hDi:Rows.uptoBulk (D i)≤Rows.uptoBulkAll ((List.range len).map D):=xb0n (List.mem_map.2 ⟨i,List.mem_range.2 hi,rfl⟩)
      obtain ⟨o,kv,vv,rfl,ho,hbb⟩:=xb3t h2 (by simp only; omega)
      obtain ⟨_,hlen,hc⟩:=World.cells?_some h1
      refine ⟨(o,kv,vv),⟨fun j v hv=>?_,ho⟩,by simp only at hbb; omega⟩
      have hj:=(List.getElem?_eq_some_iff.1 hv).1
      have:=hc j hj
      rw [this,← hv,List.getElem?_eq_getElem hj])
    refine ⟨_,(List.range len).map fun i=>(f i).1,rfl,⟨some a,len,cap,fun i=>(f i).2.1,fun i=>(f i).2.2,rfl,by simp,hl,by unfold maxLen at hm; omega,?_,?_⟩,?_⟩
    · intro i hi
      have hi':i < len:=by simpa using hi
      have:=(hf i hi').1.2
      simpa using this
    · intro hp
      obtain ⟨b,off,spot⟩:=a
      have h0:=(hf 0 hp).1
      have hc0:=h0.1 0 _ rfl
      have hspot:spot = none:=by simpa [Addr.add] using World.cell?_spot hc0
      subst hspot
      refine ⟨b,off,rfl,fun i hi j v hv=>?_⟩
      have hi':i < len:=by simpa using hi
      have e9:((List.range len).map fun i=>(f i).1)[i] = (f i).1:=by simp
      rw [e9] at hv
      have:=(hf i hi').1.1 j v hv
      rw [Addr.add_mid,Addr.add_mid] at this
      exact this
    · have:=xb3w D (List.range len) (fun i hi=>(hf i (List.mem_range.1 hi)).2)
      simp only [List.length_map,List.length_range] at this ⊢
      omega
end
end
end Go.Proofs.YtepmjkkjhjkdgaaGreatDoor
