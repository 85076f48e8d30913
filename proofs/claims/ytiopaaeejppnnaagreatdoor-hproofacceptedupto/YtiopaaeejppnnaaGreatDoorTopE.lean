import Derived.Test.YtiopaaeejppnnaaGreatDoorTopD
namespace Go.Proofs.YtiopaaeejppnnaaGreatDoor
set_option linter.unusedVariables false
set_option linter.unusedSimpArgs false
set_option maxRecDepth 100000
section
open Go.RowKit Go.BigFrame
theorem xc0s {a1 b1:Option Addr} {a2 a3 b2 b3:Nat}:Tryz.prog.built 35 [(0,.slice a1 a2 a3),(1,.slice b1 b2 b3)] = some #[.slice a1 a2 a3,.slice b1 b2 b3]:=by kernel_rfl
theorem Tryz.size_kp:(Tryz.prog.info? 35).map (·.size) = some 2:=by kernel_rfl
theorem Tryz.size_stpP:(Tryz.prog.info? 64).map (·.size) = some 2:=by kernel_rfl
theorem xa6x {S:Nat→Prop} {k:Nat} {W:World} {v:Value} {L:Prs} (h:MapAt S k W v L):∃ g,v = .pointer (some ⟨g,0,none⟩):=by
  obtain ⟨g,tv,e,_⟩:=h.at_
  exact ⟨g,e⟩
def mixL (k:Nat) (q:List Nat) (L:Prs) (m i:Nat):List Stp:=(List.range m).map (fun j=>if j < i then prf k q L j else stp k q L j)
theorem xa6j (k:Nat) (q:List Nat) (L:Prs) (m i:Nat):(mixL k q L m i).length = m:=by simp [mixL]
theorem xb6c (k:Nat) (q:List Nat) (L:Prs) (m:Nat):mixL k q L m 0 = (List.range m).map (stp k q L):=by
  unfold mixL
  exact List.map_congr_left (fun j _=>by rw [if_neg (by omega)])
theorem xb9z (k:Nat) (q:List Nat) (L:Prs) (m:Nat):mixL k q L m m = prfL k q L m:=by
  unfold mixL prfL
  exact List.map_congr_left (fun j hj=>by rw [if_pos (by simpa using hj)])
theorem xb3n {k:Nat} {q:List Nat} {L:Prs} {m i:Nat} (hi:i < m):(mixL k q L m i).getD i (0,[]) = stp k q L i:=by
  unfold mixL
  rw [List.getD_eq_getElem?_getD,List.getElem?_map,List.getElem?_range hi]
  simp
theorem xb7q {k:Nat} {q:List Nat} {L:Prs} {m i:Nat} (hi:i < m):(mixL k q L m i).set i (prf k q L i) = mixL k q L m (i + 1):=by
  apply List.ext_getElem
  · simp [mixL]
  · intro j h1 h2
    simp only [mixL,List.length_map,List.length_range] at h2
    simp only [mixL,List.getElem_set,List.getElem_map,List.getElem_range]
    by_cases e:i = j
    · subst e; simp
    · rw [if_neg e]
      by_cases g:j < i
      · rw [if_pos g,if_pos (by omega)]
      · rw [if_neg g,if_neg (by omega)]
def ProofN (k B:Nat) (w:World) (q:List Nat) (L:Prs) (sv pv:Value):Prop:=∃ m gs C l,SLP B w sv pv gs (prfL k q L m) (dnL (hsZ k) q L m) C l∧WayM k q L m
def ProofP (k:Nat) (w:World) (q:List Nat) (L:Prs) (sv pv:Value):Prop:=∃ m,RdS w sv (prfL k q L m)∧RdK w pv (dnL (hsZ k) q L m)∧WayM k q L m
theorem ProofN.p {k B:Nat} {w:World} {q:List Nat} {L:Prs} {sv pv:Value} (h:ProofN k B w q L sv pv):ProofP k w q L sv pv:=by
  obtain ⟨m,gs,C,l,h1,h2⟩:=h
  exact ⟨m,h1.st.rdS,h1.ly.rdK,h2⟩
theorem xb7h {k:Nat} (hk:1≤k∧k≤32) {q:List Nat} {L:Prs} {m i:Nat} (h:WayM k q L m):(stp k q L i).1.testBit (dgt ((hsZ k).kd q) i) = true→cnt (stp k q L i).1 (dgt ((hsZ k).kd q) i) < (stp k q L i).2.length:=fun hb=>(p_kid (hsZ_ok hk) (f:=63 - i) hb).1
set_option maxHeartbeats 8000000 in
theorem xa9y (S:Nat→Prop) (k:Nat) (mv kv:Value) (L:Prs) (q:List Nat) (w:World) (hM:MapAt S k w mv L) (hku:Rd w kv q) (hq:q.length≤64) (hT:Tabs w) :
    Calls Tryz.prog 12 #[mv,kv] w fun e w'=>∃ sv pv,e = .returned (.tuple #[.agg #[sv,pv],.int .i64 0])∧ProofN k w.heap.size w' q L sv pv∧Kept [] w w':=by
  have HM:=hide hM
  have hk:=hM.ok
  have HKU:=hide hku
  have HTb:=hide hT
  have hH:=hsZ_ok hk
  obtain ⟨mg,rfl⟩:=(xa6x hM)
  obtain ⟨ka,kn,kc,rfl,hkn,_⟩:=id hku
  have hkn2:¬ (kn:Int) > 64:=by omega
  have hkn3:¬ (64:Int) < kn:=by omega
  have HQ:=hide hq
  have HG0:=hide (heap_alloc_new w (.cells #[.slice none 0 0,.slice none 0 0] 35))
  have HK0:=hide ((Kept.refl [] w).alloc (.cells #[.slice none 0 0,.slice none 0 0] 35))
  obtain ⟨W,hW⟩:∃ W,w.alloc (.cells #[.slice none 0 0,.slice none 0 0] 35) = W:=⟨_,rfl⟩
  rw [hW] at HG0 HK0
  have hDg:Dg ((hsZ k).kd q):=hH.dg q
  have HWN:=hide (xb7r S k _ _ L q W ((uh HM).agr (Agr.nil (uh HK0))) ((uh HKU).old (uh HK0) (by simp)) hq ((uh HTb).k (uh HK0)))
  clear hM hku hT hq hkn
  go_enter Tryz.func12,Tryz.ntmps12
  go_upto_region 1 with fail
  try rw [hW]
  clear hW
  go_wp2_with fail
  refine Calls.mono (uh HWN) ?_
  clear HWN
  rintro e w1 ⟨sv,pv,rfl,⟨m,gs,C,l,hsn,hway,hcap⟩,k1⟩
  have HK1:=hide ((uh HK0).trans k1 (by simp))
  have HG1:=hide (k1.heap (uh HG0) (by simp))
  have HS1:=hide hsn
  have HWY:=hide hway
  have HCAP:=hide hcap
  have hm2:=hway.le hk
  obtain ⟨so,sc,rfl⟩:=xa0i hsn.st.own
  obtain ⟨po,pc,rfl⟩:=xa0i hsn.ly.own
  have hml:((List.range m).map (stp k q L)).length = m:=by simp
  rw [hml]
  obtain ⟨pn,hpn⟩:∃ pn,l.length = pn:=⟨_,rfl⟩
  rw [hpn]
  rw [hpn,hml] at HS1
  have HBW:=hide (show w.heap.size < W.heap.size from lt_of_block (uh HG0))
  clear k1 hsn hway hcap hpn
  go_wp2_with fail
  refine Calls.mono (xc1m S k _ L w1 ((uh HM).agr (Agr.nil (uh HK1)))) ?_
  rintro e w2 ⟨rfl,k2⟩
  have HK2:=hide ((uh HK1).trans k2 (by simp))
  have HG2:=hide (k2.heap (uh HG1) (by simp))
  have HS2:=hide ((uh HS1).kept k2)
  clear k2
  go_wp2_with fail
  refine Calls.mono (xa7e (k:Int) _ q w2 (by omega) ((uh HKU).old (uh HK2) (by simp)) (by have:=uh HQ; omega) ((uh HTb).k (uh HK2))) ?_
  rintro e w3 ⟨rfl,k3⟩
  have hDe:sumD (k:Int) (2 :: q) = (hsZ k).kd q:=rfl
  have hse:sumE (k:Int) = 0:=by unfold sumE; rw [wide_k hk]; rfl
  rw [hDe,hse]
  obtain ⟨D,hD⟩:∃ D,(hsZ k).kd q = D:=⟨_,rfl⟩
  rw [hD] at hDg ⊢
  have hDl:=hDg.1
  have HAT:=hide (show ∀ i,i < m→atC (k:Int) D (i:Int) = dgt D i from fun i hi=>by rw [← hD]; exact p_dgt hk q (by omega))
  have HPF:=hide (show ∀ i,prf k q L i = wod (stp k q L i) (dgt D i) from fun i=>by rw [← hD]; rfl)
  have HCT:=hide (show ∀ i,(stp k q L i).1.testBit (dgt D i) = true→cnt (stp k q L i).1 (dgt D i) < (stp k q L i).2.length from fun i=>by rw [← hD]; exact xb7h hk (uh HWY))
  have HK3:=hide ((uh HK2).trans k3 (by simp))
  have HG3:=hide (k3.heap (uh HG2) (by simp))
  have HS3:=hide ((uh HS2).kept k3)
  have HZ1:=hide (heap_alloc_new w3 (.cells (zb 32) 50))
  have HX0:=hide (setRow_heap _ _ _ (brow D) _ _ (uh HZ1))
  have HK34:=hide ((Kept.refl [] w3).alloc (.cells (zb 32) 50) |>.setRow (g:=w3.heap.size) (Or.inr (Nat.le_refl _)) (brow D))
  obtain ⟨W0,hW0⟩:∃ W0,(w3.alloc (.cells (zb 32) 50)).setRow w3.heap.size (brow D) = W0:=⟨_,rfl⟩
  rw [hW0] at HX0 HK34
  have HK4:=hide ((uh HK3).trans (uh HK34) (by simp))
  have HG4:=hide ((uh HK34).heap (uh HG3) (by simp))
  have HS4:=hide ((uh HS3).kept (uh HK34))
  have HSD:=hide (by rw [xa0a,hDl]; exact Tryz.size_dig:(Tryz.prog.info? 50).map (·.size) = some (brow D).size)
  have HLT:=hide (uh HS3).st.lts
  have HGL:=hide (show gs.length = m by have h1:=(uh HS3).st.len; rw [hml] at h1; exact h1)
  have HS5:Hid (SLP W.heap.size W0 (.slice so m sc) (.slice po pn pc) gs (mixL k q L m 0) (dnL (hsZ k) q L m) C l):=hide (by rw [xb6c]; exact uh HS4)
  obtain ⟨E,hE⟩:∃ E,dnL (hsZ k) q L m = E:=⟨_,rfl⟩
  rw [hE] at HS5
  have HE:=hide hE
  clear hE
  clear k3 hD hDe hse HG1 HG2 HG3 HS1 HS2 HS3 HS4 HK34 HK1 HK2 HK3 HG0 HM HKU
  go_wp2_with (rw [zb32]; refine wpList_store_row rfl 50 (.tmp 10) (.tmp 37) rfl w3.heap.size (brow D) rfl rfl _ (zb 32) (uh HZ1) (uh HSD) (by rw [xa0d,xa0a,hDl]) (xa0c _) ?_; rw [hW0]; simp only [Act.put])
  clear hW0 HZ1
  go_loopw [41] (fun t41 wr=>∃ (i:Nat),t41 = .int .i64 i∧i≤m∧Hid (SLP W.heap.size wr (.slice so m sc) (.slice po pn pc) gs (mixL k q L m i) E C l)∧Hid (wr.heap[w3.heap.size]? = some (.cells (brow D) 50 (0,0)))∧Hid (wr.heap[w.heap.size]? = some (.cells #[.slice none 0 0,.slice none 0 0] 35 (0,0)))∧Hid (Kept [] w wr)) (fun t _=>m - (intOf t).toNat)
  case atStart=>exact ⟨0,rfl,Nat.zero_le _,HS5,HX0,HG4,HK4⟩
  case round =>
    clear HS5 HX0 HG4 HK4
    obtain ⟨i,rfl,hi,HSr,HXr,HGr,HKr⟩:=hrel
    by_cases hlt:i < m
    · have hlt':(i:Int) < m:=by omega
      have hil:i < (mixL k q L m i).length:=by rw [xa6j]; exact hlt
      obtain ⟨g,c,hv,hBg,hrg,cur,hcur⟩:=(uh HSr).st.at_ hil
      have hkid:=(uh HSr).st.kid i hil
      have hmn:(mixL k q L m i).length = m:=xa6j _ _ _ _ _
      rw [hmn] at hv
      have hso:so = some ⟨g,0,none⟩:=by injection hv
      have hsc:sc = c:=by injection hv
      subst hso
      subst hsc
      clear hv
      rw [xb3n hlt] at hrg hkid
      have hgC:=(uh HSr).lo.2 g rfl
      have hg3:=(uh HLT).2 g rfl
      have hmem:gs.getD i (0,0)∈gs:=by
        have:=uh HGL
        rw [List.getD_eq_getElem?_getD,List.getElem?_eq_getElem (by omega)]; exact List.getElem_mem _
      have hpC:=(uh HSr).lo.1 _ hmem
      have hp3:=(uh HLT).1 _ hmem
      have hcap:=uh HCAP i hlt
      have hPF:=uh HPF i
      have hct:=uh HCT i
      have hat:=uh HAT i hlt
      obtain ⟨ST,hST⟩:∃ ST,stp k q L i = ST:=⟨_,rfl⟩
      rw [hST] at hrg hkid hcap hPF hct
      have HST:=hide hST
      obtain ⟨P,hP⟩:∃ P,gs.getD i (0,0) = P:=⟨_,rfl⟩
      rw [hP] at hrg hkid hcap hpC hp3
      have HP:=hide hP
      obtain ⟨x,ds⟩:=ST
      obtain ⟨p1,p2⟩:=P
      obtain ⟨hnw,hne,⟨zs,hrow,hzs,hz1⟩,hcp,hbm,hdg⟩:=hkid
      simp only at hrg hcap hPF hct hpC hp3 hnw hne hrow hzs hcp hbm hdg
      subst hcap
      have hzn:zs = []:=List.eq_nil_of_length_eq_zero (by rw [hzs,Nat.sub_self])
      subst hzn
      rw [List.append_nil] at hrow
      have hgp:p1≠g:=fun e=>hne (by rw [e]; rfl)
      obtain ⟨n,hn⟩:∃ n,ds.length = n:=⟨_,rfl⟩
      have hstv:stV (x,ds) (p1,ds.length) = [.int .u16 (x:Int),.slice (some ⟨p1,0,none⟩) n n]:=by unfold stV; rw [hn]
      rw [hn] at hct hcp
      rw [hstv] at hrg
      have HRG:=hide hrg
      have HCUR:=hide hcur
      obtain ⟨dg,hdgt⟩:∃ dg,dgt D i = dg:=⟨_,rfl⟩
      rw [hdgt] at hPF hct hat
      have hdl16:dg < 16:=by rw [← hdgt]; exact dgt_lt hDg.2 i
      have hA:=heap_alloc_new wr (.cells #[.int .u16 (x:Int),.slice (some ⟨p1,0,none⟩) n n] 64)
      have hkA:=(Kept.refl [] wr).alloc (.cells #[.int .u16 (x:Int),.slice (some ⟨p1,0,none⟩) n n] 64)
      have HA:=hide hA
      have HKA:=hide hkA
      have HXA:=hide (hkA.heap (uh HXr) (by simp))
      have HIR:=hide (show p1 < wr.heap.size∧g < wr.heap.size from ⟨lt_of_block hrow,block_lt_of_cell (hrg 0 _ rfl)⟩)
      have HRW:=hide hrow
      obtain ⟨wa,hwa⟩:∃ wa,wr.alloc (.cells #[.int .u16 (x:Int),.slice (some ⟨p1,0,none⟩) n n] 64) = wa:=⟨_,rfl⟩
      rw [hwa] at HA HKA HXA
      clear hA hkA hrg hcur hdgt hST hP hmem hstv hil hmn hrow
      go_upto_region 11 with (refine wpList_load_mid rfl 64 (.tmp 44) rfl g (i * 2) rfl [.int .u16 (x:Int),.slice (some ⟨p1,0,none⟩) n n] _ (uh HRG) Tryz.underlying64 rfl Tryz.size_stpP ?_)
      try simp only [Act.put]
      try rw [hwa]
      clear hwa
      go_wp2_with (refine wpList_load_row rfl 50 (.tmp 10) rfl w3.heap.size rfl 50 (brow D) (0,0) _ (uh HXA) Tryz.underlying50 rfl (uh HSD) ?_)
      refine Calls.mono (at_any (k:Int) D (i:Int) wa (by omega) (by omega) hDg) ?_
      rintro e wb ⟨rfl,kb⟩
      rw [hat]
      have HB:=hide (kb.heap (uh HA) (by simp))
      have HKrb:=hide ((uh HKA).trans kb (by simp))
      have HWC:=hide (xa9g x dg p1 n ds wb hbm hdl16 ((uh HKrb).heap (uh HRW) (by simp)) hn (fun d hd=>(hdg d hd).1) hcp.2 hct)
      clear kb hat hct
      go_wp2_with (refine wpList_load_row rfl 64 (.tmp 13) rfl wr.heap.size rfl 64 #[.int .u16 (x:Int),.slice (some ⟨p1,0,none⟩) n n] (0,0) _ (uh HB) Tryz.underlying64 rfl Tryz.size_stpP ?_)
      refine Calls.mono (uh HWC) ?_
      clear HWC
      rintro e wc ⟨zs,rfl,hhc,hzl,hzo,kc⟩
      have hq1:wb.cell? ⟨g,i * 2 + 1,none⟩ = some (.slice (some ⟨p1,0,none⟩) n n):=(uh HKrb).cell (uh HRG 1 _ rfl) (by simp)
      have hq2:wc.cell? ⟨g,i * 2 + 1,none⟩ = some (.slice (some ⟨p1,0,none⟩) n n):=kc.cell hq1 (by simp; exact fun e=>hgp e.symm)
      have hq3:wc.frozen? ⟨g,i * 2 + 1,none⟩ = false:=frozen_of_row _ _ _ _ _ (kc.heap ((uh HKrb).heap (uh HCUR) (by simp)) (by simp; exact fun e=>hgp e.symm))
      obtain ⟨d2,hd2⟩:∃ d2,(wod (x,ds) dg).2 = d2:=⟨_,rfl⟩
      rw [hd2] at hhc hzl ⊢
      have hl2:d2.length≤n:=by
        rw [← hd2,← hn]
        show (if _ then _ else _:List (List Nat)).length≤_
        split
        · exact List.length_eraseIdx_le _ _
        · exact Nat.le_refl _
      have hdd2:∀ d∈d2,Dg d:=fun d hd=>by
        rw [← hd2] at hd
        have hd3:d∈(if x.testBit dg = true then ds.eraseIdx (cnt x dg) else ds):=hd
        split at hd3
        · exact hdg d (List.mem_of_mem_eraseIdx hd3)
        · exact hdg d hd3
      have hPD:=uh HP
      rw [hn] at hPD
      have hprf:prf k q L i = (x,d2):=by rw [hPF,← hd2]; rfl
      have hsb:=(uh HSr).kept (uh HKrb)
      have hkc:KidB W.heap.size wc (.slice (some ⟨g,0,none⟩) m sc) (((mixL k q L m i).getD i (0,[])).1,d2) (gs.getD i (0,0)):=by
        rw [xb3n hlt,uh HST,hPD]
        exact ⟨hnw,hne,⟨zs,hhc,hzl,hzo⟩,⟨hl2,hcp.2⟩,hbm,hdd2⟩
      have hpt:=hsb.st.put (i:=i) (by rw [xa6j]; exact hlt) (g:=g) (c:=sc) (by rw [xa6j]) (by rw [hPD]; exact kc) hkc
      rw [xb3n hlt,uh HST,hPD] at hpt
      simp only at hpt
      rw [← hprf,xb7q hlt] at hpt
      have hKg:=(Kept.refl [g] wc).setCell (p:=⟨g,i * 2 + 1,none⟩) (Or.inl (by simp)) (.slice (some ⟨p1,0,none⟩) d2.length n)
      have hly:=(hsb.ly.far kc (fun y hy=>by rw [List.mem_singleton.1 hy]; exact hpC)).far hKg (fun y hy=>by rw [List.mem_singleton.1 hy]; exact hgC)
      have HSd:=hide (show SLP W.heap.size _ _ _ _ _ _ _ _ from ⟨hpt,hly,hsb.lo,hsb.bc⟩)
      have hxb:=(uh HKrb).heap (uh HXr) (by simp)
      have hgb:=(uh HKrb).heap (uh HGr) (by simp)
      have hbw:=uh HBW
      have HXd:=hide (hKg.heap (kc.heap hxb (by simp; omega)) (by simp; omega))
      have HGd:=hide (hKg.heap (kc.heap hgb (by simp; omega)) (by simp; omega))
      have HKd:=hide ((((uh HKr).trans (uh HKrb) (by simp)).trans kc (fun y hy=>Or.inr (by rw [List.mem_singleton.1 hy]; omega))).setCell (p:=⟨g,i * 2 + 1,none⟩) (Or.inr (show w.heap.size≤g by omega)) (.slice (some ⟨p1,0,none⟩) d2.length n))
      clear hq1 hhc hzl hzo kc hd2 hl2 hdd2 hPD hprf hsb hkc hpt hKg hly hxb hgb hbw hPF hdg hn
      go_wp2_with fail
      refine ⟨⟨i + 1,by go_num,hlt,HSd,HXd,HGd,HKd⟩,?_⟩
      simp [intOf]; omega
    · have hie:i = m:=by omega
      subst hie
      have hlt':¬ (i:Int) < i:=by omega
      have HWP:=hide (setRow_heap _ _ _ #[.slice so i sc,.slice po pn pc] _ _ (uh HGr))
      have hKz:=(Kept.refl [w.heap.size] wr).setRow (g:=w.heap.size) (Or.inl (by simp)) #[.slice so i sc,.slice po pn pc]
      have HSz:=hide ((uh HSr).far hKz (fun y hy=>by rw [List.mem_singleton.1 hy]; exact uh HBW))
      have HKz:=hide ((uh HKr).setRow (g:=w.heap.size) (Or.inr (Nat.le_refl _)) #[.slice so i sc,.slice po pn pc])
      clear hKz
      go_wp2_with (first
        | (refine xa0o rfl 35 _ rfl #[.slice so i sc,.slice po pn pc] (by simp only [List.map_toArray,List.map_cons,List.map_nil]; exact xc0s) ?_)
        | (refine wpList_store_row rfl 35 (.tmp 4) (.tmp 63) rfl w.heap.size #[.slice so i sc,.slice po pn pc] rfl rfl _ #[.slice none 0 0,.slice none 0 0] (uh HGr) Tryz.size_kp rfl (p_two1 rfl rfl) ?_))
      refine bodyPost_ret (v:=.tuple #[.agg #[.slice so i sc,.slice po pn pc],.int .i64 0]) ?_ rfl ?_
      · exact xa0e rfl _ _ w.heap.size _ #[.slice so i sc,.slice po pn pc] (0,0) _ rfl (uh HWP) Tryz.underlying35 rfl Tryz.size_kp (.int .i64 0) rfl
      · have h9:=uh HSz
        rw [xb9z,← uh HE] at h9
        exact ⟨_,_,rfl,⟨i,gs,C,l,h9.base (uh HK0).size,uh HWY⟩,uh HKz⟩
theorem SLay.far {B:Nat} {w w':World} {v:Value} {l:List (Nat × Value)} {ss:List Stp} {M:List Nat} (h:SLay B w v l ss) (k:Kept M w w') (hM:∀ y∈M,y < B):SLay B w' v l ss :=
  ⟨k.owns h.own (fun b hb hm=>by have h1:=(h.own.lt b hb).1; have h2:=hM b hm; omega),h.len,fun i hi=>⟨(h.pr i hi).1,(h.pr i hi).2.1,(h.pr i hi).2.2.agr ⟨k.size,fun x hx hl=>k.block x hl (fun hm=>by have h1:=hM x hm; have h2:=hx.1; omega)⟩⟩⟩
theorem Tryz.size_sts:(Tryz.prog.info? 33).map (·.size) = some 1:=by kernel_rfl
theorem Tryz.size_prs:(Tryz.prog.info? 22).map (·.size) = some 1:=by kernel_rfl
theorem rd_far {w w':World} {g:Nat} {v:Value} {q:List Nat} {a1 a2:Option Addr} {b1 b2 c1 c2:Nat} {t:TypeId} (h:Rd w v q) (k:Kept [g] w w') (hg:w.heap[g]? = some (.cells #[.slice a1 b1 c1,.slice a2 b2 c2] t (0,0))):Rd w' v q:=by
  obtain ⟨ao,len,cap,rfl,h1,h2,h3,h4,h5,h6⟩:=h
  refine ⟨ao,len,cap,rfl,h1,h2,h3,h4,h5,fun hp=>?_⟩
  obtain ⟨b,off,rfl,hc⟩:=h6 hp
  refine ⟨b,off,rfl,fun i hi=>k.cell (hc i hi) (fun hm=>?_)⟩
  have e:=List.mem_singleton.1 hm
  have e2:b = g:=e
  subst e2
  have h9:=hc i hi
  rw [cell_of_row _ _ _ _ _ _ hg] at h9
  have h10:off + i = 0∨off + i = 1∨2≤off + i:=by omega
  rcases h10 with e3 | e3 | e3
  · rw [e3] at h9; simp [u8] at h9
  · rw [e3] at h9; simp [u8] at h9
  · rw [Array.getElem?_eq_none (by simpa using e3)] at h9; cases h9
theorem RdK.far {w w':World} {g:Nat} {v:Value} {ps:Prs} {a1 a2:Option Addr} {b1 b2 c1 c2:Nat} {t:TypeId} (h:RdK w v ps) (k:Kept [g] w w') (hb:g∉blk v) (hg:w.heap[g]? = some (.cells #[.slice a1 b1 c1,.slice a2 b2 c2] t (0,0))):RdK w' v ps:=by
  obtain ⟨ao,n,c,ks,vs,rfl,h1,h2,h3,h4,h5⟩:=h
  refine ⟨ao,n,c,ks,vs,rfl,h1,h2,h3,fun i hi=>⟨rd_far (h4 i hi).1 k hg,rd_far (h4 i hi).2 k hg⟩,fun hp=>?_⟩
  obtain ⟨b,off,rfl,hc⟩:=h5 hp
  have hn:b∉[g]:=fun hm=>hb (by rw [← List.mem_singleton.1 hm]; simp [blk])
  exact ⟨b,off,rfl,fun i hi=>⟨k.cell (hc i hi).1 hn,k.cell (hc i hi).2 hn⟩⟩
theorem SLay.base {B B':Nat} {w:World} {v:Value} {l:List (Nat × Value)} {ss:List Stp} (h:SLay B w v l ss) (hb:B'≤B):SLay B' w v l ss :=
  ⟨⟨h.own.1,h.own.2.elim Or.inl (fun ⟨g,cap,cur,hv,hg,r⟩=>Or.inr ⟨g,cap,cur,hv,Nat.le_trans hb hg,r⟩)⟩,h.len,fun i hi=>⟨(h.pr i hi).1,(h.pr i hi).2.1,(h.pr i hi).2.2.mono (fun x hx=>⟨Nat.le_trans hb hx.1,hx.2⟩)⟩⟩
def ProofR (k B:Nat) (w:World) (q:List Nat) (L:Prs) (sv pv:Value):Prop:=∃ m sl,SLay B w sv sl (prfL k q L m)∧RdK w pv (dnL (hsZ k) q L m)∧(∀ y∈blk pv,B≤y)∧WayM k q L m
theorem ProofR.p {k B:Nat} {w:World} {q:List Nat} {L:Prs} {sv pv:Value} (h:ProofR k B w q L sv pv):ProofP k w q L sv pv:=by
  obtain ⟨m,sl,h1,h2,_,h4⟩:=h
  exact ⟨m,h1.rdS,h2,h4⟩
theorem ProofP.form {k:Nat} {w:World} {q:List Nat} {L:Prs} {sv pv:Value} (h:ProofP k w q L sv pv):∃ s1 s2 s3 p1 p2 p3,sv = .slice s1 s2 s3∧pv = .slice p1 p2 p3:=by
  obtain ⟨m,⟨s1,s2,s3,_,e2,_⟩,⟨p1,p2,p3,_,_,e,_⟩,_⟩:=h
  exact ⟨s1,s2,s3,p1,p2,p3,e2,e⟩
theorem SLay.at_ {w:World} {v:Value} {ss:List Stp} (h:RdS w v ss):∃ ao c,v = .slice ao ss.length c:=by
  obtain ⟨ao,len,cap,vs,e,h1,_⟩:=h
  exact ⟨ao,cap,by rw [e,h1]⟩
set_option maxHeartbeats 8000000 in
theorem xb1f (T:Nat→Prop) (k:Nat) (hk:1≤k∧k≤32) (mv qv:Value) (q:List Nat) (L:Prs) (w:World) (hM:IAt T k w mv L) (hq:Rd w qv q) (hql:q.length≤140737488351232) (hs:Srt (hsZ k) L) (hfit:Fit L) (hl:L.length≤1000000000) (hT:∀ y,w.heap.size≤y→T y) :
    Calls Tryz.prog 33 #[.int .i64 k,mv,qv] w fun e w'=>∃ sv pv,e = .returned (.agg #[sv,pv])∧ProofR k w.heap.size w' q L sv pv∧Kept [] w w':=by
  have hH:=hsZ_ok hk
  have HM:=hide hM
  have HQ:=hide hq
  have HS:=hide hs
  have HFI:=hide hfit
  have HT:=hide hT
  have hDg:Dg ((hsZ k).kd q):=hH.dg q
  have hDe:sumD (k:Int) (2 :: q) = (hsZ k).kd q:=rfl
  have HG0:=hide (heap_alloc_new w (.cells #[.slice none 0 0,.slice none 0 0] 35))
  have HK0:=hide ((Kept.refl [] w).alloc (.cells #[.slice none 0 0,.slice none 0 0] 35))
  obtain ⟨W,hW⟩:∃ W,w.alloc (.cells #[.slice none 0 0,.slice none 0 0] 35) = W:=⟨_,rfl⟩
  rw [hW] at HG0 HK0
  have HW0L:=hide (show w.heap.size < W.heap.size from lt_of_block (uh HG0))
  have HWK:=hide (xb3a T k hk mv qv q L W ((uh HM).agr (Agr.nil (uh HK0))) ((uh HQ).old (uh HK0) (by simp)) hql (uh HS) (uh HFI) hl (fun y hy=>uh HT y (by have:=(uh HK0).size; omega)))
  have HQL:=hide hql
  clear hM hq hs hfit hT hl hql
  go_enter Tryz.func33,Tryz.ntmps33
  go_upto_region 1 with fail
  try rw [hW]
  clear hW
  go_wp2_with fail
  refine Calls.mono (uh HWK) ?_
  clear HWK
  rintro e w1 ⟨sv,pv,rfl,⟨m,hrs,hrk,hns,hsg⟩,npv,k1⟩
  have HWY:=hide (show WayM k q L m from ⟨hns,hsg⟩)
  have HK1:=hide ((uh HK0).trans k1 (by simp))
  have HG1:=hide (k1.heap (uh HG0) (by simp))
  have HRS1:=hide hrs
  have HNPV:=hide npv
  have HRK1:=hide hrk
  have hm2:=(uh HWY).le hk
  obtain ⟨so,sc,rfl⟩:=SLay.at_ hrs
  have hml:((List.range m).map (stp k q L)).length = m:=by simp
  rw [hml] at HRS1 ⊢
  obtain ⟨po,pn,pc,_,_,rfl,_⟩:=id hrk
  clear k1 hrs hrk hns hsg hml npv
  go_wp2_with fail
  refine Calls.mono (xa4d k qv q w1 hk ((uh HQ).old (uh HK1) (by simp)) (uh HQL)) ?_
  rintro e w3 ⟨rfl,k3⟩
  rw [hDe]
  obtain ⟨D,hD⟩:∃ D,(hsZ k).kd q = D:=⟨_,rfl⟩
  rw [hD] at hDg ⊢
  have hDl:=hDg.1
  have HPF:=hide (show ∀ i,prf k q L i = wod (stp k q L i) (dgt D i) from fun i=>by rw [← hD]; rfl)
  have HK3:=hide ((uh HK1).trans k3 (by simp))
  have HG3:=hide (k3.heap (uh HG1) (by simp))
  have HRS3:=hide ((uh HRS1).old k3)
  have HRK3:=hide ((uh HRK1).old k3)
  have HZ1:=hide (heap_alloc_new w3 (.cells (zb 32) 50))
  have HX0:=hide (setRow_heap _ _ _ (brow D) _ _ (uh HZ1))
  have HK34:=hide ((Kept.refl [] w3).alloc (.cells (zb 32) 50) |>.setRow (g:=w3.heap.size) (Or.inr (Nat.le_refl _)) (brow D))
  obtain ⟨W0,hW0⟩:∃ W0,(w3.alloc (.cells (zb 32) 50)).setRow w3.heap.size (brow D) = W0:=⟨_,rfl⟩
  rw [hW0] at HX0 HK34
  have HSD:=hide (by rw [xa0a,hDl]; exact Tryz.size_dig:(Tryz.prog.info? 50).map (·.size) = some (brow D).size)
  go_upto_region 3 with (rw [zb32]; refine wpList_store_row rfl 50 (.tmp 9) (.tmp 22) rfl w3.heap.size (brow D) rfl rfl _ (zb 32) (uh HZ1) (uh HSD) (by rw [xa0d,xa0a,hDl]) (xa0c _) ?_; rw [hW0]; simp only [Act.put])
  clear hW0 HZ1
  have HP0:=hide (heap_alloc_new W0 (.cells #[.slice none 0 0,.slice none 0 0] 35))
  have HKp:=hide ((Kept.refl [] W0).alloc (.cells #[.slice none 0 0,.slice none 0 0] 35))
  obtain ⟨P,hP⟩:∃ P,W0.heap.size = P:=⟨_,rfl⟩
  rw [hP] at HP0
  obtain ⟨W5,hW5⟩:∃ W5,W0.alloc (.cells #[.slice none 0 0,.slice none 0 0] 35) = W5:=⟨_,rfl⟩
  rw [hW5] at HP0 HKp
  have HX5:=hide ((uh HKp).heap (uh HX0) (by simp))
  have HK35:=hide ((uh HK34).trans (uh HKp) (by simp))
  have HK5:=hide ((uh HK3).trans (uh HK35) (by simp))
  have HZP:=hide (show w.heap.size < w3.heap.size∧w3.heap.size < P∧P < W5.heap.size from ⟨lt_of_block (uh HG3),by rw [← hP]; exact lt_of_block (uh HX0),lt_of_block (uh HP0)⟩)
  clear k3 hD hDe HG0 HG1 HRS1 HRK1 HK1 HK3 HK34 HKp HX0 HM HS HFI HT
  go_wp2_with fail
  try rw [hP]
  try rw [hW5]
  clear hP hW5
  go_loopw [25] (fun t25 wr=>∃ (i:Nat) (v:Value) (sl:List (Nat × Value)),t25 = .int .i64 i∧i≤m∧Hid (wr.heap[P]? = some (.cells #[v,.slice none 0 0] 35 (0,0)))∧Hid (SLay W5.heap.size wr v sl ((List.range i).map (prf k q L)))∧Hid (Kept [P] W5 wr)) (fun t _=>m - (intOf t).toNat)
  case atStart=>exact ⟨0,_,[],rfl,Nat.zero_le _,HP0,hide (SLay.nil _ _),hide (Kept.refl _ _)⟩
  case round =>
    obtain ⟨i,v,sl,rfl,hi,HPr,HSL,HKr⟩:=hrel
    have HKw:=hide (show Kept [] w wr from (uh HK5).trans (uh HKr) (fun y hy=>Or.inr (by rw [List.mem_singleton.1 hy]; have:=uh HZP; omega)))
    have HK3r:=hide (show Kept [] w3 wr from (uh HK35).trans (uh HKr) (fun y hy=>Or.inr (by rw [List.mem_singleton.1 hy]; have:=uh HZP; omega)))
    by_cases hlt:i < m
    · have hlt':(i:Int) < m:=by omega
      have hil:i < ((List.range m).map (stp k q L)).length:=by simp; exact hlt
      have hRS3:=uh HRS3
      obtain ⟨b,o,dv,rfl,hr,hb,hd⟩:=hRS3.at_ hil
      have hst:((List.range m).map (stp k q L)).getD i (0,[]) = stp k q L i:=by
        rw [List.getD_eq_getElem?_getD,List.getElem?_map,List.getElem?_range hlt]; rfl
      rw [hst] at hr hb hd
      have hPF:=uh HPF i
      obtain ⟨ST,hST⟩:∃ ST,stp k q L i = ST:=⟨_,rfl⟩
      rw [hST] at hr hb hd hPF
      have hks:ST.2.length≤16:=by
        rw [← hST]
        show ((kidsL (hsZ k) i (dnL (hsZ k) q L i)).map (nodP (hsZ k) (63 - i))).length≤16
        rw [List.length_map,xa1a]; exact cnt_le _ _
      clear hst hST hRS3
      obtain ⟨x,ds⟩:=ST
      simp only at hr hb hd hks
      obtain ⟨dg,hdg⟩:∃ dg,dgt D i = dg:=⟨_,rfl⟩
      have hdl16:dg < 16:=by rw [← hdg]; exact dgt_lt hDg.2 i
      have HRDI:=hide (fun (W:World)=>xa4l D i W hDg (by omega))
      rw [hdg] at HRDI hPF
      have HRG:=hide (show wr.rangeAt b (o + i * 2) [.int .u16 (x:Int),dv] from fun j u hj=>(uh HK3r).cell (hr j u hj) (by simp))
      have HDV:=hide (hd.old (uh HK3r))
      obtain ⟨da,dn,dc,rfl,_⟩:=id hd
      have hA:=heap_alloc_new wr (.cells #[.int .u16 (x:Int),.slice da dn dc] 64)
      have hkA:=(Kept.refl [] wr).alloc (.cells #[.int .u16 (x:Int),.slice da dn dc] 64)
      have HA:=hide hA
      have HKA:=hide hkA
      have HDA:=hide ((uh HDV).old hkA)
      have HXA:=hide (hkA.heap ((uh HKr).heap (uh HX5) (by simp; have:=uh HZP; omega)) (by simp))
      have HPA:=hide (hkA.heap (uh HPr) (by simp))
      obtain ⟨vo,vc,rfl⟩:=xa0i (uh HSL).own
      have HOW:=hide (fun z hz=>(uh HSL).own.lt z hz)
      have hsll:=(uh HSL).len
      rw [List.length_map,List.length_range] at hsll
      have HBS:=hide (show W5.heap.size≤wr.heap.size from (uh HKr).size)
      obtain ⟨wa,hwa⟩:∃ wa,wr.alloc (.cells #[.int .u16 (x:Int),.slice da dn dc] 64) = wa:=⟨_,rfl⟩
      have HSZ:=hide (show wr.heap.size < wa.heap.size by rw [← hwa]; simp)
      rw [hwa] at HA HKA HXA HPA HDA
      have cp0:wa.cell? ⟨P,0,none⟩ = some (.slice vo sl.length vc):=cell_of_row _ _ 0 _ _ _ (uh HPA)
      have HCP:=hide cp0
      clear hA hkA hr hd hdg cp0
      go_upto_region 7 with (refine wpList_load_mid rfl 64 (.tmp 28) rfl b (o + i * 2) rfl [.int .u16 (x:Int),.slice da dn dc] _ (uh HRG) Tryz.underlying64 rfl Tryz.size_stpP ?_)
      try simp only [Act.put]
      try rw [hwa]
      clear hwa
      obtain ⟨OB,hOB⟩:∃ OB,(Value.slice vo sl.length vc).ownBlock = OB:=⟨_,rfl⟩
      have hOBn:P∉OB.toList:=by
        intro hm
        rw [← hOB] at hm
        have h1:=uh HOW P (by simpa using hm)
        have h2:=uh HZP
        omega
      have hOBx:w3.heap.size∉OB.toList:=by
        intro hm
        rw [← hOB] at hm
        have h1:=uh HOW w3.heap.size (by simpa using hm)
        have h2:=uh HZP
        omega
      have hOBw:wr.heap.size∉OB.toList:=by
        intro hm
        rw [← hOB] at hm
        have h1:=uh HOW wr.heap.size (by simpa using hm)
        omega
      have HRA:=hide (xa0l [] [.int .u16 (x:Int),.slice da dn dc] [] (uh HA) rfl:wa.rangeAt wr.heap.size 0 [.int .u16 (x:Int),.slice da dn dc])
      have HRX:=hide (xa0l [] (D.map u8) [] (by rw [List.nil_append,List.append_nil]; exact uh HXA) rfl:wa.rangeAt w3.heap.size 0 (D.map u8))
      have hd4:=(Kept.refl [] wa).drew
      refine lp_rp (by kernel_rfl) (by kernel_rfl) rfl (fun W=>Kept OB.toList wa W) (hd4.mono (by simp)) ?_
      refine LinY.rd (.pointer (some ⟨P,0,none⟩)) (fun W hW=>by go_simp) (by simp only [Act.put,sa1,sa2,sa3]; rfl) ?_
      refine LinY.rd (.slice vo sl.length vc) (fun W hW=>by have h9:=hW.cell (uh HCP) hOBn; go_simp) (by simp only [Act.put,sa1,sa2,sa3]; rfl) ?_
      refine LinY.ld 64 (.tmp 12) rfl wr.heap.size 0 rfl [.int .u16 (x:Int),.slice da dn dc] _ (fun W hW=>hW.rng (uh HRA) hOBw) Tryz.underlying64 rfl Tryz.size_stpP (by simp only [Act.put,sa1,sa2,sa3]; rfl) ?_
      refine LinY.ld 50 (.tmp 9) rfl w3.heap.size 0 rfl (D.map u8) _ (fun W hW=>hW.rng (uh HRX) hOBx) Tryz.underlying50 rfl (by rw [List.length_map,hDl]; exact Tryz.size_dig) (by simp only [Act.put,sa1,sa2,sa3]; rfl) ?_
      refine LinY.rd (.int .i64 i) (fun W hW=>by go_simp) (by simp only [Act.put,sa1,sa2,sa3]; rfl) ?_
      refine LinY.fin (ChL.call rfl Tryz.call61 [.agg (brow D),.int .i64 i] rfl (uh HRDI wa.drew) ?_)
      rintro e w4 ⟨rfl,k4⟩
      have hk4:=hd4.trans k4 (by simp)
      refine ⟨_,rfl,hk4.mono (by simp),?_⟩
      simp only [Act.put,sa1,sa2,sa3]
      refine ChL.call rfl Tryz.call60 [.agg #[.int .u16 (x:Int),.slice da dn dc],.int .i64 dg] rfl (xa8i x dg _ ds w4 hb hdl16 ((uh HDA).old hk4) (by omega)) ?_
      rintro e w5 ⟨v5,rfl,r5,n5,k5⟩
      have hk5:=hk4.trans k5 (by simp)
      refine ⟨_,rfl,hk5.mono (by simp),?_⟩
      simp only [Act.put,sa1,sa2,sa3]
      obtain ⟨d2,hd2⟩:∃ d2,(wod (x,ds) dg).2 = d2:=⟨_,rfl⟩
      rw [hd2] at r5
      obtain ⟨ua,un,uc,rfl,_⟩:=id r5
      have hka:=(Kept.refl [] w5).alloc (.cells #[.int .u16 (x:Int),.slice ua un uc] 64)
      have hk6:=hk5.trans hka (by simp)
      refine ChL.op (.slice (some ⟨w5.heap.size,0,none⟩) 1 1) (xa9d w5 (.tmp 36) rfl (x:Int) _ rfl) (hk6.mono (by simp)) (by simp only [Act.put,sa1,sa2,sa3]; rfl) ?_
      have hrl:RdC 2 (w5.alloc (.cells #[.int .u16 (x:Int),.slice ua un uc] 64)) (.slice (some ⟨w5.heap.size,0,none⟩) 1 1) (stR [(x,.slice ua un uc)]):=⟨_,1,1,rfl,rfl,Nat.le_refl _,by omega,fun _=>⟨w5.heap.size,0,rfl,fun j hj=>by
          have h0:j = 0:=by simp [stR] at hj; omega
          subst h0
          exact xa0l [] [.int .u16 (x:Int),.slice ua un uc] [] (heap_alloc_new w5 _) rfl⟩⟩
      have hly:=((uh HSL).agr (uh HKA)).agr hk6
      have hbs:=uh HBS
      have hsz:=uh HSZ
      refine ChL.app 33 64 (.tmp 31) (.tmp 37) rfl rfl _ W5.heap.size (.agg #[.int .u16 0,.slice none 0 0]) 2 32 Tryz.underlying33 Tryz.infoSt rfl (by decide) (.slice vo sl.length vc) sl.length (stR sl).flatten hly.own (some ⟨w5.heap.size,0,none⟩) 1 1 (stR [(x,.slice ua un uc)]) hrl (by intro r hr; simp [stR] at hr; rw [hr]; rfl) (by intro r hr u hu; simp [stR] at hr; rw [hr] at hu; simp at hu; rcases hu with rfl | rfl <;> rfl) (by omega) (by omega) (by have h2:=hk6.size; omega) rfl rfl ?_
      intro ao7 c7 w7 HO7 HG7 HA7
      have hg7:=uh HG7
      rw [hOB] at hg7
      have hk7:=(Kept.refl OB.toList _).grown hg7 (by intro x hx; left; simp [hx])
      have hk47:=(hk6.mono (M:=OB.toList) (by simp)).trans hk7 (fun x hx=>Or.inl hx)
      refine ⟨hk47,?_⟩
      simp only [Act.put,sa1,sa2,sa3]
      refine ChL.op (.pointer (some ⟨P,0,none⟩)) (by go_simp) hk47 (by simp only [Act.put,sa1,sa2,sa3]; rfl) ?_
      have hgx:=hk47.heap (uh HPA) hOBn
      refine ChL.fin (xa1s 33 (.tmp 39) (.tmp 38) rfl P 0 35 #[.slice vo sl.length vc,.slice none 0 0] #[.slice ao7 (sl.length + 1) c7,.slice none 0 0] (.slice ao7 (sl.length + 1) c7) rfl rfl hgx (by simp) Tryz.size_sts rfl rfl ?_)
      have hsn:=hly.snoc hb (Sty.rdD (r5.old hka) (fun y hy=>by
        have h1:=n5 y hy
        have h2:=hk4.size
        refine ⟨by omega,fun e=>?_⟩
        have:=(uh HOW y e).2
        omega)) (uh HO7) (uh HG7) (uh HA7)
      have HG8:=hide (setRow_heap _ _ _ #[.slice ao7 (sl.length + 1) c7,.slice none 0 0] _ _ hgx)
      have hk78:=(Kept.refl [P] w7).setRow (g:=P) (Or.inl (by simp)) #[.slice ao7 (sl.length + 1) c7,.slice none 0 0]
      have HS8:=hide (hsn.far hk78 (fun y hy=>by rw [List.mem_singleton.1 hy]; exact (uh HZP).2.2))
      have HK8:=hide (show Kept [P] W5 (w7.setRow P #[.slice ao7 (sl.length + 1) c7,.slice none 0 0]) from (((uh HKr).trans (uh HKA) (by simp)).trans hk47 (fun y hy=>by
        right
        rw [← hOB] at hy
        exact (uh HOW y (by simpa using hy)).1)).trans hk78 (fun y hy=>Or.inl hy))
      have hprf:prf k q L i = (x,d2):=by rw [hPF,← hd2]; rfl
      have HPRF:=hide hprf
      clear hk78 hgx hk47 hk7 hg7 hrl hk6 hka hk5 k5 hk4 k4 hd4 hsn hly hprf hPF hd2 n5 r5 hsz hbs
      generalize w7.setRow P #[.slice ao7 (sl.length + 1) c7,.slice none 0 0] = W8 at HG8 HS8 HK8 ⊢
      go_wp2_with fail
      refine ⟨⟨i + 1,.slice ao7 (sl.length + 1) c7,_,by go_num,hlt,HG8,hide (by rw [List.range_succ,List.map_append,List.map_cons,List.map_nil,uh HPRF]; exact uh HS8),HK8⟩,?_⟩
      simp [intOf]; omega
    · have hie:i = m:=by omega
      subst hie
      have hlt':¬ (i:Int) < i:=by omega
      have hzp:=uh HZP
      obtain ⟨vo,vc,rfl⟩:=xa0i (uh HSL).own
      have hlen:=(uh HSL).len
      rw [List.length_map,List.length_range] at hlen
      have HP9:=hide (setRow_heap _ _ _ #[.slice vo sl.length vc,.slice po pn pc] _ _ (uh HPr))
      have hk9:=(Kept.refl [P] wr).setRow (g:=P) (Or.inl (by simp)) #[.slice vo sl.length vc,.slice po pn pc]
      have HG9:=hide (hk9.heap ((uh HK3r).heap (uh HG3) (by simp)) (by simp; omega))
      have HRS9:=hide ((uh HSL).far hk9 (fun y hy=>by rw [List.mem_singleton.1 hy]; exact hzp.2.2))
      have HK9:=hide ((uh HKw).setRow (g:=P) (Or.inr (by omega)) #[.slice vo sl.length vc,.slice po pn pc])
      have HRK9:=hide ((uh HRK3).old (show Kept [] w3 (wr.setRow P #[.slice vo sl.length vc,.slice po pn pc]) from (uh HK3r).setRow (g:=P) (Or.inr (by omega)) _))
      clear hk9 hlen
      have HBW:=hide (show w.heap.size < W5.heap.size by omega)
      go_wp2_with (first
        | (refine xa9m rfl 22 (.tmp 42) (.tmp 41) rfl P 1 35 #[.slice vo sl.length vc,.slice none 0 0] #[.slice vo sl.length vc,.slice po pn pc] (.slice po pn pc) rfl rfl (uh HPr) (by simp) Tryz.size_prs rfl rfl ?_)
        | (refine wpList_load_row rfl 35 (.tmp 10) rfl P rfl 35 #[.slice vo sl.length vc,.slice po pn pc] (0,0) _ (uh HP9) Tryz.underlying35 rfl Tryz.size_kp ?_)
        | (refine wpList_store_row rfl 35 (.tmp 6) (.tmp 43) rfl w.heap.size #[.slice vo sl.length vc,.slice po pn pc] rfl rfl _ #[.slice none 0 0,.slice none 0 0] (uh HG9) Tryz.size_kp rfl (p_two1 rfl rfl) ?_))
      have hkz:=(Kept.refl [w.heap.size] (wr.setRow P #[.slice vo sl.length vc,.slice po pn pc])).setRow (g:=w.heap.size) (Or.inl (by simp)) #[.slice vo sl.length vc,.slice po pn pc]
      refine bodyPost_ret (v:=.agg #[.slice vo sl.length vc,.slice po pn pc]) ?_ rfl ⟨_,_,rfl,⟨i,sl,(((uh HRS9).far hkz (fun y hy=>by rw [List.mem_singleton.1 hy]; exact uh HBW)).base (Nat.le_of_lt (uh HBW))),?_,fun y hy=>by have h1:=uh HNPV y hy; have h2:=uh HW0L; omega,uh HWY⟩,(uh HK9).setRow (g:=w.heap.size) (Or.inr (Nat.le_refl _)) _⟩
      · exact results_cell_row rfl _ _ w.heap.size 35 #[.slice vo sl.length vc,.slice po pn pc] (0,0) _ rfl (setRow_heap _ _ _ _ _ _ (uh HG9)) Tryz.underlying35 rfl Tryz.size_kp
      · refine (uh HRK9).far hkz (fun hm=>?_) (uh HG9)
        have h1:=uh HNPV _ hm
        have h2:=uh HW0L
        omega
theorem xb4t (T:Nat→Prop) (k:Nat) (hk:1≤k∧k≤32) (mv qv:Value) (q:List Nat) (L:Prs) (w:World) (hM:IAt T k w mv L) (hq:Rd w qv q) (hql:q.length≤140737488351232) (hs:Srt (hsZ k) L) (hfit:Fit L) (hl:L.length≤1000000000) (hT:∀ y,w.heap.size≤y→T y) :
    Calls Tryz.prog 33 #[.int .i64 k,mv,qv] w fun e w'=>∃ sv pv,e = .returned (.agg #[sv,pv])∧ProofP k w' q L sv pv∧Kept [] w w' :=
  (xb1f T k hk mv qv q L w hM hq hql hs hfit hl hT).mono fun e w' ⟨sv,pv,h1,h2,h3⟩=>⟨sv,pv,h1,h2.p,h3⟩
theorem xb6w:Tryz.prog.built 35 [] = some #[.slice none 0 0,.slice none 0 0]:=by kernel_rfl
set_option maxHeartbeats 4000000 in
theorem xb5g (mv kv:Value) (q:List Nat) (w:World) (hku:Rd w kv q) (hq:64 < q.length) :
    Calls Tryz.prog 12 #[mv,kv] w fun e w'=>e = .returned (.tuple #[.agg #[.slice none 0 0,.slice none 0 0],.int .i64 2])∧Kept [] w w':=by
  obtain ⟨ka,kn,kc,rfl,hkn,_⟩:=id hku
  have hkn2:(kn:Int) > 64:=by omega
  have hkn3:(64:Int) < kn:=by omega
  have HG0:=hide (heap_alloc_new w (.cells #[.slice none 0 0,.slice none 0 0] 35))
  have HK0:=hide ((Kept.refl [] w).alloc (.cells #[.slice none 0 0,.slice none 0 0] 35))
  clear hku hq hkn
  go_enter Tryz.func12,Tryz.ntmps12
  go_wp2_with (first
    | (refine xa0o rfl 35 _ rfl #[.slice none 0 0,.slice none 0 0] (by simp only [List.map_toArray,List.map_cons,List.map_nil]; exact xb6w) ?_)
    | (refine wpList_store_row rfl 35 (.tmp 4) (.tmp 19) rfl w.heap.size #[.slice none 0 0,.slice none 0 0] rfl rfl _ #[.slice none 0 0,.slice none 0 0] (uh HG0) Tryz.size_kp rfl (p_two1 rfl rfl) ?_))
  refine bodyPost_ret (v:=.tuple #[.agg #[.slice none 0 0,.slice none 0 0],.int .i64 2]) ?_ rfl ⟨rfl,(uh HK0).setRow (g:=w.heap.size) (Or.inr (Nat.le_refl _)) _⟩
  exact xa0e rfl _ _ w.heap.size _ #[.slice none 0 0,.slice none 0 0] (0,0) _ rfl (setRow_heap _ _ _ _ _ _ (uh HG0)) Tryz.underlying35 rfl Tryz.size_kp (.int .i64 2) rfl
theorem xb4c {w w1:World} {row:Option Nat} {b:Nat} {o:Obj} (h:w.grownBy w1 row) (hb:w.heap[b]? = some o) (hn:row≠some b):w1.heap[b]? = some o:=by
  have k:=(Kept.refl row.toList w).grown h (by intro x hx; left; simp [hx])
  exact k.heap hb (by intro hm; exact hn (by simpa using hm))
theorem xb9i {H:Hs} {q v:List Nat} {s:Bool × Prs} {y:List Nat × List Nat}:putS H q v s y = (s.1 || decide (kc H q y.1≤0),(if s.1 = false∧kc H q y.1≤0 then s.2++[(q,v)] else s.2)++(if kc H q y.1 = 0 then [] else [y])):=rfl
set_option maxHeartbeats 8000000 in
theorem xb2x (T:Nat→Prop) (k:Nat) (mv qv uv:Value) (q u:List Nat) (L:Prs) (w:World) (hk:1≤k∧k≤32) (hM:IAt T k w mv L) (hs:Srt (hsZ k) L) (hq:Rd w qv q) (hu:Rd w uv u) (hql:q.length≤140737488351232) (hl:L.length≤1000000000) (hT:∀ y,w.heap.size≤y→T y) :
    Calls Tryz.prog 36 #[.int .i64 k,mv,qv,uv] w fun e w'=>∃ v',e = .returned v'∧IAt T k w' v' (insP (hsZ k) q u L)∧Kept [] w w':=by
  have HM:=hide hM
  obtain ⟨ao,c,l,rfl,hc1,hc2,hll,hpr,hcell⟩:=hM.parts
  have HCE:=hide hcell
  have HPR:=hide hpr
  obtain ⟨n,hn⟩:∃ n,L.length = n:=⟨_,rfl⟩
  have HN:=hide hn
  rw [hn] at hc1 hl hll HCE ⊢
  have HSR:=hide (xc0c (hsZ k) q u L hs)
  rw [hn] at HSR
  obtain ⟨R,hR⟩:∃ R,insP (hsZ k) q u L = R:=⟨_,rfl⟩
  rw [hR] at HSR ⊢
  have HQ:=hide hq
  have HU:=hide hu
  clear hM hcell hpr hn hq hu hs hR
  go_enter Tryz.func36,Tryz.ntmps36
  go_wp2_with fail
  refine Calls.mono (xb9o k qv uv q u w hk (uh HQ) (uh HU) hql) ?_
  rintro e w1 ⟨kz,vz,rfl,hkv,hnew,k1⟩
  obtain ⟨z1,z2,z3,rfl,_⟩:=id hkv.1
  obtain ⟨y1,y2,y3,rfl,_⟩:=id hkv.2
  obtain ⟨D0,hD0⟩:∃ D0,(hsZ k).kd q = D0:=⟨_,rfl⟩
  have hD0l:D0.length = 32:=by rw [← hD0]; exact xa0h _ _
  rw [hD0]
  have HD0:=hide hD0
  have HZ1:=hide (heap_alloc_new w1 (.cells zit 116))
  have HX0:=hide (setRow_heap _ _ _ (itC D0 (.slice z1 z2 z3) (.slice y1 y2 y3)).toArray _ _ (uh HZ1))
  have HK12:=hide ((Kept.refl [] w1).alloc (.cells zit 116) |>.setRow (g:=w1.heap.size) (Or.inr (Nat.le_refl _)) (itC D0 (.slice z1 z2 z3) (.slice y1 y2 y3)).toArray)
  obtain ⟨W0,hW0⟩:∃ W0,(w1.alloc (.cells zit 116)).setRow w1.heap.size (itC D0 (.slice z1 z2 z3) (.slice y1 y2 y3)).toArray = W0:=⟨_,rfl⟩
  rw [hW0] at HX0 HK12
  have HKW:=hide (k1.trans (uh HK12) (by simp))
  have HT0:=hide (show ∀ y,W0.heap.size≤y→T y from fun y hy=>hT y (by have:=(uh HKW).size; omega))
  have HSTQ:=hide (show Sty T W0 (fun w=>Rd w (.slice z1 z2 z3) q∧Rd w (.slice y1 y2 y3) u) from fun w' a=>⟨Sty.rd (hkv.1.old (uh HK12) (by simp)) (fun x hx=>hT x (hnew x (Or.inl hx))) w' a,Sty.rd (hkv.2.old (uh HK12) (by simp)) (fun x hx=>hT x (hnew x (Or.inr hx))) w' a⟩)
  have hM0:=(uh HM).agr (Agr.nil (uh HKW))
  have HPR:=hide ((uh HPR).agr (Agr.nil (uh HKW)))
  have HCE:=hide (fun h0:0 < n=>by
    obtain ⟨b,off,e,hTb,hcl⟩:=uh HCE h0
    exact (⟨b,off,e,hTb,fun i hi u z hz=>(uh HKW).cell (hcl i hi u z hz) (by simp)⟩:∃ b off,ao = some ⟨b,off,none⟩∧T b∧∀ i,i < n→W0.rangeAt b (off + i * 34) (itC ((hsZ k).kd (L.getD i ([],[])).1) (l.getD i (undef,undef)).1 (l.getD i (undef,undef)).2)))
  clear hM0 hkv hnew k1 hD0 HM
  go_wp2_with (rw [lit_it]; refine wpList_store_row rfl 116 (.tmp 9) (.tmp 18) rfl w1.heap.size (itC D0 (.slice z1 z2 z3) (.slice y1 y2 y3)).toArray rfl rfl _ zit (uh HZ1) (by rw [xa1d hD0l]; exact Tryz.size_it) (by rw [xa1d hD0l]; rfl) (xa7p rfl rfl) ?_; rw [hW0]; simp only [Act.put])
  go_loopw [10,11,21] (fun t10 t11 t21 wr=>∃ (j:Nat) (v:Value) (lx:List VP) (sb:Bool) (sl:Prs),t21 = .int .i64 j∧t10 = v∧t11 = .bool sb∧j≤n∧Hid (putI (hsZ k) q u L j = (sb,sl))∧Hid (ILay T W0.heap.size k wr v lx sl)∧Hid (Kept [] W0 wr)) (fun _ _ t _=>n - (intOf t).toNat)
  case atStart=>exact ⟨0,.slice none 0 0,[],false,[],rfl,rfl,rfl,Nat.zero_le _,hide rfl,hide (ILay.nil _ _ _ _),hide (Kept.refl _ _)⟩
  case round =>
    obtain ⟨j,v,lx,sb,sl,rfl,rfl,rfl,hj,HPI,HLx,HKr⟩:=hrel
    have HBND:=hide (show lx.length≤2000000000 by
      have h1:=xb3o (hsZ k) q u L j (by have:=uh HN; omega)
      rw [uh HPI] at h1
      have h2:=(uh HLx).pr.1
      have h3:sl.length≤2 * j:=h1
      omega)
    have HX:=hide ((uh HKr).heap (uh HX0) (by simp))
    by_cases hlt:j < n
    · have hlt':(j:Int) < n:=by omega
      have HPS:=hide (show putI (hsZ k) q u L (j + 1) = putS (hsZ k) q u (sb,sl) (L.getD j ([],[])) by rw [← uh HPI]; exact xb0n (hsZ k) q u L j (by have:=uh HN; omega))
      obtain ⟨b,off,rfl,hTb,hcl⟩:=uh HCE (by omega)
      have hRG:=hcl j hlt
      have hone:=(uh HPR).one' j (by omega)
      have hrd:=(uh HPR).2 j (by omega)
      generalize (l.getD j (undef,undef)).1 = kx at hRG hone hrd
      generalize (l.getD j (undef,undef)).2 = vx at hRG hone hrd
      have HSNOC:=hide (show L.take (j + 1) = L.take j++[L.getD j ([],[])] by
        have hjL:j < L.length:=by have:=uh HN; omega
        rw [List.take_succ_eq_append_getElem hjL,List.getD_eq_getElem?_getD,List.getElem?_eq_getElem hjL]; rfl)
      generalize L.getD j ([],[]) = ej at hRG hrd HSNOC HPS
      obtain ⟨ka,va⟩:=ej
      have hDg:Dg ((hsZ k).kd ka):=xa1h _ _
      obtain ⟨D,hD⟩:∃ D,(hsZ k).kd ka = D:=⟨_,rfl⟩
      simp only [hD] at hRG
      rw [hD] at hDg
      have HD:=hide hD
      have HSTY:=hide hrd
      have HRG:=hide (show wr.rangeAt b (off + j * 34) (itC D kx vx) from fun u z hz=>(uh HKr).cell (hRG u z hz) (by simp))
      have HZ1:=hide (heap_alloc_new wr (.cells zit 116))
      have HN2:=hide (setRow_heap _ _ _ (itC D kx vx).toArray _ _ (uh HZ1))
      have HK12:=hide ((Kept.refl [] wr).alloc (.cells zit 116) |>.setRow (g:=wr.heap.size) (Or.inr (Nat.le_refl _)) (itC D kx vx).toArray)
      obtain ⟨W2,hW2⟩:∃ W2,(wr.alloc (.cells zit 116)).setRow wr.heap.size (itC D kx vx).toArray = W2:=⟨_,rfl⟩
      rw [hW2] at HN2 HK12
      have HK2:=hide ((uh HKr).trans (uh HK12) (by simp))
      have hwsz:W0.heap.size≤wr.heap.size:=by have:=(uh HKr).size; omega
      obtain ⟨rD2,cK2,cV2⟩:=it_row (uh HN2) hDg.1
      have HRD2:=hide rD2
      have HCK2:=hide cK2
      have HCV2:=hide cV2
      have HPA2:=hide (xb2b (uh HN2) hDg.1)
      obtain ⟨kx1,kx2,kx3,rfl,_⟩:=hrd.now.1
      obtain ⟨vx1,vx2,vx3,rfl,_⟩:=hrd.now.2
      clear hrd hRG hcl rD2 hD hDg hone
      have HX2:=hide ((uh HK12).heap (uh HX) (by simp))
      go_wp2_with (first
        | (refine wpList_load_row rfl 116 (.tmp 9) rfl w1.heap.size rfl 116 (itC D0 (.slice z1 z2 z3) (.slice y1 y2 y3)).toArray (0,0) _ (uh HX2) Tryz.underlying116 rfl (by rw [xa1d hD0l]; exact Tryz.size_it) ?_)
        | (refine wpList_load_row rfl 116 (.tmp 13) rfl wr.heap.size rfl 116 (itC D (.slice kx1 kx2 kx3) (.slice vx1 vx2 vx3)).toArray (0,0) _ (uh HN2) Tryz.underlying116 rfl (by rw [xa1d (by rw [← uh HD]; exact xa0h _ _)]; exact Tryz.size_it) ?_)
        | (first
      | (refine wpList_load_mid rfl 116 (.tmp 23) rfl b (off + j * 34) rfl (itC D (.slice kx1 kx2 kx3) (.slice vx1 vx2 vx3)) _ (uh HRG) Tryz.underlying116 rfl (by rw [xa2e (by rw [← uh HD]; exact xa0h _ _)]; exact Tryz.size_it) ?_)
      | (rw [lit_it]; refine wpList_store_row rfl 116 (.tmp 13) (.tmp 24) rfl wr.heap.size (itC D (.slice kx1 kx2 kx3) (.slice vx1 vx2 vx3)).toArray rfl rfl _ zit (uh HZ1) (by rw [xa1d (by rw [← uh HD]; exact xa0h _ _)]; exact Tryz.size_it) (by rw [xa1d (by rw [← uh HD]; exact xa0h _ _)]; rfl) (xa7p rfl rfl) ?_; rw [hW2]; simp only [Act.put])))
      have hoc:=xb5p k (.slice z1 z2 z3) (.slice y1 y2 y3) (.slice kx1 kx2 kx3) (.slice vx1 vx2 vx3) q ka u va W2 (uh HSTQ W2 (Agr.nil (uh HK2))).1 (uh HSTY W2 (Agr.nil (uh HK2))).1 (uh HSTQ W2 (Agr.nil (uh HK2))).2 (uh HSTY W2 (Agr.nil (uh HK2))).2
      rw [uh HD,uh HD0] at hoc
      refine Calls.mono hoc ?_
      clear hoc
      rintro e w4 ⟨rfl,k4⟩
      have HN4:=hide (k4.heap (uh HN2) (by simp))
      have HX4:=hide (k4.heap (uh HX2) (by simp))
      have HK4:=hide ((uh HK2).trans k4 (by simp))
      have HL4:=hide (((uh HLx).agr (uh HK12)).agr k4)
      have hsg:=xc0u (hsZ k) q ka
      rw [xb9i] at HPS
      generalize ordI (hsZ k) q ka = z at hsg ⊢
      have hle:kc (hsZ k) q ka≤0↔z≤0:=by
        constructor
        · intro h
          rcases Int.lt_or_eq_of_le h with g | g
          · have:=hsg.1.2 g; omega
          · have:=hsg.2.2 g; omega
        · intro h
          rcases Int.lt_or_eq_of_le h with g | g
          · have:=hsg.1.1 g; omega
          · have:=hsg.2.1 g; omega
      have heq:kc (hsZ k) q ka = 0↔z = 0:=hsg.2.symm
      have HLE:=hide hle
      have HEQ:=hide heq
      clear k4 hsg hle heq
      cases sb with
      | true =>
        by_cases hz0:z = 0
        · have HC:=hide ((uh HEQ).2 hz0)
          subst hz0
          go_wp2_with fail
          refine ⟨⟨j + 1,_,lx,true,sl,by go_num,rfl,rfl,hlt,hide (by rw [uh HPS]; simp [uh HC]),HL4,HK4⟩,?_⟩
          simp [intOf]; omega
        · have HC:=hide (show ¬ kc (hsZ k) q ka = 0 from fun h=>hz0 ((uh HEQ).1 h))
          have hz2:((z != 0):Bool) = true:=by rw [bne_iff_ne]; exact hz0
          obtain ⟨vo,vc,rfl⟩:=xa0i (uh HL4).own
          have hown:∀ z,(Value.slice vo lx.length vc).ownBlock = some z→W0.heap.size≤z:=fun z hz=>((uh HL4).own.lt z hz).1
          have HW5:=hide (heap_alloc_new w4 (.cells (itC D (.slice kx1 kx2 kx3) (.slice vx1 vx2 vx3)).toArray 116))
          have HK45:=hide ((Kept.refl [] w4).alloc (.cells (itC D (.slice kx1 kx2 kx3) (.slice vx1 vx2 vx3)).toArray 116))
          have HL5:=hide ((uh HL4).agr (uh HK45))
          have HK5:=hide ((uh HK4).trans (uh HK45) (by simp))
          have HRL:=hide (lit_rd (k:=k) (q:=ka) (v:=va) (kv:=(.slice kx1 kx2 kx3)) (vv:=(.slice vx1 vx2 vx3)) (by rw [uh HD]; exact uh HW5))
          have hln:=(uh HL4).pr.1
          have hbnd:=uh HBND
          clear hln hz0
          go_wp2_with (first
      | (refine wpList_load_row rfl 116 (.tmp 13) rfl wr.heap.size rfl 116 (itC D (.slice kx1 kx2 kx3) (.slice vx1 vx2 vx3)).toArray (0,0) _ (uh HN4) Tryz.underlying116 rfl (by rw [xa1d (by rw [← uh HD]; exact xa0h _ _)]; exact Tryz.size_it) ?_)
      | (refine xa1g rfl (.tmp 41) rfl (itC D (.slice kx1 kx2 kx3) (.slice vx1 vx2 vx3)) (xa2e (by rw [← uh HD]; exact xa0h _ _) _ _) rfl ?_)
      | (at_builtin; refine xa0j rfl 26 116 (.tmp 40) (.tmp 42) rfl rfl _ W0.heap.size (.agg zit) 34 80 Tryz.underlying26 Tryz.infoIt rfl (by decide) (.slice vo lx.length vc) lx.length (itR k lx (sl)).flatten (uh HL5).own (some ⟨w4.heap.size,0,none⟩) 1 1 (itR k [((.slice kx1 kx2 kx3),(.slice vx1 vx2 vx3))] [(ka,va)]) (uh HRL) xa2j (xa4t rfl rfl) (by omega) (by omega) (uh HK5).size rfl rfl ?_; intro ao7 c7 w7 HO7 HG7 HA7))
          have HS7:=hide ((uh HL5).snoc (a:=ka) (b:=va) (sty_up (uh HSTY) (uh HK5) hown) (uh HO7) (uh HG7) (uh HA7))
          have HK7:=hide ((uh HK5).grown (uh HG7) (fun z hz=>Or.inr (hown z hz)))
          clear hown hbnd
          refine ⟨⟨j + 1,.slice ao7 (lx.length + 1) c7,_,true,sl++[(ka,va)],by go_num,rfl,rfl,hlt,hide (by rw [uh HPS]; simp [uh HC]),HS7,HK7⟩,?_⟩
          simp [intOf]; omega
      | false =>
        by_cases hz0:z = 0
        · have HC:=hide ((uh HEQ).2 hz0)
          subst hz0
          obtain ⟨vo,vc,rfl⟩:=xa0i (uh HL4).own
          have hown:∀ z,(Value.slice vo lx.length vc).ownBlock = some z→W0.heap.size≤z:=fun z hz=>((uh HL4).own.lt z hz).1
          have HW5:=hide (heap_alloc_new w4 (.cells (itC D0 (.slice z1 z2 z3) (.slice y1 y2 y3)).toArray 116))
          have HK45:=hide ((Kept.refl [] w4).alloc (.cells (itC D0 (.slice z1 z2 z3) (.slice y1 y2 y3)).toArray 116))
          have HL5:=hide ((uh HL4).agr (uh HK45))
          have HK5:=hide ((uh HK4).trans (uh HK45) (by simp))
          have HRL:=hide (lit_rd (k:=k) (q:=q) (v:=u) (kv:=(.slice z1 z2 z3)) (vv:=(.slice y1 y2 y3)) (by rw [uh HD0]; exact uh HW5))
          have hln:=(uh HL4).pr.1
          have hbnd:=uh HBND
          clear hln
          go_wp2_with (first
      | (refine wpList_load_row rfl 116 (.tmp 9) rfl w1.heap.size rfl 116 (itC D0 (.slice z1 z2 z3) (.slice y1 y2 y3)).toArray (0,0) _ (uh HX4) Tryz.underlying116 rfl (by rw [xa1d (by rw [← uh HD0]; exact xa0h _ _)]; exact Tryz.size_it) ?_)
      | (refine xa1g rfl (.tmp 35) rfl (itC D0 (.slice z1 z2 z3) (.slice y1 y2 y3)) (xa2e (by rw [← uh HD0]; exact xa0h _ _) _ _) rfl ?_)
      | (at_builtin; refine xa0j rfl 26 116 (.tmp 34) (.tmp 36) rfl rfl _ W0.heap.size (.agg zit) 34 80 Tryz.underlying26 Tryz.infoIt rfl (by decide) (.slice vo lx.length vc) lx.length (itR k lx (sl)).flatten (uh HL5).own (some ⟨w4.heap.size,0,none⟩) 1 1 (itR k [((.slice z1 z2 z3),(.slice y1 y2 y3))] [(q,u)]) (uh HRL) xa2j (xa4t rfl rfl) (by omega) (by omega) (uh HK5).size rfl rfl ?_; intro ao7 c7 w7 HO7 HG7 HA7))
          have HS7:=hide ((uh HL5).snoc (a:=q) (b:=u) (sty_up (uh HSTQ) (uh HK5) hown) (uh HO7) (uh HG7) (uh HA7))
          have HK7:=hide ((uh HK5).grown (uh HG7) (fun z hz=>Or.inr (hown z hz)))
          clear hown hbnd
          refine ⟨⟨j + 1,.slice ao7 (lx.length + 1) c7,_,true,sl++[(q,u)],by go_num,rfl,rfl,hlt,hide (by rw [uh HPS]; simp [uh HC]),HS7,HK7⟩,?_⟩
          simp [intOf]; omega
        · have HC:=hide (show ¬ kc (hsZ k) q ka = 0 from fun h=>hz0 ((uh HEQ).1 h))
          have hz2:((z != 0):Bool) = true:=by rw [bne_iff_ne]; exact hz0
          by_cases hz1:z≤0
          · have HC2:=hide ((uh HLE).2 hz1)
            obtain ⟨vo,vc,rfl⟩:=xa0i (uh HL4).own
            have hown:∀ z,(Value.slice vo lx.length vc).ownBlock = some z→W0.heap.size≤z:=fun z hz=>((uh HL4).own.lt z hz).1
            have HW5:=hide (heap_alloc_new w4 (.cells (itC D0 (.slice z1 z2 z3) (.slice y1 y2 y3)).toArray 116))
            have HK45:=hide ((Kept.refl [] w4).alloc (.cells (itC D0 (.slice z1 z2 z3) (.slice y1 y2 y3)).toArray 116))
            have HL5:=hide ((uh HL4).agr (uh HK45))
            have HK5:=hide ((uh HK4).trans (uh HK45) (by simp))
            have HRL:=hide (lit_rd (k:=k) (q:=q) (v:=u) (kv:=(.slice z1 z2 z3)) (vv:=(.slice y1 y2 y3)) (by rw [uh HD0]; exact uh HW5))
            have hln:=(uh HL4).pr.1
            have hbnd:=uh HBND
            have HLT:=hide (fun z hz=>((uh HLx).own.lt z hz).2)
            clear hln hz0
            go_upto_region 12 with (first
      | (refine wpList_load_row rfl 116 (.tmp 9) rfl w1.heap.size rfl 116 (itC D0 (.slice z1 z2 z3) (.slice y1 y2 y3)).toArray (0,0) _ (uh HX4) Tryz.underlying116 rfl (by rw [xa1d (by rw [← uh HD0]; exact xa0h _ _)]; exact Tryz.size_it) ?_)
      | (refine xa1g rfl (.tmp 35) rfl (itC D0 (.slice z1 z2 z3) (.slice y1 y2 y3)) (xa2e (by rw [← uh HD0]; exact xa0h _ _) _ _) rfl ?_)
      | (at_builtin; refine xa0j rfl 26 116 (.tmp 34) (.tmp 36) rfl rfl _ W0.heap.size (.agg zit) 34 80 Tryz.underlying26 Tryz.infoIt rfl (by decide) (.slice vo lx.length vc) lx.length (itR k lx (sl)).flatten (uh HL5).own (some ⟨w4.heap.size,0,none⟩) 1 1 (itR k [((.slice z1 z2 z3),(.slice y1 y2 y3))] [(q,u)]) (uh HRL) xa2j (xa4t rfl rfl) (by omega) (by omega) (uh HK5).size rfl rfl ?_; intro ao7 c7 w7 HO7 HG7 HA7))
            have HS7:=hide ((uh HL5).snoc (a:=q) (b:=u) (sty_up (uh HSTQ) (uh HK5) hown) (uh HO7) (uh HG7) (uh HA7))
            have HK7:=hide ((uh HK5).grown (uh HG7) (fun z hz=>Or.inr (hown z hz)))
            have HN7:=hide (xb4c (uh HG7) ((uh HK45).heap (uh HN4) (by simp)) (fun e=>by have h1:=uh HLT _ e; omega))
            have hlen2:lx.length + 1 = (lx++[(((.slice z1 z2 z3):Value),((.slice y1 y2 y3):Value))]).length:=by simp
            rw [hlen2] at HS7 ⊢
            have HBN2:=hide (show (lx++[(((.slice z1 z2 z3):Value),((.slice y1 y2 y3):Value))]).length≤2000000001 by rw [← hlen2]; omega)
            clear hown hlen2 HLT hbnd HO7 HG7 HA7 HL5 HK5 HRL HW5 HK45
            generalize lx++[(((.slice z1 z2 z3):Value),((.slice y1 y2 y3):Value))] = lx2 at HS7 HBN2 ⊢
            have hown:∀ z,(Value.slice ao7 lx2.length c7).ownBlock = some z→W0.heap.size≤z:=fun z hz=>((uh HS7).own.lt z hz).1
            have HW5:=hide (heap_alloc_new w7 (.cells (itC D (.slice kx1 kx2 kx3) (.slice vx1 vx2 vx3)).toArray 116))
            have HK45:=hide ((Kept.refl [] w7).alloc (.cells (itC D (.slice kx1 kx2 kx3) (.slice vx1 vx2 vx3)).toArray 116))
            have HL5:=hide ((uh HS7).agr (uh HK45))
            have HK5:=hide ((uh HK7).trans (uh HK45) (by simp))
            have HRL:=hide (lit_rd (k:=k) (q:=ka) (v:=va) (kv:=(.slice kx1 kx2 kx3)) (vv:=(.slice vx1 vx2 vx3)) (by rw [uh HD]; exact uh HW5))
            have hln:=(uh HS7).pr.1
            have hbnd:=uh HBN2
            clear hln
            go_wp2_with (first
      | (refine wpList_load_row rfl 116 (.tmp 13) rfl wr.heap.size rfl 116 (itC D (.slice kx1 kx2 kx3) (.slice vx1 vx2 vx3)).toArray (0,0) _ (uh HN7) Tryz.underlying116 rfl (by rw [xa1d (by rw [← uh HD]; exact xa0h _ _)]; exact Tryz.size_it) ?_)
      | (refine xa1g rfl (.tmp 41) rfl (itC D (.slice kx1 kx2 kx3) (.slice vx1 vx2 vx3)) (xa2e (by rw [← uh HD]; exact xa0h _ _) _ _) rfl ?_)
      | (at_builtin; refine xa0j rfl 26 116 (.tmp 40) (.tmp 42) rfl rfl _ W0.heap.size (.agg zit) 34 80 Tryz.underlying26 Tryz.infoIt rfl (by decide) (.slice ao7 lx2.length c7) lx2.length (itR k lx2 (sl++[(q,u)])).flatten (uh HL5).own (some ⟨w7.heap.size,0,none⟩) 1 1 (itR k [((.slice kx1 kx2 kx3),(.slice vx1 vx2 vx3))] [(ka,va)]) (uh HRL) xa2j (xa4t rfl rfl) (by omega) (by omega) (uh HK5).size rfl rfl ?_; intro ao8 c8 w8 HO8 HG8 HA8))
            have HS8:=hide ((uh HL5).snoc (a:=ka) (b:=va) (sty_up (uh HSTY) (uh HK5) hown) (uh HO8) (uh HG8) (uh HA8))
            have HK8:=hide ((uh HK5).grown (uh HG8) (fun z hz=>Or.inr (hown z hz)))
            clear hown hbnd
            refine ⟨⟨j + 1,.slice ao8 (lx2.length + 1) c8,_,true,sl++[(q,u)]++[(ka,va)],by go_num,rfl,rfl,hlt,hide (by rw [uh HPS]; simp [uh HC,uh HC2]),HS8,HK8⟩,?_⟩
            simp [intOf]; omega
          · have HC2:=hide (show ¬ kc (hsZ k) q ka≤0 from fun h=>hz1 ((uh HLE).1 h))
            obtain ⟨vo,vc,rfl⟩:=xa0i (uh HL4).own
            have hown:∀ z,(Value.slice vo lx.length vc).ownBlock = some z→W0.heap.size≤z:=fun z hz=>((uh HL4).own.lt z hz).1
            have HW5:=hide (heap_alloc_new w4 (.cells (itC D (.slice kx1 kx2 kx3) (.slice vx1 vx2 vx3)).toArray 116))
            have HK45:=hide ((Kept.refl [] w4).alloc (.cells (itC D (.slice kx1 kx2 kx3) (.slice vx1 vx2 vx3)).toArray 116))
            have HL5:=hide ((uh HL4).agr (uh HK45))
            have HK5:=hide ((uh HK4).trans (uh HK45) (by simp))
            have HRL:=hide (lit_rd (k:=k) (q:=ka) (v:=va) (kv:=(.slice kx1 kx2 kx3)) (vv:=(.slice vx1 vx2 vx3)) (by rw [uh HD]; exact uh HW5))
            have hln:=(uh HL4).pr.1
            have hbnd:=uh HBND
            clear hln hz0
            go_wp2_with (first
      | (refine wpList_load_row rfl 116 (.tmp 13) rfl wr.heap.size rfl 116 (itC D (.slice kx1 kx2 kx3) (.slice vx1 vx2 vx3)).toArray (0,0) _ (uh HN4) Tryz.underlying116 rfl (by rw [xa1d (by rw [← uh HD]; exact xa0h _ _)]; exact Tryz.size_it) ?_)
      | (refine xa1g rfl (.tmp 41) rfl (itC D (.slice kx1 kx2 kx3) (.slice vx1 vx2 vx3)) (xa2e (by rw [← uh HD]; exact xa0h _ _) _ _) rfl ?_)
      | (at_builtin; refine xa0j rfl 26 116 (.tmp 40) (.tmp 42) rfl rfl _ W0.heap.size (.agg zit) 34 80 Tryz.underlying26 Tryz.infoIt rfl (by decide) (.slice vo lx.length vc) lx.length (itR k lx (sl)).flatten (uh HL5).own (some ⟨w4.heap.size,0,none⟩) 1 1 (itR k [((.slice kx1 kx2 kx3),(.slice vx1 vx2 vx3))] [(ka,va)]) (uh HRL) xa2j (xa4t rfl rfl) (by omega) (by omega) (uh HK5).size rfl rfl ?_; intro ao7 c7 w7 HO7 HG7 HA7))
            have HS7:=hide ((uh HL5).snoc (a:=ka) (b:=va) (sty_up (uh HSTY) (uh HK5) hown) (uh HO7) (uh HG7) (uh HA7))
            have HK7:=hide ((uh HK5).grown (uh HG7) (fun z hz=>Or.inr (hown z hz)))
            clear hown hbnd
            refine ⟨⟨j + 1,.slice ao7 (lx.length + 1) c7,_,false,sl++[(ka,va)],by go_num,rfl,rfl,hlt,hide (by rw [uh HPS]; simp [uh HC,uh HC2]),HS7,HK7⟩,?_⟩
            simp [intOf]; omega
    · have hje:j = n:=by omega
      subst hje
      have hlt':¬ (j:Int) < j:=by omega
      have HAL:=hide (show putF q u (sb,sl) = R by rw [← uh HPI]; exact uh HSR)
      cases sb with
      | true =>
        go_wp2
        go_ret
        have h9:=(uh HLx).at_ (uh HT0)
        have h8:sl = R:=uh HAL
        rw [h8] at h9
        exact ⟨_,rfl,h9,(uh HKW).trans (uh HKr) (by simp)⟩
      | false =>
        have HLw:=HLx
        have HKw:=HKr
        obtain ⟨vo,vc,rfl⟩:=xa0i (uh HLw).own
        have hown:∀ z,(Value.slice vo lx.length vc).ownBlock = some z→W0.heap.size≤z:=fun z hz=>((uh HLw).own.lt z hz).1
        have HW5:=hide (heap_alloc_new wr (.cells (itC D0 (.slice z1 z2 z3) (.slice y1 y2 y3)).toArray 116))
        have HK45:=hide ((Kept.refl [] wr).alloc (.cells (itC D0 (.slice z1 z2 z3) (.slice y1 y2 y3)).toArray 116))
        have HL5:=hide ((uh HLw).agr (uh HK45))
        have HK5:=hide ((uh HKw).trans (uh HK45) (by simp))
        have HRL:=hide (lit_rd (k:=k) (q:=q) (v:=u) (kv:=(.slice z1 z2 z3)) (vv:=(.slice y1 y2 y3)) (by rw [uh HD0]; exact uh HW5))
        have hln:=(uh HLw).pr.1
        have hbnd:lx.length≤2000000000:=uh HBND
        clear hln
        go_wp2_with (first
      | (refine wpList_load_row rfl 116 (.tmp 9) rfl w1.heap.size rfl 116 (itC D0 (.slice z1 z2 z3) (.slice y1 y2 y3)).toArray (0,0) _ (uh HX) Tryz.underlying116 rfl (by rw [xa1d (by rw [← uh HD0]; exact xa0h _ _)]; exact Tryz.size_it) ?_)
      | (refine xa1g rfl (.tmp 48) rfl (itC D0 (.slice z1 z2 z3) (.slice y1 y2 y3)) (xa2e (by rw [← uh HD0]; exact xa0h _ _) _ _) rfl ?_)
      | (at_builtin; refine xa0j rfl 26 116 (.tmp 47) (.tmp 49) rfl rfl _ W0.heap.size (.agg zit) 34 80 Tryz.underlying26 Tryz.infoIt rfl (by decide) (.slice vo lx.length vc) lx.length (itR k lx (sl)).flatten (uh HL5).own (some ⟨wr.heap.size,0,none⟩) 1 1 (itR k [((.slice z1 z2 z3),(.slice y1 y2 y3))] [(q,u)]) (uh HRL) xa2j (xa4t rfl rfl) (by omega) (by omega) (uh HK5).size rfl rfl ?_; intro ao7 c7 w7 HO7 HG7 HA7))
        have HS7:=hide ((uh HL5).snoc (a:=q) (b:=u) (sty_up (uh HSTQ) (uh HK5) hown) (uh HO7) (uh HG7) (uh HA7))
        have HK7:=hide ((uh HK5).grown (uh HG7) (fun z hz=>Or.inr (hown z hz)))
        go_ret
        have h9:=(uh HS7).at_ (uh HT0)
        have h8:sl++[(q,u)] = R:=uh HAL
        rw [h8] at h9
        exact ⟨_,rfl,h9,(uh HKW).trans (uh HK7) (by simp)⟩
end
def insAll (H:Hs) (L:Prs) (ps:Prs):Prs:=ps.foldl (fun M p=>insP H p.1 p.2 M) L
theorem Srt.insAll {H:Hs}:∀ (ps:Prs) {L:Prs},Srt H L→Srt H (insAll H L ps)
  | [],_,h=>h
  | p :: ps,_,h=>Srt.insAll ps (h.ins p.1 p.2)
theorem xb1u (H:Hs) (L ps:Prs) (p:List Nat × List Nat):insAll H L (ps++[p]) = insP H p.1 p.2 (insAll H L ps):=by
  unfold insAll; rw [List.foldl_append]; rfl
theorem xb8g (H:Hs):Srt H []:=List.Pairwise.nil
def lv (q:List Nat):Prs→Option (List Nat)
  | []=>none
  | p :: ps=>(lv q ps).or (if p.1 = q then some p.2 else none)
section
open Go.RowKit Go.BigFrame
theorem ins_le (H:Hs) (q v:List Nat):∀ L:Prs,(insP H q v L).length≤L.length + 1
  | []=>by simp [insP]
  | y :: L=>by
    have ih:=ins_le H q v L
    rw [xa2p]
    split
    · simp
    · split
      · simp
      · simp only [List.length_cons]; omega
theorem xa6c (H:Hs):∀ (ps L:Prs),(insAll H L ps).length≤L.length + ps.length
  | [],L=>by simp [insAll]
  | p :: ps,L=>by
    have h1:=xa6c H ps (insP H p.1 p.2 L)
    have h2:=ins_le H p.1 p.2 L
    show (insAll H (insP H p.1 p.2 L) ps).length≤_
    rw [List.length_cons]; omega
end
section
open Go Go.RowKit Go.BigFrame

end
section
open Go.RowKit Go.BigFrame


def shortP (ps:Prs):Prs:=ps.filter (fun p=>fitP p.1 p.2)
theorem xb3l (ps:Prs) (e:List Nat × List Nat):shortP (ps++[e]) = shortP ps++(if fitP e.1 e.2 = true then [e] else []):=by
  unfold shortP
  rw [List.filter_append,List.filter_cons]
  by_cases h:fitP e.1 e.2 = true
  · rw [if_pos h,if_pos h]; rfl
  · rw [if_neg h,if_neg h]; rfl
theorem xc1b (ps:Prs):(shortP ps).length≤ps.length:=List.length_filter_le _ _
def madP (ps:Prs) (j:Nat):Prs:=shortP (ps.take (min j 80))
theorem xa9w (ps:Prs):madP ps 0 = []:=by simp [madP,shortP]
theorem xc2i {ps:Prs} {j:Nat} (h:j < ps.length) (h8:j < 80):madP ps (j + 1) = madP ps j++(if fitP (ps.getD j ([],[])).1 (ps.getD j ([],[])).2 = true then [ps.getD j ([],[])] else []):=by
  unfold madP
  rw [Nat.min_eq_left (by omega),Nat.min_eq_left (by omega),List.take_succ_eq_append_getElem h,xb3l,List.getD_eq_getElem?_getD,List.getElem?_eq_getElem h]; rfl
theorem xc1d {ps:Prs} {j:Nat} (h8:80≤j):madP ps (j + 1) = madP ps j:=by
  unfold madP
  rw [Nat.min_eq_right (by omega),Nat.min_eq_right (by omega)]
theorem xb8z (ps:Prs) (j:Nat):(madP ps j).length≤80:=by
  unfold madP
  refine Nat.le_trans (xc1b _) ?_
  rw [List.length_take]; omega
def madL (k:Nat) (ps:Prs):Prs:=insAll (hsZ k) [] (madP ps ps.length)
theorem xc3d (k:Nat) (ps:Prs):(madL k ps).length≤80:=by
  have h:=xa6c (hsZ k) (madP ps ps.length) []
  have h2:=xb8z ps ps.length
  unfold madL
  simp at h
  omega
theorem xb4b (k:Nat) (ps:Prs):Srt (hsZ k) (madL k ps):=(xb8g _).insAll _
set_option maxHeartbeats 4000000 in
theorem xb9h (z:Int) (pv:Value) (w:World) (hz:widthB z = false) :
    Calls Tryz.prog 10 #[.int .i64 z,pv] w fun e w'=>e = .returned (.tuple #[.pointer none,.slice none 0 0])∧Kept [] w w':=by
  go_enter Tryz.func10,Tryz.ntmps10
  go_wp2_with fail
  refine Calls.mono (xc1x z w hz) ?_
  rintro e w1 ⟨rfl,k1⟩
  have HK1:=hide k1
  clear k1
  go_wp2_with fail
  go_ret2
  exact ⟨rfl,uh HK1⟩
set_option maxHeartbeats 8000000 in
theorem xb3b (S T:Nat→Prop) (k:Nat) (hk:1≤k∧k≤32) (pv:Value) (ps:Prs) (w:World) (hP:RdK w pv ps) (hl:ps.length≤100000000) (hS:∀ y,w.heap.size≤y→S y) (hT:∀ y,w.heap.size≤y→T y) (hTb:Tabs w) :
    Calls Tryz.prog 10 #[.int .i64 k,pv] w fun e w'=>∃ m' l',e = .returned (.tuple #[m',l'])∧MapAt S k w' m' (madL k ps)∧IAt T k w' l' (madL k ps)∧Kept [] w w':=by
  obtain ⟨ao,n,c,ks,vs,rfl,hn,hc1,hc2,hrd,hcell⟩:=hP
  have HN:=hide hn
  rw [hn] at hl
  have HRD:=hide hrd
  have HCE:=hide hcell
  clear hn hrd hcell
  have HS:=hide hS
  have HT:=hide hT
  have HTb:=hide hTb
  clear hS hT hTb
  go_enter Tryz.func10,Tryz.ntmps10
  go_wp2_with fail
  refine Calls.mono (xc3e S k w hk (uh HS)) ?_
  rintro e w1 ⟨m1,rfl,hm1,k1⟩
  obtain ⟨g1,rfl⟩:=xa6x hm1
  have HM1:=hide hm1
  have HK1:=hide k1
  clear hm1 k1
  go_wp2_with fail
  go_loopw [6,8,26] (fun t6 t8 t26 wr=>∃ (j g:Nat) (v:Value),t26 = .int .i64 j∧t6 = .pointer (some ⟨g,0,none⟩)∧t8 = v∧j≤n∧Hid (MapAt S k wr (.pointer (some ⟨g,0,none⟩)) (insAll (hsZ k) [] (madP ps j)))∧Hid (IAt T k wr v (insAll (hsZ k) [] (madP ps j)))∧Hid (Kept [] w wr)) (fun _ _ t _=>n - (intOf t).toNat)
  case atStart=>exact ⟨0,g1,_,rfl,rfl,rfl,Nat.zero_le _,hide (by rw [xa9w]; exact uh HM1),hide (by rw [xa9w]; exact IAt.nil _ _ _),HK1⟩
  case round =>
    clear HM1 HK1
    obtain ⟨j,g,v,rfl,rfl,rfl,hj,HMx,HIx,HKr⟩:=hrel
    by_cases hlt:j < n
    · have hlt':(j:Int) < n:=by omega
      have hjL:j < ps.length:=by have:=uh HN; omega
      obtain ⟨b,off,rfl,hcl⟩:=uh HCE (by omega)
      obtain ⟨hx1,hx2⟩:=hcl j hlt
      obtain ⟨hr1,hr2⟩:=uh HRD j hlt
      have HSNOC:=hide (fun h8=>xc2i hjL h8)
      have HSAME:=hide (fun h8=>xc1d (ps:=ps) (j:=j) h8)
      have hmle:=xb8z ps j
      generalize ks.getD j undef = kx at hx1 hr1
      generalize vs.getD j undef = vx at hx2 hr2
      generalize ps.getD j ([],[]) = ej at hr1 hr2 HSNOC
      obtain ⟨ka,va⟩:=ej
      have HR1:=hide hr1
      have HR2:=hide hr2
      obtain ⟨x1,x2,x3,rfl,_⟩:=id hr1
      obtain ⟨y1,y2,y3,rfl,_⟩:=id hr2
      have hm1:=(uh HKr).cell hx1 (by simp)
      have hm2:=(uh HKr).cell hx2 (by simp)
      have HRG:=hide (show wr.rangeAt b (off + j * 2) [.slice x1 x2 x3,.slice y1 y2 y3] from fun i u hi=>by
        match i,hi with
        | 0,hi=>rw [Nat.add_zero,hm1]; exact hi
        | 1,hi=>rw [hm2]; exact hi)
      have HP2:=hide (heap_alloc_new wr (.cells #[.slice x1 x2 x3,.slice y1 y2 y3] 32))
      have HK2:=hide ((Kept.refl [] wr).alloc (.cells #[.slice x1 x2 x3,.slice y1 y2 y3] 32))
      clear hx1 hx2 hr1 hr2 hm1 hm2 hcl
      go_upto_region 8 with (refine wpList_load_mid rfl 32 (.tmp 29) rfl b (off + j * 2) rfl [.slice x1 x2 x3,.slice y1 y2 y3] _ (uh HRG) Tryz.underlying32 rfl Tryz.size_pair ?_)
      try simp only [Act.put]
      generalize wr.alloc (.cells #[.slice x1 x2 x3,.slice y1 y2 y3] 32) = W2 at HP2 HK2 ⊢
      have hcp:=xa0l [] [.slice x1 x2 x3,.slice y1 y2 y3] [] (uh HP2) rfl
      have hQ1:=(show W2.cell? ⟨wr.heap.size,0,none⟩ = some (.slice x1 x2 x3) from hcp 0 _ rfl)
      have hQ2:=(show W2.cell? ⟨wr.heap.size,1,none⟩ = some (.slice y1 y2 y3) from hcp 1 _ rfl)
      have HC1:=hide hQ1
      have HC2:=hide hQ2
      have HK02:=hide ((uh HKr).trans (uh HK2) (by simp))
      have hil:=xa6c (hsZ k) (madP ps j) []
      have HLN:=hide (show (insAll (hsZ k) [] (madP ps j)).length≤80 by simp at hil; omega)
      have HSR:=hide (show Srt (hsZ k) (insAll (hsZ k) [] (madP ps j)) from (xb8g _).insAll _)
      have HMX2:=hide ((uh HMx).agr (Agr.nil (uh HK2)))
      have HIX2:=hide ((uh HIx).agr (Agr.nil (uh HK2)))
      have HQ2:=hide ((uh HR1).old (uh HK02) (by simp))
      have HV2:=hide ((uh HR2).old (uh HK02) (by simp))
      have HINS:=hide (fun p=>xb1u (hsZ k) [] (madP ps j) p)
      clear hcp hil hmle HMx HIx
      obtain ⟨L,hL⟩:∃ L,insAll (hsZ k) [] (madP ps j) = L:=⟨_,rfl⟩
      rw [hL] at HLN HSR HMX2 HIX2 HINS
      have HL:=hide hL
      clear hL
      by_cases h8:80≤j
      · have h81:(80:Int)≤j:=by omega
        have h82:¬ (j:Int) < 80:=by omega
        have HE:=hide (uh HSAME h8)
        go_wp2_with fail
        refine ⟨⟨j + 1,g,_,by go_num,rfl,rfl,hlt,hide (by rw [uh HE,uh HL]; exact uh HMX2),hide (by rw [uh HE,uh HL]; exact uh HIX2),HK02⟩,?_⟩
        simp [intOf]; omega
      · have h81:¬ (80:Int)≤j:=by omega
        have h82:(j:Int) < 80:=by omega
        have HE:=hide (uh HSNOC (by omega))
        have HE:Hid (madP ps (j + 1) = madP ps j++(if fitP ka va = true then [(ka,va)] else [])):=HE
        have HCP:=hide (xa7b _ _ ka va W2 (uh HQ2) (uh HV2))
        clear HSNOC HSAME
        go_wp2_with fail
        refine Calls.mono (uh HCP) ?_
        rintro e w7 ⟨rfl,h7⟩
        rw [h7]
        clear h7 HCP
        cases hFP:fitP ka va with
        | false =>
          rw [hFP] at HE
          go_wp2_with fail
          refine ⟨⟨j + 1,g,_,by go_num,rfl,rfl,hlt,hide (by rw [uh HE,if_neg (by decide),List.append_nil,uh HL]; exact uh HMX2),hide (by rw [uh HE,if_neg (by decide),List.append_nil,uh HL]; exact uh HIX2),HK02⟩,?_⟩
          simp [intOf]; omega
        | true =>
          rw [hFP] at HE
          have hfp:ka.length≤64∧va.length≤256:=of_decide_eq_true hFP
          have HFP:=hide hfp
          have HE2:=hide (show insAll (hsZ k) [] (madP ps (j + 1)) = insP (hsZ k) ka va L by rw [uh HE,if_pos rfl]; exact uh HINS (ka,va))
          clear hfp hFP
          go_wp2_with fail
          refine Calls.mono (xc3j S k _ _ _ L ka va W2 (uh HMX2) (uh HQ2) (uh HV2) (uh HFP).1 (uh HFP).2 (by have:=uh HLN; omega) (fun y hy=>uh HS y (by have:=(uh HK02).size; omega)) ((uh HTb).k (uh HK02))) ?_
          rintro e w4 ⟨m4,rfl,hm4,k4⟩
          obtain ⟨g4,rfl⟩:=xa6x hm4
          have HM4:=hide hm4
          have HK4:=hide ((uh HK02).trans k4 (by simp))
          have HI4:=hide ((uh HIX2).agr (Agr.nil k4))
          have hQ3:=k4.cell (uh HC1) (by simp)
          have hQ4:=k4.cell (uh HC2) (by simp)
          have HQ4:=hide ((uh HQ2).old k4 (by simp))
          have HV4:=hide ((uh HV2).old k4 (by simp))
          clear hm4 k4 hQ1 hQ2
          go_wp2_with fail
          refine Calls.mono (xb2x T k _ _ _ ka va L w4 hk (uh HI4) (uh HSR) (uh HQ4) (uh HV4) (by have:=(uh HFP).1; omega) (by have:=uh HLN; omega) (fun y hy=>uh HT y (by have:=(uh HK4).size; omega))) ?_
          rintro e w5 ⟨v5,rfl,hi5,k5⟩
          have HI5:=hide hi5
          have HM5:=hide ((uh HM4).agr (Agr.nil k5))
          have HK5:=hide ((uh HK4).trans k5 (by simp))
          clear hi5 k5 hQ3 hQ4
          go_wp2_with fail
          refine ⟨⟨j + 1,g4,v5,by go_num,rfl,rfl,hlt,hide (by rw [uh HE2]; exact uh HM5),hide (by rw [uh HE2]; exact uh HI5),HK5⟩,?_⟩
          simp [intOf]; omega
    · have hje:j = n:=by omega
      have hlt':¬ (j:Int) < n:=by omega
      have hjn:j = ps.length:=by have:=uh HN; omega
      have HM9:=hide (show MapAt S k wr (.pointer (some ⟨g,0,none⟩)) (madL k ps) by unfold madL; rw [← hjn]; exact uh HMx)
      have HI9:=hide (show IAt T k wr _ (madL k ps) by unfold madL; rw [← hjn]; exact uh HIx)
      clear hjn hje
      go_wp2
      go_ret2
      exact ⟨_,_,rfl,uh HM9,uh HI9,uh HKr⟩
end
theorem xb3u (q:List Nat):(hsZ 4).kd q = cutL 4 (hash (2 :: q)):=xa3a (k:=4) (by omega) _
theorem kdA:(hsZ 4).kd [97] = [245,252,181,161]++List.replicate 28 0:=by
  rw [xb3u]
  unfold hash hashW
  have e:[2,97]++pad [2,97].length = [2,97,128]++List.replicate 60 0++[16]:=by decide
  rw [e,xa1o (by decide),xa0r (by decide),← evC_eq]
  decide +kernel
theorem kdB:(hsZ 4).kd [98] = [149,93,106,213]++List.replicate 28 0:=by
  rw [xb3u]
  unfold hash hashW
  have e:[2,98]++pad [2,98].length = [2,98,128]++List.replicate 60 0++[16]:=by decide
  rw [e,xa1o (by decide),xa0r (by decide),← evC_eq]
  decide +kernel
theorem kdC:(hsZ 4).kd [99] = [103,240,8,163]++List.replicate 28 0:=by
  rw [xb3u]
  unfold hash hashW
  have e:[2,99]++pad [2,99].length = [2,99,128]++List.replicate 60 0++[16]:=by decide
  rw [e,xa1o (by decide),xa0r (by decide),← evC_eq]
  decide +kernel
def awP:Prs:=[([97],[49]),([98],[]),([99],[])]
def awM:Prs:=[([99],[]),([98],[]),([97],[49])]
theorem kcBA:kc (hsZ 4) [98] [97] = -1:=by unfold kc; rw [kdA,kdB]; decide
theorem kcCB:kc (hsZ 4) [99] [98] = -1:=by unfold kc; rw [kdB,kdC]; decide
theorem aw_mad:madL 4 awP = awM:=by
  have e:madP awP awP.length = awP:=by decide
  unfold madL
  rw [e]
  show insP (hsZ 4) [99] [] (insP (hsZ 4) [98] [] [([97],[49])]) = _
  have h1:insP (hsZ 4) [98] [] [([97],[49])] = [([98],[]),([97],[49])]:=by
    unfold insP
    rw [if_pos (by rw [kcBA]; decide)]
  rw [h1]
  unfold insP
  rw [if_pos (by rw [kcCB]; decide)]; rfl
theorem aw_dA:dgt ((hsZ 4).kd [97]) 0 = 15:=by rw [kdA]; decide
theorem aw_dB:dgt ((hsZ 4).kd [98]) 0 = 9:=by rw [kdB]; decide
theorem aw_dC:dgt ((hsZ 4).kd [99]) 0 = 6:=by rw [kdC]; decide
theorem aw_ch (i:Nat):ch (hsZ 4) 0 i awM = (if 6 = i then [([99],[])] else [])++((if 9 = i then [([98],[])] else [])++(if 15 = i then [([97],[49])] else [])):=by
  unfold ch awM
  simp only [List.filter_cons,List.filter_nil,aw_dA,aw_dB,aw_dC,decide_eq_true_eq]
  by_cases h1:6 = i <;> by_cases h2:9 = i <;> by_cases h3:15 = i <;> simp [h1,h2,h3] <;> omega
theorem aw_way:WayM 4 [97] awM 1:=⟨fun i hi=>by
  have h0:i = 0:=by omega
  subst h0
  show sgl (hsZ 4) awM = false
  cases h:sgl (hsZ 4) awM with
  | false=>rfl
  | true =>
    have h2:=xa1t.1 h ([97],[49]) (by simp [awM]) ([98],[]) (by simp [awM])
    have h3:(hsZ 4).kd [97] = (hsZ 4).kd [98]:=h2
    rw [kdA,kdB] at h3
    exact absurd h3 (by decide),by
  show sgl (hsZ 4) (ch (hsZ 4) 0 (dgt ((hsZ 4).kd [97]) 0) awM) = true
  rw [aw_dA,aw_ch]
  refine xa1t.2 (fun x hx y hy=>?_)
  simp at hx hy
  rw [hx,hy]⟩
theorem aw_bm:bm (hsZ 4) 0 awM = 33344:=(bm_ext (by omega) (fun i hi=>by
  rw [aw_ch]
  have h:i = 0∨i = 1∨i = 2∨i = 3∨i = 4∨i = 5∨i = 6∨i = 7∨i = 8∨i = 9∨i = 10∨i = 11∨i = 12∨i = 13∨i = 14∨i = 15:=by omega
  rcases h with rfl | rfl | rfl | rfl | rfl | rfl | rfl | rfl | rfl | rfl | rfl | rfl | rfl | rfl | rfl | rfl <;> decide)).symm
theorem aw_dn:dnL (hsZ 4) [97] awM 1 = [([97],[49])]:=by
  show ch (hsZ 4) 0 (dgt ((hsZ 4).kd [97]) 0) awM = _
  rw [aw_dA,aw_ch]; rfl
theorem aw_dig:digN (prfL 4 [97] awM 1) = 2:=by
  have h1:digN (prfL 4 [97] awM 1) = (prf 4 [97] awM 0).2.length:=by simp [digN,prfL]
  rw [h1]
  have hl:(stp 4 [97] awM 0).2.length = 3:=by
    unfold stp
    simp only
    rw [List.length_map,xa1a,dnL,aw_bm]; decide
  have hb:(stp 4 [97] awM 0).1 = 33344:=by
    unfold stp
    simp only
    rw [dnL,aw_bm]
  unfold prf wod
  simp only
  rw [hb,aw_dA,if_pos (by decide)]
  have hc:cnt 33344 15 = 2:=by decide
  rw [hc,List.length_eraseIdx_of_lt (by omega),hl]
theorem xb8w {w:World} {sv pv:Value} (h:ProofP 4 w [97] awM sv pv):RdS w sv (prfL 4 [97] awM 1)∧RdK w pv [([97],[49])]:=by
  obtain ⟨m,h1,h2,h3⟩:=h
  have e:=xc0k h3 aw_way
  subst e
  rw [aw_dn] at h2
  exact ⟨h1,h2⟩
section
open Go.RowKit Go.BigFrame
theorem xc2c {w:World} {g:Nat} (bs:List Nat) {cs:Array Value} {fr:Nat × Nat} (h:w.heap[g]? = some (.cells cs 5 fr)) (hc:cs = (bs.map u8).toArray) (hb:∀ x∈bs,x < 256) (n:Nat) (hn:bs.length = n) (hl:n≤140737488355328):Rd w (.slice (some ⟨g,0,none⟩) n n) bs:=by
  refine ⟨_,n,n,rfl,hn,Nat.le_refl _,⟨by omega,hl⟩,fun h=>by simp at h,hb,fun hp=>⟨g,0,rfl,fun i hi=>?_⟩⟩
  subst hc
  have hi':i < bs.length:=by omega
  rw [cell_of_row _ _ _ _ _ _ h,Nat.zero_add,List.getElem?_toArray,List.getElem?_map,List.getD_eq_getElem?_getD,List.getElem?_eq_getElem hi']
  rfl
abbrev bt (x:Int):Obj:=.cells #[.int .u8 x] 5 (1,2)
theorem bt_rd (w:World) (x:Nat) (hx:x < 256):Rd (w.alloc (bt x)) (.slice (some ⟨w.heap.size,0,none⟩) 1 1) [x]:=xc2c (n:=1) [x] (heap_alloc_new w (bt x)) rfl (by intro y hy; simp at hy; omega) rfl (by decide)
set_option maxHeartbeats 8000000 in
theorem xb1s (w:World) (hTb:Tabs w) :
    Calls Tryz.prog 9 #[] w fun e w'=>e = .returned (.bool true)∧Kept [] w w':=by
  have HTb:=hide hTb
  obtain ⟨S,hS⟩:∃ S:Nat→Prop,S = fun _=>True:=⟨_,rfl⟩
  have HS:=hide (show ∀ (n y:Nat),n≤y→S y from fun _ _ _=>by rw [hS]; trivial)
  clear hTb hS
  have kc:=fun (w:World) (C:Array Value) (n c:Nat)=>Lib.run_convert_bytes_const (P:=Tryz.prog) w 30 5 C n c Tryz.underlying30 Tryz.underlying5
  have kc1:=fun (w:World) (o:Obj) (C:Array Value) (n c:Nat)=>Go.Joins.run_convert_bytes_const_at (P:=Tryz.prog) (w.alloc o) 30 5 C n c (w.heap.size + 1) (by simp) Tryz.underlying30 Tryz.underlying5
  have kc2:=fun (w:World) (o o':Obj) (C:Array Value) (n c:Nat)=>Go.Joins.run_convert_bytes_const_at (P:=Tryz.prog) ((w.alloc o).alloc o') 30 5 C n c (w.heap.size + 1 + 1) (by simp) Tryz.underlying30 Tryz.underlying5
  have kc3:=fun (w:World) (o o' o2:Obj) (C:Array Value) (n c:Nat)=>Go.Joins.run_convert_bytes_const_at (P:=Tryz.prog) (((w.alloc o).alloc o').alloc o2) 30 5 C n c (w.heap.size + 1 + 1 + 1) (by simp) Tryz.underlying30 Tryz.underlying5
  go_enter Tryz.func9,Tryz.ntmps9
  have z1:(w.alloc (bt 97)).heap.size = w.heap.size + 1:=by simp
  have z2:((w.alloc (bt 97)).alloc (bt 49)).heap.size = w.heap.size + 1 + 1:=by simp
  have z3:(((w.alloc (bt 97)).alloc (bt 49)).alloc (bt 98)).heap.size = w.heap.size + 1 + 1 + 1:=by simp
  have z4:((((w.alloc (bt 97)).alloc (bt 49)).alloc (bt 98)).alloc (bt 99)).heap.size = w.heap.size + 1 + 1 + 1 + 1:=by simp
  have ka:=(Kept.refl [] w).alloc (bt 97)
  have kb:=(Kept.refl [] (w.alloc (bt 97))).alloc (bt 49)
  have kd:=(Kept.refl [] ((w.alloc (bt 97)).alloc (bt 49))).alloc (bt 98)
  have kf:=(Kept.refl [] (((w.alloc (bt 97)).alloc (bt 49)).alloc (bt 98))).alloc (bt 99)
  obtain ⟨RW,hRW⟩:∃ RW:Obj,RW = .cells #[.slice (some ⟨w.heap.size,0,none⟩) 1 1,.slice (some ⟨w.heap.size + 1,0,none⟩) 1 1,.slice (some ⟨w.heap.size + 1 + 1,0,none⟩) 1 1,.slice none 0 0,.slice (some ⟨w.heap.size + 1 + 1 + 1,0,none⟩) 1 1,.slice none 0 0] 32:=⟨_,rfl⟩
  have ke:=(Kept.refl [] ((((w.alloc (bt 97)).alloc (bt 49)).alloc (bt 98)).alloc (bt 99))).alloc RW
  have r1:=((((bt_rd w 97 (by decide)).old kb (by simp)).old kd (by simp)).old kf (by simp)).old ke (by simp)
  have r2:=(((bt_rd (w.alloc (bt 97)) 49 (by decide)).old kd (by simp)).old kf (by simp)).old ke (by simp)
  have r3:=((bt_rd ((w.alloc (bt 97)).alloc (bt 49)) 98 (by decide)).old kf (by simp)).old ke (by simp)
  have r4:=(bt_rd (((w.alloc (bt 97)).alloc (bt 49)).alloc (bt 98)) 99 (by decide)).old ke (by simp)
  rw [z1] at r2
  rw [z2] at r3
  rw [z3] at r4
  have hx:=heap_alloc_new ((((w.alloc (bt 97)).alloc (bt 49)).alloc (bt 98)).alloc (bt 99)) RW
  rw [z4] at hx
  have kall:=(((ka.trans kb (by simp)).trans kd (by simp)).trans kf (by simp)).trans ke (by simp)
  rw [hRW] at r1 r2 r3 r4 hx kall
  obtain ⟨X,hX⟩:∃ X,((((w.alloc (bt 97)).alloc (bt 49)).alloc (bt 98)).alloc (bt 99)).alloc (.cells #[.slice (some ⟨w.heap.size,0,none⟩) 1 1,.slice (some ⟨w.heap.size + 1,0,none⟩) 1 1,.slice (some ⟨w.heap.size + 1 + 1,0,none⟩) 1 1,.slice none 0 0,.slice (some ⟨w.heap.size + 1 + 1 + 1,0,none⟩) 1 1,.slice none 0 0] 32) = X:=⟨_,rfl⟩
  rw [hX] at r1 r2 r3 r4 hx kall
  have hrk:RdK X (.slice (some ⟨w.heap.size + 1 + 1 + 1 + 1,0,none⟩) 3 3) awP:=⟨_,3,3,[.slice (some ⟨w.heap.size,0,none⟩) 1 1,.slice (some ⟨w.heap.size + 1 + 1,0,none⟩) 1 1,.slice (some ⟨w.heap.size + 1 + 1 + 1,0,none⟩) 1 1],[.slice (some ⟨w.heap.size + 1,0,none⟩) 1 1,.slice none 0 0,.slice none 0 0],rfl,rfl,by omega,by omega,fun i hi=>by
      match i,hi with
      | 0,_=>exact ⟨r1,r2⟩
      | 1,_=>exact ⟨r3,Rd.nil _⟩
      | 2,_=>exact ⟨r4,Rd.nil _⟩,fun _=>⟨_,0,rfl,fun i hi=>by
      match i,hi with
      | 0,_=>constructor <;> (rw [cell_of_row _ _ _ _ _ _ hx]; rfl)
      | 1,_=>constructor <;> (rw [cell_of_row _ _ _ _ _ _ hx]; rfl)
      | 2,_=>constructor <;> (rw [cell_of_row _ _ _ _ _ _ hx]; rfl)⟩⟩
  have HRK:=hide hrk
  have HKX:=hide kall
  clear z1 z2 z3 z4 ka kb kd ke kf r1 r2 r3 r4 hx kall hrk hRW
  go_wp2_with fail
  try rw [hX]
  clear hX kc1 kc2 kc3
  refine Calls.mono (xb3b S S 4 (by omega) _ awP X (uh HRK) (by decide) (uh HS _) (uh HS _) ((uh HTb).k (uh HKX))) ?_
  rintro e w1 ⟨m1,l1,rfl,hm1,hi1,k1⟩
  rw [aw_mad] at hm1 hi1
  obtain ⟨g1,rfl⟩:=xa6x hm1
  have HM1:=hide hm1
  have HI1:=hide hi1
  have HK1:=hide ((uh HKX).trans k1 (by simp))
  clear hm1 hi1 k1
  go_wp2_with fail
  have kb:=(Kept.refl [] w1).alloc (bt 97)
  have HKB:=hide ((uh HK1).trans kb (by simp))
  have HIB:=hide ((uh HI1).agr (Agr.nil kb))
  refine Calls.mono (xa9y S 4 _ _ awM [97] _ ((uh HM1).agr (Agr.nil kb)) (bt_rd w1 97 (by decide)) (by decide) ((uh HTb).k (uh HKB))) ?_
  rintro e w2 ⟨sv,pv,rfl,hp2,k2⟩
  have hpp:=hp2.p
  obtain ⟨hrs,hrk⟩:=xb8w hpp
  obtain ⟨so,sn,sc,_,rfl,_⟩:=id hrs
  obtain ⟨po,pn,pc,_,_,rfl,_⟩:=id hrk
  have HK2:=hide ((uh HKB).trans k2 (by simp))
  have HI2:=hide ((uh HIB).agr (Agr.nil k2))
  have hka:=(Kept.refl [] w2).alloc (.cells #[.slice so sn sc,.slice po pn pc] 35)
  have HA:=hide (heap_alloc_new w2 (.cells #[.slice so sn sc,.slice po pn pc] 35))
  have HI3:=hide ((uh HI2).agr (Agr.nil hka))
  have HP3:=hide (hrs.old hka)
  have HQ3:=hide (hrk.old hka)
  have HK3:=hide ((uh HK2).trans hka (by simp))
  clear hp2 k2 kb hpp hrs hrk hka HIB HKB HK1 HI1 HM1 HKX HRK
  obtain ⟨w3,hw3⟩:∃ w3,w2.alloc (.cells #[.slice so sn sc,.slice po pn pc] 35) = w3:=⟨_,rfl⟩
  rw [hw3] at HA HI3 HP3 HQ3 HK3
  go_upto_region 5 with fail
  try rw [hw3]
  clear hw3
  go_wp2_with (refine wpList_load_row rfl 35 (.tmp 3) rfl w2.heap.size rfl 35 #[.slice so sn sc,.slice po pn pc] (0,0) _ (uh HA) Tryz.underlying35 rfl Tryz.size_kp ?_)
  refine Calls.mono (xb6e _ _ (prfL 4 [97] awM 1) [([97],[49])] w3 (uh HP3) (uh HQ3) (by rw [xa4v]; decide) (fun s hs=>by obtain ⟨i,_,rfl⟩:=List.mem_map.1 hs; exact Nat.le_trans (xb8c _ _ _ _) (by decide))) ?_
  rintro e w4 ⟨rfl,k4⟩
  rw [aw_dig]
  have hl1:[(([97]:List Nat),([49]:List Nat))].length = 1:=rfl
  rw [hl1]
  have HK4:=hide ((uh HK3).trans k4 (by simp))
  have HI4:=hide ((uh HI3).agr (Agr.nil k4))
  have HP4:=hide ((uh HP3).old k4)
  have HQ4:=hide ((uh HQ3).old k4)
  have HA4:=hide (xa0l [] [.slice so sn sc,.slice po pn pc] [] (k4.heap (uh HA) (by simp)) rfl:w4.rangeAt w2.heap.size 0 [.slice so sn sc,.slice po pn pc])
  clear k4 hl1
  go_upto_region 6 with fail
  have hd4:=(Kept.refl [] w4).drew
  refine lp_aw (by kernel_rfl) (by kernel_rfl) (fun W=>Kept [] w4 W) hd4 ?_
  refine LinG.rd (by rfl) (.int .i64 0) (fun W hW=>by go_simp) (by simp only [Act.put,sa1,sa2,sa3]; rfl) ?_
  refine LinG.rd (by rfl) (.bool true) (fun W hW=>by go_simp) (by simp only [Act.put,sa1,sa2,sa3]; rfl) ?_
  refine LinG.rd (by rfl) (.bool true) (fun W hW=>by go_simp) (by simp only [Act.put,sa1,sa2,sa3]; rfl) ?_
  refine LinG.ld (by rfl) 35 (.tmp 3) rfl w2.heap.size 0 rfl [.slice so sn sc,.slice po pn pc] _ (fun W hW=>hW.rng (uh HA4) (by simp)) Tryz.underlying35 rfl Tryz.size_kp (by simp only [Act.put,sa1,sa2,sa3]; rfl) ?_
  refine LinG.rd (by rfl) l1 (fun W hW=>by go_simp) (by simp only [Act.put,sa1,sa2,sa3]; rfl) ?_
  obtain ⟨W4,hW4⟩:∃ W4,w4.drew = W4:=⟨_,rfl⟩
  rw [hW4] at hd4 ⊢
  have hk1:=(Kept.refl [] W4).alloc (.cells #[.int .u8 97] 5)
  have hk2:=(Kept.refl [] W4).alloc (bt 97)
  have hk42:=hd4.trans hk2 (by simp)
  refine LinG.fin (ChG.op (by rfl) (.slice (some ⟨W4.heap.size,0,none⟩) 1 1) (by go_simp) (hd4.trans hk1 (by simp)) (by simp only [Act.put,sa1,sa2,sa3]; rfl) ?_)
  refine ChG.op (by rfl) (.slice (some ⟨W4.heap.size,0,none⟩) 1 1) (by have h9:=kc W4 #[.int .u8 97] 1 1; go_simp) hk42 (by simp only [Act.put,sa1,sa2,sa3]; rfl) ?_
  refine ChG.call (by rfl) rfl Tryz.call33 [.int .i64 4,l1,.slice (some ⟨W4.heap.size,0,none⟩) 1 1] rfl (xb4t S 4 (by omega) _ _ [97] awM (W4.alloc (bt 97)) ((uh HI4).agr (Agr.nil hk42)) (bt_rd W4 97 (by decide)) (by decide) (by rw [← aw_mad]; exact xb4b 4 awP) (by intro p hp; simp [awM] at hp; rcases hp with rfl | rfl | rfl <;> decide) (by decide) (uh HS _)) ?_
  rintro e w5 ⟨sv5,pv5,rfl,hp5,k5⟩
  obtain ⟨hrs5,hrk5⟩:=xb8w hp5
  have hk45:=hk42.trans k5 (by simp)
  refine ⟨_,rfl,hk45,?_⟩
  simp only [Act.put,sa1,sa2,sa3]
  refine ChG.call (by rfl) rfl Tryz.call14 [.agg #[.slice so sn sc,.slice po pn pc],.agg #[sv5,pv5]] rfl (xb6a _ _ _ _ _ _ _ _ w5 ((uh HP4).old hk45) ((uh HQ4).old hk45) hrs5 hrk5) ?_
  rintro e w6 ⟨rfl,k6⟩
  have hk46:=hk45.trans k6 (by simp)
  rw [decide_eq_true rfl,decide_eq_true rfl]
  refine ⟨_,rfl,hk46,?_⟩
  simp only [Act.put,sa1,sa2,sa3]
  refine ChG.fin ⟨hk46,?_⟩
  refine LinG.rd (by rfl) (.bool true) (fun W hW=>by go_simp) (by simp only [Act.put,sa1,sa2,sa3]; rfl) ?_
  refine LinG.rd (by rfl) (.bool true) (fun W hW=>by go_simp) (by simp only [Act.put,sa1,sa2,sa3]; rfl) ?_
  refine LinG.rd (by rfl) (.int .i64 2) (fun W hW=>by go_simp) (by simp only [Act.put,sa1,sa2,sa3]; rfl) ?_
  refine LinG.rd (by rfl) (.bool true) (fun W hW=>by go_simp) (by simp only [Act.put,sa1,sa2,sa3]; rfl) ?_
  refine LinG.rd (by rfl) (.bool true) (fun W hW=>by go_simp) (by simp only [Act.put,sa1,sa2,sa3]; rfl) ?_
  refine LinG.rd (by rfl) (.bool true) (fun W hW=>by go_simp) (by simp only [Act.put,sa1,sa2,sa3]; rfl) ?_
  refine LinG.rd (by rfl) (.int .i64 1) (fun W hW=>by go_simp) (by simp only [Act.put,sa1,sa2,sa3]; rfl) ?_
  refine LinG.rd (by rfl) (.bool true) (fun W hW=>by go_simp) (by simp only [Act.put,sa1,sa2,sa3]; rfl) ?_
  refine LinG.rd (by rfl) (.bool true) (fun W hW=>by go_simp) (by simp only [Act.put,sa1,sa2,sa3]; rfl) ?_
  refine LinG.rd (by rfl) (.bool true) (fun W hW=>by go_simp) (by simp only [Act.put,sa1,sa2,sa3]; rfl) ?_
  refine LinG.fin ?_
  have HK6:=hide ((uh HK4).trans hk46 (by simp))
  clear hk46 k6 hk45 k5 hk42 hk2 hk1 hd4
  go_wp2_with fail
  go_ret
  exact ⟨rfl,uh HK6⟩
theorem xb4x:∀ ps:Prs,2 * ps.length≤kwt ps
  | []=>by simp [kwt]
  | p :: ps=>by
    have ih:=xb4x ps
    have e:kwt (p :: ps) = p.1.length + p.2.length + 2 + kwt ps:=by simp [kwt]
    rw [e,List.length_cons]; omega
theorem xb1v {z:Int} (h:widthB z = true):∃ k:Nat,z = k∧1≤k∧k≤32:=by
  have h1:1≤z∧z≤32:=by simpa [widthB] using h
  exact ⟨z.toNat,by omega,by omega,by omega⟩
set_option maxHeartbeats 4000000 in
theorem xb2o (z:Int) (w:World) :
    Calls Tryz.prog 11 #[.int .i64 z] w fun e w'=>e = .returned (.bool (widthB z))∧w' = w:=by
  by_cases h1:1≤z
  · by_cases h2:z≤32
    · have hw:widthB z = true:=by simp [widthB,h1,h2]
      rw [hw]
      have h3:z ≥ 1:=h1
      go_enter Tryz.func11,Tryz.ntmps11
      go_wp2_with fail
      go_ret
      exact ⟨rfl,rfl⟩
    · have hw:widthB z = false:=by simp [widthB,h1,h2]
      rw [hw]
      have h3:z ≥ 1:=h1
      go_enter Tryz.func11,Tryz.ntmps11
      go_wp2_with fail
      go_ret
      exact ⟨rfl,rfl⟩
  · have hw:widthB z = false:=by simp [widthB,h1]
    rw [hw]
    have h3:¬ z ≥ 1:=h1
    go_enter Tryz.func11,Tryz.ntmps11
    go_wp2_with fail
    go_ret
    exact ⟨rfl,rfl⟩
end
section
open Go Go.RowKit Go.BigFrame
theorem lp_a11 {P:Program} {Q:Exit→Act→World→Prop} {id:Nat} {o0 o1 o2 o3 o4 o5 o6 o7 o8 o9 o10 o11 o12:Oper} {a:Act} {w:World} (hm:P.follows .mixedOrders = true) (hb:linB #[o0,o1,o2,o3,o4,o5,o6,o7,o8,o9,o10,o11,o12] [0,1,3,4] [2,5] [6,7,8,9,10,11,12] = true) (hg:([o0,o1,o3,o4]++([o2,o5]++[o6,o7,o8,o9,o10,o11,o12])).all (fun o=>o.guard.isNone) = true) (S:World→Prop) (hS:S w.drew)
    (h:LinY P S (ChL P Q S (fun a w=>S w∧LinY P S (Q .normal) [o6,o7,o8,o9,o10,o11,o12] a w) [o2,o5]) [o0,o1,o3,o4] a w.drew):(Code.region id #[o0,o1,o2,o3,o4,o5,o6,o7,o8,o9,o10,o11,o12] true).wp P Q a w:=wp_lin (R:=[0,1,3,4]) (C:=[2,5]) (T:=[6,7,8,9,10,11,12]) (rs:=[o0,o1,o3,o4]) (cs:=[o2,o5]) (ts:=[o6,o7,o8,o9,o10,o11,o12]) hm hb rfl rfl rfl hg hS h
end
section
open Go.RowKit Go.BigFrame
theorem xb9v {k:Nat} (hk:1≤k∧k≤32) (L:Prs):Dg (rootP k L):=by
  unfold rootP
  split
  · rw [← xa3a hk]; exact xa1h _ _
  · exact nod_dg k 64 L
structure ProofC (k:Nat) (w:World) (q:List Nat) (L:Prs) (sv pv:Value) (ss:List Stp) (ps:Prs):Prop where
  s:RdS w sv ss
  p:RdK w pv ps
  pb:(pairB ps).length≤1000000000000
  sl:ss.length≤1000000000000
  pl:ps.length≤1000000000000
  kl:∀ s∈ss,s.2.length≤1000000000
  e:rtE (k:Int) q ss ps = 0
  d:rtD (k:Int) q ss ps = rootP k L
  v:rtV (k:Int) q ss ps = getP q L
  ce:ckE (k:Int) (rootP k L) q ss ps = 0
  cv:ckV (k:Int) (rootP k L) q ss ps = getP q L
theorem ProofP.c {k:Nat} (hk:1≤k∧k≤32) {w:World} {q:List Nat} {L:Prs} {sv pv:Value} (h:ProofP k w q L sv pv) (hq:q.length≤64) (hs:Srt (hsZ k) L) (hf:Fit L) (hl:L.length≤80):∃ ss ps,ProofC k w q L sv pv ss ps:=by
  obtain ⟨m,h1,h2,h3⟩:=h
  have hm:=h3.le hk
  have hdl:=dn_len (H:=hsZ k) (q:=q) (L:=L) m
  have hfd:Fit (dnL (hsZ k) q L m):=hf.sub (fun x hx=>dn_sub m x hx)
  have hpb:=xa3e hfd
  exact ⟨_,_,h1,h2,by omega,by rw [xa4v]; omega,by omega,fun s hs=>by
    obtain ⟨i,_,rfl⟩:=List.mem_map.1 hs
    exact Nat.le_trans (xb8c _ _ _ _) (by decide),p_rtE hk hq h3 hs hf,p_rtD hk hq h3 hs hf,p_rtV hk hq h3 hs hf,p_ckE hk hq h3 hs hf,p_ckV hk hq h3 hs hf⟩
theorem ProofC.old {k:Nat} {w w':World} {q:List Nat} {L:Prs} {sv pv:Value} {ss:List Stp} {ps:Prs} (h:ProofC k w q L sv pv ss ps) (kk:Kept [] w w'):ProofC k w' q L sv pv ss ps:={ h with s:=h.s.old kk,p:=h.p.old kk }
set_option maxHeartbeats 8000000 in
theorem hproofAccepted_walk (z:Int) (pv:Value) (ps:Prs) (kv:Value) (q:List Nat) (w:World) (hz:-9223372036854775808≤z∧z≤9223372036854775807) (hP:RdK w pv ps) (hx:kwt ps≤1048576) (hku:Rd w kv q) (hql:q.length≤1048576) (hT:Tabs w) :
    Calls Tryz.prog 6 #[.int .i64 z,pv,kv] w fun e w'=>e = .returned (.bool true)∧Below w.heap.size w w':=by
  have hpl:=xb4x ps
  have hpl2:ps.length≤1000000:=by omega
  obtain ⟨S,hS⟩:∃ S:Nat→Prop,S = fun _=>True:=⟨_,rfl⟩
  have HS:=hide (show ∀ (n y:Nat),n≤y→S y from fun _ _ _=>by rw [hS]; trivial)
  have HT:=hide hT
  have HP:=hide hP
  have HPL:=hide hpl2
  have HKU:=hide hku
  obtain ⟨ao,n,c,_,_,rfl,_⟩:=id hP
  obtain ⟨ka,kn,kc,rfl,_⟩:=id hku
  clear hT hS hpl hpl2 hx hP hku hql
  go_enter Tryz.func6,Tryz.ntmps6
  go_wp2_with fail
  refine Calls.mono (xb1s w (uh HT)) ?_
  rintro e w1 ⟨rfl,k1⟩
  have HK1:=hide k1
  clear k1
  go_wp2_with fail
  cases hw:widthB z with
  | false =>
    refine Calls.mono (xb9h z _ w1 hw) ?_
    rintro e w2 ⟨rfl,k2⟩
    have HK2:=hide ((uh HK1).trans k2 (by simp))
    clear k2
    go_wp2_with fail
    refine Calls.mono (xb2o z w2) ?_
    rintro e w3 ⟨rfl,h3⟩
    rw [h3,hw]
    clear h3
    go_wp2_with fail
    go_ret
    exact ⟨rfl,(uh HK2).below (Nat.le_refl _) (by simp)⟩
  | true =>
    obtain ⟨k,rfl,hk⟩:=xb1v hw
    clear hw hz
    refine Calls.mono (xb3b S S k hk _ ps w1 ((uh HP).old (uh HK1)) (by have:=uh HPL; omega) (uh HS _) (uh HS _) ((uh HT).k (uh HK1))) ?_
    rintro e w3 ⟨m3,l3,rfl,hm3,hi3,k3⟩
    obtain ⟨g,rfl⟩:=xa6x hm3
    have HM3:=hide hm3
    have HI3:=hide hi3
    have HK3:=hide ((uh HK1).trans k3 (by simp))
    have HSR:=hide (xb4b k ps)
    have HLE:=hide (xc3d k ps)
    have HFI:=hide hm3.fit
    clear hm3 hi3 k3
    generalize madL k ps = L at HM3 HI3 HSR HLE HFI
    have HZK:=hide (show -9223372036854775808≤(k:Int)∧(k:Int)≤9223372036854775807 by omega)
    by_cases hq:q.length≤64
    · have HQ:=hide hq
      clear hq
      go_wp2_with fail
      refine Calls.mono (xa9y S k _ _ L q w3 (uh HM3) ((uh HKU).old (uh HK3) (by simp)) (uh HQ) ((uh HT).k (uh HK3))) ?_
      rintro e w8 ⟨sv,pv,rfl,hp8,k8⟩
      obtain ⟨s1,s2,s3,p1,p2,p3,rfl,rfl⟩:=hp8.p.form
      obtain ⟨ss,es,hpc⟩:=hp8.p.c hk (uh HQ) (uh HSR) (uh HFI) (uh HLE)
      have HA:=hide (heap_alloc_new w8 (.cells #[.slice s1 s2 s3,.slice p1 p2 p3] 35))
      have hka:=(Kept.refl [] w8).alloc (.cells #[.slice s1 s2 s3,.slice p1 p2 p3] 35)
      have HM9:=hide ((uh HM3).agr (Agr.nil (k8.trans hka (by simp))))
      have HK9:=hide ((uh HK3).trans (k8.trans hka (by simp)) (by simp))
      have HP9:=hide (hpc.old hka)
      obtain ⟨w9,hw9⟩:∃ w9,w8.alloc (.cells #[.slice s1 s2 s3,.slice p1 p2 p3] 35) = w9:=⟨_,rfl⟩
      rw [hw9] at HA HM9 HK9 HP9
      clear hp8 k8 hka hpc HM3 HK3 HI3
      go_upto_region 7 with fail
      try rw [hw9]
      clear hw9
      go_wp2_with fail
      refine Calls.mono (xc3u S k _ _ L q w9 (uh HM9) ((uh HKU).old (uh HK9) (by simp)) (uh HQ) ((uh HT).k (uh HK9))) ?_
      rintro e w10 ⟨v10,rfl,r10,_,k10⟩
      obtain ⟨va,vn,vc,rfl,_⟩:=id r10
      have HV10:=hide r10
      have HA10:=hide (k10.heap (uh HA) (by simp))
      have HM10:=hide ((uh HM9).agr (Agr.nil k10))
      have HK10:=hide ((uh HK9).trans k10 (by simp))
      have HP10:=hide ((uh HP9).old k10)
      have HFN:=hide (show fnd q L = (getP q L).isSome by unfold fnd; cases (getP q L).isSome <;> rfl)
      generalize fnd q L = FN at HFN ⊢
      clear r10 k10 HA HM9 HK9 HP9
      go_wp2_with (refine wpList_load_row rfl 35 (.tmp 9) rfl w8.heap.size rfl 35 #[.slice s1 s2 s3,.slice p1 p2 p3] (0,0) _ (uh HA10) Tryz.underlying35 rfl Tryz.size_kp ?_)
      have HPC:=uh HP10
      refine Calls.mono (xa5c (k:Int) _ q _ _ ss es w10 (uh HZK) ((uh HKU).old (uh HK10) (by simp)) HPC.s HPC.p ((uh HT).k (uh HK10)) HPC.pb HPC.sl HPC.pl HPC.kl) ?_
      rw [HPC.e,HPC.d,HPC.v,show ((0:Nat):Int) = 0 from rfl]
      rintro e w11 ⟨⟨v11,rfl,r11⟩,k11⟩
      clear HPC
      rw [← uh HFN]
      obtain ⟨xa,xn,xc,rfl,_⟩:=id r11
      have hRl:=xb9v hk L
      have HRd:=hide hRl
      have HROOT:=hide (fun (W:World) (hW:Kept [] w10 W)=>xc0t S k _ L W ((uh HM10).agr (Agr.nil hW)) ((uh HT).k ((uh HK10).trans hW (by simp))))
      have HCK:=hide (fun (W:World) (hW:Kept [] w10 W)=>(have hp:=(uh HP10).old hW; xb4d (k:Int) (rootP k L) _ q _ _ ss es W (uh HZK) hRl ((uh HKU).old ((uh HK10).trans hW (by simp)) (by simp)) hp.s hp.p ((uh HT).k ((uh HK10).trans hW (by simp))) hp.pb hp.sl hp.pl hp.kl))
      rw [(uh HP10).ce,(uh HP10).cv,← uh HFN,show ((0:Nat):Int) = 0 from rfl] at HCK
      have hrl:(rootP k L).length = 32:=hRl.1
      generalize rootP k L = R at HROOT HCK HRd hRl hrl ⊢
      have HV11:=hide r11
      have HZ1:=hide (heap_alloc_new w11 (.cells (zb 32) 50))
      have HX0:=hide (setRow_heap _ _ _ (brow R) _ _ (uh HZ1))
      have HKz:=hide ((Kept.refl [] w11).alloc (.cells (zb 32) 50) |>.setRow (g:=w11.heap.size) (Or.inr (Nat.le_refl _)) (brow R))
      have HSD:=hide (by rw [xa0a,hrl]; exact Tryz.size_dig:(Tryz.prog.info? 50).map (·.size) = some (brow R).size)
      obtain ⟨w12,hw12⟩:∃ w12,(w11.alloc (.cells (zb 32) 50)).setRow w11.heap.size (brow R) = w12:=⟨_,rfl⟩
      rw [hw12] at HX0 HKz
      have HK1012:=hide (k11.trans (uh HKz) (by simp))
      have HV12:=hide ((uh HV11).old (uh HKz) (by simp))
      have HU12:=hide ((uh HV10).old (uh HK1012) (by simp))
      have HA12:=hide (xa0l [] [.slice s1 s2 s3,.slice p1 p2 p3] [] ((uh HK1012).heap (uh HA10) (by simp)) rfl:w12.rangeAt w8.heap.size 0 [.slice s1 s2 s3,.slice p1 p2 p3])
      clear k11 r11 HV11 HKz hRl
      go_upto_region 11 with (rw [zb32]; refine wpList_store_row rfl 50 (.tmp 14) (.tmp 65) rfl w11.heap.size (brow R) rfl rfl _ (zb 32) (uh HZ1) (uh HSD) (by rw [xa0d,xa0a,hrl]) (xa0c _) ?_; rw [hw12]; simp only [Act.put])
      clear hw12
      have hd4:=(Kept.refl [] w12).drew
      refine lp_a11 (by kernel_rfl) (by kernel_rfl) rfl (fun W=>Kept [] w12 W) hd4 ?_
      refine LinY.rd (.int .i64 k) (fun W hW=>by go_simp) (by simp only [Act.put,sa1,sa2,sa3]; rfl) ?_
      refine LinY.rd (.pointer (some ⟨g,0,none⟩)) (fun W hW=>by go_simp) (by simp only [Act.put,sa1,sa2,sa3]; rfl) ?_
      refine LinY.rd (.slice ka kn kc) (fun W hW=>by go_simp) (by simp only [Act.put,sa1,sa2,sa3]; rfl) ?_
      refine LinY.ld 35 (.tmp 9) rfl w8.heap.size 0 rfl [.slice s1 s2 s3,.slice p1 p2 p3] _ (fun W hW=>hW.rng (uh HA12) (by simp)) Tryz.underlying35 rfl Tryz.size_kp (by simp only [Act.put,sa1,sa2,sa3]; rfl) ?_
      refine LinY.fin (ChL.call rfl Tryz.call20 [.pointer (some ⟨g,0,none⟩)] rfl (uh HROOT w12.drew ((uh HK1012).trans hd4 (by simp))) ?_)
      rintro e w13 ⟨rfl,k13⟩
      have hk13:=hd4.trans k13 (by simp)
      refine ⟨_,rfl,hk13,?_⟩
      simp only [Act.put,sa1,sa2,sa3]
      refine ChL.call rfl Tryz.call19 [.int .i64 k,.agg (brow R),.slice ka kn kc,.agg #[.slice s1 s2 s3,.slice p1 p2 p3]] rfl (uh HCK w13 ((uh HK1012).trans hk13 (by simp))) ?_
      rintro e w14 ⟨⟨v14,rfl,r14⟩,k14⟩
      obtain ⟨ya,yn,yc,rfl,_⟩:=id r14
      have hk14:=hk13.trans k14 (by simp)
      refine ⟨_,rfl,hk14,?_⟩
      simp only [Act.put,sa1,sa2,sa3]
      refine ChL.fin ⟨hk14,?_⟩
      refine LinY.rd (.tuple #[.slice ya yn yc,.bool FN,.int .i64 0]) (fun W hW=>by go_simp) (by simp only [Act.put,sa1,sa2,sa3]; rfl) ?_
      refine LinY.rd (.slice ya yn yc) (fun W hW=>by go_simp) (by simp only [Act.put,sa1,sa2,sa3]; rfl) ?_
      refine LinY.rd (.bool FN) (fun W hW=>by go_simp) (by simp only [Act.put,sa1,sa2,sa3]; rfl) ?_
      refine LinY.rd (.int .i64 0) (fun W hW=>by go_simp) (by simp only [Act.put,sa1,sa2,sa3]; rfl) ?_
      refine LinY.rd (.slice ya yn yc) (fun W hW=>by go_simp) (by simp only [Act.put,sa1,sa2,sa3]; rfl) ?_
      refine LinY.rd (.bool FN) (fun W hW=>by go_simp) (by simp only [Act.put,sa1,sa2,sa3]; rfl) ?_
      refine LinY.rd (.int .i64 0) (fun W hW=>by go_simp) (by simp only [Act.put,sa1,sa2,sa3]; rfl) ?_
      refine LinY.fin ?_
      have HX14:=hide (hk14.heap (uh HX0) (by simp))
      have HV14:=hide ((uh HV12).old hk14 (by simp))
      have HU14:=hide ((uh HU12).old hk14 (by simp))
      have HY14:=hide r14
      have HK1014:=hide ((uh HK1012).trans hk14 (by simp))
      clear hk14 k14 hk13 k13 hd4 r14 HCK HX0 HZ1
      generalize (getP q L).getD [] = Y at HV14 HU14 HY14
      have HSA:=hide (fun (W:World) (hW:Kept [] w14 W)=>(same_k _ _ Y Y W ((uh HV14).old hW (by simp)) ((uh HU14).old hW (by simp))).mono (fun e w2 h2=>(⟨h2.1,hW.trans h2.2 (by simp)⟩:e = .returned (.bool (decide (Y = Y)))∧Kept [] w14 w2)))
      have HSB:=hide (fun (W:World) (hW:Kept [] w14 W)=>(same_k _ _ Y Y W ((uh HY14).old hW (by simp)) ((uh HU14).old hW (by simp))).mono (fun e w2 h2=>(⟨h2.1,hW.trans h2.2 (by simp)⟩:e = .returned (.bool (decide (Y = Y)))∧Kept [] w14 w2)))
      have hYY:decide (Y = Y) = true:=decide_eq_true rfl
      rw [hYY] at HSA HSB
      have HRT:=hide (fun (W:World) (hW:Kept [] w14 W)=>(uh HROOT W ((uh HK1014).trans hW (by simp))).mono (fun e w2 h2=>(⟨h2.1,hW.trans h2.2 (by simp)⟩:e = .returned (.agg (brow R))∧Kept [] w14 w2)))
      have heq:=fun W=>dig_eq W R R hrl hrl
      rw [decide_eq_true rfl] at heq
      clear hYY HROOT HV14 HU14 HY14 HV12 HU12 HFN HV10
      go_upto_region 12 with fail
      refine xa0u (by kernel_rfl) (by kernel_rfl) ?_
      iterate 1 (go_big_quiet_step (fail))
      refine xa0m rfl (.bool true) (fun w' hw'=>by go_simp) ?_
      simp only [Act.put,List.setIfInBounds_toArray,List.set_cons_succ,List.set_cons_zero]
      iterate 2 (go_big_quiet_step (fail))
      refine xa0m rfl (.bool true) (fun w' hw'=>by go_simp) ?_
      simp only [Act.put,List.setIfInBounds_toArray,List.set_cons_succ,List.set_cons_zero]
      refine xa0m rfl (.bool true) (fun w' hw'=>by go_simp) ?_
      simp only [Act.put,List.setIfInBounds_toArray,List.set_cons_succ,List.set_cons_zero]
      iterate 1 (go_big_quiet_step (fail))
      refine xa0z rfl 50 (.tmp 14) rfl w11.heap.size rfl _ (brow R) (0,0) _ (fun w' hw'=>hw'.heap (uh HX14) (by simp)) Tryz.underlying50 rfl (uh HSD) ?_
      simp only [Act.put,List.setIfInBounds_toArray,List.set_cons_succ,List.set_cons_zero]
      go_big_quiet_step (fail)
      go_big_quiet_want
      go_big_quiet_op
      apply Exists.intro
      refine ⟨fun w' hw'=>?_,?_⟩
      · exact uh HRT w' hw'
      go_big_quiet_on
      refine xa0m rfl (.bool true) (fun w' hw'=>xb0w 50 (.tmp 86) (.tmp 88) _ rfl (brow R) (brow R) rfl rfl w' true (by kernel_rfl) (heq w')) ?_
      simp only [Act.put,List.setIfInBounds_toArray,List.set_cons_succ,List.set_cons_zero]
      cases FN
      all_goals
        refine xa0m rfl (.bool true) (fun w' hw'=>by go_simp) ?_
        simp only [Act.put,List.setIfInBounds_toArray,List.set_cons_succ,List.set_cons_zero]
        iterate 3 (go_big_quiet_step (fail))
        refine xa0m rfl (.bool true) (fun w' hw'=>by go_simp) ?_
        simp only [Act.put,List.setIfInBounds_toArray,List.set_cons_succ,List.set_cons_zero]
        refine xa0m rfl (.bool true) (fun w' hw'=>by go_simp) ?_
        simp only [Act.put,List.setIfInBounds_toArray,List.set_cons_succ,List.set_cons_zero]
        iterate 3 (go_big_quiet_step (fail))
        refine xa0m rfl (.bool true) (fun w' hw'=>by go_simp) ?_
        simp only [Act.put,List.setIfInBounds_toArray,List.set_cons_succ,List.set_cons_zero]
        refine xa0m rfl (.bool true) (fun w' hw'=>by go_simp) ?_
        simp only [Act.put,List.setIfInBounds_toArray,List.set_cons_succ,List.set_cons_zero]
        iterate 3 (go_big_quiet_step (fail))
        go_big_quiet_want
        go_big_quiet_op
        apply Exists.intro
        refine ⟨fun w' hw'=>?_,?_⟩
        · exact uh HSA w' hw'
        go_big_quiet_on
        refine xa0m rfl (.bool true) (fun w' hw'=>by go_simp) ?_
        simp only [Act.put,List.setIfInBounds_toArray,List.set_cons_succ,List.set_cons_zero]
        iterate 3 (go_big_quiet_step (fail))
        go_big_quiet_want
        go_big_quiet_op
        apply Exists.intro
        refine ⟨fun w' hw'=>?_,?_⟩
        · exact uh HSB w' hw'
        go_big_quiet_on
        refine xa0m rfl (.bool true) (fun w' hw'=>by go_simp) ?_
        simp only [Act.put,List.setIfInBounds_toArray,List.set_cons_succ,List.set_cons_zero]
        iterate 1 (go_big_quiet_step (fail))
        refine wpQuiet_nil ?_
        intro w15 hw15
        have HK15:=hide (((uh HK10).trans (uh HK1014) (by simp)).trans hw15 (by simp))
        clear hw15
        go_wp2
        go_ret
        exact ⟨rfl,(uh HK15).below (Nat.le_refl _) (by simp)⟩
    · have hq9:64 < q.length:=by omega
      have HQ:=hide hq9
      clear hq hq9
      go_wp2_with fail
      refine Calls.mono (xb5g _ _ q w3 ((uh HKU).old (uh HK3) (by simp)) (uh HQ)) ?_
      rintro e w8 ⟨rfl,k8⟩
      have hka:=(Kept.refl [] w8).alloc (.cells #[.slice none 0 0,.slice none 0 0] 35)
      have HK9:=hide ((uh HK3).trans (k8.trans hka (by simp)) (by simp))
      clear k8 hka
      go_upto_region 7 with fail
      generalize w8.alloc (.cells #[.slice none 0 0,.slice none 0 0] 35) = w9 at HK9 ⊢
      go_wp2_with fail
      refine Calls.mono (xc1i g _ q w9 ((uh HKU).old (uh HK9) (by simp)) (uh HQ)) ?_
      rintro e w10 ⟨rfl,k10⟩
      have HK10:=hide ((uh HK9).trans k10 (by simp))
      clear k10
      go_wp2_with fail
      go_ret
      exact ⟨rfl,(uh HK10).below (Nat.le_refl _) (by simp)⟩
end
section
open Go.ChangeShapes Go.WideShapes Go.ChangeAt Go.RowKit Go.Deep
theorem own:ownKnob Tryz.prog.godebug = none:=by kernel_rfl
theorem laidOut:laidOutB Tryz.prog = true:=by kernel_rfl
theorem xa7n {x:Int} (h:(Lit.int .u8 x).wf = true):0≤x∧x < 256:=by
  simp [Lit.wf,IntKind.min,IntKind.max,IntKind.signed,IntKind.bits] at h
  exact ⟨by omega,by omega⟩
theorem xb7f {x:Int} (h:(Lit.int .i64 x).wf = true):-9223372036854775808≤x∧x≤9223372036854775807:=by
  simp [Lit.wf,IntKind.min,IntKind.max,IntKind.signed,IntKind.bits] at h
  exact ⟨by omega,by omega⟩
theorem xc0g {H:Type} (d:DataW H):1≤Rows.uptoBulk d:=by
  cases d with
  | lit l=>cases l <;> simp [Rows.uptoBulk]
  | nil=>simp [Rows.uptoBulk]
  | ptr d=>simp [Rows.uptoBulk]
  | slice elems spare=>simp [Rows.uptoBulk]
  | agg parts=>simp [Rows.uptoBulk]
  | iface t d=>simp [Rows.uptoBulk]
  | map entries=>simp [Rows.uptoBulk]
  | held h=>simp [Rows.uptoBulk]
theorem xb9q {H:Type} (l:List (DataW H)):l.length≤Rows.uptoBulkAll l:=by
  induction l with
  | nil=>simp [Rows.uptoBulkAll]
  | cons x r ih=>have:=xc0g x; simp only [Rows.uptoBulkAll,List.length_cons]; omega
section
variable {H:Type} {enc:TypeId × Value→H} {W:World}
theorem xa4m {fuel:Nat} {cs:List Value} {x:DataW H × List MemPlace} (h:DataW.trod enc Tryz.prog W 0 (fun _=>true) true fuel 30 cs = some x) :
    ∃ v bs,cs = [v]∧(bs.length≤140737488355328→Rd W v bs)∧((bs = []∧x.1 = .nil)∨∃ elems spare,x.1 = .slice elems spare∧elems.length = bs.length):=by
  rcases open_ints Tryz.underlying30 Tryz.underlying5 (by kernel_rfl) h with ⟨rfl,rfl⟩ | ⟨a,len,cap,zs,rfl,_,hl,hm,hz,rfl,hcell,hwz⟩
  · exact ⟨_,[],rfl,fun _=>Rd.nil W,.inl ⟨rfl,rfl⟩⟩
  · have h2:(lits (H:=H) .u8 (zs.take len)).length = len:=by simp only [lits,List.length_map,List.length_take]; simp at hz; omega
    have hbl:((zs.take len).map Int.toNat).length = len:=by simp at hz; simp; omega
    refine ⟨_,(zs.take len).map Int.toNat,rfl,fun hB=>⟨_,_,_,rfl,hbl,hl,⟨by unfold maxLen at hm; omega,by omega⟩,by simp,?_,?_⟩,.inr ⟨_,_,rfl,by rw [h2,hbl]⟩⟩
    · intro y hy
      obtain ⟨z,hz1,rfl⟩:=List.mem_map.1 hy
      have:=xa7n (hwz z (List.mem_of_mem_take hz1)); omega
    · intro hp
      simp at hz
      have hc0:=hcell 0 (by omega)
      obtain ⟨b,off,spot⟩:=a
      have hspot:spot = none:=by simpa [Addr.add] using World.cell?_spot hc0
      subst hspot
      refine ⟨b,off,rfl,fun i hi=>?_⟩
      have hc:=hcell i (by omega)
      have hzi:i < zs.length:=by omega
      rw [Addr.add_mid] at hc
      rw [hc]
      have hw:=xa7n (hwz (zs[i]) (List.getElem_mem hzi))
      simp only [List.getD_eq_getElem?_getD,List.getElem?_eq_getElem hzi,Option.getD_some,List.getElem?_map,List.getElem?_take,hi,if_true,Option.map_some]
      simp [u8]; omega
theorem xa4j {d:DataW H} {bs:List Nat} (hx:(bs = []∧d = .nil)∨∃ elems spare,d = .slice elems spare∧elems.length = bs.length):bs.length + 1≤Rows.uptoBulk d:=by
  rcases hx with ⟨rfl,rfl⟩ | ⟨elems,spare,rfl,he⟩
  · simp [Rows.uptoBulk]
  · have:=xb9q elems
    simp only [Rows.uptoBulk]; omega
end
section
variable {H:Type} {enc:TypeId × Value→H} {W:World}
theorem xa8s {d:DataW H} {l:List (DataW H)} (h:d∈l):Rows.uptoBulk d≤Rows.uptoBulkAll l:=by
  induction l with
  | nil=>cases h
  | cons x r ih =>
    simp only [Rows.uptoBulkAll]
    cases List.mem_cons.1 h with
    | inl e=>subst e; omega
    | inr e=>have:=ih e; omega
theorem xa8z (f:Nat→List Nat × List Nat) (D0 D1:Nat→DataW H) (l:List Nat) (h:∀ i∈l,(f i).1.length + 1≤Rows.uptoBulk (D0 i)∧(f i).2.length + 1≤Rows.uptoBulk (D1 i)):kwt (l.map f)≤Rows.uptoBulkAll (l.map fun i=>.agg [D0 i,D1 i]):=by
  induction l with
  | nil=>simp [kwt]
  | cons a l ih =>
    have h1:=h a (by simp)
    have h2:=ih (fun i hi=>h i (by simp [hi]))
    simp only [kwt,List.map_cons,List.sum_cons,Rows.uptoBulkAll,Rows.uptoBulk] at h2 ⊢
    omega
theorem xb5a {fuel:Nat} {cs:List Value} {x:DataW H × List MemPlace} (h:DataW.trod enc Tryz.prog W 0 (fun _=>true) true fuel 22 cs = some x) (hB:Rows.uptoBulk x.1≤1048576) :
    ∃ v ps,cs = [v]∧RdK W v ps∧kwt ps≤1048576:=by
  rcases open_slice_pairs Tryz.underlying22 Tryz.underlying32 (by kernel_rfl) rfl rfl (by kernel_rfl) (by kernel_rfl) h with ⟨rfl,rfl⟩ | ⟨a,len,cap,m,n,V0,V1,D0,D1,P0,P1,rfl,_,hl,hm,hmm,rfl,hx⟩
  · exact ⟨_,[],rfl,⟨none,0,0,[],[],rfl,rfl,Nat.le_refl _,by omega,fun i h=>by omega,fun h=>by omega⟩,by simp [kwt]⟩
  · simp only [if_true] at hmm
    simp only [Rows.uptoBulk] at hB
    obtain ⟨f,hf⟩:=choose_lt (α:=List Nat × List Nat) (n:=len) (p:=fun i o=>(Rd W (V0 i) o.1∧Rd W (V1 i) o.2)∧o.1.length + 1≤Rows.uptoBulk (D0 i)∧o.2.length + 1≤Rows.uptoBulk (D1 i)) (by
      intro i hi
      obtain ⟨_,_,h0,h1⟩:=hx i (by omega)
      have hDi:Rows.uptoBulk (.agg [D0 i,D1 i])≤Rows.uptoBulkAll ((List.range len).map fun i=>.agg [D0 i,D1 i]):=xa8s (List.mem_map.2 ⟨i,List.mem_range.2 hi,rfl⟩)
      simp only [Rows.uptoBulk,Rows.uptoBulkAll] at hDi
      obtain ⟨v,bs,e0,hr0,hb0⟩:=xa4m h0
      obtain ⟨v',bs',e1,hr1,hb1⟩:=xa4m h1
      simp only [List.cons.injEq,and_true] at e0 e1
      subst e0
      subst e1
      have g0:=xa4j hb0
      have g1:=xa4j hb1
      exact ⟨(bs,bs'),⟨hr0 (by simp only at g0; omega),hr1 (by simp only at g1; omega)⟩,g0,g1⟩)
    refine ⟨_,(List.range len).map f,rfl,⟨some a,len,cap,(List.range len).map V0,(List.range len).map V1,rfl,by simp,hl,by unfold maxLen at hm; omega,?_,?_⟩,?_⟩
    · intro i hi
      have hc:=(hf i hi).1
      simpa [List.getD_eq_getElem?_getD,hi] using hc
    · intro hp
      obtain ⟨b,off,spot⟩:=a
      have hc0:=(hx 0 (by omega)).1
      have hspot:spot = none:=by simpa [Addr.add] using World.cell?_spot hc0
      subst hspot
      refine ⟨b,off,rfl,fun i hi=>?_⟩
      have hc:=hx i (by omega)
      rw [Addr.add_mid,Addr.add_mid] at hc
      have:=And.intro hc.1 hc.2.1
      simpa [List.getD_eq_getElem?_getD,hi,Nat.add_assoc] using this
    · have:=xa8z f D0 D1 (List.range len) (fun i hi=>(hf i (List.mem_range.1 hi)).2)
      omega
end
end
end Go.Proofs.YtiopaaeejppnnaaGreatDoor
