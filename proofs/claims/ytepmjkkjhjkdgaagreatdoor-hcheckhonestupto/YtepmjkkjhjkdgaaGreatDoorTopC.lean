import Derived.Test.YtepmjkkjhjkdgaaGreatDoorTopB
namespace Go.Proofs.YtepmjkkjhjkdgaaGreatDoor
set_option linter.unusedVariables false
set_option linter.unusedSimpArgs false
set_option maxRecDepth 100000
section
open Go.RowKit Go.BigFrame
theorem xb2v (b k:Nat):cnt b (k + 1) = cnt b k + (if b.testBit k then 1 else 0):=by
  unfold cnt
  rw [setB]
  split <;> simp
theorem xb2a (b:Nat) {i:Nat}:∀ {j:Nat},i≤j→cnt b i≤cnt b j
  | 0,h=>by obtain rfl:i = 0:=(by omega); exact Nat.le_refl _
  | j + 1,h=>by
    rcases Nat.lt_or_ge j i with h9 | h9
    · obtain rfl:i = j + 1:=by omega
      exact Nat.le_refl _
    · have:=xb2a b (j:=j) h9
      rw [xb2v]; omega
theorem xb6m {b n:Nat} {c:Nat} (h:fitS b n (c:Int) true = true):rankB b (c:Int)≤n:=by
  unfold fitS at h
  simp only [Bool.and_eq_true,decide_eq_true_eq,beq_iff_eq] at h
  obtain ⟨_,h1,h2⟩:=h
  unfold hasB at h1
  simp only [Bool.and_eq_true,decide_eq_true_eq,Int.toNat_natCast] at h1
  obtain ⟨_,h3,h4⟩:=h1
  unfold rankB
  rw [if_neg (by omega),if_pos h3,Int.toNat_natCast]
  have h5:=xb2v b c
  rw [if_pos h4] at h5
  have h6:=xb2a b (i:=c + 1) (j:=16) (by omega)
  simp at h2
  omega
theorem xb1p {z:Int} {ks:List Nat} {ss:List (Nat × List (List Nat))} {m:Nat}:∀ (n:Nat),fitsB z ks ss m n = true→∀ i,i < n→fitS (ss.getD i (0,[])).1 (ss.getD i (0,[])).2.length (atC z ks i) (decide (i + 1 < ss.length) || decide (0 < m)) = true
  | 0,_,i,hi=>by omega
  | n + 1,h,i,hi=>by
    rw [fitsB,Bool.and_eq_true] at h
    rcases Nat.lt_or_ge i n with h9 | h9
    · exact xb1p n h.1 i h9
    · obtain rfl:i = n:=by omega
      exact h.2
theorem xb7d {z:Int} {ks:List Nat} {ss:List (Nat × List (List Nat))} {ps:List (List Nat × List Nat)} (h:provB z ks ss ps = true):∀ i,i < footN ss ps→rankB (ss.getD i (0,[])).1 (atC z ks i:Nat)≤(ss.getD i (0,[])).2.length:=by
  intro i hi
  unfold provB at h
  simp only [Bool.and_eq_true] at h
  unfold footN at hi
  have h9:=xb1p ss.length h.2.1 i (by split at hi <;> omega)
  have h8:(decide (i + 1 < ss.length) || decide (0 < ps.length)) = true:=by
    split at hi
    · simp; omega
    · simp; omega
  rw [h8] at h9
  exact xb6m h9
def rtE (z:Int) (key:List Nat) (ss:List (Nat × List (List Nat))) (ps:List (List Nat × List Nat)):Nat :=
  if hfE z key [] ss = 0 then (if provB z (keyS z key) ss ps then 0 else 10) else hfE z key [] ss
def rtD (z:Int) (key:List Nat) (ss:List (Nat × List (List Nat))) (ps:List (List Nat × List Nat)):List Nat:=if rtE z key ss ps = 0 then rooD z key ss ps else List.replicate 32 0
def rtV (z:Int) (key:List Nat) (ss:List (Nat × List (List Nat))) (ps:List (List Nat × List Nat)):Option (List Nat):=if rtE z key ss ps = 0 then valH key ps else none
theorem xa0y {P:Program} {fn:Func} {p q r s:Tmp} {ty:TypeId} (h:fn.results = #[.cell p ty,.tmp q,.tmp r,.tmp s]) (tmps:Array Value) (w:World) (g:Nat) (t:TypeId) (cs:Array Value) (fr:Nat × Nat) (d:TypeDesc)
    (hp:tmps.getD p undef = .pointer (some ⟨g,0,none⟩)) (hg:w.heap[g]? = some (.cells cs t fr))
    (hu:P.underlying ty = some d) (hd:(match d with | .struct _ | .array _ _=>true | _=>false) = true) (hi:(P.info? ty).map (·.size) = some cs.size) (v u x:Value) (hq:tmps.getD q undef = v) (hr:tmps.getD r undef = u) (hs:tmps.getD s undef = x) :
    (results fn tmps).run P w = .ok (.tuple #[.agg cs,v,u,x]) w:=by
  have hp':tmps[p]?.getD undef = .pointer (some ⟨g,0,none⟩):=by simpa using hp
  have hq':tmps[q]?.getD undef = v:=by simpa using hq
  have hr':tmps[r]?.getD undef = u:=by simpa using hr
  have hs':tmps[s]?.getD undef = x:=by simpa using hs
  simp [results,h,hp',hq',hr',hs',asAddr,run_loadVar_row w g t ty cs fr d hg hu hd hi]
theorem xa7x {z:Int} {key:List Nat} {kn:List (List Nat)} {ss:List (Nat × List (List Nat))} (h:hfE z key kn ss = 0):widthB z = true∧key.length≤64:=by
  unfold hfE at h
  by_cases h1:widthB z = false
  · rw [if_pos h1] at h; omega
  · rw [if_neg h1] at h
    by_cases h2:64 < key.length
    · rw [if_pos h2] at h; omega
    · exact ⟨by simpa using h1,by omega⟩
theorem RdD.nil (w:World):RdD w (.slice none 0 0) []:=⟨none,0,0,rfl,rfl,Nat.le_refl _,by omega,fun d hd=>(by cases hd),fun h=>by omega⟩
theorem xb0f (z:Int) (ks:List Nat) (ss:List (Nat × List (List Nat))):∀ (k:Nat) (d:List Nat),Dg d→Dg (cliD z ks ss k d)
  | 0,d,h=>h
  | k + 1,d,h=>by rw [cliD]; exact xb0f z ks ss k _ (xa6i _ _ _)
theorem xb2m (z:Int) (ss:List (Nat × List (List Nat))) (ps:List (List Nat × List Nat)):Dg (footD z ss ps):=by
  unfold footD brD
  split
  · exact xa1v _ _
  · split
    · exact xa1v _ _
    · exact xa6i _ _ _
set_option maxHeartbeats 4000000 in
theorem xa2z (z:Int) (kv:Value) (key:List Nat) (sv pv:Value) (ss:List (Nat × List (List Nat))) (ps:List (List Nat × List Nat)) (w:World) (hz:-9223372036854775808≤z∧z≤9223372036854775807) (hk:Rd w kv key) (hs:RdS w sv ss) (hp:RdK w pv ps) (hT:Tabs w) (hpb:(pairB ps).length≤1000000000000)
    (hsl:ss.length≤1000000000000) (hpl:ps.length≤1000000000000) (hkl:∀ s∈ss,s.2.length≤1000000000) :
    Calls Tryz.prog 36 #[.int .i64 z,kv,.agg #[sv,pv]] w fun e w'=>(∃ v',e = .returned (.tuple #[.agg (brow (rtD z key ss ps)),v',.bool (rtV z key ss ps).isSome,.int .i64 (rtE z key ss ps:Int)])∧Rd w' v' ((rtV z key ss ps).getD []))∧Kept [] w w':=by
  obtain ⟨sa,sn,sc,vs0,rfl,_⟩:=id hs
  obtain ⟨pa,pn,pc,_,_,rfl,_⟩:=id hp
  obtain ⟨ka,kn,kc,rfl,hkn,_⟩:=id hk
  have HP:=hide hp
  have HS:=hide hs
  have HT:=hide hT
  have HKY:=hide hk
  have HKL:=hide hkl
  clear hp hs hT hkl hk
  have HK0:=hide (((Kept.refl [] w).alloc (.cells #[.slice sa sn sc,.slice pa pn pc] 64)).alloc (.cells (zb 32) 58))
  have HG0:=hide (heap_alloc2_old w (.cells #[.slice sa sn sc,.slice pa pn pc] 64) (.cells (zb 32) 58))
  have HZ0:=hide (heap_alloc2_new w (.cells #[.slice sa sn sc,.slice pa pn pc] 64) (.cells (zb 32) 58))
  obtain ⟨W,hW⟩:∃ W,(w.alloc (.cells #[.slice sa sn sc,.slice pa pn pc] 64)).alloc (.cells (zb 32) 58) = W:=⟨_,rfl⟩
  rw [hW] at HK0 HG0 HZ0
  have c0:W.cell? ⟨w.heap.size,0,none⟩ = some (.slice sa sn sc):=cell_of_row W w.heap.size 0 _ _ _ (uh HG0)
  go_enter Tryz.func36,Tryz.ntmps36
  go_wp2_with (first | (rw [zb32,hW]))
  clear hW
  refine Calls.mono (xa4r z _ key _ ss _ [] _ hz ((uh HKY).old (uh HK0) (by simp)) ((uh HS).old (uh HK0)) (RdD.nil _)) ?_
  rintro e w1 ⟨rfl,k1⟩
  have HK1:=hide ((uh HK0).trans k1 (by simp))
  have HG1:=hide (k1.heap (uh HG0) (by simp))
  have HZ1:=hide (k1.heap (uh HZ0) (by simp))
  clear k1 c0 HK0 HG0 HZ0
  by_cases hf:hfE z key [] ss = 0
  · have HE:=hide (by unfold rtE; rw [if_pos hf]:rtE z key ss ps = if provB z (keyS z key) ss ps then 0 else 10)
    obtain ⟨hw,hk64⟩:=xa7x hf
    rw [hf]
    clear hf
    go_wp2_with fail
    refine Calls.mono (xa6d z _ key _ hz ((uh HKY).old (uh HK1) (by simp)) (by omega) ((uh HT).k (uh HK1))) ?_
    rintro e w2 ⟨rfl,k2⟩
    have HKD:keyS z key = sumD z (2 :: key):=rfl
    rw [← HKD]
    clear HKD
    have HDG:=hide (xb0j z key)
    have hd:=(uh HDG).1
    have HSZ:=hide (Tryz.szD hd)
    have kN:=(k2.alloc (.cells (zb 32) 58)).setRow (g:=w2.heap.size) (Or.inr k2.size) (brow (keyS z key))
    have HN2:=hide (setRow_heap (w2.alloc (.cells (zb 32) 58)) w2.heap.size (zb 32) (brow (keyS z key)) 58 (0,0) (heap_alloc_new _ _))
    have HK2:=hide ((uh HK1).trans kN (by simp))
    have HG2:=hide (kN.heap (uh HG1) (by simp))
    have HZ2:=hide (kN.heap (uh HZ1) (by simp))
    clear kN k2 HK1 HG1 HZ1
    go_wp2_with (first
      | (rw [zb32]; refine wpList_store_row rfl 58 _ _ rfl w2.heap.size (brow (keyS z key)) rfl rfl _ (zb 32) (heap_alloc_new _ _) (uh HSZ) (by rw [xa0d,xa0a,hd]) (xa0c _) ?_)
      | (refine wpList_load_row rfl 58 _ rfl w2.heap.size rfl _ (brow (keyS z key)) (0,0) _ (uh HN2) Tryz.underlying58 rfl (uh HSZ) ?_)
      | (refine wpList_load_row rfl 64 _ rfl w.heap.size rfl _ #[.slice sa sn sc,.slice pa pn pc] (0,0) _ (uh HG2) Tryz.underlying64 rfl (by kernel_rfl) ?_))
    obtain ⟨X,hX⟩:∃ X,(w2.alloc (.cells (zb 32) 58)).setRow w2.heap.size (brow (keyS z key)) = X:=⟨_,rfl⟩
    rw [hX] at HN2 HK2 HG2 HZ2 ⊢
    clear hX
    have HKL2:=hide (fun s (h:s∈ss)=>Nat.le_trans (uh HKL s h) (by omega):∀ s∈ss,s.2.length≤1000000000000)
    refine Calls.mono (xb1j z (keyS z key) _ _ ss ps _ hw (uh HDG) ((uh HS).old (uh HK2)) ((uh HP).old (uh HK2)) ((uh HT).k (uh HK2)) hsl hpl (uh HKL2)) ?_
    rintro e w3 ⟨rfl,k3⟩
    have HK3:=hide ((uh HK2).trans k3 (by simp))
    have HN3:=hide (k3.heap (uh HN2) (by simp))
    have HG3:=hide (k3.heap (uh HG2) (by simp))
    have HZ3:=hide (k3.heap (uh HZ2) (by simp))
    clear k3 HK2 HN2 HG2 HZ2 HKL2
    cases hpv:provB z (keyS z key) ss ps with
    | false =>
      have HE2:=hide (by rw [uh HE,hpv]; rfl:rtE z key ss ps = 10)
      have HD:=hide (by unfold rtD; rw [uh HE2]; rfl:rtD z key ss ps = List.replicate 32 0)
      have HV:=hide (by unfold rtV; rw [uh HE2]; rfl:rtV z key ss ps = none)
      clear hpv HE
      go_wp2_with (rw [zb32]; refine wpList_store_row rfl 58 _ _ rfl (w.heap.size + 1) (zb 32) rfl rfl _ (zb 32) (uh HZ3) (by rw [xa0d]; exact Tryz.size_dig) rfl (xa0c _) ?_)
      have HKF:=hide ((uh HK3).setRow (g:=w.heap.size + 1) (Or.inr (by omega)) (zb 32))
      have HZF:=hide (setRow_heap w3 (w.heap.size + 1) (zb 32) (zb 32) 58 (0,0) (uh HZ3))
      rw [uh HD,uh HV,uh HE2]
      refine bodyPost_ret (v:=.tuple #[.agg (zb 32),.slice none 0 0,.bool false,.int .i64 10]) ?_ rfl ⟨⟨_,rfl,Rd.nil _⟩,uh HKF⟩
      exact xa0y rfl _ _ (w.heap.size + 1) _ (zb 32) (0,0) _ rfl (uh HZF) Tryz.underlying58 rfl (by rw [xa0d]; exact Tryz.size_dig) _ _ _ rfl rfl rfl
    | true =>
      have HE2:=hide (by rw [uh HE,hpv]; rfl:rtE z key ss ps = 0)
      have HD:=hide (by unfold rtD; rw [uh HE2]; rfl:rtD z key ss ps = cliD z (keyS z key) ss (footN ss ps) (footD z ss ps))
      have HV:=hide (by unfold rtV; rw [uh HE2]; rfl:rtV z key ss ps = valH key ps)
      have HFIT:=hide (xb7d hpv)
      clear hpv HE
      have c1:w3.cell? ⟨w.heap.size,1,none⟩ = some (.slice pa pn pc):=cell_of_row w3 w.heap.size 1 _ _ _ (uh HG3)
      go_wp2_with fail
      refine Calls.mono (xa9l _ _ key ps _ ((uh HKY).old (uh HK3) (by simp)) ((uh HP).old (uh HK3))) ?_
      rintro e w4 ⟨⟨v4,rfl,hv4,hb4⟩,k4⟩
      have HB4:=hide (fun x hx=>by have h9:=hb4 x hx; have h8:=lt_of_block (uh HZ3); omega:∀ x∈blk v4,x≠w.heap.size + 1)
      clear hb4
      have HK4:=hide ((uh HK3).trans k4 (by simp))
      have HN4:=hide (k4.heap (uh HN3) (by simp))
      have HG4:=hide (k4.heap (uh HG3) (by simp))
      have HZ4:=hide (k4.heap (uh HZ3) (by simp))
      have HV4:=hide hv4
      clear k4 hv4 c1 HK3 HN3 HG3 HZ3
      obtain ⟨av,nv,cv,rfl,_⟩:=id (uh HV4)
      go_wp2_with (first
        | (refine wpList_load_row rfl 58 _ rfl w2.heap.size rfl _ (brow (keyS z key)) (0,0) _ (uh HN4) Tryz.underlying58 rfl (uh HSZ) ?_)
        | (refine wpList_load_row rfl 64 _ rfl w.heap.size rfl _ #[.slice sa sn sc,.slice pa pn pc] (0,0) _ (uh HG4) Tryz.underlying64 rfl (by kernel_rfl) ?_))
      refine Calls.mono (xb3h z (keyS z key) _ _ ss ps _ hw (uh HDG) ((uh HS).old (uh HK4)) ((uh HP).old (uh HK4)) ((uh HT).k (uh HK4)) hpb (uh HKL) (uh HFIT)) ?_
      rintro e w5 ⟨rfl,k5⟩
      have HDG2:=hide (xb0f z (keyS z key) ss (footN ss ps) _ (xb2m z ss ps))
      generalize cliD z (keyS z key) ss (footN ss ps) (footD z ss ps) = D at HD HDG2 ⊢
      have hd2:=(uh HDG2).1
      have HSZ2:=hide (Tryz.szD hd2)
      have HZ5:=hide (k5.heap (uh HZ4) (by simp))
      have HV5:=hide ((uh HV4).old k5 (by simp))
      have HKF:=hide (((uh HK4).trans k5 (by simp)).setRow (g:=w.heap.size + 1) (Or.inr (by omega)) (brow D))
      have HVF:=hide ((uh HV5).kept ((Kept.refl [w.heap.size + 1] w5).setRow (g:=w.heap.size + 1) (Or.inl (by simp)) (brow D)) (fun x hx=>by simp; exact uh HB4 x hx))
      have HZF:=hide (setRow_heap w5 (w.heap.size + 1) (zb 32) (brow D) 58 (0,0) (uh HZ5))
      clear k5 HZ4 HN4 HG4 HK4
      go_wp2_with (refine wpList_store_row rfl 58 _ _ rfl (w.heap.size + 1) (brow D) rfl rfl _ (zb 32) (uh HZ5) (uh HSZ2) (by rw [xa0d,xa0a,hd2]) (xa0c _) ?_)
      rw [uh HD,uh HV,uh HE2]
      refine bodyPost_ret (v:=.tuple #[.agg (brow D),.slice av nv cv,.bool (valH key ps).isSome,.int .i64 0]) ?_ rfl ⟨⟨_,rfl,uh HVF⟩,uh HKF⟩
      exact xa0y rfl _ _ (w.heap.size + 1) _ (brow D) (0,0) _ rfl (uh HZF) Tryz.underlying58 rfl (uh HSZ2) _ _ _ rfl rfl rfl
  · have HE:=hide (by unfold rtE; rw [if_neg hf]:rtE z key ss ps = hfE z key [] ss)
    have HD:=hide (by unfold rtD; rw [uh HE,if_neg hf]:rtD z key ss ps = List.replicate 32 0)
    have HV:=hide (by unfold rtV; rw [uh HE,if_neg hf]:rtV z key ss ps = none)
    have hf':¬ (hfE z key [] ss:Int) = 0:=by omega
    generalize hfE z key [] ss = F at HE hf' ⊢
    clear hf
    go_wp2_with (first
      | (rw [zb32]; refine wpList_store_row rfl 58 _ _ rfl (w.heap.size + 1) (zb 32) rfl rfl _ (zb 32) (uh HZ1) (by rw [xa0d]; exact Tryz.size_dig) rfl (xa0c _) ?_))
    have HKF:=hide ((uh HK1).setRow (g:=w.heap.size + 1) (Or.inr (by omega)) (zb 32))
    have HZF:=hide (setRow_heap w1 (w.heap.size + 1) (zb 32) (zb 32) 58 (0,0) (uh HZ1))
    rw [uh HD,uh HV,uh HE]
    refine bodyPost_ret (v:=.tuple #[.agg (zb 32),.slice none 0 0,.bool false,.int .i64 (F:Int)]) ?_ rfl ⟨⟨_,rfl,Rd.nil _⟩,uh HKF⟩
    exact xa0y rfl _ _ (w.heap.size + 1) _ (zb 32) (0,0) _ rfl (uh HZF) Tryz.underlying58 rfl (by rw [xa0d]; exact Tryz.size_dig) _ _ _ rfl rfl rfl
def ckE (z:Int) (root key:List Nat) (ss:List (Nat × List (List Nat))) (ps:List (List Nat × List Nat)):Nat :=
  if hfE z key [root] ss = 0 then (if rtE z key ss ps = 0 then (if rtD z key ss ps = root then 0 else 10) else rtE z key ss ps) else hfE z key [root] ss
def ckV (z:Int) (root key:List Nat) (ss:List (Nat × List (List Nat))) (ps:List (List Nat × List Nat)):Option (List Nat):=if ckE z root key ss ps = 0 then rtV z key ss ps else none
theorem rtD_dg (z:Int) (key:List Nat) (ss:List (Nat × List (List Nat))) (ps:List (List Nat × List Nat)):Dg (rtD z key ss ps):=by
  unfold rtD
  split
  · exact xb0f _ _ _ _ _ (xb2m _ _ _)
  · exact ⟨by simp,fun x hx=>by simp at hx; omega⟩
set_option maxHeartbeats 4000000 in
theorem xa6w (z:Int) (root:List Nat) (kv:Value) (key:List Nat) (sv pv:Value) (ss:List (Nat × List (List Nat))) (ps:List (List Nat × List Nat)) (w:World) (hz:-9223372036854775808≤z∧z≤9223372036854775807) (hr:Dg root) (hk:Rd w kv key) (hs:RdS w sv ss) (hp:RdK w pv ps) (hT:Tabs w) (hpb:(pairB ps).length≤1000000000000)
    (hsl:ss.length≤1000000000000) (hpl:ps.length≤1000000000000) (hkl:∀ s∈ss,s.2.length≤1000000000) :
    Calls Tryz.prog 37 #[.int .i64 z,.agg (brow root),kv,.agg #[sv,pv]] w fun e w'=>(∃ v',e = .returned (.tuple #[v',.bool (ckV z root key ss ps).isSome,.int .i64 (ckE z root key ss ps:Int)])∧Rd w' v' ((ckV z root key ss ps).getD []))∧Kept [] w w':=by
  obtain ⟨sa,sn,sc,vs0,rfl,_⟩:=id hs
  obtain ⟨pa,pn,pc,_,_,rfl,_⟩:=id hp
  obtain ⟨ka,kn,kc,rfl,hkn,_⟩:=id hk
  have HP:=hide hp
  have HS:=hide hs
  have HT:=hide hT
  have HKY:=hide hk
  have HKL:=hide hkl
  have HR:=hide hr
  have hrl:=hr.1
  have HSR:=hide (Tryz.szD hrl)
  clear hp hs hT hkl hk hr
  have HK0:=hide (((Kept.refl [] w).alloc (.cells (brow root) 58)).alloc (.cells #[.slice sa sn sc,.slice pa pn pc] 64))
  have HR0:=hide (heap_alloc2_old w (.cells (brow root) 58) (.cells #[.slice sa sn sc,.slice pa pn pc] 64))
  have HG0:=hide (heap_alloc2_new w (.cells (brow root) 58) (.cells #[.slice sa sn sc,.slice pa pn pc] 64))
  obtain ⟨W,hW⟩:∃ W,(w.alloc (.cells (brow root) 58)).alloc (.cells #[.slice sa sn sc,.slice pa pn pc] 64) = W:=⟨_,rfl⟩
  rw [hW] at HK0 HG0 HR0
  have c0:W.cell? ⟨w.heap.size + 1,0,none⟩ = some (.slice sa sn sc):=cell_of_row W (w.heap.size + 1) 0 _ _ _ (uh HG0)
  go_enter Tryz.func37,Tryz.ntmps37
  have hfs:∀ A:Array Value,(List.foldl (fun cs x=>cs.setIfInBounds x.snd x.fst) A (List.map u8 root).zipIdx).size = A.size:=fun A=>xa5y _ A 0
  go_wp2_with (refine wpList_load_mid rfl 58 _ rfl w.heap.size 0 rfl (root.map u8) _ (xa0r (uh HR0)) Tryz.underlying58 rfl (by rw [List.length_map,hrl]; exact Tryz.size_dig) ?_)
  rw [zb32,xb0b root hrl]
  clear hW hfs
  have kA:=(Kept.refl [] W).alloc (.cells (brow root) 58)
  have HRD:=hide (RdD.one (heap_alloc_new W (.cells (brow root) 58)) (uh HR))
  have HKA:=hide ((uh HK0).trans kA (by simp))
  have HRA:=hide (kA.heap (uh HR0) (by simp))
  have HGA:=hide (kA.heap (uh HG0) (by simp))
  refine Calls.mono (xa4r z _ key _ ss _ [root] _ hz ((uh HKY).old (uh HKA) (by simp)) ((uh HS).old (uh HKA)) (uh HRD)) ?_
  rintro e w1 ⟨rfl,k1⟩
  have HK1:=hide ((uh HKA).trans k1 (by simp))
  have HR1:=hide (k1.heap (uh HRA) (by simp))
  have HG1:=hide (k1.heap (uh HGA) (by simp))
  clear k1 kA c0 HK0 HR0 HG0 HRD HKA HRA HGA
  by_cases hf:hfE z key [root] ss = 0
  · have HE:=hide (by unfold ckE; rw [if_pos hf]:ckE z root key ss ps = if rtE z key ss ps = 0 then (if rtD z key ss ps = root then 0 else 10) else rtE z key ss ps)
    rw [hf]
    clear hf
    go_wp2_with (refine wpList_load_row rfl 64 _ rfl (w.heap.size + 1) rfl _ #[.slice sa sn sc,.slice pa pn pc] (0,0) _ (uh HG1) Tryz.underlying64 rfl (by kernel_rfl) ?_)
    refine Calls.mono (xa2z z _ key _ _ ss ps _ hz ((uh HKY).old (uh HK1) (by simp)) ((uh HS).old (uh HK1)) ((uh HP).old (uh HK1)) ((uh HT).k (uh HK1)) hpb hsl hpl (uh HKL)) ?_
    rintro e w2 ⟨⟨v2,rfl,hv2⟩,k2⟩
    have HDG:=hide (rtD_dg z key ss ps)
    have HV2:=hide hv2
    obtain ⟨av,nv,cv,rfl,_⟩:=id hv2
    clear hv2
    have HCV:=hide (by unfold ckV; rfl:ckV z root key ss ps = if ckE z root key ss ps = 0 then rtV z key ss ps else none)
    generalize rtD z key ss ps = D at HDG HE ⊢
    generalize rtE z key ss ps = E at HE ⊢
    generalize rtV z key ss ps = V at HV2 HCV ⊢
    have hd:=(uh HDG).1
    have HSZ:=hide (Tryz.szD hd)
    have kN:=(k2.alloc (.cells (zb 32) 58)).setRow (g:=w2.heap.size) (Or.inr k2.size) (brow D)
    have HN2:=hide (setRow_heap (w2.alloc (.cells (zb 32) 58)) w2.heap.size (zb 32) (brow D) 58 (0,0) (heap_alloc_new _ _))
    have HK2:=hide ((uh HK1).trans kN (by simp))
    have HR2:=hide (kN.heap (uh HR1) (by simp))
    have HVN:=hide ((uh HV2).old (((Kept.refl [] w2).alloc (.cells (zb 32) 58)).setRow (g:=w2.heap.size) (Or.inr (Nat.le_refl _)) (brow D)) (by simp))
    clear kN k2 HK1 HR1 HG1 HV2
    by_cases hE:E = 0
    · have heq:=fun W=>dig_eq W D root hd hrl
      by_cases hDr:D = root
      · have HE2:=hide (by rw [uh HE,if_pos hE,if_pos hDr]:ckE z root key ss ps = 0)
        rw [decide_eq_true hDr] at heq
        subst hE
        clear hDr
        go_wp2_with (first
          | (rw [zb32]; refine wpList_store_row rfl 58 _ _ rfl w2.heap.size (brow D) rfl rfl _ (zb 32) (heap_alloc_new _ _) (uh HSZ) (by rw [xa0d,xa0a,hd]) (xa0c _) ?_)
          | (refine wpList_load_row rfl 58 _ rfl w2.heap.size rfl _ (brow D) (0,0) _ (uh HN2) Tryz.underlying58 rfl (uh HSZ) ?_)
          | (refine wpList_load_row rfl 58 _ rfl w.heap.size rfl _ (brow root) (0,0) _ (uh HR2) Tryz.underlying58 rfl (uh HSR) ?_))
        go_ret3
        rw [uh HCV,uh HE2]
        exact ⟨⟨_,rfl,uh HVN⟩,uh HK2⟩
      · have HE2:=hide (by rw [uh HE,if_pos hE,if_neg hDr]:ckE z root key ss ps = 10)
        rw [decide_eq_false hDr] at heq
        subst hE
        clear hDr
        go_wp2_with (first
          | (rw [zb32]; refine wpList_store_row rfl 58 _ _ rfl w2.heap.size (brow D) rfl rfl _ (zb 32) (heap_alloc_new _ _) (uh HSZ) (by rw [xa0d,xa0a,hd]) (xa0c _) ?_)
          | (refine wpList_load_row rfl 58 _ rfl w2.heap.size rfl _ (brow D) (0,0) _ (uh HN2) Tryz.underlying58 rfl (uh HSZ) ?_)
          | (refine wpList_load_row rfl 58 _ rfl w.heap.size rfl _ (brow root) (0,0) _ (uh HR2) Tryz.underlying58 rfl (uh HSR) ?_))
        go_ret3
        rw [uh HCV,uh HE2]
        exact ⟨⟨_,rfl,Rd.nil _⟩,uh HK2⟩
    · have HE2:=hide (by rw [uh HE,if_neg hE]:ckE z root key ss ps = E)
      have hE':¬ (E:Int) = 0:=by omega
      have HEE:=hide hE
      clear hE
      go_wp2_with (rw [zb32]; refine wpList_store_row rfl 58 _ _ rfl w2.heap.size (brow D) rfl rfl _ (zb 32) (heap_alloc_new _ _) (uh HSZ) (by rw [xa0d,xa0a,hd]) (xa0c _) ?_)
      go_ret3
      rw [uh HCV,uh HE2,if_neg (uh HEE)]
      exact ⟨⟨_,rfl,Rd.nil _⟩,uh HK2⟩
  · have HE:=hide (by unfold ckE; rw [if_neg hf]:ckE z root key ss ps = hfE z key [root] ss)
    have HV:=hide (by unfold ckV; rw [uh HE,if_neg hf]:ckV z root key ss ps = none)
    have hf':¬ (hfE z key [root] ss:Int) = 0:=by omega
    generalize hfE z key [root] ss = F at HE hf' ⊢
    clear hf
    go_wp2
    go_ret3
    rw [uh HV,uh HE]
    exact ⟨⟨_,rfl,Rd.nil _⟩,uh HK1⟩
theorem xb4c {z:Int} (hw:widthB z = true):formB z (List.replicate 32 0) = true:=by
  unfold formB cutL
  have h:=xa1x hw
  rw [hw]
  simp only [Bool.true_and,decide_eq_true_eq,List.take_replicate]
  rw [List.replicate_append_replicate,show min z.toNat 32 + (32 - z.toNat) = 32 by omega]
theorem xa9f {z:Int} (hw:widthB z = true) (e:Nat) (p:List Nat):formB z (sunD e z p) = true:=by
  unfold sunD
  split
  · exact xa1s hw p
  · exact xb4c hw
theorem xb2d {z:Int} (hw:widthB z = true) (ss:List (Nat × List (List Nat))) (ps:List (List Nat × List Nat)):formB z (footD z ss ps) = true:=by
  unfold footD brD
  split
  · exact xa1s hw _
  · split
    · exact xa1s hw _
    · exact xa9f hw _ _
theorem xa8s {z:Int} (hw:widthB z = true) (ks:List Nat) (ss:List (Nat × List (List Nat))):∀ (k:Nat) (d:List Nat),formB z d = true→formB z (cliD z ks ss k d) = true
  | 0,d,h=>h
  | k + 1,d,h=>by rw [cliD]; exact xa8s hw ks ss k _ (xa9f hw _ _)
theorem xb3a {z:Int} {key:List Nat} {ss:List (Nat × List (List Nat))} {ps:List (List Nat × List Nat)} (h:rtE z key ss ps = 0):hfE z key [] ss = 0∧provB z (keyS z key) ss ps = true:=by
  unfold rtE at h
  by_cases hf:hfE z key [] ss = 0
  · rw [if_pos hf] at h
    cases hp:provB z (keyS z key) ss ps with
    | true=>exact ⟨hf,rfl⟩
    | false=>rw [hp] at h; simp at h
  · rw [if_neg hf] at h; exact absurd h hf
theorem rtE_mk {z:Int} {key:List Nat} {ss:List (Nat × List (List Nat))} {ps:List (List Nat × List Nat)} (hf:hfE z key [] ss = 0) (hp:provB z (keyS z key) ss ps = true):rtE z key ss ps = 0:=by
  unfold rtE; rw [if_pos hf,hp]; rfl
theorem xb7g {z:Int} {key:List Nat} {ss:List (Nat × List (List Nat))} {ps:List (List Nat × List Nat)} (h:rtE z key ss ps = 0):formB z (rtD z key ss ps) = true:=by
  have hw:=(xa7x (xb3a h).1).1
  unfold rtD
  rw [if_pos h]
  exact xa8s hw _ _ _ _ (xb2d hw _ _)
theorem xb7f {z:Int} {key r:List Nat} {ss:List (Nat × List (List Nat))} (h:hfE z key [] ss = 0):hfE z key [r] ss = if formB z r then 0 else 3:=by
  obtain ⟨h1,h2⟩:=xa7x h
  unfold hfE at h ⊢
  rw [if_neg (by simp [h1]),if_neg (by omega)] at h ⊢
  have h3:ss.all (fun s=>s.2.all (formB z)) = true:=by
    by_cases h9:ss.all (fun s=>s.2.all (formB z)) = true
    · exact h9
    · rw [if_neg (by simpa using h9)] at h; omega
  rw [h3]
  simp
theorem agr_eq {z:Int} {key r:List Nat} {ss:List (Nat × List (List Nat))} {ps:List (List Nat × List Nat)} (h:rtE z key ss ps = 0):ckE z r key ss ps = if formB z r then (if rtD z key ss ps = r then 0 else 10) else 3:=by
  unfold ckE
  rw [xb7f (xb3a h).1]
  cases formB z r with
  | true=>simp [h]
  | false=>simp
theorem agr_ok {z:Int} {key:List Nat} {ss:List (Nat × List (List Nat))} {ps:List (List Nat × List Nat)} (h:rtE z key ss ps = 0):ckE z (rtD z key ss ps) key ss ps = 0:=by
  rw [agr_eq h,xb7g h]; simp
theorem xb5c (a b:List Nat):∀ (n i m:Nat),m≤i + n→((∀ j,i≤j→j < m→dgt a j = dgt b j)→m≤comL a b n i∨m≤i)∧(m≤comL a b n i→∀ j,i≤j→j < m→dgt a j = dgt b j)
  | 0,i,m,hm=>⟨fun _=>Or.inr (by omega),fun _ j h1 h2=>by omega⟩
  | n + 1,i,m,hm=>by
    rw [comL]
    by_cases h:dgt a i = dgt b i
    · rw [if_pos h]
      have ih:=xb5c a b n (i + 1) m (by omega)
      refine ⟨fun h9=>?_,fun h9 j h1 h2=>?_⟩
      · rcases ih.1 (fun j h1 h2=>h9 j (by omega) h2) with h8 | h8
        · exact Or.inl h8
        · have:i + 1≤comL a b n (i + 1):=by
            clear ih h9 h8 hm
            induction n generalizing i with
            | zero=>exact Nat.le_refl _
            | succ n ih2 =>
              rw [comL]
              split
              · rename_i h7
                exact Nat.le_of_succ_le (ih2 (i + 1) h7)
              · exact Nat.le_refl _
          omega
      · rcases Nat.lt_or_ge i j with h8 | h8
        · exact ih.2 h9 j (by omega) h2
        · obtain rfl:i = j:=by omega
          exact h
    · rw [if_neg h]
      refine ⟨fun h9=>?_,fun h9 j h1 h2=>by omega⟩
      rcases Nat.lt_or_ge i m with h8 | h8
      · exact absurd (h9 i (Nat.le_refl _) h8) h
      · exact Or.inr h8
theorem xa9w {z:Int} {a b:List Nat} (hw:widthB z = true) (ha:formB z a = true) (hb:formB z b = true) {m:Nat} (hm:m≤2 * z.toNat):m≤comC z a b↔∀ j,j < m→dgt a j = dgt b j:=by
  have h0:formedE z [a,b] = 0:=by simp [formedE,hw,ha,hb]
  unfold comC
  rw [if_pos h0]
  have h:=xb5c a b (2 * z.toNat) 0 m (by omega)
  refine ⟨fun h9 j hj=>h.2 h9 j (Nat.zero_le _) hj,fun h9=>?_⟩
  rcases h.1 (fun j _ hj=>h9 j hj) with h8 | h8 <;> omega
theorem xb8a {z:Int} {d:List Nat} (hw:widthB z = true) (hd:formB z d = true) {i:Nat} (hi:i < 2 * z.toNat):atC z d (i:Int) = dgt d i:=by
  have h9:=xa1x hw
  have h0:atE z d (i:Int) = 0:=by
    unfold atE
    rw [if_neg (by simp [hw]; omega),hd]
    rfl
  unfold atC
  rw [if_pos h0,Int.toNat_natCast]
theorem xa5v {z:Int} (hw:widthB z = true) (key:List Nat):formB z (keyS z key) = true:=xa1s hw _

def RdC (s:Nat) (w:World) (v:Value) (rows:List (List Value)):Prop :=
  ∃ (ao:Option Addr) (len cap:Nat),v = .slice ao len cap∧rows.length = len∧len≤cap∧cap≤9223372036854775807∧(0 < len→∃ b off,ao = some ⟨b,off,none⟩∧∀ i (h:i < rows.length),w.rangeAt b (off + i * s) rows[i])
theorem RdC.nil (s:Nat) (w:World):RdC s w (.slice none 0 0) []:=⟨none,0,0,rfl,rfl,Nat.le_refl _,by omega,fun h=>by omega⟩
theorem RdC.kept {s:Nat} {L:List Nat} {w w':World} {v:Value} {rows:List (List Value)} (h:RdC s w v rows) (k:Kept L w w') (hn:∀ x∈blk v,x∉L):RdC s w' v rows:=by
  obtain ⟨ao,len,cap,rfl,h1,h2,h3,h4⟩:=h
  refine ⟨ao,len,cap,rfl,h1,h2,h3,fun hp=>?_⟩
  obtain ⟨b,off,rfl,hc⟩:=h4 hp
  exact ⟨b,off,rfl,fun i hi j u hu=>k.cell (hc i hi j u hu) (hn b (by simp [blk]))⟩
theorem RdC.old {s:Nat} {w w':World} {v:Value} {rows:List (List Value)} (h:RdC s w v rows) (k:Kept [] w w'):RdC s w' v rows:=h.kept k (by simp)
theorem xa8f {w:World} {b s:Nat}:∀ {rows:List (List Value)} {off:Nat} (hc:∀ i (h:i < rows.length),w.rangeAt b (off + i * s) rows[i]) (hs:∀ r∈rows,r.length = s) (j:Nat) (u:Value),rows.flatten[j]? = some u→w.cell? ⟨b,off + j,none⟩ = some u
  | [],off,hc,hs,j,u,hj=>by simp at hj
  | r :: rs,off,hc,hs,j,u,hj=>by
    have hr:r.length = s:=hs r (by simp)
    rw [List.flatten_cons] at hj
    by_cases h:j < s
    · rw [List.getElem?_append_left (by omega)] at hj
      have h9:=hc 0 (by simp) j u (by simpa using hj)
      simpa using h9
    · rw [List.getElem?_append_right (by omega),hr] at hj
      have ih:=xa8f (rows:=rs) (off:=off + s) (fun i hi=>by
        have h9:=hc (i + 1) (by simpa using hi)
        simp only [List.getElem_cons_succ] at h9
        rw [show off + s + i * s = off + (i + 1) * s by rw [Nat.add_mul]; omega]
        exact h9) (fun r hr=>hs r (by simp [hr])) (j - s) u hj
      rw [show off + j = off + s + (j - s) by omega]
      exact ih
theorem xa0x {w:World} {base e s n:Nat} {v:Value} {xs:List Value} (h:w.ownsRow base e s v n xs):∃ ao cap,v = .slice ao n cap:=by
  rcases h.2 with ⟨rfl,rfl⟩ | ⟨g,cap,cur,rfl,_⟩
  · exact ⟨_,_,rfl⟩
  · exact ⟨_,_,rfl⟩
theorem xb0h {s:Nat}:∀ {rows:List (List Value)},(∀ r∈rows,r.length = s)→rows.flatten.length = rows.length * s
  | [],_=>by simp
  | r :: rs,h=>by
    have ih:=xb0h (rows:=rs) (fun r hr=>h r (by simp [hr]))
    rw [List.flatten_cons,List.length_append,ih,h r (by simp),List.length_cons,Nat.add_mul]
    omega
theorem xa7i {s:Nat}:∀ {rows:List (List Value)} (hs:∀ r∈rows,r.length = s) {i j:Nat} (hi:i < rows.length) {u:Value},rows[i][j]? = some u→rows.flatten[i * s + j]? = some u
  | r :: rs,hs,0,j,hi,u,hu=>by
    have hj:=(List.getElem?_eq_some_iff.1 hu).1
    rw [List.flatten_cons,Nat.zero_mul,Nat.zero_add,List.getElem?_append_left (by simpa using hj)]
    simpa using hu
  | r :: rs,hs,i + 1,j,hi,u,hu=>by
    have hr:r.length = s:=hs r (by simp)
    have ih:=xa7i (rows:=rs) (fun r hr=>hs r (by simp [hr])) (i:=i) (j:=j) (by simpa using hi) (u:=u) (by simpa using hu)
    rw [List.flatten_cons,List.getElem?_append_right (by rw [hr,Nat.add_mul]; omega),hr,show (i + 1) * s + j - s = i * s + j by rw [Nat.add_mul]; omega]
    exact ih
theorem xa4z {w:World} {base e s:Nat} {v:Value} {rows:List (List Value)} (h:w.ownsRow base e s v rows.length rows.flatten) (hs:∀ r∈rows,r.length = s):RdC s w v rows:=by
  rcases h.2 with ⟨rfl,h0⟩ | ⟨g,cap,cur,rfl,_,hg,hc,hm,hsz,ht⟩
  · have:rows = []:=List.eq_nil_of_length_eq_zero h0
    subst this
    exact RdC.nil s w
  · refine ⟨_,_,_,rfl,rfl,hc,by unfold maxLen at hm; omega,fun _=>⟨g,0,rfl,fun i hi j u hu=>?_⟩⟩
    have h9:=h.cells (g:=g) rfl (i * s + j) u (xa7i hs hi hu)
    rw [Addr.add_lit,Nat.zero_add] at h9
    rw [Nat.zero_add]
    exact h9
theorem xa7u {P:Program} {w:World} (base:Nat) (t ty e:TypeId) (i:TypeInfo) (size c:Nat) (ht:P.underlying t = some (.slice e)) (hi:P.info? e = some i)
    (v:Value) (n:Nat) (xs:List Value) (hown:w.ownsRow base e size v n xs) :
    (Builtin.append_ #[t,t] ty #[v,.slice none 0 c]).run P w = .ok v w:=by
  rcases hown.2 with ⟨rfl,rfl⟩ | ⟨g,cap,cur,rfl,_,_,hnc,_⟩
  · simp [Builtin.append_,run_underlying ht,sizeOf,typeInfo,hi,Builtin.lenOf,Builtin.firstCells]
  · simp [Builtin.append_,run_underlying ht,sizeOf,typeInfo,hi,Builtin.lenOf,Builtin.firstCells,hnc,storeCells]
theorem appendC (w:World) (base T e:Nat) (z:Value) (s bytes:Nat) (hu:Tryz.prog.underlying T = some (.slice e)) (hinf:(Tryz.prog.info? e).map (fun i=>(i.zero,i.size,i.bytes)) = some (some z,s,bytes)) (hzs:z.cells.size = s) (hs0:0 < s)
    (v:Value) (n:Nat) (xs:List Value) (h:w.ownsRow base e s v n xs) (ao:Option Addr) (m c:Nat) (rows:List (List Value)) (hr:RdC s w (.slice ao m c) rows) (hs:∀ r∈rows,r.length = s) (hone:∀ r∈rows,∀ u∈r,u.oneCell' = true)
    (hl:(n + m) * bytes≤140737488355328) (hl2:n + m≤1000000000000) (hb:base≤w.heap.size) :
    ∃ ao' cap' w1,(Builtin.append_ #[T,T] T #[v,.slice ao m c]).run Tryz.prog w = .ok (.slice ao' (n + m) cap') w1∧w1.ownsRow base e s (.slice ao' (n + m) cap') (n + m) (xs++rows.flatten)∧w.grownBy w1 v.ownBlock∧((Value.slice ao' (n + m) cap').ownBlock = v.ownBlock∨(Value.slice ao' (n + m) cap').ownBlock = some w.heap.size):=by
  obtain ⟨i0,hi,hz0,hz1,hz2⟩:=info_parts hinf
  obtain ⟨ao1,n1,c1,he,h1,h2,h3,h4⟩:=hr
  cases he
  have hf1:∀ u∈rows.flatten,u.oneCell' = true:=by
    intro u hu
    obtain ⟨r,hr,hur⟩:=List.mem_flatten.1 hu
    exact hone r hr u hur
  have hfl:rows.flatten.length = m * s:=by rw [xb0h hs,h1]
  cases ao with
  | none =>
    have hm:m = 0:=by
      rcases Nat.eq_zero_or_pos m with h9 | h9
      · exact h9
      · obtain ⟨b,off,e9,_⟩:=h4 h9; cases e9
    subst hm
    have hp:rows = []:=List.eq_nil_of_length_eq_zero h1
    subst hp
    have hrun:=xa7u (P:=Tryz.prog) (w:=w) base T T e i0 s c hu hi v n xs h
    obtain ⟨ao',cap',rfl⟩:=xa0x h
    exact ⟨ao',cap',w,hrun,by simpa using h,World.grownBy.refl _ _,.inl rfl⟩
  | some ad =>
    have hnews:∀ j u,rows.flatten[j]? = some u→w.cell? (ad.add j) = some u:=by
      intro j u hj
      have hm:0 < m:=by
        have:=(List.getElem?_eq_some_iff.1 hj).1
        rw [hfl] at this
        rcases Nat.eq_zero_or_pos m with h9 | h9
        · subst h9; omega
        · exact h9
      obtain ⟨b,off,e9,hc⟩:=h4 hm
      cases e9
      rw [Addr.add_mid]
      exact xa8f hc hs j u hj
    obtain ⟨v',w1,hrun,hown,hgrow,_,hat⟩:=run_append_own_at (P:=Tryz.prog) w base T T e i0 z s bytes hu hi hz0 hz1 hz2 hzs hs0 v n xs h ad m c rows.flatten hfl hnews hf1 (by unfold maxLen; omega) hl hb
    obtain ⟨ao',cap',rfl⟩:=xa0x hown
    exact ⟨ao',cap',w1,hrun,hown,hgrow,hat⟩
theorem xa1q {ops:Array Oper} {rest:List Oper} {o:Oper} {a:Act} {Q:Exit→Act→World→Prop} (hgd:o.guard = none) (T e:Nat) (s x:Operand)
    (ho:o.op = .call { callee:=.builtin .append,args:=#[s,x],argTypes:=#[T,T] }) (hty:o.type = T)
    (w:World) (base:Nat) (z:Value) (sz bytes:Nat) (hu:Tryz.prog.underlying T = some (.slice e)) (hinf:(Tryz.prog.info? e).map (fun i=>(i.zero,i.size,i.bytes)) = some (some z,sz,bytes)) (hzs:z.cells.size = sz) (hs0:0 < sz)
    (v:Value) (n:Nat) (xs:List Value) (h:w.ownsRow base e sz v n xs) (ao:Option Addr) (m c:Nat) (rows:List (List Value)) (hr:RdC sz w (.slice ao m c) rows) (hs:∀ r∈rows,r.length = sz) (hone:∀ r∈rows,∀ u∈r,u.oneCell' = true)
    (hl:(n + m) * bytes≤140737488355328) (hl2:n + m≤1000000000000) (hb:base≤w.heap.size) (he:a.eval s = v) (hx:a.eval x = .slice ao m c)
    (hK:∀ ao' cap' w1,Hid (w1.ownsRow base e sz (.slice ao' (n + m) cap') (n + m) (xs++rows.flatten))→Hid (w.grownBy w1 v.ownBlock)→Hid ((Value.slice ao' (n + m) cap').ownBlock = v.ownBlock∨(Value.slice ao' (n + m) cap').ownBlock = some w.heap.size) →
      wpList Tryz.prog ops Q rest (a.put o.dst (.slice ao' (n + m) cap')) w1) :
    wpList Tryz.prog ops Q (o :: rest) a w:=by
  obtain ⟨ao',cap',w1,hrun,h2,h3,h4⟩:=appendC w base T e z sz bytes hu hinf hzs hs0 v n xs h ao m c rows hr hs hone hl hl2 hb
  refine wpList_plain hgd fun K hK'=>?_
  unfold Oper.wp execOp
  simp only [ho,hty,resolve,invoke,builtin,Sem.run_bind,Sem.run_pure,Result.andThen_ok,List.map_toArray,List.map_cons,List.map_nil,he,hx,hrun]
  exact hK' _ _ (hK ao' cap' w1 h2 h3 h4)
end
section
open Go Go.RowKit Go.BigFrame
theorem xa3r {o:Oper} {a:Act} {w:World} {K:Act→World→Prop} {Q:Exit→Act→World→Prop} {f:FuncId} {xs:Array Operand} {ts:Array TypeId} (ho:o.op = .call { callee:=.value (.func f),args:=xs,argTypes:=ts })
    (hcl:∀ args W,(callFunc f args).run Tryz.prog W = .ok (.enter f args) W) (us:List Value) (he:xs.toList.map a.eval = us) {R:Ending→World→Prop}
    (hc:Calls Tryz.prog f us.toArray w R) (h:∀ e w',R e w'→∃ v,e = .returned v∧K (a.put o.dst v) w'):o.wp Tryz.prog a w K Q:=by
  have he2:xs.map a.eval = us.toArray:=by rw [← he]; cases xs; simp only [List.map_toArray]
  unfold Oper.wp execOp
  simp only [ho]
  have hf:a.eval (.func f) = .func (.func f) #[] #[]:=rfl
  simp only [resolve,invoke,hf,he2,Sem.run_bind,Sem.run_pure,Result.andThen_ok,hcl]
  simp [Deferred.ofValue,hcl,go_sem]
  refine hc.mono ?_
  intro e w2 h2
  obtain ⟨v,rfl,h3⟩:=h e w2 h2
  exact h3
section
variable {P:Program} {Q:Exit→Act→World→Prop} {S:World→Prop}
def ChL (P:Program) (Q:Exit→Act→World→Prop) (S:World→Prop) (F:Act→World→Prop):List Oper→Act→World→Prop
  | [],a,w=>F a w
  | o :: r,a,w=>o.wp P a w (fun a' w'=>S w'∧ChL P Q S F r a' w') (NoPanic Q)
def LinY (P:Program) (S:World→Prop) (F:Act→World→Prop):List Oper→Act→World→Prop
  | [],a,w=>F a w
  | o :: r,a,w=>∃ v,(∀ W,S W→(execOp a.eval o).run P W = .ok (.value v) W)∧LinY P S F r (a.put o.dst v) w
def linR (O:Array Oper):List Nat→Array Bool→Bool
  | [],_=>true
  | i :: r,d=>(Region.free .any O d i && (Region.ready .any O d).contains i) && linR O r (d.setIfInBounds i true)
def linC (O:Array Oper):List Nat→Array Bool→Bool
  | [],_=>true
  | i :: r,d=>decide (Region.ready .any O d = [i]) && linC O r (d.setIfInBounds i true)
def linD:List Nat→Array Bool→Array Bool
  | [],d=>d
  | i :: r,d=>linD r (d.setIfInBounds i true)
theorem xa3n {O:Array Oper} {d:Array Bool} (h:decide (Region.ready .any O d = []) = true):∀ a w,Q .normal a w→wpAnyH P .any O (NoPanic Q) S 0 d a w:=fun a w hq=>⟨of_decide_eq_true h,NoPanic.normal hq⟩
theorem xa2q {O:Array Oper} {F:Act→World→Prop} {m:Nat} {D:Array Bool} (hF:∀ a w,F a w→wpAnyH P .any O (NoPanic Q) S m D a w):∀ (C:List Nat) (cs:List Oper) (d:Array Bool) (a:Act) (w:World),C.map (O[·]?) = cs.map some→(∀ o∈cs,o.guard = none)→linC O C d = true→linD C d = D→ChL P Q S F cs a w→wpAnyH P .any O (NoPanic Q) S (C.length + m) d a w
  | [],[],d,a,w,_,_,_,hD,h=>by rw [List.length_nil,Nat.zero_add]; have e:d = D:=hD; rw [e]; exact hF a w h
  | [],_ :: _,_,_,_,he,_,_,_,_=>by simp at he
  | i :: C,[],_,_,_,he,_,_,_,_=>by simp at he
  | i :: C,o :: cs,d,a,w,he,hg,hb,hD,h=>by
    simp only [List.map_cons,List.cons.injEq] at he
    simp only [linC,Bool.and_eq_true,decide_eq_true_eq] at hb
    rw [List.length_cons,show C.length + 1 + m = (C.length + m) + 1 by omega]
    refine wpAnyH_all (rs:=[i]) hb.1 (by simp) (fun j hj=>?_)
    rw [List.mem_singleton] at hj
    subst hj
    unfold wpOp
    simp only [he.1]
    have hw:∀ y,Region.wanted o y = true:=fun y=>by unfold Region.wanted; rw [hg o (by simp)]
    rw [if_pos (hw _)]
    refine Or.inl (Oper.wp_mono (fun a' w' h2=>⟨h2.1,?_⟩) h)
    exact xa2q hF C cs _ a' w' he.2 (fun x hx=>hg x (by simp [hx])) hb.2 hD h2.2
theorem xa2p {O:Array Oper} {F:Act→World→Prop} {m:Nat} {D:Array Bool} (hs:Region.noSelect O = true) (hF:∀ a w,F a w→wpAnyH P .any O (NoPanic Q) S m D a w) :
    ∀ (R:List Nat) (rs:List Oper) (d:Array Bool) (a:Act) (w:World),R.map (O[·]?) = rs.map some→(∀ o∈rs,o.guard = none)→linR O R d = true→linD R d = D→S w→LinY P S F rs a w→wpAnyH P .any O (NoPanic Q) S (R.length + m) d a w
  | [],[],d,a,w,_,_,_,hc,_,h=>by rw [List.length_nil,Nat.zero_add]; have e:d = D:=hc; rw [e]; exact hF a w h
  | [],_ :: _,_,_,_,he,_,_,_,_,_=>by simp at he
  | i :: R,[],_,_,_,he,_,_,_,_,_=>by simp at he
  | i :: R,o :: rs,d,a,w,he,hg,hr,hc,hS,h=>by
    simp only [List.map_cons,List.cons.injEq] at he
    simp only [linR,Bool.and_eq_true] at hr
    obtain ⟨v,hv,h2⟩:=h
    have hw:∀ y,Region.wanted o y = true:=fun y=>by unfold Region.wanted; rw [hg o (by simp)]
    rw [List.length_cons,show R.length + 1 + m = (R.length + m) + 1 by omega]
    refine wpAnyH_take (i:=i) (oi:=o) he.1 hs hr.1.1 hr.1.2 (fun _ _ _ h=>h) (Or.inl ⟨hw _,hv⟩) hS ?_
    exact xa2p hs hF R rs _ _ w he.2 (fun x hx=>hg x (by simp [hx])) hr.2 hc hS h2
def linS (O:Array Oper):Array Bool:=Array.replicate O.size false
def linB (O:Array Oper) (R C T:List Nat):Bool :=
  (Region.noSelect O && decide (O.size = R.length + (C.length + (T.length + 0)))) && (linR O R (linS O) && (linC O C (linD R (linS O)) && (linR O T (linD C (linD R (linS O))) && decide (Region.ready .any O (linD T (linD C (linD R (linS O)))) = []))))
theorem wp_lin {id:Nat} {O:Array Oper} {a:Act} {w:World} {R C T:List Nat} {rs cs ts:List Oper} (hm:P.follows .mixedOrders = true) (hb:linB O R C T = true) (hR:R.map (O[·]?) = rs.map some) (hC:C.map (O[·]?) = cs.map some) (hT:T.map (O[·]?) = ts.map some) (hg:(rs++(cs++ts)).all (fun o=>o.guard.isNone) = true)
    (hS:S w.drew) (h:LinY P S (ChL P Q S (fun a w=>S w∧LinY P S (Q .normal) ts a w) cs) rs a w.drew):(Code.region id O true).wp P Q a w:=by
  unfold linB at hb
  simp only [Bool.and_eq_true,decide_eq_true_eq] at hb
  obtain ⟨⟨b1,b2⟩,b3,b4,b5,b6⟩:=hb
  rw [List.all_append,List.all_append,Bool.and_eq_true,Bool.and_eq_true,List.all_eq_true,List.all_eq_true,List.all_eq_true] at hg
  refine wp_region_noPanic ?_
  refine wp_region_held_drew (S:=S) hm hS (fun _=>?_)
  rw [b2]
  have h3:∀ a w,(S w∧LinY P S (Q .normal) ts a w)→wpAnyH P .any O (NoPanic Q) S (T.length + 0) (linD C (linD R (linS O))) a w:=fun a w h=>xa2p b1 (xa3n (decide_eq_true b6)) T ts _ a w hT (fun o ho=>by simpa using hg.2.2 o ho) b5 rfl h.1 h.2
  have h2:=fun a w h=>xa2q (P:=P) (Q:=Q) (S:=S) h3 C cs (linD R (linS O)) a w hC (fun o ho=>by simpa using hg.2.1 o ho) b4 rfl h
  have:=xa2p (P:=P) (Q:=Q) (S:=S) b1 h2 R rs (linS O) a w.drew hR (fun o ho=>by simpa using hg.1 o ho) b3 rfl hS h
  unfold linS at this
  rw [b2] at this
  exact this
theorem xa1n {id:Nat} {O:Array Oper} {a:Act} {w:World} {R C:List Nat} {rs cs:List Oper} (hm:P.follows .mixedOrders = true) (hb:linB O R C [] = true) (hR:R.map (O[·]?) = rs.map some) (hC:C.map (O[·]?) = cs.map some) (hg:(rs++(cs++[])).all (fun o=>o.guard.isNone) = true)
    (hS:S w.drew) (h:LinY P S (ChL P Q S (Q .normal) cs) rs a w.drew):(Code.region id O true).wp P Q a w:=by
  unfold linB at hb
  simp only [Bool.and_eq_true,decide_eq_true_eq] at hb
  obtain ⟨⟨b1,b2⟩,b3,b4,b5,b6⟩:=hb
  rw [List.append_nil,List.all_append,Bool.and_eq_true,List.all_eq_true,List.all_eq_true] at hg
  refine wp_region_noPanic ?_
  refine wp_region_held_drew (S:=S) hm hS (fun _=>?_)
  rw [b2]
  have h2:=fun a w h=>xa2q (P:=P) (Q:=Q) (S:=S) (xa3n (decide_eq_true b6)) C cs (linD R (linS O)) a w hC (fun o ho=>by simpa using hg.2 o ho) b4 rfl h
  have:=xa2p (P:=P) (Q:=Q) (S:=S) b1 h2 R rs (linS O) a w.drew hR (fun o ho=>by simpa using hg.1 o ho) b3 rfl hS h
  unfold linS at this
  rw [show R.length + (C.length + (([]:List Nat).length + 0)) = R.length + (C.length + 0) from rfl]
  rw [b2] at this
  exact this
def linB2 (O:Array Oper) (R:List Nat) (i j:Nat) (C:List Nat):Bool :=
  (Region.noSelect O && decide (O.size = R.length + (C.length + 2))) && (linR O R (linS O) && (decide (Region.ready .any O (linD R (linS O)) = [i,j]) && ((linC O (j :: C) ((linD R (linS O)).setIfInBounds i true) && linC O (i :: C) ((linD R (linS O)).setIfInBounds j true)) && (decide (Region.ready .any O (linD (j :: C) ((linD R (linS O)).setIfInBounds i true)) = []) && decide (Region.ready .any O (linD (i :: C) ((linD R (linS O)).setIfInBounds j true)) = [])))))
theorem xb7v {id:Nat} {O:Array Oper} {a:Act} {w:World} {R C:List Nat} {i j:Nat} {oi oj:Oper} {rs cs:List Oper} (hm:P.follows .mixedOrders = true) (hb:linB2 O R i j C = true) (hR:R.map (O[·]?) = rs.map some) (hi:O[i]? = some oi) (hj:O[j]? = some oj) (hC:C.map (O[·]?) = cs.map some) (hg:(rs++(oi :: oj :: cs)).all (fun o=>o.guard.isNone) = true)
    (hS:S w.drew) (h:LinY P S (fun a w=>ChL P Q S (Q .normal) (oi :: oj :: cs) a w∧ChL P Q S (Q .normal) (oj :: oi :: cs) a w) rs a w.drew):(Code.region id O true).wp P Q a w:=by
  unfold linB2 at hb
  simp only [Bool.and_eq_true,decide_eq_true_eq] at hb
  obtain ⟨⟨b1,b2⟩,b3,b4,⟨b5,b6⟩,b7,b8⟩:=hb
  rw [List.all_append,Bool.and_eq_true,List.all_eq_true,List.all_eq_true] at hg
  have hgi:∀ o∈oi :: oj :: cs,o.guard = none:=fun o ho=>by simpa using hg.2 o ho
  refine wp_region_noPanic ?_
  refine wp_region_held_drew (S:=S) hm hS (fun _=>?_)
  rw [b2]
  have hF:∀ a w,(ChL P Q S (Q .normal) (oi :: oj :: cs) a w∧ChL P Q S (Q .normal) (oj :: oi :: cs) a w)→wpAnyH P .any O (NoPanic Q) S (C.length + 2) (linD R (linS O)) a w:=fun a w h=>by
    refine wpAnyH_all (rs:=[i,j]) b4 (by simp) (fun x hx=>?_)
    simp only [List.mem_cons,List.not_mem_nil,or_false] at hx
    rcases hx with rfl | rfl
    · unfold wpOp
      simp only [hi]
      have hw:∀ y,Region.wanted oi y = true:=fun y=>by unfold Region.wanted; rw [hgi oi (by simp)]
      rw [if_pos (hw _)]
      exact Or.inl (Oper.wp_mono (fun a' w' h2=>⟨h2.1,xa2q (xa3n (decide_eq_true b7)) (j :: C) (oj :: cs) _ a' w' (by rw [List.map_cons,List.map_cons,hj,hC]) (fun o ho=>hgi o (List.mem_cons_of_mem _ ho)) b5 rfl h2.2⟩) h.1)
    · unfold wpOp
      simp only [hj]
      have hw:∀ y,Region.wanted oj y = true:=fun y=>by unfold Region.wanted; rw [hgi oj (by simp)]
      rw [if_pos (hw _)]
      exact Or.inl (Oper.wp_mono (fun a' w' h2=>⟨h2.1,xa2q (xa3n (decide_eq_true b8)) (i :: C) (oi :: cs) _ a' w' (by rw [List.map_cons,List.map_cons,hi,hC]) (fun o ho=>hgi o (by rcases List.mem_cons.1 ho with rfl | ho; simp; simp [ho])) b6 rfl h2.2⟩) h.2)
  have:=xa2p (P:=P) (Q:=Q) (S:=S) b1 hF R rs (linS O) a w.drew hR (fun o ho=>by simpa using hg.1 o ho) b3 rfl hS h
  unfold linS at this
  rw [b2] at this
  exact this
def LinG (P:Program) (O:Array Oper) (S:World→Prop) (F:Act→World→Prop):List Oper→Act→World→Prop
  | [],a,w=>F a w
  | o :: r,a,w=>∃ v,YieldsIf P O S o v a∧LinG P O S F r (a.put o.dst v) w
theorem xa6c {O:Array Oper} {F:Act→World→Prop} {m:Nat} {D:Array Bool} (hs:Region.noSelect O = true) (hF:∀ a w,F a w→wpAnyH P .any O (NoPanic Q) S m D a w) :
    ∀ (R:List Nat) (rs:List Oper) (d:Array Bool) (a:Act) (w:World),R.map (O[·]?) = rs.map some→linR O R d = true→linD R d = D→S w→LinG P O S F rs a w→wpAnyH P .any O (NoPanic Q) S (R.length + m) d a w
  | [],[],d,a,w,_,_,hc,_,h=>by rw [List.length_nil,Nat.zero_add]; have e:d = D:=hc; rw [e]; exact hF a w h
  | [],_ :: _,_,_,_,he,_,_,_,_=>by simp at he
  | i :: R,[],_,_,_,he,_,_,_,_=>by simp at he
  | i :: R,o :: rs,d,a,w,he,hr,hc,hS,h=>by
    simp only [List.map_cons,List.cons.injEq] at he
    simp only [linR,Bool.and_eq_true] at hr
    obtain ⟨v,hv,h2⟩:=h
    rw [List.length_cons,show R.length + 1 + m = (R.length + m) + 1 by omega]
    refine wpAnyH_take (i:=i) (oi:=o) he.1 hs hr.1.1 hr.1.2 (fun _ _ _ h=>h) hv hS ?_
    exact xa6c hs hF R rs _ _ w he.2 hr.2 hc hS h2
theorem xb7p {id:Nat} {O:Array Oper} {a:Act} {w:World} {R:List Nat} {rs:List Oper} (hm:P.follows .mixedOrders = true) (hb:linB O R [] [] = true) (hR:R.map (O[·]?) = rs.map some)
    (hS:S w.drew) (h:LinG P O S (Q .normal) rs a w.drew):(Code.region id O true).wp P Q a w:=by
  unfold linB at hb
  simp only [Bool.and_eq_true,decide_eq_true_eq] at hb
  obtain ⟨⟨b1,b2⟩,b3,b4,b5,b6⟩:=hb
  refine wp_region_noPanic ?_
  refine wp_region_held_drew (S:=S) hm hS (fun _=>?_)
  rw [b2]
  have:=xa6c (P:=P) (Q:=Q) (S:=S) b1 (xa3n (decide_eq_true b6)) R rs (linS O) a w.drew hR b3 rfl hS h
  unfold linS at this
  rw [show R.length + (([]:List Nat).length + (([]:List Nat).length + 0)) = R.length + 0 from rfl]
  rw [show R.length + (([]:List Nat).length + (([]:List Nat).length + 0)) = R.length + 0 from rfl] at b2
  rw [b2] at this
  exact this
theorem LinG.rd {O:Array Oper} {F:Act→World→Prop} {rs:List Oper} {o:Oper} {a A:Act} {w:World} (hw:Region.wanted o (yielded O a.tmps) = true) (v:Value) (hv:∀ W,S W→(execOp a.eval o).run P W = .ok (.value v) W) (p:a.put o.dst v = A) (h:LinG P O S F rs A w):LinG P O S F (o :: rs) a w :=
  ⟨v,Or.inl ⟨hw,hv⟩,by rw [p]; exact h⟩
theorem LinG.no {O:Array Oper} {F:Act→World→Prop} {rs:List Oper} {o:Oper} {a A:Act} {w:World} (hw:Region.wanted o (yielded O a.tmps) = false) (p:a.put o.dst undef = A) (h:LinG P O S F rs A w):LinG P O S F (o :: rs) a w :=
  ⟨undef,Or.inr ⟨hw,rfl⟩,by rw [p]; exact h⟩
theorem LinG.ld {O:Array Oper} {F:Act→World→Prop} {rs:List Oper} {o:Oper} {a A:Act} {w:World} (hw:Region.wanted o (yielded O a.tmps) = true) (ty:TypeId) (x:Operand) (ho:o.op = .load ty x) (b off:Nat) (hx:a.eval x = .pointer (some ⟨b,off,none⟩)) (cs:List Value) (d:TypeDesc) (hc:∀ W,S W→W.rangeAt b off cs)
    (hu:P.underlying ty = some d) (hd:d.isRow = true) (hi:(P.info? ty).map (·.size) = some cs.length) (p:a.put o.dst (.agg cs.toArray) = A) (h:LinG P O S F rs A w):LinG P O S F (o :: rs) a w :=
  LinG.rd hw _ (fun W hW=>by unfold execOp; simp only [ho,hx,Instr.loadAt,Instr.sureAddr,Sem.run_bind,Sem.run_pure,Result.andThen_ok,run_loadVar_mid W b off ty cs d (hc W hW) hu hd hi]) p h
theorem LinG.fin {O:Array Oper} {F:Act→World→Prop} {a:Act} {w:World} (h:F a w):LinG P O S F [] a w:=h
theorem LinY.rd {F:Act→World→Prop} {rs:List Oper} {o:Oper} {a A:Act} {w:World} (v:Value) (hv:∀ W,S W→(execOp a.eval o).run P W = .ok (.value v) W) (p:a.put o.dst v = A) (h:LinY P S F rs A w):LinY P S F (o :: rs) a w :=
  ⟨v,hv,by rw [p]; exact h⟩
theorem LinY.mv {F:Act→World→Prop} {rs:List Oper} {o:Oper} {a A:Act} {w:World} {x:Operand} (ho:o.op = .move x) (v:Value) (hv:a.eval x = v) (p:a.put o.dst v = A) (h:LinY P S F rs A w):LinY P S F (o :: rs) a w :=
  LinY.rd v (fun W _=>by unfold execOp; simp only [ho]; rw [hv]; rfl) p h
theorem LinY.ld {F:Act→World→Prop} {rs:List Oper} {o:Oper} {a A:Act} {w:World} (ty:TypeId) (x:Operand) (ho:o.op = .load ty x) (b off:Nat) (hx:a.eval x = .pointer (some ⟨b,off,none⟩)) (cs:List Value) (d:TypeDesc) (hc:∀ W,S W→W.rangeAt b off cs)
    (hu:P.underlying ty = some d) (hd:d.isRow = true) (hi:(P.info? ty).map (·.size) = some cs.length) (p:a.put o.dst (.agg cs.toArray) = A) (h:LinY P S F rs A w):LinY P S F (o :: rs) a w :=
  LinY.rd _ (fun W hW=>by unfold execOp; simp only [ho,hx,Instr.loadAt,Instr.sureAddr,Sem.run_bind,Sem.run_pure,Result.andThen_ok,run_loadVar_mid W b off ty cs d (hc W hW) hu hd hi]) p h
theorem Kept.rng {L:List Nat} {w w':World} (k:Kept L w w') {b o:Nat} {cs:List Value} (h:w.rangeAt b o cs) (hb:b∉L):w'.rangeAt b o cs:=fun j v hv=>k.cell (h j v hv) hb
theorem ChL.op {F:Act→World→Prop} {cs:List Oper} {o:Oper} {a A:Act} {w w':World} (v:Value) (hv:(execOp a.eval o).run P w = .ok (.value v) w') (hS:S w') (p:a.put o.dst v = A) (h:ChL P Q S F cs A w'):ChL P Q S F (o :: cs) a w:=by
  unfold ChL Oper.wp
  rw [hv]
  rw [← p] at h
  exact ⟨hS,h⟩
theorem ChL.fin {F:Act→World→Prop} {a:Act} {w:World} (h:F a w):ChL P Q S F [] a w:=h
theorem LinY.fin {F:Act→World→Prop} {a:Act} {w:World} (h:F a w):LinY P S F [] a w:=h
end
theorem ChL.call {Q:Exit→Act→World→Prop} {S:World→Prop} {F:Act→World→Prop} {cs:List Oper} {o:Oper} {a:Act} {w:World} {f:FuncId} {xs:Array Operand} {ts:Array TypeId} (ho:o.op = .call { callee:=.value (.func f),args:=xs,argTypes:=ts })
    (hcl:∀ args W,(callFunc f args).run Tryz.prog W = .ok (.enter f args) W) (us:List Value) (he:xs.toList.map a.eval = us) {R:Ending→World→Prop}
    (hc:Calls Tryz.prog f us.toArray w R) (h:∀ e w',R e w'→∃ v,e = .returned v∧S w'∧ChL Tryz.prog Q S F cs (a.put o.dst v) w'):ChL Tryz.prog Q S F (o :: cs) a w:=by
  unfold ChL
  exact xa3r ho hcl us he hc h
end
section
open Go.RowKit Go.BigFrame
def RdMC (s:Nat) (w:World) (v:Value) (L:List (List (List Value))):Prop :=
  ∃ (ao:Option Addr) (len cap:Nat) (vs:List Value),v = .slice ao len cap∧L.length = len∧len≤cap∧cap≤9223372036854775807∧(∀ i,i < len→RdC s w (vs.getD i undef) (L.getD i [])) ∧
    (0 < len→∃ b off,ao = some ⟨b,off,none⟩∧∀ i,i < len→w.cell? ⟨b,off + i,none⟩ = some (vs.getD i undef))
def OwC (T s base:Nat) (w:World) (v:Value) (L:List (List (List Value))):Prop:=w.ownsRow base T s v L.flatten.length L.flatten.flatten
theorem RdMC.cells {s:Nat} {w:World} {ao:Option Addr} {len cap:Nat} {L:List (List (List Value))} (h:RdMC s w (.slice ao len cap) L):L.length = len∧len≤cap∧cap≤9223372036854775807 ∧
    ∀ i,i < len→∃ b off u,ao = some ⟨b,off,none⟩∧w.cell? ⟨b,off + i,none⟩ = some u∧RdC s w u (L.getD i []):=by
  obtain ⟨ao',len',cap',vs,he,h1,h2,h3,h4,h5⟩:=h
  cases he
  refine ⟨h1,h2,h3,fun i hi=>?_⟩
  obtain ⟨b,off,rfl,hc⟩:=h5 (by omega)
  exact ⟨b,off,_,rfl,hc i hi,h4 i hi⟩
theorem xa2s (L:List (List (List Value))) (i:Nat) (h:i < L.length):(L.take (i + 1)).flatten = (L.take i).flatten++L.getD i []:=by
  rw [List.take_succ_eq_append_getElem h,List.flatten_append,List.getD_eq_getElem?_getD,List.getElem?_eq_getElem h]
  simp
theorem xa5b (L:List (List (List Value))) (i:Nat):(L.take i).flatten.length≤L.flatten.length:=by
  have h:=congrArg List.length (congrArg List.flatten (List.take_append_drop i L))
  rw [List.flatten_append,List.length_append] at h
  omega
theorem Tryz.infoN:(Tryz.prog.info? 95).map (fun i=>(i.zero,i.size,i.bytes)) = some (some (.nilIface),1,16):=by kernel_rfl
set_option maxHeartbeats 1000000 in
theorem xb4e (n:Nat) (w:World) (hn:n≤1000000000000) :
    Calls Tryz.prog 168 #[.slice none 0 0,.int .i64 n] w fun e w'=>∃ v',e = .returned v'∧w'.ownsRow w.heap.size 95 1 v' 0 []∧Kept [] w w':=by
  go_enter Tryz.func168,Tryz.ntmps168
  by_cases h0:n = 0
  · subst h0
    go_wp2
    go_ret
    exact ⟨_,rfl,⟨rfl,Or.inl ⟨rfl,rfl⟩⟩,Kept.refl _ _⟩
  · have h0':(0:Int) < n:=by omega
    have hbt:Tryz.t95.bytes = 16:=rfl
    have hns:¬ 281474976710656 < Builtin.nextslicecap n 0 * Tryz.t95.bytes:=by
      rw [hbt]; unfold Builtin.nextslicecap; rw [if_pos (by omega)]; omega
    have hmul:(n:Int) * ((Tryz.t95.bytes:Nat):Int)≤281474976710656:=by rw [hbt]; omega
    have hm0:¬ n = 0:=by omega
    clear hbt
    go_wp2_with fail
    have hg1:=grownCap_ge w n 0 95
    have hg2:=grownCap_le_maxLen w n 0 95 (by unfold maxLen; omega)
    unfold grownCap at hg1 hg2
    generalize (Question.appendCap n 0 95).cut (w.tape w.drawn (Question.appendCap n 0 95)) = cap at hg1 hg2 ⊢
    go_ret
    refine ⟨_,rfl,World.ownsRow_made w _ cap (Nat.le_refl _) hg2 ?_,((Kept.refl [] w).alloc _).drew⟩
    rw [Array.size_append,size_zeroCells,size_zeroCells]
    simp
    omega
set_option maxHeartbeats 1000000 in
theorem xa9i (v:Value) (L:List (List (List Value))) (w:World) (h:RdMC 1 w v L) (hs:∀ rows∈L,∀ r∈rows,r.length = 1) (hone:∀ rows∈L,∀ r∈rows,∀ u∈r,u.oneCell' = true) (hl:L.flatten.length≤100000000000) :
    Calls Tryz.prog 154 #[v] w fun e w'=>∃ v',e = .returned v'∧OwC 95 1 w.heap.size w' v' L∧Kept [] w w':=by
  obtain ⟨ao,n,c,_,rfl,_⟩:=id h
  obtain ⟨h1,h2,h3,h4⟩:=h.cells
  have H4:=hide h4
  have HS:=hide hs
  have HO1:=hide hone
  clear h4 h hs hone
  subst h1
  go_enter Tryz.func154,Tryz.ntmps154
  go_wp2_with fail
  go_loopw [3,11] (fun t3 t11 wr=>∃ (i:Nat),i≤L.length∧t11 = .int .i64 i∧t3 = .int .i64 (((L.take i).flatten.length:Nat):Int)∧Hid (wr = w)) (fun _ t _=>L.length - (intOf t).toNat)
  case atStart=>exact ⟨0,Nat.zero_le _,rfl,rfl,hide rfl⟩
  case round =>
    obtain ⟨i,hi,rfl,rfl,HWR⟩:=hrel
    by_cases hlt:i < L.length
    · have hlt':(i:Int) < L.length:=by omega
      obtain ⟨b,o,u,rfl,c1,r1⟩:=uh H4 i hlt
      have q1:wr.cell? ⟨b,o + i,none⟩ = some u:=by rw [uh HWR]; exact c1
      have HFT:=hide (xa2s L i hlt)
      have HLE:=hide (xa5b L (i + 1))
      rw [uh HFT] at HLE
      clear c1
      generalize L.getD i [] = li at r1 HFT HLE
      obtain ⟨a8,m8,c8,rfl,hm8,_⟩:=id r1
      subst hm8
      clear r1
      obtain ⟨S,hS⟩:∃ S,(L.take i).flatten.length = S:=⟨_,rfl⟩
      have HNX:=hide (by rw [uh HFT,List.length_append,hS]:(L.take (i + 1)).flatten.length = S + li.length)
      have hsb:S + li.length≤100000000000:=by have h9:=uh HLE; rw [List.length_append,hS] at h9; omega
      rw [hS]
      clear hS HLE HFT
      have hs0:¬ ((S:Int) + li.length) < 0:=by omega
      go_wp2
      refine ⟨⟨i + 1,hlt,by go_num,by rw [uh HNX]; go_num,HWR⟩,?_⟩
      simp [intOf]; omega
    · have hi':i = L.length:=by omega
      have hlt':¬ (i:Int) < L.length:=by omega
      have HTL:=hide (by rw [hi',List.take_length]:(L.take i).flatten.length = L.flatten.length)
      obtain ⟨M,hM⟩:∃ M,L.flatten.length = M:=⟨_,rfl⟩
      rw [uh HTL,hM]
      have hl2:M≤100000000000:=by rw [← hM]; exact hl
      have HL:=hide hl
      have HM:=hide hM
      clear hi' HTL hM hl
      go_wp2_with fail
      rw [uh HWR]
      refine Calls.mono (xb4e M _ (by omega)) ?_
      rintro e w1 ⟨v1,rfl,ho,k1⟩
      have HO1':=hide ho
      have HK1:=hide k1
      clear ho k1
      go_wp2_with fail
      go_loopw [6,27] (fun t6 t27 wz=>∃ (j:Nat),j≤L.length∧t27 = .int .i64 j∧Hid (wz.ownsRow w.heap.size 95 1 t6 (L.take j).flatten.length (L.take j).flatten.flatten)∧Hid (Kept [] w wz)) (fun _ t _=>L.length - (intOf t).toNat)
      case atStart=>exact ⟨0,Nat.zero_le _,rfl,by simpa using HO1',HK1⟩
      case round =>
        obtain ⟨j,hj,rfl,HO,HK⟩:=hrel
        by_cases hjt:j < L.length
        · have hjt':(j:Int) < L.length:=by omega
          obtain ⟨b,o,u,rfl,c1,r1⟩:=uh H4 j hjt
          have q1:=(uh HK).cell c1 (by simp)
          have HR:=hide (r1.old (uh HK))
          have HFT:=hide (xa2s L j hjt)
          have HLE:=hide (xa5b L (j + 1))
          rw [uh HFT] at HLE
          have hmem:L.getD j []∈L:=by rw [List.getD_eq_getElem?_getD,List.getElem?_eq_getElem hjt]; exact List.getElem_mem _
          have HS1:=hide (uh HS _ hmem)
          have HS2:=hide (uh HO1 _ hmem)
          clear c1 r1 hmem
          generalize L.getD j [] = li at HR HFT HLE HS1 HS2
          obtain ⟨a8,m8,c8,rfl,hm8,_⟩:=id (uh HR)
          subst hm8
          obtain ⟨D,hD⟩:∃ D,(L.take j).flatten = D:=⟨_,rfl⟩
          rw [hD] at HO HFT HLE
          clear hD
          have hsb:D.length + li.length≤100000000000:=by have h9:=uh HLE; have h8:=uh HL; rw [List.length_append] at h9; omega
          have hbz:=(uh HK).size
          obtain ⟨a6,c6,rfl⟩:=xa0x (uh HO)
          go_wp2_with (at_builtin; refine xa1q rfl 113 95 (.tmp 31) (.tmp 32) rfl rfl _ w.heap.size (.nilIface) 1 16 Tryz.underlying113 Tryz.infoN rfl (by decide) (.slice a6 D.length c6) D.length D.flatten (uh HO) a8 li.length c8 li (uh HR) (uh HS1) (uh HS2) (by omega) (by omega) hbz rfl rfl ?_; intro ao1 cap1 w2 HO2 HG2 HA2; have HK2:=hide ((uh HK).grown (uh HG2) (by intro k hk; right; exact ((uh HO).lt k hk).1)); clear HG2)
          refine ⟨⟨j + 1,hjt,by go_num,by rw [uh HFT,List.length_append,List.flatten_append]; exact HO2,HK2⟩,?_⟩
          simp [intOf]; omega
        · have hj':j = L.length:=by omega
          have hjt':¬ (j:Int) < L.length:=by omega
          have HO2:=hide (by have h9:=uh HO; rw [hj',List.take_length] at h9; exact h9)
          clear hj' HO
          go_wp2
          go_ret
          exact ⟨_,rfl,uh HO2,uh HK⟩
theorem Tryz.infoQ:(Tryz.prog.info? 33).map (fun i=>(i.zero,i.size,i.bytes)) = some (some (.agg #[.slice none 0 0,.slice none 0 0]),2,48):=by kernel_rfl
set_option maxHeartbeats 1000000 in
theorem xb3y (n:Nat) (w:World) (hn:n≤1000000000000) :
    Calls Tryz.prog 171 #[.slice none 0 0,.int .i64 n] w fun e w'=>∃ v',e = .returned v'∧w'.ownsRow w.heap.size 33 2 v' 0 []∧Kept [] w w':=by
  go_enter Tryz.func171,Tryz.ntmps171
  by_cases h0:n = 0
  · subst h0
    go_wp2
    go_ret
    exact ⟨_,rfl,⟨rfl,Or.inl ⟨rfl,rfl⟩⟩,Kept.refl _ _⟩
  · have h0':(0:Int) < n:=by omega
    have hbt:Tryz.t33.bytes = 48:=rfl
    have hns:¬ 281474976710656 < Builtin.nextslicecap n 0 * Tryz.t33.bytes:=by
      rw [hbt]; unfold Builtin.nextslicecap; rw [if_pos (by omega)]; omega
    have hmul:(n:Int) * ((Tryz.t33.bytes:Nat):Int)≤281474976710656:=by rw [hbt]; omega
    have hm0:¬ n * 2 = 0:=by omega
    clear hbt
    go_wp2_with fail
    have hg1:=grownCap_ge w n 0 33
    have hg2:=grownCap_le_maxLen w n 0 33 (by unfold maxLen; omega)
    unfold grownCap at hg1 hg2
    generalize (Question.appendCap n 0 33).cut (w.tape w.drawn (Question.appendCap n 0 33)) = cap at hg1 hg2 ⊢
    go_ret
    refine ⟨_,rfl,World.ownsRow_made w _ cap (Nat.le_refl _) hg2 ?_,((Kept.refl [] w).alloc _).drew⟩
    rw [Array.size_append,size_zeroCells,size_zeroCells]
    simp
    omega
set_option maxHeartbeats 1000000 in
theorem xa9p (v:Value) (L:List (List (List Value))) (w:World) (h:RdMC 2 w v L) (hs:∀ rows∈L,∀ r∈rows,r.length = 2) (hone:∀ rows∈L,∀ r∈rows,∀ u∈r,u.oneCell' = true) (hl:L.flatten.length≤100000000000) :
    Calls Tryz.prog 156 #[v] w fun e w'=>∃ v',e = .returned v'∧OwC 33 2 w.heap.size w' v' L∧Kept [] w w':=by
  obtain ⟨ao,n,c,_,rfl,_⟩:=id h
  obtain ⟨h1,h2,h3,h4⟩:=h.cells
  have H4:=hide h4
  have HS:=hide hs
  have HO1:=hide hone
  clear h4 h hs hone
  subst h1
  go_enter Tryz.func156,Tryz.ntmps156
  go_wp2_with fail
  go_loopw [3,11] (fun t3 t11 wr=>∃ (i:Nat),i≤L.length∧t11 = .int .i64 i∧t3 = .int .i64 (((L.take i).flatten.length:Nat):Int)∧Hid (wr = w)) (fun _ t _=>L.length - (intOf t).toNat)
  case atStart=>exact ⟨0,Nat.zero_le _,rfl,rfl,hide rfl⟩
  case round =>
    obtain ⟨i,hi,rfl,rfl,HWR⟩:=hrel
    by_cases hlt:i < L.length
    · have hlt':(i:Int) < L.length:=by omega
      obtain ⟨b,o,u,rfl,c1,r1⟩:=uh H4 i hlt
      have q1:wr.cell? ⟨b,o + i,none⟩ = some u:=by rw [uh HWR]; exact c1
      have HFT:=hide (xa2s L i hlt)
      have HLE:=hide (xa5b L (i + 1))
      rw [uh HFT] at HLE
      clear c1
      generalize L.getD i [] = li at r1 HFT HLE
      obtain ⟨a8,m8,c8,rfl,hm8,_⟩:=id r1
      subst hm8
      clear r1
      obtain ⟨S,hS⟩:∃ S,(L.take i).flatten.length = S:=⟨_,rfl⟩
      have HNX:=hide (by rw [uh HFT,List.length_append,hS]:(L.take (i + 1)).flatten.length = S + li.length)
      have hsb:S + li.length≤100000000000:=by have h9:=uh HLE; rw [List.length_append,hS] at h9; omega
      rw [hS]
      clear hS HLE HFT
      have hs0:¬ ((S:Int) + li.length) < 0:=by omega
      go_wp2
      refine ⟨⟨i + 1,hlt,by go_num,by rw [uh HNX]; go_num,HWR⟩,?_⟩
      simp [intOf]; omega
    · have hi':i = L.length:=by omega
      have hlt':¬ (i:Int) < L.length:=by omega
      have HTL:=hide (by rw [hi',List.take_length]:(L.take i).flatten.length = L.flatten.length)
      obtain ⟨M,hM⟩:∃ M,L.flatten.length = M:=⟨_,rfl⟩
      rw [uh HTL,hM]
      have hl2:M≤100000000000:=by rw [← hM]; exact hl
      have HL:=hide hl
      have HM:=hide hM
      clear hi' HTL hM hl
      go_wp2_with fail
      rw [uh HWR]
      refine Calls.mono (xb3y M _ (by omega)) ?_
      rintro e w1 ⟨v1,rfl,ho,k1⟩
      have HO1':=hide ho
      have HK1:=hide k1
      clear ho k1
      go_wp2_with fail
      go_loopw [6,27] (fun t6 t27 wz=>∃ (j:Nat),j≤L.length∧t27 = .int .i64 j∧Hid (wz.ownsRow w.heap.size 33 2 t6 (L.take j).flatten.length (L.take j).flatten.flatten)∧Hid (Kept [] w wz)) (fun _ t _=>L.length - (intOf t).toNat)
      case atStart=>exact ⟨0,Nat.zero_le _,rfl,by simpa using HO1',HK1⟩
      case round =>
        obtain ⟨j,hj,rfl,HO,HK⟩:=hrel
        by_cases hjt:j < L.length
        · have hjt':(j:Int) < L.length:=by omega
          obtain ⟨b,o,u,rfl,c1,r1⟩:=uh H4 j hjt
          have q1:=(uh HK).cell c1 (by simp)
          have HR:=hide (r1.old (uh HK))
          have HFT:=hide (xa2s L j hjt)
          have HLE:=hide (xa5b L (j + 1))
          rw [uh HFT] at HLE
          have hmem:L.getD j []∈L:=by rw [List.getD_eq_getElem?_getD,List.getElem?_eq_getElem hjt]; exact List.getElem_mem _
          have HS1:=hide (uh HS _ hmem)
          have HS2:=hide (uh HO1 _ hmem)
          clear c1 r1 hmem
          generalize L.getD j [] = li at HR HFT HLE HS1 HS2
          obtain ⟨a8,m8,c8,rfl,hm8,_⟩:=id (uh HR)
          subst hm8
          obtain ⟨D,hD⟩:∃ D,(L.take j).flatten = D:=⟨_,rfl⟩
          rw [hD] at HO HFT HLE
          clear hD
          have hsb:D.length + li.length≤100000000000:=by have h9:=uh HLE; have h8:=uh HL; rw [List.length_append] at h9; omega
          have hbz:=(uh HK).size
          obtain ⟨a6,c6,rfl⟩:=xa0x (uh HO)
          go_wp2_with (at_builtin; refine xa1q rfl 22 33 (.tmp 31) (.tmp 32) rfl rfl _ w.heap.size (.agg #[.slice none 0 0,.slice none 0 0]) 2 48 Tryz.underlying22 Tryz.infoQ rfl (by decide) (.slice a6 D.length c6) D.length D.flatten (uh HO) a8 li.length c8 li (uh HR) (uh HS1) (uh HS2) (by omega) (by omega) hbz rfl rfl ?_; intro ao1 cap1 w2 HO2 HG2 HA2; have HK2:=hide ((uh HK).grown (uh HG2) (by intro k hk; right; exact ((uh HO).lt k hk).1)); clear HG2)
          refine ⟨⟨j + 1,hjt,by go_num,by rw [uh HFT,List.length_append,List.flatten_append]; exact HO2,HK2⟩,?_⟩
          simp [intOf]; omega
        · have hj':j = L.length:=by omega
          have hjt':¬ (j:Int) < L.length:=by omega
          have HO2:=hide (by have h9:=uh HO; rw [hj',List.take_length] at h9; exact h9)
          clear hj' HO
          go_wp2
          go_ret
          exact ⟨_,rfl,uh HO2,uh HK⟩
set_option maxHeartbeats 1000000 in
theorem xa2f (k:Nat) (d:List Nat) (i:Nat) (w:World) (hk:1≤k∧k≤32) (hd:Dg d) (hf:formB (k:Int) d = true) (hi:i < 2 * k) :
    Calls Tryz.prog 82 #[.int .i64 k,.agg (brow d),.int .i64 i] w fun e w'=>e = .returned (.int .i64 (dgt d i:Nat))∧Kept [] w w':=by
  have hdl:=hd.1
  have HE:=hide (by unfold atE; rw [wide_k hk,if_neg (by simp; omega),if_pos hf]:atE (k:Int) d (i:Int) = 0)
  have HC:=hide (by unfold atC; rw [uh HE,if_pos rfl,Int.toNat_natCast]:atC (k:Int) d (i:Int) = dgt d i)
  have HGA:=hide (heap_alloc_new w (.cells (brow d) 58))
  have HK0:=hide ((Kept.refl [] w).alloc (.cells (brow d) 58))
  go_enter Tryz.func82,Tryz.ntmps82
  go_wp2_with (refine wpList_load_mid rfl 58 _ rfl w.heap.size 0 rfl (d.map u8) _ (xa0r (uh HGA)) Tryz.underlying58 rfl (by rw [List.length_map,hdl]; exact Tryz.size_dig) ?_)
  refine Calls.mono (at_any k d i _ (by omega) (by omega) hd) ?_
  rintro e w1 ⟨rfl,k1⟩
  rw [uh HC,uh HE]
  have HK1:=hide ((uh HK0).trans k1 (by simp))
  clear k1
  go_wp2
  go_ret
  exact ⟨rfl,uh HK1⟩
set_option maxHeartbeats 1000000 in
theorem xb1v (g:Nat) (D O:List Nat) (pv:Value) (w:World) (h:w.heap[g]? = some (.cells (bkC D pv O).toArray 111 (0,0))) (hD:D.length = 32) (hO:O.length = 32) :
    Calls Tryz.prog 194 #[.pointer (some ⟨g,0,none⟩)] w fun e w'=>e = .returned (.agg (brow O))∧Kept [] w w':=by
  have HS2:=hide (by rw [xa0a,hO]; exact Tryz.size_dig:(Tryz.prog.info? 58).map (·.size) = some (brow O).size)
  have HG:=hide (((Kept.refl [] w).alloc (.cells (zb 32) 58)).heap h (by simp))
  have HZ:=hide (heap_alloc_new w (.cells (zb 32) 58))
  have HK:=hide ((Kept.refl [] w).alloc (.cells (zb 32) 58))
  have HR:=hide (bk_row (uh HG) hD).2.2
  clear h
  go_enter Tryz.func194,Tryz.ntmps194
  go_wp2_with (rw [zb32]; refine wpList_load_mid rfl 58 _ rfl g 33 rfl (O.map u8) _ (uh HR) Tryz.underlying58 rfl (by rw [List.length_map,hO]; exact Tryz.size_dig) ?_; refine wpList_store_row rfl 58 _ _ rfl w.heap.size (brow O) rfl rfl _ (zb 32) (uh HZ) (uh HS2) (by rw [xa0d,xa0a,hO]) (xa0c _) ?_)
  refine bodyPost_ret (v:=.agg (brow O)) ?_ rfl ⟨rfl,(uh HK).setRow (by simp) _⟩
  exact results_cell_row rfl _ _ w.heap.size _ (brow O) (0,0) _ rfl (setRow_heap _ _ _ _ _ _ (uh HZ)) Tryz.underlying58 rfl (uh HS2)
set_option maxHeartbeats 1000000 in
theorem xb2l (g x:Nat) (O:List Nat) (kv:Value) (w:World) (h:w.heap[g]? = some (.cells (brC x kv O).toArray 115 (0,0))) (hO:O.length = 32) :
    Calls Tryz.prog 196 #[.pointer (some ⟨g,0,none⟩)] w fun e w'=>e = .returned (.agg (brow O))∧Kept [] w w':=by
  have HS2:=hide (by rw [xa0a,hO]; exact Tryz.size_dig:(Tryz.prog.info? 58).map (·.size) = some (brow O).size)
  have HG:=hide (((Kept.refl [] w).alloc (.cells (zb 32) 58)).heap h (by simp))
  have HZ:=hide (heap_alloc_new w (.cells (zb 32) 58))
  have HK:=hide ((Kept.refl [] w).alloc (.cells (zb 32) 58))
  have HR:=hide (br_row (uh HG)).2.2
  clear h
  go_enter Tryz.func196,Tryz.ntmps196
  go_wp2_with (rw [zb32]; refine wpList_load_mid rfl 58 _ rfl g 2 rfl (O.map u8) _ (uh HR) Tryz.underlying58 rfl (by rw [List.length_map,hO]; exact Tryz.size_dig) ?_; refine wpList_store_row rfl 58 _ _ rfl w.heap.size (brow O) rfl rfl _ (zb 32) (uh HZ) (uh HS2) (by rw [xa0d,xa0a,hO]) (xa0c _) ?_)
  refine bodyPost_ret (v:=.agg (brow O)) ?_ rfl ⟨rfl,(uh HK).setRow (by simp) _⟩
  exact results_cell_row rfl _ _ w.heap.size _ (brow O) (0,0) _ rfl (setRow_heap _ _ _ _ _ _ (uh HZ)) Tryz.underlying58 rfl (uh HS2)
set_option maxHeartbeats 1000000 in
theorem xa2j (k:Nat) (D:List Nat) (ao:Option Addr) (n c:Nat) (ps:Prs) (w:World) (hk:1≤k∧k≤32) (hD:D.length = 32) (h:RdK w (.slice ao n c) ps) (hl:(pairB ps).length≤1000000000000) (hT:Tabs w) :
    Calls Tryz.prog 83 #[.int .i64 k,.agg (brow D),.slice ao n c] w fun e w'=>∃ g,e = .returned (.pointer (some ⟨g,0,none⟩))∧w.heap.size≤g∧w'.heap[g]? = some (.cells (bkC D (.slice ao n c) ((hsZ k).hb ps)).toArray 111 (0,0))∧Kept [] w w':=by
  obtain ⟨O,hO⟩:∃ O,sumD (k:Int) (buckB ps) = O:=⟨_,rfl⟩
  have hOl:O.length = 32:=by rw [← hO]; exact xa1g _ _
  have HO:=hide hO
  have HOg:=hide (show (hsZ k).hb ps = O from hO)
  rw [uh HOg]
  clear hO
  have HB:=hide (xb6g D O ao n c hD hOl)
  have HK0:=hide ((Kept.refl [] w).alloc (.cells (brow D) 58))
  have HG0:=hide (heap_alloc_new w (.cells (brow D) 58))
  go_enter Tryz.func83,Tryz.ntmps83
  go_wp2_with fail
  refine Calls.mono (xa6h k _ ps _ (by omega) (h.old (uh HK0)) hl (hT.k (uh HK0))) ?_
  rintro e w1 ⟨rfl,k1⟩
  rw [uh HO]
  have HK1:=hide ((uh HK0).trans k1 (by simp))
  have HG1:=hide (k1.heap (uh HG0) (by simp))
  clear k1 h hT
  have HZ:=hide (heap_alloc_new w1 (.cells (zb 32) 58))
  have HG2:=hide (((Kept.refl [] w1).alloc (.cells (zb 32) 58)).heap (uh HG1) (by simp))
  have hsz:=(uh HK1).size
  have hs1:w.heap.size < w1.heap.size:=lt_of_block (uh HG1)
  have HG3:=hide (((Kept.refl [w1.heap.size] (w1.alloc (.cells (zb 32) 58))).setRow (g:=w1.heap.size) (Or.inl (by simp)) (brow O)).heap (uh HG2) (by simp; omega))
  have HR3:=hide (setRow_heap _ _ _ (brow O) _ _ (uh HZ))
  have HK3:=hide ((((uh HK1).alloc (.cells (zb 32) 58))).setRow (g:=w1.heap.size) (Or.inr (by omega)) (brow O))
  have hs3:((w1.alloc (.cells (zb 32) 58)).setRow w1.heap.size (brow O)).heap.size = w1.heap.size + 1:=by simp [World.setRow]
  go_wp2_with (first
    | (rw [zb32]; refine wpList_store_row rfl 58 _ _ rfl w1.heap.size (brow O) rfl rfl _ (zb 32) (uh HZ) (by rw [xa0a,hOl]; exact Tryz.size_dig) (by rw [xa0d,xa0a,hOl]) (xa0c _) ?_)
    | (refine wpList_load_row rfl 58 (.tmp 4) rfl w.heap.size rfl 58 (brow D) (0,0) _ (uh HG3) Tryz.underlying58 rfl (by rw [xa0a,hD]; exact Tryz.size_dig) ?_)
    | (refine wpList_load_row rfl 58 (.tmp 7) rfl w1.heap.size rfl 58 (brow O) (0,0) _ (uh HR3) Tryz.underlying58 rfl (by rw [xa0a,hOl]; exact Tryz.size_dig) ?_)
    | (refine xa0q rfl 111 _ rfl (bkC D (.slice ao n c) O).toArray (by simp only [List.map_toArray,List.map_cons,List.map_nil]; exact uh HB) ?_))
  go_ret
  exact ⟨_,rfl,by omega,by rw [← hs3]; exact heap_alloc_new _ _,(uh HK3).alloc _⟩
theorem Tryz.infoDg:(Tryz.prog.info? 58).map (fun i=>(i.zero,i.size,i.bytes)) = some (some (.agg (zb 32)),32,32):=by kernel_rfl
theorem xb8b (m:Nat):madeCells (zb 32) m = (List.replicate m (u8 0)).toArray:=by
  apply Array.ext
  · simp [size_madeCells]
  · intro i h1 h2
    have hz:(zb 32).size = 32:=xa0d 32
    have hi:i % 32 < (zb 32).size:=by rw [hz]; omega
    have hall:∀ j (h:j < (zb 32).size),(zb 32)[j] = u8 0:=by
      have e:zb 32 = (List.replicate 32 (u8 0)).toArray:=rfl
      rw [e]
      intro j h
      simp only [List.getElem_toArray,List.getElem_replicate]
    simp only [madeCells,Array.getElem_map,Array.getElem_range,List.getElem_toArray,List.getElem_replicate]
    rw [hz,getElem!_pos (zb 32) (i % 32) hi]
    exact hall _ hi
theorem xb3c (n:Nat) (W:World) (hn:n≤1000000):(Instr.makeSlice 50 (.int .i64 n) (.int .i64 n)).run Tryz.prog W = .ok (.slice (some ⟨W.heap.size,0,none⟩) n n) (W.alloc (.cells (List.replicate (n * 32) (u8 0)).toArray 58)):=by
  have hz:=Tryz.infoDg
  obtain ⟨i0,hi⟩:∃ it,Tryz.prog.info? 58 = some it:=by
    cases h:Tryz.prog.info? 58 with
    | none=>rw [h] at hz; cases hz
    | some it=>exact ⟨it,rfl⟩
  rw [hi] at hz
  simp only [Option.map_some,Option.some.injEq,Prod.mk.injEq] at hz
  have h:=run_make (P:=Tryz.prog) W 50 58 i0 (.agg (zb 32)) Tryz.underlying50 hi hz.1 .i64 .i64 n n (by omega) (by omega) (by rw [hz.2.2]; omega) (by omega)
  rw [h,hz.2.1,Int.toNat_natCast,show (Value.agg (zb 32)).cells = zb 32 from rfl,xb8b]
theorem xb9c (a : Addr) (w : World) : (method 356 100 (.pointer (some a)) "notary/hamt.sum").run Tryz.prog w = .ok (194, .pointer (some a)) w := by kernel_rfl
theorem xb8e (a : Addr) (w : World) : (method 356 112 (.pointer (some a)) "notary/hamt.sum").run Tryz.prog w = .ok (196, .pointer (some a)) w := by kernel_rfl
theorem TreeAt.own {S:Nat→Prop} {k f:Nat} {W:World} {v:Value} {L:Prs} (h:TreeAt S (hsZ k) W f v L) :
    (∃ g D pv,sgl (hsZ k) L = true∧v = bkV g∧D.length = 32∧W.heap[g]? = some (.cells (bkC D pv (nodP (hsZ k) f L)).toArray 111 (0,0))) ∨
    (∃ g x kv,sgl (hsZ k) L = false∧v = brV g∧W.heap[g]? = some (.cells (brC x kv (nodP (hsZ k) f L)).toArray 115 (0,0))):=by
  cases hs:sgl (hsZ k) L with
  | true =>
    obtain ⟨g,h1,pv,h2,h3,_,_⟩:=h.bk hs
    exact Or.inl ⟨g,_,pv,rfl,h1,(xa1v _ _).1,by rw [xb5q hs]; exact h3⟩
  | false =>
    cases f with
    | zero =>
      have:=h.1
      rw [hs] at this; cases this
    | succ f =>
      obtain ⟨g,kv,vs,h1,h2,h3,_⟩:=h.2 hs
      exact Or.inr ⟨g,_,kv,rfl,h1,h3⟩
set_option maxHeartbeats 2000000 in
theorem xa8q (S:Nat→Prop) (k f:Nat) (kv:Value) (vs:List Value) (Ls:List Prs) (w:World) (hS:SRow S w kv vs) (hl:vs.length = Ls.length) (hn:0 < vs.length∧vs.length≤16) (ht:∀ i,i < vs.length→TreeAt S (hsZ k) w f (vs.getD i undef) (Ls.getD i [])) :
    Calls Tryz.prog 56 #[kv] w fun e w'=>∃ g n,e = .returned (.slice (some ⟨g,0,none⟩) n n)∧n = vs.length∧w.heap.size≤g∧w'.heap[g]? = some (.cells (flatD (Ls.map (nodP (hsZ k) f))).toArray 58 (0,0))∧Kept [] w w':=by
  obtain ⟨b,off,cap,rfl,hc1,hc2,_,hc3⟩:=hS
  have HC:=hide hc3
  have HT:=hide ht
  clear hc3 ht
  obtain ⟨n,hnn⟩:∃ n,vs.length = n:=⟨_,rfl⟩
  rw [hnn] at hl hn hc1 HC HT ⊢
  have HN:=hide hnn
  have HDG:=hide (fun i (hi:i < n)=>by rw [List.getD_eq_getElem?_getD,List.getElem?_map,List.getD_eq_getElem?_getD,List.getElem?_eq_getElem (by omega)]; rfl:∀ i,i < n→(Ls.map (nodP (hsZ k) f)).getD i [] = nodP (hsZ k) f (Ls.getD i []))
  have HDL:=hide (by rw [List.length_map]; exact hl.symm:(Ls.map (nodP (hsZ k) f)).length = n)
  have HD32:=hide (fun d hd=>by obtain ⟨L,_,rfl⟩:=List.mem_map.1 hd; exact (nod_dg k f L).1:∀ d∈Ls.map (nodP (hsZ k) f),d.length = 32)
  generalize Ls.map (nodP (hsZ k) f) = ds at HDG HDL HD32 ⊢
  have hmk:=xb3c n w (by omega)
  clear hnn hl
  have hm1:=xb9c
  have hm2:=xb8e
  go_enter Tryz.func56,Tryz.ntmps56
  go_wp2
  go_loopw [11] (fun t11 wr=>∃ (i:Nat),i≤n∧t11 = .int .i64 i∧Hid (wr.heap[w.heap.size]? = some (.cells (flatD (ds.take i)++List.replicate ((n - i) * 32) (u8 0)).toArray 58 (0,0)))∧Hid (Kept [] w wr)) (fun t _=>n - (intOf t).toNat)
  case atStart=>exact ⟨0,Nat.zero_le _,rfl,hide (by simp only [List.take_zero,flatD,List.map_nil,List.flatten_nil,List.nil_append,Nat.sub_zero]; exact heap_alloc_new _ _),hide ((Kept.refl [] w).alloc _)⟩
  case round =>
    obtain ⟨i,hi,rfl,HG,HK⟩:=hrel
    by_cases hlt:i < n
    · have hlt':(i:Int) < n:=by omega
      have hcl:=(uh HK).cell (uh HC i hlt) (by simp)
      have ht:=(uh HT i hlt).agr (Agr.nil (uh HK))
      have hO:=uh HDG i hlt
      generalize Ls.getD i [] = Li at ht hO
      generalize vs.getD i undef = v at hcl ht
      have hO2:=(nod_dg k f Li).1
      have hown:=ht.own
      generalize nodP (hsZ k) f Li = O at hown hO hO2
      have HO:=hide hO
      have hszw:w.heap.size < wr.heap.size:=lt_of_block (uh HG)
      clear ht hO
      rcases hown with ⟨g,D,pv,hs,rfl,hD,hh⟩ | ⟨g,x,kv,hs,rfl,hh⟩
      · clear hs
        go_wp2_with fail
        refine Calls.mono (xb1v g D O pv wr hh hD hO2) ?_
        rintro e w1 ⟨rfl,k1⟩
        clear hh
        obtain ⟨q1,q2⟩:=xb2y (k1.heap (uh HG) (by simp)) hlt (uh HDL) (uh HD32) (uh HO)
        have Q1:=hide q1
        have Q2:=hide q2
        have HK1:=hide (xa2a (L:=[]) w.heap.size (Or.inr (Nat.le_refl _)) (O.map u8) (i * 32) w1 ((uh HK).trans k1 (by simp)))
        clear q1 q2 k1
        go_wp2_with (refine wpList_store_mid rfl 58 (.tmp 20) (.tmp 19) rfl w.heap.size (i * 32) (brow O) rfl rfl (by rw [xa0a,hO2]; exact uh Q1) (by rw [xa0a,hO2]; exact Tryz.size_dig) (xa0c _) ?_)
        refine ⟨⟨i + 1,hlt,by go_num,Q2,HK1⟩,?_⟩
        simp [intOf]; omega
      · clear hs
        go_wp2_with fail
        refine Calls.mono (xb2l g x O kv wr hh hO2) ?_
        rintro e w1 ⟨rfl,k1⟩
        clear hh
        obtain ⟨q1,q2⟩:=xb2y (k1.heap (uh HG) (by simp)) hlt (uh HDL) (uh HD32) (uh HO)
        have Q1:=hide q1
        have Q2:=hide q2
        have HK1:=hide (xa2a (L:=[]) w.heap.size (Or.inr (Nat.le_refl _)) (O.map u8) (i * 32) w1 ((uh HK).trans k1 (by simp)))
        clear q1 q2 k1
        go_wp2_with (refine wpList_store_mid rfl 58 (.tmp 20) (.tmp 19) rfl w.heap.size (i * 32) (brow O) rfl rfl (by rw [xa0a,hO2]; exact uh Q1) (by rw [xa0a,hO2]; exact Tryz.size_dig) (xa0c _) ?_)
        refine ⟨⟨i + 1,hlt,by go_num,Q2,HK1⟩,?_⟩
        simp [intOf]; omega
    · have hie:i = n:=by omega
      subst hie
      have hlt':¬ (i:Int) < i:=by omega
      have HF:=hide (by have h9:=uh HG; rw [List.take_of_length_le (by rw [uh HDL]; exact Nat.le_refl _),Nat.sub_self,Nat.zero_mul,List.replicate_zero,List.append_nil] at h9; exact h9:wr.heap[w.heap.size]? = some (.cells (flatD ds).toArray 58 (0,0)))
      go_wp2
      go_ret
      exact ⟨_,_,rfl,rfl,Nat.le_refl _,uh HF,uh HK⟩
theorem ta_bk (g:Nat) (w:World):(Instr.typeAssert (bkV g) 95 100 true).run Tryz.prog w = .ok (.tuple #[.pointer (some ⟨g,0,none⟩),.bool true]) w:=by kernel_rfl
theorem ta_br (g:Nat) (w:World):(Instr.typeAssert (brV g) 95 100 true).run Tryz.prog w = .ok (.tuple #[.pointer none,.bool false]) w:=by kernel_rfl
theorem tb_bk (g:Nat) (w:World):(Instr.typeAssert (bkV g) 95 112 true).run Tryz.prog w = .ok (.tuple #[.pointer none,.bool false]) w:=by kernel_rfl
theorem tb_br (g:Nat) (w:World):(Instr.typeAssert (brV g) 95 112 true).run Tryz.prog w = .ok (.tuple #[.pointer (some ⟨g,0,none⟩),.bool true]) w:=by kernel_rfl
theorem ta_nil (w:World):(Instr.typeAssert .nilIface 95 100 true).run Tryz.prog w = .ok (.tuple #[.pointer none,.bool false]) w:=by kernel_rfl
theorem tb_nil (w:World):(Instr.typeAssert .nilIface 95 112 true).run Tryz.prog w = .ok (.tuple #[.pointer none,.bool false]) w:=by kernel_rfl
theorem xb2f {H:Hs} (hH:H.Ok) {d:Nat} {L:Prs} (h:(kidsL H d L).length = 1):kidsL H d L = [L]:=by
  unfold kidsL at h ⊢
  rw [List.length_map] at h
  match hp:prs H d L,h with
  | [i],_=>rw [List.map_cons,List.map_nil,ch_all (xb6f hH hp)]
theorem xb3v {H:Hs} (hH:H.Ok) {d:Nat} {L:Prs} (hn:L≠[]) (h:(kidsL H d L).length≠1):sgl H L = false :=
  xb7o hH (d:=d) hn (by unfold kidsL at h; rwa [List.length_map] at h)
theorem xa2u {H:Hs} (hH:H.Ok) {d:Nat} {L:Prs} (hn:L≠[]):0 < (kidsL H d L).length∧(kidsL H d L).length≤16:=by
  unfold kidsL
  rw [List.length_map]
  refine ⟨?_,prs_le _ _ _⟩
  have:=prs_ne hH (d:=d) hn
  cases h:prs H d L with
  | nil=>exact absurd h this
  | cons _ _=>simp
theorem xb5h {w:World} {g:Nat} {t:TypeId} {fr:Nat × Nat} {ds:List (List Nat)} (h:w.heap[g]? = some (.cells (flatD ds).toArray t fr)) (hd:∀ d∈ds,Dg d) (hl:ds.length≤1000000):RdD w (.slice (some ⟨g,0,none⟩) ds.length ds.length) ds:=by
  refine ⟨_,ds.length,ds.length,rfl,rfl,Nat.le_refl _,by omega,hd,fun _=>⟨g,0,rfl,fun i hi j v hj=>?_⟩⟩
  have hdl:∀ d∈ds,d.length = 32:=fun d hm=>(hd d hm).1
  have hj2:j < 32:=by
    have:=(List.getElem?_eq_some_iff.1 hj).1
    rw [List.length_map] at this
    have h9:(ds.getD i []).length = 32:=by rw [List.getD_eq_getElem?_getD,List.getElem?_eq_getElem hi]; exact hdl _ (List.getElem_mem _)
    omega
  rw [cell_of_row _ _ _ _ _ _ h,List.getElem?_toArray,Nat.zero_add,xa5a hdl i hi j hj2]
  exact hj
set_option maxHeartbeats 2000000 in
theorem xa2d (S:Nat→Prop) (k f x:Nat) (kv:Value) (vs:List Value) (L:Prs) (w:World) (hk:1≤k∧k≤32) (hS:∀ y,w.heap.size≤y→S y) (hn:L≠[]) (hx:x = bm (hsZ k) (63 - f) L)
    (hrow:SRow S w kv vs) (hlen:vs.length = (kidsL (hsZ k) (63 - f) L).length) (ht:∀ i,i < vs.length→TreeAt S (hsZ k) w f (vs.getD i undef) ((kidsL (hsZ k) (63 - f) L).getD i [])) (hT:Tabs w) :
    Calls Tryz.prog 121 #[.int .i64 k,.int .u16 (x:Int),kv] w fun e w'=>∃ v,e = .returned v∧TreeAt S (hsZ k) w' (f + 1) v L∧Kept [] w w':=by
  have hH:=hsZ_ok hk
  have hpos:=xa2u hH (d:=63 - f) hn
  rw [← hlen] at hpos
  have hcnt:=xa1k (hsZ k) (63 - f) L
  rw [← hx,← hlen] at hcnt
  have hxl:x < 65536:=by rw [hx]; exact bm_lt _ _ _
  have HRow:=hide hrow
  have HT:=hide ht
  have HTb:=hide hT
  obtain ⟨b,off,cap,rfl,hc1,hc2,hSb,hc3⟩:=hrow
  have c0:=hc3 0 hpos.1
  rw [Nat.add_zero] at c0
  have HC:=hide hc3
  have ht0:=ht 0 hpos.1
  clear hc3 ht hT
  obtain ⟨n,hnn⟩:∃ n,vs.length = n:=⟨_,rfl⟩
  rw [hnn] at hpos hcnt hc1 hlen ⊢
  have hp0:(0:Int) < n:=by omega
  obtain ⟨v0,hv0⟩:∃ v,vs.getD 0 undef = v:=⟨_,rfl⟩
  rw [hv0] at c0 ht0
  have HX:=hide hx
  have HN:=hide hnn
  have HCn:=hide hcnt
  have HLn:=hide hlen
  have HV0:=hide hv0
  have HH:=hide hH
  clear hv0 hx hnn hcnt hlen hH
  have hm1:=ta_bk
  have hm2:=ta_br
  have key:(∃ g,v0 = bkV g∧n = 1∧TreeAt S (hsZ k) w (f + 1) v0 L)∨(sgl (hsZ k) L = false∧((∃ g,v0 = bkV g∧n≠1)∨∃ g,v0 = brV g)):=by
    by_cases h1:n = 1
    · have hko:=xb2f (uh HH) (d:=63 - f) (L:=L) (by rw [← uh HLn,h1])
      rw [hko] at ht0
      have ht0':TreeAt S (hsZ k) w f v0 L:=ht0
      rcases ht0'.own with ⟨g,D,pv,hs0,e,hD,hh⟩ | ⟨g,y,kv,hs0,e,hh⟩
      · obtain ⟨g',e,hb⟩:=ht0'.bk hs0
        exact Or.inl ⟨g',e,h1,by rw [e]; exact TreeAt.ofBk (f + 1) hb hs0⟩
      · exact Or.inr ⟨hs0,Or.inr ⟨g,e⟩⟩
    · refine Or.inr ⟨xb3v (uh HH) (d:=63 - f) hn (by rw [← uh HLn]; exact h1),?_⟩
      rcases ht0.own with ⟨g,D,pv,hs0,e,hD,hh⟩ | ⟨g,y,kv,hs0,e,hh⟩
      · exact Or.inl ⟨g,e,h1⟩
      · exact Or.inr ⟨g,e⟩
  clear ht0
  rcases key with ⟨g,rfl,h1,hB⟩ | ⟨hs,hor⟩
  · have HB:=hide hB
    clear hB
    subst h1
    go_enter Tryz.func121,Tryz.ntmps121
    go_wp2
    go_ret
    exact ⟨_,rfl,uh HB,Kept.refl _ _⟩
  · obtain ⟨ds,hds⟩:∃ ds,(kidsL (hsZ k) (63 - f) L).map (nodP (hsZ k) f) = ds:=⟨_,rfl⟩
    have HDS:=hide hds
    have HDl:=hide (by rw [← hds,List.length_map,← uh HLn]:ds.length = n)
    have HDg:=hide (fun d hd=>by rw [← hds] at hd; obtain ⟨M,_,rfl⟩:=List.mem_map.1 hd; exact ⟨nod_dg k f M,xa8a hk f M⟩:∀ d∈ds,Dg d∧formB (k:Int) d = true)
    clear hds
    have HE0:=hide (xb5i hk hxl (fun d hd=>(uh HDg d hd).2) (by rw [← uh HCn,uh HDl]) (by intro e; have:=uh HDl; rw [e] at this; simp at this; omega):branchE (k:Int) x ds = 0)
    obtain ⟨O,hO⟩:∃ O,nodP (hsZ k) (f + 1) L = O:=⟨_,rfl⟩
    have HO:=hide (by rw [← hO,nod_br hs,← uh HX]; unfold kidsL at HDS; rw [← uh HDS,List.map_map]; rfl:sumD (k:Int) (branchB (k:Int) x ds) = O)
    have hOl:O.length = 32:=by rw [← hO]; exact (nod_dg k _ L).1
    have HOO:=hide hO
    clear hO
    have HB:=hide (xb6x x O (some ⟨b,off,none⟩) n cap hOl)
    go_enter Tryz.func121,Tryz.ntmps121
    rcases hor with ⟨g,rfl,h1⟩ | ⟨g,rfl⟩
    case' inl=>have h1':¬ (n:Int) = 1:=by omega
    all_goals
      go_wp2_with fail
      refine Calls.mono (xa8q S k f _ vs _ w (by rw [← uh HN]; exact uh HRow) (by rw [uh HN]; exact uh HLn) (by rw [uh HN]; exact hpos) (uh HT)) ?_
      rintro e w1 ⟨g1,n1,rfl,rfl,hg1,hr1,k1⟩
      rw [uh HDS] at hr1
      have hrd:=xb5h hr1 (fun d hd=>(uh HDg d hd).1) (by rw [uh HDl]; omega)
      rw [uh HDl] at hrd
      have HR1:=hide hrd
      have HK1:=hide k1
      clear hr1 hrd k1
      rw [uh HN]
      go_wp2_with fail
      refine Calls.mono (xa3u k x _ ds w1 (by omega) hxl (uh HR1) ((uh HTb).k (uh HK1))) ?_
      rintro e w2 ⟨rfl,k2⟩
      rw [uh HE0,show sunD 0 (k:Int) (branchB (k:Int) x ds) = sumD (k:Int) (branchB (k:Int) x ds) from rfl,uh HO]
      have HK2:=hide ((uh HK1).trans k2 (by simp))
      clear k2 HR1
      have HZ:=hide (heap_alloc_new w2 (.cells (zb 32) 58))
      have HR3:=hide (setRow_heap _ _ _ (brow O) _ _ (uh HZ))
      have hs2:=(uh HK2).size
      have HK3:=hide ((((uh HK2).alloc (.cells (zb 32) 58))).setRow (g:=w2.heap.size) (Or.inr (by omega)) (brow O))
      have hs3:((w2.alloc (.cells (zb 32) 58)).setRow w2.heap.size (brow O)).heap.size = w2.heap.size + 1:=by simp
      go_wp2_with (first
        | (rw [zb32]; refine wpList_store_row rfl 58 _ _ rfl w2.heap.size (brow O) rfl rfl _ (zb 32) (uh HZ) (by rw [xa0a,hOl]; exact Tryz.size_dig) (by rw [xa0d,xa0a,hOl]) (xa0c _) ?_)
        | (refine wpList_load_row rfl 58 (.tmp 9) rfl w2.heap.size rfl 58 (brow O) (0,0) _ (uh HR3) Tryz.underlying58 rfl (by rw [xa0a,hOl]; exact Tryz.size_dig) ?_)
        | (refine xa0q rfl 115 _ rfl (brC x (.slice (some ⟨b,off,none⟩) n cap) O).toArray (by simp only [List.map_toArray,List.map_cons,List.map_nil]; exact uh HB) ?_))
      have hkf:=(uh HK3).alloc (.cells (brC x (.slice (some ⟨b,off,none⟩) n cap) O).toArray 115)
      have HA:=hide (Agr.nil (S:=S) hkf)
      go_ret
      refine ⟨_,rfl,⟨fun h9=>absurd h9 (by rw [hs]; decide),fun _=>⟨w2.heap.size + 1,.slice (some ⟨b,off,none⟩) n cap,vs,rfl,hS _ (by omega),?_,?_,by rw [uh HN]; exact uh HLn,fun i hi=>(uh HT i hi).agr (uh HA)⟩⟩,hkf⟩
      · rw [← uh HX,uh HOO,← hs3]; exact heap_alloc_new _ _
      · have h9:=(uh HRow).agr (uh HA); rw [uh HN] at h9; exact h9
end
section
open Go Go.RowKit Go.BigFrame
theorem ln_sp {P:Program} {Q:Exit→Act→World→Prop} {id:Nat} {o0 o1 o2 o3 o4 o5 o6 o7 o8 o9:Oper} {a:Act} {w:World} (hm:P.follows .mixedOrders = true) (hb:linB #[o0,o1,o2,o3,o4,o5,o6,o7,o8,o9] [0,1,2,3,4,5,6] [7,8,9] [] = true) (hg:([o0,o1,o2,o3,o4,o5,o6]++([o7,o8,o9]++[])).all (fun o=>o.guard.isNone) = true) (S:World→Prop) (hS:S w.drew)
    (h:LinY P S (ChL P Q S (Q .normal) [o7,o8,o9]) [o0,o1,o2,o3,o4,o5,o6] a w.drew):(Code.region id #[o0,o1,o2,o3,o4,o5,o6,o7,o8,o9] true).wp P Q a w:=xa1n (R:=[0,1,2,3,4,5,6]) (C:=[7,8,9]) (rs:=[o0,o1,o2,o3,o4,o5,o6]) (cs:=[o7,o8,o9]) hm hb rfl rfl hg hS h
theorem ln_kid {P:Program} {Q:Exit→Act→World→Prop} {id:Nat} {o0 o1 o2 o3 o4 o5 o6 o7 o8 o9 o10 o11 o12:Oper} {a:Act} {w:World} (hm:P.follows .mixedOrders = true) (hb:linB #[o0,o1,o2,o3,o4,o5,o6,o7,o8,o9,o10,o11,o12] [0,1,2,3,4,5,6,7,8] [9,10,11,12] [] = true) (hg:([o0,o1,o2,o3,o4,o5,o6,o7,o8]++([o9,o10,o11,o12]++[])).all (fun o=>o.guard.isNone) = true) (S:World→Prop) (hS:S w.drew)
    (h:LinY P S (ChL P Q S (Q .normal) [o9,o10,o11,o12]) [o0,o1,o2,o3,o4,o5,o6,o7,o8] a w.drew):(Code.region id #[o0,o1,o2,o3,o4,o5,o6,o7,o8,o9,o10,o11,o12] true).wp P Q a w:=xa1n (R:=[0,1,2,3,4,5,6,7,8]) (C:=[9,10,11,12]) (rs:=[o0,o1,o2,o3,o4,o5,o6,o7,o8]) (cs:=[o9,o10,o11,o12]) hm hb rfl rfl hg hS h
theorem ln_fk {P:Program} {Q:Exit→Act→World→Prop} {id:Nat} {o0 o1 o2 o3 o4 o5 o6 o7 o8 o9 o10 o11 o12 o13 o14:Oper} {a:Act} {w:World} (hm:P.follows .mixedOrders = true) (hb:linB #[o0,o1,o2,o3,o4,o5,o6,o7,o8,o9,o10,o11,o12,o13,o14] [0,1,2,3,4,5,6,7,8] [9] [10,11,12,13,14] = true) (hg:([o0,o1,o2,o3,o4,o5,o6,o7,o8]++([o9]++[o10,o11,o12,o13,o14])).all (fun o=>o.guard.isNone) = true) (S:World→Prop) (hS:S w.drew)
    (h:LinY P S (ChL P Q S (fun a w=>S w∧LinY P S (Q .normal) [o10,o11,o12,o13,o14] a w) [o9]) [o0,o1,o2,o3,o4,o5,o6,o7,o8] a w.drew):(Code.region id #[o0,o1,o2,o3,o4,o5,o6,o7,o8,o9,o10,o11,o12,o13,o14] true).wp P Q a w:=wp_lin (R:=[0,1,2,3,4,5,6,7,8]) (C:=[9]) (T:=[10,11,12,13,14]) (rs:=[o0,o1,o2,o3,o4,o5,o6,o7,o8]) (cs:=[o9]) (ts:=[o10,o11,o12,o13,o14]) hm hb rfl rfl rfl hg hS h
theorem ln_wk {P:Program} {Q:Exit→Act→World→Prop} {id:Nat} {o0 o1 o2 o3 o4 o5 o6 o7 o8 o9 o10 o11 o12 o13 o14:Oper} {a:Act} {w:World} (hm:P.follows .mixedOrders = true) (hb:linB #[o0,o1,o2,o3,o4,o5,o6,o7,o8,o9,o10,o11,o12,o13,o14] [0,1,2,3,4,6,7,8,9,10,11] [5,12,13,14] [] = true) (hg:([o0,o1,o2,o3,o4,o6,o7,o8,o9,o10,o11]++([o5,o12,o13,o14]++[])).all (fun o=>o.guard.isNone) = true) (S:World→Prop) (hS:S w.drew)
    (h:LinY P S (ChL P Q S (Q .normal) [o5,o12,o13,o14]) [o0,o1,o2,o3,o4,o6,o7,o8,o9,o10,o11] a w.drew):(Code.region id #[o0,o1,o2,o3,o4,o5,o6,o7,o8,o9,o10,o11,o12,o13,o14] true).wp P Q a w:=xa1n (R:=[0,1,2,3,4,6,7,8,9,10,11]) (C:=[5,12,13,14]) (rs:=[o0,o1,o2,o3,o4,o6,o7,o8,o9,o10,o11]) (cs:=[o5,o12,o13,o14]) hm hb rfl rfl hg hS h
theorem ln_wo {P:Program} {Q:Exit→Act→World→Prop} {id:Nat} {o0 o1 o2 o3 o4 o5 o6 o7 o8 o9 o10 o11 o12 o13 o14 o15:Oper} {a:Act} {w:World} (hm:P.follows .mixedOrders = true) (hb:linB #[o0,o1,o2,o3,o4,o5,o6,o7,o8,o9,o10,o11,o12,o13,o14,o15] [0,1,2,3,4,5,7,8,9,10,11,12] [6,13,14,15] [] = true) (hg:([o0,o1,o2,o3,o4,o5,o7,o8,o9,o10,o11,o12]++([o6,o13,o14,o15]++[])).all (fun o=>o.guard.isNone) = true) (S:World→Prop) (hS:S w.drew)
    (h:LinY P S (ChL P Q S (Q .normal) [o6,o13,o14,o15]) [o0,o1,o2,o3,o4,o5,o7,o8,o9,o10,o11,o12] a w.drew):(Code.region id #[o0,o1,o2,o3,o4,o5,o6,o7,o8,o9,o10,o11,o12,o13,o14,o15] true).wp P Q a w:=xa1n (R:=[0,1,2,3,4,5,7,8,9,10,11,12]) (C:=[6,13,14,15]) (rs:=[o0,o1,o2,o3,o4,o5,o7,o8,o9,o10,o11,o12]) (cs:=[o6,o13,o14,o15]) hm hb rfl rfl hg hS h
theorem ln_wn {P:Program} {Q:Exit→Act→World→Prop} {id:Nat} {o0 o1 o2 o3 o4 o5 o6 o7 o8 o9 o10 o11 o12 o13 o14 o15 o16 o17:Oper} {a:Act} {w:World} (hm:P.follows .mixedOrders = true) (hb:linB2 #[o0,o1,o2,o3,o4,o5,o6,o7,o8,o9,o10,o11,o12,o13,o14,o15,o16,o17] [0,1,2,3,4,5,7,8,9,10,11,12,13] 6 14 [15,16,17] = true) (hg:([o0,o1,o2,o3,o4,o5,o7,o8,o9,o10,o11,o12,o13]++(o6 :: o14 :: [o15,o16,o17])).all (fun o=>o.guard.isNone) = true) (S:World→Prop) (hS:S w.drew)
    (h:LinY P S (fun a w=>ChL P Q S (Q .normal) (o6 :: o14 :: [o15,o16,o17]) a w∧ChL P Q S (Q .normal) (o14 :: o6 :: [o15,o16,o17]) a w) [o0,o1,o2,o3,o4,o5,o7,o8,o9,o10,o11,o12,o13] a w.drew):(Code.region id #[o0,o1,o2,o3,o4,o5,o6,o7,o8,o9,o10,o11,o12,o13,o14,o15,o16,o17] true).wp P Q a w:=xb7v (R:=[0,1,2,3,4,5,7,8,9,10,11,12,13]) (i:=6) (j:=14) (C:=[15,16,17]) (rs:=[o0,o1,o2,o3,o4,o5,o7,o8,o9,o10,o11,o12,o13]) (cs:=[o15,o16,o17]) hm hb rfl rfl rfl rfl hg hS h
theorem ln_ar {P:Program} {Q:Exit→Act→World→Prop} {id:Nat} {o0 o1 o2 o3 o4 o5 o6 o7 o8 o9 o10:Oper} {a:Act} {w:World} (hm:P.follows .mixedOrders = true) (hb:linB #[o0,o1,o2,o3,o4,o5,o6,o7,o8,o9,o10] [0,1,2,3,4,5,6,7,8] [9,10] [] = true) (hg:([o0,o1,o2,o3,o4,o5,o6,o7,o8]++([o9,o10]++[])).all (fun o=>o.guard.isNone) = true) (S:World→Prop) (hS:S w.drew)
    (h:LinY P S (ChL P Q S (Q .normal) [o9,o10]) [o0,o1,o2,o3,o4,o5,o6,o7,o8] a w.drew):(Code.region id #[o0,o1,o2,o3,o4,o5,o6,o7,o8,o9,o10] true).wp P Q a w:=xa1n (R:=[0,1,2,3,4,5,6,7,8]) (C:=[9,10]) (rs:=[o0,o1,o2,o3,o4,o5,o6,o7,o8]) (cs:=[o9,o10]) hm hb rfl rfl hg hS h
theorem ln_eg {P:Program} {Q:Exit→Act→World→Prop} {id:Nat} {o0 o1 o2 o3 o4 o5 o6 o7 o8 o9 o10 o11 o12:Oper} {a:Act} {w:World} (hm:P.follows .mixedOrders = true) (hb:linB #[o0,o1,o2,o3,o4,o5,o6,o7,o8,o9,o10,o11,o12] [0,1,2,3,4,5,6,7,8,9,10,11,12] [] [] = true) (S:World→Prop) (hS:S w.drew)
    (h:LinG P #[o0,o1,o2,o3,o4,o5,o6,o7,o8,o9,o10,o11,o12] S (Q .normal) [o0,o1,o2,o3,o4,o5,o6,o7,o8,o9,o10,o11,o12] a w.drew):(Code.region id #[o0,o1,o2,o3,o4,o5,o6,o7,o8,o9,o10,o11,o12] true).wp P Q a w:=xb7p (R:=[0,1,2,3,4,5,6,7,8,9,10,11,12]) (rs:=[o0,o1,o2,o3,o4,o5,o6,o7,o8,o9,o10,o11,o12]) hm hb rfl hS h
theorem ln_ew {P:Program} {Q:Exit→Act→World→Prop} {id:Nat} {o0 o1 o2 o3 o4 o5 o6 o7 o8 o9 o10:Oper} {a:Act} {w:World} (hm:P.follows .mixedOrders = true) (hb:linB #[o0,o1,o2,o3,o4,o5,o6,o7,o8,o9,o10] [0,1,2,3,4,5] [6,7,8,9,10] [] = true) (hg:([o0,o1,o2,o3,o4,o5]++([o6,o7,o8,o9,o10]++[])).all (fun o=>o.guard.isNone) = true) (S:World→Prop) (hS:S w.drew)
    (h:LinY P S (ChL P Q S (Q .normal) [o6,o7,o8,o9,o10]) [o0,o1,o2,o3,o4,o5] a w.drew):(Code.region id #[o0,o1,o2,o3,o4,o5,o6,o7,o8,o9,o10] true).wp P Q a w:=xa1n (R:=[0,1,2,3,4,5]) (C:=[6,7,8,9,10]) (rs:=[o0,o1,o2,o3,o4,o5]) (cs:=[o6,o7,o8,o9,o10]) hm hb rfl rfl hg hS h
theorem ln_li {P:Program} {Q:Exit→Act→World→Prop} {id:Nat} {o0 o1 o2 o3 o4 o5 o6 o7 o8 o9 o10 o11 o12 o13 o14 o15:Oper} {a:Act} {w:World} (hm:P.follows .mixedOrders = true) (hb:linB #[o0,o1,o2,o3,o4,o5,o6,o7,o8,o9,o10,o11,o12,o13,o14,o15] [0,1,2,3,4,5,6,7,8,9,10,11,13] [12,14,15] [] = true) (hg:([o0,o1,o2,o3,o4,o5,o6,o7,o8,o9,o10,o11,o13]++([o12,o14,o15]++[])).all (fun o=>o.guard.isNone) = true) (S:World→Prop) (hS:S w.drew)
    (h:LinY P S (ChL P Q S (Q .normal) [o12,o14,o15]) [o0,o1,o2,o3,o4,o5,o6,o7,o8,o9,o10,o11,o13] a w.drew):(Code.region id #[o0,o1,o2,o3,o4,o5,o6,o7,o8,o9,o10,o11,o12,o13,o14,o15] true).wp P Q a w:=xa1n (R:=[0,1,2,3,4,5,6,7,8,9,10,11,13]) (C:=[12,14,15]) (rs:=[o0,o1,o2,o3,o4,o5,o6,o7,o8,o9,o10,o11,o13]) (cs:=[o12,o14,o15]) hm hb rfl rfl hg hS h
end
section
open Go.RowKit Go.BigFrame
theorem RdC.tk {s:Nat} {w:World} {ao:Option Addr} {n c:Nat} {rows:List (List Value)} (h:RdC s w (.slice ao n c) rows) {m:Nat} (hm:m≤n):RdC s w (.slice ao m c) (rows.take m):=by
  obtain ⟨ao',len,cap,e,h1,h2,h3,h4⟩:=h
  cases e
  refine ⟨ao,m,c,rfl,by rw [List.length_take]; omega,by omega,h3,fun hp=>?_⟩
  obtain ⟨b,off,rfl,hc⟩:=h4 (by omega)
  exact ⟨b,off,rfl,fun i hi=>by rw [List.getElem_take]; exact hc i (by rw [List.length_take] at hi; omega)⟩
theorem RdC.dp {s:Nat} {w:World} {b off n c:Nat} {rows:List (List Value)} (h:RdC s w (.slice (some ⟨b,off,none⟩) n c) rows) {m:Nat} (hm:m≤n):RdC s w (.slice (some ⟨b,off + m * s,none⟩) (n - m) (c - m)) (rows.drop m):=by
  obtain ⟨ao',len,cap,e,h1,h2,h3,h4⟩:=h
  cases e
  refine ⟨_,n - m,c - m,rfl,by rw [List.length_drop]; omega,by omega,by omega,fun hp=>?_⟩
  obtain ⟨b',off',e,hc⟩:=h4 (by omega)
  cases e
  refine ⟨b,off + m * s,rfl,fun i hi=>?_⟩
  rw [List.getElem_drop,show off + m * s + i * s = off + (m + i) * s by rw [Nat.add_mul]; omega]
  exact hc (m + i) (by rw [List.length_drop] at hi; omega)
theorem ownsBase {w:World} {T s B C:Nat} {v:Value} {L:List (List (List Value))} (h:OwC T s B w v L) (hBC:C≤B):OwC T s C w v L:=by
  obtain ⟨h1,h2⟩:=h
  refine ⟨h1,?_⟩
  rcases h2 with h2 | ⟨g,cap,cur,hv,hg,r⟩
  · exact Or.inl h2
  · exact Or.inr ⟨g,cap,cur,hv,Nat.le_trans hBC hg,r⟩
set_option maxHeartbeats 1000000 in
theorem xa3o (b off n c fr to:Nat) (iv:Value) (rows its:List (List Value)) (w:World) (h:RdC 2 w (.slice (some ⟨b,off,none⟩) n c) rows) (hi:RdC 2 w iv its) (h1:fr≤n) (h2:to≤n) (hl:n≤10000000000) (hl2:its.length≤10000000000)
    (hs:∀ r∈rows,r.length = 2) (hone:∀ r∈rows,∀ u∈r,u.oneCell' = true) (hsi:∀ r∈its,r.length = 2) (honei:∀ r∈its,∀ u∈r,u.oneCell' = true) :
    Calls Tryz.prog 126 #[.slice (some ⟨b,off,none⟩) n c,.int .i64 fr,.int .i64 to,iv] w fun e w'=>∃ v',e = .returned v'∧OwC 33 2 w.heap.size w' v' [rows.take fr,its,rows.drop to]∧Kept [] w w':=by
  obtain ⟨ai,ni,ci,rfl,hi1,_⟩:=id hi
  subst hi1
  obtain ⟨_,_,_,e0,hr1,hr2,hr3,_⟩:=id h
  cases e0
  have q1:¬ c < fr:=by omega
  have q2:¬ n < to:=by omega
  have q3:fr≤c:=by omega
  have HR:=hide h
  have HI:=hide hi
  obtain ⟨o2,hcase⟩:∃ o2,(c = to∧o2 = off)∨(¬ c = to∧o2 = off + to * 2):=by
    by_cases hct:c = to
    · exact ⟨off,Or.inl ⟨hct,rfl⟩⟩
    · exact ⟨_,Or.inr ⟨hct,rfl⟩⟩
  have HD:=hide (by
    rcases hcase with ⟨hct,rfl⟩ | ⟨hct,rfl⟩
    · exact ⟨_,n - to,c - to,rfl,by rw [List.length_drop]; omega,by omega,by omega,fun hp=>by omega⟩
    · first | exact h.dp h2 | (have h9:=h.dp h2; rw [Nat.mul_one] at h9; exact h9):RdC 2 w (.slice (some ⟨b,o2,none⟩) (n - to) (c - to)) (rows.drop to))
  have HT:=hide (h.tk h1)
  have HCA:=hide hcase
  have HRL:=hide hr1
  clear h hi hcase hr1
  go_enter Tryz.func126,Tryz.ntmps126
  go_wp2
  refine ln_sp (by kernel_rfl) (by kernel_rfl) rfl (fun W=>Kept [] w W) (Kept.refl [] w).drew ?_
  refine LinY.mv (x:=.tmp 0) rfl (.slice (some ⟨b,off,none⟩) n c) rfl (by simp only [Act.put,sa1,sa2,sa3]; rfl) ?_
  refine LinY.mv (x:=.tmp 1) rfl (.int .i64 fr) rfl (by simp only [Act.put,sa1,sa2,sa3]; rfl) ?_
  refine LinY.rd (.slice (some ⟨b,off,none⟩) fr c) (fun W hW=>by go_simp) (by simp only [Act.put,sa1,sa2,sa3]; rfl) ?_
  refine LinY.mv (x:=.tmp 3) rfl (.slice ai its.length ci) rfl (by simp only [Act.put,sa1,sa2,sa3]; rfl) ?_
  refine LinY.mv (x:=.tmp 0) rfl (.slice (some ⟨b,off,none⟩) n c) rfl (by simp only [Act.put,sa1,sa2,sa3]; rfl) ?_
  refine LinY.mv (x:=.tmp 2) rfl (.int .i64 to) rfl (by simp only [Act.put,sa1,sa2,sa3]; rfl) ?_
  refine LinY.rd (.slice (some ⟨b,o2,none⟩) (n - to) (c - to)) (fun W hW=>by rcases uh HCA with ⟨h8,h9⟩ | ⟨h8,h9⟩ <;> (subst h9; go_simp)) (by simp only [Act.put,sa1,sa2,sa3]; rfl) ?_
  have hbs:Tryz.prog.underlying 232 = some (.slice 22):=Tryz.underlying232
  refine ChL.op (w':=w.drew.alloc (.cells #[.slice (some ⟨b,off,none⟩) fr c,.slice ai its.length ci,.slice (some ⟨b,o2,none⟩) (n - to) (c - to)] 22)) (.slice (some ⟨w.heap.size,0,none⟩) 3 3) (by go_simp; skip) (((Kept.refl [] w).drew).alloc _) (by simp only [Act.put,sa1,sa2,sa3]; rfl) ?_
  have HW1:=hide (((Kept.refl [] w).drew).alloc (.cells #[.slice (some ⟨b,off,none⟩) fr c,.slice ai its.length ci,.slice (some ⟨b,o2,none⟩) (n - to) (c - to)] 22))
  have HG1:=hide (show ∀ X,(w.drew.alloc X).heap[w.heap.size]? = some X from fun X=>heap_alloc_new w.drew X); have HG1:=hide (uh HG1 (.cells #[.slice (some ⟨b,off,none⟩) fr c,.slice ai its.length ci,.slice (some ⟨b,o2,none⟩) (n - to) (c - to)] 22))
  generalize w.drew.alloc (.cells #[.slice (some ⟨b,off,none⟩) fr c,.slice ai its.length ci,.slice (some ⟨b,o2,none⟩) (n - to) (c - to)] 22) = W1 at HW1 HG1 ⊢
  have hrm:RdMC 2 W1 (.slice (some ⟨w.heap.size,0,none⟩) 3 3) [rows.take fr,its,rows.drop to]:=by
    refine ⟨_,3,3,[.slice (some ⟨b,off,none⟩) fr c,.slice ai its.length ci,.slice (some ⟨b,o2,none⟩) (n - to) (c - to)],rfl,rfl,Nat.le_refl _,by omega,fun i hi=>?_,fun _=>⟨w.heap.size,0,rfl,fun i hi=>?_⟩⟩
    · match i,hi with
      | 0,_=>exact (uh HT).old (uh HW1)
      | 1,_=>exact (uh HI).old (uh HW1)
      | 2,_=>exact (uh HD).old (uh HW1)
    · rw [cell_of_row _ _ _ _ _ _ (uh HG1)]
      match i,hi with
      | 0,_=>rfl
      | 1,_=>rfl
      | 2,_=>rfl
  have hsz:∀ l∈[rows.take fr,its,rows.drop to],(∀ r∈l,r.length = 2)∧∀ r∈l,∀ u∈r,u.oneCell' = true:=by
    intro l hl
    simp only [List.mem_cons,List.not_mem_nil,or_false] at hl
    rcases hl with rfl | rfl | rfl
    · exact ⟨fun r hr=>hs r (List.mem_of_mem_take hr),fun r hr=>hone r (List.mem_of_mem_take hr)⟩
    · exact ⟨hsi,honei⟩
    · exact ⟨fun r hr=>hs r (List.mem_of_mem_drop hr),fun r hr=>hone r (List.mem_of_mem_drop hr)⟩
  refine ChL.call rfl Tryz.call156 [.slice (some ⟨w.heap.size,0,none⟩) 3 3] rfl (xa9p _ _ W1 hrm (fun l hl=>(hsz l hl).1) (fun l hl=>(hsz l hl).2) (by have:=uh HRL; simp; omega)) ?_
  rintro e w2 ⟨v',rfl,ho,k2⟩
  have hk2:=(uh HW1).trans k2 (by simp)
  have hsz1:=(uh HW1).size
  refine ⟨v',rfl,hk2,?_⟩
  simp only [Act.put,sa1,sa2,sa3]
  refine ChL.op v' (by go_simp) hk2 (by simp only [Act.put,sa1,sa2,sa3]; rfl) (ChL.fin ?_)
  go_wp2
  go_ret
  exact ⟨_,rfl,ownsBase ho hsz1,hk2⟩
set_option maxHeartbeats 1000000 in
theorem xa2l (b off n c fr to:Nat) (iv:Value) (rows its:List (List Value)) (w:World) (h:RdC 1 w (.slice (some ⟨b,off,none⟩) n c) rows) (hi:RdC 1 w iv its) (h1:fr≤n) (h2:to≤n) (hl:n≤10000000000) (hl2:its.length≤10000000000)
    (hs:∀ r∈rows,r.length = 1) (hone:∀ r∈rows,∀ u∈r,u.oneCell' = true) (hsi:∀ r∈its,r.length = 1) (honei:∀ r∈its,∀ u∈r,u.oneCell' = true) :
    Calls Tryz.prog 123 #[.slice (some ⟨b,off,none⟩) n c,.int .i64 fr,.int .i64 to,iv] w fun e w'=>∃ v',e = .returned v'∧OwC 95 1 w.heap.size w' v' [rows.take fr,its,rows.drop to]∧Kept [] w w':=by
  obtain ⟨ai,ni,ci,rfl,hi1,_⟩:=id hi
  subst hi1
  obtain ⟨_,_,_,e0,hr1,hr2,hr3,_⟩:=id h
  cases e0
  have q1:¬ c < fr:=by omega
  have q2:¬ n < to:=by omega
  have q3:fr≤c:=by omega
  have HR:=hide h
  have HI:=hide hi
  obtain ⟨o2,hcase⟩:∃ o2,(c = to∧o2 = off)∨(¬ c = to∧o2 = off + to ):=by
    by_cases hct:c = to
    · exact ⟨off,Or.inl ⟨hct,rfl⟩⟩
    · exact ⟨_,Or.inr ⟨hct,rfl⟩⟩
  have HD:=hide (by
    rcases hcase with ⟨hct,rfl⟩ | ⟨hct,rfl⟩
    · exact ⟨_,n - to,c - to,rfl,by rw [List.length_drop]; omega,by omega,by omega,fun hp=>by omega⟩
    · first | exact h.dp h2 | (have h9:=h.dp h2; rw [Nat.mul_one] at h9; exact h9):RdC 1 w (.slice (some ⟨b,o2,none⟩) (n - to) (c - to)) (rows.drop to))
  have HT:=hide (h.tk h1)
  have HCA:=hide hcase
  have HRL:=hide hr1
  clear h hi hcase hr1
  go_enter Tryz.func123,Tryz.ntmps123
  go_wp2
  refine ln_sp (by kernel_rfl) (by kernel_rfl) rfl (fun W=>Kept [] w W) (Kept.refl [] w).drew ?_
  refine LinY.mv (x:=.tmp 0) rfl (.slice (some ⟨b,off,none⟩) n c) rfl (by simp only [Act.put,sa1,sa2,sa3]; rfl) ?_
  refine LinY.mv (x:=.tmp 1) rfl (.int .i64 fr) rfl (by simp only [Act.put,sa1,sa2,sa3]; rfl) ?_
  refine LinY.rd (.slice (some ⟨b,off,none⟩) fr c) (fun W hW=>by go_simp) (by simp only [Act.put,sa1,sa2,sa3]; rfl) ?_
  refine LinY.mv (x:=.tmp 3) rfl (.slice ai its.length ci) rfl (by simp only [Act.put,sa1,sa2,sa3]; rfl) ?_
  refine LinY.mv (x:=.tmp 0) rfl (.slice (some ⟨b,off,none⟩) n c) rfl (by simp only [Act.put,sa1,sa2,sa3]; rfl) ?_
  refine LinY.mv (x:=.tmp 2) rfl (.int .i64 to) rfl (by simp only [Act.put,sa1,sa2,sa3]; rfl) ?_
  refine LinY.rd (.slice (some ⟨b,o2,none⟩) (n - to) (c - to)) (fun W hW=>by rcases uh HCA with ⟨h8,h9⟩ | ⟨h8,h9⟩ <;> (subst h9; go_simp)) (by simp only [Act.put,sa1,sa2,sa3]; rfl) ?_
  have hbs:Tryz.prog.underlying 229 = some (.slice 113):=Tryz.underlying229
  refine ChL.op (w':=w.drew.alloc (.cells #[.slice (some ⟨b,off,none⟩) fr c,.slice ai its.length ci,.slice (some ⟨b,o2,none⟩) (n - to) (c - to)] 113)) (.slice (some ⟨w.heap.size,0,none⟩) 3 3) (by go_simp; skip) (((Kept.refl [] w).drew).alloc _) (by simp only [Act.put,sa1,sa2,sa3]; rfl) ?_
  have HW1:=hide (((Kept.refl [] w).drew).alloc (.cells #[.slice (some ⟨b,off,none⟩) fr c,.slice ai its.length ci,.slice (some ⟨b,o2,none⟩) (n - to) (c - to)] 113))
  have HG1:=hide (show ∀ X,(w.drew.alloc X).heap[w.heap.size]? = some X from fun X=>heap_alloc_new w.drew X); have HG1:=hide (uh HG1 (.cells #[.slice (some ⟨b,off,none⟩) fr c,.slice ai its.length ci,.slice (some ⟨b,o2,none⟩) (n - to) (c - to)] 113))
  generalize w.drew.alloc (.cells #[.slice (some ⟨b,off,none⟩) fr c,.slice ai its.length ci,.slice (some ⟨b,o2,none⟩) (n - to) (c - to)] 113) = W1 at HW1 HG1 ⊢
  have hrm:RdMC 1 W1 (.slice (some ⟨w.heap.size,0,none⟩) 3 3) [rows.take fr,its,rows.drop to]:=by
    refine ⟨_,3,3,[.slice (some ⟨b,off,none⟩) fr c,.slice ai its.length ci,.slice (some ⟨b,o2,none⟩) (n - to) (c - to)],rfl,rfl,Nat.le_refl _,by omega,fun i hi=>?_,fun _=>⟨w.heap.size,0,rfl,fun i hi=>?_⟩⟩
    · match i,hi with
      | 0,_=>exact (uh HT).old (uh HW1)
      | 1,_=>exact (uh HI).old (uh HW1)
      | 2,_=>exact (uh HD).old (uh HW1)
    · rw [cell_of_row _ _ _ _ _ _ (uh HG1)]
      match i,hi with
      | 0,_=>rfl
      | 1,_=>rfl
      | 2,_=>rfl
  have hsz:∀ l∈[rows.take fr,its,rows.drop to],(∀ r∈l,r.length = 1)∧∀ r∈l,∀ u∈r,u.oneCell' = true:=by
    intro l hl
    simp only [List.mem_cons,List.not_mem_nil,or_false] at hl
    rcases hl with rfl | rfl | rfl
    · exact ⟨fun r hr=>hs r (List.mem_of_mem_take hr),fun r hr=>hone r (List.mem_of_mem_take hr)⟩
    · exact ⟨hsi,honei⟩
    · exact ⟨fun r hr=>hs r (List.mem_of_mem_drop hr),fun r hr=>hone r (List.mem_of_mem_drop hr)⟩
  refine ChL.call rfl Tryz.call154 [.slice (some ⟨w.heap.size,0,none⟩) 3 3] rfl (xa9i _ _ W1 hrm (fun l hl=>(hsz l hl).1) (fun l hl=>(hsz l hl).2) (by have:=uh HRL; simp; omega)) ?_
  rintro e w2 ⟨v',rfl,ho,k2⟩
  have hk2:=(uh HW1).trans k2 (by simp)
  have hsz1:=(uh HW1).size
  refine ⟨v',rfl,hk2,?_⟩
  simp only [Act.put,sa1,sa2,sa3]
  refine ChL.op v' (by go_simp) hk2 (by simp only [Act.put,sa1,sa2,sa3]; rfl) (ChL.fin ?_)
  go_wp2
  go_ret
  exact ⟨_,rfl,ownsBase ho hsz1,hk2⟩
def KidAt (S:Nat→Prop) (H:Hs) (W:World) (f:Nat) (v:Value) (L:Prs):Prop:=(L = []∧v = .nilIface)∨TreeAt S H W f v L
theorem KidAt.agr {S:Nat→Prop} {H:Hs} {W W':World} {f:Nat} {v:Value} {L:Prs} (h:KidAt S H W f v L) (a:Agr S W W'):KidAt S H W' f v L:=by
  rcases h with h | h
  · exact Or.inl h
  · exact Or.inr (h.agr a)
theorem xa5u {b i:Nat} (h:i≤16):rankB b (i:Int) = cnt b i:=by
  unfold rankB
  rw [if_neg (by omega)]
  by_cases h1:i≤15
  · rw [if_pos (by omega),Int.toNat_natCast]
  · rw [if_neg (by omega),show i = 16 by omega]
set_option maxHeartbeats 2000000 in
theorem xb8r (S:Nat→Prop) (H:Hs) (f g i:Nat) (L:Prs) (w:World) (h:TreeAt S H w (f + 1) (brV g) L) (hs:sgl H L = false) (hi:i < 16) :
    Calls Tryz.prog 119 #[.pointer (some ⟨g,0,none⟩),.int .i64 i] w fun e w'=>∃ v,e = .returned v∧KidAt S H w' f v (ch H (63 - f) i L)∧Kept [] w w':=by
  obtain ⟨g',kv,vs,e,hS,hh,hrow,hlen,hk⟩:=h.2 hs
  have eg:g' = g:=by injection e with _ e2; injection e2 with e3; injection e3 with e4; injection e4 with e5; exact e5.symm
  subst eg
  clear e
  obtain ⟨b0,b1,_⟩:=br_row hh
  have hbl:=bm_lt H (63 - f) L
  have hbit:=bm_bit (H:=H) (d:=63 - f) (L:=L) hi
  have hcl:=xa1k H (63 - f) L
  have hka:=kid_at (H:=H) (d:=63 - f) (L:=L) hi
  have hsa:=set_at (bm H (63 - f) L) hi
  generalize bm H (63 - f) L = x at b0 hbl hbit hcl hka hsa
  have HB0:=hide b0
  have HB1:=hide b1
  have hrk:=xa5u (b:=x) (i:=i) (by omega)
  have hhas:=xb0z x i (by omega)
  clear hh
  cases ht:x.testBit i with
  | false =>
    rw [ht] at hhas hbit
    have hne:ch H (63 - f) i L = []:=by simpa using hbit.symm
    rw [hne]
    clear hne hka hsa hbit hcl hk hrow hlen h hS b1
    go_enter Tryz.func119,Tryz.ntmps119
    go_wp2_with fail
    refine Calls.mono (xa6k x i w hbl (by omega)) ?_
    rintro e w1 ⟨rfl,k1⟩
    rw [hhas]
    go_wp2
    go_ret
    exact ⟨_,rfl,Or.inl ⟨rfl,rfl⟩,k1⟩
  | true =>
    rw [ht] at hhas
    have hk2:=hka ht
    have hcn:=(hsa ht).2
    rw [← hcl,← hlen] at hcn
    have hkc:=hk _ hcn
    have hch:(kidsL H (63 - f) L).getD (cnt x i) [] = ch H (63 - f) i L:=by rw [List.getD_eq_getElem?_getD,hk2]; rfl
    rw [hch] at hkc
    obtain ⟨b,off,cap,rfl,hc1,hc2,hSb,hc3⟩:=hrow
    have hcc:=hc3 _ hcn
    generalize vs.getD (cnt x i) undef = v at hkc hcc
    obtain ⟨c,hc⟩:∃ c,cnt x i = c:=⟨_,rfl⟩
    rw [hc] at hcn hcc hrk
    obtain ⟨n,hn⟩:∃ n,vs.length = n:=⟨_,rfl⟩
    rw [hn] at hcn hc1 HB1 b1
    have HCC:=hide hcc
    have HKC:=hide hkc
    have hcn':(c:Int) < n:=by omega
    clear hka hsa hbit hcl hk hc3 hk2 hch hc hn hlen hkc hcc
    go_enter Tryz.func119,Tryz.ntmps119
    go_wp2_with fail
    refine Calls.mono (xa6k x i w hbl (by omega)) ?_
    rintro e w1 ⟨rfl,k1⟩
    rw [hhas]
    have HK1:=hide k1
    clear k1 b0 b1
    go_upto_region 3 with fail
    refine ln_kid (by kernel_rfl) (by kernel_rfl) rfl (fun W=>Kept [] w W) (uh HK1).drew ?_
    refine LinY.mv (x:=.tmp 0) rfl (.pointer (some ⟨g',0,none⟩)) rfl (by simp only [Act.put,sa1,sa2,sa3]; rfl) ?_
    refine LinY.rd (.pointer (some ⟨g',0,none⟩)) (fun W hW=>by go_simp) (by simp only [Act.put,sa1,sa2,sa3]; rfl) ?_
    refine LinY.rd (.pointer (some ⟨g',1,none⟩)) (fun W hW=>by go_simp) (by simp only [Act.put,sa1,sa2,sa3]; rfl) ?_
    refine LinY.rd (.slice (some ⟨b,off,none⟩) n cap) (fun W hW=>by have h9:=hW.cell (uh HB1) (by simp); go_simp) (by simp only [Act.put,sa1,sa2,sa3]; rfl) ?_
    refine LinY.mv (x:=.tmp 0) rfl (.pointer (some ⟨g',0,none⟩)) rfl (by simp only [Act.put,sa1,sa2,sa3]; rfl) ?_
    refine LinY.rd (.pointer (some ⟨g',0,none⟩)) (fun W hW=>by go_simp) (by simp only [Act.put,sa1,sa2,sa3]; rfl) ?_
    refine LinY.rd (.pointer (some ⟨g',0,none⟩)) (fun W hW=>by go_simp) (by simp only [Act.put,sa1,sa2,sa3]; rfl) ?_
    refine LinY.rd (.int .u16 x) (fun W hW=>by have h9:=hW.cell (uh HB0) (by simp); go_simp) (by simp only [Act.put,sa1,sa2,sa3]; rfl) ?_
    refine LinY.mv (x:=.tmp 1) rfl (.int .i64 i) rfl (by simp only [Act.put,sa1,sa2,sa3]; rfl) ?_
    refine ChL.call rfl Tryz.call100 [.int .u16 x,.int .i64 i] rfl (xa3s x i _ hbl (by omega)) ?_
    rintro e w2 ⟨rfl,k2⟩
    have hk2:=((uh HK1).drew).trans k2 (by simp)
    refine ⟨_,rfl,hk2,?_⟩
    rw [hrk]
    simp only [Act.put,sa1,sa2,sa3]
    have h8:=hk2.cell (uh HCC) (by simp)
    refine ChL.op (.pointer (some ⟨b,off + c,none⟩)) (by go_simp) hk2 (by simp only [Act.put,sa1,sa2,sa3]; rfl) ?_
    refine ChL.op v (by go_simp) hk2 (by simp only [Act.put,sa1,sa2,sa3]; rfl) ?_
    refine ChL.op v (by go_simp) hk2 (by simp only [Act.put,sa1,sa2,sa3]; rfl) (ChL.fin ?_)
    go_wp2
    go_ret
    exact ⟨_,rfl,Or.inr ((uh HKC).agr (Agr.nil hk2)),hk2⟩
def A2 (R:Value→Prs→Prop) (vs:List Value) (Ls:List Prs):Prop:=vs.length = Ls.length∧∀ i,i < vs.length→R (vs.getD i undef) (Ls.getD i [])
theorem A2.nil (R:Value→Prs→Prop):A2 R [] []:=⟨rfl,fun i h=>by simp at h⟩
theorem A2.one {R:Value→Prs→Prop} {v:Value} {L:Prs} (h:R v L):A2 R [v] [L]:=⟨rfl,fun i hi=>by
  have:i = 0:=by simp at hi; omega
  subst this; exact h⟩
theorem A2.app {R:Value→Prs→Prop} {a b:List Value} {A B:List Prs} (h:A2 R a A) (k:A2 R b B):A2 R (a++b) (A++B):=by
  refine ⟨by rw [List.length_append,List.length_append,h.1,k.1],fun i hi=>?_⟩
  rw [List.length_append] at hi
  by_cases hlt:i < a.length
  · have h1:=h.2 i hlt
    rw [List.getD_eq_getElem?_getD,List.getElem?_append_left hlt,List.getD_eq_getElem?_getD,List.getElem?_append_left (by rw [← h.1]; exact hlt),← List.getD_eq_getElem?_getD,← List.getD_eq_getElem?_getD]
    exact h1
  · have h1:=k.2 (i - a.length) (by omega)
    rw [List.getD_eq_getElem?_getD,List.getElem?_append_right (by omega),List.getD_eq_getElem?_getD,List.getElem?_append_right (by rw [← h.1]; omega),← h.1,← List.getD_eq_getElem?_getD,← List.getD_eq_getElem?_getD]
    exact h1
theorem A2.tk {R:Value→Prs→Prop} {a:List Value} {A:List Prs} (h:A2 R a A) (m:Nat):A2 R (a.take m) (A.take m):=by
  refine ⟨by rw [List.length_take,List.length_take,h.1],fun i hi=>?_⟩
  rw [List.length_take] at hi
  have h1:=h.2 i (by omega)
  rw [List.getD_eq_getElem?_getD,List.getElem?_take_of_lt (by omega),List.getD_eq_getElem?_getD,List.getElem?_take_of_lt (by omega),← List.getD_eq_getElem?_getD,← List.getD_eq_getElem?_getD]
  exact h1
theorem A2.dp {R:Value→Prs→Prop} {a:List Value} {A:List Prs} (h:A2 R a A) (m:Nat):A2 R (a.drop m) (A.drop m):=by
  refine ⟨by rw [List.length_drop,List.length_drop,h.1],fun i hi=>?_⟩
  rw [List.length_drop] at hi
  have h1:=h.2 (m + i) (by omega)
  rw [List.getD_eq_getElem?_getD,List.getElem?_drop,List.getD_eq_getElem?_getD,List.getElem?_drop,← List.getD_eq_getElem?_getD,← List.getD_eq_getElem?_getD]
  exact h1
theorem A2.imp {R R':Value→Prs→Prop} {a:List Value} {A:List Prs} (h:A2 R a A) (hi:∀ v L,R v L→R' v L):A2 R' a A:=⟨h.1,fun i hl=>hi _ _ (h.2 i hl)⟩
def sing (v:Value):List Value:=[v]
theorem xb4w (l:List Value):(l.map sing).flatten = l:=by
  induction l with
  | nil=>rfl
  | cons v l ih=>rw [List.map_cons,List.flatten_cons,ih]; rfl
theorem SRow.rdC {S:Nat→Prop} {w:World} {v:Value} {vs:List Value} (h:SRow S w v vs):RdC 1 w v (vs.map sing):=by
  obtain ⟨b,off,cap,rfl,h1,h2,_,h4⟩:=h
  refine ⟨_,_,_,rfl,by rw [List.length_map],h1,h2,fun _=>⟨b,off,rfl,fun i hi j u hj=>?_⟩⟩
  rw [List.length_map] at hi
  rw [List.getElem_map] at hj
  have hj0:j = 0:=by
    have:=(List.getElem?_eq_some_iff.1 hj).1
    simp [sing] at this; omega
  subst hj0
  have h5:=h4 i hi
  rw [List.getD_eq_getElem?_getD,List.getElem?_eq_getElem hi,Option.getD_some] at h5
  rw [Nat.mul_one,Nat.add_zero,h5]
  exact hj
theorem xa7n {S:Nat→Prop} {w:World} {v:Value} {B:Nat} {a b c:List Value} (h:OwC 95 1 B w v [a.map sing,b.map sing,c.map sing]) (hn:0 < (a++(b++c)).length) (hl:(a++(b++c)).length≤1000000) (hS:∀ y,B≤y→S y):SRow S w v (a++(b++c)):=by
  unfold OwC at h
  have e1:[a.map sing,b.map sing,c.map sing].flatten.length = (a++(b++c)).length:=by simp
  have e2:[a.map sing,b.map sing,c.map sing].flatten.flatten = a++(b++c):=by
    simp only [List.flatten_cons,List.flatten_nil,List.append_nil,List.flatten_append,xb4w]
  rw [e1,e2] at h
  have h0:=h
  rcases h.2 with ⟨_,h9⟩ | ⟨g,cap,cur,rfl,hg,hh,hc,hm,_⟩
  · omega
  · refine ⟨g,0,cap,rfl,hc,by unfold maxLen at hm; omega,hS g hg,fun i hi=>?_⟩
    have h9:=h0.cells (g:=g) rfl i ((a++(b++c)).getD i undef) (by rw [List.getD_eq_getElem?_getD,List.getElem?_eq_getElem hi]; rfl)
    rw [Addr.add_lit] at h9
    exact h9
theorem xa8m {S:Nat→Prop} {k f:Nat} {W:World} {v:Value} {L:Prs} (h:TreeAt S (hsZ k) W f v L):v.oneCell' = true:=by
  rcases h.own with ⟨g,_,_,_,rfl,_⟩ | ⟨g,_,_,_,rfl,_⟩ <;> rfl
theorem xb8z {S:Nat→Prop} {k f:Nat} {W:World} {vs:List Value} {Ls:List Prs} (h:A2 (TreeAt S (hsZ k) W f) vs Ls):(∀ r∈vs.map sing,r.length = 1)∧∀ r∈vs.map sing,∀ u∈r,u.oneCell' = true:=by
  constructor
  · intro r hr
    obtain ⟨v,_,rfl⟩:=List.mem_map.1 hr
    rfl
  · intro r hr u hu
    obtain ⟨v,hv,rfl⟩:=List.mem_map.1 hr
    have:u = v:=by simpa [sing] using hu
    subst this
    obtain ⟨i,hi,rfl⟩:=List.getElem_of_mem hv
    have h1:=h.2 i hi
    rw [List.getD_eq_getElem?_getD,List.getElem?_eq_getElem hi,Option.getD_some] at h1
    exact xa8m h1
theorem en_bk (g:Nat) (w:World):(binOp .eql 95 (bkV g) .nilIface).run Tryz.prog w = .ok (.bool false) w:=by kernel_rfl
theorem en_br (g:Nat) (w:World):(binOp .eql 95 (brV g) .nilIface).run Tryz.prog w = .ok (.bool false) w:=by kernel_rfl
theorem eg_bk (g:Nat) (x y:Operand) (w:World):(eqGuard .eql 95 x y (bkV g) .nilIface).run Tryz.prog w = .ok () w:=by kernel_rfl
theorem eg_br (g:Nat) (x y:Operand) (w:World):(eqGuard .eql 95 x y (brV g) .nilIface).run Tryz.prog w = .ok () w:=by kernel_rfl
theorem en_nil (w:World):(binOp .eql 95 .nilIface .nilIface).run Tryz.prog w = .ok (.bool true) w:=by kernel_rfl
set_option maxHeartbeats 2000000 in
theorem xa9j (S:Nat→Prop) (k f g i:Nat) (L L':Prs) (nv:Value) (w:World) (hk:1≤k∧k≤32) (hS:∀ y,w.heap.size≤y→S y) (h:TreeAt S (hsZ k) w (f + 1) (brV g) L) (hs:sgl (hsZ k) L = false) (hi:i < 16)
    (hn:KidAt S (hsZ k) w f nv (ch (hsZ k) (63 - f) i L')) (hsw:∀ j,j < 16→j≠i→ch (hsZ k) (63 - f) j L' = ch (hsZ k) (63 - f) j L) (hne:L'≠[]) (hT:Tabs w) :
    Calls Tryz.prog 81 #[.pointer (some ⟨g,0,none⟩),.int .i64 k,.int .i64 i,nv] w fun e w'=>∃ v,e = .returned v∧TreeAt S (hsZ k) w' (f + 1) v L'∧Kept [] w w':=by
  obtain ⟨g',kv,vs,e,hSg,hh,hrow,hlen,hkd⟩:=h.2 hs
  have eg:g' = g:=by injection e with _ e2; injection e2 with e3; injection e3 with e4; injection e4 with e5; exact e5.symm
  subst eg
  clear e
  obtain ⟨b0,b1,_⟩:=br_row hh
  have hbs:=xb9k (H:=hsZ k) (d:=63 - f) hi hsw
  have hks:=xb3x (H:=hsZ k) (d:=63 - f) hi hsw
  have hbl:=bm_lt (hsZ k) (63 - f) L
  have hbd:=xb8i (bm (hsZ k) (63 - f) L) hi
  have hcl:=xa1k (hsZ k) (63 - f) L
  have hkp:=xa2u (hsZ_ok hk) (d:=63 - f) hne
  have hrk0:=xa5u (b:=bm (hsZ k) (63 - f) L) (i:=i) (by omega)
  have hrk1:=xa5u (b:=bm (hsZ k) (63 - f) L) (i:=i + 1) (by omega)
  rw [show ((i + 1:Nat):Int) = (i:Int) + 1 by omega] at hrk1
  have hA:A2 (TreeAt S (hsZ k) w f) vs (kidsL (hsZ k) (63 - f) L):=⟨hlen,hkd⟩
  rw [← hlen] at hcl
  have hwi:IntKind.i64.wrap ((i:Int) + 1) = (i:Int) + 1:=by simp [IntKind.wrap,IntKind.signed,IntKind.bits]; omega
  generalize bm (hsZ k) (63 - f) L = x at *
  generalize kidsL (hsZ k) (63 - f) L = Ks at *
  rw [← hcl] at hbd
  obtain ⟨c0,hc0⟩:∃ c,cnt x i = c:=⟨_,rfl⟩
  obtain ⟨c1,hc1⟩:∃ c,cnt x (i + 1) = c:=⟨_,rfl⟩
  rw [hc0] at hbd hks hrk0
  rw [hc1] at hbd hks hrk1
  have HB0:=hide b0
  have HB1:=hide b1
  have HBS:=hide hbs
  have HKS:=hide hks
  have HA:=hide hA
  have HRow:=hide hrow
  have HKP:=hide hkp
  have HTb:=hide hT
  have hcell:=xb8z hA
  have hrd:=hrow.rdC
  obtain ⟨b,off,cap,rfl,hcap1,hcap2,hSb,_⟩:=hrow
  obtain ⟨n,hnn⟩:∃ n,vs.length = n:=⟨_,rfl⟩
  rw [hnn] at hbd hcap1 HB1 hrd
  have HRD:=hide hrd
  have HN:=hide hnn
  have HCE:=hide hcell
  have hn16:n≤16:=by rw [← hnn,hcl]; exact cnt_le _ _
  clear hh hlen hkd hA hc0 hc1 hcl hbs hks b0 b1 hkp hT hrd hnn hcell h hs hsw
  go_enter Tryz.func81,Tryz.ntmps81
  go_wp2
  refine ln_wk (by kernel_rfl) (by kernel_rfl) rfl (fun W=>Kept [] w W) (Kept.refl [] w).drew ?_
  refine LinY.mv (x:=.tmp 0) rfl (.pointer (some ⟨g',0,none⟩)) rfl (by simp only [Act.put,sa1,sa2,sa3]; rfl) ?_
  refine LinY.rd (.pointer (some ⟨g',0,none⟩)) (fun W hW=>by go_simp) (by simp only [Act.put,sa1,sa2,sa3]; rfl) ?_
  refine LinY.rd (.pointer (some ⟨g',0,none⟩)) (fun W hW=>by go_simp) (by simp only [Act.put,sa1,sa2,sa3]; rfl) ?_
  refine LinY.rd (.int .u16 x) (fun W hW=>by have h9:=hW.cell (uh HB0) (by simp); go_simp) (by simp only [Act.put,sa1,sa2,sa3]; rfl) ?_
  refine LinY.mv (x:=.tmp 2) rfl (.int .i64 i) rfl (by simp only [Act.put,sa1,sa2,sa3]; rfl) ?_
  refine LinY.mv (x:=.tmp 0) rfl (.pointer (some ⟨g',0,none⟩)) rfl (by simp only [Act.put,sa1,sa2,sa3]; rfl) ?_
  refine LinY.rd (.pointer (some ⟨g',0,none⟩)) (fun W hW=>by go_simp) (by simp only [Act.put,sa1,sa2,sa3]; rfl) ?_
  refine LinY.rd (.pointer (some ⟨g',0,none⟩)) (fun W hW=>by go_simp) (by simp only [Act.put,sa1,sa2,sa3]; rfl) ?_
  refine LinY.rd (.int .u16 x) (fun W hW=>by have h9:=hW.cell (uh HB0) (by simp); go_simp) (by simp only [Act.put,sa1,sa2,sa3]; rfl) ?_
  refine LinY.mv (x:=.tmp 2) rfl (.int .i64 i) rfl (by simp only [Act.put,sa1,sa2,sa3]; rfl) ?_
  refine LinY.rd (.int .i64 ((i:Int) + 1)) (fun W hW=>by go_simp) (by simp only [Act.put,sa1,sa2,sa3]; rfl) ?_
  refine ChL.call rfl Tryz.call100 [.int .u16 x,.int .i64 i] rfl (xa3s x i _ hbl (by omega)) ?_
  rintro e w2 ⟨rfl,k2⟩
  have hk2:=((Kept.refl [] w).drew).trans k2 (by simp)
  refine ⟨_,rfl,hk2,?_⟩
  rw [hrk0]
  simp only [Act.put,sa1,sa2,sa3]
  refine ChL.call rfl Tryz.call100 [.int .u16 x,.int .i64 ((i:Int) + 1)] rfl (xa3s x ((i:Int) + 1) w2 hbl (by omega)) ?_
  rintro e w3 ⟨rfl,k3⟩
  have hk3:=hk2.trans k3 (by simp)
  refine ⟨_,rfl,hk3,?_⟩
  rw [hrk1]
  simp only [Act.put,sa1,sa2,sa3]
  refine ChL.op (.int .i64 c0) (by go_simp) hk3 (by simp only [Act.put,sa1,sa2,sa3]; rfl) ?_
  refine ChL.op (.int .i64 c1) (by go_simp) hk3 (by simp only [Act.put,sa1,sa2,sa3]; rfl) (ChL.fin ?_)
  have HK3:=hide hk3
  clear hk2 hk3 k2 k3
  have he1:=en_bk
  have he2:=en_br
  have he3:=en_nil
  rcases hn with ⟨hnil,rfl⟩ | hn
  · rw [hnil] at HBS HKS
    have hbo:=xb5u x (i:Int) hbl
    have HBO:=hide (by have h9:=uh HBS; simpa using h9:bm (hsZ k) (63 - f) L' = outB x (i:Int))
    have HKO:=hide (by have h9:=uh HKS; simpa using h9:kidsL (hsZ k) (63 - f) L' = Ks.take c0++([]++Ks.drop c1))
    have HAO:=hide (((uh HA).tk c0).app ((A2.nil _).app ((uh HA).dp c1)))
    clear HBS HKS
    go_upto_region 3 with fail
    refine ln_wo (by kernel_rfl) (by kernel_rfl) (by rfl) (fun W=>Kept [] w W) (uh HK3).drew ?_
    refine LinY.mv (x:=.tmp 1) rfl (.int .i64 k) rfl (by simp only [Act.put,sa1,sa2,sa3]; rfl) ?_
    refine LinY.mv (x:=.tmp 0) rfl (.pointer (some ⟨g',0,none⟩)) rfl (by simp only [Act.put,sa1,sa2,sa3]; rfl) ?_
    refine LinY.rd (.pointer (some ⟨g',0,none⟩)) (fun W hW=>by go_simp) (by simp only [Act.put,sa1,sa2,sa3]; rfl) ?_
    refine LinY.rd (.pointer (some ⟨g',0,none⟩)) (fun W hW=>by go_simp) (by simp only [Act.put,sa1,sa2,sa3]; rfl) ?_
    refine LinY.rd (.int .u16 x) (fun W hW=>by have h9:=hW.cell (uh HB0) (by simp); go_simp) (by simp only [Act.put,sa1,sa2,sa3]; rfl) ?_
    refine LinY.mv (x:=.tmp 2) rfl (.int .i64 i) rfl (by simp only [Act.put,sa1,sa2,sa3]; rfl) ?_
    refine LinY.mv (x:=.tmp 0) rfl (.pointer (some ⟨g',0,none⟩)) rfl (by simp only [Act.put,sa1,sa2,sa3]; rfl) ?_
    refine LinY.rd (.pointer (some ⟨g',0,none⟩)) (fun W hW=>by go_simp) (by simp only [Act.put,sa1,sa2,sa3]; rfl) ?_
    refine LinY.rd (.pointer (some ⟨g',1,none⟩)) (fun W hW=>by go_simp) (by simp only [Act.put,sa1,sa2,sa3]; rfl) ?_
    refine LinY.rd (.slice (some ⟨b,off,none⟩) n cap) (fun W hW=>by have h9:=hW.cell (uh HB1) (by simp); go_simp) (by simp only [Act.put,sa1,sa2,sa3]; rfl) ?_
    refine LinY.mv (x:=.tmp 9) rfl (.int .i64 c0) rfl (by simp only [Act.put,sa1,sa2,sa3]; rfl) ?_
    refine LinY.mv (x:=.tmp 10) rfl (.int .i64 c1) rfl (by simp only [Act.put,sa1,sa2,sa3]; rfl) ?_
    refine ChL.call rfl Tryz.call122 [.int .u16 x,.int .i64 i] rfl (xa9t x i _ hbl (by omega)) ?_
    rintro e w4 ⟨rfl,k4⟩
    have hk4:=((uh HK3).drew).trans k4 (by simp)
    refine ⟨_,rfl,hk4,?_⟩
    simp only [Act.put,sa1,sa2,sa3]
    refine ChL.call rfl Tryz.call123 [.slice (some ⟨b,off,none⟩) n cap,.int .i64 c0,.int .i64 c1,.slice none 0 0] rfl (xa2l b off n cap c0 c1 _ (vs.map sing) ([].map sing) w4 ((uh HRD).old hk4) (RdC.nil 1 w4) (by omega) (by omega) (by omega) (by simp) (uh HCE).1 (uh HCE).2 (by simp) (by simp)) ?_
    rintro e w5 ⟨v5,rfl,ho5,k5⟩
    have hk5:=hk4.trans k5 (by simp)
    refine ⟨v5,rfl,hk5,?_⟩
    rw [← List.map_take,← List.map_drop] at ho5
    have hl5:(vs.take c0++([]++vs.drop c1)).length = (kidsL (hsZ k) (63 - f) L').length:=by rw [uh HKO]; exact (uh HAO).1
    have hr5:=xa7n ho5 (by rw [hl5]; exact (uh HKP).1) (by rw [hl5]; have:=(uh HKP).2; omega) (fun y hy=>hS y (by have:=hk4.size; omega))
    simp only [Act.put,sa1,sa2,sa3]
    refine ChL.call rfl Tryz.call121 [.int .i64 k,.int .u16 (outB x (i:Int):Nat),v5] rfl (xa2d S k f (outB x (i:Int)) v5 _ L' w5 hk (fun y hy=>hS y (by have:=hk5.size; omega)) hne (uh HBO).symm hr5 hl5 (by rw [uh HKO]; exact ((uh HAO).imp (fun v L h=>h.agr (Agr.nil hk5))).2) ((uh HTb).k hk5)) ?_
    rintro e w6 ⟨v6,rfl,ht6,k6⟩
    have hk6:=hk5.trans k6 (by simp)
    refine ⟨v6,rfl,hk6,?_⟩
    simp only [Act.put,sa1,sa2,sa3]
    refine ChL.op v6 (by go_simp) hk6 (by simp only [Act.put,sa1,sa2,sa3]; rfl) (ChL.fin ?_)
    go_wp2
    go_ret
    exact ⟨_,rfl,ht6,hk6⟩
  · have hnn2:=hn.ne
    have hie:(ch (hsZ k) (63 - f) i L').isEmpty = false:=by simpa using hnn2
    have hbo:=xa2w x (i:Int) hbl
    have HBO:=hide (by have h9:=uh HBS; rw [hie] at h9; simpa using h9:bm (hsZ k) (63 - f) L' = withB x (i:Int))
    have HKO:=hide (by have h9:=uh HKS; rw [hie] at h9; simpa using h9:kidsL (hsZ k) (63 - f) L' = Ks.take c0++([ch (hsZ k) (63 - f) i L']++Ks.drop c1))
    have HAO:=hide (((uh HA).tk c0).app ((A2.one hn).app ((uh HA).dp c1)))
    have hnc:=xa8m hn
    clear HBS HKS hnn2 hie
    have hty:(∃ q,nv = bkV q)∨∃ q,nv = brV q:=by
      rcases hn.own with ⟨q,_,_,_,e,_⟩ | ⟨q,_,_,_,e,_⟩
      · exact Or.inl ⟨q,e⟩
      · exact Or.inr ⟨q,e⟩
    clear hn
    have hee:∀ W,(binOp .eql 95 nv .nilIface).run Tryz.prog W = .ok (.bool false) W:=by
      rcases hty with ⟨q,rfl⟩ | ⟨q,rfl⟩
      · exact he1 q
      · exact he2 q
    have heg:∀ W,(eqGuard .eql 95 (.tmp 24) (.const .nilIface) nv .nilIface).run Tryz.prog W = .ok () W:=by
      rcases hty with ⟨q,rfl⟩ | ⟨q,rfl⟩
      · exact eg_bk q _ _
      · exact eg_br q _ _
    have hif:∃ t p,nv = .iface t p:=by
      rcases hty with ⟨q,rfl⟩ | ⟨q,rfl⟩ <;> exact ⟨_,_,rfl⟩
    clear hty
    obtain ⟨ti,tp,rfl⟩:=hif
    go_upto_region 4 with fail
    refine ln_wn (by kernel_rfl) (by kernel_rfl) (by rfl) (fun W=>Kept [] w W) (uh HK3).drew ?_
    refine LinY.mv (x:=.tmp 1) rfl (.int .i64 k) rfl (by simp only [Act.put,sa1,sa2,sa3]; rfl) ?_
    refine LinY.mv (x:=.tmp 0) rfl (.pointer (some ⟨g',0,none⟩)) rfl (by simp only [Act.put,sa1,sa2,sa3]; rfl) ?_
    refine LinY.rd (.pointer (some ⟨g',0,none⟩)) (fun W hW=>by go_simp) (by simp only [Act.put,sa1,sa2,sa3]; rfl) ?_
    refine LinY.rd (.pointer (some ⟨g',0,none⟩)) (fun W hW=>by go_simp) (by simp only [Act.put,sa1,sa2,sa3]; rfl) ?_
    refine LinY.rd (.int .u16 x) (fun W hW=>by have h9:=hW.cell (uh HB0) (by simp); go_simp) (by simp only [Act.put,sa1,sa2,sa3]; rfl) ?_
    refine LinY.mv (x:=.tmp 2) rfl (.int .i64 i) rfl (by simp only [Act.put,sa1,sa2,sa3]; rfl) ?_
    refine LinY.mv (x:=.tmp 0) rfl (.pointer (some ⟨g',0,none⟩)) rfl (by simp only [Act.put,sa1,sa2,sa3]; rfl) ?_
    refine LinY.rd (.pointer (some ⟨g',0,none⟩)) (fun W hW=>by go_simp) (by simp only [Act.put,sa1,sa2,sa3]; rfl) ?_
    refine LinY.rd (.pointer (some ⟨g',1,none⟩)) (fun W hW=>by go_simp) (by simp only [Act.put,sa1,sa2,sa3]; rfl) ?_
    refine LinY.rd (.slice (some ⟨b,off,none⟩) n cap) (fun W hW=>by have h9:=hW.cell (uh HB1) (by simp); go_simp) (by simp only [Act.put,sa1,sa2,sa3]; rfl) ?_
    refine LinY.mv (x:=.tmp 9) rfl (.int .i64 c0) rfl (by simp only [Act.put,sa1,sa2,sa3]; rfl) ?_
    refine LinY.mv (x:=.tmp 10) rfl (.int .i64 c1) rfl (by simp only [Act.put,sa1,sa2,sa3]; rfl) ?_
    refine LinY.mv (x:=.tmp 3) rfl (.iface ti tp) rfl (by simp only [Act.put,sa1,sa2,sa3]; rfl) ?_
    have key:∀ X,Kept [] w X→∀ q,X.heap[q]? = some (.cells #[(.iface ti tp)] 95 (0,0))→RdC 1 X (.slice (some ⟨q,0,none⟩) 1 1) ([Value.iface ti tp].map sing):=fun X hX q hq=>by
      refine ⟨_,1,1,rfl,rfl,Nat.le_refl _,by omega,fun _=>⟨q,0,rfl,fun j hj t u hu=>?_⟩⟩
      have hj0:j = 0:=by simp at hj; exact hj
      subst hj0
      have ht0:t = 0:=by
        have:=(List.getElem?_eq_some_iff.1 hu).1
        simp [sing] at this; omega
      subst ht0
      rw [cell_of_row _ _ _ _ _ _ hq]
      simpa [sing] using hu
    refine ⟨?_,?_⟩
    · refine ChL.call rfl Tryz.call124 [.int .u16 x,.int .i64 i] rfl (xa4c x i _ hbl (by omega)) ?_
      rintro e w4 ⟨rfl,k4⟩
      have hk4:=((uh HK3).drew).trans k4 (by simp)
      refine ⟨_,rfl,hk4,?_⟩
      simp only [Act.put,sa1,sa2,sa3]
      refine ChL.op (w':=w4.alloc (.cells #[(.iface ti tp)] 95)) (.slice (some ⟨w4.heap.size,0,none⟩) 1 1) (by go_simp) (hk4.alloc _) (by simp only [Act.put,sa1,sa2,sa3]; rfl) ?_
      have HKX:=hide (hk4.alloc (.cells #[(.iface ti tp)] 95))
      have HQ:=hide (key _ (uh HKX) _ (heap_alloc_new w4 (.cells #[(.iface ti tp)] 95)))
      clear key hk4 k4
      generalize w4.alloc (.cells #[(.iface ti tp)] 95) = X at HKX HQ ⊢
      generalize w4.heap.size = q at HQ ⊢
      try simp only [Act.put,sa1,sa2,sa3]
      refine ChL.call rfl Tryz.call123 [.slice (some ⟨b,off,none⟩) n cap,.int .i64 c0,.int .i64 c1,.slice (some ⟨q,0,none⟩) 1 1] rfl (xa2l b off n cap c0 c1 _ (vs.map sing) ([Value.iface ti tp].map sing) X ((uh HRD).old (uh HKX)) (uh HQ) (by omega) (by omega) (by omega) (by simp) (uh HCE).1 (uh HCE).2 (by simp [sing]) (by simp [sing,hnc])) ?_
      rintro e w5 ⟨v5,rfl,ho5,k5⟩
      have hk5:=(uh HKX).trans k5 (by simp)
      refine ⟨v5,rfl,hk5,?_⟩
      rw [← List.map_take,← List.map_drop] at ho5
      have hl5:(vs.take c0++([Value.iface ti tp]++vs.drop c1)).length = (kidsL (hsZ k) (63 - f) L').length:=by rw [uh HKO]; exact (uh HAO).1
      have hr5:=xa7n ho5 (by rw [hl5]; exact (uh HKP).1) (by rw [hl5]; have:=(uh HKP).2; omega) (fun y hy=>hS y (by have:=(uh HKX).size; omega))
      simp only [Act.put,sa1,sa2,sa3]
      refine ChL.call rfl Tryz.call121 [.int .i64 k,.int .u16 (withB x (i:Int):Nat),v5] rfl (xa2d S k f (withB x (i:Int)) v5 _ L' w5 hk (fun y hy=>hS y (by have:=hk5.size; omega)) hne (uh HBO).symm hr5 hl5 (by rw [uh HKO]; exact ((uh HAO).imp (fun v L h=>h.agr (Agr.nil hk5))).2) ((uh HTb).k hk5)) ?_
      rintro e w6 ⟨v6,rfl,ht6,k6⟩
      have hk6:=hk5.trans k6 (by simp)
      refine ⟨v6,rfl,hk6,?_⟩
      simp only [Act.put,sa1,sa2,sa3]
      refine ChL.op v6 (by go_simp) hk6 (by simp only [Act.put,sa1,sa2,sa3]; rfl) (ChL.fin ?_)
      go_wp2
      go_ret
      exact ⟨_,rfl,ht6,hk6⟩
    · refine ChL.op (w':=w3.drew.alloc (.cells #[(.iface ti tp)] 95)) (.slice (some ⟨w3.heap.size,0,none⟩) 1 1) (by go_simp) (((uh HK3).drew).alloc _) (by simp only [Act.put,sa1,sa2,sa3]; rfl) ?_
      have hka:=((uh HK3).drew).alloc (.cells #[(.iface ti tp)] 95)
      have hqa:(w3.drew.alloc (.cells #[(.iface ti tp)] 95)).heap[w3.heap.size]? = some (.cells #[(.iface ti tp)] 95 (0,0)):=heap_alloc_new w3.drew _
      generalize w3.drew.alloc (.cells #[(.iface ti tp)] 95) = X0 at hka hqa ⊢
      refine ChL.call rfl Tryz.call124 [.int .u16 x,.int .i64 i] rfl (xa4c x i _ hbl (by omega)) ?_
      rintro e X ⟨rfl,k4⟩
      have HKX:=hide (hka.trans k4 (by simp))
      have HQ:=hide (key _ (uh HKX) _ (k4.heap hqa (by simp)))
      refine ⟨_,rfl,uh HKX,?_⟩
      clear key hka hqa k4
      generalize w3.heap.size = q at HQ ⊢
      try simp only [Act.put,sa1,sa2,sa3]
      refine ChL.call rfl Tryz.call123 [.slice (some ⟨b,off,none⟩) n cap,.int .i64 c0,.int .i64 c1,.slice (some ⟨q,0,none⟩) 1 1] rfl (xa2l b off n cap c0 c1 _ (vs.map sing) ([Value.iface ti tp].map sing) X ((uh HRD).old (uh HKX)) (uh HQ) (by omega) (by omega) (by omega) (by simp) (uh HCE).1 (uh HCE).2 (by simp [sing]) (by simp [sing,hnc])) ?_
      rintro e w5 ⟨v5,rfl,ho5,k5⟩
      have hk5:=(uh HKX).trans k5 (by simp)
      refine ⟨v5,rfl,hk5,?_⟩
      rw [← List.map_take,← List.map_drop] at ho5
      have hl5:(vs.take c0++([Value.iface ti tp]++vs.drop c1)).length = (kidsL (hsZ k) (63 - f) L').length:=by rw [uh HKO]; exact (uh HAO).1
      have hr5:=xa7n ho5 (by rw [hl5]; exact (uh HKP).1) (by rw [hl5]; have:=(uh HKP).2; omega) (fun y hy=>hS y (by have:=(uh HKX).size; omega))
      simp only [Act.put,sa1,sa2,sa3]
      refine ChL.call rfl Tryz.call121 [.int .i64 k,.int .u16 (withB x (i:Int):Nat),v5] rfl (xa2d S k f (withB x (i:Int)) v5 _ L' w5 hk (fun y hy=>hS y (by have:=hk5.size; omega)) hne (uh HBO).symm hr5 hl5 (by rw [uh HKO]; exact ((uh HAO).imp (fun v L h=>h.agr (Agr.nil hk5))).2) ((uh HTb).k hk5)) ?_
      rintro e w6 ⟨v6,rfl,ht6,k6⟩
      have hk6:=hk5.trans k6 (by simp)
      refine ⟨v6,rfl,hk6,?_⟩
      simp only [Act.put,sa1,sa2,sa3]
      refine ChL.op v6 (by go_simp) hk6 (by simp only [Act.put,sa1,sa2,sa3]; rfl) (ChL.fin ?_)
      go_wp2
      go_ret
      exact ⟨_,rfl,ht6,hk6⟩
set_option maxHeartbeats 1000000 in
theorem xb2h (kv vv uv:Value) (a b:List Nat) (w:World) (ha:Rd w kv a) (hb:Rd w uv b) :
    Calls Tryz.prog 153 #[.agg #[kv,vv],uv] w fun e w'=>e = .returned (.int .i64 (ordL a b))∧Kept [] w w':=by
  have HK:=hide ((Kept.refl [] w).alloc (.cells #[kv,vv] 33))
  have HG:=hide (heap_alloc_new w (.cells #[kv,vv] 33))
  have c0:=cell_of_row _ _ 0 _ _ _ (uh HG)
  go_enter Tryz.func153,Tryz.ntmps153
  go_wp2_with fail
  refine Calls.mono (xb1z kv uv a b _ (ha.old (uh HK) (by simp)) (hb.old (uh HK) (by simp))) ?_
  rintro e w1 ⟨rfl,rfl⟩
  go_wp2
  go_ret
  exact ⟨rfl,uh HK⟩
theorem RdK.at {w:World} {ao:Option Addr} {n c:Nat} {L:Prs} (h:RdK w (.slice ao n c) L) {i:Nat} (hi:i < n):∃ b off x y,ao = some ⟨b,off,none⟩∧Rd w x (L.getD i ([],[])).1∧Rd w y (L.getD i ([],[])).2∧w.cell? ⟨b,off + i * 2,none⟩ = some x∧w.cell? ⟨b,off + i * 2 + 1,none⟩ = some y:=by
  obtain ⟨ao',len,cap,vs,us,e,h1,h2,h3,h4,h5⟩:=h
  cases e
  obtain ⟨b,off,rfl,hc⟩:=h5 (by omega)
  exact ⟨b,off,_,_,rfl,(h4 i hi).1,(h4 i hi).2,(hc i hi).1,(hc i hi).2⟩
set_option maxHeartbeats 2000000 in
theorem xa9q (ao:Option Addr) (n c:Nat) (L:Prs) (uv:Value) (key:List Nat) (w:World) (h:RdK w (.slice ao n c) L) (hu:Rd w uv key) (hr:Rise L) (hn:n≤1000000000) :
    Calls Tryz.prog 152 #[.slice ao n c,uv,.func (.func 153) #[] #[]] w fun e w'=>e = .returned (.tuple #[.int .i64 (plc key L),.bool (fnd key L)])∧Kept [] w w':=by
  obtain ⟨_,_,_,_,_,e0,hlen,_⟩:=id h
  cases e0
  have hple:=plc_le key L
  have hlt:∀ i,i < plc key L→ordL (L.getD i ([],[])).1 key < 0:=plc_lt key L
  have hge:∀ i,plc key L≤i→i < n→0≤ordL (L.getD i ([],[])).1 key:=fun i h1 h2=>plc_ge hr i h1 (by omega)
  have hfn:=fnd_at (k:=key) hr
  rw [hlen] at hple hfn
  generalize plc key L = p at *
  generalize fnd key L = fd at *
  have HL:=hide hlen
  have HLT:=hide hlt
  have HGE:=hide hge
  have HFN:=hide hfn
  have HR:=hide h
  have HU:=hide hu
  clear hlen hlt hge hfn h hu hr
  obtain ⟨ua,un,uc,rfl,_⟩:=id (uh HU)
  go_enter Tryz.func152,Tryz.ntmps152
  go_wp2
  go_loopw [9,10] (fun t9 t10 wr=>∃ (i j:Nat),t9 = .int .i64 i∧t10 = .int .i64 j∧i≤p∧p≤j∧j≤n∧Hid (Kept [] w wr)) (fun t9 t10 _=>(intOf t10).toNat - (intOf t9).toNat)
  case atStart=>exact ⟨0,n,rfl,rfl,Nat.zero_le _,hple,Nat.le_refl _,hide (Kept.refl [] w)⟩
  case round =>
    obtain ⟨i,j,rfl,rfl,h1,h2,h3,HK⟩:=hrel
    by_cases hlt:i < j
    · have hlt':(i:Int) < j:=by omega
      obtain ⟨m,hm⟩:∃ m,m = (i + j) / 2:=⟨_,rfl⟩
      have hmm:((i:Int) + (j:Int)) / 2 = (m:Int):=by omega
      have him:i≤m:=by omega
      have hmj:m < j:=by omega
      clear hm
      have hmn:(m:Int) < n:=by omega
      obtain ⟨b,off,x,y,rfl,rx,ry,cx,cy⟩:=((uh HR).old (uh HK)).at (i:=m) (by omega)
      have HX:=hide rx
      have hcm:=uh HLT m
      have hcg:=uh HGE m
      have HU1:=hide ((uh HU).old (uh HK) (by simp))
      generalize (L.getD m ([],[])).1 = Lm at hcm hcg HX
      clear rx ry
      go_wp2_with fail
      refine Calls.mono (xb2h x y _ Lm key wr (uh HX) (uh HU1)) ?_
      rintro e w1 ⟨rfl,k1⟩
      have HK1:=hide ((uh HK).trans k1 (by simp))
      clear k1 HX HU1
      generalize ordL Lm key = q at hcm hcg ⊢
      by_cases hq:q < 0
      · have hmp:m < p:=by
          rcases Nat.lt_or_ge m p with h9 | h9
          · exact h9
          · have:=hcg h9 (by omega); omega
        clear hcm hcg
        go_wp2
        refine ⟨⟨m + 1,j,by go_num,rfl,hmp,h2,h3,HK1⟩,?_⟩
        simp [intOf]; omega
      · have hmp:p≤m:=by
          rcases Nat.lt_or_ge m p with h9 | h9
          · have:=hcm h9; omega
          · exact h9
        clear hcm hcg
        go_wp2
        refine ⟨⟨i,m,rfl,by go_num,h1,hmp,by omega,HK1⟩,?_⟩
        simp [intOf]; omega
    · have hlt':¬ (i:Int) < j:=by omega
      have hip:i = p:=by omega
      subst hip
      by_cases hpn:i < n
      · have hpn':(i:Int) < n:=by omega
        obtain ⟨b,off,x,y,rfl,rx,ry,cx,cy⟩:=((uh HR).old (uh HK)).at (i:=i) hpn
        have HX:=hide rx
        have HU1:=hide ((uh HU).old (uh HK) (by simp))
        have hfd:(ordL (L.getD i ([],[])).1 key == 0) = fd:=by
          have h9:=uh HFN
          rw [Bool.eq_iff_iff,h9,beq_iff_eq]
          constructor
          · intro e; exact ⟨hpn,xa1t e⟩
          · rintro ⟨_,e⟩; rw [e,xa0w]
        have HFD:=hide hfd
        generalize (L.getD i ([],[])).1 = Lm at HX HFD
        clear rx ry hfd
        go_wp2_with fail
        refine Calls.mono (xb2h x y _ Lm key wr (uh HX) (uh HU1)) ?_
        rintro e w1 ⟨rfl,k1⟩
        have HK1:=hide ((uh HK).trans k1 (by simp))
        clear k1 HX HU1
        go_wp2
        go_ret2
        exact ⟨by rw [← uh HFD]; first | rfl | (simp; done),uh HK1⟩
      · have hpn':¬ (i:Int) < n:=by omega
        have hfd:fd = false:=by
          cases h9:fd with
          | false=>rfl
          | true=>have:=(uh HFN).1 h9; omega
        subst hfd
        go_wp2
        go_ret2
        exact ⟨rfl,uh HK⟩
set_option maxHeartbeats 1000000 in
theorem xb3n (S:Nat→Prop) (H:Hs) (g:Nat) (L:Prs) (uv:Value) (key:List Nat) (w:World) (h:BkAt S H w g L) (hD:(H.kd (L.headD ([],[])).1).length = 32) (hu:Rd w uv key) (hr:Rise L) (hn:L.length≤1000000000) :
    Calls Tryz.prog 120 #[.pointer (some ⟨g,0,none⟩),uv] w fun e w'=>e = .returned (.tuple #[.int .i64 (plc key L),.bool (fnd key L)])∧Kept [] w w':=by
  obtain ⟨pv,_,hh,_,hst⟩:=h
  have hk:=hst.rdK
  have c1:=(bk_row hh hD).2.1
  obtain ⟨ao,n,c,vs,us,rfl,hl,_⟩:=id hk
  have HK:=hide hk
  have HL:=hide hl
  clear hst hh hk hl
  go_enter Tryz.func120,Tryz.ntmps120
  go_wp2_with fail
  refine Calls.mono (xa9q ao n c L uv key w (uh HK) hu hr (by rw [← uh HL]; exact hn)) ?_
  rintro e w1 ⟨rfl,k1⟩
  go_wp2
  go_ret2
  exact ⟨rfl,k1⟩
theorem xb7b {w:World} {g:Nat} {t:TypeId} {l:List Value} (h:w.heap[g]? = some (.cells l.toArray t (0,0))) (hl:l.length≤1000000):RdC 1 w (.slice (some ⟨g,0,none⟩) l.length l.length) (l.map sing):=by
  refine ⟨_,_,_,rfl,by rw [List.length_map],Nat.le_refl _,by omega,fun _=>⟨g,0,rfl,fun i hi j u hj=>?_⟩⟩
  rw [List.length_map] at hi
  rw [List.getElem_map] at hj
  have hj0:j = 0:=by
    have:=(List.getElem?_eq_some_iff.1 hj).1
    simp [sing] at this; omega
  subst hj0
  rw [cell_of_row _ _ _ _ _ _ h,List.getElem?_toArray]
  rw [Nat.mul_one,Nat.add_zero,Nat.zero_add,List.getElem?_eq_getElem hi]
  simpa [sing] using hj
theorem xb1f {S:Nat→Prop} {w:World} {g:Nat} {t:TypeId} {l:List Value} (h:w.heap[g]? = some (.cells l.toArray t (0,0))) (hl:l.length≤1000000) (hS:S g):SRow S w (.slice (some ⟨g,0,none⟩) l.length l.length) l :=
  ⟨g,0,l.length,rfl,Nat.le_refl _,by omega,hS,fun i hi=>by
    rw [cell_of_row _ _ _ _ _ _ h,List.getElem?_toArray,Nat.zero_add,List.getElem?_eq_getElem hi,List.getD_eq_getElem?_getD,List.getElem?_eq_getElem hi]; rfl⟩
structure Fk (H:Hs) (part:Nat) (M P1 P2:Prs) (D1 D2:List Nat):Prop where
  kids:kidsL H part M = [P1,P2]
  bm:withB (withB 0 (dgt D1 part:Int)) (dgt D2 part:Int) = bm H part M
  dig:∀ e,e < part→∀ y∈M,dgt (H.kd y.1) e = dgt D1 e
theorem Fork.fst {H:Hs} (hH:H.Ok) {part:Nat} {k v:List Nat} {A:Prs} {DA:List Nat} (h:Fork H part k v A DA) (g:dgt DA part < dgt (H.kd k) part):Fk H part (insP H k v A) A [(k,v)] DA (H.kd k) :=
  ⟨by rw [h.kids hH,if_pos g],h.bms hH _ _ (Or.inl ⟨rfl,rfl⟩),fun e he y hy=>h.dig he y hy⟩
theorem Fork.snd {H:Hs} (hH:H.Ok) {part:Nat} {k v:List Nat} {A:Prs} {DA:List Nat} (h:Fork H part k v A DA) (g:¬ dgt DA part < dgt (H.kd k) part):Fk H part (insP H k v A) [(k,v)] A (H.kd k) DA :=
  ⟨by rw [h.kids hH,if_neg g],h.bms hH _ _ (Or.inr ⟨rfl,rfl⟩),fun e he y hy=>by rw [h.dig he y hy,h.pre e he]⟩
set_option maxHeartbeats 4000000 in
theorem xb0l (S:Nat→Prop) (k dep part ga gb:Nat) (A:Prs) (q v DA:List Nat) (w:World) (hk:1≤k∧k≤32) (hS:∀ y,w.heap.size≤y→S y) (hF:Fork (hsZ k) part q v A DA) (hdp:dep≤part)
    (ha:BkAt S (hsZ k) w ga A) (hb:BkAt S (hsZ k) w gb [(q,v)]) (hT:Tabs w) :
    Calls Tryz.prog 85 #[.int .i64 k,.int .i64 dep,.pointer (some ⟨ga,0,none⟩),.pointer (some ⟨gb,0,none⟩)] w fun e w'=>∃ t,e = .returned t∧TreeAt S (hsZ k) w' (64 - dep) t (insP (hsZ k) q v A)∧Kept [] w w':=by
  have hH:=hsZ_ok hk
  obtain ⟨DB,hDB⟩:∃ DB,(hsZ k).kd q = DB:=⟨_,rfl⟩
  have hDBg:Dg DB:=by rw [← hDB]; exact hH.dg q
  have hDAg:=hF.dga
  have hfA:formB (k:Int) DA = true:=by
    cases hA:A with
    | nil=>exact absurd hA hF.ne
    | cons y _=>rw [← hF.all y (by rw [hA]; simp)]; exact xa8i hk _
  have hfB:formB (k:Int) DB = true:=by rw [← hDB]; exact xa8i hk _
  have hdeep:=hF.deep
  have hdeep2:part < 2 * k:=hdeep
  have hpre:=hF.pre
  have hpne:=hF.pne
  rw [hDB] at hpre hpne
  have hcom:comL DA DB (2 * k) 0 = part:=by
    obtain ⟨_,s2,s3,s4⟩:=xa4x DA DB (2 * k) 0
    rcases Nat.lt_trichotomy (comL DA DB (2 * k) 0) part with g | g | g
    · exact absurd (hpre _ g) (s4 (by omega))
    · exact g
    · exact absurd (s3 part (by omega) g) hpne
  have hfe:formedE (k:Int) [DA,DB] = 0:=xb2x hk (by simp [hfA,hfB])
  have hcC:comC (k:Int) DA DB = part:=by unfold comC; rw [if_pos hfe,Int.toNat_natCast,hcom]
  have hoC:ordC (k:Int) DA DB = ordL DA DB:=by unfold ordC; rw [if_pos hfe]
  have hord:=xb8j hDAg hDBg (c:=part) (by omega) hpre hpne
  have hdA:=dgt_lt hDAg.2 part
  have hdB:=dgt_lt hDBg.2 part
  have hsM:=hF.two
  have hnM:insP (hsZ k) q v A≠[]:=ins_ne
  have hpreM:∀ e,e≤part→Pre (hsZ k) e (insP (hsZ k) q v A):=fun e he=>hF.on he
  have hsA:sgl (hsZ k) A = true:=xa2i.2 (fun x hx y hy=>by rw [hF.all x hx,hF.all y hy])
  have hsB:sgl (hsZ k) [(q,v)] = true:=xa2i.2 (fun x hx y hy=>by simp at hx hy; rw [hx,hy])
  have hkA:(hsZ k).kd (A.headD ([],[])).1 = DA:=by
    cases hA:A with
    | nil=>exact absurd hA hF.ne
    | cons y _=>exact hF.all y (by rw [hA]; simp)
  have hfst:=hF.fst hH
  have hsnd:=hF.snd hH
  rw [hDB] at hfst hsnd
  have HBA:=hide ha
  have HBB:=hide hb
  obtain ⟨pva,_,hha,_,_⟩:=ha
  obtain ⟨pvb,_,hhb,_,_⟩:=hb
  rw [hkA] at hha
  have hkB:(hsZ k).kd (([(q,v)]:Prs).headD ([],[])).1 = DB:=hDB
  rw [hkB] at hhb
  have HRA:=hide (bk_row hha hDAg.1).1
  have HRB:=hide (bk_row hhb hDBg.1).1
  have HTb:=hide hT
  generalize insP (hsZ k) q v A = M at *
  have HCc:=hide hcC
  have HOc:=hide hoC
  have HFe:=hide hfe
  clear hcC hoC hfe hcom hpre hpne hF hha hhb hkA hkB hDB hT
  have hal:=hDAg.1
  have hbl:=hDBg.1
  go_enter Tryz.func85,Tryz.ntmps85
  go_wp2
  refine ln_fk (by kernel_rfl) (by kernel_rfl) rfl (fun W=>Kept [] w W) (Kept.refl [] w).drew ?_
  refine LinY.mv (x:=.tmp 0) rfl (.int .i64 k) rfl (by simp only [Act.put,sa1,sa2,sa3]; rfl) ?_
  refine LinY.mv (x:=.tmp 2) rfl (.pointer (some ⟨ga,0,none⟩)) rfl (by simp only [Act.put,sa1,sa2,sa3]; rfl) ?_
  refine LinY.rd (.pointer (some ⟨ga,0,none⟩)) (fun W hW=>by go_simp) (by simp only [Act.put,sa1,sa2,sa3]; rfl) ?_
  refine LinY.rd (.pointer (some ⟨ga,0,none⟩)) (fun W hW=>by go_simp) (by simp only [Act.put,sa1,sa2,sa3]; rfl) ?_
  refine LinY.ld 58 (.tmp 19) rfl ga 0 rfl (DA.map u8) _ (fun W hW=>hW.rng (uh HRA) (by simp)) Tryz.underlying58 rfl (by rw [List.length_map,hal]; exact Tryz.size_dig) (by simp only [Act.put,sa1,sa2,sa3]; rfl) ?_
  refine LinY.mv (x:=.tmp 3) rfl (.pointer (some ⟨gb,0,none⟩)) rfl (by simp only [Act.put,sa1,sa2,sa3]; rfl) ?_
  refine LinY.rd (.pointer (some ⟨gb,0,none⟩)) (fun W hW=>by go_simp) (by simp only [Act.put,sa1,sa2,sa3]; rfl) ?_
  refine LinY.rd (.pointer (some ⟨gb,0,none⟩)) (fun W hW=>by go_simp) (by simp only [Act.put,sa1,sa2,sa3]; rfl) ?_
  refine LinY.ld 58 (.tmp 23) rfl gb 0 rfl (DB.map u8) _ (fun W hW=>hW.rng (uh HRB) (by simp)) Tryz.underlying58 rfl (by rw [List.length_map,hbl]; exact Tryz.size_dig) (by simp only [Act.put,sa1,sa2,sa3]; rfl) ?_
  refine ChL.call rfl Tryz.call127 [.int .i64 k,.agg (brow DA),.agg (brow DB)] rfl (xa6u k DA DB _ (by omega) hDAg hDBg) ?_
  rintro e w1 ⟨rfl,k1⟩
  have hk1:=((Kept.refl [] w).drew).trans k1 (by simp)
  refine ⟨_,rfl,hk1,?_⟩
  rw [uh HCc,uh HFe]
  simp only [Act.put,sa1,sa2,sa3]
  refine ChL.fin ⟨hk1,?_⟩
  refine LinY.rd (.tuple #[.int .i64 part,.int .i64 ((0:Nat):Int)]) (fun W hW=>by go_simp) (by simp only [Act.put,sa1,sa2,sa3]; rfl) ?_
  refine LinY.rd (.int .i64 part) (fun W hW=>by go_simp) (by simp only [Act.put,sa1,sa2,sa3]; rfl) ?_
  refine LinY.rd (.int .i64 ((0:Nat):Int)) (fun W hW=>by go_simp) (by simp only [Act.put,sa1,sa2,sa3]; rfl) ?_
  refine LinY.rd (.int .i64 part) (fun W hW=>by go_simp) (by simp only [Act.put,sa1,sa2,sa3]; rfl) ?_
  refine LinY.rd (.int .i64 ((0:Nat):Int)) (fun W hW=>by go_simp) (by simp only [Act.put,sa1,sa2,sa3]; rfl) (LinY.fin ?_)
  have HK1:=hide hk1
  clear hk1 k1
  go_upto_region 2 with fail
  refine ln_fk (by kernel_rfl) (by kernel_rfl) rfl (fun W=>Kept [] w W) (uh HK1).drew ?_
  refine LinY.mv (x:=.tmp 0) rfl (.int .i64 k) rfl (by simp only [Act.put,sa1,sa2,sa3]; rfl) ?_
  refine LinY.mv (x:=.tmp 2) rfl (.pointer (some ⟨ga,0,none⟩)) rfl (by simp only [Act.put,sa1,sa2,sa3]; rfl) ?_
  refine LinY.rd (.pointer (some ⟨ga,0,none⟩)) (fun W hW=>by go_simp) (by simp only [Act.put,sa1,sa2,sa3]; rfl) ?_
  refine LinY.rd (.pointer (some ⟨ga,0,none⟩)) (fun W hW=>by go_simp) (by simp only [Act.put,sa1,sa2,sa3]; rfl) ?_
  refine LinY.ld 58 (.tmp 32) rfl ga 0 rfl (DA.map u8) _ (fun W hW=>hW.rng (uh HRA) (by simp)) Tryz.underlying58 rfl (by rw [List.length_map,hal]; exact Tryz.size_dig) (by simp only [Act.put,sa1,sa2,sa3]; rfl) ?_
  refine LinY.mv (x:=.tmp 3) rfl (.pointer (some ⟨gb,0,none⟩)) rfl (by simp only [Act.put,sa1,sa2,sa3]; rfl) ?_
  refine LinY.rd (.pointer (some ⟨gb,0,none⟩)) (fun W hW=>by go_simp) (by simp only [Act.put,sa1,sa2,sa3]; rfl) ?_
  refine LinY.rd (.pointer (some ⟨gb,0,none⟩)) (fun W hW=>by go_simp) (by simp only [Act.put,sa1,sa2,sa3]; rfl) ?_
  refine LinY.ld 58 (.tmp 36) rfl gb 0 rfl (DB.map u8) _ (fun W hW=>hW.rng (uh HRB) (by simp)) Tryz.underlying58 rfl (by rw [List.length_map,hbl]; exact Tryz.size_dig) (by simp only [Act.put,sa1,sa2,sa3]; rfl) ?_
  refine ChL.call rfl Tryz.call128 [.int .i64 k,.agg (brow DA),.agg (brow DB)] rfl (xb4g k DA DB _ (by omega) hDAg hDBg) ?_
  rintro e w2 ⟨rfl,k2⟩
  have hk2:=((uh HK1).drew).trans k2 (by simp)
  refine ⟨_,rfl,hk2,?_⟩
  rw [uh HOc,uh HFe]
  simp only [Act.put,sa1,sa2,sa3]
  have HOr:=hide hord
  clear hord
  generalize ordL DA DB = od at HOr ⊢
  refine ChL.fin ⟨hk2,?_⟩
  refine LinY.rd (.tuple #[.int .i64 od,.int .i64 ((0:Nat):Int)]) (fun W hW=>by go_simp) (by simp only [Act.put,sa1,sa2,sa3]; rfl) ?_
  refine LinY.rd (.int .i64 od) (fun W hW=>by go_simp) (by simp only [Act.put,sa1,sa2,sa3]; rfl) ?_
  refine LinY.rd (.int .i64 ((0:Nat):Int)) (fun W hW=>by go_simp) (by simp only [Act.put,sa1,sa2,sa3]; rfl) ?_
  refine LinY.rd (.int .i64 od) (fun W hW=>by go_simp) (by simp only [Act.put,sa1,sa2,sa3]; rfl) ?_
  refine LinY.rd (.int .i64 ((0:Nat):Int)) (fun W hW=>by go_simp) (by simp only [Act.put,sa1,sa2,sa3]; rfl) (LinY.fin ?_)
  have HK2:=hide hk2
  clear hk2 k2 HK1
  have hw16:∀ D:List Nat,Dg D→∀ e,(dgt D e:Nat) < 16:=fun D hD e=>dgt_lt hD.2 e
  by_cases hlt:dgt DA part < dgt DB part
  case' pos =>
    have hod:¬ (0 < od):=by have:=uh HOr; rw [if_pos hlt] at this; omega
    have hfk:=hide (hfst hlt)
    have HT1:=hide (fun f=>TreeAt.ofBk f (uh HBA) hsA)
    have HT2:=hide (fun f=>TreeAt.ofBk f (uh HBB) hsB)
    have HR1:=HRA
    have HR2:=HRB
    clear hfst hsnd hlt HOr HBA HBB HRA HRB hsA hsB HCc HOc HFe
    generalize ([(q,v)]:Prs) = P2 at hfk HT2
    obtain ⟨P1,rfl⟩:∃ P,P = A:=⟨_,rfl⟩
    obtain ⟨g1,rfl⟩:∃ g,g = ga:=⟨_,rfl⟩
    obtain ⟨g2,rfl⟩:∃ g,g = gb:=⟨_,rfl⟩
    obtain ⟨D1,rfl⟩:∃ D,D = DA:=⟨_,rfl⟩
    obtain ⟨D2,rfl⟩:∃ D,D = DB:=⟨_,rfl⟩
    have hD1:=hDAg
    have hD2:=hDBg
    have hf1:=hfA
    have hf2:=hfB
    have hl1:=hal
    have hl2:=hbl
    clear hDAg hDBg hfA hfB hal hbl
  case' neg =>
    have hod:(0 < od):=by have:=uh HOr; rw [if_neg hlt] at this; omega
    have hfk:=hide (hsnd hlt)
    have HT2:=hide (fun f=>TreeAt.ofBk f (uh HBA) hsA)
    have HT1:=hide (fun f=>TreeAt.ofBk f (uh HBB) hsB)
    have HR2:=HRA
    have HR1:=HRB
    clear hfst hsnd hlt HOr HBA HBB HRA HRB hsA hsB HCc HOc HFe
    generalize ([(q,v)]:Prs) = P1 at hfk HT1
    obtain ⟨P2,rfl⟩:∃ P,P = A:=⟨_,rfl⟩
    obtain ⟨g2,rfl⟩:∃ g,g = ga:=⟨_,rfl⟩
    obtain ⟨g1,rfl⟩:∃ g,g = gb:=⟨_,rfl⟩
    obtain ⟨D2,rfl⟩:∃ D,D = DA:=⟨_,rfl⟩
    obtain ⟨D1,rfl⟩:∃ D,D = DB:=⟨_,rfl⟩
    have hD2:=hDAg
    have hD1:=hDBg
    have hf2:=hfA
    have hf1:=hfB
    have hl2:=hal
    have hl1:=hbl
    clear hDAg hDBg hfA hfB hal hbl
  all_goals
    go_upto_region 5 with fail
    go_wp2_with (refine wpList_load_mid rfl 58 (.tmp 48) rfl g1 0 rfl (D1.map u8) _ ((uh HK2).rng (uh HR1) (by simp)) Tryz.underlying58 rfl (by rw [List.length_map,hl1]; exact Tryz.size_dig) ?_)
    refine Calls.mono (xa2f k D1 part _ hk hD1 hf1 hdeep2) ?_
    rintro e w3 ⟨rfl,k3⟩
    have HK3:=hide ((uh HK2).trans k3 (by simp))
    clear k3
    have hx1:=hw16 D1 hD1 part
    have hx2:=hw16 D2 hD2 part
    have hbm:=(uh hfk).bm
    have hkd:=(uh hfk).kids
    have hdg:=hide (uh hfk).dig
    generalize dgt D1 part = x1 at hx1 hbm ⊢
    obtain ⟨x2,he2⟩:∃ x,dgt D2 part = x:=⟨_,rfl⟩
    rw [he2] at hx2 hbm
    have HE2:=hide he2
    clear he2
    clear hfk
    go_wp2_with fail
    refine Calls.mono (xa4c 0 x1 _ (by decide) (by omega)) ?_
    rintro e w4 ⟨rfl,k4⟩
    have HK4:=hide ((uh HK3).trans k4 (by simp))
    clear k4 HK3 HK2
    have hb1:=xa2w 0 (x1:Int) (by decide)
    generalize withB 0 (x1:Int) = b1 at hbm hb1 ⊢
    go_wp2_with (refine wpList_load_mid rfl 58 (.tmp 58) rfl g2 0 rfl (D2.map u8) _ ((uh HK4).rng (uh HR2) (by simp)) Tryz.underlying58 rfl (by rw [List.length_map,hl2]; exact Tryz.size_dig) ?_)
    refine Calls.mono (xa2f k D2 part _ hk hD2 hf2 hdeep2) ?_
    rintro e w5 ⟨rfl,k5⟩
    have HK5:=hide ((uh HK4).trans k5 (by simp))
    clear k5 HK4
    rw [uh HE2]
    go_wp2_with fail
    refine Calls.mono (xa4c b1 x2 _ hb1 (by omega)) ?_
    rintro e w6 ⟨rfl,k6⟩
    have HK6:=hide ((uh HK5).trans k6 (by simp))
    clear k6 HK5
    rw [hbm]
    have hbx:=bm_lt (hsZ k) part M
    have HKd:=hide hkd
    have hsz6:=(uh HK6).size
    clear hbm hkd HE2 hx1 hx2 hb1
    have hag:=(uh HK6).alloc (.cells #[bkV g1,bkV g2] 95)
    have hrow:=xb1f (S:=S) (l:=[bkV g1,bkV g2]) (heap_alloc_new w6 (.cells #[bkV g1,bkV g2] 95)) (by simp) (hS _ hsz6)
    have HRow:=hide hrow
    have HAg:=hide hag
    clear hrow hag
    go_wp2_with fail
    refine Calls.mono (xa2d S k (63 - part) (bm (hsZ k) part M) _ [bkV g1,bkV g2] M _ hk (fun y hy=>hS y (Nat.le_trans (uh HAg).size hy)) hnM (by rw [show 63 - (63 - part) = part by omega]) (uh HRow) (by rw [show 63 - (63 - part) = part by omega,uh HKd]; rfl) (fun i hi=>by
      rw [show 63 - (63 - part) = part by omega,uh HKd]
      match i,hi with
      | 0,_=>exact (uh HT1 _).agr (Agr.nil (uh HAg))
      | 1,_=>exact (uh HT2 _).agr (Agr.nil (uh HAg))) ((uh HTb).k (uh HAg))) ?_
    rintro e w7 ⟨tv,rfl,ht7,k7⟩
    rw [show 63 - part + 1 = 64 - part by omega] at ht7
    have HT7:=hide ht7
    have HK7:=hide ((uh HAg).trans k7 (by simp))
    clear ht7 k7 HRow HAg HK6 HT1 HT2 hbx
    go_wp2
    go_loopw [9,14] (fun t9 t14 wr=>∃ (e:Nat) (tv:Value),t9 = .int .i64 e∧t14 = tv∧dep≤e∧e≤part∧Hid (TreeAt S (hsZ k) wr (64 - e) tv M)∧Hid (Kept [] w wr)) (fun t9 _ _=>(intOf t9).toNat)
    case atStart=>exact ⟨part,tv,rfl,rfl,hdp,Nat.le_refl _,HT7,HK7⟩
    case round =>
      obtain ⟨e,tw,rfl,rfl,h1,h2,HTe,HKe⟩:=hrel
      by_cases hgt:dep < e
      · obtain ⟨e',rfl⟩:∃ e',e = e' + 1:=⟨e - 1,by omega⟩
        have hgt':(dep:Int) < ((e' + 1:Nat):Int):=by omega
        have hty:∃ t p,u14 = Value.iface t p:=by
          rcases (uh HTe).own with ⟨g,_,_,_,e9,_⟩ | ⟨g,_,_,_,e9,_⟩ <;> exact ⟨_,_,e9⟩
        obtain ⟨ti,tp,rfl⟩:=hty
        have hdge:=uh hdg e' (by omega)
        have hx:=hw16 D1 hD1 e'
        have hbm:=one_bm (H:=hsZ k) (d:=e') hx hnM hdge
        have hko:=xb7k (hsZ_ok hk) (d:=e') hnM hdge
        have HKo:=hide hko
        clear hdge hko
        have hed:e' < 2 * k:=by omega
        go_wp2_with (refine wpList_load_mid rfl 58 (.tmp 78) rfl g1 0 rfl (D1.map u8) _ ((uh HKe).rng (uh HR1) (by simp)) Tryz.underlying58 rfl (by rw [List.length_map,hl1]; exact Tryz.size_dig) ?_)
        refine Calls.mono (xa2f k D1 e' _ hk hD1 hf1 hed) ?_
        rintro e w8 ⟨rfl,k8⟩
        have HK8:=hide ((uh HKe).trans k8 (by simp))
        have HT8:=hide ((uh HTe).agr (Agr.nil k8))
        clear k8 HKe HTe
        generalize dgt D1 e' = x at hx hbm ⊢
        go_wp2_with fail
        refine Calls.mono (xa4c 0 x _ (by decide) (by omega)) ?_
        rintro e w9 ⟨rfl,k9⟩
        have HK9:=hide ((uh HK8).trans k9 (by simp))
        have hag:=k9.alloc (.cells #[Value.iface ti tp] 95)
        have HT9:=hide ((uh HT8).agr (Agr.nil hag))
        rw [hbm]
        have hbx:=bm_lt (hsZ k) e' M
        have hrow:=xb1f (S:=S) (l:=[Value.iface ti tp]) (heap_alloc_new w9 (.cells #[Value.iface ti tp] 95)) (by simp) (hS _ (uh HK9).size)
        have HRow:=hide hrow
        have HAg:=hide ((uh HK9).alloc (.cells #[Value.iface ti tp] 95))
        clear k9 HK8 HT8 hag hrow hbm hx
        go_wp2_with fail
        refine Calls.mono (xa2d S k (63 - e') (bm (hsZ k) e' M) _ [Value.iface ti tp] M _ hk (fun y hy=>hS y (Nat.le_trans (uh HAg).size hy)) hnM (by rw [show 63 - (63 - e') = e' by omega]) (uh HRow) (by rw [show 63 - (63 - e') = e' by omega,uh HKo]; rfl) (fun i hi=>by
          rw [show 63 - (63 - e') = e' by omega,uh HKo]
          match i,hi with
          | 0,_=>have h9:=uh HT9; rw [show 64 - (e' + 1) = 63 - e' by omega] at h9; exact h9) ((uh HTb).k (uh HAg))) ?_
        rintro e w10 ⟨tz,rfl,ht10,k10⟩
        rw [show 63 - e' + 1 = 64 - e' by omega] at ht10
        have HT10:=hide ht10
        have HK10:=hide ((uh HAg).trans k10 (by simp))
        clear ht10 k10 HRow HAg HK9 HT9 HKo
        go_wp2
        refine ⟨⟨e',tz,by go_num,rfl,by omega,by omega,HT10,HK10⟩,?_⟩
        simp [intOf]
      · have hee:e = dep:=by omega
        subst hee
        have hgt':¬ (e:Int) < e:=by omega
        go_wp2
        go_ret
        exact ⟨_,rfl,uh HTe,uh HKe⟩
def dnL (H:Hs) (q:List Nat) (L:Prs):Nat→Prs
  | 0=>L
  | i + 1=>ch H i (dgt (H.kd q) i) (dnL H q L i)
theorem dn_on {H:Hs} {q:List Nat} {L:Prs}:∀ i,On H i q (dnL H q L i)
  | 0=>On.zero H q L
  | i + 1=>(dn_on i).ch
theorem dn_srt {H:Hs} {q:List Nat} {L:Prs} (h:Srt H L):∀ i,Srt H (dnL H q L i)
  | 0=>h
  | i + 1=>(dn_srt h i).ch _ _
theorem dn_sub {H:Hs} {q:List Nat} {L:Prs}:∀ i,∀ x∈dnL H q L i,x∈L
  | 0,x,hx=>hx
  | i + 1,x,hx=>dn_sub i x (ch_sub x hx)
theorem dn_len {H:Hs} {q:List Nat} {L:Prs}:∀ i,(dnL H q L i).length≤L.length
  | 0=>Nat.le_refl _
  | i + 1=>Nat.le_trans (List.length_filter_le _ _) (dn_len i)
theorem dn_get {H:Hs} {q:List Nat} {L:Prs}:∀ i,getP q (dnL H q L i) = getP q L
  | 0=>rfl
  | i + 1=>(get_ch _).trans (dn_get i)
def wayC (k:Nat) (D:List Nat) (cr en:Value) (pl:Nat) (fd:Bool):List Value:=.int .i64 k :: (D.map u8++([cr,en,.int .i64 pl,.bool fd]++[]))
theorem xa1f {k:Nat} {D:List Nat} (hD:D.length = 32) (cr en:Value) (pl:Nat) (fd:Bool):(wayC k D cr en pl fd).length = 37:=by simp [wayC,hD]
theorem xa0s {W:World} {g k:Nat} {D:List Nat} {cr en:Value} {pl:Nat} {fd:Bool} {t:TypeId} (h:W.heap[g]? = some (.cells (wayC k D cr en pl fd).toArray t (0,0))) (hD:D.length = 32) :
    W.cell? ⟨g,0,none⟩ = some (.int .i64 k)∧W.rangeAt g 1 (D.map u8)∧W.cell? ⟨g,33,none⟩ = some cr∧W.cell? ⟨g,34,none⟩ = some en∧W.cell? ⟨g,35,none⟩ = some (.int .i64 pl)∧W.cell? ⟨g,36,none⟩ = some (.bool fd):=by
  have key:∀ j,W.cell? ⟨g,33 + j,none⟩ = ([cr,en,.int .i64 pl,.bool fd]:List Value)[j]?:=fun j=>by
    rw [cell_of_row _ _ _ _ _ _ h,List.getElem?_toArray]
    unfold wayC
    rw [show 33 + j = (32 + j) + 1 by omega,List.getElem?_cons_succ,List.getElem?_append_right (by simp [hD])]
    simp [hD]
  refine ⟨?_,xa0t [.int .i64 (k:Int)] (D.map u8) _ h rfl,key 0,key 1,key 2,key 3⟩
  rw [cell_of_row _ _ _ _ _ _ h,List.getElem?_toArray]; rfl
theorem xa8b {W:World} {g k:Nat} {D:List Nat} {cr en:Value} {pl:Nat} {fd:Bool} {t:TypeId} (h:W.heap[g]? = some (.cells (wayC k D cr en pl fd).toArray t (0,0))) (hD:D.length = 32) :
    (∀ cr',(W.setCell ⟨g,33,none⟩ cr').heap[g]? = some (.cells (wayC k D cr' en pl fd).toArray t (0,0)))∧(∀ en',(W.setCell ⟨g,34,none⟩ en').heap[g]? = some (.cells (wayC k D cr en' pl fd).toArray t (0,0))) ∧
    (∀ pl':Nat,(W.setCell ⟨g,35,none⟩ (.int .i64 pl')).heap[g]? = some (.cells (wayC k D cr en pl' fd).toArray t (0,0)))∧(∀ fd',(W.setCell ⟨g,36,none⟩ (.bool fd')).heap[g]? = some (.cells (wayC k D cr en pl fd').toArray t (0,0))):=by
  have key:∀ (j:Nat) (x:Value),j < 4→∀ l:List Value,([cr,en,.int .i64 pl,.bool fd]:List Value).set j x = l→(W.setCell ⟨g,33 + j,none⟩ x).heap[g]? = some (.cells (.int .i64 (k:Int) :: (D.map u8++(l++[]))).toArray t (0,0)):=fun j x hj l hl=>by
    rw [heap_setCell_same W g (33 + j) _ t x h]
    congr 2
    unfold wayC
    rw [List.setIfInBounds_toArray,show 33 + j = (32 + j) + 1 by omega,List.set_cons_succ,List.set_append_right _ _ (by simp [hD])]
    rw [← hl]
    simp [hD]
  exact ⟨fun x=>key 0 x (by omega) _ rfl,fun x=>key 1 x (by omega) _ rfl,fun x=>key 2 _ (by omega) _ rfl,fun x=>key 3 _ (by omega) _ rfl⟩
theorem zway:(Tryz.prog.info? 102).map (fun i=>(i.zero,i.size)) = some (some (.agg (wayC 0 (List.replicate 32 0) (.slice none 0 0) (.pointer none) 0 false).toArray),37):=by kernel_rfl
theorem fway:∀ fs,Tryz.prog.underlying 102 = some (.struct fs)→fs.toList.mapM (fun f=>(Tryz.prog.info? f.type).map fun i=>(f.offset,i.size)) = some [(0,1),(1,32),(33,1),(34,1),(35,1),(36,1)]:=by
  intro fs hfs
  rw [Tryz.underlying102] at hfs
  injection hfs with hfs
  injection hfs with hfs
  subst hfs
  kernel_rfl
theorem xb3w (k:Nat) (D:List Nat) (hD:D.length = 32):Tryz.prog.built 102 [(0,.int .i64 k),(1,.agg (brow D))] = some (wayC k D (.slice none 0 0) (.pointer none) 0 false).toArray:=by
  have hz:=zway
  obtain ⟨it,hit⟩:∃ it,Tryz.prog.info? 102 = some it:=by
    cases h:Tryz.prog.info? 102 with
    | none=>rw [h] at hz; cases hz
    | some it=>exact ⟨it,rfl⟩
  rw [hit] at hz
  simp only [Option.map_some,Option.some.injEq,Prod.mk.injEq] at hz
  obtain ⟨fs,hfs⟩:∃ fs,Tryz.prog.underlying 102 = some (.struct fs):=⟨_,Tryz.underlying102⟩
  have hpl:=fway fs hfs
  unfold Program.built
  rw [hit,hfs]
  simp only [hz.1,hpl,Value.cells]
  have z1:(List.replicate 32 0:List Nat).length = 32:=List.length_replicate
  generalize (List.replicate 32 0:List Nat) = z at z1 ⊢
  unfold wayC
  have s1:=xa1e (place:=([(0,1),(1,32),(33,1),(34,1),(35,1),(36,1)].toArray[·]?)) (i:=0) (n:=1) (rest:=[(1,.agg (brow D))]) [] [.int .i64 ((0:Nat):Int)] (z.map u8++([.slice none 0 0,.pointer none,.int .i64 ((0:Nat):Int),.bool false]++[])) [.int .i64 (k:Int)] (X:=.int .i64 (k:Int)) rfl rfl rfl rfl
  have s2:=xa1e (place:=([(0,1),(1,32),(33,1),(34,1),(35,1),(36,1)].toArray[·]?)) (i:=1) (n:=32) (rest:=[]) [.int .i64 (k:Int)] (z.map u8) ([.slice none 0 0,.pointer none,.int .i64 ((0:Nat):Int),.bool false]++[]) (D.map u8) (X:=.agg (brow D)) rfl rfl (by rw [List.length_map,hD]) (by rw [List.length_map,z1])
  exact s1.trans s2
def ptrs (gs:List Nat):List (List Value):=gs.map fun g=>[.pointer (some ⟨g,0,none⟩)]
structure WayAt (S:Nat→Prop) (k:Nat) (W:World) (q:List Nat) (L:Prs) (m:Nat) (cr en:Value) (pl:Nat) (fd:Bool):Prop where
  cr:∃ gs:List Nat,gs.length = m∧RdC 1 W cr (ptrs gs)∧∀ i,i < m→TreeAt S (hsZ k) W (64 - i) (brV (gs.getD i 0)) (dnL (hsZ k) q L i)∧sgl (hsZ k) (dnL (hsZ k) q L i) = false
  en:(dnL (hsZ k) q L m = []∧en = .pointer none∧pl = 0∧fd = false)∨(sgl (hsZ k) (dnL (hsZ k) q L m) = true∧∃ g,en = .pointer (some ⟨g,0,none⟩)∧BkAt S (hsZ k) W g (dnL (hsZ k) q L m)∧pl = plc q (dnL (hsZ k) q L m)∧fd = fnd q (dnL (hsZ k) q L m))
  deep:m≤2 * k
theorem WayAt.old {S:Nat→Prop} {k:Nat} {W W':World} {q:List Nat} {L:Prs} {m:Nat} {cr en:Value} {pl:Nat} {fd:Bool} (h:WayAt S k W q L m cr en pl fd) (kk:Kept [] W W'):WayAt S k W' q L m cr en pl fd:=by
  obtain ⟨⟨gs,h1,h2,h3⟩,h4,h5⟩:=h
  refine ⟨⟨gs,h1,h2.old kk,fun i hi=>⟨(h3 i hi).1.agr (Agr.nil kk),(h3 i hi).2⟩⟩,?_,h5⟩
  rcases h4 with h4 | ⟨h4,g,h6,h7,h8⟩
  · exact Or.inl h4
  · exact Or.inr ⟨h4,g,h6,h7.agr (Agr.nil kk),h8⟩
theorem Sty.mono {S T:Nat→Prop} {W:World} {P:World→Prop} (hs:∀ x,T x→S x) (h:Sty T W P):Sty S W P:=fun w k=>h w (k.sub hs)
theorem KRow.mono {S T:Nat→Prop} {W:World} {pv:Value} {L:Prs} (hs:∀ x,T x→S x) (h:KRow T W pv L):KRow S W pv L:=by
  obtain ⟨b,off,cap,l,h1,h2,h3,h4,h5,h6,h7⟩:=h
  exact ⟨b,off,cap,l,h1,h2,h3,hs _ h4,h5,h6,fun i hi=>(h7 i hi).mono hs⟩
theorem BkAt.mono {S T:Nat→Prop} {H:Hs} {W:World} {g:Nat} {L:Prs} (hs:∀ x,T x→S x) (h:BkAt T H W g L):BkAt S H W g L:=by
  obtain ⟨pv,h1,h2,h3,h4⟩:=h
  exact ⟨pv,hs _ h1,h2,h3,h4.mono hs⟩
theorem SRow.mono {S T:Nat→Prop} {W:World} {v:Value} {vs:List Value} (hs:∀ x,T x→S x) (h:SRow T W v vs):SRow S W v vs:=by
  obtain ⟨b,off,cap,h1,h2,h3,h4,h5⟩:=h
  exact ⟨b,off,cap,h1,h2,h3,hs _ h4,h5⟩
theorem TreeAt.mono {S T:Nat→Prop} {H:Hs} {W:World} (hs:∀ x,T x→S x):∀ {f:Nat} {v:Value} {L:Prs},TreeAt T H W f v L→TreeAt S H W f v L
  | 0,v,L,h=>by
    obtain ⟨h0,g,h1,h2⟩:=h
    exact ⟨h0,g,h1,h2.mono hs⟩
  | f + 1,v,L,h=>by
    refine ⟨fun h0=>?_,fun h0=>?_⟩
    · obtain ⟨g,h1,h2⟩:=h.1 h0
      exact ⟨g,h1,h2.mono hs⟩
    · obtain ⟨g,kv,vs,h1,h2,h3,h4,h5,h6⟩:=h.2 h0
      exact ⟨g,kv,vs,h1,hs _ h2,h3,h4.mono hs,h5,fun i hi=>(h6 i hi).mono hs⟩
def lowS (S:Nat→Prop) (w:World):Nat→Prop:=fun x=>S x∧x < w.heap.size
theorem xb2w (S:Nat→Prop) (w:World):∀ x,lowS S w x→S x:=fun _ h=>h.1
theorem Sty.shrink {S:Nat→Prop} {W:World} {P:World→Prop} (h:Sty S W P):Sty (lowS S W) W P:=fun w k=>h w ⟨k.1,fun x hx hl=>k.2 x ⟨hx,hl⟩ hl⟩
theorem KRow.shrink {S:Nat→Prop} {W:World} {pv:Value} {L:Prs} (hn:L≠[]) (h:KRow S W pv L):KRow (lowS S W) W pv L:=by
  obtain ⟨b,off,cap,l,h1,h2,h3,h4,h5,h6,h7⟩:=h
  have h0:0 < l.length:=by rw [h5]; cases L with
    | nil=>exact absurd rfl hn
    | cons _ _=>simp
  exact ⟨b,off,cap,l,h1,h2,h3,⟨h4,block_lt_of_cell (h6 0 h0).1⟩,h5,h6,fun i hi=>(h7 i hi).shrink⟩
theorem BkAt.shrink {S:Nat→Prop} {H:Hs} {W:World} {g:Nat} {L:Prs} (h:BkAt S H W g L):BkAt (lowS S W) H W g L:=by
  obtain ⟨pv,h1,h2,h3,h4⟩:=h
  exact ⟨pv,⟨h1,lt_of_block h2⟩,h2,h3,h4.shrink h3⟩
theorem TreeAt.shrink {S:Nat→Prop} {H:Hs} (hH:H.Ok) {W:World}:∀ {f:Nat} {v:Value} {L:Prs},TreeAt S H W f v L→TreeAt (lowS S W) H W f v L
  | 0,v,L,h=>by
    obtain ⟨h0,g,h1,h2⟩:=h
    exact ⟨h0,g,h1,h2.shrink⟩
  | f + 1,v,L,h=>by
    refine ⟨fun h0=>?_,fun h0=>?_⟩
    · obtain ⟨g,h1,h2⟩:=h.1 h0
      exact ⟨g,h1,h2.shrink⟩
    · obtain ⟨g,kv,vs,h1,h2,h3,⟨b,off,cap,r1,r2,r3,r4,r5⟩,h5,h6⟩:=h.2 h0
      have hn:L≠[]:=by intro e; rw [e,xb4y] at h0; cases h0
      have hp:=(xa2u hH (d:=63 - f) hn).1
      have hb:=block_lt_of_cell (r5 0 (by omega))
      exact ⟨g,kv,vs,h1,⟨h2,lt_of_block h3⟩,h3,⟨b,off,cap,r1,r2,r3,⟨r4,hb⟩,r5⟩,h5,fun i hi=>(h6 i hi).shrink hH⟩
theorem KidAt.shrink {S:Nat→Prop} {H:Hs} (hH:H.Ok) {W:World} {f:Nat} {v:Value} {L:Prs} (h:KidAt S H W f v L):KidAt (lowS S W) H W f v L:=by
  rcases h with h | h
  · exact Or.inl h
  · exact Or.inr (h.shrink hH)
theorem xb8v {S:Nat→Prop} {w A B:World} (hA:Kept [] w A) (hB:Kept [] w B) (h:A.heap.size≤B.heap.size):Agr (lowS S w) A B :=
  ⟨h,fun x hx _=>(hB.block x hx.2 (by simp)).trans (hA.block x hx.2 (by simp)).symm⟩
def zwy:Array Value:=(wayC 0 (List.replicate 32 0) (.slice none 0 0) (.pointer none) 0 false).toArray
theorem xa3a:(#[.int .i64 0,.int .u8 0,.int .u8 0,.int .u8 0,.int .u8 0,.int .u8 0,.int .u8 0,.int .u8 0,.int .u8 0,.int .u8 0,.int .u8 0,.int .u8 0,.int .u8 0,.int .u8 0,.int .u8 0,.int .u8 0,.int .u8 0,.int .u8 0,.int .u8 0,.int .u8 0,.int .u8 0,.int .u8 0,.int .u8 0,.int .u8 0,.int .u8 0,.int .u8 0,.int .u8 0,.int .u8 0,.int .u8 0,.int .u8 0,.int .u8 0,.int .u8 0,.int .u8 0,.slice none 0 0,.pointer none,.int .i64 0,.bool false]:Array Value) = zwy:=rfl
theorem Tryz.size_way:(Tryz.prog.info? 102).map (·.size) = some 37:=by kernel_rfl
theorem xa1r {k:Nat} {D:List Nat} {cr en:Value} (pl:Nat) (fd:Bool) (h1:cr.oneCell' = true) (h2:en.oneCell' = true):(wayC k D cr en pl fd).toArray.all (·.oneCell') = true:=by
  rw [Array.all_eq_true_iff_forall_mem]
  intro v hv
  simp only [wayC,List.mem_toArray,List.mem_cons,List.mem_append,List.mem_map,List.not_mem_nil,or_false] at hv
  rcases hv with rfl | ⟨x,_,rfl⟩ | rfl | rfl | rfl | rfl
  · rfl
  · rfl
  · exact h1
  · exact h2
  · rfl
  · rfl
def wyM (b:Nat) (W:World):Nat:=match W.cell? ⟨b,33,none⟩ with
  | some (.slice _ n _)=>100 - n
  | _=>0
theorem wyM_at {b k pl:Nat} {W:World} {D:List Nat} {en:Value} {fd:Bool} {t:TypeId} {ao:Option Addr} {n c:Nat} (h:W.heap[b]? = some (.cells (wayC k D (.slice ao n c) en pl fd).toArray t (0,0))) (hD:D.length = 32):wyM b W = 100 - n:=by
  unfold wyM; rw [(xa0s h hD).2.2.1]
theorem Tryz.infoPB:(Tryz.prog.info? 112).map (fun i=>(i.zero,i.size,i.bytes)) = some (some (.pointer none),1,8):=by kernel_rfl
theorem xa7r (gs:List Nat):(∀ r∈ptrs gs,r.length = 1)∧∀ r∈ptrs gs,∀ u∈r,u.oneCell' = true:=by
  constructor
  · intro r hr; obtain ⟨g,_,rfl⟩:=List.mem_map.1 hr; rfl
  · intro r hr u hu; obtain ⟨g,_,rfl⟩:=List.mem_map.1 hr; have:u = .pointer (some ⟨g,0,none⟩):=by simpa using hu
    rw [this]; rfl
theorem xa3e {w:World} {base:Nat} {e t:TypeId} {s n b:Nat} {v:Value} {xs:List Value} {cs:Array Value} {fr:Nat × Nat} (h:w.ownsRow base e s v n xs) (hb:w.heap[b]? = some (.cells cs t fr)) (hne:e≠t):v.ownBlock≠some b:=by
  intro e'
  rcases h.2 with ⟨rfl,_⟩ | ⟨g,cap,cur,rfl,_,hg,_⟩
  · simp [Value.ownBlock] at e'
  · simp only [Value.ownBlock,Option.some.injEq] at e'
    subst e'
    rw [hb] at hg
    simp at hg
    first | exact hne hg.2.1.symm | exact hne hg.2.symm
structure WayAt0 (S:Nat→Prop) (k:Nat) (w W:World) (q:List Nat) (L:Prs) (m:Nat) (cr en:Value) (pl:Nat) (fd:Bool):Prop where
  cr:∃ gs:List Nat,gs.length = m∧RdC 1 W cr (ptrs gs)∧∀ i,i < m→TreeAt S (hsZ k) w (64 - i) (brV (gs.getD i 0)) (dnL (hsZ k) q L i)∧sgl (hsZ k) (dnL (hsZ k) q L i) = false
  en:(dnL (hsZ k) q L m = []∧en = .pointer none∧pl = 0∧fd = false)∨(sgl (hsZ k) (dnL (hsZ k) q L m) = true∧∃ g,en = .pointer (some ⟨g,0,none⟩)∧BkAt S (hsZ k) w g (dnL (hsZ k) q L m)∧pl = plc q (dnL (hsZ k) q L m)∧fd = fnd q (dnL (hsZ k) q L m))
  deep:m≤2 * k
theorem WayAt0.fin {S T:Nat→Prop} {k:Nat} {w W':World} {q:List Nat} {L:Prs} {m:Nat} {cr en:Value} {pl:Nat} {fd:Bool} (h:WayAt0 T k w W' q L m cr en pl fd) (hs:∀ x,T x→S x) (kk:Agr T w W'):WayAt S k W' q L m cr en pl fd:=by
  obtain ⟨⟨gs,h1,h2,h3⟩,h4,h5⟩:=h
  refine ⟨⟨gs,h1,h2,fun i hi=>⟨((h3 i hi).1.agr kk).mono hs,(h3 i hi).2⟩⟩,?_,h5⟩
  rcases h4 with h4 | ⟨h4,g,h6,h7,h8⟩
  · exact Or.inl h4
  · exact Or.inr ⟨h4,g,h6,(h7.agr kk).mono hs,h8⟩
theorem xa9d {w:World} {base T m:Nat} {v:Value} {gs:List Nat} (h:w.ownsRow base T 1 v m (ptrs gs).flatten) (hl:gs.length = m):RdC 1 w v (ptrs gs) :=
  xa4z (by rw [show (ptrs gs).length = m by rw [ptrs,List.length_map,hl]]; exact h) (xa7r gs).1
set_option maxHeartbeats 4000000 in
theorem xb4f (S:Nat→Prop) (k:Nat) (tv:Value) (L:Prs) (uw:Value) (q:List Nat) (w:World) (hk:1≤k∧k≤32) (h:KidAt S (hsZ k) w 64 tv L) (hs:Srt (hsZ k) L) (hu:Rd w uw q) (hn:L.length≤1000000000) :
    Calls Tryz.prog 80 #[.int .i64 k,tv,.agg (brow ((hsZ k).kd q)),uw] w fun e w'=>∃ m cr en pl fd,e = .returned (.agg (wayC k ((hsZ k).kd q) cr en pl fd).toArray)∧WayAt S k w' q L m cr en pl fd∧Kept [] w w':=by
  have hH:=hsZ_ok hk
  have hDg:=hH.dg q
  have hfm:=xa8i hk q
  have hu':=hu
  obtain ⟨ua,un,uc,rfl,_⟩:=hu'
  obtain ⟨D,hD⟩:∃ D,(hsZ k).kd q = D:=⟨_,rfl⟩
  have HDn:=hide (fun i=>by rw [← hD]; rfl:∀ i,ch (hsZ k) i (dgt D i) (dnL (hsZ k) q L i) = dnL (hsZ k) q L (i + 1))
  rw [hD] at hDg hfm ⊢
  have hDl:=hDg.1
  have HU:=hide hu
  have HSr:=hide hs
  have hm1:=ta_bk
  have hm2:=ta_br
  have hm3:=ta_nil
  have hm4:=tb_bk
  have hm5:=tb_br
  have hm6:=tb_nil
  have HB:=hide (xb3w k D hDl)
  clear hu hs hD
  have HK0:=hide (((Kept.refl [] w).alloc (.cells (brow D) 58)).alloc (.cells zwy 102))
  have HD0:=hide (((Kept.refl [] (w.alloc (.cells (brow D) 58))).alloc (.cells zwy 102)).heap (heap_alloc_new w (.cells (brow D) 58)) (by simp))
  have HZ0:=hide (xa2k w (.cells (brow D) 58) (.cells zwy 102))
  have hs0:((w.alloc (.cells (brow D) 58)).alloc (.cells zwy 102)).heap.size = w.heap.size + 2:=by simp
  have h':=h.shrink hH
  obtain ⟨T,hT⟩:∃ T,lowS S w = T:=⟨_,rfl⟩
  rw [hT] at h'
  have HTS:=hide (by rw [← hT]; exact xb2w S w:∀ x,T x→S x)
  have HAG:=hide (by rw [← hT]; exact fun A B hA hB hl=>xb8v hA hB hl:∀ A B,Kept [] w A→Kept [] w B→A.heap.size≤B.heap.size→Agr T A B)
  clear hT h
  go_enter Tryz.func80,Tryz.ntmps80
  have hnw:((wayC k D (.slice none 0 0) (.pointer none) 0 false).toArray).size = 37:=by rw [List.size_toArray,xa1f hDl]
  have HZ1:=hide (by have h9:=heap_alloc_new ((w.alloc (.cells (brow D) 58)).alloc (.cells zwy 102)) (.cells zwy 102); rw [hs0] at h9; exact h9:(((w.alloc (.cells (brow D) 58)).alloc (.cells zwy 102)).alloc (.cells zwy 102)).heap[w.heap.size + 1 + 1]? = some (.cells zwy 102 (0,0)))
  have HK1:=hide ((uh HK0).alloc (.cells zwy 102))
  have HR2:=hide (setRow_heap _ _ _ ((wayC k D (.slice none 0 0) (.pointer none) 0 false).toArray) _ _ (uh HZ1))
  have HK2:=hide ((uh HK1).setRow (g:=w.heap.size + 1 + 1) (Or.inr (by omega)) ((wayC k D (.slice none 0 0) (.pointer none) 0 false).toArray))
  have hk9:=((Kept.refl [w.heap.size + 1 + 1] ((w.alloc (.cells (brow D) 58)).alloc (.cells zwy 102))).alloc (.cells zwy 102)).setRow (g:=w.heap.size + 1 + 1) (Or.inl (by simp)) ((wayC k D (.slice none 0 0) (.pointer none) 0 false).toArray)
  have HD2:=hide (hk9.heap (uh HD0) (by simp; omega))
  have HZ2:=hide (hk9.heap (uh HZ0) (by simp))
  clear hk9
  go_wp2_with (first
    | (rw [xa3a]; refine wpList_load_row rfl 58 (.tmp 6) rfl w.heap.size rfl 58 (brow D) (0,0) _ (uh HD0) Tryz.underlying58 rfl (by rw [xa0a,hDl]; exact Tryz.size_dig) ?_)
    | (refine xa0q rfl 102 _ rfl (wayC k D (.slice none 0 0) (.pointer none) 0 false).toArray (by simp only [List.map_toArray,List.map_cons,List.map_nil]; exact uh HB) ?_)
    | (rw [xa3a]; refine wpList_store_row rfl 102 (.tmp 9) (.tmp 15) rfl (w.heap.size + 1 + 1) (wayC k D (.slice none 0 0) (.pointer none) 0 false).toArray rfl rfl _ zwy (uh HZ1) (by rw [hnw]; exact Tryz.size_way) (by rw [hnw]; rfl) (xa1r _ _ rfl rfl) ?_))
  clear HZ1 HK1 HZ0 HD0 HK0 hs0 HB
  generalize ((((w.alloc (.cells (brow D) 58)).alloc (.cells zwy 102)).alloc (.cells zwy 102)).setRow (w.heap.size + 1 + 1) ((wayC k D (.slice none 0 0) (.pointer none) 0 false).toArray)) = W2 at HR2 HK2 HD2 HZ2 ⊢
  simp only [Act.put]
  have hw2:=hide (uh HK2).size
  go_loopw [1] (fun t1 wr=>∃ (m:Nat) (v:Value) (ao:Option Addr) (c:Nat) (gs:List Nat),t1 = v∧gs.length = m∧m≤2 * k∧Hid (KidAt T (hsZ k) wr (64 - m) v (dnL (hsZ k) q L m))∧Hid (∀ i,i < m→TreeAt T (hsZ k) wr (64 - i) (brV (gs.getD i 0)) (dnL (hsZ k) q L i)∧sgl (hsZ k) (dnL (hsZ k) q L i) = false)∧Hid (wr.ownsRow w.heap.size 112 1 (.slice ao m c) m (ptrs gs).flatten) ∧
    Hid (wr.heap[w.heap.size + 2]? = some (.cells (wayC k D (.slice ao m c) (.pointer none) 0 false).toArray 102 (0,0)))∧Hid (wr.heap[w.heap.size + 1]? = some (.cells zwy 102 (0,0)))∧Hid (wr.heap[w.heap.size]? = some (.cells (brow D) 58 (0,0)))∧Hid (Kept [] w wr)) (fun _ wr=>wyM (w.heap.size + 2) wr)
  case atStart=>exact ⟨0,tv,none,0,[],rfl,rfl,Nat.zero_le _,hide (h'.agr (uh HAG w W2 (Kept.refl [] w) (uh HK2) (uh HK2).size)),hide (fun i hi=>by omega),hide (World.ownsRow_nil _ _ _ _),HR2,HZ2,HD2,HK2⟩
  case round =>
    obtain ⟨m,v,ao,c,gs,rfl,hgl,hmk,HKd,HTs,HOw,HRw,HZw,HDw,HKw⟩:=hrel
    have hnwA:∀ cr en pl fd,((wayC k D cr en pl fd).toArray).size = 37:=fun cr en pl fd=>by rw [List.size_toArray,xa1f hDl]
    rcases uh HKd with ⟨hnil,rfl⟩ | ht
    · have hkf:=(uh HKw).setRow (g:=w.heap.size + 1) (Or.inr (by omega)) (wayC k D (.slice ao m c) (.pointer none) 0 false).toArray
      have hof:=((Kept.refl [w.heap.size + 1] wr).setRow (g:=w.heap.size + 1) (Or.inl (by simp)) (wayC k D (.slice ao m c) (.pointer none) 0 false).toArray).owns (uh HOw) (fun x hx hm=>xa3e (uh HOw) (uh HZw) (by decide) (by rw [List.mem_singleton] at hm; rw [← hm]; exact hx))
      go_wp2_with (first
        | (refine wpList_load_row rfl 102 (.tmp 9) rfl (w.heap.size + 2) rfl 102 (wayC k D (.slice ao m c) (.pointer none) 0 false).toArray (0,0) _ (uh HRw) Tryz.underlying102 rfl (by rw [hnwA]; exact Tryz.size_way) ?_)
        | (refine wpList_store_row rfl 102 (.tmp 8) (.tmp 17) rfl (w.heap.size + 1) (wayC k D (.slice ao m c) (.pointer none) 0 false).toArray rfl rfl _ zwy (uh HZw) (by rw [hnwA]; exact Tryz.size_way) (by rw [hnwA]; rfl) (xa1r _ _ rfl rfl) ?_))
      refine bodyPost_ret (v:=.agg (wayC k D (.slice ao m c) (.pointer none) 0 false).toArray) ?_ rfl ⟨m,_,_,_,_,rfl,WayAt0.fin ⟨⟨gs,hgl,xa9d hof hgl,fun i hi=>uh HTs i hi⟩,Or.inl ⟨hnil,rfl,rfl,rfl⟩,hmk⟩ (uh HTS) (uh HAG _ _ (uh HKw) hkf (by simp)),hkf⟩
      exact results_cell_row rfl _ _ (w.heap.size + 1) _ (wayC k D (.slice ao m c) (.pointer none) 0 false).toArray (0,0) _ rfl (setRow_heap _ _ _ _ _ _ (uh HZw)) Tryz.underlying102 rfl (by rw [hnwA]; exact Tryz.size_way)
    · cases hsg:sgl (hsZ k) (dnL (hsZ k) q L m) with
      | true =>
        obtain ⟨g,rfl,hb⟩:=ht.bk hsg
        have hlen:=dn_len (H:=hsZ k) (q:=q) (L:=L) m
        have hkdx:((hsZ k).kd ((dnL (hsZ k) q L m).headD ([],[])).1).length = 32:=(hH.dg _).1
        have hris:=xa5c (dn_srt (uh HSr) m) hsg
        obtain ⟨cw0,cw1,cw2,cw3,cw4,cw5⟩:=xa0s (uh HRw) hDl
        have cz:=fun o=>frozen_of_row _ (w.heap.size + 2) (⟨w.heap.size + 2,o,none⟩:Addr).off _ _ (uh HRw)
        have HR3:=hide ((xa8b (uh HRw) hDl).2.1 (.pointer (some ⟨g,0,none⟩)))
        have HK3:=hide ((uh HKw).setCell (p:=⟨w.heap.size + 2,34,none⟩) (Or.inr (by show w.heap.size≤w.heap.size + 2; omega)) (.pointer (some ⟨g,0,none⟩)))
        have hko:=(Kept.refl [w.heap.size + 2] wr).setCell (p:=⟨w.heap.size + 2,34,none⟩) (Or.inl (by simp)) (.pointer (some ⟨g,0,none⟩))
        have HZ3:=hide (hko.heap (uh HZw) (by simp))
        have HO3:=hide (hko.owns (uh HOw) (fun x hx hm=>xa3e (uh HOw) (uh HRw) (by decide) (by rw [List.mem_singleton] at hm; rw [← hm]; exact hx)))
        clear hko cw0 cw1 cw2 cw4 cw5
        go_wp2_with fail
        clear cw3 cz
        have hz3:wr.heap.size≤(wr.setCell ⟨w.heap.size + 2,34,none⟩ (.pointer (some ⟨g,0,none⟩))).heap.size:=by simp
        generalize wr.setCell ⟨w.heap.size + 2,34,none⟩ (.pointer (some ⟨g,0,none⟩)) = W3 at HR3 HK3 HZ3 HO3 hz3 ⊢
        refine Calls.mono (xb3n T (hsZ k) g (dnL (hsZ k) q L m) _ q W3 (hb.agr (uh HAG _ _ (uh HKw) (uh HK3) hz3)) hkdx ((uh HU).old (uh HK3) (by simp)) hris (by omega)) ?_
        rintro e W4 ⟨rfl,k4⟩
        generalize hpl:plc q (dnL (hsZ k) q L m) = pl
        generalize hfd:fnd q (dnL (hsZ k) q L m) = fd
        have HR4:=hide (k4.heap (uh HR3) (by simp))
        have HK4:=hide ((uh HK3).trans k4 (by simp))
        have HZ4:=hide (k4.heap (uh HZ3) (by simp))
        have HZs:=hide (Nat.le_trans hz3 k4.size)
        have HO4:=hide (k4.owns (uh HO3) (by simp))
        clear k4 HR3 HK3 HZ3 HO3
        obtain ⟨cw0,cw1,cw2,cw3,cw4,cw5⟩:=xa0s (uh HR4) hDl
        have cz:=fun o=>frozen_of_row _ (w.heap.size + 2) (⟨w.heap.size + 2,o,none⟩:Addr).off _ _ (uh HR4)
        have HR5:=hide ((xa8b (uh HR4) hDl).2.2.1 pl)
        have HR6:=hide ((xa8b (uh HR5) hDl).2.2.2 fd)
        have hk6:=((uh HK4).setCell (p:=⟨w.heap.size + 2,35,none⟩) (Or.inr (by show w.heap.size≤w.heap.size + 2; omega)) (.int .i64 pl)).setCell (p:=⟨w.heap.size + 2,36,none⟩) (Or.inr (by show w.heap.size≤w.heap.size + 2; omega)) (.bool fd)
        have hko:=((Kept.refl [w.heap.size + 2] W4).setCell (p:=⟨w.heap.size + 2,35,none⟩) (Or.inl (by simp)) (.int .i64 pl)).setCell (p:=⟨w.heap.size + 2,36,none⟩) (Or.inl (by simp)) (.bool fd)
        have HZ6:=hide (hko.heap (uh HZ4) (by simp))
        have HO6:=hide (hko.owns (uh HO4) (fun x hx hm=>xa3e (uh HO4) (uh HR4) (by decide) (by rw [List.mem_singleton] at hm; rw [← hm]; exact hx)))
        have HK6:=hide hk6
        clear hko cw0 cw1 cw2 cw3 hk6 HR5
        have hkf:=(uh HK6).setRow (g:=w.heap.size + 1) (Or.inr (by omega)) (wayC k D (.slice ao m c) (.pointer (some ⟨g,0,none⟩)) pl fd).toArray
        have hof:=((Kept.refl [w.heap.size + 1] ((W4.setCell ⟨w.heap.size + 2,35,none⟩ (.int .i64 pl)).setCell ⟨w.heap.size + 2,36,none⟩ (.bool fd))).setRow (g:=w.heap.size + 1) (Or.inl (by simp)) (wayC k D (.slice ao m c) (.pointer (some ⟨g,0,none⟩)) pl fd).toArray).owns (uh HO6) (fun x hx hm=>xa3e (uh HO6) (uh HZ6) (by decide) (by rw [List.mem_singleton] at hm; rw [← hm]; exact hx))
        go_wp2_with (first
          | (refine wpList_load_row rfl 102 (.tmp 9) rfl (w.heap.size + 2) rfl 102 (wayC k D (.slice ao m c) (.pointer (some ⟨g,0,none⟩)) pl fd).toArray (0,0) _ (uh HR6) Tryz.underlying102 rfl (by rw [hnwA]; exact Tryz.size_way) ?_)
          | (refine wpList_store_row rfl 102 (.tmp 8) (.tmp 48) rfl (w.heap.size + 1) (wayC k D (.slice ao m c) (.pointer (some ⟨g,0,none⟩)) pl fd).toArray rfl rfl _ zwy (uh HZ6) (by rw [hnwA]; exact Tryz.size_way) (by rw [hnwA]; rfl) (xa1r _ _ rfl rfl) ?_))
        refine bodyPost_ret (v:=.agg (wayC k D (.slice ao m c) (.pointer (some ⟨g,0,none⟩)) pl fd).toArray) ?_ rfl ⟨m,_,_,_,_,rfl,WayAt0.fin ⟨⟨gs,hgl,xa9d hof hgl,fun i hi=>uh HTs i hi⟩,Or.inr ⟨hsg,g,rfl,hb,hpl.symm,hfd.symm⟩,hmk⟩ (uh HTS) (uh HAG _ _ (uh HKw) hkf (by have:=uh HZs; simp; omega)),hkf⟩
        exact results_cell_row rfl _ _ (w.heap.size + 1) _ (wayC k D (.slice ao m c) (.pointer (some ⟨g,0,none⟩)) pl fd).toArray (0,0) _ rfl (setRow_heap _ _ _ _ _ _ (uh HZ6)) Tryz.underlying102 rfl (by rw [hnwA]; exact Tryz.size_way)
      | false =>
        have hdeep:m < 2 * k:=deep hH (dn_on m).pre hsg
        obtain ⟨f,hf⟩:∃ f,64 - m = f + 1:=⟨63 - m,by omega⟩
        rw [hf] at ht
        obtain ⟨g,_,_,e,_⟩:=ht.2 hsg
        subst e
        have hfm2:63 - f = m:=by omega
        have hd16:=dgt_lt hDg.2 m
        have HT:=hide ht
        have hnx:=uh HDn m
        have hTm:TreeAt T (hsZ k) wr (64 - m) (brV g) (dnL (hsZ k) q L m):=by rw [hf]; exact ht
        have HTm:=hide hTm
        clear hTm
        obtain ⟨cw0,cw1,cw2,cw3,cw4,cw5⟩:=xa0s (uh HRw) hDl
        clear cw0 cw1 cw3 cw4 cw5 ht
        go_wp2_with (refine wpList_load_row rfl 58 (.tmp 6) rfl w.heap.size rfl 58 (brow D) (0,0) _ (uh HDw) Tryz.underlying58 rfl (by rw [xa0a,hDl]; exact Tryz.size_dig) ?_)
        refine Calls.mono (xa2f k D m wr hk hDg hfm hdeep) ?_
        rintro e W3 ⟨rfl,k3⟩
        have HK3:=hide ((uh HKw).trans k3 (by simp))
        have HR3:=hide (k3.heap (uh HRw) (by simp))
        have HZ3:=hide (k3.heap (uh HZw) (by simp))
        have HD3:=hide (k3.heap (uh HDw) (by simp))
        have HO3:=hide (k3.owns (uh HOw) (by simp))
        have HA3:=hide (uh HAG wr W3 (uh HKw) (uh HK3) k3.size)
        clear k3
        obtain ⟨x,hx⟩:∃ x,dgt D m = x:=⟨_,rfl⟩
        rw [hx] at hd16 hnx ⊢
        go_wp2_with fail
        refine Calls.mono (xb8r T (hsZ k) f g x (dnL (hsZ k) q L m) W3 ((uh HT).agr (uh HA3)) hsg hd16) ?_
        rintro e W4 ⟨v4,rfl,hk4,k4⟩
        rw [hfm2,hnx,show f = 64 - (m + 1) by omega] at hk4
        have HK4:=hide ((uh HK3).trans k4 (by simp))
        have HR4:=hide (k4.heap (uh HR3) (by simp))
        have HZ4:=hide (k4.heap (uh HZ3) (by simp))
        have HD4:=hide (k4.heap (uh HD3) (by simp))
        have HO4:=hide (k4.owns (uh HO3) (by simp))
        have hz4:=Nat.le_trans (uh HA3).1 k4.size
        have HKd4:=hide hk4
        clear k4 hk4 HK3 HR3 HZ3 HD3 HO3 HA3 HT cw2
        obtain ⟨cw0,cw1,cw2,cw3,cw4,cw5⟩:=xa0s (uh HR4) hDl
        clear cw0 cw1 cw3 cw4 cw5
        have hrl:=xb7b (t:=112) (l:=[.pointer (some ⟨g,0,none⟩)]) (heap_alloc_new W4 (.cells #[.pointer (some ⟨g,0,none⟩)] 112)) (by simp)
        have HRL:=hide hrl
        have hb4:=(uh HK4).size
        have hka:=(Kept.refl [] W4).alloc (.cells #[.pointer (some ⟨g,0,none⟩)] 112)
        have HO5:=hide (hka.owns (uh HO4) (by simp))
        have HR5:=hide (hka.heap (uh HR4) (by simp))
        have HZ5:=hide (hka.heap (uh HZ4) (by simp))
        have HD5:=hide (hka.heap (uh HD4) (by simp))
        have HK5:=hide ((uh HK4).trans hka (by simp))
        have hz5:=Nat.le_trans hz4 hka.size
        have hz45:=hka.size
        clear hrl hka
        go_wp2_with (at_builtin; refine xa1q rfl 99 112 (.tmp 30) (.tmp 32) rfl rfl (W4.alloc (.cells #[.pointer (some ⟨g,0,none⟩)] 112)) w.heap.size (.pointer none) 1 8 Tryz.underlying99 Tryz.infoPB rfl (by decide) (.slice ao m c) m (ptrs gs).flatten (uh HO5) (some ⟨W4.heap.size,0,none⟩) 1 1 (ptrs [g]) (uh HRL) (xa7r [g]).1 (xa7r [g]).2 (by omega) (by omega) (uh HK5).size rfl rfl ?_; intro ao6 c6 W6 HO6 HG6 HA6; have hk56:=(Kept.refl ((Value.slice ao m c).ownBlock.toList) _).grown (uh HG6) (by intro x hx; left; simp [hx]); have HR6:=hide (hk56.heap (uh HR5) (by intro hm; exact xa3e (uh HO5) (uh HR5) (by decide) (by simpa using hm))); have HZ6:=hide (hk56.heap (uh HZ5) (by intro hm; exact xa3e (uh HO5) (uh HZ5) (by decide) (by simpa using hm))); have HD6:=hide (hk56.heap (uh HD5) (by intro hm; exact xa3e (uh HO5) (uh HD5) (by decide) (by simpa using hm))); have HK6:=hide ((uh HK5).grown (uh HG6) (by intro x hx; right; exact ((uh HO5).lt x hx).1)); have hz6:=Nat.le_trans hz5 hk56.size; have hz46:=Nat.le_trans hz45 hk56.size; obtain ⟨cv0,cv1,cv2,cv3,cv4,cv5⟩:=xa0s (uh HR6) hDl; have cz:=frozen_of_row _ (w.heap.size + 2) 33 _ _ (uh HR6); clear hk56 cv0 cv1 cv3 cv4 cv5 cw2)
        have HR7:=hide ((xa8b (uh HR6) hDl).1 (.slice ao6 (m + 1) c6))
        have HK7:=hide ((uh HK6).setCell (p:=⟨w.heap.size + 2,33,none⟩) (Or.inr (by show w.heap.size≤w.heap.size + 2; omega)) (.slice ao6 (m + 1) c6))
        have hko:=(Kept.refl [w.heap.size + 2] W6).setCell (p:=⟨w.heap.size + 2,33,none⟩) (Or.inl (by simp)) (.slice ao6 (m + 1) c6)
        have HZ7:=hide (hko.heap (uh HZ6) (by simp))
        have HD7:=hide (hko.heap (uh HD6) (by simp))
        have HO7:=hide (hko.owns (uh HO6) (fun x hx hm=>xa3e (uh HO6) (uh HR6) (by decide) (by rw [List.mem_singleton] at hm; rw [← hm]; exact hx)))
        have hz7:wr.heap.size≤(W6.setCell ⟨w.heap.size + 2,33,none⟩ (.slice ao6 (m + 1) c6)).heap.size:=by simp; omega
        refine ⟨⟨m + 1,v4,ao6,c6,gs++[g],rfl,by rw [List.length_append,hgl]; rfl,by omega,hide ((uh HKd4).agr (uh HAG _ _ (uh HK4) (uh HK7) (by simp; omega))),hide (fun i hi=>?_),hide (by rw [show (ptrs (gs++[g])).flatten = (ptrs gs).flatten++(ptrs [g]).flatten by simp [ptrs]]; exact uh HO7),HR7,HZ7,HD7,HK7⟩,?_⟩
        · rcases Nat.lt_or_ge i m with h9 | h9
          · have h8:=uh HTs i h9
            rw [show (gs++[g]).getD i 0 = gs.getD i 0 by rw [List.getD_eq_getElem?_getD,List.getD_eq_getElem?_getD,List.getElem?_append_left (by omega)]]
            exact ⟨h8.1.agr (uh HAG _ _ (uh HKw) (uh HK7) hz7),h8.2⟩
          · obtain rfl:i = m:=by omega
            rw [show (gs++[g]).getD i 0 = g by rw [List.getD_eq_getElem?_getD,List.getElem?_append_right (by omega),hgl,Nat.sub_self]; rfl]
            exact ⟨(uh HTm).agr (uh HAG _ _ (uh HKw) (uh HK7) hz7),hsg⟩
        · rw [wyM_at (uh HR7) hDl,wyM_at (uh HRw) hDl]; omega
end
section
open Go Go.RowKit Go.BigFrame
theorem ChL.st {P:Program} {Q:Exit→Act→World→Prop} {S:World→Prop} {F:Act→World→Prop} {cs:List Oper} {o:Oper} {a A:Act} {w:World} (ty:TypeId) (x y:Operand) (ho:o.op = .store ty x y) (g:Nat) (cells:Array Value) (hx:a.eval x = .pointer (some ⟨g,0,none⟩)) (hy:a.eval y = .agg cells)
    (t:TypeId) (old:Array Value) (hg:w.heap[g]? = some (.cells old t (0,0))) (hi:(P.info? ty).map (·.size) = some cells.size) (hold:old.size = cells.size) (h1:cells.all (·.oneCell') = true) (hS:S (w.setRow g cells)) (p:a.put o.dst undef = A) (h:ChL P Q S F cs A (w.setRow g cells)):ChL P Q S F (o :: cs) a w:=by
  unfold ChL
  rw [← p] at h
  exact wp_store_row ty x y ho g cells hx hy t old hg hi hold h1 ⟨hS,h⟩
theorem ln_wd {P:Program} {Q:Exit→Act→World→Prop} {id:Nat} {o0 o1 o2 o3 o4 o5 o6 o7 o8 o9 o10 o11 o12:Oper} {a:Act} {w:World} (hm:P.follows .mixedOrders = true) (hb:linB #[o0,o1,o2,o3,o4,o5,o6,o7,o8,o9,o10,o11,o12] [0,1,2,3,4,5,6,7,8,9] [10,11,12] [] = true) (hg:([o0,o1,o2,o3,o4,o5,o6,o7,o8,o9]++([o10,o11,o12]++[])).all (fun o=>o.guard.isNone) = true) (S:World→Prop) (hS:S w.drew)
    (h:LinY P S (ChL P Q S (Q .normal) [o10,o11,o12]) [o0,o1,o2,o3,o4,o5,o6,o7,o8,o9] a w.drew):(Code.region id #[o0,o1,o2,o3,o4,o5,o6,o7,o8,o9,o10,o11,o12] true).wp P Q a w:=xa1n (R:=[0,1,2,3,4,5,6,7,8,9]) (C:=[10,11,12]) (rs:=[o0,o1,o2,o3,o4,o5,o6,o7,o8,o9]) (cs:=[o10,o11,o12]) hm hb rfl rfl hg hS h
theorem ln_pt {P:Program} {Q:Exit→Act→World→Prop} {id:Nat} {o0 o1 o2 o3 o4 o5 o6 o7 o8 o9 o10 o11 o12 o13:Oper} {a:Act} {w:World} (hm:P.follows .mixedOrders = true) (hb:linB #[o0,o1,o2,o3,o4,o5,o6,o7,o8,o9,o10,o11,o12,o13] [0,1,2,3,4,5,6,7] [8,9,10,11,12,13] [] = true) (hg:([o0,o1,o2,o3,o4,o5,o6,o7]++([o8,o9,o10,o11,o12,o13]++[])).all (fun o=>o.guard.isNone) = true) (S:World→Prop) (hS:S w.drew)
    (h:LinY P S (ChL P Q S (Q .normal) [o8,o9,o10,o11,o12,o13]) [o0,o1,o2,o3,o4,o5,o6,o7] a w.drew):(Code.region id #[o0,o1,o2,o3,o4,o5,o6,o7,o8,o9,o10,o11,o12,o13] true).wp P Q a w:=xa1n (R:=[0,1,2,3,4,5,6,7]) (C:=[8,9,10,11,12,13]) (rs:=[o0,o1,o2,o3,o4,o5,o6,o7]) (cs:=[o8,o9,o10,o11,o12,o13]) hm hb rfl rfl hg hS h
theorem ln_gt {P:Program} {Q:Exit→Act→World→Prop} {id:Nat} {o0 o1 o2 o3 o4 o5 o6 o7 o8 o9 o10 o11 o12 o13:Oper} {a:Act} {w:World} (hm:P.follows .mixedOrders = true) (hb:linB #[o0,o1,o2,o3,o4,o5,o6,o7,o8,o9,o10,o11,o12,o13] [0,1,2,3,4,5,6,7,8,9] [10,11,12,13] [] = true) (hg:([o0,o1,o2,o3,o4,o5,o6,o7,o8,o9]++([o10,o11,o12,o13]++[])).all (fun o=>o.guard.isNone) = true) (S:World→Prop) (hS:S w.drew)
    (h:LinY P S (ChL P Q S (Q .normal) [o10,o11,o12,o13]) [o0,o1,o2,o3,o4,o5,o6,o7,o8,o9] a w.drew):(Code.region id #[o0,o1,o2,o3,o4,o5,o6,o7,o8,o9,o10,o11,o12,o13] true).wp P Q a w:=xa1n (R:=[0,1,2,3,4,5,6,7,8,9]) (C:=[10,11,12,13]) (rs:=[o0,o1,o2,o3,o4,o5,o6,o7,o8,o9]) (cs:=[o10,o11,o12,o13]) hm hb rfl rfl hg hS h
end
section
open Go.RowKit Go.BigFrame
def notPtr:Value→Bool
  | .pointer (some _)=>false
  | _=>true
theorem zwy_np:zwy.all notPtr = true:=by kernel_rfl
theorem RdC.off {W W':World} {cr:Value} {gs:List Nat} {g:Nat} {t:TypeId} (h:RdC 1 W cr (ptrs gs)) (hz:W.heap[g]? = some (.cells zwy t (0,0))) (k:Kept [g] W W'):RdC 1 W' cr (ptrs gs):=by
  obtain ⟨ao,n,c,rfl,h1,h2,h3,h4⟩:=h
  refine ⟨ao,n,c,rfl,h1,h2,h3,fun h0=>?_⟩
  obtain ⟨b,off,rfl,h5⟩:=h4 h0
  have hb:b≠g:=by
    intro e
    subst e
    have hl:0 < (ptrs gs).length:=by omega
    have h6:=h5 0 hl 0 (.pointer (some ⟨gs.getD 0 0,0,none⟩)) (by
      have:0 < gs.length:=by rw [ptrs,List.length_map] at hl; exact hl
      simp [ptrs,List.getD_eq_getElem?_getD,List.getElem?_eq_getElem this])
    rw [cell_of_row _ _ _ _ _ _ hz] at h6
    have h7:=Array.mem_of_getElem? h6
    have h8:=(Array.all_eq_true_iff_forall_mem.1 zwy_np) _ h7
    exact absurd h8 (by simp [notPtr])
  exact ⟨b,off,rfl,fun i hi=>k.rng (h5 i hi) (by simp; exact hb)⟩
theorem WayAt.put {S T:Nat→Prop} {k:Nat} {W W':World} {q:List Nat} {L:Prs} {m:Nat} {cr en:Value} {pl:Nat} {fd:Bool} (h:WayAt T k W q L m cr en pl fd) (hs:∀ x,T x→S x) (kk:Agr T W W') (hc:∀ gs,RdC 1 W cr (ptrs gs)→RdC 1 W' cr (ptrs gs)):WayAt S k W' q L m cr en pl fd:=by
  obtain ⟨⟨gs,h1,h2,h3⟩,h4,h5⟩:=h
  refine ⟨⟨gs,h1,hc gs h2,fun i hi=>⟨((h3 i hi).1.agr kk).mono hs,(h3 i hi).2⟩⟩,?_,h5⟩
  rcases h4 with h4 | ⟨h4,g,h6,h7,h8⟩
  · exact Or.inl h4
  · exact Or.inr ⟨h4,g,h6,(h7.agr kk).mono hs,h8⟩
theorem WayAt.cells {S:Nat→Prop} {k:Nat} {W:World} {q:List Nat} {L:Prs} {m:Nat} {cr en:Value} {pl:Nat} {fd:Bool} (h:WayAt S k W q L m cr en pl fd):cr.oneCell' = true∧en.oneCell' = true:=by
  obtain ⟨⟨gs,_,⟨_,_,_,rfl,_⟩,_⟩,h4,_⟩:=h
  rcases h4 with ⟨_,rfl,_⟩ | ⟨_,g,rfl,_⟩ <;> exact ⟨rfl,rfl⟩
set_option maxHeartbeats 2000000 in
theorem xa2v (S:Nat→Prop) (k:Nat) (mv kv:Value) (L:Prs) (q:List Nat) (w:World) (hM:MapAt S k w mv L) (hu:Rd w kv q) (hq:q.length≤64) (hT:Tabs w) :
    Calls Tryz.prog 49 #[mv,kv] w fun e w'=>∃ m cr en pl fd,e = .returned (.tuple #[.agg (wayC k ((hsZ k).kd q) cr en pl fd).toArray,.int .i64 0])∧WayAt S k w' q L m cr en pl fd∧Kept [] w w':=by
  obtain ⟨hk,hs,hfit,hlen,g,tv,rfl,hSg,hh,htop⟩:=hM
  have hH:=hsZ_ok hk
  have hkid:KidAt S (hsZ k) w 64 tv L:=htop
  have HT:=hide (hkid.shrink hH)
  obtain ⟨ua,un,uc,rfl,hul,_⟩:=id hu
  have hun:un≤64:=by omega
  have hu1:¬ (64:Int) < un:=by omega
  have hu2:¬ (un:Int) > 64:=by omega
  have c0:w.cell? ⟨g,0,none⟩ = some (.int .i64 k):=by rw [cell_of_row _ _ _ _ _ _ hh]; rfl
  have c2:w.cell? ⟨g,2,none⟩ = some tv:=by rw [cell_of_row _ _ _ _ _ _ hh]; rfl
  have HU:=hide hu
  have HTb:=hide hT
  have HSr:=hide hs
  have hk0:=(Kept.refl [] w).alloc (.cells zwy 102)
  have HK0:=hide hk0
  have c0a:∀ o,(w.alloc o).cell? ⟨g,0,none⟩ = some (.int .i64 k):=fun o=>((Kept.refl [] w).alloc o).cell c0 (by simp)
  have HC0:=hide c0
  have HC2:=hide c2
  have hE:sumE (k:Int) = 0:=by unfold sumE; rw [wide_k hk]; rfl
  have HE:=hide hE
  have hdl:(sumD (k:Int) (2 :: q)).length = 32:=xa1g _ _
  obtain ⟨D,hD⟩:∃ D,sumD (k:Int) (2 :: q) = D:=⟨_,rfl⟩
  have HD:=hide hD
  rw [hD] at hdl
  have HKD:=hide (show (hsZ k).kd q = D from hD)
  clear hkid htop hh hT hs hk0 hul hD hE c2
  go_enter Tryz.func49,Tryz.ntmps49
  go_wp2_with fail
  rw [xa3a]
  refine Calls.mono (xa6d k _ q _ (by omega) ((uh HU).old (uh HK0) (by simp)) (by omega) ((uh HTb).k (uh HK0))) ?_
  rintro e w1 ⟨rfl,k1⟩
  rw [uh HD,uh HE]
  have HZ1:=hide (k1.heap (heap_alloc_new w (.cells zwy 102)) (by simp))
  have HK1:=hide ((uh HK0).trans k1 (by simp))
  have hz1:=lt_of_block (uh HZ1)
  clear k1 c0 c0a
  have HN1:=hide (heap_alloc_new w1 (.cells (zb 32) 58))
  have HZ2:=hide (((Kept.refl [w1.heap.size] w1).alloc (.cells (zb 32) 58)).setRow (g:=w1.heap.size) (Or.inl (by simp)) (brow D) |>.heap (uh HZ1) (by simp; omega))
  have HN2:=hide (setRow_heap _ _ _ (brow D) _ _ (uh HN1))
  have HK2:=hide ((uh HK1).alloc (.cells (zb 32) 58) |>.setRow (g:=w1.heap.size) (Or.inr (uh HK1).size) (brow D))
  go_upto_region 8 with (rw [zb32]; refine wpList_store_row rfl 58 _ _ rfl w1.heap.size (brow D) rfl rfl _ (zb 32) (uh HN1) (by rw [xa0a,hdl]; exact Tryz.size_dig) (by rw [xa0d,xa0a,hdl]) (xa0c _) ?_)
  try simp only [Act.put]
  generalize (w1.alloc (.cells (zb 32) 58)).setRow w1.heap.size (brow D) = W2 at HZ2 HN2 HK2 ⊢
  have hgne:g≠w.heap.size:=by have:=block_lt_of_cell (uh HC0); simp at this; omega
  have HRD:=hide (xa0t [] (D.map u8) [] (by rw [List.nil_append,List.append_nil]; exact uh HN2) rfl)
  have HV0:=hide ((uh HK2).cell (uh HC0) (by simp))
  have HV2:=hide ((uh HK2).cell (uh HC2) (by simp))
  refine ln_wd (by kernel_rfl) (by kernel_rfl) rfl (fun W=>Kept [w.heap.size] W2 W) (Kept.refl _ W2).drew ?_
  refine LinY.mv (x:=.tmp 0) rfl (.pointer (some ⟨g,0,none⟩)) rfl (by simp only [Act.put,sa1,sa2,sa3]; rfl) ?_
  refine LinY.rd (.pointer (some ⟨g,0,none⟩)) (fun W hW=>by go_simp) (by simp only [Act.put,sa1,sa2,sa3]; rfl) ?_
  refine LinY.rd (.pointer (some ⟨g,0,none⟩)) (fun W hW=>by go_simp) (by simp only [Act.put,sa1,sa2,sa3]; rfl) ?_
  refine LinY.rd (.int .i64 k) (fun W hW=>by have h9:=hW.cell (uh HV0) (by simp; exact hgne); go_simp) (by simp only [Act.put,sa1,sa2,sa3]; rfl) ?_
  refine LinY.mv (x:=.tmp 0) rfl (.pointer (some ⟨g,0,none⟩)) rfl (by simp only [Act.put,sa1,sa2,sa3]; rfl) ?_
  refine LinY.rd (.pointer (some ⟨g,0,none⟩)) (fun W hW=>by go_simp) (by simp only [Act.put,sa1,sa2,sa3]; rfl) ?_
  refine LinY.rd (.pointer (some ⟨g,2,none⟩)) (fun W hW=>by go_simp) (by simp only [Act.put,sa1,sa2,sa3]; rfl) ?_
  refine LinY.rd (tv) (fun W hW=>by have h9:=hW.cell (uh HV2) (by simp; exact hgne); go_simp) (by simp only [Act.put,sa1,sa2,sa3]; rfl) ?_
  refine LinY.ld 58 (.tmp 6) rfl w1.heap.size 0 rfl (D.map u8) _ (fun W hW=>hW.rng (uh HRD) (by simp; omega)) Tryz.underlying58 rfl (by rw [List.length_map,hdl]; exact Tryz.size_dig) (by simp only [Act.put,sa1,sa2,sa3]; rfl) ?_
  refine LinY.mv (x:=.tmp 1) rfl (.slice ua un uc) rfl (by simp only [Act.put,sa1,sa2,sa3]; rfl) ?_
  have hd2:=(Kept.refl [] W2).drew
  have hkd2:=(uh HK2).trans hd2 (by simp)
  have hwo:=xb4f (lowS S w) k tv L (.slice ua un uc) q W2.drew hk ((uh HT).agr (Agr.nil hkd2)) (uh HSr) ((uh HU).old hkd2 (by simp)) hlen
  rw [uh HKD] at hwo
  refine ChL.call rfl Tryz.call80 [.int .i64 k,tv,.agg (brow D),.slice ua un uc] rfl hwo ?_
  rintro e w3 ⟨m,cr,en,pl,fd,rfl,hway,k3⟩
  have hk3:=hd2.trans k3 (by simp)
  refine ⟨_,rfl,hk3.mono (by simp),?_⟩
  simp only [Act.put,sa1,sa2,sa3]
  have hz3:=hk3.heap (uh HZ2) (by simp)
  have hcl:=hway.cells
  have hws:((wayC k D cr en pl fd).toArray).size = 37:=by rw [List.size_toArray,xa1f hdl]
  have hkf:=(Kept.refl [w.heap.size] w3).setRow (g:=w.heap.size) (Or.inl (by simp)) (wayC k D cr en pl fd).toArray
  have hks:=((uh HK2).trans hk3 (by simp)).setRow (g:=w.heap.size) (Or.inr (Nat.le_refl _)) (wayC k D cr en pl fd).toArray
  have hwf:=hway.put (S:=S) (xb2w S w) (Agr.kept hkf (by intro x hx hlo; rw [List.mem_singleton] at hx; have:=hlo.2; omega)) (fun gs h=>h.off hz3 hkf)
  have hrf:=setRow_heap _ _ _ (wayC k D cr en pl fd).toArray _ _ hz3
  have hk3f:=(hk3.mono (M:=[w.heap.size]) (by simp)).trans hkf (by simp)
  refine ChL.st 102 (.tmp 4) (.tmp 40) rfl w.heap.size (wayC k D cr en pl fd).toArray rfl rfl _ zwy hz3 (by rw [hws]; exact Tryz.size_way) (by rw [hws]; rfl) (xa1r _ _ hcl.1 hcl.2) hk3f (by simp only [Act.put]; rfl) ?_
  refine ChL.op (.int .i64 0) (by go_simp) hk3f (by simp only [Act.put,sa1,sa2,sa3]; rfl) (ChL.fin ?_)
  go_wp2
  refine bodyPost_ret (v:=.tuple #[.agg (wayC k D cr en pl fd).toArray,.int .i64 0]) ?_ rfl ⟨m,cr,en,pl,fd,by rw [uh HKD],hwf,hks⟩
  exact xa0g rfl _ _ w.heap.size _ (wayC k D cr en pl fd).toArray (0,0) _ rfl hrf Tryz.underlying102 rfl (by rw [hws]; exact Tryz.size_way) _ rfl
abbrev VP:=Value × Value
def PR (S:Nat→Prop) (W:World) (l:List VP) (L:Prs):Prop:=l.length = L.length∧∀ i,i < l.length→Sty S W (fun w=>Rd w (l.getD i (undef,undef)).1 (L.getD i ([],[])).1∧Rd w (l.getD i (undef,undef)).2 (L.getD i ([],[])).2)
theorem PR.agr {S:Nat→Prop} {W W':World} {l:List VP} {L:Prs} (h:PR S W l L) (a:Agr S W W'):PR S W' l L:=⟨h.1,fun i hi=>(h.2 i hi).agr a⟩
theorem PR.nil (S:Nat→Prop) (W:World):PR S W [] []:=⟨rfl,fun i h=>by simp at h⟩
theorem PR.one {S:Nat→Prop} {W:World} {x y:Value} {a b:List Nat} (hx:Sty S W (fun w=>Rd w x a)) (hy:Sty S W (fun w=>Rd w y b)):PR S W [(x,y)] [(a,b)]:=⟨rfl,fun i hi=>by
  have:i = 0:=by simp at hi; omega
  subst this; exact fun w k=>⟨hx w k,hy w k⟩⟩
theorem PR.app {S:Nat→Prop} {W:World} {a b:List VP} {A B:Prs} (h:PR S W a A) (k:PR S W b B):PR S W (a++b) (A++B):=by
  refine ⟨by rw [List.length_append,List.length_append,h.1,k.1],fun i hi=>?_⟩
  rw [List.length_append] at hi
  by_cases hlt:i < a.length
  · have h1:=h.2 i hlt
    simp only [List.getD_eq_getElem?_getD,List.getElem?_append_left hlt,List.getElem?_append_left (show i < A.length by rw [← h.1]; exact hlt)] at h1 ⊢
    exact h1
  · have h1:=k.2 (i - a.length) (by omega)
    have e1:(a++b)[i]? = b[i - a.length]?:=List.getElem?_append_right (by omega)
    have e2:(A++B)[i]? = B[i - a.length]?:=by rw [List.getElem?_append_right (by rw [← h.1]; omega),← h.1]
    simp only [List.getD_eq_getElem?_getD,e1,e2] at h1 ⊢
    exact h1
theorem PR.tk {S:Nat→Prop} {W:World} {a:List VP} {A:Prs} (h:PR S W a A) (m:Nat):PR S W (a.take m) (A.take m):=by
  refine ⟨by rw [List.length_take,List.length_take,h.1],fun i hi=>?_⟩
  rw [List.length_take] at hi
  have h1:=h.2 i (by omega)
  simp only [List.getD_eq_getElem?_getD,List.getElem?_take_of_lt (show i < m by omega)] at h1 ⊢
  exact h1
theorem PR.dp {S:Nat→Prop} {W:World} {a:List VP} {A:Prs} (h:PR S W a A) (m:Nat):PR S W (a.drop m) (A.drop m):=by
  refine ⟨by rw [List.length_drop,List.length_drop,h.1],fun i hi=>?_⟩
  rw [List.length_drop] at hi
  have h1:=h.2 (m + i) (by omega)
  simp only [List.getD_eq_getElem?_getD,List.getElem?_drop] at h1 ⊢
  exact h1
def kvR (l:List VP):List (List Value):=l.map fun p=>[p.1,p.2]
theorem xa0z (l:List VP):(kvR l).length = l.length:=by simp [kvR]
theorem kvR_at (l:List VP) (i:Nat) (hi:i < l.length):(kvR l)[i]'(by rw [xa0z]; exact hi) = [l[i].1,l[i].2]:=by simp [kvR]
theorem xb5l (a b:List VP):kvR (a++b) = kvR a++kvR b:=by simp [kvR]
theorem PR.cell {S:Nat→Prop} {W:World} {l:List VP} {L:Prs} (h:PR S W l L):(∀ r∈kvR l,r.length = 2)∧∀ r∈kvR l,∀ u∈r,u.oneCell' = true:=by
  constructor
  · intro r hr; obtain ⟨p,_,rfl⟩:=List.mem_map.1 hr; rfl
  · intro r hr u hu
    obtain ⟨p,hp,rfl⟩:=List.mem_map.1 hr
    obtain ⟨i,hi,rfl⟩:=List.getElem_of_mem hp
    have h1:=(h.2 i hi).now
    simp only [List.getD_eq_getElem?_getD,List.getElem?_eq_getElem hi,Option.getD_some] at h1
    obtain ⟨⟨a1,n1,c1,e1,_⟩,⟨a2,n2,c2,e2,_⟩⟩:=h1
    rw [e1,e2] at hu
    simp only [List.mem_cons,List.not_mem_nil,or_false] at hu
    rcases hu with rfl | rfl <;> rfl
theorem KRow.pr {S:Nat→Prop} {W:World} {pv:Value} {L:Prs} (h:KRow S W pv L):∃ b off cap l,pv = .slice (some ⟨b,off,none⟩) l.length cap∧PR S W l L∧RdC 2 W pv (kvR l)∧l.length≤cap∧cap≤9223372036854775807:=by
  obtain ⟨b,off,cap,l,rfl,h2,h3,h4,h5,h6,h7⟩:=h
  refine ⟨b,off,cap,l,rfl,⟨h5,h7⟩,⟨_,_,_,rfl,xa0z l,h2,h3,fun _=>⟨b,off,rfl,fun i hi j u hu=>?_⟩⟩,h2,h3⟩
  rw [xa0z] at hi
  have h8:=h6 i hi
  simp only [List.getD_eq_getElem?_getD,List.getElem?_eq_getElem hi,Option.getD_some] at h8
  have e:(kvR l)[i]'(by rw [xa0z]; exact hi) = [l[i].1,l[i].2]:=by simp [kvR]
  rw [e] at hu
  match j,hu with
  | 0,hu=>rw [Nat.add_zero,h8.1]; exact hu
  | 1,hu=>rw [h8.2]; exact hu
theorem xb1w {S:Nat→Prop} {w:World} {v:Value} {B:Nat} {a b c:List VP} {L:Prs} (h:OwC 33 2 B w v [kvR a,kvR b,kvR c]) (hp:PR S w (a++(b++c)) L) (hn:L≠[]) (hl:(a++(b++c)).length≤1000000000000) (hS:∀ y,B≤y→S y):KRow S w v L:=by
  unfold OwC at h
  have e1:[kvR a,kvR b,kvR c].flatten = kvR (a++(b++c)):=by simp [xb5l]
  rw [e1,xa0z] at h
  have hr:=xa4z (by rw [xa0z]; exact h) hp.cell.1
  have h0:0 < (a++(b++c)).length:=by rw [hp.1]; cases L with
    | nil=>exact absurd rfl hn
    | cons _ _=>simp
  rcases h.2 with ⟨_,h9⟩ | ⟨g,cap,cur,rfl,hg,hh,hc,hm,_⟩
  · omega
  · refine ⟨g,0,cap,a++(b++c),rfl,hc,by unfold maxLen at hm; omega,hS g hg,hp.1,fun i hi=>?_,hp.2⟩
    obtain ⟨_,_,_,e9,_,_,_,hcell⟩:=hr
    cases e9
    obtain ⟨b',off',e8,hce⟩:=hcell h0
    cases e8
    have h7:=hce i (by rw [xa0z]; exact hi)
    have e:(kvR (a++(b++c)))[i]'(by rw [xa0z]; exact hi) = [(a++(b++c))[i].1,(a++(b++c))[i].2]:=kvR_at _ i hi
    rw [e] at h7
    simp only [List.getD_eq_getElem?_getD,List.getElem?_eq_getElem hi,Option.getD_some]
    exact ⟨h7 0 _ rfl,h7 1 _ rfl⟩
set_option maxHeartbeats 2000000 in
theorem xb0k (S:Nat→Prop) (k:Nat) (D:List Nat) (cr:Value) (g pl:Nat) (fd:Bool) (E:Prs) (iv:Value) (its:List VP) (IL:Prs) (w:World) (hD:D.length = 32) (hb:BkAt S (hsZ k) w g E) (hpl:pl + (if fd = true then 1 else 0)≤E.length) (hl:E.length≤1000000000) (hi:RdC 2 w iv (kvR its)) (hpi:PR S w its IL) (hil:its.length≤1) (hn:E.take pl++(IL++E.drop (pl + if fd = true then 1 else 0))≠[]) (hS:∀ y,w.heap.size≤y→S y) :
    Calls Tryz.prog 84 #[.agg (wayC k D cr (.pointer (some ⟨g,0,none⟩)) pl fd).toArray,iv] w fun e w'=>∃ ao n c,e = .returned (.slice ao n c)∧KRow S w' (.slice ao n c) (E.take pl++(IL++E.drop (pl + if fd = true then 1 else 0)))∧Kept [] w w':=by
  obtain ⟨pv,hSg,hh,hne,hkr⟩:=hb
  have hkd:((hsZ k).kd (E.headD ([],[])).1).length = 32:=xa1g _ _
  have c1:=(bk_row hh hkd).2.1
  obtain ⟨b,off,cap,l,rfl,hpr,hrd,hc1,hc2⟩:=hkr.pr
  have HK0:=hide ((Kept.refl [] w).alloc (.cells (wayC k D cr (.pointer (some ⟨g,0,none⟩)) pl fd).toArray 102))
  have HG0:=hide (heap_alloc_new w (.cells (wayC k D cr (.pointer (some ⟨g,0,none⟩)) pl fd).toArray 102))
  obtain ⟨cw0,cw1,cw2,cw3,cw4,cw5⟩:=xa0s (uh HG0) hD
  have HC1:=hide ((uh HK0).cell c1 (by simp))
  have HW3:=hide cw3
  have HW4:=hide cw4
  have HPR:=hide hpr
  have HRD:=hide hrd
  have HI:=hide hi
  have HPI:=hide hpi
  have hll:=hpr.1
  obtain ⟨n,hnn⟩:∃ n,l.length = n:=⟨_,rfl⟩
  rw [hnn] at hrd HRD hc1 hll HC1 c1
  have HN:=hide hnn
  have HLL:=hide hll
  rw [← hll] at hpl hl
  have hcell:=hpr.cell
  have hcelli:=hpi.cell
  clear cw0 cw1 cw2 cw3 hpr hrd hkr hh hi hpi hnn hll c1
  obtain ⟨ai,ni,ci,rfl,hi1,_⟩:=id (uh HI)
  rw [xa0z] at hi1
  subst hi1
  obtain ⟨to,hto⟩:∃ t,pl + (if fd = true then 1 else 0) = t:=⟨_,rfl⟩
  rw [hto] at hpl hn ⊢
  have HTo:=hide hto
  go_enter Tryz.func84,Tryz.ntmps84
  have key:∃ t5:Value,t5 = .int .i64 (to:Int):=⟨_,rfl⟩
  cases fd with
  | true =>
    have e1:(pl:Int) + 1 = (to:Int):=by have:=uh HTo; simp at this; omega
    have e2:IntKind.i64.wrap ((pl:Int) + 1) = (to:Int):=by rw [e1]; simp [IntKind.wrap,IntKind.signed,IntKind.bits]; omega
    go_upto_region 4 with fail
    refine ln_ar (by kernel_rfl) (by kernel_rfl) rfl (fun W=>Kept [] (w.alloc (.cells (wayC k D cr (.pointer (some ⟨g,0,none⟩)) pl true).toArray 102)) W) (Kept.refl [] _).drew ?_
    refine LinY.rd (.pointer (some ⟨w.heap.size,34,none⟩)) (fun W hW=>by go_simp) (by simp only [Act.put,sa1,sa2,sa3]; rfl) ?_
    refine LinY.rd (.pointer (some ⟨g,0,none⟩)) (fun W hW=>by have h9:=hW.cell (uh HW3) (by simp); go_simp) (by simp only [Act.put,sa1,sa2,sa3]; rfl) ?_
    refine LinY.rd (.pointer (some ⟨g,0,none⟩)) (fun W hW=>by go_simp) (by simp only [Act.put,sa1,sa2,sa3]; rfl) ?_
    refine LinY.rd (.pointer (some ⟨g,32,none⟩)) (fun W hW=>by go_simp) (by simp only [Act.put,sa1,sa2,sa3]; rfl) ?_
    refine LinY.rd (.slice (some ⟨b,off,none⟩) n cap) (fun W hW=>by have h9:=hW.cell (uh HC1) (by simp); go_simp) (by simp only [Act.put,sa1,sa2,sa3]; rfl) ?_
    refine LinY.rd (.pointer (some ⟨w.heap.size,35,none⟩)) (fun W hW=>by go_simp) (by simp only [Act.put,sa1,sa2,sa3]; rfl) ?_
    refine LinY.rd (.int .i64 pl) (fun W hW=>by have h9:=hW.cell (uh HW4) (by simp); go_simp) (by simp only [Act.put,sa1,sa2,sa3]; rfl) ?_
    refine LinY.mv (x:=.tmp 5) rfl (.int .i64 to) rfl (by simp only [Act.put,sa1,sa2,sa3]; rfl) ?_
    refine LinY.mv (x:=.tmp 1) rfl (.slice ai its.length ci) rfl (by simp only [Act.put,sa1,sa2,sa3]; rfl) ?_
    refine ChL.call rfl Tryz.call126 [.slice (some ⟨b,off,none⟩) n cap,.int .i64 pl,.int .i64 to,.slice ai its.length ci] rfl (xa3o b off n cap pl to _ (kvR l) (kvR its) _ ((uh HRD).old (((uh HK0)).drew)) ((uh HI).old ((uh HK0).drew)) (by omega) (by omega) (by omega) (by rw [xa0z]; omega) hcell.1 hcell.2 hcelli.1 hcelli.2) ?_
    rintro e w2 ⟨v',rfl,ho,k2⟩
    have hkw:=((Kept.refl [] (w.alloc (.cells (wayC k D cr (.pointer (some ⟨g,0,none⟩)) pl true).toArray 102))).drew).trans k2 (by simp)
    have hk2:=(uh HK0).trans hkw (by simp)
    refine ⟨v',rfl,hkw,?_⟩
    simp only [Act.put,sa1,sa2,sa3]
    have hkv:[(kvR l).take pl,kvR its,(kvR l).drop to] = [kvR (l.take pl),kvR its,kvR (l.drop to)]:=by simp [kvR,List.map_take,List.map_drop]
    rw [hkv] at ho
    have hpf:=(((uh HPR).tk pl).app ((uh HPI).app ((uh HPR).dp to))).agr (Agr.nil hk2)
    have hfin:=xb1w ho hpf hn (by have:=uh HN; simp; omega) (fun y hy=>hS y (by have:=(uh HK0).size; simp at hy; omega))
    obtain ⟨ao,n9,c9,e9⟩:∃ ao n c,v' = .slice ao n c:=by
      obtain ⟨b9,o9,c9,l9,e9,_⟩:=id hfin
      exact ⟨_,_,_,e9⟩
    subst e9
    refine ChL.op (.slice ao n9 c9) (by go_simp) hkw (by simp only [Act.put,sa1,sa2,sa3]; rfl) (ChL.fin ?_)
    go_wp2
    go_ret
    exact ⟨_,_,_,rfl,hfin,hk2⟩
  | false =>
    have e1:pl = to:=by have:=uh HTo; simpa using this
    subst e1
    go_upto_region 4 with fail
    refine ln_ar (by kernel_rfl) (by kernel_rfl) rfl (fun W=>Kept [] (w.alloc (.cells (wayC k D cr (.pointer (some ⟨g,0,none⟩)) pl false).toArray 102)) W) (Kept.refl [] _).drew ?_
    refine LinY.rd (.pointer (some ⟨w.heap.size,34,none⟩)) (fun W hW=>by go_simp) (by simp only [Act.put,sa1,sa2,sa3]; rfl) ?_
    refine LinY.rd (.pointer (some ⟨g,0,none⟩)) (fun W hW=>by have h9:=hW.cell (uh HW3) (by simp); go_simp) (by simp only [Act.put,sa1,sa2,sa3]; rfl) ?_
    refine LinY.rd (.pointer (some ⟨g,0,none⟩)) (fun W hW=>by go_simp) (by simp only [Act.put,sa1,sa2,sa3]; rfl) ?_
    refine LinY.rd (.pointer (some ⟨g,32,none⟩)) (fun W hW=>by go_simp) (by simp only [Act.put,sa1,sa2,sa3]; rfl) ?_
    refine LinY.rd (.slice (some ⟨b,off,none⟩) n cap) (fun W hW=>by have h9:=hW.cell (uh HC1) (by simp); go_simp) (by simp only [Act.put,sa1,sa2,sa3]; rfl) ?_
    refine LinY.rd (.pointer (some ⟨w.heap.size,35,none⟩)) (fun W hW=>by go_simp) (by simp only [Act.put,sa1,sa2,sa3]; rfl) ?_
    refine LinY.rd (.int .i64 pl) (fun W hW=>by have h9:=hW.cell (uh HW4) (by simp); go_simp) (by simp only [Act.put,sa1,sa2,sa3]; rfl) ?_
    refine LinY.mv (x:=.tmp 5) rfl (.int .i64 pl) rfl (by simp only [Act.put,sa1,sa2,sa3]; rfl) ?_
    refine LinY.mv (x:=.tmp 1) rfl (.slice ai its.length ci) rfl (by simp only [Act.put,sa1,sa2,sa3]; rfl) ?_
    refine ChL.call rfl Tryz.call126 [.slice (some ⟨b,off,none⟩) n cap,.int .i64 pl,.int .i64 pl,.slice ai its.length ci] rfl (xa3o b off n cap pl pl _ (kvR l) (kvR its) _ ((uh HRD).old (((uh HK0)).drew)) ((uh HI).old ((uh HK0).drew)) (by omega) (by omega) (by omega) (by rw [xa0z]; omega) hcell.1 hcell.2 hcelli.1 hcelli.2) ?_
    rintro e w2 ⟨v',rfl,ho,k2⟩
    have hkw:=((Kept.refl [] (w.alloc (.cells (wayC k D cr (.pointer (some ⟨g,0,none⟩)) pl false).toArray 102))).drew).trans k2 (by simp)
    have hk2:=(uh HK0).trans hkw (by simp)
    refine ⟨v',rfl,hkw,?_⟩
    simp only [Act.put,sa1,sa2,sa3]
    have hkv:[(kvR l).take pl,kvR its,(kvR l).drop pl] = [kvR (l.take pl),kvR its,kvR (l.drop pl)]:=by simp [kvR,List.map_take,List.map_drop]
    rw [hkv] at ho
    have hpf:=(((uh HPR).tk pl).app ((uh HPI).app ((uh HPR).dp pl))).agr (Agr.nil hk2)
    have hfin:=xb1w ho hpf hn (by have:=uh HN; simp; omega) (fun y hy=>hS y (by have:=(uh HK0).size; simp at hy; omega))
    obtain ⟨ao,n9,c9,e9⟩:∃ ao n c,v' = .slice ao n c:=by
      obtain ⟨b9,o9,c9,l9,e9,_⟩:=id hfin
      exact ⟨_,_,_,e9⟩
    subst e9
    refine ChL.op (.slice ao n9 c9) (by go_simp) hkw (by simp only [Act.put,sa1,sa2,sa3]; rfl) (ChL.fin ?_)
    go_wp2
    go_ret
    exact ⟨_,_,_,rfl,hfin,hk2⟩
theorem xb2o {W:World} {cr:Value} {gs:List Nat} (h:RdC 1 W cr (ptrs gs)):∃ ao c b off,cr = .slice ao gs.length c∧gs.length≤c∧c≤9223372036854775807∧(0 < gs.length→ao = some ⟨b,off,none⟩)∧∀ i,i < gs.length→W.cell? ⟨b,off + i,none⟩ = some (.pointer (some ⟨gs.getD i 0,0,none⟩)):=by
  obtain ⟨ao,n,c,rfl,h1,h2,h3,h4⟩:=h
  have hl:gs.length = n:=by rw [← h1,ptrs,List.length_map]
  subst hl
  rcases Nat.eq_zero_or_pos gs.length with h0 | h0
  · exact ⟨ao,c,0,0,rfl,h2,h3,fun h=>by omega,fun i hi=>by omega⟩
  · obtain ⟨b,off,rfl,h5⟩:=h4 h0
    refine ⟨_,c,b,off,rfl,h2,h3,fun _=>rfl,fun i hi=>?_⟩
    have h6:=h5 i (by rw [h1]; exact hi) 0 (.pointer (some ⟨gs.getD i 0,0,none⟩)) (by simp [ptrs,List.getD_eq_getElem?_getD,List.getElem?_eq_getElem hi])
    rw [Nat.mul_one,Nat.add_zero] at h6
    exact h6
set_option maxHeartbeats 2000000 in
theorem xb2k (S:Nat→Prop) (k m:Nat) (q:List Nat) (L:Prs) (X:Nat→Prs) (cr en:Value) (pl:Nat) (fd:Bool) (nv:Value) (w:World) (hk:1≤k∧k≤32) (hS:∀ y,w.heap.size≤y→S y) (hW:WayAt S k w q L m cr en pl fd)
    (hX:∀ i,i < m→ch (hsZ k) i (dgt ((hsZ k).kd q) i) (X i) = X (i + 1)∧(∀ j,j < 16→j≠dgt ((hsZ k).kd q) i→ch (hsZ k) i j (X i) = ch (hsZ k) i j (dnL (hsZ k) q L i))∧X i≠[]) (hn:KidAt S (hsZ k) w (64 - m) nv (X m)) (hT:Tabs w) :
    Calls Tryz.prog 51 #[.agg (wayC k ((hsZ k).kd q) cr en pl fd).toArray,nv] w fun e w'=>∃ v,e = .returned v∧KidAt S (hsZ k) w' 64 v (X 0)∧Kept [] w w':=by
  obtain ⟨gs,hgl,hrd,htr⟩:=hW.cr
  have hdeep:=hW.deep
  clear hW
  obtain ⟨ao,c,b,off,rfl,hc1,hc2,hao,hcell⟩:=xb2o hrd
  rw [hgl] at hc1 hao hcell ⊢
  have hDg:=(hsZ_ok hk).dg q
  have hfm:=xa8i hk q
  have HX:=hide hX
  have HTR:=hide htr
  have HC:=hide hcell
  have HTb:=hide hT
  have HAO:=hide hao
  obtain ⟨D,hD⟩:∃ D,(hsZ k).kd q = D:=⟨_,rfl⟩
  rw [hD] at hDg hfm HX ⊢
  have hdl:=hDg.1
  have HK0:=hide ((Kept.refl [] w).alloc (.cells (wayC k D (.slice ao m c) en pl fd).toArray 102))
  have HG0:=hide (heap_alloc_new w (.cells (wayC k D (.slice ao m c) en pl fd).toArray 102))
  obtain ⟨cw0,cw1,cw2,cw3,cw4,cw5⟩:=xa0s (uh HG0) hdl
  have HW0:=hide cw0
  have HW1:=hide cw1
  have HW2:=hide cw2
  have HN:=hide (hn.agr (Agr.nil (uh HK0)))
  have hwm:IntKind.i64.wrap ((m:Int) - 1) = (m:Int) - 1:=by simp [IntKind.wrap,IntKind.signed,IntKind.bits]; omega
  clear hX htr hcell hT hrd hao cw0 cw1 cw3 cw4 cw5 hn hD
  go_enter Tryz.func51,Tryz.ntmps51
  go_wp2_with fail
  have HKa:=hide (Kept.refl [] (w.alloc (.cells (wayC k D (.slice ao m c) en pl fd).toArray 102)))
  have hWs:(w.alloc (.cells (wayC k D (.slice ao m c) en pl fd).toArray 102)).heap.size = w.heap.size + 1:=by simp
  generalize hWa:w.alloc (.cells (wayC k D (.slice ao m c) en pl fd).toArray 102) = Wa at HK0 HG0 HW0 HW1 HW2 HN HKa cw2 hWs ⊢
  clear hWa cw2
  go_loopw [1,5] (fun t1 t5 wr=>∃ (d:Nat) (v:Value),t1 = v∧t5 = .int .i64 ((d:Int) - 1)∧d≤m∧Hid (KidAt S (hsZ k) wr (64 - d) v (X d))∧Hid (Kept [] Wa wr)) (fun _ t _=>(intOf t + 1).toNat)
  case atStart=>exact ⟨m,nv,rfl,by go_num,Nat.le_refl _,HN,HKa⟩
  case round =>
    obtain ⟨d,v,rfl,rfl,hdm,HKd,HKw⟩:=hrel
    cases d with
    | zero =>
      have hm1:¬ (0:Int)≤((0:Nat):Int) - 1:=by omega
      go_wp2_with fail
      go_ret
      exact ⟨_,rfl,uh HKd,(uh HK0).trans (uh HKw) (by simp)⟩
    | succ d =>
      have hki:((d + 1:Nat):Int) - 1 = (d:Int):=by omega
      have h0d:(0:Int)≤(d:Int):=by omega
      rw [hki]
      have hd1:(d:Int) < m:=by omega
      have hdm':d < m:=by omega
      obtain ⟨X1,X2,X3⟩:=uh HX d hdm'
      have hx16:=dgt_lt hDg.2 d
      have haod:=uh HAO (by omega)
      have hcc:=uh HC d hdm'
      obtain ⟨ht1,ht2⟩:=uh HTR d hdm'
      obtain ⟨f,hf⟩:∃ f,64 - d = f + 1:=⟨63 - d,by omega⟩
      have hff:63 - f = d:=by omega
      have hf2:64 - (d + 1) = f:=by omega
      rw [hf] at ht1
      generalize gs.getD d 0 = g at hcc ht1
      have HX1:=hide X1
      have HX2:=hide X2
      have HTD:=hide ht1
      have HTS:=hide ht2
      have hk0w:=(uh HK0).trans (uh HKw) (by simp)
      have hcw:=hk0w.cell hcc (by simp)
      have HCW:=hide hcw
      have HKW:=hide hk0w
      have HV0:=hide ((uh HKw).cell (uh HW0) (by simp))
      have HV1:=hide ((uh HKw).rng (uh HW1) (by simp))
      have HV2:=hide ((uh HKw).cell (uh HW2) (by simp))
      rw [hf2] at HKd
      subst haod
      clear X1 X2 ht1 ht2 hcc hcw hk0w HC HAO HTR
      go_upto_region 4 with fail
      refine ln_li (by kernel_rfl) (by kernel_rfl) rfl (fun W=>Kept [] wr W) (Kept.refl [] _).drew ?_
      refine LinY.rd (.pointer (some ⟨w.heap.size,33,none⟩)) (fun W hW=>by go_simp) (by simp only [Act.put,sa1,sa2,sa3]; rfl) ?_
      refine LinY.rd (.slice (some ⟨b,off,none⟩) m c) (fun W hW=>by have h9:=hW.cell (uh HV2) (by simp); go_simp) (by simp only [Act.put,sa1,sa2,sa3]; rfl) ?_
      refine LinY.mv (x:=.tmp 5) rfl (.int .i64 d) rfl (by simp only [Act.put,sa1,sa2,sa3]; rfl) ?_
      refine LinY.rd (.pointer (some ⟨b,off + d,none⟩)) (fun W hW=>by go_simp) (by simp only [Act.put,sa1,sa2,sa3]; rfl) ?_
      refine LinY.rd (.pointer (some ⟨g,0,none⟩)) (fun W hW=>by have h9:=hW.cell (uh HCW) (by simp); go_simp) (by simp only [Act.put,sa1,sa2,sa3]; rfl) ?_
      refine LinY.rd (.pointer (some ⟨w.heap.size,0,none⟩)) (fun W hW=>by go_simp) (by simp only [Act.put,sa1,sa2,sa3]; rfl) ?_
      refine LinY.rd (.int .i64 k) (fun W hW=>by have h9:=hW.cell (uh HV0) (by simp); go_simp) (by simp only [Act.put,sa1,sa2,sa3]; rfl) ?_
      refine LinY.rd (.pointer (some ⟨w.heap.size,0,none⟩)) (fun W hW=>by go_simp) (by simp only [Act.put,sa1,sa2,sa3]; rfl) ?_
      refine LinY.rd (.int .i64 k) (fun W hW=>by have h9:=hW.cell (uh HV0) (by simp); go_simp) (by simp only [Act.put,sa1,sa2,sa3]; rfl) ?_
      refine LinY.rd (.pointer (some ⟨w.heap.size,1,none⟩)) (fun W hW=>by go_simp) (by simp only [Act.put,sa1,sa2,sa3]; rfl) ?_
      refine LinY.ld 58 (.tmp 23) rfl w.heap.size 1 rfl (D.map u8) _ (fun W hW=>hW.rng (uh HV1) (by simp)) Tryz.underlying58 rfl (by rw [List.length_map,hdl]; exact Tryz.size_dig) (by simp only [Act.put,sa1,sa2,sa3]; rfl) ?_
      refine LinY.mv (x:=.tmp 5) rfl (.int .i64 d) rfl (by simp only [Act.put,sa1,sa2,sa3]; rfl) ?_
      refine LinY.mv (x:=.tmp 1) rfl (u1) rfl (by simp only [Act.put,sa1,sa2,sa3]; rfl) ?_
      refine ChL.call rfl Tryz.call82 [.int .i64 k,.agg (brow D),.int .i64 d] rfl (xa2f k D d _ hk hDg hfm (by omega)) ?_
      rintro e w2 ⟨rfl,k2⟩
      have hkw:=((Kept.refl [] wr).drew).trans k2 (by simp)
      have HKw2:=hide hkw
      refine ⟨_,rfl,hkw,?_⟩
      simp only [Act.put,sa1,sa2,sa3]
      obtain ⟨x,hx⟩:∃ x,dgt D d = x:=⟨_,rfl⟩
      rw [hx] at hx16 HX1 HX2 ⊢
      have HKW2:=hide ((uh HKW).trans hkw (by simp))
      refine ChL.call rfl Tryz.call81 [.pointer (some ⟨g,0,none⟩),.int .i64 k,.int .i64 x,u1] rfl (xa9j S k f g x (dnL (hsZ k) q L d) (X d) u1 w2 hk (fun y hy=>hS y (Nat.le_trans (uh HKW2).size hy)) ((uh HTD).agr (Agr.nil (uh HKW2))) (uh HTS) hx16 (by rw [hff,uh HX1]; exact (uh HKd).agr (Agr.nil hkw)) (by rw [hff]; exact uh HX2) X3 ((uh HTb).k (uh HKW2))) ?_
      rintro e w3 ⟨v3,rfl,ht3,k3⟩
      have hkw3:=hkw.trans k3 (by simp)
      refine ⟨_,rfl,hkw3,?_⟩
      simp only [Act.put,sa1,sa2,sa3]
      refine ChL.op v3 (by go_simp) hkw3 (by simp only [Act.put,sa1,sa2,sa3]; rfl) (ChL.fin ?_)
      have HF3:=hide (Or.inr (by rw [hf]; exact ht3):KidAt S (hsZ k) w3 (64 - d) v3 (X d))
      have HK3:=hide ((uh HKw).trans hkw3 (by simp))
      clear ht3 hkw3 hkw k3 k2
      go_wp2
      refine ⟨⟨d,v3,rfl,by go_num,by omega,HF3,HK3⟩,?_⟩
      simp [intOf]
      try omega
theorem xa3l:∀ {L:Prs},Fit L→(pairB L).length≤350 * L.length
  | [],_=>by simp [pairB]
  | x :: L,h=>by
    have ih:=xa3l (L:=L) (fun p hp=>h p (by simp [hp]))
    have h1:=h x (by simp)
    have u1:=uv_len x.1.length (by omega)
    have u2:=uv_len x.2.length (by omega)
    have e:pairB (x :: L) = (uv x.1.length++x.1++(uv x.2.length++x.2))++pairB L:=by simp [pairB]
    rw [e,List.length_append,List.length_append,List.length_append,List.length_append,List.length_cons]
    omega
theorem bk_of {S:Nat→Prop} {k g:Nat} {D:List Nat} {pv:Value} {ps:Prs} {W:World} (hS:S g) (hg:W.heap[g]? = some (.cells (bkC D pv ((hsZ k).hb ps)).toArray 111 (0,0))) (hn:ps≠[]) (hD:∀ y∈ps,(hsZ k).kd y.1 = D) (hr:KRow S W pv ps):BkAt S (hsZ k) W g ps:=by
  refine ⟨pv,hS,?_,hn,hr⟩
  have e:(hsZ k).kd (ps.headD ([],[])).1 = D:=by cases ps with
    | nil=>exact absurd rfl hn
    | cons y ps=>exact hD y (by simp)
  rw [e]; exact hg
theorem Tryz.size_pair:(Tryz.prog.info? 33).map (·.size) = some 2:=by kernel_rfl
theorem infoQ:(Tryz.prog.info? 33).map (fun i=>(i.zero,i.size)) = some (some (.agg #[.slice none 0 0,.slice none 0 0]),2):=by kernel_rfl
theorem infoQp:∃ i,Tryz.prog.info? 33 = some i∧i.zero = some (.agg #[.slice none 0 0,.slice none 0 0])∧i.size = 2:=by
  have h:=infoQ
  generalize Tryz.prog.info? 33 = o at h
  cases o with
  | none=>cases h
  | some i=>exact ⟨i,rfl,(Prod.mk.inj (Option.some.inj h)).1,(Prod.mk.inj (Option.some.inj h)).2⟩
theorem fillQ (x y:Value):Instr.fill (fun i=>some (i * 2,2)) ((Array.range (1 * 2)).map ((Value.agg #[.slice none 0 0,.slice none 0 0]).cells[· % (Value.agg #[.slice none 0 0,.slice none 0 0]).cells.size]!)) [(0,.agg #[x,y])] = some #[x,y]:=by kernel_rfl
theorem xa7e {o:Oper} {a:Act} (w:World) (x:Operand) (ho:o.op = .buildSlice 22 1 #[(0,x)]) (ku vu:Value) (hx:a.eval x = .agg #[ku,vu]):(execOp a.eval o).run Tryz.prog w = .ok (.value (.slice (some ⟨w.heap.size,0,none⟩) 1 1)) (w.alloc (.cells #[ku,vu] 33)):=by
  obtain ⟨i0,hi,hz0,hz1⟩:=infoQp
  have hb:=run_buildSlice w 22 33 1 #[(0,.agg #[ku,vu])] #[ku,vu] i0 _ Tryz.underlying22 hi hz0 (by rw [hz1]; decide) (by rw [hz1]; decide) (by rw [hz1]; exact fillQ ku vu)
  unfold execOp
  simp only [ho,List.map_toArray,List.map_cons,List.map_nil,hx,Sem.run_bind,hb,Result.andThen_ok]
  rfl
theorem xa4j {ops:Array Oper} {rest:List Oper} {o:Oper} {a:Act} {w:World} {Q:Exit→Act→World→Prop} (hw:Region.wanted o (yielded ops a.tmps) = true) (x:Operand) (ho:o.op = .buildSlice 22 1 #[(0,x)]) (ku vu:Value) (hx:a.eval x = .agg #[ku,vu])
    (h:wpList Tryz.prog ops Q rest (a.put o.dst (.slice (some ⟨w.heap.size,0,none⟩) 1 1)) (w.alloc (.cells #[ku,vu] 33))):wpList Tryz.prog ops Q (o :: rest) a w :=
  wpList_want hw fun _ hK=>by
    unfold Oper.wp
    rw [xa7e w x ho ku vu hx]
    exact hK _ _ h
theorem kr_lit {S:Nat→Prop} {w:World} {kv vv:Value} {q v:List Nat} (hS:S w.heap.size) (hk:Sty S w (fun w=>Rd w kv q)) (hv:Sty S w (fun w=>Rd w vv v)):KRow S (w.alloc (.cells #[kv,vv] 33)) (.slice (some ⟨w.heap.size,0,none⟩) 1 1) [(q,v)]:=by
  have ha:Agr S w (w.alloc (.cells #[kv,vv] 33)):=Agr.nil ((Kept.refl [] w).alloc _)
  refine ⟨w.heap.size,0,1,[(kv,vv)],rfl,Nat.le_refl _,by omega,hS,rfl,fun i hi=>?_,fun i hi=>?_⟩
  · have h0:i = 0:=by simp at hi; omega
    subst h0
    constructor
    · rw [cell_of_row _ _ _ _ _ _ (heap_alloc_new w (.cells #[kv,vv] 33))]; rfl
    · rw [cell_of_row _ _ _ _ _ _ (heap_alloc_new w (.cells #[kv,vv] 33))]; rfl
  · have h0:i = 0:=by simp at hi; omega
    subst h0
    exact fun w' k=>⟨hk w' (ha.trans k),hv w' (ha.trans k)⟩
theorem xb7s (H:Hs) (q v:List Nat):insP H q v [] = [(q,v)]:=rfl
theorem xb7l (H:Hs) (q v:List Nat):sgl H [(q,v)] = true:=xa2i.2 (fun x hx y hy=>by
  have e1:x = (q,v):=by simpa using hx
  have e2:y = (q,v):=by simpa using hy
  rw [e1,e2])
theorem xb9g {k m:Nat} {q v DA:List Nat} {M:Prs} (hk:1≤k∧k≤32) (hs:Srt (hsZ k) M) (hn:M≠[]) (ha:∀ y∈M,(hsZ k).kd y.1 = DA) (hon:On (hsZ k) m q M) (hne:DA≠(hsZ k).kd q):∃ part,m≤part∧Fork (hsZ k) part q v M DA:=by
  obtain ⟨y,hy⟩:∃ y,y∈M:=by cases M with
    | nil=>exact absurd rfl hn
    | cons y M=>exact ⟨y,by simp⟩
  have hDA:=ha y hy
  obtain ⟨_,s2,s3,s4⟩:=xa4x DA ((hsZ k).kd q) (2 * k) 0
  have hlt:comL DA ((hsZ k).kd q) (2 * k) 0 < 0 + 2 * k:=by
    refine Nat.lt_of_le_of_ne s2 (fun e=>hne ?_)
    rw [← hDA] at s3 e ⊢
    exact kd_ext (hsZ_ok hk) (fun j hj=>s3 j (by omega) (by rw [e]; have:(hsZ k).wd = k:=rfl; omega))
  have hpne:=s4 hlt
  refine ⟨comL DA ((hsZ k).kd q) (2 * k) 0,?_,⟨hs,hn,ha,?_,fun j hj=>s3 j (by omega) hj,hpne,?_⟩⟩
  · refine Nat.le_of_not_lt (fun g=>hpne ?_)
    rw [← hDA]
    rw [← hDA] at g
    exact hon y hy _ g
  · rw [← hDA]; exact (hsZ_ok hk).dg y.1
  · have:(hsZ k).wd = k:=rfl
    omega
set_option maxHeartbeats 4000000 in
theorem xa4s (S:Nat→Prop) (k m:Nat) (q v:List Nat) (L:Prs) (cr en kv vv:Value) (pl:Nat) (fd:Bool) (w:World) (hk:1≤k∧k≤32) (hS:∀ y,w.heap.size≤y→S y) (hW:WayAt S k w q L m cr en pl fd) (hs:Srt (hsZ k) L) (hf:Fit L) (hn:L.length≤1000000000) (hq:q.length≤64) (hv:v.length≤256)
    (hkv:Sty S w (fun w=>Rd w kv q)) (hvv:Sty S w (fun w=>Rd w vv v)) (hT:Tabs w) :
    Calls Tryz.prog 52 #[.agg (wayC k ((hsZ k).kd q) cr en pl fd).toArray,.agg #[kv,vv]] w fun e w'=>∃ t,e = .returned t∧TreeAt S (hsZ k) w' (64 - m) t (insP (hsZ k) q v (dnL (hsZ k) q L m))∧Kept [] w w':=by
  have hon:=dn_on (H:=hsZ k) (q:=q) (L:=L) m
  have hM1:=dn_srt (q:=q) hs m
  have hM2:=dn_len (H:=hsZ k) (q:=q) (L:=L) m
  have hM3:=dn_sub (H:=hsZ k) (q:=q) (L:=L) m
  have hend:=hW.en
  obtain ⟨gs,hgl,hrd,_⟩:=hW.cr
  obtain ⟨ao,n,c,rfl,hnl,_⟩:=hrd
  have hnm:n = m:=by rw [← hnl,ptrs,List.length_map,hgl]
  subst hnm
  have hdeep:=hW.deep
  clear hW hnl hgl
  generalize dnL (hsZ k) q L n = M at *
  have hMf:Fit M:=hf.sub hM3
  have hfq:Fit [(q,v)]:=fun p hp=>by
    have:p = (q,v):=by simpa using hp
    subst this; exact ⟨hq,hv⟩
  have hDg:=((hsZ_ok hk).dg q).1
  obtain ⟨D,hD⟩:∃ D,(hsZ k).kd q = D:=⟨_,rfl⟩
  rw [hD] at hDg ⊢
  have hk0:=((Kept.refl [] w).alloc (.cells (wayC k D (.slice ao n c) en pl fd).toArray 102)).alloc (.cells #[kv,vv] 33)
  have hg0:=((Kept.refl [] (w.alloc (.cells (wayC k D (.slice ao n c) en pl fd).toArray 102))).alloc (.cells #[kv,vv] 33)).heap (heap_alloc_new w (.cells (wayC k D (.slice ao n c) en pl fd).toArray 102)) (by simp)
  have hp0:=xa2k w (.cells (wayC k D (.slice ao n c) en pl fd).toArray 102) (.cells #[kv,vv] 33)
  have hz0:((w.alloc (.cells (wayC k D (.slice ao n c) en pl fd).toArray 102)).alloc (.cells #[kv,vv] 33)).heap.size = w.heap.size + 2:=by simp
  go_enter Tryz.func52,Tryz.ntmps52
  go_upto_region 1 with fail
  generalize (w.alloc (.cells (wayC k D (.slice ao n c) en pl fd).toArray 102)).alloc (.cells #[kv,vv] 33) = W0 at hk0 hg0 hp0 hz0 ⊢
  obtain ⟨cw0,cw1,cw2,cw3,cw4,cw5⟩:=xa0s hg0 hDg
  have HK0:=hide hk0
  have HW0:=hide cw0
  have HW1:=hide cw1
  have HW2:=hide cw2
  have HW3:=hide cw3
  have HWY:=hide (xa0t [] (wayC k D (.slice ao n c) en pl fd) [] (by rw [List.nil_append,List.append_nil]; exact hg0) rfl)
  have HWP:=hide (xa0t [] [kv,vv] [] hp0 rfl)
  have HP0:=hide hp0
  have HKV:=hide (hkv.agr (Agr.nil hk0))
  have HVV:=hide (hvv.agr (Agr.nil hk0))
  have HTb:=hide (hT.k hk0)
  have hS0:∀ y,W0.heap.size≤y→S y:=fun y hy=>hS y (by omega)
  have HOn:=hide hon
  have HMs:=hide hM1
  have HMl:=hide hM2
  have HMf:=hide hMf
  have HPB1:=hide (show (pairB [(q,v)]).length≤1000000000000 by have:=xa3l hfq; simp at this; omega)
  have HDq:=hide hD
  clear cw0 cw1 cw2 cw4 cw5 hg0 hp0 hkv hvv hT hon hM1 hM2 hM3 hMf hk0 hfq hf hs
  rcases hend with ⟨hM,rfl,rfl,rfl⟩ | ⟨hsg,g,rfl,hb,hpl,hfd⟩
  · subst hM
    refine ln_eg (by kernel_rfl) (by kernel_rfl) (fun W=>Kept [] W0 W) (Kept.refl [] W0).drew ?_
    refine LinG.rd (by rfl) (.pointer (some ⟨w.heap.size,34,none⟩)) (fun W hW=>by go_simp) (by simp only [Act.put,sa1,sa2,sa3]; rfl) ?_
    refine LinG.rd (by rfl) (.pointer none) (fun W hW=>by have h9:=hW.cell (uh HW3) (by simp); go_simp) (by simp only [Act.put,sa1,sa2,sa3]; rfl) ?_
    refine LinG.rd (by rfl) (.bool false) (fun W hW=>by go_simp) (by simp only [Act.put,sa1,sa2,sa3]; rfl) ?_
    refine LinG.rd (by rfl) (.bool false) (fun W hW=>by go_simp) (by simp only [Act.put,sa1,sa2,sa3]; rfl) ?_
    refine LinG.no (by rfl) (by simp only [Act.put,sa1,sa2,sa3]; rfl) ?_
    refine LinG.no (by rfl) (by simp only [Act.put,sa1,sa2,sa3]; rfl) ?_
    refine LinG.no (by rfl) (by simp only [Act.put,sa1,sa2,sa3]; rfl) ?_
    refine LinG.no (by rfl) (by simp only [Act.put,sa1,sa2,sa3]; rfl) ?_
    refine LinG.no (by rfl) (by simp only [Act.put,sa1,sa2,sa3]; rfl) ?_
    refine LinG.no (by rfl) (by simp only [Act.put,sa1,sa2,sa3]; rfl) ?_
    refine LinG.no (by rfl) (by simp only [Act.put,sa1,sa2,sa3]; rfl) ?_
    refine LinG.no (by rfl) (by simp only [Act.put,sa1,sa2,sa3]; rfl) ?_
    refine LinG.rd (by rfl) (.bool false) (fun W hW=>by go_simp) (by simp only [Act.put,sa1,sa2,sa3]; rfl) ?_
    refine LinG.fin ?_
    have hkl:=(kr_lit (S:=S) (w:=W0) (kv:=kv) (vv:=vv) (q:=q) (v:=v) (hS0 _ (Nat.le_refl _)) (uh HKV) (uh HVV)).agr (Agr.nil (Kept.refl [] (W0.alloc (.cells #[kv,vv] 33))).drew)
    rw [hz0] at hkl
    have HKL:=hide hkl
    have HKA:=hide (((Kept.refl [] W0).alloc (.cells #[kv,vv] 33)).drew)
    clear hkl
    have h7a:=(Kept.refl [] W0).drew.cell (uh HW0) (by simp)
    go_wp2_with (first
      | (refine wpList_load_mid rfl 58 (.tmp 31) rfl w.heap.size 1 rfl (D.map u8) _ ((Kept.refl [] W0).drew.rng (uh HW1) (by simp)) Tryz.underlying58 rfl (by rw [List.length_map,hDg]; exact Tryz.size_dig) ?_)
      | (refine wpList_load_row rfl 33 (.tmp 3) rfl (w.heap.size + 1) rfl 33 #[kv,vv] (0,0) _ ((Kept.refl [] W0).drew.heap (uh HP0) (by simp)) Tryz.underlying33 rfl Tryz.size_pair ?_)
      | (refine xa4j rfl (.tmp 33) rfl kv vv rfl ?_))
    refine Calls.mono (xa2j k D (some ⟨w.heap.size + 2,0,none⟩) 1 1 [(q,v)] _ hk hDg (uh HKL).rdK (uh HPB1) ((uh HTb).k (uh HKA))) ?_
    rintro e w3 ⟨g3,rfl,hg3,hc3,k3⟩
    have hk3:=(uh HKA).trans k3 (by simp)
    have hbk:=bk_of (S:=S) (hS0 g3 (by have:=(uh HKA).size; omega)) hc3 (by simp) (fun y hy=>by rw [show y = (q,v) by simpa using hy]; exact uh HDq) ((uh HKL).agr (Agr.nil k3))
    have HBK:=hide hbk
    have HK3:=hide hk3
    clear hbk hk3 hc3 k3
    have h9:=(uh HK3).cell (uh HW3) (by simp)
    go_wp2_with fail
    go_ret
    rw [xb7s]
    exact ⟨_,rfl,TreeAt.ofBk _ (uh HBK) (xb7l _ _ _),(uh HK0).trans (uh HK3) (by simp)⟩
  · obtain ⟨pv,hSg,hh,hne,hkr⟩:=id hb
    have hkd:((hsZ k).kd (M.headD ([],[])).1).length = 32:=xa1g _ _
    have b0:=(bk_row hh hkd).1
    have hall:∀ y∈M,(hsZ k).kd y.1 = (hsZ k).kd (M.headD ([],[])).1:=fun y hy=>xa2i.1 hsg y hy _ (by cases M with
      | nil=>exact absurd rfl hne
      | cons z M=>simp)
    generalize (hsZ k).kd (M.headD ([],[])).1 = DA at hkd b0 hall
    have HB0:=hide ((uh HK0).rng b0 (by simp))
    have HB:=hide (hb.agr (Agr.nil (uh HK0)))
    have HAll:=hide hall
    have HSG:=hide hsg
    have HPl:=hide hpl
    have HFd:=hide hfd
    have HNe:=hide hne
    have heq:=fun W=>dig_eq W DA D hkd hDg
    obtain ⟨sm,hsm⟩:∃ sm,decide (DA = D) = sm:=⟨_,rfl⟩
    rw [hsm] at heq
    have HEQ:=hide heq
    clear hb hh hkr b0 hall hsg hpl hfd hne heq
    refine ln_eg (by kernel_rfl) (by kernel_rfl) (fun W=>Kept [] W0 W) (Kept.refl [] W0).drew ?_
    refine LinG.rd (by rfl) (.pointer (some ⟨w.heap.size,34,none⟩)) (fun W hW=>by go_simp) (by simp only [Act.put,sa1,sa2,sa3]; rfl) ?_
    refine LinG.rd (by rfl) (.pointer (some ⟨g,0,none⟩)) (fun W hW=>by have h9:=hW.cell (uh HW3) (by simp); go_simp) (by simp only [Act.put,sa1,sa2,sa3]; rfl) ?_
    refine LinG.rd (by rfl) (.bool true) (fun W hW=>by go_simp) (by simp only [Act.put,sa1,sa2,sa3]; rfl) ?_
    refine LinG.rd (by rfl) (.bool true) (fun W hW=>by go_simp) (by simp only [Act.put,sa1,sa2,sa3]; rfl) ?_
    refine LinG.rd (by rfl) (.pointer (some ⟨w.heap.size,34,none⟩)) (fun W hW=>by go_simp) (by simp only [Act.put,sa1,sa2,sa3]; rfl) ?_
    refine LinG.rd (by rfl) (.pointer (some ⟨g,0,none⟩)) (fun W hW=>by have h9:=hW.cell (uh HW3) (by simp); go_simp) (by simp only [Act.put,sa1,sa2,sa3]; rfl) ?_
    refine LinG.rd (by rfl) (.pointer (some ⟨g,0,none⟩)) (fun W hW=>by go_simp) (by simp only [Act.put,sa1,sa2,sa3]; rfl) ?_
    refine LinG.rd (by rfl) (.pointer (some ⟨g,0,none⟩)) (fun W hW=>by go_simp) (by simp only [Act.put,sa1,sa2,sa3]; rfl) ?_
    refine LinG.ld (by rfl) 58 (.tmp 13) rfl g 0 rfl (DA.map u8) _ (fun W hW=>hW.rng (uh HB0) (by simp)) Tryz.underlying58 rfl (by rw [List.length_map,hkd]; exact Tryz.size_dig) (by simp only [Act.put,sa1,sa2,sa3]; rfl) ?_
    refine LinG.rd (by rfl) (.pointer (some ⟨w.heap.size,1,none⟩)) (fun W hW=>by go_simp) (by simp only [Act.put,sa1,sa2,sa3]; rfl) ?_
    refine LinG.ld (by rfl) 58 (.tmp 15) rfl w.heap.size 1 rfl (D.map u8) _ (fun W hW=>hW.rng (uh HW1) (by simp)) Tryz.underlying58 rfl (by rw [List.length_map,hDg]; exact Tryz.size_dig) (by simp only [Act.put,sa1,sa2,sa3]; rfl) ?_
    refine LinG.rd (by rfl) (.bool sm) (fun W hW=>xa8k 58 (.tmp 14) (.tmp 16) 58 rfl (brow DA) (brow D) rfl rfl W sm (by kernel_rfl) (uh HEQ W)) (by simp only [Act.put,sa1,sa2,sa3]; rfl) ?_
    refine LinG.rd (by rfl) (.bool sm) (fun W hW=>by go_simp) (by simp only [Act.put,sa1,sa2,sa3]; rfl) ?_
    refine LinG.fin ?_
    cases sm with
    | true =>
      have hDD:DA = D:=of_decide_eq_true hsm
      subst hDD
      have hall2:∀ y∈M,(hsZ k).kd y.1 = (hsZ k).kd q:=fun y hy=>by rw [uh HAll y hy,uh HDq]
      have hris:=xa5c (uh HMs) (uh HSG)
      have hip:=xb5g (H:=hsZ k) (v:=v) hris hall2
      rw [← uh HPl,← uh HFd] at hip
      have hple:pl + (if fd = true then 1 else 0)≤M.length:=by
        have h1:=plc_le q M
        cases hfd2:fd with
        | false=>rw [uh HPl]; simpa using h1
        | true =>
          have h2:=(fnd_at (k:=q) hris).1 (by rw [← uh HFd,hfd2])
          rw [uh HPl,if_pos rfl]; exact h2.1
      have hin:∀ y∈insP (hsZ k) q v M,(hsZ k).kd y.1 = DA:=fun y hy=>by
        rcases (xa3c (uh HMs) y).1 hy with rfl | ⟨h1,_⟩
        · exact uh HDq
        · exact uh HAll y h1
      have hfi:Fit (insP (hsZ k) q v M):=fun p hp=>by
        rcases (xa3c (uh HMs) p).1 hp with rfl | ⟨h1,_⟩
        · exact ⟨hq,hv⟩
        · exact uh HMf p h1
      have hpb:=xa3l hfi
      have hlen:(insP (hsZ k) q v M).length≤M.length + 1:=by rw [hip]; simp; omega
      have HPB2:=hide (show (pairB (insP (hsZ k) q v M)).length≤1000000000000 by have:=uh HMl; omega)
      have HIP:=hide hip
      have HIN:=hide hin
      clear hpb hlen hfi hin hip hris hall2
      go_upto_region 2 with fail
      refine ln_ew (by kernel_rfl) (by kernel_rfl) rfl (fun W=>Kept [] W0 W) (Kept.refl [] W0).drew.drew ?_
      refine LinY.rd (.pointer (some ⟨w.heap.size,0,none⟩)) (fun W hW=>by go_simp) (by simp only [Act.put,sa1,sa2,sa3]; rfl) ?_
      refine LinY.rd (.int .i64 k) (fun W hW=>by have h9:=hW.cell (uh HW0) (by simp); go_simp) (by simp only [Act.put,sa1,sa2,sa3]; rfl) ?_
      refine LinY.rd (.pointer (some ⟨w.heap.size,1,none⟩)) (fun W hW=>by go_simp) (by simp only [Act.put,sa1,sa2,sa3]; rfl) ?_
      refine LinY.ld 58 (.tmp 21) rfl w.heap.size 1 rfl (DA.map u8) _ (fun W hW=>hW.rng (uh HW1) (by simp)) Tryz.underlying58 rfl (by rw [List.length_map,hDg]; exact Tryz.size_dig) (by simp only [Act.put,sa1,sa2,sa3]; rfl) ?_
      refine LinY.ld 102 (.tmp 2) rfl w.heap.size 0 rfl (wayC k DA (.slice ao n c) (.pointer (some ⟨g,0,none⟩)) pl fd) _ (fun W hW=>hW.rng (uh HWY) (by simp)) Tryz.underlying102 rfl (by rw [xa1f hDg]; exact Tryz.size_way) (by simp only [Act.put,sa1,sa2,sa3]; rfl) ?_
      refine LinY.ld 33 (.tmp 3) rfl (w.heap.size + 1) 0 rfl ([kv,vv]) _ (fun W hW=>hW.rng (uh HWP) (by simp)) Tryz.underlying33 rfl (Tryz.size_pair) (by simp only [Act.put,sa1,sa2,sa3]; rfl) ?_
      have hd2:=(Kept.refl [] W0).drew.drew
      obtain ⟨W2,hW2⟩:∃ W2,W0.drew.drew = W2:=⟨_,rfl⟩
      rw [hW2] at hd2 ⊢
      clear hW2
      have HD2:=hide hd2
      have hkl:=kr_lit (S:=S) (w:=W2) (kv:=kv) (vv:=vv) (q:=q) (v:=v) (hS0 _ hd2.size) ((uh HKV).agr (Agr.nil hd2)) ((uh HVV).agr (Agr.nil hd2))
      have hka:=hd2.alloc (.cells #[kv,vv] 33)
      have HKA:=hide hka
      refine ChL.op (.slice (some ⟨W2.heap.size,0,none⟩) 1 1) (xa7e W2 (.tmp 24) rfl kv vv rfl) hka (by simp only [Act.put,sa1,sa2,sa3]; rfl) ?_
      obtain ⟨b9,off9,cap9,l9,e9,hpr9,hrd9,_,_⟩:=hkl.pr
      have hl9:l9.length = 1:=hpr9.1
      refine ChL.call rfl Tryz.call84 [.agg (wayC k DA (.slice ao n c) (.pointer (some ⟨g,0,none⟩)) pl fd).toArray,.slice (some ⟨W2.heap.size,0,none⟩) 1 1] rfl (xb0k S k DA (.slice ao n c) g pl fd M (.slice (some ⟨W2.heap.size,0,none⟩) 1 1) l9 [(q,v)] _ hDg ((uh HB).agr (Agr.nil hka)) hple (by have:=uh HMl; omega) hrd9 hpr9 (by omega) (by simp) (fun y hy=>hS0 y (Nat.le_trans hka.size hy))) ?_
      rintro e w2 ⟨a2,n2,c2,rfl,hkr2,k2⟩
      have hkw:=hka.trans k2 (by simp)
      have hkr3:KRow S w2 (.slice a2 n2 c2) (insP (hsZ k) q v M):=by rw [uh HIP]; exact hkr2
      refine ⟨_,rfl,hkw,?_⟩
      simp only [Act.put,sa1,sa2,sa3]
      refine ChL.call rfl Tryz.call83 [.int .i64 k,.agg (brow DA),.slice a2 n2 c2] rfl (xa2j k DA a2 n2 c2 (insP (hsZ k) q v M) w2 hk hDg hkr3.rdK (uh HPB2) ((uh HTb).k hkw)) ?_
      rintro e w3 ⟨g3,rfl,hg3,hc3,k3⟩
      have hkw3:=hkw.trans k3 (by simp)
      refine ⟨_,rfl,hkw3,?_⟩
      simp only [Act.put,sa1,sa2,sa3]
      have hbk:=bk_of (S:=S) (hS0 g3 (by have:=hkw.size; omega)) hc3 ins_ne (uh HIN) (hkr3.agr (Agr.nil k3))
      refine ChL.op (bkV g3) (by go_simp) hkw3 (by simp only [Act.put,sa1,sa2,sa3]; rfl) ?_
      refine ChL.op (bkV g3) (by go_simp) hkw3 (by simp only [Act.put,sa1,sa2,sa3]; rfl) (ChL.fin ?_)
      go_wp2
      go_ret
      exact ⟨_,rfl,TreeAt.ofBk _ hbk (xa2i.2 (fun x hx y hy=>by rw [uh HIN x hx,uh HIN y hy])),(uh HK0).trans hkw3 (by simp)⟩
    | false =>
      have hDD:DA≠D:=of_decide_eq_false hsm
      obtain ⟨part,hmp,hfork⟩:=xb9g (v:=v) hk (uh HMs) (uh HNe) (uh HAll) (uh HOn) (by rw [uh HDq]; exact hDD)
      have hkl:=(kr_lit (S:=S) (w:=W0) (kv:=kv) (vv:=vv) (q:=q) (v:=v) (hS0 _ (Nat.le_refl _)) (uh HKV) (uh HVV)).agr (Agr.nil (Kept.refl [] (W0.alloc (.cells #[kv,vv] 33))).drew)
      rw [hz0] at hkl
      have HKL:=hide hkl
      have HKA:=hide (((Kept.refl [] W0).alloc (.cells #[kv,vv] 33)).drew)
      clear hkl
      have h7a:=(Kept.refl [] W0).drew.cell (uh HW0) (by simp)
      go_wp2_with (first
        | (refine wpList_load_mid rfl 58 (.tmp 31) rfl w.heap.size 1 rfl (D.map u8) _ ((Kept.refl [] W0).drew.rng (uh HW1) (by simp)) Tryz.underlying58 rfl (by rw [List.length_map,hDg]; exact Tryz.size_dig) ?_)
        | (refine wpList_load_row rfl 33 (.tmp 3) rfl (w.heap.size + 1) rfl 33 #[kv,vv] (0,0) _ ((Kept.refl [] W0).drew.heap (uh HP0) (by simp)) Tryz.underlying33 rfl Tryz.size_pair ?_)
        | (refine xa4j rfl (.tmp 33) rfl kv vv rfl ?_))
      refine Calls.mono (xa2j k D (some ⟨w.heap.size + 2,0,none⟩) 1 1 [(q,v)] _ hk hDg (uh HKL).rdK (uh HPB1) ((uh HTb).k (uh HKA))) ?_
      rintro e w3 ⟨g3,rfl,hg3,hc3,k3⟩
      have hk3:=(uh HKA).trans k3 (by simp)
      have hbk:=bk_of (S:=S) (hS0 g3 (by have:=(uh HKA).size; omega)) hc3 (by simp) (fun y hy=>by rw [show y = (q,v) by simpa using hy]; exact uh HDq) ((uh HKL).agr (Agr.nil k3))
      have HBK:=hide hbk
      have HK3:=hide hk3
      clear hbk hk3 hc3 k3
      have h9:=(uh HK3).cell (uh HW3) (by simp)
      have h8:=(uh HK3).cell (uh HW2) (by simp)
      have h7:=(uh HK3).cell (uh HW0) (by simp)
      go_wp2_with fail
      refine Calls.mono (xb0l S k n part g g3 M q v DA w3 hk (fun y hy=>hS0 y (Nat.le_trans (uh HK3).size hy)) hfork hmp ((uh HB).agr (Agr.nil (uh HK3))) (uh HBK) ((uh HTb).k (uh HK3))) ?_
      rintro e w4 ⟨tt,rfl,ht4,k4⟩
      have HT4:=hide ht4
      have HK4:=hide (((uh HK0).trans (uh HK3) (by simp)).trans k4 (by simp))
      clear ht4 k4
      go_wp2_with fail
      go_ret
      exact ⟨_,rfl,uh HT4,uh HK4⟩
set_option maxHeartbeats 1000000 in
theorem xa1c (v:Value) (p:List Nat) (w:World) (h:Rd w v p) :
    Calls Tryz.prog 50 #[v] w fun e w'=>(∃ v',e = .returned v'∧Rd w' v' p∧∀ x∈blk v',w.heap.size≤x)∧Kept [] w w':=by
  have H:=hide h
  obtain ⟨a1,n1,c1,rfl,hn1,hc1,⟨hc2,hc3⟩,hc4,hc5,hc6⟩:=id h
  subst hn1
  clear h hc6 hc5
  cases a1 with
  | none =>
    have h0:p.length = 0:=by have:=hc4 rfl; omega
    have hp:p = []:=List.eq_nil_of_length_eq_zero h0
    clear hc4
    subst hp
    simp only [List.length_nil]
    have hq:∀ W:World,(binOp .eql 23 (.slice none 0 c1) (.slice none 0 0)).run Tryz.prog W = .ok (.bool true) W:=by
      intro W
      simp only [binOp]
      simp [run_equal_slice_nil W 23 5 none 0 c1 Tryz.underlying23]
    go_enter Tryz.func50,Tryz.ntmps50
    go_wp2
    go_ret
    exact ⟨⟨_,rfl,Rd.nil _,by simp [blk]⟩,Kept.refl _ _⟩
  | some ad =>
    clear hc4
    have HO:=hide (World.ownsRow_made (base:=w.heap.size) (e:=5) (size:=1) w #[] 0 (Nat.le_refl _) (by unfold maxLen; omega) (by simp))
    have hq:∀ W:World,(binOp .eql 23 (.slice (some ad) p.length c1) (.slice none 0 0)).run Tryz.prog W = .ok (.bool false) W:=by
      intro W
      simp only [binOp]
      simp [run_equal_slice_nil W 23 5 (some ad) p.length c1 Tryz.underlying23]
    go_enter Tryz.func50,Tryz.ntmps50
    go_wp2_with (at_builtin; refine xa0f rfl (.tmp 5) (.tmp 6) rfl rfl _ w.heap.size (.slice (some ⟨w.heap.size,0,none⟩) 0 0) [] p (some ad) p.length c1 (uh HO) ((uh H).old ((Kept.refl [] w).alloc _) (by simp)) (by simp; omega) (by simp) rfl rfl ?_; intro ao1 cap1 w1 HO1 HG1 HA1; simp only [List.nil_append,List.length_nil,Nat.zero_add] at HO1 HA1; have HK1:=hide (((Kept.refl [] w).alloc _).grown (uh HG1) (by intro k hk; right; simp [Value.ownBlock] at hk; omega)); clear HG1)
    go_ret
    refine ⟨⟨_,rfl,xa3p (uh HO1) (uh H).byte hc3,?_⟩,uh HK1⟩
    intro x hx
    cases ao1 with
    | none=>simp [blk] at hx
    | some a=>simp [blk] at hx; subst hx; exact ((uh HO1).lt a.block rfl).1
theorem xb5w {H:Hs} {q v:List Nat}:∀ {L:Prs},Srt H L→(insP H q v L).length = if fnd q L = true then L.length else L.length + 1
  | [],_=>rfl
  | y :: L,h=>by
    have ih:=xb5w (q:=q) (v:=v) h.tail
    rw [xa2o]
    by_cases g1:kc H q y.1 < 0
    · rw [if_pos g1]
      have hn:getP q (y :: L) = none:=xa7y.2 (fun z hz e=>by
        rcases List.mem_cons.1 hz with rfl | hz
        · rw [e,xa3d] at g1; omega
        · have h2:=xa4w g1 (h.head z hz); rw [e,xa3d] at h2; omega)
      have hf:fnd q (y :: L) = false:=by unfold fnd; rw [hn]; rfl
      rw [hf]; rfl
    · rw [if_neg g1]
      by_cases g2:kc H q y.1 = 0
      · rw [if_pos g2]
        have e:=xa9g g2
        have hf:fnd q (y :: L) = true:=by unfold fnd; rw [xa5e,if_pos e.symm]; rfl
        rw [hf]; rfl
      · rw [if_neg g2]
        have hne:¬ y.1 = q:=fun e=>g2 (by rw [e,xa3d])
        have hf:fnd q (y :: L) = fnd q L:=by unfold fnd; rw [xa5e,if_neg hne]
        rw [hf,List.length_cons,ih,List.length_cons]
        split <;> rfl
theorem WayAt.fd {S:Nat→Prop} {k:Nat} {W:World} {q:List Nat} {L:Prs} {m:Nat} {cr en:Value} {pl:Nat} {fd:Bool} (h:WayAt S k W q L m cr en pl fd):fd = fnd q L:=by
  have hg:=dn_get (H:=hsZ k) (q:=q) (L:=L) m
  rcases h.en with ⟨hm,_,_,rfl⟩ | ⟨_,g,_,_,_,rfl⟩
  · unfold fnd; rw [← hg,hm]; rfl
  · unfold fnd; rw [hg]
theorem xb1h (x y:Value) {X1 Y1:Option Addr} {X2 X3 Y2 Y3:Nat}:Tryz.prog.built 33 [(0,.slice X1 X2 X3),(1,.slice Y1 Y2 Y3)] = some #[.slice X1 X2 X3,.slice Y1 Y2 Y3]:=by kernel_rfl
theorem mapI:∃ i,Tryz.prog.info? 97 = some i∧i.zero = some (.agg #[.int .i64 0,.int .i64 0,.nilIface]):=by
  have h:(Tryz.prog.info? 97).map (·.zero) = some (some (.agg #[.int .i64 0,.int .i64 0,.nilIface])):=by kernel_rfl
  generalize Tryz.prog.info? 97 = o at h
  cases o with
  | none=>cases h
  | some i=>exact ⟨i,rfl,Option.some.inj h⟩
theorem fmap:∀ fs,Tryz.prog.underlying 97 = some (.struct fs)→fs.toList.mapM (fun f=>(Tryz.prog.info? f.type).map fun i=>(f.offset,i.size)) = some [(0,1),(1,1),(2,1)]:=by
  intro fs hfs
  rw [Tryz.underlying97] at hfs
  injection hfs with hfs
  injection hfs with hfs
  subst hfs
  kernel_rfl
theorem xb3l (k n:Int) (tv:Value) (h:tv.cells = #[tv]):Tryz.prog.built 97 [(0,.int .i64 k),(1,.int .i64 n),(2,tv)] = some #[.int .i64 k,.int .i64 n,tv]:=by
  obtain ⟨it,hit,hz⟩:=mapI
  obtain ⟨fs,hfs⟩:∃ fs,Tryz.prog.underlying 97 = some (.struct fs):=⟨_,Tryz.underlying97⟩
  have hpl:=fmap fs hfs
  unfold Program.built
  rw [hit,hfs]
  simp only [hz,hpl,Value.cells]
  have s1:=xa1e (place:=([(0,1),(1,1),(2,1)].toArray[·]?)) (i:=0) (n:=1) (rest:=[(1,.int .i64 n),(2,tv)]) [] [.int .i64 0] [.int .i64 0,.nilIface] [.int .i64 k] (X:=.int .i64 k) rfl rfl rfl rfl
  have s2:=xa1e (place:=([(0,1),(1,1),(2,1)].toArray[·]?)) (i:=1) (n:=1) (rest:=[(2,tv)]) [.int .i64 k] [.int .i64 0] [.nilIface] [.int .i64 n] (X:=.int .i64 n) rfl rfl rfl rfl
  have s3:=xa1e (place:=([(0,1),(1,1),(2,1)].toArray[·]?)) (i:=2) (n:=1) (rest:=[]) [.int .i64 k,.int .i64 n] [.nilIface] [] [tv] (X:=tv) h rfl rfl rfl
  exact s1.trans (s2.trans s3)
theorem xb2q {o:Oper} {a:Act} (w:World) {x y z:Operand} {k n:Int} {tv:Value} (ho:o.op = .build 97 #[(0,x),(1,y),(2,z)]∧a.eval x = .int .i64 k∧a.eval y = .int .i64 n∧a.eval z = tv) (h:tv.cells = #[tv]):(execOp a.eval o).run Tryz.prog w = .ok (.value (.agg #[.int .i64 k,.int .i64 n,tv])) w:=by
  obtain ⟨h0,h1,h2,h3⟩:=ho
  have hb:=run_build (P:=Tryz.prog) w 97 #[(0,.int .i64 k),(1,.int .i64 n),(2,tv)] _ (xb3l k n tv h)
  unfold execOp
  simp only [h0,List.map_toArray,List.map_cons,List.map_nil,h1,h2,h3,Sem.run_bind,hb,Result.andThen_ok]
  rfl
theorem xa8z {S:Nat→Prop} {k f:Nat} {W:World} {v:Value} {L:Prs} (h:KidAt S (hsZ k) W f v L):v.cells = #[v]:=by
  rcases h with ⟨_,rfl⟩ | h
  · rfl
  · rcases h.own with ⟨g,_,_,_,rfl,_⟩ | ⟨g,_,_,_,rfl,_⟩ <;> rfl
theorem xb5e {H:Hs} {q v:List Nat} {L:Prs} (hs:Srt H L) (hf:Fit L) (hq:q.length≤64) (hv:v.length≤256):Fit (insP H q v L):=fun p hp=>by
  rcases (xa3c hs p).1 hp with rfl | ⟨h1,_⟩
  · exact ⟨hq,hv⟩
  · exact hf p h1
theorem xa8t {W:World} {g k:Nat} {D:List Nat} {cr en:Value} {pl:Nat} {fd:Bool} {t:TypeId} (h:W.heap[g]? = some (.cells (wayC k D cr en pl fd).toArray t (0,0))):W.rangeAt g 0 (wayC k D cr en pl fd):=xa0t [] (wayC k D cr en pl fd) [] (by rw [List.nil_append,List.append_nil]; exact h) rfl
set_option maxHeartbeats 4000000 in
theorem xb8g (S:Nat→Prop) (k:Nat) (mv kv vv:Value) (L:Prs) (q v:List Nat) (w:World) (hM:MapAt S k w mv L) (hku:Rd w kv q) (hvu:Rd w vv v) (hq:q.length≤64) (hv:v.length≤256) (hL:L.length < 1000000000) (hS:∀ y,w.heap.size≤y→S y) (hT:Tabs w) :
    Calls Tryz.prog 12 #[mv,kv,vv] w fun e w'=>∃ m',e = .returned (.tuple #[m',.int .i64 0])∧MapAt S k w' m' (insP (hsZ k) q v L)∧Kept [] w w':=by
  have HM:=hide hM
  obtain ⟨hk,hs,hfit,hlen,g,tv,rfl,hSg,hh,htop⟩:=hM
  have hH:=hsZ_ok hk
  obtain ⟨va,vn,vc,rfl,hvl,_⟩:=id hvu
  have hun:vn≤256:=by omega
  have hu1:¬ (256:Int) < vn:=by omega
  have hu2:¬ (vn:Int) > 256:=by omega
  have c0:w.cell? ⟨g,0,none⟩ = some (.int .i64 k):=by rw [cell_of_row _ _ _ _ _ _ hh]; rfl
  have c1:w.cell? ⟨g,1,none⟩ = some (.int .i64 (L.length:Nat)):=by rw [cell_of_row _ _ _ _ _ _ hh]; rfl
  have HC0:=hide c0
  have HC1:=hide c1
  have HKU:=hide hku
  have HVU:=hide hvu
  have HTb:=hide hT
  have HSr:=hide hs
  have HFt:=hide hfit
  have hil:=xb5w (q:=q) (v:=v) hs
  clear hh htop hT hs c0 c1 hku hvu hfit hSg
  go_enter Tryz.func12,Tryz.ntmps12
  go_wp2_with fail
  refine Calls.mono (xa2v S k _ kv L q w (uh HM) (uh HKU) hq (uh HTb)) ?_
  rintro e w1 ⟨m,cr,en,pl,fd,rfl,hway,k1⟩
  have hfd:=hway.fd
  rw [← hfd] at hil
  have hon:=hway.cells
  have HWay:=hide hway
  have hDl:((hsZ k).kd q).length = 32:=(hH.dg q).1
  obtain ⟨D,hD⟩:∃ D,(hsZ k).kd q = D:=⟨_,rfl⟩
  have HD:=hide hD
  rw [hD] at hDl ⊢
  clear hD hfd hway
  have hws:((wayC k D cr en pl fd).toArray).size = 37:=by rw [List.size_toArray,xa1f hDl]
  have HZ1:=hide (heap_alloc_new w1 (.cells zwy 102))
  have HN2:=hide (setRow_heap _ _ _ (wayC k D cr en pl fd).toArray _ _ (uh HZ1))
  have HK12:=hide ((Kept.refl [] w1).alloc (.cells zwy 102) |>.setRow (g:=w1.heap.size) (Or.inr (Nat.le_refl _)) (wayC k D cr en pl fd).toArray)
  have HK2:=hide (k1.trans (uh HK12) (by simp))
  have hz2:((w1.alloc (.cells zwy 102)).setRow w1.heap.size (wayC k D cr en pl fd).toArray).heap.size = w1.heap.size + 1:=by simp [World.setRow]
  have hw1:=k1.size
  clear k1
  obtain ⟨c,hc⟩:∃ c,L.length = c:=⟨_,rfl⟩
  rw [hc] at hil hL HC1
  have hwr:IntKind.i64.wrap ((c:Int) + 1) = ((c + 1:Nat):Int):=by simp [IntKind.wrap,IntKind.signed,IntKind.bits]; omega
  obtain ⟨W2,hW2⟩:∃ W2,(w1.alloc (.cells zwy 102)).setRow w1.heap.size (wayC k D cr en pl fd).toArray = W2:=⟨_,rfl⟩
  rw [hW2] at HN2 HK12 HK2 hz2
  have c1a:=(uh HK2).cell (uh HC1) (by simp)
  have c5a:=(xa0s (uh HN2) hDl).2.2.2.2.2
  cases fd with
  | true =>
    rw [if_pos rfl] at hil
    go_wp2_with (rw [xa3a]; refine wpList_store_row rfl 102 (.tmp 8) (.tmp 16) rfl w1.heap.size (wayC k D cr en pl true).toArray rfl rfl _ zwy (uh HZ1) (by rw [hws]; exact Tryz.size_way) (by rw [hws]; rfl) (xa1r _ _ hon.1 hon.2) ?_; rw [hW2]; simp only [Act.put])
    refine Calls.mono (xa1c kv q W2 ((uh HKU).old (uh HK2) (by simp))) ?_
    rintro e w3 ⟨⟨kz,rfl,hkz,hkb⟩,k3⟩
    obtain ⟨ka,kn,kc',rfl,_⟩:=id hkz
    have HK3:=hide ((uh HK2).trans k3 (by simp))
    have HN3:=hide (k3.heap (uh HN2) (by simp))
    have HK13:=hide ((uh HK12).trans k3 (by simp))
    have hz3:=k3.size
    have HKz:=hide hkz
    have HKb:=hide hkb
    clear k3 hkz hkb
    go_wp2_with fail
    refine Calls.mono (xa1c _ v w3 ((uh HVU).old (uh HK3) (by simp))) ?_
    rintro e w4 ⟨⟨vz,rfl,hvz,hvb⟩,k4⟩
    obtain ⟨va',vn',vc',rfl,_⟩:=id hvz
    have HK4:=hide ((uh HK3).trans k4 (by simp))
    have HN4:=hide (k4.heap (uh HN3) (by simp))
    have HK14:=hide ((uh HK13).trans k4 (by simp))
    have hz4:=k4.size
    have HKz4:=hide ((uh HKz).old k4 (by simp))
    have HVz:=hide hvz
    have HVb:=hide hvb
    clear k4 hvz hvb
    have HP5:=hide (heap_alloc_new w4 (.cells #[.slice ka kn kc',.slice va' vn' vc'] 33))
    have HK45:=hide ((Kept.refl [] w4).alloc (.cells #[.slice ka kn kc',.slice va' vn' vc'] 33))
    have HN5:=hide ((uh HK45).heap (uh HN4) (by simp))
    have HK5:=hide ((uh HK4).trans (uh HK45) (by simp))
    have HK15:=hide ((uh HK14).trans (uh HK45) (by simp))
    have HKz5:=hide ((uh HKz4).old (uh HK45) (by simp))
    have HVz5:=hide ((uh HVz).old (uh HK45) (by simp))
    go_upto_region 10 with fail
    try simp only [Act.put]
    generalize w4.alloc (.cells #[.slice ka kn kc',.slice va' vn' vc'] 33) = W5 at HP5 HK45 HN5 HK5 HK15 HKz5 HVz5 ⊢
    clear c1a c5a
    have HV0:=hide ((uh HK5).cell (uh HC0) (by simp))
    refine ln_pt (by kernel_rfl) (by kernel_rfl) rfl (fun W=>Kept [] W5 W) (Kept.refl _ W5).drew ?_
    refine LinY.mv (x:=.tmp 0) rfl (.pointer (some ⟨g,0,none⟩)) rfl (by simp only [Act.put,sa1,sa2,sa3]; rfl) ?_
    refine LinY.rd (.pointer (some ⟨g,0,none⟩)) (fun W hW=>by go_simp) (by simp only [Act.put,sa1,sa2,sa3]; rfl) ?_
    refine LinY.rd (.pointer (some ⟨g,0,none⟩)) (fun W hW=>by go_simp) (by simp only [Act.put,sa1,sa2,sa3]; rfl) ?_
    refine LinY.rd (.int .i64 k) (fun W hW=>by have h9:=hW.cell (uh HV0) (by simp); go_simp) (by simp only [Act.put,sa1,sa2,sa3]; rfl) ?_
    refine LinY.mv (x:=.tmp 10) rfl (.int .i64 c) rfl (by simp only [Act.put,sa1,sa2,sa3]; rfl) ?_
    refine LinY.ld 102 (.tmp 8) rfl w1.heap.size 0 rfl (wayC k D cr en pl true) _ (fun W hW=>hW.rng (xa8t (uh HN5)) (by simp)) Tryz.underlying102 rfl (by rw [xa1f hDl]; exact Tryz.size_way) (by simp only [Act.put,sa1,sa2,sa3]; rfl) ?_
    refine LinY.ld 102 (.tmp 8) rfl w1.heap.size 0 rfl (wayC k D cr en pl true) _ (fun W hW=>hW.rng (xa8t (uh HN5)) (by simp)) Tryz.underlying102 rfl (by rw [xa1f hDl]; exact Tryz.size_way) (by simp only [Act.put,sa1,sa2,sa3]; rfl) ?_
    refine LinY.ld 33 (.tmp 11) rfl w4.heap.size 0 rfl ([.slice ka kn kc',.slice va' vn' vc']) _ (fun W hW=>hW.rng (xa0t [] [.slice ka kn kc',.slice va' vn' vc'] [] (uh HP5) rfl) (by simp)) Tryz.underlying33 rfl Tryz.size_pair (by simp only [Act.put,sa1,sa2,sa3]; rfl) ?_
    have hd5:=(Kept.refl [] W5).drew
    have hw5:=(uh HWay).old ((uh HK15).trans hd5 (by simp))
    have hS5:∀ y,W5.drew.heap.size≤y→S y:=fun y hy=>hS y (Nat.le_trans ((uh HK5).trans hd5 (by simp)).size hy)
    have hew:=xa4s S k m q v L cr en (.slice ka kn kc') (.slice va' vn' vc') pl true W5.drew hk hS5 hw5 (uh HSr) (uh HFt) (by omega) hq hv
      (Sty.rd ((uh HKz5).old hd5 (by simp)) (fun x hx=>hS x (Nat.le_trans (uh HK2).size (uh HKb x hx))))
      (Sty.rd ((uh HVz5).old hd5 (by simp)) (fun x hx=>hS x (Nat.le_trans (uh HK3).size (uh HVb x hx)))) ((uh HTb).k ((uh HK5).trans hd5 (by simp)))
    rw [uh HD] at hew
    refine ChL.call rfl Tryz.call52 [.agg (wayC k D cr en pl true).toArray,.agg #[.slice ka kn kc',.slice va' vn' vc']] rfl hew ?_
    rintro e w6 ⟨t6,rfl,ht6,k6⟩
    have hk6:=hd5.trans k6 (by simp)
    refine ⟨_,rfl,hk6,?_⟩
    simp only [Act.put,sa1,sa2,sa3]
    have hk60:=(uh HK5).trans hk6 (by simp)
    have hli:=xb2k S k m q L (fun i=>insP (hsZ k) q v (dnL (hsZ k) q L i)) cr en pl true t6 w6 hk (fun y hy=>hS y (Nat.le_trans hk60.size hy)) (hw5.old k6) (fun i hi=>⟨put_in (dn_srt (uh HSr) i),xb1b (dn_srt (uh HSr) i),ins_ne⟩) (Or.inr ht6) ((uh HTb).k hk60)
    rw [uh HD] at hli
    refine ChL.call rfl Tryz.call51 [.agg (wayC k D cr en pl true).toArray,t6] rfl hli ?_
    rintro e w7 ⟨t7,rfl,ht7,k7⟩
    have hk7:=hk6.trans k7 (by simp)
    refine ⟨_,rfl,hk7,?_⟩
    simp only [Act.put,sa1,sa2,sa3]
    have hk70:=hk60.trans k7 (by simp)
    have hone:t7.cells = #[t7]:=xa8z ht7
    refine ChL.op (.agg #[.int .i64 k,.int .i64 c,t7]) (xb2q w7 ⟨rfl,rfl,rfl,rfl⟩ hone) hk7 (by simp only [Act.put,sa1,sa2,sa3]; rfl) ?_
    have hka:=hk7.alloc (.cells #[.int .i64 k,.int .i64 c,t7] 97)
    have hkz:=hk70.alloc (.cells #[.int .i64 k,.int .i64 c,t7] 97)
    refine ChL.op (.pointer (some ⟨w7.heap.size,0,none⟩)) (by go_simp) hka (by simp only [Act.put,sa1,sa2,sa3]; rfl) ?_
    refine ChL.op (.pointer (some ⟨w7.heap.size,0,none⟩)) (by go_simp) hka (by simp only [Act.put,sa1,sa2,sa3]; rfl) ?_
    refine ChL.op (.int .i64 0) (by go_simp) hka (by simp only [Act.put,sa1,sa2,sa3]; rfl) (ChL.fin ?_)
    have hfin:MapAt S k (w7.alloc (.cells #[.int .i64 k,.int .i64 c,t7] 97)) (.pointer (some ⟨w7.heap.size,0,none⟩)) (insP (hsZ k) q v L) :=
      ⟨hk,(uh HSr).ins q v,xb5e (uh HSr) (uh HFt) hq hv,by omega,w7.heap.size,t7,rfl,hS _ hk70.size,by rw [hil]; exact heap_alloc_new _ _,ht7.agr (Agr.nil ((Kept.refl [] w7).alloc _))⟩
    go_wp2
    go_ret2
    exact ⟨_,rfl,hfin,hkz⟩
  | false =>
    rw [if_neg (by decide)] at hil
    go_wp2_with (rw [xa3a]; refine wpList_store_row rfl 102 (.tmp 8) (.tmp 16) rfl w1.heap.size (wayC k D cr en pl false).toArray rfl rfl _ zwy (uh HZ1) (by rw [hws]; exact Tryz.size_way) (by rw [hws]; rfl) (xa1r _ _ hon.1 hon.2) ?_; rw [hW2]; simp only [Act.put])
    refine Calls.mono (xa1c kv q W2 ((uh HKU).old (uh HK2) (by simp))) ?_
    rintro e w3 ⟨⟨kz,rfl,hkz,hkb⟩,k3⟩
    obtain ⟨ka,kn,kc',rfl,_⟩:=id hkz
    have HK3:=hide ((uh HK2).trans k3 (by simp))
    have HN3:=hide (k3.heap (uh HN2) (by simp))
    have HK13:=hide ((uh HK12).trans k3 (by simp))
    have hz3:=k3.size
    have HKz:=hide hkz
    have HKb:=hide hkb
    clear k3 hkz hkb
    go_wp2_with fail
    refine Calls.mono (xa1c _ v w3 ((uh HVU).old (uh HK3) (by simp))) ?_
    rintro e w4 ⟨⟨vz,rfl,hvz,hvb⟩,k4⟩
    obtain ⟨va',vn',vc',rfl,_⟩:=id hvz
    have HK4:=hide ((uh HK3).trans k4 (by simp))
    have HN4:=hide (k4.heap (uh HN3) (by simp))
    have HK14:=hide ((uh HK13).trans k4 (by simp))
    have hz4:=k4.size
    have HKz4:=hide ((uh HKz).old k4 (by simp))
    have HVz:=hide hvz
    have HVb:=hide hvb
    clear k4 hvz hvb
    have HP5:=hide (heap_alloc_new w4 (.cells #[.slice ka kn kc',.slice va' vn' vc'] 33))
    have HK45:=hide ((Kept.refl [] w4).alloc (.cells #[.slice ka kn kc',.slice va' vn' vc'] 33))
    have HN5:=hide ((uh HK45).heap (uh HN4) (by simp))
    have HK5:=hide ((uh HK4).trans (uh HK45) (by simp))
    have HK15:=hide ((uh HK14).trans (uh HK45) (by simp))
    have HKz5:=hide ((uh HKz4).old (uh HK45) (by simp))
    have HVz5:=hide ((uh HVz).old (uh HK45) (by simp))
    go_upto_region 10 with fail
    try simp only [Act.put]
    generalize w4.alloc (.cells #[.slice ka kn kc',.slice va' vn' vc'] 33) = W5 at HP5 HK45 HN5 HK5 HK15 HKz5 HVz5 ⊢
    clear c1a c5a
    have HV0:=hide ((uh HK5).cell (uh HC0) (by simp))
    refine ln_pt (by kernel_rfl) (by kernel_rfl) rfl (fun W=>Kept [] W5 W) (Kept.refl _ W5).drew ?_
    refine LinY.mv (x:=.tmp 0) rfl (.pointer (some ⟨g,0,none⟩)) rfl (by simp only [Act.put,sa1,sa2,sa3]; rfl) ?_
    refine LinY.rd (.pointer (some ⟨g,0,none⟩)) (fun W hW=>by go_simp) (by simp only [Act.put,sa1,sa2,sa3]; rfl) ?_
    refine LinY.rd (.pointer (some ⟨g,0,none⟩)) (fun W hW=>by go_simp) (by simp only [Act.put,sa1,sa2,sa3]; rfl) ?_
    refine LinY.rd (.int .i64 k) (fun W hW=>by have h9:=hW.cell (uh HV0) (by simp); go_simp) (by simp only [Act.put,sa1,sa2,sa3]; rfl) ?_
    refine LinY.mv (x:=.tmp 10) rfl (.int .i64 (c + 1:Nat)) rfl (by simp only [Act.put,sa1,sa2,sa3]; rfl) ?_
    refine LinY.ld 102 (.tmp 8) rfl w1.heap.size 0 rfl (wayC k D cr en pl false) _ (fun W hW=>hW.rng (xa8t (uh HN5)) (by simp)) Tryz.underlying102 rfl (by rw [xa1f hDl]; exact Tryz.size_way) (by simp only [Act.put,sa1,sa2,sa3]; rfl) ?_
    refine LinY.ld 102 (.tmp 8) rfl w1.heap.size 0 rfl (wayC k D cr en pl false) _ (fun W hW=>hW.rng (xa8t (uh HN5)) (by simp)) Tryz.underlying102 rfl (by rw [xa1f hDl]; exact Tryz.size_way) (by simp only [Act.put,sa1,sa2,sa3]; rfl) ?_
    refine LinY.ld 33 (.tmp 11) rfl w4.heap.size 0 rfl ([.slice ka kn kc',.slice va' vn' vc']) _ (fun W hW=>hW.rng (xa0t [] [.slice ka kn kc',.slice va' vn' vc'] [] (uh HP5) rfl) (by simp)) Tryz.underlying33 rfl Tryz.size_pair (by simp only [Act.put,sa1,sa2,sa3]; rfl) ?_
    have hd5:=(Kept.refl [] W5).drew
    have hw5:=(uh HWay).old ((uh HK15).trans hd5 (by simp))
    have hS5:∀ y,W5.drew.heap.size≤y→S y:=fun y hy=>hS y (Nat.le_trans ((uh HK5).trans hd5 (by simp)).size hy)
    have hew:=xa4s S k m q v L cr en (.slice ka kn kc') (.slice va' vn' vc') pl false W5.drew hk hS5 hw5 (uh HSr) (uh HFt) (by omega) hq hv
      (Sty.rd ((uh HKz5).old hd5 (by simp)) (fun x hx=>hS x (Nat.le_trans (uh HK2).size (uh HKb x hx))))
      (Sty.rd ((uh HVz5).old hd5 (by simp)) (fun x hx=>hS x (Nat.le_trans (uh HK3).size (uh HVb x hx)))) ((uh HTb).k ((uh HK5).trans hd5 (by simp)))
    rw [uh HD] at hew
    refine ChL.call rfl Tryz.call52 [.agg (wayC k D cr en pl false).toArray,.agg #[.slice ka kn kc',.slice va' vn' vc']] rfl hew ?_
    rintro e w6 ⟨t6,rfl,ht6,k6⟩
    have hk6:=hd5.trans k6 (by simp)
    refine ⟨_,rfl,hk6,?_⟩
    simp only [Act.put,sa1,sa2,sa3]
    have hk60:=(uh HK5).trans hk6 (by simp)
    have hli:=xb2k S k m q L (fun i=>insP (hsZ k) q v (dnL (hsZ k) q L i)) cr en pl false t6 w6 hk (fun y hy=>hS y (Nat.le_trans hk60.size hy)) (hw5.old k6) (fun i hi=>⟨put_in (dn_srt (uh HSr) i),xb1b (dn_srt (uh HSr) i),ins_ne⟩) (Or.inr ht6) ((uh HTb).k hk60)
    rw [uh HD] at hli
    refine ChL.call rfl Tryz.call51 [.agg (wayC k D cr en pl false).toArray,t6] rfl hli ?_
    rintro e w7 ⟨t7,rfl,ht7,k7⟩
    have hk7:=hk6.trans k7 (by simp)
    refine ⟨_,rfl,hk7,?_⟩
    simp only [Act.put,sa1,sa2,sa3]
    have hk70:=hk60.trans k7 (by simp)
    have hone:t7.cells = #[t7]:=xa8z ht7
    refine ChL.op (.agg #[.int .i64 k,.int .i64 (c + 1:Nat),t7]) (xb2q w7 ⟨rfl,rfl,rfl,rfl⟩ hone) hk7 (by simp only [Act.put,sa1,sa2,sa3]; rfl) ?_
    have hka:=hk7.alloc (.cells #[.int .i64 k,.int .i64 (c + 1:Nat),t7] 97)
    have hkz:=hk70.alloc (.cells #[.int .i64 k,.int .i64 (c + 1:Nat),t7] 97)
    refine ChL.op (.pointer (some ⟨w7.heap.size,0,none⟩)) (by go_simp) hka (by simp only [Act.put,sa1,sa2,sa3]; rfl) ?_
    refine ChL.op (.pointer (some ⟨w7.heap.size,0,none⟩)) (by go_simp) hka (by simp only [Act.put,sa1,sa2,sa3]; rfl) ?_
    refine ChL.op (.int .i64 0) (by go_simp) hka (by simp only [Act.put,sa1,sa2,sa3]; rfl) (ChL.fin ?_)
    have hfin:MapAt S k (w7.alloc (.cells #[.int .i64 k,.int .i64 (c + 1:Nat),t7] 97)) (.pointer (some ⟨w7.heap.size,0,none⟩)) (insP (hsZ k) q v L) :=
      ⟨hk,(uh HSr).ins q v,xb5e (uh HSr) (uh HFt) hq hv,by omega,w7.heap.size,t7,rfl,hS _ hk70.size,by rw [hil]; exact heap_alloc_new _ _,ht7.agr (Agr.nil ((Kept.refl [] w7).alloc _))⟩
    go_wp2
    go_ret2
    exact ⟨_,rfl,hfin,hkz⟩
theorem xb7a (S:Nat→Prop) (k:Nat) (mv:Value) (L:Prs) (w:World) (hM:MapAt S k w mv L) :
    Calls Tryz.prog 45 #[mv] w fun e w'=>e = .returned (.int .i64 k)∧Kept [] w w':=by
  obtain ⟨hk,hs,hfit,hlen,g,tv,rfl,hSg,hh,htop⟩:=hM
  have c1:w.cell? ⟨g,0,none⟩ = some (.int .i64 k):=by rw [cell_of_row _ _ _ _ _ _ hh]; rfl
  clear hh htop hs hfit
  go_enter Tryz.func45,Tryz.ntmps45
  go_wp2
  go_ret
  exact ⟨rfl,Kept.refl _ _⟩
theorem xb1g (k:Int):Tryz.prog.built 97 [(0,.int .i64 k)] = some #[.int .i64 k,.int .i64 0,.nilIface]:=by kernel_rfl
theorem xb9j (S:Nat→Prop) (k:Nat) (w:World) (hk:1≤k∧k≤32) (hS:∀ y,w.heap.size≤y→S y) :
    Calls Tryz.prog 10 #[.int .i64 k] w fun e w'=>∃ m',e = .returned (.tuple #[m',.int .i64 0])∧MapAt S k w' m' []∧Kept [] w w':=by
  have h1:¬ (k:Int) < 1:=by omega
  have h2:¬ (32:Int) < k:=by omega
  have h3:¬ (k:Int) > 32:=by omega
  go_enter Tryz.func10,Tryz.ntmps10
  go_wp2_with (refine xa0q rfl 97 _ rfl #[.int .i64 k,.int .i64 0,.nilIface] (by simp only [List.map_toArray,List.map_cons,List.map_nil]; exact xb1g k) ?_)
  go_ret2
  exact ⟨_,rfl,⟨hk,List.Pairwise.nil,fun p hp=>by simp at hp,by simp,w.heap.size,.nilIface,rfl,hS _ (Nat.le_refl _),heap_alloc_new w _,Or.inl ⟨rfl,rfl⟩⟩,(Kept.refl [] w).alloc _⟩
def rootP (k:Nat) (L:Prs):List Nat:=if L.isEmpty then cutL k (hash [5]) else nodP (hsZ k) 64 L
set_option maxHeartbeats 2000000 in
theorem xb6u (S:Nat→Prop) (k:Nat) (mv:Value) (L:Prs) (w:World) (hM:MapAt S k w mv L) (hT:Tabs w) :
    Calls Tryz.prog 38 #[mv] w fun e w'=>e = .returned (.agg (brow (rootP k L)))∧Kept [] w w':=by
  obtain ⟨hk,hs,hfit,hlen,g,tv,rfl,hSg,hh,htop⟩:=hM
  have c0:w.cell? ⟨g,0,none⟩ = some (.int .i64 k):=by rw [cell_of_row _ _ _ _ _ _ hh]; rfl
  have c2:w.cell? ⟨g,2,none⟩ = some tv:=by rw [cell_of_row _ _ _ _ _ _ hh]; rfl
  have HZ0:=hide (heap_alloc_new w (.cells (zb 32) 58))
  have HK0:=hide ((Kept.refl [] w).alloc (.cells (zb 32) 58))
  have c0a:∀ o,(w.alloc o).cell? ⟨g,0,none⟩ = some (.int .i64 k):=fun o=>((Kept.refl [] w).alloc o).cell c0 (by simp)
  have c2a:∀ o,(w.alloc o).cell? ⟨g,2,none⟩ = some tv:=fun o=>((Kept.refl [] w).alloc o).cell c2 (by simp)
  have HTb:=hide hT
  have he1:=en_bk
  have he2:=en_br
  have he3:=en_nil
  have hg1:=eg_bk
  have hg2:=eg_br
  rcases htop with ⟨rfl,rfl⟩ | ht
  · obtain ⟨O,hO⟩:∃ O,cutL k (hash [5]) = O:=⟨_,rfl⟩
    have hOl:O.length = 32:=by rw [← hO]; exact xa1d k (hash [5]) (by omega) (xa2n [5])
    have hR:rootP k [] = O:=hO
    rw [hR]
    have HO:=hide hO
    clear hO hR hh hT c0 c2
    go_enter Tryz.func38,Tryz.ntmps38
    go_wp2_with fail
    rw [zb32]
    refine Calls.mono (xa8p k _ (by omega) (wide_k hk) ((uh HTb).k (uh HK0))) ?_
    rintro e w1 ⟨rfl,k1⟩
    rw [Int.toNat_natCast,uh HO]
    have HK1:=hide ((uh HK0).trans k1 (by simp))
    have HZ1:=hide (k1.heap (uh HZ0) (by simp))
    have hlt:=lt_of_block (uh HZ1)
    clear k1 c0a c2a
    have HN1:=hide (heap_alloc_new w1 (.cells (zb 32) 58))
    have HN2:=hide (setRow_heap _ _ _ (brow O) _ _ (uh HN1))
    have HK12:=hide ((Kept.refl [] w1).alloc (.cells (zb 32) 58) |>.setRow (g:=w1.heap.size) (Or.inr (Nat.le_refl _)) (brow O))
    have HZ2:=hide ((uh HK12).heap (uh HZ1) (by simp))
    have HK2:=hide ((uh HK1).trans (uh HK12) (by simp))
    go_wp2_with (first
      | (rw [zb32]; refine wpList_store_row rfl 58 (.tmp 3) (.tmp 21) rfl w1.heap.size (brow O) rfl rfl _ (zb 32) (uh HN1) (by rw [xa0a,hOl]; exact Tryz.size_dig) (by rw [xa0d,xa0a,hOl]) (xa0c _) ?_)
      | (refine wpList_load_row rfl 58 (.tmp 3) rfl w1.heap.size rfl 58 (brow O) (0,0) _ (uh HN2) Tryz.underlying58 rfl (by rw [xa0a,hOl]; exact Tryz.size_dig) ?_)
      | (refine wpList_store_row rfl 58 (.tmp 2) (.tmp 23) rfl w.heap.size (brow O) rfl rfl _ (zb 32) (uh HZ2) (by rw [xa0a,hOl]; exact Tryz.size_dig) (by rw [xa0d,xa0a,hOl]) (xa0c _) ?_))
    refine bodyPost_ret (v:=.agg (brow O)) ?_ rfl ⟨rfl,(uh HK2).setRow (Or.inr (Nat.le_refl _)) _⟩
    exact results_cell_row rfl _ _ w.heap.size _ (brow O) (0,0) _ rfl (setRow_heap _ _ _ _ _ _ (uh HZ2)) Tryz.underlying58 rfl (by rw [xa0a,hOl]; exact Tryz.size_dig)
  · have hne:=ht.ne
    have hR:rootP k L = nodP (hsZ k) 64 L:=by
      unfold rootP
      cases L with
      | nil=>exact absurd rfl hne
      | cons y L=>rfl
    rw [hR]
    have hO2:=(nod_dg k 64 L).1
    have hown:=ht.own
    generalize nodP (hsZ k) 64 L = O at hown hO2
    clear hR hh hT c0 c2 ht hne
    rcases hown with ⟨g1,D,pv,hs1,rfl,hD,hh1⟩ | ⟨g1,x,kv,hs1,rfl,hh1⟩
    · have HH:=hide (((Kept.refl [] w).alloc (.cells (zb 32) 58)).heap hh1 (by simp))
      clear hh1 hs1
      go_enter Tryz.func38,Tryz.ntmps38
      go_wp2_with fail
      rw [zb32]
      refine Calls.mono (xb1v g1 D O pv _ (uh HH) hD hO2) ?_
      rintro e w1 ⟨rfl,k1⟩
      have HK1:=hide ((uh HK0).trans k1 (by simp))
      have HZ1:=hide (k1.heap (uh HZ0) (by simp))
      clear k1 c0a c2a
      go_wp2_with (refine wpList_store_row rfl 58 (.tmp 2) (.tmp 28) rfl w.heap.size (brow O) rfl rfl _ (zb 32) (uh HZ1) (by rw [xa0a,hO2]; exact Tryz.size_dig) (by rw [xa0d,xa0a,hO2]) (xa0c _) ?_)
      refine bodyPost_ret (v:=.agg (brow O)) ?_ rfl ⟨rfl,(uh HK1).setRow (Or.inr (Nat.le_refl _)) _⟩
      exact results_cell_row rfl _ _ w.heap.size _ (brow O) (0,0) _ rfl (setRow_heap _ _ _ _ _ _ (uh HZ1)) Tryz.underlying58 rfl (by rw [xa0a,hO2]; exact Tryz.size_dig)
    · have HH:=hide (((Kept.refl [] w).alloc (.cells (zb 32) 58)).heap hh1 (by simp))
      clear hh1 hs1
      go_enter Tryz.func38,Tryz.ntmps38
      go_wp2_with fail
      rw [zb32]
      refine Calls.mono (xb2l g1 x O kv _ (uh HH) hO2) ?_
      rintro e w1 ⟨rfl,k1⟩
      have HK1:=hide ((uh HK0).trans k1 (by simp))
      have HZ1:=hide (k1.heap (uh HZ0) (by simp))
      clear k1 c0a c2a
      go_wp2_with (refine wpList_store_row rfl 58 (.tmp 2) (.tmp 28) rfl w.heap.size (brow O) rfl rfl _ (zb 32) (uh HZ1) (by rw [xa0a,hO2]; exact Tryz.size_dig) (by rw [xa0d,xa0a,hO2]) (xa0c _) ?_)
      refine bodyPost_ret (v:=.agg (brow O)) ?_ rfl ⟨rfl,(uh HK1).setRow (Or.inr (Nat.le_refl _)) _⟩
      exact results_cell_row rfl _ _ w.heap.size _ (brow O) (0,0) _ rfl (setRow_heap _ _ _ _ _ _ (uh HZ1)) Tryz.underlying58 rfl (by rw [xa0a,hO2]; exact Tryz.size_dig)
end
section
open Go Go.RowKit Go.BigFrame
theorem ln_ly {P:Program} {Q:Exit→Act→World→Prop} {id:Nat} {o0 o1 o2 o3 o4 o5 o6 o7 o8 o9 o10:Oper} {a:Act} {w:World} (hm:P.follows .mixedOrders = true) (hb:linB #[o0,o1,o2,o3,o4,o5,o6,o7,o8,o9,o10] [0,1,2,4,5] [3,6,7,8,9,10] [] = true) (hg:([o0,o1,o2,o4,o5]++([o3,o6,o7,o8,o9,o10]++[])).all (fun o=>o.guard.isNone) = true) (S:World→Prop) (hS:S w.drew)
    (h:LinY P S (ChL P Q S (Q .normal) [o3,o6,o7,o8,o9,o10]) [o0,o1,o2,o4,o5] a w.drew):(Code.region id #[o0,o1,o2,o3,o4,o5,o6,o7,o8,o9,o10] true).wp P Q a w:=xa1n (R:=[0,1,2,4,5]) (C:=[3,6,7,8,9,10]) (rs:=[o0,o1,o2,o4,o5]) (cs:=[o3,o6,o7,o8,o9,o10]) hm hb rfl rfl hg hS h
end
section
open Go.RowKit Go.BigFrame
theorem ChL.app {Q:Exit→Act→World→Prop} {S:World→Prop} {F:Act→World→Prop} {cs:List Oper} {o:Oper} {a:Act} (T e:Nat) (s x:Operand)
    (ho:o.op = .call { callee:=.builtin .append,args:=#[s,x],argTypes:=#[T,T] }) (hty:o.type = T)
    (w:World) (base:Nat) (z:Value) (sz bytes:Nat) (hu:Tryz.prog.underlying T = some (.slice e)) (hinf:(Tryz.prog.info? e).map (fun i=>(i.zero,i.size,i.bytes)) = some (some z,sz,bytes)) (hzs:z.cells.size = sz) (hs0:0 < sz)
    (v:Value) (n:Nat) (xs:List Value) (h:w.ownsRow base e sz v n xs) (ao:Option Addr) (m c:Nat) (rows:List (List Value)) (hr:RdC sz w (.slice ao m c) rows) (hs:∀ r∈rows,r.length = sz) (hone:∀ r∈rows,∀ u∈r,u.oneCell' = true)
    (hl:(n + m) * bytes≤140737488355328) (hl2:n + m≤1000000000000) (hb:base≤w.heap.size) (he:a.eval s = v) (hx:a.eval x = .slice ao m c)
    (hK:∀ ao' cap' w1,Hid (w1.ownsRow base e sz (.slice ao' (n + m) cap') (n + m) (xs++rows.flatten))→Hid (w.grownBy w1 v.ownBlock)→Hid ((Value.slice ao' (n + m) cap').ownBlock = v.ownBlock∨(Value.slice ao' (n + m) cap').ownBlock = some w.heap.size) →
      S w1∧ChL Tryz.prog Q S F cs (a.put o.dst (.slice ao' (n + m) cap')) w1):ChL Tryz.prog Q S F (o :: cs) a w:=by
  obtain ⟨ao',cap',w1,hrun,h2,h3,h4⟩:=appendC w base T e z sz bytes hu hinf hzs hs0 v n xs h ao m c rows hr hs hone hl hl2 hb
  unfold ChL
  unfold Oper.wp execOp
  simp only [ho,hty,resolve,invoke,builtin,Sem.run_bind,Sem.run_pure,Result.andThen_ok,List.map_toArray,List.map_cons,List.map_nil,he,hx,hrun]
  exact hK ao' cap' w1 h2 h3 h4
theorem PR.shrink {S:Nat→Prop} {W:World} {l:List VP} {L:Prs} (h:PR S W l L):PR (lowS S W) W l L:=⟨h.1,fun i hi=>(h.2 i hi).shrink⟩
theorem PR.mono {S T:Nat→Prop} {W:World} {l:List VP} {L:Prs} (hs:∀ x,T x→S x) (h:PR T W l L):PR S W l L:=⟨h.1,fun i hi=>(h.2 i hi).mono hs⟩
def tB (B:Nat) (v:Value):Nat→Prop:=fun y=>B≤y∧v.ownBlock≠some y
structure LayAt (B:Nat) (w:World) (v:Value) (l:List VP) (L:Prs):Prop where
  own:w.ownsRow B 33 2 v l.length (kvR l).flatten
  pr:PR (tB B v) w l L
theorem LayAt.agr {B:Nat} {w w':World} {v:Value} {l:List VP} {L:Prs} (h:LayAt B w v l L) (k:Kept [] w w'):LayAt B w' v l L:=⟨k.owns h.own (by simp),h.pr.agr (Agr.nil k)⟩
theorem LayAt.nil (B:Nat) (w:World):LayAt B w (.slice none 0 0) [] []:=⟨World.ownsRow_nil _ _ _ _,PR.nil _ _⟩
theorem LayAt.snoc {B:Nat} {w w1:World} {v v':Value} {l:List VP} {L:Prs} {kz vz:Value} {a b:List Nat} (h:LayAt B w v l L) (hk:Rd w kz a) (hv:Rd w vz b) (hkb:∀ x∈blk kz,tB B v x) (hvb:∀ x∈blk vz,tB B v x)
    (ho:w1.ownsRow B 33 2 v' (l.length + 1) ((kvR l).flatten++(kvR [(kz,vz)]).flatten)) (hg:w.grownBy w1 v.ownBlock) (hb:v'.ownBlock = v.ownBlock∨v'.ownBlock = some w.heap.size):LayAt B w1 v' (l++[(kz,vz)]) (L++[(a,b)]):=by
  have hp:=(h.pr.app (PR.one (Sty.rd hk hkb) (Sty.rd hv hvb))).shrink
  have hK:=(Kept.refl v.ownBlock.toList w).grown hg (by intro x hx; left; simp [hx])
  have ha:Agr (lowS (tB B v) w) w w1:=⟨hK.size,fun x hx hl=>hK.block x hl (by
    intro hm
    have:v.ownBlock = some x:=by simpa using hm
    exact hx.1.2 this)⟩
  refine ⟨?_,(hp.agr ha).mono (fun x hx=>⟨hx.1.1,?_⟩)⟩
  · rw [List.length_append,xb5l,List.flatten_append]; exact ho
  · rcases hb with e | e
    · rw [e]; exact hx.1.2
    · rw [e]; intro e2; have h2:=hx.2; injection e2 with e3; omega
theorem xb4q {o:Oper} {a:Act} (w:World) {x y:Operand} {X1 Y1:Option Addr} {X2 X3 Y2 Y3:Nat} (ho:o.op = .build 33 #[(0,x),(1,y)]∧a.eval x = .slice X1 X2 X3∧a.eval y = .slice Y1 Y2 Y3):(execOp a.eval o).run Tryz.prog w = .ok (.value (.agg #[.slice X1 X2 X3,.slice Y1 Y2 Y3])) w:=by
  obtain ⟨h0,h1,h2⟩:=ho
  have hb:=run_build (P:=Tryz.prog) w 33 #[(0,.slice X1 X2 X3),(1,.slice Y1 Y2 Y3)] _ (xb1h undef undef)
  unfold execOp
  simp only [h0,List.map_toArray,List.map_cons,List.map_nil,h1,h2,Sem.run_bind,hb,Result.andThen_ok]
  rfl
set_option maxHeartbeats 4000000 in
theorem xb7m (S:Nat→Prop) (k g:Nat) (E L:Prs) (lv:Value) (l:List VP) (W0 w:World) (hb:BkAt S (hsZ k) W0 g E) (hk0:Kept [] W0 w) (hl:LayAt W0.heap.size w lv l L) (hn:L.length + E.length≤1000000000) :
    Calls Tryz.prog 57 #[.pointer (some ⟨g,0,none⟩),lv] w fun e w'=>∃ v' l',e = .returned v'∧LayAt W0.heap.size w' v' l' (L++E)∧Kept [] W0 w':=by
  obtain ⟨pv,hSg,hh,hne,hkr⟩:=hb
  have hkd:((hsZ k).kd (E.headD ([],[])).1).length = 32:=xa1g _ _
  have c1:=(bk_row hh hkd).2.1
  obtain ⟨b,off,cap,le,rfl,hc1,hc2,hSb,hle,hcells,hrds⟩:=hkr
  have HC1:=hide c1
  have c1a:=hk0.cell c1 (by simp)
  have HCE:=hide hcells
  have HRD:=hide (fun i (hi:i < le.length)=>(hrds i hi).now)
  obtain ⟨n,hnn⟩:∃ n,le.length = n:=⟨_,rfl⟩
  rw [hnn] at hle hc1 HC1 HCE HRD c1a
  have HLE:=hide hle
  have HKW:=hide hk0
  have HLY:=hide hl
  rw [← hle] at hn
  clear hcells hrds hh hkd c1 hl hk0 hnn hle hne
  go_enter Tryz.func57,Tryz.ntmps57
  go_wp2
  go_loopw [1,12] (fun t1 t12 wr=>∃ (i:Nat) (v:Value) (lx:List VP),t12 = .int .i64 i∧t1 = v∧i≤n∧Hid (LayAt W0.heap.size wr v lx (L++E.take i))∧Hid (Kept [] W0 wr)) (fun _ t _=>n - (intOf t).toNat)
  case atStart=>exact ⟨0,lv,l,rfl,rfl,Nat.zero_le _,hide (by rw [List.take_zero,List.append_nil]; exact uh HLY),HKW⟩
  case round =>
    clear HLY HKW c1a
    obtain ⟨i,v,lx,rfl,rfl,hi,HLx,HKr⟩:=hrel
    by_cases hlt:i < n
    · have hlt':(i:Int) < n:=by omega
      obtain ⟨hx1,hx2⟩:=uh HCE i hlt
      obtain ⟨hr1,hr2⟩:=uh HRD i hlt
      generalize (le.getD i (undef,undef)).1 = kx at hx1 hr1
      generalize (le.getD i (undef,undef)).2 = vx at hx2 hr2
      have hEi:E.take (i + 1) = E.take i++[E.getD i ([],[])]:=by
        have hiE:i < E.length:=by have:=uh HLE; omega
        rw [List.take_succ_eq_append_getElem hiE,List.getD_eq_getElem?_getD,List.getElem?_eq_getElem hiE]; rfl
      have HEi:=hide hEi
      clear hEi
      generalize E.getD i ([],[]) = ei at hr1 hr2 HEi
      obtain ⟨ka,kb⟩:=ei
      obtain ⟨x1,x2,x3,rfl,_⟩:=id hr1
      obtain ⟨y1,y2,y3,rfl,_⟩:=id hr2
      have hlx:=(uh HLx).pr.1
      rw [List.length_append,List.length_take] at hlx
      have HLX:=hide hlx
      clear hlx
      obtain ⟨vo,vc,rfl⟩:=xa0x (uh HLx).own
      have hm1:=(uh HKr).cell hx1 (by simp)
      have hm2:=(uh HKr).cell hx2 (by simp)
      have HRG:=hide (show wr.rangeAt b (off + i * 2) [.slice x1 x2 x3,.slice y1 y2 y3] from fun j u hj=>by
        match j,hj with
        | 0,hj=>rw [Nat.add_zero,hm1]; exact hj
        | 1,hj=>rw [hm2]; exact hj)
      have HP2:=hide (heap_alloc_new wr (.cells #[.slice x1 x2 x3,.slice y1 y2 y3] 33))
      have HK2:=hide ((Kept.refl [] wr).alloc (.cells #[.slice x1 x2 x3,.slice y1 y2 y3] 33))
      have hws:(wr.alloc (.cells #[.slice x1 x2 x3,.slice y1 y2 y3] 33)).heap.size = wr.heap.size + 1:=by simp
      have hown:∀ y,(Value.slice vo lx.length vc).ownBlock = some y→W0.heap.size≤y∧y < wr.heap.size:=fun y hy=>(uh HLx).own.lt y hy
      have HR1:=hide hr1
      have HR2:=hide hr2
      clear hx1 hx2 hr1 hr2 hm1 hm2
      go_upto_region 4 with (refine wpList_load_mid rfl 33 (.tmp 14) rfl b (off + i * 2) rfl [.slice x1 x2 x3,.slice y1 y2 y3] _ (uh HRG) Tryz.underlying33 rfl Tryz.size_pair ?_)
      try simp only [Act.put]
      generalize wr.alloc (.cells #[.slice x1 x2 x3,.slice y1 y2 y3] 33) = W2 at HP2 HK2 hws ⊢
      have hcp:=xa0t [] [.slice x1 x2 x3,.slice y1 y2 y3] [] (uh HP2) rfl
      have HQ1:=hide (show W2.cell? ⟨wr.heap.size,0,none⟩ = some (.slice x1 x2 x3) from hcp 0 _ rfl)
      have HQ2:=hide (show W2.cell? ⟨wr.heap.size,1,none⟩ = some (.slice y1 y2 y3) from hcp 1 _ rfl)
      have hno:wr.heap.size∉(Value.slice vo lx.length vc).ownBlock.toList:=by
        intro hm
        have:=hown _ (by simpa using hm)
        omega
      obtain ⟨OB,hOB⟩:∃ OB,(Value.slice vo lx.length vc).ownBlock = OB:=⟨_,rfl⟩
      rw [hOB] at hno hown
      refine ln_ly (by kernel_rfl) (by kernel_rfl) rfl (fun W=>Kept OB.toList W2 W) (Kept.refl _ W2).drew ?_
      refine LinY.mv (x:=.tmp 1) rfl (.slice vo lx.length vc) rfl (by simp only [Act.put,sa1,sa2,sa3]; rfl) ?_
      refine LinY.rd (.pointer (some ⟨wr.heap.size,0,none⟩)) (fun W hW=>by go_simp) (by simp only [Act.put,sa1,sa2,sa3]; rfl) ?_
      refine LinY.rd (.slice x1 x2 x3) (fun W hW=>by have h9:=hW.cell (uh HQ1) hno; go_simp) (by simp only [Act.put,sa1,sa2,sa3]; rfl) ?_
      refine LinY.rd (.pointer (some ⟨wr.heap.size,1,none⟩)) (fun W hW=>by go_simp) (by simp only [Act.put,sa1,sa2,sa3]; rfl) ?_
      refine LinY.rd (.slice y1 y2 y3) (fun W hW=>by have h9:=hW.cell (uh HQ2) hno; go_simp) (by simp only [Act.put,sa1,sa2,sa3]; rfl) ?_
      have hd2:=(Kept.refl [] W2).drew
      have hk02:=(uh HKr).trans ((uh HK2).trans hd2 (by simp)) (by simp)
      have hsz:wr.heap.size < W2.drew.heap.size:=by have:=hd2.size; omega
      have HLd:=hide ((uh HLx).agr ((uh HK2).trans hd2 (by simp)))
      obtain ⟨W3,hW3⟩:∃ W3,W2.drew = W3:=⟨_,rfl⟩
      rw [hW3] at hd2 hk02 hsz HLd ⊢
      refine ChL.call rfl Tryz.call50 [.slice x1 x2 x3] rfl (xa1c _ ka W3 ((uh HR1).old hk02 (by simp))) ?_
      rintro e w4 ⟨⟨kz,rfl,hA,hAb⟩,k4⟩
      have hk4:=hd2.trans k4 (by simp)
      refine ⟨_,rfl,hk4.mono (by simp),?_⟩
      simp only [Act.put,sa1,sa2,sa3]
      refine ChL.call rfl Tryz.call50 [.slice y1 y2 y3] rfl (xa1c _ kb w4 ((uh HR2).old (hk02.trans k4 (by simp)) (by simp))) ?_
      rintro e w5 ⟨⟨vz,rfl,hB,hBb⟩,k5⟩
      have hk5:=hk4.trans k5 (by simp)
      refine ⟨_,rfl,hk5.mono (by simp),?_⟩
      simp only [Act.put,sa1,sa2,sa3]
      have hA5:=hA.old k5 (by simp)
      have hz4:=k4.size
      obtain ⟨p1,p2,p3,rfl,_⟩:=id hA5
      obtain ⟨q1,q2,q3,rfl,_⟩:=id hB
      refine ChL.op (.agg #[.slice p1 p2 p3,.slice q1 q2 q3]) (xb4q w5 ⟨rfl,rfl,rfl⟩) (hk5.mono (by simp)) (by simp only [Act.put,sa1,sa2,sa3]; rfl) ?_
      have hka:=(Kept.refl [] w5).alloc (.cells #[.slice p1 p2 p3,.slice q1 q2 q3] 33)
      have hk6:=hk5.trans hka (by simp)
      refine ChL.op (.slice (some ⟨w5.heap.size,0,none⟩) 1 1) (xa7e w5 (.tmp 23) rfl _ _ rfl) (hk6.mono (by simp)) (by simp only [Act.put,sa1,sa2,sa3]; rfl) ?_
      have hrl:RdC 2 (w5.alloc (.cells #[.slice p1 p2 p3,.slice q1 q2 q3] 33)) (.slice (some ⟨w5.heap.size,0,none⟩) 1 1) (kvR [(.slice p1 p2 p3,.slice q1 q2 q3)]):=⟨_,1,1,rfl,rfl,Nat.le_refl _,by omega,fun _=>⟨w5.heap.size,0,rfl,fun j hj=>by
        have h0:j = 0:=by rw [xa0z] at hj; simp at hj; omega
        subst h0
        exact xa0t [] [.slice p1 p2 p3,.slice q1 q2 q3] [] (heap_alloc_new w5 _) rfl⟩⟩
      have hly:=((uh HLd).agr ((k4.trans k5 (by simp)).trans hka (by simp)))
      have hk06:=hk02.trans ((k4.trans k5 (by simp)).trans hka (by simp)) (by simp)
      refine ChL.app 22 33 (.tmp 16) (.tmp 24) rfl rfl _ W0.heap.size (.agg #[.slice none 0 0,.slice none 0 0]) 2 48 Tryz.underlying22 Tryz.infoQ rfl (by decide) (.slice vo lx.length vc) lx.length (kvR lx).flatten hly.own (some ⟨w5.heap.size,0,none⟩) 1 1 (kvR [(.slice p1 p2 p3,.slice q1 q2 q3)]) hrl (by intro r hr; simp [kvR] at hr; rw [hr]; rfl) (by intro r hr u hu; simp [kvR] at hr; rw [hr] at hu; simp at hu; rcases hu with rfl | rfl <;> rfl) (by have:=uh HLX; omega) (by have:=uh HLX; omega) hk06.size rfl rfl ?_
      intro ao7 c7 w7 HO7 HG7 HA7
      have hg7:=uh HG7
      rw [hOB] at hg7
      have hk7:=(Kept.refl OB.toList _).grown hg7 (by intro x hx; left; simp [hx])
      have hk27:=(hk6.mono (M:=OB.toList) (by simp)).trans hk7 (fun x hx=>Or.inl hx)
      refine ⟨hk27,?_⟩
      simp only [Act.put,sa1,sa2,sa3]
      refine ChL.op (.slice ao7 (lx.length + 1) c7) (by go_simp) hk27 (by simp only [Act.put,sa1,sa2,sa3]; rfl) (ChL.fin ?_)
      have hsn:=hly.snoc (hA5.old hka (by simp)) (hB.old hka (by simp)) (fun x hx=>⟨by have:=hAb x hx; have:=hk02.size; omega,fun e=>by rw [hOB] at e; have:=(hown x e).2; have:=hAb x hx; omega⟩) (fun x hx=>⟨by have:=hBb x hx; have:=hk02.size; omega,fun e=>by rw [hOB] at e; have:=(hown x e).2; have:=hBb x hx; omega⟩) (uh HO7) (uh HG7) (uh HA7)
      have hk07:=hk06.grown (uh HG7) (fun x hx=>Or.inr (by rw [hOB] at hx; exact (hown x hx).1))
      have HSN:=hide hsn
      have HK7:=hide hk07
      clear hsn hk07 hk27 hk7 hk6 hk06 hly hrl hA hB hA5 k4 k5 hka
      go_wp2
      refine ⟨⟨i + 1,.slice ao7 (lx.length + 1) c7,_,by go_num,rfl,hlt,hide (by rw [uh HEi,← List.append_assoc]; exact uh HSN),HK7⟩,?_⟩
      simp [intOf]; omega
    · have hie:i = n:=by omega
      subst hie
      have hlt':¬ (i:Int) < i:=by omega
      go_wp2
      go_ret
      have h9:=uh HLx
      rw [List.take_of_length_le (by have:=uh HLE; omega)] at h9
      first | exact ⟨_,rfl,⟨lx,h9⟩,uh HKr⟩ | exact ⟨_,lx,rfl,h9,uh HKr⟩


theorem get_no {q:List Nat} {L:Prs} (h:fnd q L = false):getP q L = none:=by
  unfold fnd at h
  cases hg:getP q L with
  | none=>rfl
  | some v=>rw [hg] at h; simp at h
theorem xb7r {H:Hs} {q:List Nat} {L:Prs} (hs:Srt H L) (hr:Rise L) (h:fnd q L = true):plc q L < L.length∧getP q L = some (L.getD (plc q L) ([],[])).2:=by
  obtain ⟨h1,h2⟩:=(fnd_at hr).1 h
  refine ⟨h1,(xb5r hs).2 ?_⟩
  have h3:=List.getElem_mem h1
  rw [List.getD_eq_getElem?_getD,List.getElem?_eq_getElem h1,Option.getD_some] at h2 ⊢
  generalize L[plc q L] = x at h2 h3 ⊢
  have e:(q,x.2) = x:=by rw [← h2]
  rw [e]; exact h3
set_option maxHeartbeats 2000000 in
theorem xb9l (S:Nat→Prop) (k:Nat) (mv kv:Value) (L:Prs) (q:List Nat) (w:World) (hM:MapAt S k w mv L) (hku:Rd w kv q) (hq:q.length≤64) (hT:Tabs w) :
    Calls Tryz.prog 17 #[mv,kv] w fun e w'=>∃ v',e = .returned (.tuple #[v',.bool (fnd q L),.int .i64 0])∧Rd w' v' ((getP q L).getD [])∧(∀ x∈blk v',w.heap.size≤x)∧Kept [] w w':=by
  have HM:=hide hM
  obtain ⟨hk,hs,hfit,hlen,g,tv,rfl,hSg,hh,htop⟩:=hM
  have hH:=hsZ_ok hk
  have HKU:=hide hku
  have HTb:=hide hT
  have HSr:=hide hs
  clear hh htop hT hs hku hfit hSg
  go_enter Tryz.func17,Tryz.ntmps17
  go_wp2_with fail
  refine Calls.mono (xa2v S k _ kv L q w (uh HM) (uh HKU) hq (uh HTb)) ?_
  rintro e w1 ⟨m,cr,en,pl,fd,rfl,hway,k1⟩
  have hfd:=hway.fd
  have HFd:=hide hfd
  have hon:=hway.cells
  have hend:=hway.en
  have hgt:=dn_get (H:=hsZ k) (q:=q) (L:=L) m
  have hMs:=dn_srt (q:=q) (uh HSr) m
  have hDl:((hsZ k).kd q).length = 32:=(hH.dg q).1
  obtain ⟨D,hD⟩:∃ D,(hsZ k).kd q = D:=⟨_,rfl⟩
  rw [hD] at hDl ⊢
  clear hD hfd hway
  generalize dnL (hsZ k) q L m = M at hend hgt hMs
  have hws:((wayC k D cr en pl fd).toArray).size = 37:=by rw [List.size_toArray,xa1f hDl]
  have HZ1:=hide (heap_alloc_new w1 (.cells zwy 102))
  have HN2:=hide (setRow_heap _ _ _ (wayC k D cr en pl fd).toArray _ _ (uh HZ1))
  have HK12:=hide ((Kept.refl [] w1).alloc (.cells zwy 102) |>.setRow (g:=w1.heap.size) (Or.inr (Nat.le_refl _)) (wayC k D cr en pl fd).toArray)
  have HK2:=hide (k1.trans (uh HK12) (by simp))
  have hw1:=k1.size
  clear k1
  obtain ⟨W2,hW2⟩:∃ W2,(w1.alloc (.cells zwy 102)).setRow w1.heap.size (wayC k D cr en pl fd).toArray = W2:=⟨_,rfl⟩
  rw [hW2] at HN2 HK12 HK2
  obtain ⟨cw0,cw1,cw2,cw3,cw4,cw5⟩:=xa0s (uh HN2) hDl
  have HW3:=hide cw3
  have HW4:=hide cw4
  clear cw0 cw1 cw2 cw3 cw4
  cases fd with
  | false =>
    go_wp2_with (rw [xa3a]; refine wpList_store_row rfl 102 (.tmp 7) (.tmp 13) rfl w1.heap.size (wayC k D cr en pl false).toArray rfl rfl _ zwy (uh HZ1) (by rw [hws]; exact Tryz.size_way) (by rw [hws]; rfl) (xa1r _ _ hon.1 hon.2) ?_; rw [hW2]; simp only [Act.put])
    go_ret3
    refine ⟨.slice none 0 0,by rw [← uh HFd]; rfl,?_,by simp [blk],uh HK2⟩
    rw [get_no (uh HFd).symm]
    exact Rd.nil _
  | true =>
    rcases hend with ⟨_,_,_,hx⟩ | ⟨hsg,g1,rfl,hb,hpl,hfd⟩
    · cases hx
    have hris:=xa5c hMs hsg
    obtain ⟨hp1,hp2⟩:=xb7r hMs hris hfd.symm
    rw [← hpl] at hp1 hp2
    obtain ⟨pv,hSg1,hh1,hne,hkr⟩:=hb
    have hkd:((hsZ k).kd (M.headD ([],[])).1).length = 32:=xa1g _ _
    have c1:=(bk_row hh1 hkd).2.1
    obtain ⟨b,off,cap,l,rfl,hc1,hc2,hSb,hll,hcells,hrds⟩:=hkr
    have hcv:=(hcells pl (by omega)).2
    have hrv:=(hrds pl (by omega)).now.2
    have hgl:(getP q L).getD [] = (M.getD pl ([],[])).2:=by rw [← hgt,hp2]; rfl
    have HGL:=hide hgl
    generalize (M.getD pl ([],[])).2 = val at hrv hgl HGL
    generalize (l.getD pl (undef,undef)).2 = vz at hcv hrv
    obtain ⟨za,zn,zc,rfl,_⟩:=id hrv
    have hpn:pl < l.length:=by omega
    have hpi:(pl:Int) < (l.length:Int):=by omega
    generalize l.length = n at hc1 hpn hpi c1
    have HC1:=hide ((uh HK12).cell c1 (by simp))
    have HCV:=hide ((uh HK12).cell hcv (by simp))
    have HRV:=hide (hrv.old (uh HK12) (by simp))
    clear hcells hrds hcv hrv c1 hh1 hp2 hgt hgl hfd hpl hsg hris hMs hne
    go_upto_region 4 with (rw [xa3a]; refine wpList_store_row rfl 102 (.tmp 7) (.tmp 13) rfl w1.heap.size (wayC k D cr (.pointer (some ⟨g1,0,none⟩)) pl true).toArray rfl rfl _ zwy (uh HZ1) (by rw [hws]; exact Tryz.size_way) (by rw [hws]; rfl) (xa1r _ _ hon.1 hon.2) ?_; rw [hW2]; simp only [Act.put])
    refine ln_gt (by kernel_rfl) (by kernel_rfl) rfl (fun W=>Kept [] W2 W) (Kept.refl _ W2).drew ?_
    refine LinY.rd (.pointer (some ⟨w1.heap.size,34,none⟩)) (fun W hW=>by go_simp) (by simp only [Act.put,sa1,sa2,sa3]; rfl) ?_
    refine LinY.rd (.pointer (some ⟨g1,0,none⟩)) (fun W hW=>by have h9:=hW.cell (uh HW3) (by simp); go_simp) (by simp only [Act.put,sa1,sa2,sa3]; rfl) ?_
    refine LinY.rd (.pointer (some ⟨g1,0,none⟩)) (fun W hW=>by go_simp) (by simp only [Act.put,sa1,sa2,sa3]; rfl) ?_
    refine LinY.rd (.pointer (some ⟨g1,32,none⟩)) (fun W hW=>by go_simp) (by simp only [Act.put,sa1,sa2,sa3]; rfl) ?_
    refine LinY.rd (.slice (some ⟨b,off,none⟩) n cap) (fun W hW=>by have h9:=hW.cell (uh HC1) (by simp); go_simp) (by simp only [Act.put,sa1,sa2,sa3]; rfl) ?_
    refine LinY.rd (.pointer (some ⟨w1.heap.size,35,none⟩)) (fun W hW=>by go_simp) (by simp only [Act.put,sa1,sa2,sa3]; rfl) ?_
    refine LinY.rd (.int .i64 pl) (fun W hW=>by have h9:=hW.cell (uh HW4) (by simp); go_simp) (by simp only [Act.put,sa1,sa2,sa3]; rfl) ?_
    refine LinY.rd (.pointer (some ⟨b,off + pl * 2,none⟩)) (fun W hW=>by go_simp) (by simp only [Act.put,sa1,sa2,sa3]; rfl) ?_
    refine LinY.rd (.pointer (some ⟨b,off + pl * 2 + 1,none⟩)) (fun W hW=>by go_simp) (by simp only [Act.put,sa1,sa2,sa3]; rfl) ?_
    refine LinY.rd (.slice za zn zc) (fun W hW=>by have h9:=hW.cell (uh HCV) (by simp); go_simp) (by simp only [Act.put,sa1,sa2,sa3]; rfl) ?_
    have hd2:=(Kept.refl [] W2).drew
    refine ChL.call rfl Tryz.call50 [.slice za zn zc] rfl (xa1c _ val W2.drew ((uh HRV).old hd2 (by simp))) ?_
    rintro e w3 ⟨⟨vz,rfl,hvz,hvb⟩,k3⟩
    have hk3:=hd2.trans k3 (by simp)
    have hk30:=(uh HK2).trans hk3 (by simp)
    have hk20:=(uh HK2).trans hd2 (by simp)
    obtain ⟨ya,yn,yc,rfl,_⟩:=id hvz
    refine ⟨_,rfl,hk3,?_⟩
    simp only [Act.put,sa1,sa2,sa3]
    refine ChL.op (.slice ya yn yc) (by go_simp) hk3 (by simp only [Act.put,sa1,sa2,sa3]; rfl) ?_
    refine ChL.op (.bool true) (by go_simp) hk3 (by simp only [Act.put,sa1,sa2,sa3]; rfl) ?_
    refine ChL.op (.int .i64 0) (by go_simp) hk3 (by simp only [Act.put,sa1,sa2,sa3]; rfl) (ChL.fin ?_)
    go_wp2
    go_ret3
    exact ⟨.slice ya yn yc,by rw [← uh HFd]; rfl,by rw [uh HGL]; exact hvz,fun x hx=>Nat.le_trans hk20.size (hvb x hx),hk30⟩
end
section
open Go Go.RowKit Go.BigFrame
theorem ln_wa {P:Program} {Q:Exit→Act→World→Prop} {id:Nat} {o0 o1 o2 o3 o4 o5 o6 o7 o8 o9 o10 o11 o12 o13:Oper} {a:Act} {w:World} (hm:P.follows .mixedOrders = true) (hb:linB #[o0,o1,o2,o3,o4,o5,o6,o7,o8,o9,o10,o11,o12,o13] [0,1,2,3,4,5,6,7,8] [9,10,11,12,13] [] = true) (hg:([o0,o1,o2,o3,o4,o5,o6,o7,o8]++([o9,o10,o11,o12,o13]++[])).all (fun o=>o.guard.isNone) = true) (S:World→Prop) (hS:S w.drew)
    (h:LinY P S (ChL P Q S (Q .normal) [o9,o10,o11,o12,o13]) [o0,o1,o2,o3,o4,o5,o6,o7,o8] a w.drew):(Code.region id #[o0,o1,o2,o3,o4,o5,o6,o7,o8,o9,o10,o11,o12,o13] true).wp P Q a w:=xa1n (R:=[0,1,2,3,4,5,6,7,8]) (C:=[9,10,11,12,13]) (rs:=[o0,o1,o2,o3,o4,o5,o6,o7,o8]) (cs:=[o9,o10,o11,o12,o13]) hm hb rfl rfl hg hS h
end
section
open Go.RowKit Go.BigFrame
theorem LayAt.rdK {B:Nat} {w:World} {v:Value} {l:List VP} {L:Prs} (h:LayAt B w v l L):RdK w v L:=by
  obtain ⟨_,len,cap,rfl,hl,hc1,hc2,hcell⟩:=xa4z (by rw [xa0z]; exact h.own) h.pr.cell.1
  rw [xa0z] at hl
  have e1:∀ i,i < l.length→(l.map (·.1)).getD i undef = (l.getD i (undef,undef)).1∧(l.map (·.2)).getD i undef = (l.getD i (undef,undef)).2:=fun i hi=>by
    simp [List.getD_eq_getElem?_getD,List.getElem?_eq_getElem hi]
  refine ⟨_,len,cap,l.map (·.1),l.map (·.2),rfl,by rw [← hl]; exact h.pr.1.symm,hc1,hc2,fun i hi=>?_,fun h0=>?_⟩
  · rw [(e1 i (by omega)).1,(e1 i (by omega)).2]; exact (h.pr.2 i (by omega)).now
  · obtain ⟨b,off,rfl,hce⟩:=hcell h0
    refine ⟨b,off,rfl,fun i hi=>?_⟩
    have hi':i < l.length:=by omega
    have h7:=hce i (by rw [xa0z]; exact hi')
    have e:(kvR l)[i]'(by rw [xa0z]; exact hi') = [l[i].1,l[i].2]:=kvR_at _ i hi'
    rw [e] at h7
    rw [(e1 i hi').1,(e1 i hi').2]
    simp only [List.getD_eq_getElem?_getD,List.getElem?_eq_getElem hi',Option.getD_some]
    exact ⟨h7 0 _ rfl,h7 1 _ rfl⟩
abbrev Stp:=Nat × List (List Nat)
def stR (l:List (Nat × Value)):List (List Value):=l.map fun p=>[.int .u16 (p.1:Int),p.2]
theorem xb3g {α:Type} (l:List α) (a d:α) (i:Nat):(l++[a]).getD i d = if i < l.length then l.getD i d else if i = l.length then a else d:=by
  simp only [List.getD_eq_getElem?_getD]
  by_cases h:i < l.length
  · rw [if_pos h,List.getElem?_append_left h]
  · rw [if_neg h,List.getElem?_append_right (by omega)]
    by_cases g:i = l.length
    · rw [if_pos g]; subst g; simp
    · rw [if_neg g,List.getElem?_eq_none (by simp; omega)]; rfl
def stp (k:Nat) (q:List Nat) (L:Prs) (i:Nat):Stp:=(bm (hsZ k) i (dnL (hsZ k) q L i),(kidsL (hsZ k) i (dnL (hsZ k) q L i)).map (nodP (hsZ k) (63 - i)))
end
end Go.Proofs.YtepmjkkjhjkdgaaGreatDoor
