import Derived.Test.YtepmjkkjhjkdgaaGreatDoorTopC
namespace Go.Proofs.YtepmjkkjhjkdgaaGreatDoor
set_option linter.unusedVariables false
set_option linter.unusedSimpArgs false
set_option maxRecDepth 100000
section
open Go.RowKit Go.BigFrame
theorem Tryz.infoSt:(Tryz.prog.info? 52).map (fun i=>(i.zero,i.size,i.bytes)) = some (some (.agg #[.int .u16 0,.slice none 0 0]),2,32):=by kernel_rfl
theorem xb2n (x:Int) {X1:Option Addr} {X2 X3:Nat}:Tryz.prog.built 52 [(0,.int .u16 x),(1,.slice X1 X2 X3)] = some #[.int .u16 x,.slice X1 X2 X3]:=by kernel_rfl
theorem xb4u {o:Oper} {a:Act} (w:World) {x y:Operand} {n:Int} {X1:Option Addr} {X2 X3:Nat} (ho:o.op = .build 52 #[(0,x),(1,y)]∧a.eval x = .int .u16 n∧a.eval y = .slice X1 X2 X3):(execOp a.eval o).run Tryz.prog w = .ok (.value (.agg #[.int .u16 n,.slice X1 X2 X3])) w:=by
  obtain ⟨h0,h1,h2⟩:=ho
  have hb:=run_build (P:=Tryz.prog) w 52 #[(0,.int .u16 n),(1,.slice X1 X2 X3)] _ (xb2n n)
  unfold execOp
  simp only [h0,List.map_toArray,List.map_cons,List.map_nil,h1,h2,Sem.run_bind,hb,Result.andThen_ok]
  rfl
theorem infoStp:∃ i,Tryz.prog.info? 52 = some i∧i.zero = some (.agg #[.int .u16 0,.slice none 0 0])∧i.size = 2:=by
  have h:=Tryz.infoSt
  generalize Tryz.prog.info? 52 = o at h
  cases o with
  | none=>cases h
  | some i =>
    have h1:=Option.some.inj h
    exact ⟨i,rfl,(Prod.mk.inj h1).1,(Prod.mk.inj (Prod.mk.inj h1).2).1⟩
theorem fillS (x y:Value) (hx:x.cells = #[x]):Instr.fill (fun i=>some (i * 2,2)) ((Array.range (1 * 2)).map ((Value.agg #[.int .u16 0,.slice none 0 0]).cells[· % (Value.agg #[.int .u16 0,.slice none 0 0]).cells.size]!)) [(0,.agg #[x,y])] = some #[x,y]:=by kernel_rfl
theorem xb6k {o:Oper} {a:Act} (w:World) (x:Operand) (ho:o.op = .buildSlice 45 1 #[(0,x)]) (n:Int) (vu:Value) (hx:a.eval x = .agg #[.int .u16 n,vu]):(execOp a.eval o).run Tryz.prog w = .ok (.value (.slice (some ⟨w.heap.size,0,none⟩) 1 1)) (w.alloc (.cells #[.int .u16 n,vu] 52)):=by
  obtain ⟨i0,hi,hz0,hz1⟩:=infoStp
  have hb:=run_buildSlice w 45 52 1 #[(0,.agg #[.int .u16 n,vu])] #[.int .u16 n,vu] i0 _ Tryz.underlying45 hi hz0 (by rw [hz1]; decide) (by rw [hz1]; decide) (by rw [hz1]; exact fillS (.int .u16 n) vu rfl)
  unfold execOp
  simp only [ho,List.map_toArray,List.map_cons,List.map_nil,hx,Sem.run_bind,hb,Result.andThen_ok]
  rfl
end
theorem p_fold {H:Hs} (hH:H.Ok) {q:List Nat} {L:Prs} {m:Nat} (hf:∀ i,i < m→sgl H (dnL H q L i) = false):m≤2 * H.wd:=by
  cases m with
  | zero=>omega
  | succ i=>have:=deep hH (dn_on (H:=H) (q:=q) (L:=L) i).pre (hf i (by omega)); omega
theorem p_ne {H:Hs} {L:Prs} (h:sgl H L = false):L≠[]:=fun e=>by rw [e] at h; cases h
theorem p_up {H:Hs} {q:List Nat} {L:Prs} {i:Nat} (hi:i < 64) (hs:sgl H (dnL H q L i) = false):H.hr (bm H i (dnL H q L i)) ((kidsL H i (dnL H q L i)).map (nodP H (63 - i))) = nodP H (64 - i) (dnL H q L i):=by
  rw [show 64 - i = (63 - i) + 1 by omega,nod_br hs,show 63 - (63 - i) = i by omega]
  unfold kidsL
  rw [List.map_map]; rfl
theorem p_bit {H:Hs} (hH:H.Ok) {q:List Nat} {L:Prs} {i:Nat}:(bm H i (dnL H q L i)).testBit (dgt (H.kd q) i) = !(dnL H q L (i + 1)).isEmpty:=bm_bit (dgk hH q i)
theorem p_kid {H:Hs} (hH:H.Ok) {q:List Nat} {L:Prs} {i f:Nat} (hb:(bm H i (dnL H q L i)).testBit (dgt (H.kd q) i) = true):cnt (bm H i (dnL H q L i)) (dgt (H.kd q) i) < ((kidsL H i (dnL H q L i)).map (nodP H f)).length∧((kidsL H i (dnL H q L i)).map (nodP H f)).getD (cnt (bm H i (dnL H q L i)) (dgt (H.kd q) i)) [] = nodP H f (dnL H q L (i + 1)):=by
  have h:=kid_at (L:=dnL H q L i) (dgk hH q i) hb
  have hl:cnt (bm H i (dnL H q L i)) (dgt (H.kd q) i) < (kidsL H i (dnL H q L i)).length:=(List.getElem?_eq_some_iff.1 h).1
  refine ⟨by rw [List.length_map]; exact hl,?_⟩
  rw [List.getD_eq_getElem?_getD,List.getElem?_map,h]; rfl
theorem p_two {H:Hs} (hH:H.Ok) {q:List Nat} {L:Prs} {i:Nat} (hn:sgl H (dnL H q L i) = false) (hs:sgl H (dnL H q L (i + 1)) = true) (hne:dnL H q L (i + 1)≠[]):(kidsL H i (dnL H q L i)).length≠1:=fun h=>by
  have hk:=xb2f hH h
  have hb:(bm H i (dnL H q L i)).testBit (dgt (H.kd q) i) = true:=by
    rw [p_bit hH]
    cases hc:dnL H q L (i + 1) with
    | nil=>exact absurd hc hne
    | cons _ _=>rfl
  have h1:=kid_at (L:=dnL H q L i) (dgk hH q i) hb
  have hm:=List.mem_of_getElem? h1
  rw [hk,List.mem_singleton] at hm
  have hm2:dnL H q L (i + 1) = dnL H q L i:=hm
  rw [hm2,hn] at hs
  cases hs
theorem p_back {α:Type} (l:List α) (r:Nat) (hr:r < l.length) (d:α):(l.eraseIdx r).take r++l.getD r d :: (l.eraseIdx r).drop r = l:=by
  have h1:(l.take r).length = r:=by rw [List.length_take]; omega
  rw [List.eraseIdx_eq_take_drop_succ,List.take_append_of_le_length (by omega),List.take_take,Nat.min_self,List.drop_append_of_le_length (by omega),List.drop_of_length_le (by omega),List.nil_append,List.getD_eq_getElem?_getD,List.getElem?_eq_getElem hr,Option.getD_some,List.getElem_cons_drop,List.take_append_drop]
def wod (s:Stp) (c:Nat):Stp:=(s.1,if s.1.testBit c = true then s.2.eraseIdx (cnt s.1 c) else s.2)
def prf (k:Nat) (q:List Nat) (L:Prs) (i:Nat):Stp:=wod (stp k q L i) (dgt ((hsZ k).kd q) i)
def prfL (k:Nat) (q:List Nat) (L:Prs) (m:Nat):List Stp:=(List.range m).map (prf k q L)
theorem xa5t (k:Nat) (q:List Nat) (L:Prs) (m:Nat):(prfL k q L m).length = m:=by simp [prfL]
theorem xa8e {k:Nat} {q:List Nat} {L:Prs} {m i:Nat} (hi:i < m):(prfL k q L m).getD i (0,[]) = prf k q L i:=by
  unfold prfL
  rw [List.getD_eq_getElem?_getD,List.getElem?_map,List.getElem?_range hi]; rfl
theorem xb9h {k:Nat} {q:List Nat} {L:Prs} {i:Nat}:∀ d∈(prf k q L i).2,∃ K,d = nodP (hsZ k) (63 - i) K:=by
  intro d hd
  unfold prf wod at hd
  have hd2:d∈(stp k q L i).2:=by
    split at hd
    · exact List.mem_of_mem_eraseIdx hd
    · exact hd
  obtain ⟨K,_,rfl⟩:=List.mem_map.1 hd2
  exact ⟨K,rfl⟩
theorem xb8m (k:Nat) (q:List Nat) (L:Prs) (i:Nat):(prf k q L i).2.length≤16:=by
  have h1:(stp k q L i).2.length≤16:=by
    show ((kidsL (hsZ k) i (dnL (hsZ k) q L i)).map (nodP (hsZ k) (63 - i))).length≤16
    rw [List.length_map,xa1k]; exact cnt_le _ _
  unfold prf wod
  show (if _ then _ else _:List (List Nat)).length≤16
  split
  · exact Nat.le_trans (List.length_eraseIdx_le _ _) h1
  · exact h1
structure WayM (k:Nat) (q:List Nat) (L:Prs) (m:Nat):Prop where
  ns:∀ i,i < m→sgl (hsZ k) (dnL (hsZ k) q L i) = false
  sg:sgl (hsZ k) (dnL (hsZ k) q L m) = true
theorem WayM.le {k:Nat} (hk:1≤k∧k≤32) {q:List Nat} {L:Prs} {m:Nat} (h:WayM k q L m):m≤2 * k:=p_fold (hsZ_ok hk) h.ns
theorem p_fits {k:Nat} (hk:1≤k∧k≤32) {q:List Nat} {L:Prs} {m i:Nat} (h:WayM k q L m) (hi:i < m):fitS (prf k q L i).1 (prf k q L i).2.length ((dgt ((hsZ k).kd q) i:Nat):Int) (!(dnL (hsZ k) q L (i + 1)).isEmpty) = true:=by
  have hH:=hsZ_ok hk
  have hn:=p_ne (h.ns i hi)
  have hc:dgt ((hsZ k).kd q) i < 16:=dgk hH q i
  have hl:=xa1k (hsZ k) i (dnL (hsZ k) q L i)
  have hp:=(xa2u hH (d:=i) hn).1
  have hb0:bm (hsZ k) i (dnL (hsZ k) q L i)≠0:=fun e=>by
    rw [hl,e] at hp
    have h2:cnt 0 16 = 0:=by decide
    omega
  have hbit:=p_bit hH (q:=q) (L:=L) (i:=i)
  unfold fitS
  have e1:(prf k q L i).1 = bm (hsZ k) i (dnL (hsZ k) q L i):=rfl
  rw [e1,xb0z _ _ (by omega),hbit,decide_eq_true hb0]
  simp only [Bool.true_and,beq_self_eq_true,decide_eq_true_eq]
  cases ht:(!(dnL (hsZ k) q L (i + 1)).isEmpty) with
  | true =>
    rw [ht] at hbit
    have hk2:=(p_kid hH (f:=63 - i) hbit).1
    have e2:(prf k q L i).2 = ((kidsL (hsZ k) i (dnL (hsZ k) q L i)).map (nodP (hsZ k) (63 - i))).eraseIdx (cnt (bm (hsZ k) i (dnL (hsZ k) q L i)) (dgt ((hsZ k).kd q) i)):=by
      show (if (bm (hsZ k) i (dnL (hsZ k) q L i)).testBit (dgt ((hsZ k).kd q) i) = true then _ else _) = _
      rw [if_pos hbit]; rfl
    rw [e2,List.length_eraseIdx_of_lt hk2,List.length_map,hl,if_pos rfl]
    rw [List.length_map,hl] at hk2
    omega
  | false =>
    rw [ht] at hbit
    have e2:(prf k q L i).2 = (kidsL (hsZ k) i (dnL (hsZ k) q L i)).map (nodP (hsZ k) (63 - i)):=by
      show (if (bm (hsZ k) i (dnL (hsZ k) q L i)).testBit (dgt ((hsZ k).kd q) i) = true then _ else _) = _
      rw [if_neg (by rw [hbit]; decide)]; rfl
    rw [e2,List.length_map,hl,if_neg (by decide)]; rfl
theorem xb7q {α:Type} (l:List α):(!l.isEmpty) = decide (0 < l.length):=by cases l <;> simp
theorem p_next {k:Nat} {q:List Nat} {L:Prs} {m i:Nat} (h:WayM k q L m) (hi:i < m):(!(dnL (hsZ k) q L (i + 1)).isEmpty) = (decide (i + 1 < m) || decide (0 < (dnL (hsZ k) q L m).length)):=by
  rcases Nat.lt_or_ge (i + 1) m with h1 | h1
  · rw [decide_eq_true h1,Bool.true_or]
    cases hc:dnL (hsZ k) q L (i + 1) with
    | nil=>exact absurd hc (p_ne (h.ns _ h1))
    | cons _ _=>rfl
  · have e:i + 1 = m:=by omega
    rw [decide_eq_false (by omega),Bool.false_or,← e,xb7q]
theorem p_dgt {k:Nat} (hk:1≤k∧k≤32) (q:List Nat) {i:Nat} (hi:i < 2 * k):atC (k:Int) (keyS (k:Int) q) (i:Int) = dgt ((hsZ k).kd q) i:=xb8a (wide_k hk) (xa5v (wide_k hk) q) (by simpa using hi)
theorem xb0n {k:Nat} (hk:1≤k∧k≤32) {q:List Nat} {L:Prs} {m:Nat} (h:WayM k q L m):∀ n,n≤m→fitsB (k:Int) (keyS (k:Int) q) (prfL k q L m) (dnL (hsZ k) q L m).length n = true
  | 0,_=>rfl
  | n + 1,hn=>by
    have hm:=h.le hk
    rw [fitsB,xb0n hk h n (by omega),Bool.true_and,xa8e (by omega),xa5t,p_dgt hk q (by omega),← p_next h (by omega)]
    exact p_fits hk h (by omega)
theorem p_ris {k:Nat} {q:List Nat} {L:Prs} {m:Nat} (h:WayM k q L m) (hs:Srt (hsZ k) L) (hf:Fit L):∀ n,n≤(dnL (hsZ k) q L m).length→risB (dnL (hsZ k) q L m) n = true
  | 0,_=>rfl
  | n + 1,hn=>by
    have hmem:(dnL (hsZ k) q L m).getD n ([],[])∈L:=by
      rw [List.getD_eq_getElem?_getD,List.getElem?_eq_getElem (by omega),Option.getD_some]
      exact dn_sub m _ (List.getElem_mem _)
    have hr:=xa5c (dn_srt (q:=q) hs m) h.sg
    rw [risB,p_ris h hs hf n (by omega),Bool.true_and,decide_eq_true (hf _ hmem).1,decide_eq_true (hf _ hmem).2,Bool.true_and,Bool.true_and]
    cases n with
    | zero=>rfl
    | succ i =>
      have h2:=List.pairwise_iff_getElem.1 hr i (i + 1) (by omega) (by omega) (by omega)
      rw [Nat.add_sub_cancel,List.getD_eq_getElem?_getD,List.getElem?_eq_getElem (by omega),List.getD_eq_getElem?_getD,List.getElem?_eq_getElem (by omega),Option.getD_some,Option.getD_some,decide_eq_true h2]
      simp
theorem p_hang {k:Nat} (hk:1≤k∧k≤32) {q:List Nat} {L:Prs} {m:Nat} (h:WayM k q L m) (hn:dnL (hsZ k) q L m≠[]):hanB (k:Int) (keyS (k:Int) q) m (dnL (hsZ k) q L m) = true:=by
  unfold hanB
  have h0:(dnL (hsZ k) q L m).getD 0 ([],[])∈dnL (hsZ k) q L m:=by
    cases hd:dnL (hsZ k) q L m with
    | nil=>exact absurd hd hn
    | cons x l=>simp
  rw [Bool.and_eq_true]
  constructor
  · rw [List.all_eq_true]
    intro p hp
    exact decide_eq_true (xa2i.1 h.sg p (List.mem_of_mem_drop hp) _ h0)
  · refine decide_eq_true ((xa9w (wide_k hk) (xa5v (wide_k hk) _) (xa5v (wide_k hk) _) (by have:=h.le hk; simpa using this)).2 (fun j hj=>?_))
    exact dn_on m _ h0 j hj
theorem p_prov {k:Nat} (hk:1≤k∧k≤32) {q:List Nat} {L:Prs} {m:Nat} (h:WayM k q L m) (hs:Srt (hsZ k) L) (hf:Fit L):provB (k:Int) (keyS (k:Int) q) (prfL k q L m) (dnL (hsZ k) q L m) = true:=by
  have hm:=h.le hk
  unfold provB
  rw [xa5t,xb0n hk h m (Nat.le_refl _),decide_eq_true (by simpa using hm),Bool.true_and,Bool.true_and]
  by_cases hn:dnL (hsZ k) q L m = []
  · rw [hn]; rfl
  · have hl:(dnL (hsZ k) q L m).length≠0:=fun e=>hn (List.eq_nil_of_length_eq_zero e)
    rw [decide_eq_false hl,Bool.false_or,p_ris h hs hf _ (Nat.le_refl _),p_hang hk h hn,Bool.and_true,Bool.and_true]
    cases m with
    | zero=>rfl
    | succ i =>
      rw [Nat.add_sub_cancel,xa8e (by omega)]
      have h2:=p_two (hsZ_ok hk) (h.ns i (by omega)) h.sg hn
      rw [xa1k] at h2
      rw [Bool.or_eq_true]
      exact Or.inr (decide_eq_true h2)
theorem p_form {k:Nat} (hk:1≤k∧k≤32) {q:List Nat} (hq:q.length≤64) (L:Prs) (m:Nat):hfE (k:Int) q [] (prfL k q L m) = 0:=by
  unfold hfE
  rw [if_neg (by rw [wide_k hk]; decide),if_neg (by omega),if_pos]
  rw [Bool.and_eq_true]
  refine ⟨rfl,List.all_eq_true.2 (fun s hs=>List.all_eq_true.2 (fun d hd=>?_))⟩
  obtain ⟨i,_,rfl⟩:=List.mem_map.1 hs
  obtain ⟨K,rfl⟩:=xb9h d hd
  exact xa8a hk _ _
theorem p_rtE {k:Nat} (hk:1≤k∧k≤32) {q:List Nat} (hq:q.length≤64) {L:Prs} {m:Nat} (h:WayM k q L m) (hs:Srt (hsZ k) L) (hf:Fit L):rtE (k:Int) q (prfL k q L m) (dnL (hsZ k) q L m) = 0:=rtE_mk (p_form hk hq L m) (p_prov hk h hs hf)
theorem p_brD {k:Nat} (hk:1≤k∧k≤32) {q:List Nat} {L:Prs} {m i:Nat} (h:WayM k q L m) (hi:i < m):brD (k:Int) (bm (hsZ k) i (dnL (hsZ k) q L i)) ((kidsL (hsZ k) i (dnL (hsZ k) q L i)).map (nodP (hsZ k) (63 - i))) = nodP (hsZ k) (64 - i) (dnL (hsZ k) q L i):=by
  have hm:=h.le hk
  have hp:=(xa2u (hsZ_ok hk) (d:=i) (p_ne (h.ns i hi))).1
  have h0:=xb5i hk (bm_lt (hsZ k) i (dnL (hsZ k) q L i)) (ds:=(kidsL (hsZ k) i (dnL (hsZ k) q L i)).map (nodP (hsZ k) (63 - i))) (fun d hd=>by obtain ⟨K,_,rfl⟩:=List.mem_map.1 hd; exact xa8a hk _ _) (by rw [List.length_map,xa1k]) (fun e=>by
    have e2:=congrArg List.length e
    rw [List.length_map] at e2
    simp only [List.length_nil] at e2
    omega)
  unfold brD sunD
  rw [h0,if_pos rfl]
  exact p_up (by omega) (h.ns i hi)
theorem p_cli {k:Nat} (hk:1≤k∧k≤32) {q:List Nat} {L:Prs} {m:Nat} (h:WayM k q L m):∀ n,n≤m→(∀ i,i < n→dnL (hsZ k) q L (i + 1)≠[])→cliD (k:Int) (keyS (k:Int) q) (prfL k q L m) n (nodP (hsZ k) (64 - n) (dnL (hsZ k) q L n)) = nodP (hsZ k) 64 L
  | 0,_,_=>rfl
  | n + 1,hn,hne=>by
    have hm:=h.le hk
    have hH:=hsZ_ok hk
    have hb:(bm (hsZ k) n (dnL (hsZ k) q L n)).testBit (dgt ((hsZ k).kd q) n) = true:=by
      rw [p_bit hH]
      cases hc:dnL (hsZ k) q L (n + 1) with
      | nil=>exact absurd hc (hne n (by omega))
      | cons _ _=>rfl
    obtain ⟨h1,h2⟩:=p_kid hH (f:=63 - n) hb
    rw [cliD,xa8e (by omega),p_dgt hk q (by omega),xa5u (by have:=dgk hH q n; omega)]
    have e1:(prf k q L n).1 = bm (hsZ k) n (dnL (hsZ k) q L n):=rfl
    have e2:(prf k q L n).2 = ((kidsL (hsZ k) n (dnL (hsZ k) q L n)).map (nodP (hsZ k) (63 - n))).eraseIdx (cnt (bm (hsZ k) n (dnL (hsZ k) q L n)) (dgt ((hsZ k).kd q) n)):=by
      show (if (bm (hsZ k) n (dnL (hsZ k) q L n)).testBit (dgt ((hsZ k).kd q) n) = true then _ else _) = _
      rw [if_pos hb]; rfl
    rw [e1,e2,show 64 - (n + 1) = 63 - n by omega,← h2,p_back _ _ h1 [],p_brD hk h (by omega)]
    exact p_cli hk h n (by omega) (fun i hi=>hne i (by omega))
theorem p_rooD {k:Nat} (hk:1≤k∧k≤32) {q:List Nat} {L:Prs} {m:Nat} (h:WayM k q L m):rooD (k:Int) q (prfL k q L m) (dnL (hsZ k) q L m) = rootP k L:=by
  have hm:=h.le hk
  unfold rooD footD footN
  rw [xa5t]
  by_cases hn:dnL (hsZ k) q L m = []
  · rw [hn,if_neg (by simp),if_neg (by simp)]
    cases m with
    | zero =>
      have hL:L = []:=hn
      subst hL
      rw [if_pos rfl,xa5f hk]; rfl
    | succ i =>
      have hL:L≠[]:=p_ne (h.ns 0 (by omega))
      have hb:(bm (hsZ k) i (dnL (hsZ k) q L i)).testBit (dgt ((hsZ k).kd q) i) = false:=by rw [p_bit (hsZ_ok hk),hn]; rfl
      have e2:(prf k q L i).2 = (kidsL (hsZ k) i (dnL (hsZ k) q L i)).map (nodP (hsZ k) (63 - i)):=by
        show (if (bm (hsZ k) i (dnL (hsZ k) q L i)).testBit (dgt ((hsZ k).kd q) i) = true then _ else _) = _
        rw [if_neg (by rw [hb]; decide)]; rfl
      have e1:(prf k q L i).1 = bm (hsZ k) i (dnL (hsZ k) q L i):=rfl
      rw [if_neg (by omega),Nat.add_sub_cancel,xa8e (by omega),e1,e2,p_brD hk h (by omega),p_cli hk h i (by omega) (fun j hj=>p_ne (h.ns (j + 1) (by omega)))]
      unfold rootP
      cases L with
      | nil=>exact absurd rfl hL
      | cons _ _=>rfl
  · have hl:0 < (dnL (hsZ k) q L m).length:=List.length_pos_iff.2 hn
    have hL:L≠[]:=fun e=>by
      have h1:=dn_len (H:=hsZ k) (q:=q) (L:=L) m
      rw [e] at h1
      simp only [List.length_nil] at h1
      rw [e] at hl
      omega
    rw [if_pos hl,if_pos hl]
    have e:sumD (k:Int) (buckB (dnL (hsZ k) q L m)) = nodP (hsZ k) (64 - m) (dnL (hsZ k) q L m):=(xb5q h.sg).symm
    rw [e,p_cli hk h m (Nat.le_refl _) (fun i hi=>by
      rcases Nat.lt_or_ge (i + 1) m with h1 | h1
      · exact p_ne (h.ns _ h1)
      · rw [show i + 1 = m by omega]; exact hn)]
    unfold rootP
    cases L with
    | nil=>exact absurd rfl hL
    | cons _ _=>rfl
theorem p_rtD {k:Nat} (hk:1≤k∧k≤32) {q:List Nat} (hq:q.length≤64) {L:Prs} {m:Nat} (h:WayM k q L m) (hs:Srt (hsZ k) L) (hf:Fit L):rtD (k:Int) q (prfL k q L m) (dnL (hsZ k) q L m) = rootP k L:=by
  unfold rtD
  rw [if_pos (p_rtE hk hq h hs hf),p_rooD hk h]
theorem xb1r (q:List Nat):∀ L:Prs,valH q L = getP q L
  | []=>rfl
  | p :: L=>by rw [valH,xa5e,xb1r q L]
theorem p_rtV {k:Nat} (hk:1≤k∧k≤32) {q:List Nat} (hq:q.length≤64) {L:Prs} {m:Nat} (h:WayM k q L m) (hs:Srt (hsZ k) L) (hf:Fit L):rtV (k:Int) q (prfL k q L m) (dnL (hsZ k) q L m) = getP q L:=by
  unfold rtV
  rw [if_pos (p_rtE hk hq h hs hf),xb1r,dn_get]
theorem p_ckE {k:Nat} (hk:1≤k∧k≤32) {q:List Nat} (hq:q.length≤64) {L:Prs} {m:Nat} (h:WayM k q L m) (hs:Srt (hsZ k) L) (hf:Fit L):ckE (k:Int) (rootP k L) q (prfL k q L m) (dnL (hsZ k) q L m) = 0:=by
  rw [← p_rtD hk hq h hs hf]; exact agr_ok (p_rtE hk hq h hs hf)
theorem p_ckV {k:Nat} (hk:1≤k∧k≤32) {q:List Nat} (hq:q.length≤64) {L:Prs} {m:Nat} (h:WayM k q L m) (hs:Srt (hsZ k) L) (hf:Fit L):ckV (k:Int) (rootP k L) q (prfL k q L m) (dnL (hsZ k) q L m) = getP q L:=by
  unfold ckV
  rw [if_pos (p_ckE hk hq h hs hf),p_rtV hk hq h hs hf]
section
open Go.RowKit Go.BigFrame
theorem xa7c (b:Nat) (t:TypeId):∀ (vs pre mid post:List Value) (w:World),mid.length = vs.length→w.heap[b]? = some (.cells (pre++(mid++post)).toArray t (0,0))→(w.setCells b pre.length vs).heap[b]? = some (.cells (pre++(vs++post)).toArray t (0,0))
  | [],pre,mid,post,w,hl,h=>by
    have:mid = []:=List.eq_nil_of_length_eq_zero (by simpa using hl)
    subst this; exact h
  | v :: r,pre,mid,post,w,hl,h=>by
    obtain ⟨x,mid,rfl⟩:∃ x q,mid = x :: q:=by cases mid with | nil=>simp at hl | cons x q=>exact ⟨x,q,rfl⟩
    rw [World.setCells]
    have h1:=heap_setCell_same w b pre.length _ t v h
    have e1:(pre++(x :: mid++post)).toArray.setIfInBounds pre.length v = ((pre++[v])++(mid++post)).toArray:=by simp
    rw [e1] at h1
    have h2:=xa7c b t r (pre++[v]) mid post _ (by simpa using hl) h1
    rw [List.length_append,List.length_cons,List.length_nil,List.append_assoc] at h2
    simpa using h2
theorem xa5g {L:List Nat} {w0:World} (b:Nat) (hb:b∈L∨w0.heap.size≤b):∀ (vs:List Value) (o:Nat) (w:World),Kept L w0 w→Kept L w0 (w.setCells b o vs)
  | [],o,w,h=>h
  | v :: r,o,w,h=>by
    rw [World.setCells]
    exact xa5g b hb r (o + 1) _ (h.setCell (p:=⟨b,o,none⟩) hb v)
theorem p_rddX {w:World} {g:Nat} {t:TypeId} {fr:Nat × Nat} {ds:List (List Nat)} {zs:List Value} {c:Nat} (h:w.heap[g]? = some (.cells (flatD ds++zs).toArray t fr)) (hd:∀ d∈ds,Dg d) (hl:ds.length≤c) (hc:c≤1000000):RdD w (.slice (some ⟨g,0,none⟩) ds.length c) ds:=by
  refine ⟨_,ds.length,c,rfl,rfl,hl,by omega,hd,fun _=>⟨g,0,rfl,fun i hi j v hj=>?_⟩⟩
  have hdl:∀ d∈ds,d.length = 32:=fun d hm=>(hd d hm).1
  have hj2:j < 32:=by
    have:=(List.getElem?_eq_some_iff.1 hj).1
    rw [List.length_map] at this
    have h9:(ds.getD i []).length = 32:=by rw [List.getD_eq_getElem?_getD,List.getElem?_eq_getElem hi]; exact hdl _ (List.getElem_mem _)
    omega
  have hln:=xa1u hdl
  rw [cell_of_row _ _ _ _ _ _ h,List.getElem?_toArray,Nat.zero_add,List.getElem?_append_left (by omega),xa5a hdl i hi j hj2]
  exact hj
theorem p_two1 {a b:Value} (ha:a.oneCell' = true) (hb:b.oneCell' = true):(#[a,b]:Array Value).all (·.oneCell') = true:=by simp [ha,hb]
def stV (s:Stp) (p:Nat × Nat):List Value:=[.int .u16 (s.1:Int),.slice (some ⟨p.1,0,none⟩) s.2.length p.2]
def snR (ss:List Stp) (gs:List (Nat × Nat)):List (List Value):=List.zipWith stV ss gs
theorem xa9a {ss:List Stp} {gs:List (Nat × Nat)} (h:gs.length = ss.length):(snR ss gs).length = ss.length:=by simp [snR,h]
theorem snR_at {ss:List Stp} {gs:List (Nat × Nat)} (h:gs.length = ss.length) (i:Nat) (hi:i < ss.length):(snR ss gs)[i]'(by rw [xa9a h]; exact hi) = stV (ss.getD i (0,[])) (gs.getD i (0,0)):=by
  simp [snR,List.getD_eq_getElem?_getD,List.getElem?_eq_getElem hi,List.getElem?_eq_getElem (show i < gs.length by omega)]
theorem xb0e {ss:List Stp} {gs:List (Nat × Nat)}:∀ r∈snR ss gs,r.length = 2:=fun r hr=>by
  obtain ⟨i,hi,rfl⟩:=List.getElem_of_mem hr
  simp [snR,stV]
structure KidB (B:Nat) (w:World) (v:Value) (s:Stp) (p:Nat × Nat):Prop where
  new:B≤p.1
  ne:v.ownBlock≠some p.1
  row:∃ zs:List Value,w.heap[p.1]? = some (.cells (flatD s.2++zs).toArray 58 (0,0))∧zs.length = (p.2 - s.2.length) * 32∧∀ u∈zs,u.oneCell' = true
  cap:s.2.length≤p.2∧p.2≤16
  bm:s.1 < 65536
  dg:∀ d∈s.2,Dg d
structure SNew (B:Nat) (w:World) (v:Value) (gs:List (Nat × Nat)) (ss:List Stp):Prop where
  own:w.ownsRow B 52 2 v ss.length (snR ss gs).flatten
  len:gs.length = ss.length
  kid:∀ i,i < ss.length→KidB B w v (ss.getD i (0,[])) (gs.getD i (0,0))
  dis:∀ i j,i < gs.length→j < gs.length→i≠j→(gs.getD i (0,0)).1≠(gs.getD j (0,0)).1
theorem KidB.kept {B:Nat} {w w':World} {v:Value} {s:Stp} {p:Nat × Nat} {M:List Nat} (h:KidB B w v s p) (k:Kept M w w') (hn:p.1∉M):KidB B w' v s p:=by
  obtain ⟨h1,h2,⟨zs,h3,h4⟩,h5,h6,h7⟩:=h
  exact ⟨h1,h2,⟨zs,k.heap h3 hn,h4⟩,h5,h6,h7⟩
theorem KidB.lt {B:Nat} {w:World} {v:Value} {s:Stp} {p:Nat × Nat} (h:KidB B w v s p):p.1 < w.heap.size:=by
  obtain ⟨h1,h2,⟨zs,h3,h4⟩,h5,h6,h7⟩:=h
  exact lt_of_block h3
theorem SNew.kept {B:Nat} {w w':World} {v:Value} {gs:List (Nat × Nat)} {ss:List Stp} (h:SNew B w v gs ss) (k:Kept [] w w'):SNew B w' v gs ss:=⟨k.owns h.own (by simp),h.len,fun i hi=>(h.kid i hi).kept k (by simp),h.dis⟩
theorem SNew.nil (B:Nat) (w:World):SNew B w (.slice none 0 0) [] []:=⟨World.ownsRow_nil _ _ _ _,rfl,fun i hi=>by simp at hi,fun i j hi=>by simp at hi⟩
theorem xa6g {α:Type} (l:List α) (a d:α) (i:Nat):(l++[a]).getD i d = if i < l.length then l.getD i d else if i = l.length then a else d:=xb3g l a d i
theorem SNew.snoc {B:Nat} {w w1:World} {v v':Value} {gs:List (Nat × Nat)} {ss:List Stp} {s:Stp} {p:Nat × Nat} (h:SNew B w v gs ss) (hk:KidB B w v s p) (hd:∀ q∈gs,q.1≠p.1)
    (ho:w1.ownsRow B 52 2 v' (ss.length + 1) ((snR ss gs).flatten++(stV s p))) (hg:w.grownBy w1 v.ownBlock) (hb:v'.ownBlock = v.ownBlock∨v'.ownBlock = some w.heap.size):SNew B w1 v' (gs++[p]) (ss++[s]):=by
  have hK:=(Kept.refl v.ownBlock.toList w).grown hg (by intro x hx; left; simp [hx])
  have hup:∀ {s p},KidB B w v s p→KidB B w1 v' s p:=fun {s p} k=>by
    have hlt:=k.lt
    obtain ⟨h1,h2,⟨zs,h3,h4⟩,h5,h6,h7⟩:=k
    refine ⟨h1,?_,⟨zs,hK.heap h3 (fun hm=>h2 (by simpa using hm)),h4⟩,h5,h6,h7⟩
    rcases hb with e | e
    · rw [e]; exact h2
    · rw [e]; intro e2; injection e2 with e3; omega
  refine ⟨?_,by rw [List.length_append,List.length_append,h.len]; rfl,fun i hi=>?_,fun i j hi hj hn=>?_⟩
  · rw [List.length_append,show snR (ss++[s]) (gs++[p]) = snR ss gs++[stV s p] by unfold snR; rw [List.zipWith_append h.len.symm]; rfl,List.flatten_append]
    simpa using ho
  · rw [List.length_append] at hi
    have hi2:i < ss.length + 1:=hi
    rw [xa6g,xa6g,h.len]
    by_cases g:i < ss.length
    · rw [if_pos g,if_pos g]; exact hup (h.kid i g)
    · have g2:i = ss.length:=by omega
      rw [if_neg g,if_neg g,if_pos g2,if_pos g2]; exact hup hk
  · rw [List.length_append] at hi hj
    simp only [List.length_cons,List.length_nil] at hi hj
    rw [xa6g,xa6g]
    have hm:∀ x,x < gs.length→(gs.getD x (0,0)).1≠p.1:=fun x hx=>hd _ (by rw [List.getD_eq_getElem?_getD,List.getElem?_eq_getElem hx]; exact List.getElem_mem hx)
    by_cases g1:i < gs.length
    · by_cases g2:j < gs.length
      · rw [if_pos g1,if_pos g2]; exact h.dis i j g1 g2 hn
      · rw [if_pos g1,if_neg g2,if_pos (by omega)]; exact hm i g1
    · by_cases g2:j < gs.length
      · rw [if_neg g1,if_pos g2,if_pos (by omega)]; exact fun e=>hm j g2 e.symm
      · omega
theorem SNew.rdS {B:Nat} {w:World} {v:Value} {gs:List (Nat × Nat)} {ss:List Stp} (h:SNew B w v gs ss):RdS w v ss:=by
  have hsl:=xa9a h.len
  obtain ⟨_,len,cap,rfl,hl,hc1,hc2,hcell⟩:=xa4z (rows:=snR ss gs) (by rw [hsl]; exact h.own) xb0e
  rw [hsl] at hl
  subst hl
  have e1:∀ i,i < ss.length→((snR ss gs).map (fun r=>r.getD 1 undef)).getD i undef = .slice (some ⟨(gs.getD i (0,0)).1,0,none⟩) (ss.getD i (0,[])).2.length (gs.getD i (0,0)).2:=fun i hi=>by
    rw [List.getD_eq_getElem?_getD,List.getElem?_map,List.getElem?_eq_getElem (by rw [hsl]; exact hi),Option.map_some,Option.getD_some,snR_at h.len i hi]; rfl
  refine ⟨_,ss.length,cap,(snR ss gs).map (fun r=>r.getD 1 undef),rfl,rfl,hc1,hc2,fun i hi=>?_,fun h0=>?_⟩
  · obtain ⟨h1,h2,⟨zs,h3,h4⟩,h5,h6,h7⟩:=h.kid i hi
    rw [e1 i hi]; exact ⟨h6,p_rddX h3 h7 h5.1 (by omega)⟩
  · obtain ⟨b,off,rfl,hce⟩:=hcell h0
    refine ⟨b,off,rfl,fun i hi=>?_⟩
    have h7:=hce i (by rw [hsl]; exact hi)
    rw [snR_at h.len i hi] at h7
    rw [e1 i hi]
    exact ⟨h7 0 _ rfl,h7 1 _ rfl⟩
theorem SNew.at_ {B:Nat} {w:World} {v:Value} {gs:List (Nat × Nat)} {ss:List Stp} (h:SNew B w v gs ss) {i:Nat} (hi:i < ss.length):∃ g c,v = .slice (some ⟨g,0,none⟩) ss.length c∧B≤g∧w.rangeAt g (i * 2) (stV (ss.getD i (0,[])) (gs.getD i (0,0)))∧∃ cur,w.heap[g]? = some (.cells cur 52 (0,0)):=by
  rcases h.own.2 with ⟨e,h9⟩ | ⟨g,cap,cur,rfl,hg,hh,hc,hm,hsz,ht⟩
  · omega
  · refine ⟨g,cap,rfl,hg,fun j u hu=>?_,?_⟩
    · have h8:=h.own.cells (g:=g) rfl (i * 2 + j) u (xa7i xb0e (show i < (snR ss gs).length by rw [xa9a h.len]; exact hi) (by rw [snR_at h.len i hi]; exact hu))
      rw [Addr.add_lit] at h8
      simpa using h8
    · exact ⟨cur,hh⟩
theorem xa8r {u:Value}:∀ {rows:List (List Value)} (hs:∀ r∈rows,r.length = 2) {i:Nat} (hi:i < rows.length) (a:Value) (ha:rows[i][0]? = some a),rows.flatten.set (i * 2 + 1) u = (rows.set i [a,u]).flatten
  | [],hs,i,hi,a,ha=>by simp at hi
  | r :: rs,hs,0,hi,a,ha=>by
    obtain ⟨x,y,rfl⟩:∃ x y,r = [x,y]:=by
      have:=hs r (by simp)
      match r,this with
      | [x,y],_=>exact ⟨x,y,rfl⟩
    have e:x = a:=by simpa using ha
    subst e
    simp
  | r :: rs,hs,i + 1,hi,a,ha=>by
    obtain ⟨x,y,rfl⟩:∃ x y,r = [x,y]:=by
      have:=hs r (by simp)
      match r,this with
      | [x,y],_=>exact ⟨x,y,rfl⟩
    have ih:=xa8r (u:=u) (fun r hr=>hs r (by simp [hr])) (i:=i) (by simpa using hi) a ha
    rw [List.set_cons_succ,List.flatten_cons,List.flatten_cons,← ih,show (i + 1) * 2 + 1 = (i * 2 + 1) + 1 + 1 by omega]
    rfl
theorem xb7t {ss:List Stp} {gs:List (Nat × Nat)} (h:gs.length = ss.length) (i:Nat) (hi:i < ss.length) (s:Stp):snR (ss.set i s) gs = (snR ss gs).set i (stV s (gs.getD i (0,0))):=by
  apply List.ext_getElem
  · simp [snR]
  · intro j h1 h2
    have hj:j < ss.length:=by simp [snR,h] at h1; omega
    simp only [snR,List.getElem_zipWith,List.getElem_set]
    by_cases e:i = j
    · subst e
      simp [List.getD_eq_getElem?_getD,List.getElem?_eq_getElem (show i < gs.length by omega)]
    · simp [e]
theorem xb8f {α:Type} {l:List α} {i:Nat} {a d:α} (h:i < l.length):(l.set i a).getD i d = a:=by
  rw [List.getD_eq_getElem?_getD,List.getElem?_set_self h,Option.getD_some]
theorem xb7x {α:Type} {l:List α} {i j:Nat} {a d:α} (h:i≠j):(l.set i a).getD j d = l.getD j d:=by
  rw [List.getD_eq_getElem?_getD,List.getElem?_set_ne h,← List.getD_eq_getElem?_getD]
theorem SNew.put {B:Nat} {w w1:World} {v:Value} {gs:List (Nat × Nat)} {ss:List Stp} (h:SNew B w v gs ss) {i:Nat} (hi:i < ss.length) {g c:Nat} (hv:v = .slice (some ⟨g,0,none⟩) ss.length c) {ds:List (List Nat)} (k:Kept [(gs.getD i (0,0)).1] w w1)
    (hk:KidB B w1 v ((ss.getD i (0,[])).1,ds) (gs.getD i (0,0))):SNew B (w1.setCell ⟨g,i * 2 + 1,none⟩ (.slice (some ⟨(gs.getD i (0,0)).1,0,none⟩) ds.length (gs.getD i (0,0)).2)) v gs (ss.set i ((ss.getD i (0,[])).1,ds)):=by
  have hgn:∀ j,j < ss.length→(gs.getD j (0,0)).1≠g:=fun j hj e=>by
    have:=(h.kid j hj).ne
    rw [hv] at this
    exact this (by rw [e]; rfl)
  have hKg:=(Kept.refl [g] w1).setCell (p:=⟨g,i * 2 + 1,none⟩) (Or.inl (by simp)) (.slice (some ⟨(gs.getD i (0,0)).1,0,none⟩) ds.length (gs.getD i (0,0)).2)
  refine ⟨?_,by rw [List.length_set]; exact h.len,fun j hj=>?_,h.dis⟩
  · have ho:=k.owns h.own (fun b hb hm=>hgn i hi (by
      rw [hv] at hb
      have e1:g = b:=Option.some.inj hb
      rw [e1]; exact (List.mem_singleton.1 hm).symm))
    rcases ho.2 with ⟨e,h9⟩ | ⟨g',cap,cur,e,hg,hh,hc,hm,hsz,ht⟩
    · omega
    · have hx:=e
      rw [hv] at hx
      simp only [Value.slice.injEq,Option.some.injEq,Addr.mk.injEq,and_true,true_and] at hx
      obtain ⟨hx1,hx2⟩:=hx
      subst hx1
      subst hx2
      have h1:=heap_setCell_same w1 g (i * 2 + 1) cur _ (.slice (some ⟨(gs.getD i (0,0)).1,0,none⟩) ds.length (gs.getD i (0,0)).2) hh
      have hsl:=xa9a h.len
      have hfl:(snR ss gs).flatten.set (i * 2 + 1) (.slice (some ⟨(gs.getD i (0,0)).1,0,none⟩) ds.length (gs.getD i (0,0)).2) = (snR (ss.set i ((ss.getD i (0,[])).1,ds)) gs).flatten:=by
        rw [xb7t h.len i hi,xa8r xb0e (by rw [hsl]; exact hi) (.int .u16 ((ss.getD i (0,[])).1:Int)) (by rw [snR_at h.len i hi]; rfl)]
        rfl
      refine ⟨?_,Or.inr ⟨g,c,_,by rw [hv,List.length_set],hg,h1,by rw [List.length_set]; exact hc,hm,by rw [Array.size_setIfInBounds]; exact hsz,?_⟩⟩
      · rw [← hfl,List.length_set,ho.1,List.length_set]
      · rw [List.length_set,Array.toList_setIfInBounds,List.take_set,ht,hfl]
  · rw [List.length_set] at hj
    by_cases e:i = j
    · subst e
      rw [xb8f hi]
      exact hk.kept hKg (fun hm=>hgn i hi (List.mem_singleton.1 hm))
    · rw [xb7x e]
      refine ((h.kid j hj).kept k ?_).kept hKg (fun hm=>hgn j hj (List.mem_singleton.1 hm))
      simp only [List.mem_singleton]
      exact h.dis j i (by have:=h.len; omega) (by have:=h.len; omega) (fun e2=>e e2.symm)
end
section
open Go Go.RowKit Go.BigFrame

end
section
open Go.RowKit Go.BigFrame

end

section
open Go.RowKit Go.BigFrame
def fitP (q v:List Nat):Bool:=decide (q.length≤64∧v.length≤256)

end
section
open Go Go.RowKit Go.BigFrame
section
variable {P:Program} {Q:Exit→Act→World→Prop} {S:World→Prop}
end

end
section
open Go.RowKit Go.BigFrame




theorem same_k (u v:Value) (p q:List Nat) (w:World) (hu:Rd w u p) (hv:Rd w v q) :
    Calls Tryz.prog 23 #[u,v] w fun e w'=>e = .returned (.bool (decide (p = q)))∧Kept [] w w' :=
  (xb6y u v p q w hu hv).mono fun e w' ⟨h1,n,h2⟩=>⟨h1,by rw [h2]; exact (Kept.refl [] w).drewN n⟩






abbrev iv (n:Nat):Value:=.int .i64 (n:Int)

end
section
open Go
section
variable {P:Program} {ops:Array Oper} {Q:Exit→Act→World→Prop} {md:Region.Mode} {S:Array Bool→World→Prop}
end
section
variable {P:Program} {Q:Exit→Act→World→Prop}
end
end
section
open Go Go.RowKit Go.BigFrame
section
variable {P:Program} {Q:Exit→Act→World→Prop} {T:World→Prop}
end

end
section
open Go.RowKit Go.BigFrame

end
section
open Go Go.RowKit Go.BigFrame
section
variable {P:Program} {Q:Exit→Act→World→Prop} {S:World→Prop}
end
theorem lp_de {P:Program} {Q:Exit→Act→World→Prop} {id:Nat} {o0 o1 o2 o3 o4 o5 o6 o7:Oper} {a:Act} {w:World} (hm:P.follows .mixedOrders = true) (hb:linB #[o0,o1,o2,o3,o4,o5,o6,o7] [0,1,2,3,4,5] [6,7] [] = true) (hg:([o0,o1,o2,o3,o4,o5]++([o6,o7]++[])).all (fun o=>o.guard.isNone) = true) (S:World→Prop) (hS:S w.drew)
    (h:LinY P S (ChL P Q S (Q .normal) [o6,o7]) [o0,o1,o2,o3,o4,o5] a w.drew):(Code.region id #[o0,o1,o2,o3,o4,o5,o6,o7] true).wp P Q a w:=xa1n (R:=[0,1,2,3,4,5]) (C:=[6,7]) (rs:=[o0,o1,o2,o3,o4,o5]) (cs:=[o6,o7]) hm hb rfl rfl hg hS h
end
section
open Go.RowKit Go.BigFrame




theorem SNew.base {B C:Nat} {w:World} {v:Value} {gs:List (Nat × Nat)} {ss:List Stp} (h:SNew B w v gs ss) (hc:C≤B):SNew C w v gs ss:=by
  refine ⟨⟨h.own.1,?_⟩,h.len,fun i hi=>?_,h.dis⟩
  · rcases h.own.2 with h1 | ⟨g,cap,cur,h1,h2,h3⟩
    · exact Or.inl h1
    · exact Or.inr ⟨g,cap,cur,h1,Nat.le_trans hc h2,h3⟩
  · exact { h.kid i hi with new:=Nat.le_trans hc (h.kid i hi).new }
theorem SNew.lts {B:Nat} {w:World} {v:Value} {gs:List (Nat × Nat)} {ss:List Stp} (h:SNew B w v gs ss):(∀ p∈gs,p.1 < w.heap.size)∧∀ b,v.ownBlock = some b→b < w.heap.size:=by
  refine ⟨fun p hp=>?_,fun b hb=>(h.own.lt b hb).2⟩
  obtain ⟨j,hj,rfl⟩:=List.getElem_of_mem hp
  have h8:=(h.kid j (by have:=h.len; omega)).lt
  rw [List.getD_eq_getElem?_getD,List.getElem?_eq_getElem hj,Option.getD_some] at h8
  exact h8
theorem LayAt.far {C:Nat} {w w':World} {v:Value} {l:List VP} {L:Prs} {M:List Nat} (h:LayAt C w v l L) (k:Kept M w w') (hM:∀ x∈M,x < C):LayAt C w' v l L :=
  ⟨k.owns h.own (fun b hb hm=>by have h1:=(h.own.lt b hb).1; have h2:=hM b hm; omega),h.pr.agr ⟨k.size,fun x hx hl=>k.block x hl (fun hm=>by have h1:=hM x hm; have h2:=hx.1; omega)⟩⟩
structure SLP (B:Nat) (w:World) (sv pv:Value) (gs:List (Nat × Nat)) (ss:List Stp) (E:Prs) (C:Nat) (l:List VP):Prop where
  st:SNew B w sv gs ss
  ly:LayAt C w pv l E
  lo:(∀ p∈gs,p.1 < C)∧∀ b,sv.ownBlock = some b→b < C
  bc:B≤C
theorem SLP.kept {B:Nat} {w w':World} {sv pv:Value} {gs:List (Nat × Nat)} {ss:List Stp} {E:Prs} {C:Nat} {l:List VP} (h:SLP B w sv pv gs ss E C l) (k:Kept [] w w'):SLP B w' sv pv gs ss E C l:=⟨h.st.kept k,h.ly.agr k,h.lo,h.bc⟩
theorem SLP.far {B:Nat} {w w':World} {sv pv:Value} {gs:List (Nat × Nat)} {ss:List Stp} {E:Prs} {C:Nat} {l:List VP} {M:List Nat} (h:SLP B w sv pv gs ss E C l) (k:Kept M w w') (hM:∀ x∈M,x < B):SLP B w' sv pv gs ss E C l :=
  ⟨⟨k.owns h.st.own (fun b hb hm=>by have h1:=(h.st.own.lt b hb).1; have h2:=hM b hm; omega),h.st.len,fun i hi=>(h.st.kid i hi).kept k (fun hm=>by have h1:=(h.st.kid i hi).new; have h2:=hM _ hm; omega),h.st.dis⟩,h.ly.far k (fun x hx=>Nat.lt_of_lt_of_le (hM x hx) h.bc),h.lo,h.bc⟩
theorem SLP.base {B B':Nat} {w:World} {sv pv:Value} {gs:List (Nat × Nat)} {ss:List Stp} {E:Prs} {C:Nat} {l:List VP} (h:SLP B w sv pv gs ss E C l) (hb:B'≤B):SLP B' w sv pv gs ss E C l:=⟨h.st.base hb,h.ly,h.lo,Nat.le_trans hb h.bc⟩
def WalkN (k B:Nat) (w:World) (q:List Nat) (L:Prs) (sv pv:Value):Prop:=∃ m gs C l,SLP B w sv pv gs ((List.range m).map (stp k q L)) (dnL (hsZ k) q L m) C l∧WayM k q L m∧∀ i,i < m→(gs.getD i (0,0)).2 = (stp k q L i).2.length
set_option maxHeartbeats 4000000 in
theorem xb4k (S:Nat→Prop) (k:Nat) (mv kv:Value) (L:Prs) (q:List Nat) (w:World) (hM:MapAt S k w mv L) (hku:Rd w kv q) (hq:q.length≤64) (hT:Tabs w) :
    Calls Tryz.prog 18 #[mv,kv] w fun e w'=>∃ sv pv,e = .returned (.tuple #[sv,pv,.int .i64 0])∧WalkN k w.heap.size w' q L sv pv∧Kept [] w w':=by
  have HM:=hide hM
  obtain ⟨hk,hs,hfit,hlen,g,tv,rfl,hSg,hh,htop⟩:=hM
  have hH:=hsZ_ok hk
  have HKU:=hide hku
  have HTb:=hide hT
  have HSr:=hide hs
  clear hh htop hT hs hku hfit hSg
  go_enter Tryz.func18,Tryz.ntmps18
  go_wp2_with fail
  refine Calls.mono (xa2v S k _ kv L q w (uh HM) (uh HKU) hq (uh HTb)) ?_
  rintro e w1 ⟨m,cr,en,pl,fd,rfl,hway,k1⟩
  have hon:=hway.cells
  have HWay:=hide hway
  have hDl:((hsZ k).kd q).length = 32:=(hH.dg q).1
  obtain ⟨D,hD⟩:∃ D,(hsZ k).kd q = D:=⟨_,rfl⟩
  rw [hD] at hDl ⊢
  clear hD hway
  have hws:((wayC k D cr en pl fd).toArray).size = 37:=by rw [List.size_toArray,xa1f hDl]
  have HZ1:=hide (heap_alloc_new w1 (.cells zwy 102))
  have HN2:=hide (setRow_heap _ _ _ (wayC k D cr en pl fd).toArray _ _ (uh HZ1))
  have HK12:=hide ((Kept.refl [] w1).alloc (.cells zwy 102) |>.setRow (g:=w1.heap.size) (Or.inr (Nat.le_refl _)) (wayC k D cr en pl fd).toArray)
  have HK2:=hide (k1.trans (uh HK12) (by simp))
  clear k1
  obtain ⟨W2,hW2⟩:∃ W2,(w1.alloc (.cells zwy 102)).setRow w1.heap.size (wayC k D cr en pl fd).toArray = W2:=⟨_,rfl⟩
  rw [hW2] at HN2 HK12 HK2
  obtain ⟨⟨gs,hgl,hrd,htr⟩,hend,hdeep⟩:=(uh HWay).old (uh HK12)
  obtain ⟨ao,c,b,off,rfl,hc1,hc2,hao,hcell⟩:=xb2o hrd
  rw [hgl] at hc1 hao hcell hon hws HN2 hW2 ⊢
  obtain ⟨cw0,cw1,cw2,cw3,cw4,cw5⟩:=xa0s (uh HN2) hDl
  have HC:=hide hcell
  have HTR:=hide htr
  have HEn:=hide hend
  have HAO:=hide hao
  have HW3:=hide cw3
  have hL0:=hide (SNew.nil W2.heap.size W2)
  have hKa:=hide (Kept.refl [] W2)
  clear cw0 cw1 cw3 cw4 cw5 hcell htr hrd hend hao HWay
  go_wp2_with (rw [xa3a]; refine wpList_store_row rfl 102 (.tmp 7) (.tmp 16) rfl w1.heap.size (wayC k D (.slice ao m c) en pl fd).toArray rfl rfl _ zwy (uh HZ1) (by rw [hws]; exact Tryz.size_way) (by rw [hws]; rfl) (xa1r _ _ hon.1 hon.2) ?_; rw [hW2]; simp only [Act.put])
  go_loopw [9,24] (fun t9 t24 wr=>∃ (i:Nat) (v:Value) (gz:List (Nat × Nat)),t24 = .int .i64 i∧t9 = v∧i≤m∧Hid (SNew W2.heap.size wr v gz ((List.range i).map (stp k q L)))∧Hid (∀ j,j < i→(gz.getD j (0,0)).2 = (stp k q L j).2.length)∧Hid (Kept [] W2 wr)) (fun _ t _=>m - (intOf t).toNat)
  case atStart=>exact ⟨0,_,[],rfl,rfl,Nat.zero_le _,hL0,hide (fun j hj=>by omega),hKa⟩
  case round =>
    clear hL0 hKa cw2
    obtain ⟨i,v,gz,rfl,rfl,hi,HSL,HCP,HKr⟩:=hrel
    by_cases hlt:i < m
    · have hlt':(i:Int) < m:=by omega
      have haod:=uh HAO (by omega)
      subst haod
      have hx1:=(uh HKr).cell (uh HC i hlt) (by simp)
      obtain ⟨ht,hsg⟩:=uh HTR i hlt
      generalize gs.getD i 0 = gi at hx1 ht
      obtain ⟨f,hf⟩:∃ f,64 - i = f + 1:=⟨63 - i,by omega⟩
      have hfi:63 - f = i:=by omega
      have hif:63 - i = f:=by omega
      rw [hf] at ht
      obtain ⟨g',kvv,vs,e,hSg,hh,hrow,hle,hkd⟩:=ht.2 hsg
      have eg:g' = gi:=by injection e with _ e2; injection e2 with e3; injection e3 with e4; injection e4 with e5; exact e5.symm
      subst eg
      rw [hfi] at hh hle hkd
      obtain ⟨b0,b1,_⟩:=br_row hh
      have hst:stp k q L i = (bm (hsZ k) i (dnL (hsZ k) q L i),(kidsL (hsZ k) i (dnL (hsZ k) q L i)).map (nodP (hsZ k) f)):=by unfold stp; rw [hif]
      have hbl:=bm_lt (hsZ k) i (dnL (hsZ k) q L i)
      have hkp:=(xa2u hH (d:=i) ht.ne).1
      have hkl:=xa1k (hsZ k) i (dnL (hsZ k) q L i)
      have hkc:=cnt_le (bm (hsZ k) i (dnL (hsZ k) q L i)) 16
      have hdg:∀ d∈(kidsL (hsZ k) i (dnL (hsZ k) q L i)).map (nodP (hsZ k) f),Dg d:=fun d hd=>by
        obtain ⟨K,_,rfl⟩:=List.mem_map.1 hd
        exact nod_dg k f K
      rw [← hkl] at hkc
      have HSt:=hide hst
      generalize bm (hsZ k) i (dnL (hsZ k) q L i) = x at b0 hbl hst HSt
      generalize kidsL (hsZ k) i (dnL (hsZ k) q L i) = Ks at hle hkd hkp hkc hdg hst HSt
      have hrow':=hrow.agr (Agr.nil (uh HKr))
      have HRow:=hide hrow'
      have hkd':=hide (fun j (hj:j < vs.length)=>(hkd j hj).agr (Agr.nil (uh HKr)))
      obtain ⟨b2,off2,cap2,rfl,_⟩:=hrow
      have HB0:=hide ((uh HKr).cell b0 (by simp))
      have HB1:=hide ((uh HKr).cell b1 (by simp))
      obtain ⟨SS,hSS⟩:∃ SS,(List.range i).map (stp k q L) = SS:=⟨_,rfl⟩
      rw [hSS] at HSL
      have HSS:=hide hSS
      obtain ⟨vo,vc,rfl⟩:=xa0x (uh HSL).own
      have hown:∀ y,(Value.slice vo SS.length vc).ownBlock = some y→W2.heap.size≤y∧y < wr.heap.size:=fun y hy=>(uh HSL).own.lt y hy
      have hgs:=lt_of_block hh
      have HSLn:=hide (show SS.length≤64 by rw [← hSS]; simp; omega)
      have HGL:=hide (fun (p:Nat × Nat) (hp:p∈gz)=>by
        obtain ⟨j,hj,rfl⟩:=List.getElem_of_mem hp
        have h8:=((uh HSL).kid j (by have:=(uh HSL).len; omega)).lt
        rw [List.getD_eq_getElem?_getD,List.getElem?_eq_getElem hj,Option.getD_some] at h8
        exact h8:∀ p∈gz,p.1 < wr.heap.size)
      obtain ⟨OB,hOB⟩:∃ OB,(Value.slice vo SS.length vc).ownBlock = OB:=⟨_,rfl⟩
      rw [hOB] at hown
      have hno:g'∉OB.toList:=by
        intro hm
        have:=hown g' (by simpa using hm)
        omega
      clear hh hkd b0 b1 hst ht hsg e hSS hrow'
      go_upto_region 8 with fail
      refine ln_wa (by kernel_rfl) (by kernel_rfl) rfl (fun W=>Kept OB.toList wr W) (Kept.refl _ wr).drew ?_
      refine LinY.mv (x:=.tmp 9) rfl (.slice vo SS.length vc) rfl (by simp only [Act.put,sa1,sa2,sa3]; rfl) ?_
      refine LinY.mv (x:=.tmp 11) rfl (.pointer (some ⟨g',0,none⟩)) rfl (by simp only [Act.put,sa1,sa2,sa3]; rfl) ?_
      refine LinY.rd (.pointer (some ⟨g',0,none⟩)) (fun W hW=>by go_simp) (by simp only [Act.put,sa1,sa2,sa3]; rfl) ?_
      refine LinY.rd (.pointer (some ⟨g',0,none⟩)) (fun W hW=>by go_simp) (by simp only [Act.put,sa1,sa2,sa3]; rfl) ?_
      refine LinY.rd (.int .u16 x) (fun W hW=>by have h9:=hW.cell (uh HB0) hno; go_simp) (by simp only [Act.put,sa1,sa2,sa3]; rfl) ?_
      refine LinY.mv (x:=.tmp 11) rfl (.pointer (some ⟨g',0,none⟩)) rfl (by simp only [Act.put,sa1,sa2,sa3]; rfl) ?_
      refine LinY.rd (.pointer (some ⟨g',0,none⟩)) (fun W hW=>by go_simp) (by simp only [Act.put,sa1,sa2,sa3]; rfl) ?_
      refine LinY.rd (.pointer (some ⟨g',1,none⟩)) (fun W hW=>by go_simp) (by simp only [Act.put,sa1,sa2,sa3]; rfl) ?_
      refine LinY.rd (.slice (some ⟨b2,off2,none⟩) vs.length cap2) (fun W hW=>by have h9:=hW.cell (uh HB1) hno; go_simp) (by simp only [Act.put,sa1,sa2,sa3]; rfl) ?_
      have hd2:=(Kept.refl [] wr).drew
      refine ChL.call rfl Tryz.call56 [.slice (some ⟨b2,off2,none⟩) vs.length cap2] rfl (xa8q S k f _ vs Ks wr.drew ((uh HRow).agr (Agr.nil hd2)) hle (by omega) (fun j hj=>(uh hkd' j hj).agr (Agr.nil hd2))) ?_
      rintro e w4 ⟨g4,n4,rfl,hn4,hg4,hh4,k4⟩
      have hk4:=hd2.trans k4 (by simp)
      refine ⟨_,rfl,hk4.mono (by simp),?_⟩
      simp only [Act.put,sa1,sa2,sa3]
      have hn5:n4 = (Ks.map (nodP (hsZ k) f)).length:=by rw [List.length_map,hn4,hle]
      have hrdd:=xb5h hh4 hdg (by rw [← hn5]; omega)
      rw [← hn5] at hrdd
      refine ChL.op (.agg #[.int .u16 x,.slice (some ⟨g4,0,none⟩) n4 n4]) (xb4u w4 ⟨rfl,rfl,rfl⟩) (hk4.mono (by simp)) (by simp only [Act.put,sa1,sa2,sa3]; rfl) ?_
      have hka:=(Kept.refl [] w4).alloc (.cells #[.int .u16 x,.slice (some ⟨g4,0,none⟩) n4 n4] 52)
      have hk6:=hk4.trans hka (by simp)
      refine ChL.op (.slice (some ⟨w4.heap.size,0,none⟩) 1 1) (xb6k w4 (.tmp 38) rfl x _ rfl) (hk6.mono (by simp)) (by simp only [Act.put,sa1,sa2,sa3]; rfl) ?_
      have hrl:RdC 2 (w4.alloc (.cells #[.int .u16 x,.slice (some ⟨g4,0,none⟩) n4 n4] 52)) (.slice (some ⟨w4.heap.size,0,none⟩) 1 1) (stR [(x,.slice (some ⟨g4,0,none⟩) n4 n4)]):=⟨_,1,1,rfl,rfl,Nat.le_refl _,by omega,fun _=>⟨w4.heap.size,0,rfl,fun j hj=>by
          have h0:j = 0:=by simp [stR] at hj; omega
          subst h0
          exact xa0t [] [.int .u16 x,.slice (some ⟨g4,0,none⟩) n4 n4] [] (heap_alloc_new w4 _) rfl⟩⟩
      have hly:=(uh HSL).kept hk6
      have hk06:=(uh HKr).trans hk6 (by simp)
      refine ChL.app 45 52 (.tmp 28) (.tmp 39) rfl rfl _ W2.heap.size (.agg #[.int .u16 0,.slice none 0 0]) 2 32 Tryz.underlying45 Tryz.infoSt rfl (by decide) (.slice vo SS.length vc) SS.length (snR SS gz).flatten hly.own (some ⟨w4.heap.size,0,none⟩) 1 1 (stR [(x,.slice (some ⟨g4,0,none⟩) n4 n4)]) hrl (by intro r hr; simp [stR] at hr; rw [hr]; rfl) (by intro r hr u hu; simp [stR] at hr; rw [hr] at hu; simp at hu; rcases hu with rfl | rfl <;> rfl) (by have:=uh HSLn; omega) (by have:=uh HSLn; omega) hk06.size rfl rfl ?_
      intro ao7 c7 w7 HO7 HG7 HA7
      have hg7:=uh HG7
      rw [hOB] at hg7
      have hk7:=(Kept.refl OB.toList _).grown hg7 (by intro x hx; left; simp [hx])
      have hk27:=(hk6.mono (M:=OB.toList) (by simp)).trans hk7 (fun x hx=>Or.inl hx)
      refine ⟨hk27,?_⟩
      simp only [Act.put,sa1,sa2,sa3]
      refine ChL.op (.slice ao7 (SS.length + 1) c7) (by go_simp) hk27 (by simp only [Act.put,sa1,sa2,sa3]; rfl) (ChL.fin ?_)
      have hz4:=hd2.size
      have hfr:W2.heap.size≤g4∧∀ y,OB = some y→y≠g4:=⟨by have:=(uh HKr).size; omega,fun y hy e=>by have:=(hown y hy).2; omega⟩
      have hsn:=hly.snoc (s:=(x,Ks.map (nodP (hsZ k) f))) (p:=(g4,n4)) ⟨hfr.1,by rw [hOB]; exact fun e=>hfr.2 _ e rfl,⟨[],by rw [List.append_nil]; exact hka.heap hh4 (by simp),by rw [← hn5]; simp,by simp⟩,⟨by rw [← hn5]; exact Nat.le_refl _,by rw [hn5,List.length_map]; exact hkc⟩,hbl,hdg⟩ (fun p hp e=>by have:=uh HGL p hp; omega) (by
        have h8:=uh HO7
        rw [show stV (x,Ks.map (nodP (hsZ k) f)) (g4,n4) = (stR [(x,.slice (some ⟨g4,0,none⟩) n4 n4)]).flatten by rw [hn5]; rfl]
        exact h8) (uh HG7) (uh HA7)
      have hk07:=hk06.grown (uh HG7) (fun x hx=>Or.inr (by rw [hOB] at hx; exact (hown x hx).1))
      have HSN:=hide hsn
      have HK7:=hide hk07
      clear hsn hk07 hk27 hk7 hk6 hk06 hly hrl hrdd hh4 k4 hka hg7
      go_wp2
      refine ⟨⟨i + 1,.slice ao7 (SS.length + 1) c7,_,by go_num,rfl,hlt,hide (by rw [List.range_succ,List.map_append,List.map_cons,List.map_nil,uh HSS,uh HSt]; exact uh HSN),hide (fun j hj=>by
        rw [xa6g]
        have hgl:=(uh HSL).len
        rw [← uh HSS,List.length_map,List.length_range] at hgl
        by_cases hj2:j < i
        · rw [if_pos (by omega)]; exact uh HCP j hj2
        · rw [if_neg (by omega),if_pos (by omega),show j = i by omega,uh HSt]; exact hn5),HK7⟩,?_⟩
      simp [intOf]; omega
    · have hie:i = m:=by omega
      subst hie
      have hlt':¬ (i:Int) < i:=by omega
      have h3:=(uh HKr).cell (uh HW3) (by simp)
      have hsgs:=fun j hj=>(uh HTR j hj).2
      have hrs:=(uh HSL).base (show w.heap.size≤W2.heap.size from (uh HK2).size)
      rcases uh HEn with ⟨hm,rfl,_,_⟩ | ⟨hsg,g1,rfl,hb,_⟩
      · go_wp2_with fail
        go_ret3
        exact ⟨_,.slice none 0 0,rfl,⟨i,gz,wr.heap.size,[],⟨hrs,by rw [hm]; exact LayAt.nil _ _,hrs.lts,Nat.le_trans (uh HK2).size (uh HKr).size⟩,⟨hsgs,by rw [hm]; rfl⟩,uh HCP⟩,(uh HK2).trans (uh HKr) (by simp)⟩
      · have HRS:=hide hrs
        have HSG:=hide hsgs
        have HL:=hide (show (dnL (hsZ k) q L i).length≤1000000000 from Nat.le_trans (dn_len i) hlen)
        clear hrs hsgs
        go_wp2_with fail
        refine Calls.mono (xb7m S k g1 (dnL (hsZ k) q L i) [] _ [] wr wr (hb.agr (Agr.nil (uh HKr))) (Kept.refl _ _) (LayAt.nil _ _) (by have:=uh HL; simpa using this)) ?_
        rintro e w5 ⟨v5,l5,rfl,hl5,k5⟩
        have HL5:=hide hl5
        have HK5:=hide k5
        clear hl5 k5
        go_wp2_with fail
        go_ret3
        exact ⟨_,_,rfl,⟨i,gz,wr.heap.size,_,⟨(uh HRS).kept (uh HK5),uh HL5,(uh HRS).lts,Nat.le_trans (uh HK2).size (uh HKr).size⟩,⟨uh HSG,hsg⟩,uh HCP⟩,((uh HK2).trans (uh HKr) (by simp)).trans (uh HK5) (by simp)⟩
theorem xb4v (w:World):(zeroValue 58).run Tryz.prog w = .ok (.agg (zb 32)) w:=by
  kernel_rfl
theorem xa9m:(Builtin.zeroCells (Value.agg (zb 32)).cells 1).toList = (zb 32).toList:=by kernel_rfl
theorem zb_one (v:Value) (h:v∈(zb 32).toList):v.oneCell' = true:=by
  have e:v = .int .u8 0:=by simpa [zb,brow,u8] using h
  subst e; rfl
theorem xa6e {P:Program} (w:World) (t e ty:TypeId) (z:Value) (cs:List Value) (ht:P.underlying t = some (.slice e)) (hv:(zeroValue e).run P w = .ok z w) (hzc:(Builtin.zeroCells z.cells 1).toList = cs) (h1:∀ v∈cs,v.oneCell' = true) (b o c:Nat) (hc:∀ j,j < cs.length→(w.cell? ⟨b,o + j,none⟩).isSome = true) (hf:∀ j,j < cs.length→w.frozen? ⟨b,o + j,none⟩ = false) :
    (Builtin.clear_ #[t] ty #[.slice (some ⟨b,o,none⟩) 1 c]).run P w = .ok (.tuple #[]) (w.setCells b o cs):=by
  have hst:=run_storeCells_cells (P:=P) b o cs 0 w (by simpa using hc) (by simpa using hf) h1
  simp only [Nat.add_zero] at hst
  simp [Builtin.clear_,run_underlying ht,hv,hzc,hst]
theorem xa6z (w:World) (ty:TypeId) (g o c:Nat) (hc:∀ j,j < 32→(w.cell? ⟨g,o + j,none⟩).isSome = true) (hf:∀ j,j < 32→w.frozen? ⟨g,o + j,none⟩ = false) :
    (Builtin.clear_ #[50] ty #[.slice (some ⟨g,o,none⟩) 1 c]).run Tryz.prog w = .ok (.tuple #[]) (w.setCells g o (zb 32).toList):=by
  have hl:(zb 32).toList.length = 32:=by rfl
  exact xa6e w _ 58 ty _ _ Tryz.underlying50 (xb4v w) xa9m zb_one g o c (by rw [hl]; exact hc) (by rw [hl]; exact hf)
theorem xb3o {P:Program} {o:Oper} {a:Act} {w w1:World} {T:TypeId} (s x:Operand) (ho:o.op = .call { callee:=.builtin .append,args:=#[s,x],argTypes:=#[T,T] }) (hty:o.type = T) (v u r:Value) (hs:a.eval s = v) (hx:a.eval x = u) (hrun:(Builtin.append_ #[T,T] T #[v,u]).run P w = .ok r w1):(execOp a.eval o).run P w = .ok (.value r) w1:=by
  unfold execOp
  simp only [ho,hty,resolve,invoke,builtin,Sem.run_bind,Sem.run_pure,Result.andThen_ok,List.map_toArray,List.map_cons,List.map_nil,hs,hx,hrun]
theorem xa8c {ds:List (List Nat)} (j:Nat):flatD ds = flatD (ds.take j)++flatD (ds.drop j):=by rw [← xa3g,List.take_append_drop]
set_option maxHeartbeats 4000000 in
theorem xb6o (g n i j:Nat) (ds:List (List Nat)) (w:World) (hh:w.heap[g]? = some (.cells (flatD ds).toArray 58 (0,0))) (hn:ds.length = n) (hij:j = i + 1) (hj:j≤n) (hd:∀ d∈ds,d.length = 32) (hm:n≤1000000) :
    Calls Tryz.prog 101 #[.slice (some ⟨g,0,none⟩) n n,.int .i64 i,.int .i64 j] w fun e w'=>e = .returned (.slice (some ⟨g,0,none⟩) (i + (n - j)) n)∧w'.heap[g]? = some (.cells (flatD (ds.eraseIdx i)++(zb 32).toList).toArray 58 (0,0))∧Kept [g] w w':=by
  have hfl:∀ m,(flatD (ds.take m)).length = (min m n) * 32:=fun m=>by rw [xa1u (fun d h=>hd d (List.mem_of_mem_take h)),List.length_take,hn]
  have hfd:∀ m,(flatD (ds.drop m)).length = (n - m) * 32:=fun m=>by rw [xa1u (fun d h=>hd d (List.mem_of_mem_drop h)),List.length_drop,hn]
  obtain ⟨news,hnews⟩:∃ news,news = flatD (ds.drop j):=⟨_,rfl⟩
  have hlen:news.length = (n - j) * 32:=by rw [hnews,hfd]
  obtain ⟨A,hA,hsrc⟩:∃ A:Addr,(if n = j then (some ⟨g,0,none⟩:Option Addr) else some ⟨g,j * 32,none⟩) = some A∧Hid (∀ t u,news[t]? = some u→w.drew.cell? (A.add t) = some u):=by
    by_cases h:n = j
    · refine ⟨⟨g,0,none⟩,by simp [h],fun t u hu=>?_⟩
      have h0:news.length = 0:=by rw [hlen]; omega
      rw [List.length_eq_zero_iff.1 h0] at hu
      simp at hu
    · refine ⟨⟨g,j * 32,none⟩,by simp [h],fun t u hu=>?_⟩
      rw [Addr.add_lit]
      show w.cell? _ = _
      rw [cell_of_row _ _ _ _ _ _ hh,List.getElem?_toArray,xa8c j,List.getElem?_append_right (by rw [hfl,Nat.min_eq_left hj]; omega),hfl,Nat.min_eq_left hj,show j * 32 + t - j * 32 = t by omega,← hnews]
      exact hu
  have s1:Hid (news.length = (n - j) * 32):=hlen
  have s2:Hid (∀ u∈news,u.oneCell' = true):=by rw [hnews]; exact xa5r _
  have hsz:(flatD ds).length = n * 32:=by rw [xa1u hd,hn]
  have s3:Hid (∀ t,t < news.length→(w.drew.cell? ⟨g,0 + i * 32 + t,none⟩).isSome = true∧w.drew.frozen? ⟨g,0 + i * 32 + t,none⟩ = false):=by
    intro t ht
    rw [hlen] at ht
    refine ⟨?_,frozen_of_row (w.drew) g _ _ _ hh⟩
    show (w.cell? _).isSome = true
    rw [cell_of_row _ _ _ _ _ _ hh,List.getElem?_toArray,List.getElem?_eq_getElem (by rw [hsz]; omega)]; rfl
  obtain ⟨W1,hW1⟩:∃ W1,W1 = w.drew.setCells g (0 + i * 32) news:=⟨_,rfl⟩
  have hli:(flatD (ds.take i)).length = i * 32:=by rw [hfl,Nat.min_eq_left (by omega)]
  have hrest:=hfd i
  have hh1:W1.heap[g]? = some (.cells (flatD (ds.take i)++(news++(flatD (ds.drop i)).drop ((n - j) * 32))).toArray 58 (0,0)):=by
    rw [hW1,show 0 + i * 32 = (flatD (ds.take i)).length by rw [hli]; omega]
    refine xa7c g 58 news (flatD (ds.take i)) ((flatD (ds.drop i)).take ((n - j) * 32)) _ w.drew (by rw [List.length_take,hrest,hlen]; omega) ?_
    rw [List.take_append_drop,← xa8c i]; exact hh
  have hK1:Kept [g] w W1:=by rw [hW1]; exact xa5g g (Or.inl (by simp)) news _ _ ((Kept.refl [g] w).drew)
  have hpost:((flatD (ds.drop i)).drop ((n - j) * 32)).length = 32:=by rw [List.length_drop,hrest]; omega
  have hpre:(flatD (ds.take i)++news).length = (i + (n - j)) * 32:=by rw [List.length_append,hli,hlen]; omega
  have hh2:(W1.setCells g ((i + (n - j)) * 32) (zb 32).toList).heap[g]? = some (.cells (flatD (ds.eraseIdx i)++(zb 32).toList).toArray 58 (0,0)):=by
    have h9:=xa7c g 58 (zb 32).toList (flatD (ds.take i)++news) ((flatD (ds.drop i)).drop ((n - j) * 32)) [] W1 (by rw [hpost]; rfl) (by rw [List.append_nil,List.append_assoc]; exact hh1)
    rw [hpre,List.append_nil,hnews,← xa3g] at h9
    rw [List.eraseIdx_eq_take_drop_succ,← hij]
    exact h9
  have hK2:Kept [g] w (W1.setCells g ((i + (n - j)) * 32) (zb 32).toList):=xa5g g (Or.inl (by simp)) _ _ _ hK1
  have hcl:∀ ty c,(Builtin.clear_ #[50] ty #[.slice (some ⟨g,(i + (n - j)) * 32,none⟩) 1 c]).run Tryz.prog W1 = .ok (.tuple #[]) (W1.setCells g ((i + (n - j)) * 32) (zb 32).toList):=fun ty c=>xa6z W1 ty g _ c (fun t ht=>by
    rw [cell_of_row _ _ _ _ _ _ hh1,List.getElem?_toArray,List.getElem?_eq_getElem (by rw [← List.append_assoc,List.length_append,hpre,hpost]; omega)]; rfl) (fun t ht=>frozen_of_row W1 g _ _ _ hh1)
  obtain ⟨i0,hi0,hz0,hz1,hz2⟩:=info_parts Tryz.infoD
  have hrun:=run_append_room_cells (P:=Tryz.prog) w.drew 50 50 58 i0 Tryz.underlying50 hi0 g 0 i n A (n - j) (n - j) news (by rw [hz1]; exact s1.out) hsrc.out s2.out (by omega) (fun t ht=>by rw [hz1]; exact (s3.out t ht).1) (fun t ht=>by rw [hz1]; exact (s3.out t ht).2)
  rw [hz1,← hW1] at hrun
  have HRUN:=hide hrun
  have HK1:=hide hK1
  have HH2:=hide hh2
  have HK2:=hide hK2
  have hic:i≤n:=by omega
  have hbq:((i:Int) == (j:Int)) = false:=by rw [beq_eq_false_iff_ne]; omega
  have hltj:i < j:=by omega
  have hle:i≤j:=by omega
  have HONE:=hide (show n - (i + (n - j)) = 1 by omega)
  have HLT:=hide (show i + (n - j) < n by omega)
  clear hrun hi0 s1 s2 s3 hsrc hW1 hh1 hK1 hh hnews hlen hpre hpost hrest hli hfl hfd hsz hh2 hK2 hd hz0 hz1 hz2
  have HIJ:=hide hij
  have HA:=hide hA
  have HM:=hide hm
  clear hij hA hm hn
  go_enter Tryz.func101,Tryz.ntmps101
  go_upto_region 5 with fail
  refine lp_de (by kernel_rfl) (by kernel_rfl) rfl (fun W=>Kept [g] w W) (Kept.refl _ w).drew ?_
  refine LinY.rd (.slice (some ⟨g,0,none⟩) n n) (fun W hW=>by go_simp) (by simp only [Act.put,sa1,sa2,sa3]; rfl) ?_
  refine LinY.rd (.int .i64 i) (fun W hW=>by go_simp) (by simp only [Act.put,sa1,sa2,sa3]; rfl) ?_
  refine LinY.rd (.slice (some ⟨g,0,none⟩) i n) (fun W hW=>by go_simp) (by simp only [Act.put,sa1,sa2,sa3]; rfl) ?_
  refine LinY.rd (.slice (some ⟨g,0,none⟩) n n) (fun W hW=>by go_simp) (by simp only [Act.put,sa1,sa2,sa3]; rfl) ?_
  refine LinY.rd (.int .i64 j) (fun W hW=>by go_simp) (by simp only [Act.put,sa1,sa2,sa3]; rfl) ?_
  refine LinY.rd (.slice (some A) (n - j) (n - j)) (fun W hW=>by have h9:=uh HA; go_simp) (by simp only [Act.put,sa1,sa2,sa3]; rfl) ?_
  refine LinY.fin (ChL.op (.slice (some ⟨g,0,none⟩) (i + (n - j)) n) (xb3o (.tmp 22) (.tmp 25) rfl rfl _ _ _ rfl rfl (uh HRUN)) (uh HK1) (by simp only [Act.put,sa1,sa2,sa3]; rfl) ?_)
  refine ChL.op (.slice (some ⟨g,0,none⟩) (i + (n - j)) n) (by go_simp) (uh HK1) (by simp only [Act.put,sa1,sa2,sa3]; rfl) (ChL.fin ?_)
  have hone:=uh HONE
  have hlt1:=uh HLT
  go_wp2
  go_ret
  exact ⟨rfl,uh HH2,uh HK2⟩
set_option maxHeartbeats 4000000 in
theorem xa7o (x c g n:Nat) (ds:List (List Nat)) (w:World) (hx:x < 65536) (hc:c < 16) (hh:w.heap[g]? = some (.cells (flatD ds).toArray 58 (0,0))) (hn:ds.length = n) (hd:∀ d∈ds,d.length = 32) (hm:n≤16) (hat:x.testBit c = true→cnt x c < n) :
    Calls Tryz.prog 66 #[.agg #[.int .u16 (x:Nat),.slice (some ⟨g,0,none⟩) n n],.int .i64 c] w fun e w'=>∃ zs:List Value,e = .returned (.slice (some ⟨g,0,none⟩) (wod (x,ds) c).2.length n)∧w'.heap[g]? = some (.cells (flatD (wod (x,ds) c).2++zs).toArray 58 (0,0))∧zs.length = (n - (wod (x,ds) c).2.length) * 32∧(∀ u∈zs,u.oneCell' = true)∧Kept [g] w w':=by
  have HG0:=hide (heap_alloc_new w (.cells #[.int .u16 (x:Nat),.slice (some ⟨g,0,none⟩) n n] 52))
  have HK0:=hide ((Kept.refl [] w).alloc (.cells #[.int .u16 (x:Nat),.slice (some ⟨g,0,none⟩) n n] 52))
  have HH0:=hide ((uh HK0).heap hh (by simp))
  obtain ⟨W,hW⟩:∃ W,w.alloc (.cells #[.int .u16 (x:Nat),.slice (some ⟨g,0,none⟩) n n] 52) = W:=⟨_,rfl⟩
  rw [hW] at HG0 HK0 HH0
  have c0:W.cell? ⟨w.heap.size,0,none⟩ = some (.int .u16 (x:Nat)):=cell_of_row _ _ 0 _ _ _ (uh HG0)
  have HD:=hide hd
  have hhas:=xb0z x c (by omega)
  have hrk:rankB x (c:Int) = cnt x c:=by
    unfold rankB
    rw [if_neg (by omega),if_pos (by omega),Int.toNat_natCast]
  have hwo:(wod (x,ds) c).2 = if x.testBit c = true then ds.eraseIdx (cnt x c) else ds:=rfl
  clear hd hh
  go_enter Tryz.func66,Tryz.ntmps66
  go_upto_region 1 with fail
  try rw [hW]
  clear hW
  go_wp2_with fail
  refine Calls.mono (xa6k x c W hx (by omega)) ?_
  rintro e w1 ⟨rfl,k1⟩
  have HK1:=hide k1
  have HG1:=hide (k1.heap (uh HG0) (by simp))
  have HH1:=hide (k1.heap (uh HH0) (by simp))
  have d0:w1.cell? ⟨w.heap.size,0,none⟩ = some (.int .u16 (x:Nat)):=cell_of_row _ _ 0 _ _ _ (uh HG1)
  have d1:w1.cell? ⟨w.heap.size,1,none⟩ = some (.slice (some ⟨g,0,none⟩) n n):=cell_of_row _ _ 1 _ _ _ (uh HG1)
  rw [hhas]
  clear k1 c0 hhas
  by_cases hb:x.testBit c = true
  · rw [if_pos hb] at hwo
    have hci:=hat hb
    rw [hb]
    have HWO:=hide hwo
    clear hb hat hwo
    go_wp2_with fail
    refine Calls.mono (xa3s x c w1 hx (by omega)) ?_
    rintro e w2 ⟨rfl,k2⟩
    rw [hrk]
    have HK2:=hide ((uh HK1).trans k2 (by simp))
    have HG2:=hide (k2.heap (uh HG1) (by simp))
    have HH2:=hide (k2.heap (uh HH1) (by simp))
    have e1:w2.cell? ⟨w.heap.size,1,none⟩ = some (.slice (some ⟨g,0,none⟩) n n):=cell_of_row _ _ 1 _ _ _ (uh HG2)
    clear k2 d0 d1 hrk
    generalize cnt x c = C at hci HWO ⊢
    obtain ⟨J,hJ⟩:∃ J,J = C + 1:=⟨_,rfl⟩
    have hJi:(C:Int) + 1 = (J:Int):=by omega
    have hDL:=xb6o g n C J ds w2 (uh HH2) hn hJ (by omega) (uh HD) (by omega)
    have HDL:=hide hDL
    have HL:=hide (show (ds.eraseIdx C).length = C + (n - J) by rw [List.length_eraseIdx_of_lt (by omega)]; omega)
    have HL2:=hide (show 32 = (n - (C + (n - J))) * 32 by omega)
    clear hDL hJ
    go_upto_region 4 with fail
    go_wp2_with fail
    refine Calls.mono (uh HDL) ?_
    rintro e w3 ⟨rfl,hh3,k3⟩
    have HH3:=hide hh3
    have HK3:=hide ((((uh HK0).trans (uh HK2) (by simp)).mono (M:=[g]) (by simp)).trans k3 (fun x hx=>Or.inl hx))
    clear hh3 k3 e1
    go_wp2_with fail
    go_ret
    refine ⟨(zb 32).toList,?_,?_,?_,zb_one,uh HK3⟩
    · rw [uh HWO,uh HL]; rfl
    · rw [uh HWO]; exact uh HH3
    · rw [uh HWO,uh HL]; exact uh HL2
  · rw [if_neg hb] at hwo
    have hb2:x.testBit c = false:=by simpa using hb
    rw [hb2]
    have HWO:=hide hwo
    clear hb hat hwo hb2
    go_wp2_with fail
    go_ret
    refine ⟨[],?_,?_,?_,by simp,(((uh HK0).trans (uh HK1) (by simp)).mono (M:=[g]) (by simp))⟩
    · rw [uh HWO,hn]; rfl
    · rw [uh HWO,List.append_nil]; exact uh HH1
    · rw [uh HWO,hn]; simp

theorem xb6q {a1 b1:Option Addr} {a2 a3 b2 b3:Nat}:Tryz.prog.built 64 [(0,.slice a1 a2 a3),(1,.slice b1 b2 b3)] = some #[.slice a1 a2 a3,.slice b1 b2 b3]:=by kernel_rfl
theorem Tryz.size_kp:(Tryz.prog.info? 64).map (·.size) = some 2:=by kernel_rfl
theorem Tryz.size_stpP:(Tryz.prog.info? 52).map (·.size) = some 2:=by kernel_rfl
theorem xb2t {S:Nat→Prop} {k:Nat} {W:World} {v:Value} {L:Prs} (h:MapAt S k W v L):∃ g,v = .pointer (some ⟨g,0,none⟩):=by
  obtain ⟨g,tv,e,_⟩:=h.at_
  exact ⟨g,e⟩
def mixL (k:Nat) (q:List Nat) (L:Prs) (m i:Nat):List Stp:=(List.range m).map (fun j=>if j < i then prf k q L j else stp k q L j)
theorem xa5d (k:Nat) (q:List Nat) (L:Prs) (m i:Nat):(mixL k q L m i).length = m:=by simp [mixL]
theorem xb3f (k:Nat) (q:List Nat) (L:Prs) (m:Nat):mixL k q L m 0 = (List.range m).map (stp k q L):=by
  unfold mixL
  exact List.map_congr_left (fun j _=>by rw [if_neg (by omega)])
theorem xb5z (k:Nat) (q:List Nat) (L:Prs) (m:Nat):mixL k q L m m = prfL k q L m:=by
  unfold mixL prfL
  exact List.map_congr_left (fun j hj=>by rw [if_pos (by simpa using hj)])
theorem xb1t {k:Nat} {q:List Nat} {L:Prs} {m i:Nat} (hi:i < m):(mixL k q L m i).getD i (0,[]) = stp k q L i:=by
  unfold mixL
  rw [List.getD_eq_getElem?_getD,List.getElem?_map,List.getElem?_range hi]
  simp
theorem xb4b {k:Nat} {q:List Nat} {L:Prs} {m i:Nat} (hi:i < m):(mixL k q L m i).set i (prf k q L i) = mixL k q L m (i + 1):=by
  apply List.ext_getElem
  · simp [mixL]
  · intro j h1 h2
    simp only [mixL,List.length_map,List.length_range] at h2
    simp only [mixL,List.getElem_set,List.getElem_map,List.getElem_range]
    by_cases e:i = j
    · subst e; simp
    · rw [if_neg e]
      by_cases g:j < i
      · rw [if_pos g,if_pos (by omega)]
      · rw [if_neg g,if_neg (by omega)]
def ProofN (k B:Nat) (w:World) (q:List Nat) (L:Prs) (sv pv:Value):Prop:=∃ m gs C l,SLP B w sv pv gs (prfL k q L m) (dnL (hsZ k) q L m) C l∧WayM k q L m
def ProofP (k:Nat) (w:World) (q:List Nat) (L:Prs) (sv pv:Value):Prop:=∃ m,RdS w sv (prfL k q L m)∧RdK w pv (dnL (hsZ k) q L m)∧WayM k q L m
theorem ProofN.p {k B:Nat} {w:World} {q:List Nat} {L:Prs} {sv pv:Value} (h:ProofN k B w q L sv pv):ProofP k w q L sv pv:=by
  obtain ⟨m,gs,C,l,h1,h2⟩:=h
  exact ⟨m,h1.st.rdS,h1.ly.rdK,h2⟩
theorem xb3p {k:Nat} (hk:1≤k∧k≤32) {q:List Nat} {L:Prs} {m i:Nat} (h:WayM k q L m):(stp k q L i).1.testBit (dgt ((hsZ k).kd q) i) = true→cnt (stp k q L i).1 (dgt ((hsZ k).kd q) i) < (stp k q L i).2.length:=fun hb=>(p_kid (hsZ_ok hk) (f:=63 - i) hb).1
set_option maxHeartbeats 8000000 in
theorem xb4i (S:Nat→Prop) (k:Nat) (mv kv:Value) (L:Prs) (q:List Nat) (w:World) (hM:MapAt S k w mv L) (hku:Rd w kv q) (hq:q.length≤64) (hT:Tabs w) :
    Calls Tryz.prog 29 #[mv,kv] w fun e w'=>∃ sv pv,e = .returned (.tuple #[.agg #[sv,pv],.int .i64 0])∧ProofN k w.heap.size w' q L sv pv∧Kept [] w w':=by
  have HM:=hide hM
  have hk:=hM.ok
  have HKU:=hide hku
  have HTb:=hide hT
  have hH:=hsZ_ok hk
  obtain ⟨mg,rfl⟩:=(xb2t hM)
  obtain ⟨ka,kn,kc,rfl,hkn,_⟩:=id hku
  have hkn2:¬ (kn:Int) > 64:=by omega
  have hkn3:¬ (64:Int) < kn:=by omega
  have HQ:=hide hq
  have HG0:=hide (heap_alloc_new w (.cells #[.slice none 0 0,.slice none 0 0] 64))
  have HK0:=hide ((Kept.refl [] w).alloc (.cells #[.slice none 0 0,.slice none 0 0] 64))
  obtain ⟨W,hW⟩:∃ W,w.alloc (.cells #[.slice none 0 0,.slice none 0 0] 64) = W:=⟨_,rfl⟩
  rw [hW] at HG0 HK0
  have hDg:Dg ((hsZ k).kd q):=hH.dg q
  have HWN:=hide (xb4k S k _ _ L q W ((uh HM).agr (Agr.nil (uh HK0))) ((uh HKU).old (uh HK0) (by simp)) hq ((uh HTb).k (uh HK0)))
  clear hM hku hT hq hkn
  go_enter Tryz.func29,Tryz.ntmps29
  go_upto_region 1 with fail
  try rw [hW]
  clear hW
  go_wp2_with fail
  refine Calls.mono (uh HWN) ?_
  clear HWN
  rintro e w1 ⟨sv,pv,rfl,⟨m,gs,C,l,hsn,hway,hcap⟩,k1⟩
  have HK1:=hide ((uh HK0).trans k1 (by simp))
  have HG1:=hide (k1.heap (uh HG0) (by simp))
  have HS1:=hide hsn
  have HWY:=hide hway
  have HCAP:=hide hcap
  have hm2:=hway.le hk
  obtain ⟨so,sc,rfl⟩:=xa0x hsn.st.own
  obtain ⟨po,pc,rfl⟩:=xa0x hsn.ly.own
  have hml:((List.range m).map (stp k q L)).length = m:=by simp
  rw [hml]
  obtain ⟨pn,hpn⟩:∃ pn,l.length = pn:=⟨_,rfl⟩
  rw [hpn]
  rw [hpn,hml] at HS1
  have HBW:=hide (show w.heap.size < W.heap.size from lt_of_block (uh HG0))
  clear k1 hsn hway hcap hpn
  go_wp2_with fail
  refine Calls.mono (xb7a S k _ L w1 ((uh HM).agr (Agr.nil (uh HK1)))) ?_
  rintro e w2 ⟨rfl,k2⟩
  have HK2:=hide ((uh HK1).trans k2 (by simp))
  have HG2:=hide (k2.heap (uh HG1) (by simp))
  have HS2:=hide ((uh HS1).kept k2)
  clear k2
  go_wp2_with fail
  refine Calls.mono (xa6d (k:Int) _ q w2 (by omega) ((uh HKU).old (uh HK2) (by simp)) (by have:=uh HQ; omega) ((uh HTb).k (uh HK2))) ?_
  rintro e w3 ⟨rfl,k3⟩
  have hDe:sumD (k:Int) (2 :: q) = (hsZ k).kd q:=rfl
  have hse:sumE (k:Int) = 0:=by unfold sumE; rw [wide_k hk]; rfl
  rw [hDe,hse]
  obtain ⟨D,hD⟩:∃ D,(hsZ k).kd q = D:=⟨_,rfl⟩
  rw [hD] at hDg ⊢
  have hDl:=hDg.1
  have HAT:=hide (show ∀ i,i < m→atC (k:Int) D (i:Int) = dgt D i from fun i hi=>by rw [← hD]; exact p_dgt hk q (by omega))
  have HPF:=hide (show ∀ i,prf k q L i = wod (stp k q L i) (dgt D i) from fun i=>by rw [← hD]; rfl)
  have HCT:=hide (show ∀ i,(stp k q L i).1.testBit (dgt D i) = true→cnt (stp k q L i).1 (dgt D i) < (stp k q L i).2.length from fun i=>by rw [← hD]; exact xb3p hk (uh HWY))
  have HK3:=hide ((uh HK2).trans k3 (by simp))
  have HG3:=hide (k3.heap (uh HG2) (by simp))
  have HS3:=hide ((uh HS2).kept k3)
  have HZ1:=hide (heap_alloc_new w3 (.cells (zb 32) 58))
  have HX0:=hide (setRow_heap _ _ _ (brow D) _ _ (uh HZ1))
  have HK34:=hide ((Kept.refl [] w3).alloc (.cells (zb 32) 58) |>.setRow (g:=w3.heap.size) (Or.inr (Nat.le_refl _)) (brow D))
  obtain ⟨W0,hW0⟩:∃ W0,(w3.alloc (.cells (zb 32) 58)).setRow w3.heap.size (brow D) = W0:=⟨_,rfl⟩
  rw [hW0] at HX0 HK34
  have HK4:=hide ((uh HK3).trans (uh HK34) (by simp))
  have HG4:=hide ((uh HK34).heap (uh HG3) (by simp))
  have HS4:=hide ((uh HS3).kept (uh HK34))
  have HSD:=hide (by rw [xa0a,hDl]; exact Tryz.size_dig:(Tryz.prog.info? 58).map (·.size) = some (brow D).size)
  have HLT:=hide (uh HS3).st.lts
  have HGL:=hide (show gs.length = m by have h1:=(uh HS3).st.len; rw [hml] at h1; exact h1)
  have HS5:Hid (SLP W.heap.size W0 (.slice so m sc) (.slice po pn pc) gs (mixL k q L m 0) (dnL (hsZ k) q L m) C l):=hide (by rw [xb3f]; exact uh HS4)
  obtain ⟨E,hE⟩:∃ E,dnL (hsZ k) q L m = E:=⟨_,rfl⟩
  rw [hE] at HS5
  have HE:=hide hE
  clear hE
  clear k3 hD hDe hse HG1 HG2 HG3 HS1 HS2 HS3 HS4 HK34 HK1 HK2 HK3 HG0 HM HKU
  go_wp2_with (rw [zb32]; refine wpList_store_row rfl 58 (.tmp 10) (.tmp 37) rfl w3.heap.size (brow D) rfl rfl _ (zb 32) (uh HZ1) (uh HSD) (by rw [xa0d,xa0a,hDl]) (xa0c _) ?_; rw [hW0]; simp only [Act.put])
  clear hW0 HZ1
  go_loopw [41] (fun t41 wr=>∃ (i:Nat),t41 = .int .i64 i∧i≤m∧Hid (SLP W.heap.size wr (.slice so m sc) (.slice po pn pc) gs (mixL k q L m i) E C l)∧Hid (wr.heap[w3.heap.size]? = some (.cells (brow D) 58 (0,0)))∧Hid (wr.heap[w.heap.size]? = some (.cells #[.slice none 0 0,.slice none 0 0] 64 (0,0)))∧Hid (Kept [] w wr)) (fun t _=>m - (intOf t).toNat)
  case atStart=>exact ⟨0,rfl,Nat.zero_le _,HS5,HX0,HG4,HK4⟩
  case round =>
    clear HS5 HX0 HG4 HK4
    obtain ⟨i,rfl,hi,HSr,HXr,HGr,HKr⟩:=hrel
    by_cases hlt:i < m
    · have hlt':(i:Int) < m:=by omega
      have hil:i < (mixL k q L m i).length:=by rw [xa5d]; exact hlt
      obtain ⟨g,c,hv,hBg,hrg,cur,hcur⟩:=(uh HSr).st.at_ hil
      have hkid:=(uh HSr).st.kid i hil
      have hmn:(mixL k q L m i).length = m:=xa5d _ _ _ _ _
      rw [hmn] at hv
      have hso:so = some ⟨g,0,none⟩:=by injection hv
      have hsc:sc = c:=by injection hv
      subst hso
      subst hsc
      clear hv
      rw [xb1t hlt] at hrg hkid
      have hgC:=(uh HSr).lo.2 g rfl
      have hg3:=(uh HLT).2 g rfl
      have hmem:gs.getD i (0,0)∈gs:=by
        have:=uh HGL
        rw [List.getD_eq_getElem?_getD,List.getElem?_eq_getElem (by omega)]; exact List.getElem_mem _
      have hpC:=(uh HSr).lo.1 _ hmem
      have hp3:=(uh HLT).1 _ hmem
      have hcap:=uh HCAP i hlt
      have hPF:=uh HPF i
      have hct:=uh HCT i
      have hat:=uh HAT i hlt
      obtain ⟨ST,hST⟩:∃ ST,stp k q L i = ST:=⟨_,rfl⟩
      rw [hST] at hrg hkid hcap hPF hct
      have HST:=hide hST
      obtain ⟨P,hP⟩:∃ P,gs.getD i (0,0) = P:=⟨_,rfl⟩
      rw [hP] at hrg hkid hcap hpC hp3
      have HP:=hide hP
      obtain ⟨x,ds⟩:=ST
      obtain ⟨p1,p2⟩:=P
      obtain ⟨hnw,hne,⟨zs,hrow,hzs,hz1⟩,hcp,hbm,hdg⟩:=hkid
      simp only at hrg hcap hPF hct hpC hp3 hnw hne hrow hzs hcp hbm hdg
      subst hcap
      have hzn:zs = []:=List.eq_nil_of_length_eq_zero (by rw [hzs,Nat.sub_self])
      subst hzn
      rw [List.append_nil] at hrow
      have hgp:p1≠g:=fun e=>hne (by rw [e]; rfl)
      obtain ⟨n,hn⟩:∃ n,ds.length = n:=⟨_,rfl⟩
      have hstv:stV (x,ds) (p1,ds.length) = [.int .u16 (x:Int),.slice (some ⟨p1,0,none⟩) n n]:=by unfold stV; rw [hn]
      rw [hn] at hct hcp
      rw [hstv] at hrg
      have HRG:=hide hrg
      have HCUR:=hide hcur
      obtain ⟨dg,hdgt⟩:∃ dg,dgt D i = dg:=⟨_,rfl⟩
      rw [hdgt] at hPF hct hat
      have hdl16:dg < 16:=by rw [← hdgt]; exact dgt_lt hDg.2 i
      have hA:=heap_alloc_new wr (.cells #[.int .u16 (x:Int),.slice (some ⟨p1,0,none⟩) n n] 52)
      have hkA:=(Kept.refl [] wr).alloc (.cells #[.int .u16 (x:Int),.slice (some ⟨p1,0,none⟩) n n] 52)
      have HA:=hide hA
      have HKA:=hide hkA
      have HXA:=hide (hkA.heap (uh HXr) (by simp))
      have HIR:=hide (show p1 < wr.heap.size∧g < wr.heap.size from ⟨lt_of_block hrow,block_lt_of_cell (hrg 0 _ rfl)⟩)
      have HRW:=hide hrow
      obtain ⟨wa,hwa⟩:∃ wa,wr.alloc (.cells #[.int .u16 (x:Int),.slice (some ⟨p1,0,none⟩) n n] 52) = wa:=⟨_,rfl⟩
      rw [hwa] at HA HKA HXA
      clear hA hkA hrg hcur hdgt hST hP hmem hstv hil hmn hrow
      go_upto_region 11 with (refine wpList_load_mid rfl 52 (.tmp 44) rfl g (i * 2) rfl [.int .u16 (x:Int),.slice (some ⟨p1,0,none⟩) n n] _ (uh HRG) Tryz.underlying52 rfl Tryz.size_stpP ?_)
      try simp only [Act.put]
      try rw [hwa]
      clear hwa
      go_wp2_with (refine wpList_load_row rfl 58 (.tmp 10) rfl w3.heap.size rfl 58 (brow D) (0,0) _ (uh HXA) Tryz.underlying58 rfl (uh HSD) ?_)
      refine Calls.mono (at_any (k:Int) D (i:Int) wa (by omega) (by omega) hDg) ?_
      rintro e wb ⟨rfl,kb⟩
      rw [hat]
      have HB:=hide (kb.heap (uh HA) (by simp))
      have HKrb:=hide ((uh HKA).trans kb (by simp))
      have HWC:=hide (xa7o x dg p1 n ds wb hbm hdl16 ((uh HKrb).heap (uh HRW) (by simp)) hn (fun d hd=>(hdg d hd).1) hcp.2 hct)
      clear kb hat hct
      go_wp2_with (refine wpList_load_row rfl 52 (.tmp 13) rfl wr.heap.size rfl 52 #[.int .u16 (x:Int),.slice (some ⟨p1,0,none⟩) n n] (0,0) _ (uh HB) Tryz.underlying52 rfl Tryz.size_stpP ?_)
      refine Calls.mono (uh HWC) ?_
      clear HWC
      rintro e wc ⟨zs,rfl,hhc,hzl,hzo,kc⟩
      have hq1:wb.cell? ⟨g,i * 2 + 1,none⟩ = some (.slice (some ⟨p1,0,none⟩) n n):=(uh HKrb).cell (uh HRG 1 _ rfl) (by simp)
      have hq2:wc.cell? ⟨g,i * 2 + 1,none⟩ = some (.slice (some ⟨p1,0,none⟩) n n):=kc.cell hq1 (by simp; exact fun e=>hgp e.symm)
      have hq3:wc.frozen? ⟨g,i * 2 + 1,none⟩ = false:=frozen_of_row _ _ _ _ _ (kc.heap ((uh HKrb).heap (uh HCUR) (by simp)) (by simp; exact fun e=>hgp e.symm))
      obtain ⟨d2,hd2⟩:∃ d2,(wod (x,ds) dg).2 = d2:=⟨_,rfl⟩
      rw [hd2] at hhc hzl ⊢
      have hl2:d2.length≤n:=by
        rw [← hd2,← hn]
        show (if _ then _ else _:List (List Nat)).length≤_
        split
        · exact List.length_eraseIdx_le _ _
        · exact Nat.le_refl _
      have hdd2:∀ d∈d2,Dg d:=fun d hd=>by
        rw [← hd2] at hd
        have hd3:d∈(if x.testBit dg = true then ds.eraseIdx (cnt x dg) else ds):=hd
        split at hd3
        · exact hdg d (List.mem_of_mem_eraseIdx hd3)
        · exact hdg d hd3
      have hPD:=uh HP
      rw [hn] at hPD
      have hprf:prf k q L i = (x,d2):=by rw [hPF,← hd2]; rfl
      have hsb:=(uh HSr).kept (uh HKrb)
      have hkc:KidB W.heap.size wc (.slice (some ⟨g,0,none⟩) m sc) (((mixL k q L m i).getD i (0,[])).1,d2) (gs.getD i (0,0)):=by
        rw [xb1t hlt,uh HST,hPD]
        exact ⟨hnw,hne,⟨zs,hhc,hzl,hzo⟩,⟨hl2,hcp.2⟩,hbm,hdd2⟩
      have hpt:=hsb.st.put (i:=i) (by rw [xa5d]; exact hlt) (g:=g) (c:=sc) (by rw [xa5d]) (by rw [hPD]; exact kc) hkc
      rw [xb1t hlt,uh HST,hPD] at hpt
      simp only at hpt
      rw [← hprf,xb4b hlt] at hpt
      have hKg:=(Kept.refl [g] wc).setCell (p:=⟨g,i * 2 + 1,none⟩) (Or.inl (by simp)) (.slice (some ⟨p1,0,none⟩) d2.length n)
      have hly:=(hsb.ly.far kc (fun y hy=>by rw [List.mem_singleton.1 hy]; exact hpC)).far hKg (fun y hy=>by rw [List.mem_singleton.1 hy]; exact hgC)
      have HSd:=hide (show SLP W.heap.size _ _ _ _ _ _ _ _ from ⟨hpt,hly,hsb.lo,hsb.bc⟩)
      have hxb:=(uh HKrb).heap (uh HXr) (by simp)
      have hgb:=(uh HKrb).heap (uh HGr) (by simp)
      have hbw:=uh HBW
      have HXd:=hide (hKg.heap (kc.heap hxb (by simp; omega)) (by simp; omega))
      have HGd:=hide (hKg.heap (kc.heap hgb (by simp; omega)) (by simp; omega))
      have HKd:=hide ((((uh HKr).trans (uh HKrb) (by simp)).trans kc (fun y hy=>Or.inr (by rw [List.mem_singleton.1 hy]; omega))).setCell (p:=⟨g,i * 2 + 1,none⟩) (Or.inr (show w.heap.size≤g by omega)) (.slice (some ⟨p1,0,none⟩) d2.length n))
      clear hq1 hhc hzl hzo kc hd2 hl2 hdd2 hPD hprf hsb hkc hpt hKg hly hxb hgb hbw hPF hdg hn
      go_wp2_with fail
      refine ⟨⟨i + 1,by go_num,hlt,HSd,HXd,HGd,HKd⟩,?_⟩
      simp [intOf]; omega
    · have hie:i = m:=by omega
      subst hie
      have hlt':¬ (i:Int) < i:=by omega
      have HWP:=hide (setRow_heap _ _ _ #[.slice so i sc,.slice po pn pc] _ _ (uh HGr))
      have hKz:=(Kept.refl [w.heap.size] wr).setRow (g:=w.heap.size) (Or.inl (by simp)) #[.slice so i sc,.slice po pn pc]
      have HSz:=hide ((uh HSr).far hKz (fun y hy=>by rw [List.mem_singleton.1 hy]; exact uh HBW))
      have HKz:=hide ((uh HKr).setRow (g:=w.heap.size) (Or.inr (Nat.le_refl _)) #[.slice so i sc,.slice po pn pc])
      clear hKz
      go_wp2_with (first
        | (refine xa0q rfl 64 _ rfl #[.slice so i sc,.slice po pn pc] (by simp only [List.map_toArray,List.map_cons,List.map_nil]; exact xb6q) ?_)
        | (refine wpList_store_row rfl 64 (.tmp 4) (.tmp 63) rfl w.heap.size #[.slice so i sc,.slice po pn pc] rfl rfl _ #[.slice none 0 0,.slice none 0 0] (uh HGr) Tryz.size_kp rfl (p_two1 rfl rfl) ?_))
      refine bodyPost_ret (v:=.tuple #[.agg #[.slice so i sc,.slice po pn pc],.int .i64 0]) ?_ rfl ?_
      · exact xa0g rfl _ _ w.heap.size _ #[.slice so i sc,.slice po pn pc] (0,0) _ rfl (uh HWP) Tryz.underlying64 rfl Tryz.size_kp (.int .i64 0) rfl
      · have h9:=uh HSz
        rw [xb5z,← uh HE] at h9
        exact ⟨_,_,rfl,⟨i,gs,C,l,h9.base (uh HK0).size,uh HWY⟩,uh HKz⟩
theorem ProofP.form {k:Nat} {w:World} {q:List Nat} {L:Prs} {sv pv:Value} (h:ProofP k w q L sv pv):∃ s1 s2 s3 p1 p2 p3,sv = .slice s1 s2 s3∧pv = .slice p1 p2 p3:=by
  obtain ⟨m,⟨s1,s2,s3,_,e2,_⟩,⟨p1,p2,p3,_,_,e,_⟩,_⟩:=h
  exact ⟨s1,s2,s3,p1,p2,p3,e2,e⟩

theorem xb4m {k:Nat} (hk:1≤k∧k≤32) (L:Prs):Dg (rootP k L):=by
  unfold rootP
  split
  · rw [← xa5f hk]; exact xa1v _ _
  · exact nod_dg k 64 L
structure ProofH (k:Nat) (w:World) (q:List Nat) (L:Prs) (sv pv:Value) (ss:List Stp) (ps:Prs):Prop where
  s:RdS w sv ss
  p:RdK w pv ps
  pb:(pairB ps).length≤1000000000000
  sl:ss.length≤100000
  pl:ps.length≤1000000000000
  kl:∀ s∈ss,s.2.length≤1000000000
  e:rtE (k:Int) q ss ps = 0
  d:rtD (k:Int) q ss ps = rootP k L
  v:rtV (k:Int) q ss ps = getP q L
  ce:ckE (k:Int) (rootP k L) q ss ps = 0
  cv:ckV (k:Int) (rootP k L) q ss ps = getP q L
theorem ProofP.h {k:Nat} (hk:1≤k∧k≤32) {w:World} {q:List Nat} {L:Prs} {sv pv:Value} (h:ProofP k w q L sv pv) (hq:q.length≤64) (hs:Srt (hsZ k) L) (hf:Fit L) (hl:L.length≤100000000):∃ ss ps,ProofH k w q L sv pv ss ps:=by
  obtain ⟨m,h1,h2,h3⟩:=h
  have hm:=h3.le hk
  have hdl:=dn_len (H:=hsZ k) (q:=q) (L:=L) m
  have hfd:Fit (dnL (hsZ k) q L m):=hf.sub (fun x hx=>dn_sub m x hx)
  have hpb:=xa3l hfd
  exact ⟨_,_,h1,h2,by omega,by rw [xa5t]; omega,by omega,fun s hs=>by
    obtain ⟨i,_,rfl⟩:=List.mem_map.1 hs
    exact Nat.le_trans (xb8m _ _ _ _) (by decide),p_rtE hk hq h3 hs hf,p_rtD hk hq h3 hs hf,p_rtV hk hq h3 hs hf,p_ckE hk hq h3 hs hf,p_ckV hk hq h3 hs hf⟩
theorem ProofH.old {k:Nat} {w w':World} {q:List Nat} {L:Prs} {sv pv:Value} {ss:List Stp} {ps:Prs} (h:ProofH k w q L sv pv ss ps) (kk:Kept [] w w'):ProofH k w' q L sv pv ss ps:={ h with s:=h.s.old kk,p:=h.p.old kk }

end
def insAll (H:Hs) (L:Prs) (ps:Prs):Prs:=ps.foldl (fun M p=>insP H p.1 p.2 M) L
theorem xa9x (H:Hs) (L ps:Prs) (p:List Nat × List Nat):insAll H L (ps++[p]) = insP H p.1 p.2 (insAll H L ps):=by
  unfold insAll; rw [List.foldl_append]; rfl
def lv (q:List Nat):Prs→Option (List Nat)
  | []=>none
  | p :: ps=>(lv q ps).or (if p.1 = q then some p.2 else none)
section
open Go.RowKit Go.BigFrame
theorem ins_le (H:Hs) (q v:List Nat):∀ L:Prs,(insP H q v L).length≤L.length + 1
  | []=>by simp [insP]
  | y :: L=>by
    have ih:=ins_le H q v L
    rw [xa2o]
    split
    · simp
    · split
      · simp
      · simp only [List.length_cons]; omega
theorem xa5j (H:Hs):∀ (ps L:Prs),(insAll H L ps).length≤L.length + ps.length
  | [],L=>by simp [insAll]
  | p :: ps,L=>by
    have h1:=xa5j H ps (insP H p.1 p.2 L)
    have h2:=ins_le H p.1 p.2 L
    show (insAll H (insP H p.1 p.2 L) ps).length≤_
    rw [List.length_cons]; omega
theorem xb4p (H:Hs) (ps:Prs) (j:Nat) (hj:j < ps.length):insAll H [] (ps.take (j + 1)) = insP H (ps.getD j ([],[])).1 (ps.getD j ([],[])).2 (insAll H [] (ps.take j)):=by
  rw [List.take_succ_eq_append_getElem hj,xa9x,List.getD_eq_getElem?_getD,List.getElem?_eq_getElem hj]; rfl
end
section
open Go Go.RowKit Go.BigFrame

end
section
open Go.RowKit Go.BigFrame




end

section
open Go.RowKit Go.BigFrame


theorem xb2j:∀ ps:Prs,2 * ps.length≤kwt ps
  | []=>by simp [kwt]
  | p :: ps=>by
    have ih:=xb2j ps
    have e:kwt (p :: ps) = p.1.length + p.2.length + 2 + kwt ps:=by simp [kwt]
    rw [e,List.length_cons]; omega
theorem xa9u {z:Int} (h:widthB z = true):∃ k:Nat,z = k∧1≤k∧k≤32:=by
  have h1:1≤z∧z≤32:=by simpa [widthB] using h
  exact ⟨z.toNat,by omega,by omega,by omega⟩
end
section
open Go Go.RowKit Go.BigFrame
theorem lp_a11 {P:Program} {Q:Exit→Act→World→Prop} {id:Nat} {o0 o1 o2 o3 o4 o5 o6 o7 o8 o9 o10 o11 o12:Oper} {a:Act} {w:World} (hm:P.follows .mixedOrders = true) (hb:linB #[o0,o1,o2,o3,o4,o5,o6,o7,o8,o9,o10,o11,o12] [0,1,3,4] [2,5] [6,7,8,9,10,11,12] = true) (hg:([o0,o1,o3,o4]++([o2,o5]++[o6,o7,o8,o9,o10,o11,o12])).all (fun o=>o.guard.isNone) = true) (S:World→Prop) (hS:S w.drew)
    (h:LinY P S (ChL P Q S (fun a w=>S w∧LinY P S (Q .normal) [o6,o7,o8,o9,o10,o11,o12] a w) [o2,o5]) [o0,o1,o3,o4] a w.drew):(Code.region id #[o0,o1,o2,o3,o4,o5,o6,o7,o8,o9,o10,o11,o12] true).wp P Q a w:=wp_lin (R:=[0,1,3,4]) (C:=[2,5]) (T:=[6,7,8,9,10,11,12]) (rs:=[o0,o1,o3,o4]) (cs:=[o2,o5]) (ts:=[o6,o7,o8,o9,o10,o11,o12]) hm hb rfl rfl rfl hg hS h
end

section
open Go Go.RowKit Go.BigFrame
section
variable {P:Program} {Q:Exit→Act→World→Prop}
theorem xb6b {id:Nat} {o0 o1 o2 o3 o4 o5 o6 o7 o8 o9 o10 o11 o12 o13:Oper} {a:Act} {w:World} (hm:P.follows .mixedOrders = true) (hs:Region.noSelect #[o0,o1,o2,o3,o4,o5,o6,o7,o8,o9,o10,o11,o12,o13] = true)
    (f0:Region.free .any #[o0,o1,o2,o3,o4,o5,o6,o7,o8,o9,o10,o11,o12,o13] #[false,false,false,false,false,false,false,false,false,false,false,false,false,false] 0 = true) (r0:(Region.ready .any #[o0,o1,o2,o3,o4,o5,o6,o7,o8,o9,o10,o11,o12,o13] #[false,false,false,false,false,false,false,false,false,false,false,false,false,false]).contains 0 = true)
    (f1:Region.free .any #[o0,o1,o2,o3,o4,o5,o6,o7,o8,o9,o10,o11,o12,o13] #[true,false,false,false,false,false,false,false,false,false,false,false,false,false] 1 = true) (r1:(Region.ready .any #[o0,o1,o2,o3,o4,o5,o6,o7,o8,o9,o10,o11,o12,o13] #[true,false,false,false,false,false,false,false,false,false,false,false,false,false]).contains 1 = true)
    (f5:Region.free .any #[o0,o1,o2,o3,o4,o5,o6,o7,o8,o9,o10,o11,o12,o13] #[true,true,false,false,false,false,false,false,false,false,false,false,false,false] 5 = true) (r5:(Region.ready .any #[o0,o1,o2,o3,o4,o5,o6,o7,o8,o9,o10,o11,o12,o13] #[true,true,false,false,false,false,false,false,false,false,false,false,false,false]).contains 5 = true)
    (q_:Region.ready .any #[o0,o1,o2,o3,o4,o5,o6,o7,o8,o9,o10,o11,o12,o13] #[true,true,false,false,false,true,false,false,false,false,false,false,false,false] = [2,3])
    (q2_:Region.ready .any #[o0,o1,o2,o3,o4,o5,o6,o7,o8,o9,o10,o11,o12,o13] #[true,true,true,false,false,true,false,false,false,false,false,false,false,false] = [3])
    (q3_:Region.ready .any #[o0,o1,o2,o3,o4,o5,o6,o7,o8,o9,o10,o11,o12,o13] #[true,true,false,true,false,true,false,false,false,false,false,false,false,false] = [2,4])
    (q2_3_:Region.ready .any #[o0,o1,o2,o3,o4,o5,o6,o7,o8,o9,o10,o11,o12,o13] #[true,true,true,true,false,true,false,false,false,false,false,false,false,false] = [4])
    (q3_4_:Region.ready .any #[o0,o1,o2,o3,o4,o5,o6,o7,o8,o9,o10,o11,o12,o13] #[true,true,false,true,true,true,false,false,false,false,false,false,false,false] = [2])
    (q2_3_4_:Region.ready .any #[o0,o1,o2,o3,o4,o5,o6,o7,o8,o9,o10,o11,o12,o13] #[true,true,true,true,true,true,false,false,false,false,false,false,false,false] = [6])
    (f2_3_4_6_7:Region.free .any #[o0,o1,o2,o3,o4,o5,o6,o7,o8,o9,o10,o11,o12,o13] #[true,true,true,true,true,true,true,false,false,false,false,false,false,false] 7 = true) (r2_3_4_6_7:(Region.ready .any #[o0,o1,o2,o3,o4,o5,o6,o7,o8,o9,o10,o11,o12,o13] #[true,true,true,true,true,true,true,false,false,false,false,false,false,false]).contains 7 = true)
    (f2_3_4_6_8:Region.free .any #[o0,o1,o2,o3,o4,o5,o6,o7,o8,o9,o10,o11,o12,o13] #[true,true,true,true,true,true,true,true,false,false,false,false,false,false] 8 = true) (r2_3_4_6_8:(Region.ready .any #[o0,o1,o2,o3,o4,o5,o6,o7,o8,o9,o10,o11,o12,o13] #[true,true,true,true,true,true,true,true,false,false,false,false,false,false]).contains 8 = true)
    (f2_3_4_6_9:Region.free .any #[o0,o1,o2,o3,o4,o5,o6,o7,o8,o9,o10,o11,o12,o13] #[true,true,true,true,true,true,true,true,true,false,false,false,false,false] 9 = true) (r2_3_4_6_9:(Region.ready .any #[o0,o1,o2,o3,o4,o5,o6,o7,o8,o9,o10,o11,o12,o13] #[true,true,true,true,true,true,true,true,true,false,false,false,false,false]).contains 9 = true)
    (f2_3_4_6_10:Region.free .any #[o0,o1,o2,o3,o4,o5,o6,o7,o8,o9,o10,o11,o12,o13] #[true,true,true,true,true,true,true,true,true,true,false,false,false,false] 10 = true) (r2_3_4_6_10:(Region.ready .any #[o0,o1,o2,o3,o4,o5,o6,o7,o8,o9,o10,o11,o12,o13] #[true,true,true,true,true,true,true,true,true,true,false,false,false,false]).contains 10 = true)
    (f2_3_4_6_11:Region.free .any #[o0,o1,o2,o3,o4,o5,o6,o7,o8,o9,o10,o11,o12,o13] #[true,true,true,true,true,true,true,true,true,true,true,false,false,false] 11 = true) (r2_3_4_6_11:(Region.ready .any #[o0,o1,o2,o3,o4,o5,o6,o7,o8,o9,o10,o11,o12,o13] #[true,true,true,true,true,true,true,true,true,true,true,false,false,false]).contains 11 = true)
    (f2_3_4_6_12:Region.free .any #[o0,o1,o2,o3,o4,o5,o6,o7,o8,o9,o10,o11,o12,o13] #[true,true,true,true,true,true,true,true,true,true,true,true,false,false] 12 = true) (r2_3_4_6_12:(Region.ready .any #[o0,o1,o2,o3,o4,o5,o6,o7,o8,o9,o10,o11,o12,o13] #[true,true,true,true,true,true,true,true,true,true,true,true,false,false]).contains 12 = true)
    (f2_3_4_6_13:Region.free .any #[o0,o1,o2,o3,o4,o5,o6,o7,o8,o9,o10,o11,o12,o13] #[true,true,true,true,true,true,true,true,true,true,true,true,true,false] 13 = true) (r2_3_4_6_13:(Region.ready .any #[o0,o1,o2,o3,o4,o5,o6,o7,o8,o9,o10,o11,o12,o13] #[true,true,true,true,true,true,true,true,true,true,true,true,true,false]).contains 13 = true)
    (q2_3_4_6_:Region.ready .any #[o0,o1,o2,o3,o4,o5,o6,o7,o8,o9,o10,o11,o12,o13] #[true,true,true,true,true,true,true,true,true,true,true,true,true,true] = [])
    (g2:o2.guard = none)    (g3:o3.guard = none)    (g4:o4.guard = none)    (g6:o6.guard = none)
    (ne3_2:∀ d,o3.dst = some d→o2.dst≠some d)
    (ne4_2:∀ d,o4.dst = some d→o2.dst≠some d)
    (v0 v1 v5:Value) (A0 A1 A2:Act)
    (S:World→Prop)
    (I_:World→Prop)
    (I2_:Value→World→Prop)
    (I3_:Value→World→Prop)
    (I2_3_:Value→Value→World→Prop)
    (I3_4_:Value→Value→World→Prop)
    (I2_3_4_:Value→Value→Value→World→Prop)
    (I2_3_4_6_:Value→Value→Value→Value→World→Prop)
    (v7:Value→Value)
    (v8:Value→Value)
    (v9:Value→Value)
    (v10:Value→Value)
    (v11:Value→Value)
    (v12:Value→Value)
    (v13:Value→Value)
    (p0:a.put o0.dst v0 = A0) (hy0:YieldsIf P #[o0,o1,o2,o3,o4,o5,o6,o7,o8,o9,o10,o11,o12,o13] S o0 v0 a)
    (p1:A0.put o1.dst v1 = A1) (hy1:YieldsIf P #[o0,o1,o2,o3,o4,o5,o6,o7,o8,o9,o10,o11,o12,o13] S o1 v1 A0)
    (p5:A1.put o5.dst v5 = A2) (hy5:YieldsIf P #[o0,o1,o2,o3,o4,o5,o6,o7,o8,o9,o10,o11,o12,o13] S o5 v5 A1)
    (i0:I_ w.drew)
    (hIS:(∀ w',I_  w'→S w')∧(∀ (u2:Value) w',I2_ u2 w'→S w')∧(∀ (u3:Value) w',I3_ u3 w'→S w')∧(∀ (u2 u3:Value) w',I2_3_ u2 u3 w'→S w')∧(∀ (u3 u4:Value) w',I3_4_ u3 u4 w'→S w')∧(∀ (u2 u3 u4:Value) w',I2_3_4_ u2 u3 u4 w'→S w')∧(∀ (u2 u3 u4 u6:Value) w',I2_3_4_6_ u2 u3 u4 u6 w'→S w'))
    (s_2:∀ w',I_  w'→∀ K:Act→World→Prop,(∀ (u2:Value) w2,I2_ u2 w2→K (A2.put o2.dst u2) w2)→o2.wp P A2 w' K (NoPanic Q))
    (s_3:∀ w',I_  w'→∀ K:Act→World→Prop,(∀ (u3:Value) w2,I3_ u3 w2→K (A2.put o3.dst u3) w2)→o3.wp P A2 w' K (NoPanic Q))
    (s2_3:∀ (u2:Value) w',I2_ u2 w'→∀ K:Act→World→Prop,(∀ (u3:Value) w2,I2_3_ u2 u3 w2→K ((A2.put o2.dst u2).put o3.dst u3) w2)→o3.wp P (A2.put o2.dst u2) w' K (NoPanic Q))
    (s3_2:∀ (u3:Value) w',I3_ u3 w'→∀ K:Act→World→Prop,(∀ (u2:Value) w2,I2_3_ u2 u3 w2→K ((A2.put o3.dst u3).put o2.dst u2) w2)→o2.wp P (A2.put o3.dst u3) w' K (NoPanic Q))
    (s3_4:∀ (u3:Value) w',I3_ u3 w'→∀ K:Act→World→Prop,(∀ (u4:Value) w2,I3_4_ u3 u4 w2→K ((A2.put o3.dst u3).put o4.dst u4) w2)→o4.wp P (A2.put o3.dst u3) w' K (NoPanic Q))
    (s2_3_4:∀ (u2 u3:Value) w',I2_3_ u2 u3 w'→∀ K:Act→World→Prop,(∀ (u4:Value) w2,I2_3_4_ u2 u3 u4 w2→K (((A2.put o2.dst u2).put o3.dst u3).put o4.dst u4) w2)→o4.wp P ((A2.put o2.dst u2).put o3.dst u3) w' K (NoPanic Q))
    (s3_4_2:∀ (u3 u4:Value) w',I3_4_ u3 u4 w'→∀ K:Act→World→Prop,(∀ (u2:Value) w2,I2_3_4_ u2 u3 u4 w2→K (((A2.put o3.dst u3).put o4.dst u4).put o2.dst u2) w2)→o2.wp P ((A2.put o3.dst u3).put o4.dst u4) w' K (NoPanic Q))
    (s2_3_4_6:∀ (u2 u3 u4:Value) w',I2_3_4_ u2 u3 u4 w'→∀ K:Act→World→Prop,(∀ (u6:Value) w2,I2_3_4_6_ u2 u3 u4 u6 w2→K ((((A2.put o2.dst u2).put o3.dst u3).put o4.dst u4).put o6.dst u6) w2)→o6.wp P (((A2.put o2.dst u2).put o3.dst u3).put o4.dst u4) w' K (NoPanic Q))
    (y2_3_4_6_7:∀ (u2 u3 u4 u6:Value) w',I2_3_4_6_ u2 u3 u4 u6 w'→YieldsIf P #[o0,o1,o2,o3,o4,o5,o6,o7,o8,o9,o10,o11,o12,o13] S o7 (v7 u6) ((((A2.put o2.dst u2).put o3.dst u3).put o4.dst u4).put o6.dst u6))
    (y2_3_4_6_8:∀ (u2 u3 u4 u6:Value) w',I2_3_4_6_ u2 u3 u4 u6 w'→YieldsIf P #[o0,o1,o2,o3,o4,o5,o6,o7,o8,o9,o10,o11,o12,o13] S o8 (v8 u6) (((((A2.put o2.dst u2).put o3.dst u3).put o4.dst u4).put o6.dst u6).put o7.dst (v7 u6)))
    (y2_3_4_6_9:∀ (u2 u3 u4 u6:Value) w',I2_3_4_6_ u2 u3 u4 u6 w'→YieldsIf P #[o0,o1,o2,o3,o4,o5,o6,o7,o8,o9,o10,o11,o12,o13] S o9 (v9 u6) ((((((A2.put o2.dst u2).put o3.dst u3).put o4.dst u4).put o6.dst u6).put o7.dst (v7 u6)).put o8.dst (v8 u6)))
    (y2_3_4_6_10:∀ (u2 u3 u4 u6:Value) w',I2_3_4_6_ u2 u3 u4 u6 w'→YieldsIf P #[o0,o1,o2,o3,o4,o5,o6,o7,o8,o9,o10,o11,o12,o13] S o10 (v10 u6) (((((((A2.put o2.dst u2).put o3.dst u3).put o4.dst u4).put o6.dst u6).put o7.dst (v7 u6)).put o8.dst (v8 u6)).put o9.dst (v9 u6)))
    (y2_3_4_6_11:∀ (u2 u3 u4 u6:Value) w',I2_3_4_6_ u2 u3 u4 u6 w'→YieldsIf P #[o0,o1,o2,o3,o4,o5,o6,o7,o8,o9,o10,o11,o12,o13] S o11 (v11 u6) ((((((((A2.put o2.dst u2).put o3.dst u3).put o4.dst u4).put o6.dst u6).put o7.dst (v7 u6)).put o8.dst (v8 u6)).put o9.dst (v9 u6)).put o10.dst (v10 u6)))
    (y2_3_4_6_12:∀ (u2 u3 u4 u6:Value) w',I2_3_4_6_ u2 u3 u4 u6 w'→YieldsIf P #[o0,o1,o2,o3,o4,o5,o6,o7,o8,o9,o10,o11,o12,o13] S o12 (v12 u6) (((((((((A2.put o2.dst u2).put o3.dst u3).put o4.dst u4).put o6.dst u6).put o7.dst (v7 u6)).put o8.dst (v8 u6)).put o9.dst (v9 u6)).put o10.dst (v10 u6)).put o11.dst (v11 u6)))
    (y2_3_4_6_13:∀ (u2 u3 u4 u6:Value) w',I2_3_4_6_ u2 u3 u4 u6 w'→YieldsIf P #[o0,o1,o2,o3,o4,o5,o6,o7,o8,o9,o10,o11,o12,o13] S o13 (v13 u6) ((((((((((A2.put o2.dst u2).put o3.dst u3).put o4.dst u4).put o6.dst u6).put o7.dst (v7 u6)).put o8.dst (v8 u6)).put o9.dst (v9 u6)).put o10.dst (v10 u6)).put o11.dst (v11 u6)).put o12.dst (v12 u6)))
    (h:∀ (u2 u3 u4 u6:Value) w',I2_3_4_6_ u2 u3 u4 u6 w'→Q .normal (((((((((((A2.put o2.dst u2).put o3.dst u3).put o4.dst u4).put o6.dst u6).put o7.dst (v7 u6)).put o8.dst (v8 u6)).put o9.dst (v9 u6)).put o10.dst (v10 u6)).put o11.dst (v11 u6)).put o12.dst (v12 u6)).put o13.dst (v13 u6)) w') :
    (Code.region id #[o0,o1,o2,o3,o4,o5,o6,o7,o8,o9,o10,o11,o12,o13] true).wp P Q a w:=by
  subst p0 p1 p5
  obtain ⟨z_,z2_,z3_,z2_3_,z3_4_,z2_3_4_,z2_3_4_6_⟩:=hIS
  refine wp_region_noPanic ?_
  refine wp_region_held_drew (S:=S) hm (z_ _ i0) (fun hH=>?_)
  show wpAnyH P .any #[o0,o1,o2,o3,o4,o5,o6,o7,o8,o9,o10,o11,o12,o13] (NoPanic Q) S 14 #[false,false,false,false,false,false,false,false,false,false,false,false,false,false] a w.drew
  refine wpAnyH_take (i:=0) (oi:=o0) rfl hs f0 r0 (fun _ _ _ h=>h) hy0 hH ?_
  refine wpAnyH_take (i:=1) (oi:=o1) rfl hs f1 r1 (fun _ _ _ h=>h) hy1 hH ?_
  refine wpAnyH_take (i:=5) (oi:=o5) rfl hs f5 r5 (fun _ _ _ h=>h) hy5 hH ?_
  generalize (((a.put o0.dst v0).put o1.dst v1).put o5.dst v5) = B at *
  have wa2:∀ y,Region.wanted o2 y = true:=fun y=>by unfold Region.wanted; rw [g2]
  have wa3:∀ y,Region.wanted o3 y = true:=fun y=>by unfold Region.wanted; rw [g3]
  have wa4:∀ y,Region.wanted o4 y = true:=fun y=>by unfold Region.wanted; rw [g4]
  have wa6:∀ y,Region.wanted o6 y = true:=fun y=>by unfold Region.wanted; rw [g6]
  have t2_3_4_6_:∀ (u2 u3 u4 u6:Value) w',I2_3_4_6_ u2 u3 u4 u6 w'→wpAnyH P .any #[o0,o1,o2,o3,o4,o5,o6,o7,o8,o9,o10,o11,o12,o13] (NoPanic Q) S 0 #[true,true,true,true,true,true,true,true,true,true,true,true,true,true] (((((((((((B.put o2.dst u2).put o3.dst u3).put o4.dst u4).put o6.dst u6).put o7.dst (v7 u6)).put o8.dst (v8 u6)).put o9.dst (v9 u6)).put o10.dst (v10 u6)).put o11.dst (v11 u6)).put o12.dst (v12 u6)).put o13.dst (v13 u6)) w':=by
    intro u2 u3 u4 u6 w0 i0
    exact ⟨q2_3_4_6_,NoPanic.normal (h u2 u3 u4 u6 w0 i0)⟩
  have t2_3_4_:∀ (u2 u3 u4:Value) w',I2_3_4_ u2 u3 u4 w'→wpAnyH P .any #[o0,o1,o2,o3,o4,o5,o6,o7,o8,o9,o10,o11,o12,o13] (NoPanic Q) S 8 #[true,true,true,true,true,true,false,false,false,false,false,false,false,false] (((B.put o2.dst u2).put o3.dst u3).put o4.dst u4) w':=by
    intro u2 u3 u4 w0 i0
    refine wpAnyH_ready (rs:=[6]) q2_3_4_ (by simp) (AllReadyH.cons (o:=o6) rfl (fun K hK=>?_) AllReadyH.nil)
    · rw [if_pos (wa6 _)]
      refine s2_3_4_6 u2 u3 u4 w0 i0 K (fun u6 w1 i1=>hK.out _ _ (z2_3_4_6_ u2 u3 u4 u6 w1 i1) (fun _=>?_))
      clear hK
      refine wpAnyH_take (i:=7) (oi:=o7) rfl hs f2_3_4_6_7 r2_3_4_6_7 (fun _ _ _ h=>h) (y2_3_4_6_7 u2 u3 u4 u6 w1 i1) (z2_3_4_6_ u2 u3 u4 u6 w1 i1) ?_
      refine wpAnyH_take (i:=8) (oi:=o8) rfl hs f2_3_4_6_8 r2_3_4_6_8 (fun _ _ _ h=>h) (y2_3_4_6_8 u2 u3 u4 u6 w1 i1) (z2_3_4_6_ u2 u3 u4 u6 w1 i1) ?_
      refine wpAnyH_take (i:=9) (oi:=o9) rfl hs f2_3_4_6_9 r2_3_4_6_9 (fun _ _ _ h=>h) (y2_3_4_6_9 u2 u3 u4 u6 w1 i1) (z2_3_4_6_ u2 u3 u4 u6 w1 i1) ?_
      refine wpAnyH_take (i:=10) (oi:=o10) rfl hs f2_3_4_6_10 r2_3_4_6_10 (fun _ _ _ h=>h) (y2_3_4_6_10 u2 u3 u4 u6 w1 i1) (z2_3_4_6_ u2 u3 u4 u6 w1 i1) ?_
      refine wpAnyH_take (i:=11) (oi:=o11) rfl hs f2_3_4_6_11 r2_3_4_6_11 (fun _ _ _ h=>h) (y2_3_4_6_11 u2 u3 u4 u6 w1 i1) (z2_3_4_6_ u2 u3 u4 u6 w1 i1) ?_
      refine wpAnyH_take (i:=12) (oi:=o12) rfl hs f2_3_4_6_12 r2_3_4_6_12 (fun _ _ _ h=>h) (y2_3_4_6_12 u2 u3 u4 u6 w1 i1) (z2_3_4_6_ u2 u3 u4 u6 w1 i1) ?_
      refine wpAnyH_take (i:=13) (oi:=o13) rfl hs f2_3_4_6_13 r2_3_4_6_13 (fun _ _ _ h=>h) (y2_3_4_6_13 u2 u3 u4 u6 w1 i1) (z2_3_4_6_ u2 u3 u4 u6 w1 i1) ?_
      exact t2_3_4_6_ u2 u3 u4 u6 w1 i1
  have t3_4_:∀ (u3 u4:Value) w',I3_4_ u3 u4 w'→wpAnyH P .any #[o0,o1,o2,o3,o4,o5,o6,o7,o8,o9,o10,o11,o12,o13] (NoPanic Q) S 9 #[true,true,false,true,true,true,false,false,false,false,false,false,false,false] ((B.put o3.dst u3).put o4.dst u4) w':=by
    intro u3 u4 w0 i0
    refine wpAnyH_ready (rs:=[2]) q3_4_ (by simp) (AllReadyH.cons (o:=o2) rfl (fun K hK=>?_) AllReadyH.nil)
    · rw [if_pos (wa2 _)]
      refine s3_4_2 u3 u4 w0 i0 K (fun u2 w1 i1=>hK.out _ _ (z2_3_4_ u2 u3 u4 w1 i1) (fun _=>?_))
      clear hK
      rw [Act.put_comm _ _ _ ne4_2]
      rw [Act.put_comm _ _ _ ne3_2]
      exact t2_3_4_ u2 u3 u4 w1 i1
  have t2_3_:∀ (u2 u3:Value) w',I2_3_ u2 u3 w'→wpAnyH P .any #[o0,o1,o2,o3,o4,o5,o6,o7,o8,o9,o10,o11,o12,o13] (NoPanic Q) S 9 #[true,true,true,true,false,true,false,false,false,false,false,false,false,false] ((B.put o2.dst u2).put o3.dst u3) w':=by
    intro u2 u3 w0 i0
    refine wpAnyH_ready (rs:=[4]) q2_3_ (by simp) (AllReadyH.cons (o:=o4) rfl (fun K hK=>?_) AllReadyH.nil)
    · rw [if_pos (wa4 _)]
      refine s2_3_4 u2 u3 w0 i0 K (fun u4 w1 i1=>hK.out _ _ (z2_3_4_ u2 u3 u4 w1 i1) (fun _=>?_))
      clear hK
      exact t2_3_4_ u2 u3 u4 w1 i1
  have t3_:∀ (u3:Value) w',I3_ u3 w'→wpAnyH P .any #[o0,o1,o2,o3,o4,o5,o6,o7,o8,o9,o10,o11,o12,o13] (NoPanic Q) S 10 #[true,true,false,true,false,true,false,false,false,false,false,false,false,false] (B.put o3.dst u3) w':=by
    intro u3 w0 i0
    refine wpAnyH_ready (rs:=[2,4]) q3_ (by simp) (AllReadyH.cons (o:=o2) rfl (fun K hK=>?_) (AllReadyH.cons (o:=o4) rfl (fun K hK=>?_) AllReadyH.nil))
    · rw [if_pos (wa2 _)]
      refine s3_2 u3 w0 i0 K (fun u2 w1 i1=>hK.out _ _ (z2_3_ u2 u3 w1 i1) (fun _=>?_))
      clear hK
      rw [Act.put_comm _ _ _ ne3_2]
      exact t2_3_ u2 u3 w1 i1
    · rw [if_pos (wa4 _)]
      refine s3_4 u3 w0 i0 K (fun u4 w1 i1=>hK.out _ _ (z3_4_ u3 u4 w1 i1) (fun _=>?_))
      clear hK
      exact t3_4_ u3 u4 w1 i1
  have t2_:∀ (u2:Value) w',I2_ u2 w'→wpAnyH P .any #[o0,o1,o2,o3,o4,o5,o6,o7,o8,o9,o10,o11,o12,o13] (NoPanic Q) S 10 #[true,true,true,false,false,true,false,false,false,false,false,false,false,false] (B.put o2.dst u2) w':=by
    intro u2 w0 i0
    refine wpAnyH_ready (rs:=[3]) q2_ (by simp) (AllReadyH.cons (o:=o3) rfl (fun K hK=>?_) AllReadyH.nil)
    · rw [if_pos (wa3 _)]
      refine s2_3 u2 w0 i0 K (fun u3 w1 i1=>hK.out _ _ (z2_3_ u2 u3 w1 i1) (fun _=>?_))
      clear hK
      exact t2_3_ u2 u3 w1 i1
  have t_:∀ w',I_  w'→wpAnyH P .any #[o0,o1,o2,o3,o4,o5,o6,o7,o8,o9,o10,o11,o12,o13] (NoPanic Q) S 11 #[true,true,false,false,false,true,false,false,false,false,false,false,false,false] B w':=by
    intro w0 i0
    refine wpAnyH_ready (rs:=[2,3]) q_ (by simp) (AllReadyH.cons (o:=o2) rfl (fun K hK=>?_) (AllReadyH.cons (o:=o3) rfl (fun K hK=>?_) AllReadyH.nil))
    · rw [if_pos (wa2 _)]
      refine s_2  w0 i0 K (fun u2 w1 i1=>hK.out _ _ (z2_ u2 w1 i1) (fun _=>?_))
      clear hK
      exact t2_ u2 w1 i1
    · rw [if_pos (wa3 _)]
      refine s_3  w0 i0 K (fun u3 w1 i1=>hK.out _ _ (z3_ u3 w1 i1) (fun _=>?_))
      clear hK
      exact t3_ u3 w1 i1
  exact t_ w.drew i0
end
end
section
open Go.RowKit Go.BigFrame
theorem xb9a (w:World) (e:TypeId) (s:ByteArray):Kept [] w (Lib.bytesWorld w e s):=⟨rfl,rfl,rfl,by rw [Lib.bytesWorld_size]; omega,fun k hk _=>Lib.bytesWorld_at_old w e s k hk⟩
theorem xa1y (bs:List Nat):(strOf bs).size = bs.length:=by simp [strOf,ByteArray.size]
theorem bw_rd (w:World) (bs:List Nat) (hb:∀ x∈bs,x < 256) (hl:bs.length≤1000000):Rd (Lib.bytesWorld w 5 (strOf bs)) (.slice (some ⟨w.heap.size,0,none⟩) (strOf bs).size (grownCap w (strOf bs).size 0 5)) bs:=by
  have h1:=grownCap_ge w (strOf bs).size 0 5
  have h2:=grownCap_le_maxLen w (strOf bs).size 0 5 (by rw [xa1y]; unfold maxLen; omega)
  rw [xa1y] at h1 h2 ⊢
  unfold maxLen at h2
  refine ⟨_,_,_,rfl,rfl,h1,⟨by omega,by omega⟩,fun h=>by simp at h,hb,fun hp=>⟨w.heap.size,0,rfl,fun i hi=>?_⟩⟩
  rw [Nat.zero_add,Lib.bytesWorld_cell w 5 (strOf bs) i (by rw [xa1y]; exact hi)]
  have hx:=hb (bs[i]) (List.getElem_mem hi)
  simp [strOf,List.getD_eq_getElem?_getD,hi,u8]
  omega
theorem xb2u (w:World) (bs:List Nat) (n:Nat) (hn:bs.length = n) (hb:∀ x∈bs,x < 256) (hl:n≤1000000):∃ W c,(convert 9 23 (.string (strOf bs))).run Tryz.prog w = .ok (.slice (some ⟨w.heap.size,0,none⟩) n c) W∧Rd W (.slice (some ⟨w.heap.size,0,none⟩) n c) bs∧Kept [] w W∧W.heap.size = w.heap.size + 1:=by
  have hu5:Tryz.prog.underlying 5 = some (.int .u8):=by kernel_rfl
  have hu9:Tryz.prog.underlying 9 = some .string:=by kernel_rfl
  subst hn
  exact ⟨_,_,by rw [Lib.run_convert_string_bytes w 9 23 5 (strOf bs) hu9 Tryz.underlying23 hu5,xa1y],by have:=bw_rd w bs hb hl; rwa [xa1y] at this,xb9a w 5 _,Lib.bytesWorld_size w 5 _⟩
set_option maxHeartbeats 2000000 in
theorem xa9y (w:World) :
    Calls Tryz.prog 67 #[.string (strOf [97]),.string (strOf [49])] w fun e w'=>(∃ v',e = .returned (.agg #[.slice none 0 0,v'])∧RdK w' v' [([97],[49])])∧Kept [] w w':=by
  go_enter Tryz.func67,Tryz.ntmps67
  have hk0:=(Kept.refl [] w).alloc (.cells #[.slice none 0 0,.slice none 0 0] 64)
  have hg0:=heap_alloc_new w (.cells #[.slice none 0 0,.slice none 0 0] 64)
  obtain ⟨W0,hW0⟩:∃ W0,w.alloc (.cells #[.slice none 0 0,.slice none 0 0] 64) = W0:=⟨_,rfl⟩
  rw [hW0] at hk0 hg0
  obtain ⟨W1,n1,hr1,r1,k1,z1⟩:=xb2u W0 [97] 1 rfl (by decide) (by decide)
  obtain ⟨W2,n2,hr2,r2,k2,z2⟩:=xb2u W1 [49] 1 rfl (by decide) (by decide)
  have R1:=hide r1
  have R2:=hide r2
  have K1:=hide k1
  have K2:=hide k2
  have K0:=hide hk0
  clear r1 r2 k1 k2 hk0
  have HG2:=hide ((uh K2).heap ((uh K1).heap hg0 (by simp)) (by simp))
  clear hg0
  generalize strOf [97] = s1 at *
  generalize strOf [49] = s2 at *
  have hs2:w.heap.size < W2.heap.size:=lt_of_block (uh HG2)
  have HG3:=hide (((Kept.refl [] W2).alloc (.cells #[.slice (some ⟨W0.heap.size,0,none⟩) 1 n1,.slice (some ⟨W0.heap.size + 1,0,none⟩) 1 n2] 33)).heap (uh HG2) (by simp))
  have HP3:=hide (heap_alloc_new W2 (.cells #[.slice (some ⟨W0.heap.size,0,none⟩) 1 n1,.slice (some ⟨W0.heap.size + 1,0,none⟩) 1 n2] 33))
  have HK3:=hide ((Kept.refl [] W2).alloc (.cells #[.slice (some ⟨W0.heap.size,0,none⟩) 1 n1,.slice (some ⟨W0.heap.size + 1,0,none⟩) 1 n2] 33))
  go_wp2_with (first
    | (rw [hW0])
    | (show wpList _ #[_,_,_,_,_,_,_,_] _ [_] _ _; go_must (refine wpList_store_row rfl 64 _ _ rfl w.heap.size #[.slice none 0 0,.slice (some ⟨W0.heap.size + 1 + 1,0,none⟩) 1 1] rfl rfl _ #[.slice none 0 0,.slice none 0 0] (uh HG3) (by kernel_rfl) rfl (by simp [Value.oneCell']) ?_)))
  have kF:=(((uh K0).trans (uh K1) (by simp)).trans (uh K2) (by simp)).trans (uh HK3) (by simp)
  have kR:=(Kept.refl [w.heap.size] (W2.alloc (.cells #[.slice (some ⟨W0.heap.size,0,none⟩) 1 n1,.slice (some ⟨W0.heap.size + 1,0,none⟩) 1 n2] 33))).setRow (g:=w.heap.size) (Or.inl (by simp)) #[.slice none 0 0,.slice (some ⟨W0.heap.size + 1 + 1,0,none⟩) 1 1]
  have hz0:w.heap.size + 1 = W0.heap.size:=by rw [← hW0]; simp
  have e2:W2.heap.size = W0.heap.size + 1 + 1:=by rw [z2,z1]
  have HPF:=hide (kR.heap (uh HP3) (by simp; omega))
  have hR1:=(((uh R1).old (uh K2) (by simp)).old (uh HK3) (by simp)).kept kR (by simp [blk]; omega)
  have hR2:=((uh R2).old (uh HK3) (by simp)).kept kR (by simp [blk]; omega)
  have HZF:=setRow_heap _ w.heap.size _ #[.slice none 0 0,.slice (some ⟨W0.heap.size + 1 + 1,0,none⟩) 1 1] 64 (0,0) (uh HG3)
  refine bodyPost_ret (v:=.agg #[.slice none 0 0,.slice (some ⟨W0.heap.size + 1 + 1,0,none⟩) 1 1]) ?_ rfl ⟨⟨_,rfl,?_⟩,kF.setRow (g:=w.heap.size) (Or.inr (Nat.le_refl _)) _⟩
  · exact results_cell_row rfl _ _ w.heap.size _ #[.slice none 0 0,.slice (some ⟨W0.heap.size + 1 + 1,0,none⟩) 1 1] (0,0) _ rfl HZF Tryz.underlying64 rfl (by kernel_rfl)
  · rw [z1] at hR2
    refine ⟨_,1,1,[.slice (some ⟨W0.heap.size,0,none⟩) 1 n1],[.slice (some ⟨W0.heap.size + 1,0,none⟩) 1 n2],rfl,rfl,Nat.le_refl _,by decide,fun i hi=>?_,fun _=>⟨W0.heap.size + 1 + 1,0,rfl,fun i hi=>?_⟩⟩
    · obtain rfl:i = 0:=by omega
      exact ⟨hR1,hR2⟩
    · obtain rfl:i = 0:=by omega
      have h9:=uh HPF
      rw [e2] at h9
      exact ⟨cell_of_row _ _ _ _ _ _ h9,cell_of_row _ _ _ _ _ _ h9⟩
theorem rd_row {w:World} {g:Nat} (bs:List Nat) {cs:Array Value} {fr:Nat × Nat} (h:w.heap[g]? = some (.cells cs 5 fr)) (hc:cs = (bs.map u8).toArray) (hb:∀ x∈bs,x < 256) (n:Nat) (hn:bs.length = n) (hl:n≤140737488355328):Rd w (.slice (some ⟨g,0,none⟩) n n) bs:=by
  refine ⟨_,n,n,rfl,hn,Nat.le_refl _,⟨by omega,hl⟩,fun h=>by simp at h,hb,fun hp=>⟨g,0,rfl,fun i hi=>?_⟩⟩
  subst hc
  have hi':i < bs.length:=by omega
  rw [cell_of_row _ _ _ _ _ _ h,Nat.zero_add,List.getElem?_toArray,List.getElem?_map,List.getElem?_eq_getElem hi',List.getD_eq_getElem?_getD,List.getElem?_eq_getElem hi']
  rfl
def ps1:List (List Nat × List Nat):=[([97],[49])]
theorem ps1_pb:(pairB ps1).length≤1000000000000:=by
  have u1:=uv_len 1 (by omega)
  have e:pairB ps1 = uv 1++[97]++(uv 1++[49]):=by simp [pairB,ps1]
  rw [e]
  simp
  omega
theorem xa4q {w:World} {g n c:Nat} {C:Array Value} (h:w.heap[g]? = some (.cells C 5 (0,0))):(convert 23 23 (.slice (some ⟨g,0,none⟩) n c)).run Tryz.prog w = .ok (.slice (some ⟨g,0,none⟩) n c) (w.freeze ⟨g,C.size,none⟩ 1):=by
  have hsh:w.shape? g = some (5,C.size):=by unfold World.shape?; rw [h]
  simp [convert,run_underlying (P:=Tryz.prog) Tryz.underlying23,run_underlying (P:=Tryz.prog) Tryz.underlying5,markStringish,hsh]
theorem xa8o {w:World} {g k:Nat} {C:Array Value} (h:w.heap[g]? = some (.cells C 5 (0,0))):(w.freeze ⟨g,k,none⟩ 1).heap[g]? = some (.cells C 5 (k,k + 1)):=by
  unfold World.freeze
  rw [if_neg (by decide)]
  show (w.heap.modify g _)[g]? = _
  rw [Array.getElem?_modify,if_pos rfl,h]
  rfl
theorem xa4g {L:List Nat} {X w:World} {g k:Nat} (h:Kept L X w) (hg:g∈L∨X.heap.size≤g):Kept L X (w.freeze ⟨g,k,none⟩ 1):=by
  unfold World.freeze
  rw [if_neg (by decide)]
  refine ⟨h.os,h.tape,h.output,?_,fun j hj hn=>?_⟩
  · show X.heap.size≤(w.heap.modify g _).size
    rw [Array.size_modify]; exact h.size
  · show (w.heap.modify g _)[j]? = _
    rw [Array.getElem?_modify,if_neg (by rintro rfl; rcases hg with h9 | h9; exact hn h9; omega)]
    exact h.block j hj hn
theorem aw_rt:rtE 2 [97] [] ps1 = 0∧rtD 2 [97] [] ps1 = sumD 2 (buckB ps1)∧rtV 2 [97] [] ps1 = some [49]:=by
  have h0:hfE 2 [97] [] [] = 0:=by decide
  have hp:∀ ks,provB 2 ks [] ps1 = true:=by intro ks; simp [provB,fitsB,ps1,risB,hanB]
  have h:=rtE_mk h0 (hp (keyS 2 [97]))
  refine ⟨h,?_,?_⟩
  · unfold rtD; rw [if_pos h]; rfl
  · unfold rtV; rw [if_pos h]; rfl
theorem aw_ck:ckE 2 (sumD 2 (buckB ps1)) [98] [] ps1 = 0∧ckV 2 (sumD 2 (buckB ps1)) [98] [] ps1 = none:=by
  have h0:hfE 2 [98] [] [] = 0:=by decide
  have hp:∀ ks,provB 2 ks [] ps1 = true:=by intro ks; simp [provB,fitsB,ps1,risB,hanB]
  have h:=rtE_mk h0 (hp (keyS 2 [98]))
  have hd:rtD 2 [98] [] ps1 = sumD 2 (buckB ps1):=by unfold rtD; rw [if_pos h]; rfl
  have hc:ckE 2 (sumD 2 (buckB ps1)) [98] [] ps1 = 0:=by rw [← hd]; exact agr_ok h
  refine ⟨hc,?_⟩
  unfold ckV rtV
  rw [if_pos hc,if_pos h]; rfl
def tupAt:Value→Nat→Value
  | .tuple vs,i=>vs.toList.getD i undef
  | _,_=>undef
set_option maxHeartbeats 2000000 in
theorem xb0q (w:World) (hT:Tabs w) :
    Calls Tryz.prog 33 #[] w fun e w'=>e = .returned (.bool true)∧Kept [] w w':=by
  have HT:=hide hT
  clear hT
  go_enter Tryz.func33,Tryz.ntmps33
  go_wp2_with fail
  refine Calls.mono (xa9y _) ?_
  rintro e w1 ⟨⟨v1,rfl,r1⟩,k1⟩
  have HR1:=hide r1
  obtain ⟨pa,pn,pc,_,_,rfl,_⟩:=id r1
  clear r1
  have kN:=(k1.alloc (.cells #[.slice none 0 0,.slice none 0 0] 64)).setRow (g:=w1.heap.size) (Or.inr k1.size) #[.slice none 0 0,.slice pa pn pc]
  have HN1:=hide (setRow_heap (w1.alloc (.cells #[.slice none 0 0,.slice none 0 0] 64)) w1.heap.size _ #[.slice none 0 0,.slice pa pn pc] 64 (0,0) (heap_alloc_new _ _))
  have HK1:=hide kN
  have HP1:=hide ((uh HR1).old (((Kept.refl [] w1).alloc (.cells #[.slice none 0 0,.slice none 0 0] 64)).setRow (g:=w1.heap.size) (Or.inr (Nat.le_refl _)) #[.slice none 0 0,.slice pa pn pc]))
  clear kN k1 HR1
  have hc1:=Go.Joins.run_convert_bytes_const_at (P:=Tryz.prog) ((w1.alloc (.cells #[.slice none 0 0,.slice none 0 0] 64)).setRow w1.heap.size #[.slice none 0 0,.slice pa pn pc]) 23 5 #[.int .u8 97] 1 1 (w1.heap.size + 1) (by simp) Tryz.underlying23 Tryz.underlying5
  have kc:=(Kept.refl [] ((w1.alloc (.cells #[.slice none 0 0,.slice none 0 0] 64)).setRow w1.heap.size #[.slice none 0 0,.slice pa pn pc])).alloc (.cells #[.int .u8 97] 5 (1,2))
  have HN2:=hide (kc.heap (uh HN1) (by simp))
  have HP2:=hide ((uh HP1).old kc)
  have HK2:=hide ((uh HK1).trans kc (by simp))
  have hz9:((w1.alloc (.cells #[.slice none 0 0,.slice none 0 0] 64)).setRow w1.heap.size #[.slice none 0 0,.slice pa pn pc]).heap.size = w1.heap.size + 1:=by simp
  have HB2:=hide (rd_row (n:=1) [97] (heap_alloc_new ((w1.alloc (.cells #[.slice none 0 0,.slice none 0 0] 64)).setRow w1.heap.size #[.slice none 0 0,.slice pa pn pc]) (.cells #[.int .u8 97] 5 (1,2))) rfl (by decide) rfl (by decide))
  rw [hz9] at HB2
  clear kc hz9 HN1 HP1 HK1
  go_wp2_with (first
    | (show wpList _ _ _ [_] _ (World.alloc _ _); refine wpList_store_row rfl 64 _ _ rfl w1.heap.size #[.slice none 0 0,.slice pa pn pc] rfl rfl _ #[.slice none 0 0,.slice none 0 0] (heap_alloc_new _ _) (by kernel_rfl) rfl (by simp [Value.oneCell']) ?_)
    | (refine wpList_load_row rfl 64 _ rfl w1.heap.size rfl _ #[.slice none 0 0,.slice pa pn pc] (0,0) _ (uh HN2) Tryz.underlying64 rfl (by kernel_rfl) ?_))
  obtain ⟨X,hX⟩:∃ X,((w1.alloc (.cells #[.slice none 0 0,.slice none 0 0] 64)).setRow w1.heap.size #[.slice none 0 0,.slice pa pn pc]).alloc (.cells #[.int .u8 97] 5 (1,2)) = X:=⟨_,rfl⟩
  have hX':(#[Value.int IntKind.u8 97]:Array Value).size = 1:=rfl
  simp only [hX',Nat.reduceAdd] at hc1 ⊢
  rw [hX] at HN2 HP2 HK2 HB2 ⊢
  clear hX hX' hc1
  refine Calls.mono (xa2z 2 _ [97] _ _ [] ps1 _ (by decide) (uh HB2) (RdS.nil _) (uh HP2) ((uh HT).k (uh HK2)) ps1_pb (by decide) (by decide) (by simp)) ?_
  rintro e w2 ⟨⟨v2,rfl,r2⟩,k2⟩
  rw [aw_rt.1,aw_rt.2.1]
  rw [aw_rt.2.2] at r2 ⊢
  have HV2:=hide r2
  obtain ⟨va,vn,vc,rfl,_⟩:=id r2
  have HDG:=hide (xa1v 2 (buckB ps1))
  generalize hD:sumD 2 (buckB ps1) = D at HDG ⊢
  have HD:=hide hD
  clear hD r2
  have hdl:=(uh HDG).1
  have HSZ:=hide (Tryz.szD hdl)
  have kN:=(k2.alloc (.cells (zb 32) 58)).setRow (g:=w2.heap.size) (Or.inr k2.size) (brow D)
  have kS:=((Kept.refl [] w2).alloc (.cells (zb 32) 58)).setRow (g:=w2.heap.size) (Or.inr (Nat.le_refl _)) (brow D)
  have HD3:=hide (setRow_heap (w2.alloc (.cells (zb 32) 58)) w2.heap.size (zb 32) (brow D) 58 (0,0) (heap_alloc_new _ _))
  have HN3:=hide (kN.heap (uh HN2) (by simp))
  have HP3:=hide ((uh HP2).old kN)
  have HK3:=hide ((uh HK2).trans kN (by simp))
  have HV3:=hide ((uh HV2).old kS (by simp))
  clear kN kS k2 HN2 HP2 HK2 HB2 HV2
  have c3:((w2.alloc (.cells (zb 32) 58)).setRow w2.heap.size (brow D)).cell? ⟨w1.heap.size,1,none⟩ = some (.slice pa pn pc):=cell_of_row _ _ 1 _ _ _ (uh HN3)
  go_wp2_with (first
    | (rw [zb32]; refine wpList_store_row rfl 58 _ _ rfl w2.heap.size (brow D) rfl rfl _ (zb 32) (heap_alloc_new _ _) (uh HSZ) (by rw [xa0d,xa0a,hdl]) (xa0c _) ?_))
  have c30:((w2.alloc (.cells (zb 32) 58)).setRow w2.heap.size (brow D)).cell? ⟨w1.heap.size,0,none⟩ = some (.slice none 0 0):=cell_of_row _ _ 0 _ _ _ (uh HN3)
  obtain ⟨X,hX⟩:∃ X,(w2.alloc (.cells (zb 32) 58)).setRow w2.heap.size (brow D) = X:=⟨_,rfl⟩
  rw [hX] at HD3 HN3 HP3 HK3 HV3 c3 c30 ⊢
  clear hX
  have hgx:w1.heap.size < X.heap.size:=lt_of_block (uh HN3)
  have hxx:X.heap.size≤X.heap.size∧w1.heap.size < X.heap.size:=⟨Nat.le_refl _,hgx⟩
  have HTX:=hide ((uh HT).k (uh HK3))
  have HCB:=hide (fun w0 (hw0:Kept [] X w0)=>xa3b 2 (.slice pa pn pc) ps1 w0 (by decide) ((uh HP3).old hw0) ps1_pb)
  rw [show sumD ((2:Nat):Int) (buckB ps1) = D from uh HD] at HCB
  have HCC:=hide (fun w0 (hw0:Kept [] X w0) kv (hk:Rd w0 kv [98])=>xa6w 2 D kv [98] (.slice none 0 0) (.slice pa pn pc) [] ps1 w0 (by decide) (uh HDG) hk (RdS.nil _) ((uh HP3).old hw0) ((uh HTX).k hw0) ps1_pb (by decide) (by decide) (by simp))
  have hck:=aw_ck
  rw [uh HD] at hck
  rw [hck.1,hck.2] at HCC
  clear hck
  refine xb6b (by kernel_rfl) (by kernel_rfl) (by kernel_rfl) (by kernel_rfl) (by kernel_rfl) (by kernel_rfl) (by kernel_rfl) (by kernel_rfl) (by kernel_rfl) (by kernel_rfl) (by kernel_rfl) (by kernel_rfl) (by kernel_rfl) (by kernel_rfl) (by kernel_rfl) (by kernel_rfl) (by kernel_rfl) (by kernel_rfl) (by kernel_rfl) (by kernel_rfl) (by kernel_rfl) (by kernel_rfl) (by kernel_rfl) (by kernel_rfl) (by kernel_rfl) (by kernel_rfl) (by kernel_rfl) (by kernel_rfl) (by kernel_rfl) rfl rfl rfl rfl (by simp) (by simp)
    (.pointer (some ⟨w1.heap.size,1,none⟩)) (.slice pa pn pc) (.agg #[.slice none 0 0,.slice pa pn pc]) _ _ _
    (fun w'=>Kept [] X w')
    (fun w'=>Kept [] X w')
    (fun u2 w'=>u2 = .agg (brow D)∧Kept [] X w')
    (fun u3 w'=>∃ g,u3 = .slice (some ⟨g,0,none⟩) 1 1∧X.heap.size≤g∧w'.heap[g]? = some (.cells #[.int .u8 98] 5 (0,0))∧Kept [] X w')
    (fun u2 u3 w'=>u2 = .agg (brow D)∧∃ g,u3 = .slice (some ⟨g,0,none⟩) 1 1∧X.heap.size≤g∧w'.heap[g]? = some (.cells #[.int .u8 98] 5 (0,0))∧Kept [] X w')
    (fun u3 u4 w'=>Rd w' u4 [98]∧Kept [] X w')
    (fun u2 u3 u4 w'=>u2 = .agg (brow D)∧Rd w' u4 [98]∧Kept [] X w')
    (fun u2 u3 u4 u6 w'=>∃ a c,u6 = .tuple #[.slice a 0 c,.bool false,.int .i64 0]∧Kept [] X w')
    (fun u=>u) (fun u=>tupAt u 0) (fun u=>tupAt u 1) (fun u=>tupAt u 2) (fun u=>tupAt u 0) (fun u=>tupAt u 1) (fun u=>tupAt u 2)
    (by simp only [Act.put,sa1,sa2,sa3]; rfl) (by exact Or.inl ⟨by rfl,fun W' hW'=>by go_simp⟩)
    (by simp only [Act.put,sa1,sa2,sa3]; rfl) (by exact Or.inl ⟨by rfl,fun W' hW'=>by have h9:=hW'.cell c3 (by simp); go_simp⟩)
    (by simp only [Act.put,sa1,sa2,sa3]; rfl) (by exact Or.inl ⟨by rfl,fun W' hW'=>by have h9:=hW'.cell c3 (by simp); have h8:=hW'.cell c30 (by simp); go_simp⟩)
    (Kept.refl [] X).drew
    ⟨fun w' h=>h,fun u2 w' h=>h.2,fun u3 w' h=>by obtain ⟨g,_,_,_,h⟩:=h; exact h,fun u2 u3 w' h=>by obtain ⟨_,g,_,_,_,h⟩:=h; exact h,fun u3 u4 w' h=>h.2,fun u2 u3 u4 w' h=>h.2.2,fun u2 u3 u4 u6 w' h=>by obtain ⟨a,c,_,h⟩:=h; exact h⟩
    (by intro w' i K hK; exact xa3r rfl Tryz.call68 [.int .i64 2,.slice pa pn pc] rfl (uh HCB w' i) (fun e w2 h=>⟨_,h.1,hK _ _ ⟨rfl,i.trans h.2 (by simp)⟩⟩))
    (by intro w' i K hK; unfold Oper.wp execOp; go_simp; exact hK _ _ ⟨_,rfl,i.size,heap_alloc_new _ _,i.alloc _⟩)
    (by rintro u2 w' ⟨rfl,i⟩ K hK; unfold Oper.wp execOp; go_simp; exact hK _ _ ⟨rfl,_,rfl,i.size,heap_alloc_new _ _,i.alloc _⟩)
    (by rintro u3 w' ⟨g,rfl,hg,hh,i⟩ K hK; exact xa3r rfl Tryz.call68 [.int .i64 2,.slice pa pn pc] rfl (uh HCB w' i) (fun e w2 h=>⟨_,h.1,hK _ _ ⟨rfl,_,rfl,hg,h.2.heap hh (by simp),i.trans h.2 (by simp)⟩⟩))
    (by rintro u3 w' ⟨g,rfl,hg,hh,i⟩ K hK; have hcv:=xa4q (n:=1) (c:=1) hh; unfold Oper.wp execOp; go_simp; exact hK _ _ ⟨rd_row [98] (xa8o hh) rfl (by decide) 1 rfl (by decide),xa4g i (Or.inr hg)⟩)
    (by rintro u2 u3 w' ⟨rfl,g,rfl,hg,hh,i⟩ K hK; have hcv:=xa4q (n:=1) (c:=1) hh; unfold Oper.wp execOp; go_simp; exact hK _ _ ⟨rfl,rd_row [98] (xa8o hh) rfl (by decide) 1 rfl (by decide),xa4g i (Or.inr hg)⟩)
    (by rintro u3 u4 w' ⟨hr,i⟩ K hK; exact xa3r rfl Tryz.call68 [.int .i64 2,.slice pa pn pc] rfl (uh HCB w' i) (fun e w2 h=>⟨_,h.1,hK _ _ ⟨rfl,hr.old h.2 (by simp),i.trans h.2 (by simp)⟩⟩))
    (by rintro u2 u3 u4 w' ⟨rfl,hr,i⟩ K hK; refine xa3r rfl Tryz.call37 [.int .i64 2,.agg (brow D),u4,.agg #[.slice none 0 0,.slice pa pn pc]] rfl (uh HCC w' i _ hr) ?_; rintro e w2 ⟨⟨v',rfl,hv⟩,k⟩; obtain ⟨a,n,c,rfl,hn,_⟩:=id hv; simp at hn; subst hn; exact ⟨_,rfl,hK _ _ ⟨a,c,rfl,i.trans k (by simp)⟩⟩)
    (by rintro u2 u3 u4 u6 w' ⟨a,c,rfl,_⟩; exact Or.inl ⟨by rfl,fun W' hW'=>by go_simp⟩)
    (by rintro u2 u3 u4 u6 w' ⟨a,c,rfl,_⟩; exact Or.inl ⟨by rfl,fun W' hW'=>by simp only [tupAt]; go_simp⟩)
    (by rintro u2 u3 u4 u6 w' ⟨a,c,rfl,_⟩; exact Or.inl ⟨by rfl,fun W' hW'=>by simp only [tupAt]; go_simp⟩)
    (by rintro u2 u3 u4 u6 w' ⟨a,c,rfl,_⟩; exact Or.inl ⟨by rfl,fun W' hW'=>by simp only [tupAt]; go_simp⟩)
    (by rintro u2 u3 u4 u6 w' ⟨a,c,rfl,_⟩; exact Or.inl ⟨by rfl,fun W' hW'=>by simp only [tupAt]; go_simp⟩)
    (by rintro u2 u3 u4 u6 w' ⟨a,c,rfl,_⟩; exact Or.inl ⟨by rfl,fun W' hW'=>by simp only [tupAt]; go_simp⟩)
    (by rintro u2 u3 u4 u6 w' ⟨a,c,rfl,_⟩; exact Or.inl ⟨by rfl,fun W' hW'=>by simp only [tupAt]; go_simp⟩)
    ?_
  rintro u2 u3 u4 u6 w6 ⟨sa,sc,rfl,k6⟩
  simp only [Act.put,sa1,sa2,sa3,tupAt,List.getD_cons_zero,List.getD_cons_succ]
  have HD4:=hide (k6.heap (uh HD3) (by simp))
  have HN4:=hide (k6.heap (uh HN3) (by simp))
  have HP4:=hide ((uh HP3).old k6)
  have HK4:=hide ((uh HK3).trans k6 (by simp))
  have HV4:=hide ((uh HV3).old k6 (by simp))
  have c4:=k6.cell c3 (by simp)
  clear k6 HD3 HN3 HP3 HK3 HV3 c3 c30 HCC
  have hne:∀ p:Prop,(∀ w',Kept [] w6 w'→p) = p:=fun p=>propext ⟨fun h=>h w6 (Kept.refl [] w6),fun h _ _=>h⟩
  have HCK:=hide (fun w' (hw':Kept [] w6 w')=>(xa3b 2 (.slice pa pn pc) ps1 w' (by decide) ((uh HP4).old hw') ps1_pb).mono (fun e w2 h2=>⟨h2.1,hw'.trans h2.2 (by simp)⟩):∀ w',Kept [] w6 w'→Calls Tryz.prog 68 #[.int .i64 2,.slice pa pn pc] w' fun e w2=>e = .returned (.agg (brow (sumD ((2:Nat):Int) (buckB ps1))))∧Kept [] w6 w2)
  rw [show sumD ((2:Nat):Int) (buckB ps1) = D from uh HD] at HCK
  have heq:=fun W=>dig_eq W D D hdl hdl
  rw [decide_eq_true rfl] at heq
  have HCV:=hide (fun w' (hw':Kept [] w6 w')=>xa7h (.slice va vn vc) [49] w' ((uh HV4).old hw' (by simp)) (by kernel_rfl) (by kernel_rfl))
  have hst:strOf [49] = ⟨#[49]⟩:=rfl
  rw [hst] at HCV
  clear hst HCB
  go_wp2_with fail
  refine xa0m (by kernel_rfl) (by kernel_rfl) ?_
  iterate 7 (go_big_quiet_step (fail))
  refine xa0j rfl (.string ⟨#[49]⟩) (fun w' hw'=>by have h9:=uh HCV w' hw'; unfold execOp; go_simp) ?_
  simp only [Act.put,List.setIfInBounds_toArray,List.set_cons_succ,List.set_cons_zero]
  iterate 3 (go_big_quiet_step (fail))
  refine xa0p rfl 58 (.tmp 2) rfl w2.heap.size rfl _ (brow D) (0,0) _ (fun w' hw'=>hw'.heap (uh HD4) (by simp)) Tryz.underlying58 rfl (uh HSZ) ?_
  simp only [Act.put,List.setIfInBounds_toArray,List.set_cons_succ,List.set_cons_zero]
  go_big_quiet_step (fail)
  refine xa0j rfl (.slice pa pn pc) (fun w' hw'=>by have h9:=hw'.cell c4 (by simp); go_simp) ?_
  simp only [Act.put,List.setIfInBounds_toArray,List.set_cons_succ,List.set_cons_zero]
  go_big_quiet_want
  go_big_quiet_op
  apply Exists.intro
  refine ⟨fun w' hw'=>?_,?_⟩
  · exact uh HCK w' hw'
  go_big_quiet_on
  refine xa0j rfl (.bool true) (fun w' hw'=>xa8k 58 (.tmp 41) (.tmp 44) _ rfl (brow D) (brow D) rfl rfl w' true (by kernel_rfl) (heq w')) ?_
  simp only [Act.put,List.setIfInBounds_toArray,List.set_cons_succ,List.set_cons_zero]
  repeat (go_big_quiet_step (fail))
  refine wpQuiet_nil ?_
  intro w7 hw7
  have HK7:=hide ((uh HK4).trans hw7 (by simp))
  clear hw7
  go_wp2
  go_ret
  exact ⟨rfl,uh HK7⟩
theorem xb0s {q v:List Nat}:fitP q v = true↔q.length≤64∧v.length≤256:=by unfold fitP; exact decide_eq_true_iff
set_option maxHeartbeats 4000000 in
theorem xb9d (x y:Value) (q v:List Nat) (w:World) (hx:Rd w x q) (hy:Rd w y v) :
    Calls Tryz.prog 34 #[.agg #[x,y]] w fun e w'=>e = .returned (.bool (fitP q v))∧Kept [] w w':=by
  obtain ⟨xa,xn,xc,rfl,hxn,_⟩:=id hx
  obtain ⟨ya,yn,yc,rfl,hyn,_⟩:=id hy
  have hK:=(Kept.refl [] w).alloc (.cells #[.slice xa xn xc,.slice ya yn yc] 33)
  have HK:=hide hK
  have hA:=heap_alloc_new w (.cells #[.slice xa xn xc,.slice ya yn yc] 33)
  have c0:(w.alloc (.cells #[.slice xa xn xc,.slice ya yn yc] 33)).cell? ⟨w.heap.size,0,none⟩ = some (.slice xa xn xc):=cell_of_row _ _ 0 _ _ _ hA
  have c1:(w.alloc (.cells #[.slice xa xn xc,.slice ya yn yc] 33)).cell? ⟨w.heap.size,1,none⟩ = some (.slice ya yn yc):=cell_of_row _ _ 1 _ _ _ hA
  have hf:fitP q v = (decide (xn≤64) && decide (yn≤256)):=by
    rw [Bool.eq_iff_iff,xb0s,hxn,hyn]; simp
  rw [hf]
  clear hx hy hK hA hxn hyn hf
  have HC0:=hide c0
  have HC1:=hide c1
  clear c0 c1
  by_cases h1:xn≤64
  · have h1':(xn:Int)≤64:=by omega
    by_cases h2:yn≤256
    · have h2':(yn:Int)≤256:=by omega
      rw [decide_eq_true h1,decide_eq_true h2]
      go_enter Tryz.func34,Tryz.ntmps34
      go_upto_region 1 with fail
      have c0:=uh HC0
      have c1:=uh HC1
      go_wp2_with fail
      go_ret
      exact ⟨rfl,uh HK⟩
    · have h2':¬ (yn:Int)≤256:=by omega
      rw [decide_eq_true h1,decide_eq_false h2]
      go_enter Tryz.func34,Tryz.ntmps34
      go_upto_region 1 with fail
      have c0:=uh HC0
      have c1:=uh HC1
      go_wp2_with fail
      go_ret
      exact ⟨rfl,uh HK⟩
  · have h1':¬ (xn:Int)≤64:=by omega
    rw [decide_eq_false h1,Bool.false_and]
    go_enter Tryz.func34,Tryz.ntmps34
    go_upto_region 1 with fail
    have c0:=uh HC0
    have c1:=uh HC1
    go_wp2_with fail
    go_ret
    exact ⟨rfl,uh HK⟩
set_option maxHeartbeats 8000000 in
theorem xb3t (S:Nat→Prop) (k:Nat) (hk:1≤k∧k≤32) (pv:Value) (ps:Prs) (w:World) (hP:RdK w pv ps) (hf:Fit ps) (hl:ps.length≤100000000) (hS:∀ y,w.heap.size≤y→S y) (hTb:Tabs w) :
    Calls Tryz.prog 35 #[.int .i64 k,pv] w fun e w'=>∃ g,e = .returned (.tuple #[.pointer (some ⟨g,0,none⟩),.bool true])∧MapAt S k w' (.pointer (some ⟨g,0,none⟩)) (insAll (hsZ k) [] ps)∧Kept [] w w':=by
  obtain ⟨ao,n,c,ks,vs,rfl,hn,hc1,hc2,hrd,hcell⟩:=hP
  have HN:=hide hn
  rw [hn] at hl
  have HRD:=hide hrd
  have HCE:=hide hcell
  have HF:=hide hf
  clear hn hrd hcell hf
  have HS:=hide hS
  have HTb:=hide hTb
  clear hS hTb
  go_enter Tryz.func35,Tryz.ntmps35
  go_wp2_with fail
  refine Calls.mono (xb9j S k w hk (uh HS)) ?_
  rintro e w1 ⟨m1,rfl,hm1,k1⟩
  obtain ⟨g1,rfl⟩:=xb2t hm1
  have HM1:=hide hm1
  have HK1:=hide k1
  clear hm1 k1
  go_wp2_with fail
  go_loopw [6,7,17] (fun t6 t7 t17 wr=>∃ (j g:Nat),t17 = .int .i64 j∧t6 = .pointer (some ⟨g,0,none⟩)∧t7 = .int .i64 0∧j≤n∧Hid (MapAt S k wr (.pointer (some ⟨g,0,none⟩)) (insAll (hsZ k) [] (ps.take j)))∧Hid (Kept [] w wr)) (fun _ _ t _=>n - (intOf t).toNat)
  case atStart=>exact ⟨0,g1,rfl,rfl,rfl,Nat.zero_le _,HM1,HK1⟩
  case round =>
    clear HM1 HK1
    obtain ⟨j,g,rfl,rfl,rfl,hj,HMx,HKr⟩:=hrel
    by_cases hlt:j < n
    · have hlt':(j:Int) < n:=by omega
      have hjL:j < ps.length:=by have:=uh HN; omega
      obtain ⟨b,off,rfl,hcl⟩:=uh HCE (by omega)
      obtain ⟨hx1,hx2⟩:=hcl j hlt
      obtain ⟨hr1,hr2⟩:=uh HRD j hlt
      have HTK:=hide (xb4p (hsZ k) ps j hjL)
      have hfq:=uh HF (ps.getD j ([],[])) (by rw [List.getD_eq_getElem?_getD,List.getElem?_eq_getElem hjL]; exact List.getElem_mem hjL)
      generalize ks.getD j undef = kx at hx1 hr1
      generalize vs.getD j undef = vx at hx2 hr2
      generalize ps.getD j ([],[]) = ej at hr1 hr2 HTK hfq
      obtain ⟨ka,va⟩:=ej
      have HFQ:=hide hfq
      have HR1:=hide hr1
      have HR2:=hide hr2
      obtain ⟨x1,x2,x3,rfl,_⟩:=id hr1
      obtain ⟨y1,y2,y3,rfl,_⟩:=id hr2
      have hm1:=(uh HKr).cell hx1 (by simp)
      have hm2:=(uh HKr).cell hx2 (by simp)
      have HRG:=hide (show wr.rangeAt b (off + j * 2) [.slice x1 x2 x3,.slice y1 y2 y3] from fun i u hi=>by
        match i,hi with
        | 0,hi=>rw [Nat.add_zero,hm1]; exact hi
        | 1,hi=>rw [hm2]; exact hi)
      have HP2:=hide (heap_alloc_new wr (.cells #[.slice x1 x2 x3,.slice y1 y2 y3] 33))
      have HK2:=hide ((Kept.refl [] wr).alloc (.cells #[.slice x1 x2 x3,.slice y1 y2 y3] 33))
      clear hx1 hx2 hr1 hr2 hm1 hm2 hcl hfq
      go_upto_region 5 with (refine wpList_load_mid rfl 33 (.tmp 19) rfl b (off + j * 2) rfl [.slice x1 x2 x3,.slice y1 y2 y3] _ (uh HRG) Tryz.underlying33 rfl Tryz.size_pair ?_)
      try simp only [Act.put]
      generalize wr.alloc (.cells #[.slice x1 x2 x3,.slice y1 y2 y3] 33) = W2 at HP2 HK2 ⊢
      have hcp:=xa0t [] [.slice x1 x2 x3,.slice y1 y2 y3] [] (uh HP2) rfl
      have hQ1:=(show W2.cell? ⟨wr.heap.size,0,none⟩ = some (.slice x1 x2 x3) from hcp 0 _ rfl)
      have hQ2:=(show W2.cell? ⟨wr.heap.size,1,none⟩ = some (.slice y1 y2 y3) from hcp 1 _ rfl)
      have HK02:=hide ((uh HKr).trans (uh HK2) (by simp))
      have hil:=xa5j (hsZ k) (ps.take j) []
      have HLN:=hide (show (insAll (hsZ k) [] (ps.take j)).length < 1000000000 by rw [List.length_take] at hil; simp at hil; omega)
      clear hcp hil
      go_wp2_with fail
      refine Calls.mono (xb8g S k _ _ _ _ ka va W2 ((uh HMx).agr (Agr.nil (uh HK2))) ((uh HR1).old (uh HK02) (by simp)) ((uh HR2).old (uh HK02) (by simp)) (uh HFQ).1 (uh HFQ).2 (uh HLN) (fun y hy=>uh HS y (by have:=(uh HK02).size; omega)) ((uh HTb).k (uh HK02))) ?_
      rintro e w4 ⟨m4,rfl,hm4,k4⟩
      obtain ⟨g4,rfl⟩:=xb2t hm4
      have HM4:=hide hm4
      have HK4:=hide ((uh HK02).trans k4 (by simp))
      clear hm4 k4 hQ1 hQ2
      go_wp2_with fail
      refine ⟨⟨j + 1,g4,by go_num,rfl,rfl,hlt,hide (by rw [uh HTK]; exact uh HM4),HK4⟩,?_⟩
      simp [intOf]; omega
    · have hje:j = n:=by omega
      subst hje
      have hlt':¬ (j:Int) < j:=by omega
      have h9:=uh HMx
      rw [List.take_of_length_le (by have:=uh HN; omega)] at h9
      have H9:=hide h9
      clear h9
      go_wp2
      go_ret2
      exact ⟨g,rfl,uh H9,uh HKr⟩
set_option maxHeartbeats 8000000 in
theorem hcheckHonest_walk (z:Int) (pv:Value) (ps:Prs) (kv:Value) (q:List Nat) (w:World) (hz:-9223372036854775808≤z∧z≤9223372036854775807) (hP:RdK w pv ps) (hx:kwt ps≤1048576) (hku:Rd w kv q) (hql:q.length≤1048576) (hT:Tabs w) :
    Calls Tryz.prog 5 #[.int .i64 z,pv,kv] w fun e w'=>e = .returned (.bool true)∧Below w.heap.size w w':=by
  have hpl:=xb2j ps
  have hpl2:ps.length≤1000000:=by omega
  obtain ⟨S,hS⟩:∃ S:Nat→Prop,S = fun _=>True:=⟨_,rfl⟩
  have HS:=hide (show ∀ (n y:Nat),n≤y→S y from fun _ _ _=>by rw [hS]; trivial)
  have HT:=hide hT
  have HP:=hide hP
  have HPL:=hide hpl2
  have HKU:=hide hku
  obtain ⟨ao,n,c,ks,vs,rfl,hn,hc1,hc2,hrd,hcell⟩:=id hP
  have HN:=hide hn
  have HRD:=hide hrd
  have HCE:=hide hcell
  obtain ⟨ka,kn,kc,rfl,hkn,_⟩:=id hku
  have HKN:=hide hkn
  have hn6:n≤1000000:=by omega
  clear hT hS hpl hpl2 hx hP hku hql hn hrd hcell hkn
  go_enter Tryz.func5,Tryz.ntmps5
  go_wp2_with fail
  refine Calls.mono (xb0q w (uh HT)) ?_
  rintro e w1 ⟨rfl,k1⟩
  have HK1:=hide k1
  clear k1
  go_wp2_with fail
  go_loopw [27] (fun t27 wr=>∃ (j:Nat),t27 = .int .i64 j∧j≤n∧Hid (∀ p∈ps.take j,p.1.length≤64∧p.2.length≤256)∧Hid (Kept [] w wr)) (fun t _=>n - (intOf t).toNat)
  case atStart=>exact ⟨0,rfl,Nat.zero_le _,hide (by simp),HK1⟩
  case round =>
    clear HK1
    obtain ⟨j,rfl,hj,HFj,HKr⟩:=hrel
    by_cases hlt:j < n
    · have hlt':(j:Int) < n:=by omega
      have hjL:j < ps.length:=by have:=uh HN; omega
      obtain ⟨b,off,rfl,hcl⟩:=uh HCE (by omega)
      obtain ⟨hx1,hx2⟩:=hcl j hlt
      obtain ⟨hr1,hr2⟩:=uh HRD j hlt
      have HTK:=hide (show ps.take (j + 1) = ps.take j++[ps.getD j ([],[])] by rw [List.take_succ_eq_append_getElem hjL,List.getD_eq_getElem?_getD,List.getElem?_eq_getElem hjL]; rfl)
      generalize ks.getD j undef = kx at hx1 hr1
      generalize vs.getD j undef = vx at hx2 hr2
      generalize ps.getD j ([],[]) = ej at hr1 hr2 HTK
      obtain ⟨qa,va⟩:=ej
      have HR1:=hide hr1
      have HR2:=hide hr2
      obtain ⟨x1,x2,x3,rfl,_⟩:=id hr1
      obtain ⟨y1,y2,y3,rfl,_⟩:=id hr2
      have hm1:=(uh HKr).cell hx1 (by simp)
      have hm2:=(uh HKr).cell hx2 (by simp)
      have HRG:=hide (show wr.rangeAt b (off + j * 2) [.slice x1 x2 x3,.slice y1 y2 y3] from fun i u hi=>by
        match i,hi with
        | 0,hi=>rw [Nat.add_zero,hm1]; exact hi
        | 1,hi=>rw [hm2]; exact hi)
      have HP2:=hide (heap_alloc_new wr (.cells #[.slice x1 x2 x3,.slice y1 y2 y3] 33))
      have HK2:=hide ((Kept.refl [] wr).alloc (.cells #[.slice x1 x2 x3,.slice y1 y2 y3] 33))
      clear hx1 hx2 hr1 hr2 hm1 hm2 hcl
      go_upto_region 6 with (refine wpList_load_mid rfl 33 (.tmp 29) rfl b (off + j * 2) rfl [.slice x1 x2 x3,.slice y1 y2 y3] _ (uh HRG) Tryz.underlying33 rfl Tryz.size_pair ?_)
      try simp only [Act.put]
      generalize wr.alloc (.cells #[.slice x1 x2 x3,.slice y1 y2 y3] 33) = W2 at HP2 HK2 ⊢
      have HK02:=hide ((uh HKr).trans (uh HK2) (by simp))
      go_wp2_with (refine wpList_load_row rfl 33 (.tmp 8) rfl wr.heap.size rfl 33 #[.slice x1 x2 x3,.slice y1 y2 y3] (0,0) _ (uh HP2) Tryz.underlying33 rfl Tryz.size_pair ?_)
      refine Calls.mono (xb9d _ _ qa va W2 ((uh HR1).old (uh HK02) (by simp)) ((uh HR2).old (uh HK02) (by simp))) ?_
      rintro e w4 ⟨rfl,k4⟩
      have HK4:=hide ((uh HK02).trans k4 (by simp))
      clear k4
      cases hfp:fitP qa va with
      | false =>
        clear hfp
        go_wp2_with fail
        go_ret
        exact ⟨rfl,(uh HK4).below (Nat.le_refl _) (by simp)⟩
      | true =>
        have HF2:=hide (xb0s.1 hfp)
        clear hfp
        go_wp2_with fail
        refine ⟨⟨j + 1,by go_num,hlt,hide (by
          rw [uh HTK]
          intro p hp
          rcases List.mem_append.1 hp with h | h
          · exact uh HFj p h
          · rw [List.mem_singleton] at h; rw [h]; exact uh HF2),HK4⟩,?_⟩
        simp [intOf]; omega
    · have hje:j = n:=by omega
      subst hje
      have hlt':¬ (j:Int) < j:=by omega
      have hfit:=uh HFj
      rw [List.take_of_length_le (by have:=uh HN; omega)] at hfit
      have HFT:=hide (show Fit ps from hfit)
      clear hfit HFj
      cases hw:widthB z with
      | false =>
        have h0:¬ (1≤z∧z≤32):=by simpa [widthB] using hw
        by_cases h1:z < 1
        · go_wp2_with fail
          go_ret
          exact ⟨rfl,(uh HKr).below (Nat.le_refl _) (by simp)⟩
        · have h2:z > 32:=by omega
          have h3:(32:Int) < z:=h2
          clear h0 hw
          go_wp2_with fail
          go_ret
          exact ⟨rfl,(uh HKr).below (Nat.le_refl _) (by simp)⟩
      | true =>
        obtain ⟨k,rfl,hk⟩:=xa9u hw
        clear hw hz
        have hz1:¬ (k:Int) < 1:=by omega
        have hz2:¬ (32:Int) < k:=by omega
        have hz3:¬ (k:Int) > 32:=by omega
        by_cases hq9:64 < q.length
        · have hk1:(64:Int) < kn:=by have:=uh HKN; omega
          have hk2:(kn:Int) > 64:=hk1
          go_wp2_with fail
          go_ret
          exact ⟨rfl,(uh HKr).below (Nat.le_refl _) (by simp)⟩
        · have hk1:¬ (64:Int) < kn:=by have:=uh HKN; omega
          have hk2:¬ (kn:Int) > 64:=hk1
          have HQ:=hide (show q.length≤64 by omega)
          clear hq9
          go_wp2_with fail
          refine Calls.mono (xb3t S k hk _ ps wr ((uh HP).old (uh HKr)) (uh HFT) (by have:=uh HPL; omega) (uh HS _) ((uh HT).k (uh HKr))) ?_
          rintro e w3 ⟨g,rfl,hm3,k3⟩
          have HM3:=hide hm3
          have HK3:=hide ((uh HKr).trans k3 (by simp))
          have HSR:=hide hm3.srt
          have hil:=xa5j (hsZ k) ps []
          have HLE:=hide (show (insAll (hsZ k) [] ps).length≤1000000 by have:=uh HPL; simp at hil; omega)
          have HFI:=hide hm3.fit
          have HZK:=hide (show -9223372036854775808≤(k:Int)∧(k:Int)≤9223372036854775807 by omega)
          clear hm3 k3 hil HKr
          generalize insAll (hsZ k) [] ps = L at HM3 HSR HLE HFI
          clear hz1 hz2 hz3 hk1 hk2
          go_wp2_with fail
          refine Calls.mono (xb4i S k _ _ L q w3 (uh HM3) ((uh HKU).old (uh HK3) (by simp)) (uh HQ) ((uh HT).k (uh HK3))) ?_
          rintro e w8 ⟨sv,pv,rfl,hp8,k8⟩
          obtain ⟨s1,s2,s3,p1,p2,p3,rfl,rfl⟩:=hp8.p.form
          obtain ⟨ss,es,hpc⟩:=hp8.p.h hk (uh HQ) (uh HSR) (uh HFI) (by have:=uh HLE; omega)
          have HA:=hide (heap_alloc_new w8 (.cells #[.slice s1 s2 s3,.slice p1 p2 p3] 64))
          have hka:=(Kept.refl [] w8).alloc (.cells #[.slice s1 s2 s3,.slice p1 p2 p3] 64)
          have HM9:=hide ((uh HM3).agr (Agr.nil (k8.trans hka (by simp))))
          have HK9:=hide ((uh HK3).trans (k8.trans hka (by simp)) (by simp))
          have HP9:=hide (hpc.old hka)
          obtain ⟨w9,hw9⟩:∃ w9,w8.alloc (.cells #[.slice s1 s2 s3,.slice p1 p2 p3] 64) = w9:=⟨_,rfl⟩
          rw [hw9] at HA HM9 HK9 HP9
          clear hp8 k8 hka hpc HM3 HK3
          go_upto_region 15 with fail
          try rw [hw9]
          clear hw9
          go_wp2_with fail
          refine Calls.mono (xb9l S k _ _ L q w9 (uh HM9) ((uh HKU).old (uh HK9) (by simp)) (uh HQ) ((uh HT).k (uh HK9))) ?_
          rintro e w10 ⟨v10,rfl,r10,_,k10⟩
          obtain ⟨va,vn,vc,rfl,_⟩:=id r10
          have HV10:=hide r10
          have HA10:=hide (k10.heap (uh HA) (by simp))
          have HM10:=hide ((uh HM9).agr (Agr.nil k10))
          have HK10:=hide ((uh HK9).trans k10 (by simp))
          have HP10:=hide ((uh HP9).old k10)
          have HFN:=hide (show fnd q L = (getP q L).isSome by unfold fnd; cases (getP q L).isSome <;> rfl)
          generalize fnd q L = FN at HFN ⊢
          clear r10 k10 HA HM9 HK9 HP9
          go_wp2_with (refine wpList_load_row rfl 64 (.tmp 11) rfl w8.heap.size rfl 64 #[.slice s1 s2 s3,.slice p1 p2 p3] (0,0) _ (uh HA10) Tryz.underlying64 rfl Tryz.size_kp ?_)
          have HPC:=uh HP10
          refine Calls.mono (xa2z (k:Int) _ q _ _ ss es w10 (uh HZK) ((uh HKU).old (uh HK10) (by simp)) HPC.s HPC.p ((uh HT).k (uh HK10)) HPC.pb (Nat.le_trans HPC.sl (by decide)) HPC.pl HPC.kl) ?_
          rw [HPC.e,HPC.d,HPC.v,show ((0:Nat):Int) = 0 from rfl]
          rintro e w11 ⟨⟨v11,rfl,r11⟩,k11⟩
          clear HPC
          rw [← uh HFN]
          obtain ⟨xa,xn,xc,rfl,_⟩:=id r11
          have hRl:=xb4m hk L
          have HRd:=hide hRl
          have HROOT:=hide (fun (W:World) (hW:Kept [] w10 W)=>xb6u S k _ L W ((uh HM10).agr (Agr.nil hW)) ((uh HT).k ((uh HK10).trans hW (by simp))))
          have HCK:=hide (fun (W:World) (hW:Kept [] w10 W)=>(have hp:=(uh HP10).old hW; xa6w (k:Int) (rootP k L) _ q _ _ ss es W (uh HZK) hRl ((uh HKU).old ((uh HK10).trans hW (by simp)) (by simp)) hp.s hp.p ((uh HT).k ((uh HK10).trans hW (by simp))) hp.pb (Nat.le_trans hp.sl (by decide)) hp.pl hp.kl))
          rw [(uh HP10).ce,(uh HP10).cv,← uh HFN,show ((0:Nat):Int) = 0 from rfl] at HCK
          have hrl:(rootP k L).length = 32:=hRl.1
          generalize rootP k L = R at HROOT HCK HRd hRl hrl ⊢
          have HV11:=hide r11
          have HZ1:=hide (heap_alloc_new w11 (.cells (zb 32) 58))
          have HX0:=hide (setRow_heap _ _ _ (brow R) _ _ (uh HZ1))
          have HKz:=hide ((Kept.refl [] w11).alloc (.cells (zb 32) 58) |>.setRow (g:=w11.heap.size) (Or.inr (Nat.le_refl _)) (brow R))
          have HSD:=hide (by rw [xa0a,hrl]; exact Tryz.size_dig:(Tryz.prog.info? 58).map (·.size) = some (brow R).size)
          obtain ⟨w12,hw12⟩:∃ w12,(w11.alloc (.cells (zb 32) 58)).setRow w11.heap.size (brow R) = w12:=⟨_,rfl⟩
          rw [hw12] at HX0 HKz
          have HK1012:=hide (k11.trans (uh HKz) (by simp))
          have HV12:=hide ((uh HV11).old (uh HKz) (by simp))
          have HU12:=hide ((uh HV10).old (uh HK1012) (by simp))
          have HA12:=hide (xa0t [] [.slice s1 s2 s3,.slice p1 p2 p3] [] ((uh HK1012).heap (uh HA10) (by simp)) rfl:w12.rangeAt w8.heap.size 0 [.slice s1 s2 s3,.slice p1 p2 p3])
          clear k11 r11 HV11 HKz hRl
          go_upto_region 17 with (rw [zb32]; refine wpList_store_row rfl 58 (.tmp 16) (.tmp 72) rfl w11.heap.size (brow R) rfl rfl _ (zb 32) (uh HZ1) (uh HSD) (by rw [xa0d,xa0a,hrl]) (xa0c _) ?_; rw [hw12]; simp only [Act.put])
          clear hw12
          have hd4:=(Kept.refl [] w12).drew
          refine lp_a11 (by kernel_rfl) (by kernel_rfl) rfl (fun W=>Kept [] w12 W) hd4 ?_
          refine LinY.rd (.int .i64 k) (fun W hW=>by go_simp) (by simp only [Act.put,sa1,sa2,sa3]; rfl) ?_
          refine LinY.rd (.pointer (some ⟨g,0,none⟩)) (fun W hW=>by go_simp) (by simp only [Act.put,sa1,sa2,sa3]; rfl) ?_
          refine LinY.rd (.slice ka kn kc) (fun W hW=>by go_simp) (by simp only [Act.put,sa1,sa2,sa3]; rfl) ?_
          refine LinY.ld 64 (.tmp 11) rfl w8.heap.size 0 rfl [.slice s1 s2 s3,.slice p1 p2 p3] _ (fun W hW=>hW.rng (uh HA12) (by simp)) Tryz.underlying64 rfl Tryz.size_kp (by simp only [Act.put,sa1,sa2,sa3]; rfl) ?_
          refine LinY.fin (ChL.call rfl Tryz.call38 [.pointer (some ⟨g,0,none⟩)] rfl (uh HROOT w12.drew ((uh HK1012).trans hd4 (by simp))) ?_)
          rintro e w13 ⟨rfl,k13⟩
          have hk13:=hd4.trans k13 (by simp)
          refine ⟨_,rfl,hk13,?_⟩
          simp only [Act.put,sa1,sa2,sa3]
          refine ChL.call rfl Tryz.call37 [.int .i64 k,.agg (brow R),.slice ka kn kc,.agg #[.slice s1 s2 s3,.slice p1 p2 p3]] rfl (uh HCK w13 ((uh HK1012).trans hk13 (by simp))) ?_
          rintro e w14 ⟨⟨v14,rfl,r14⟩,k14⟩
          obtain ⟨ya,yn,yc,rfl,_⟩:=id r14
          have hk14:=hk13.trans k14 (by simp)
          refine ⟨_,rfl,hk14,?_⟩
          simp only [Act.put,sa1,sa2,sa3]
          refine ChL.fin ⟨hk14,?_⟩
          refine LinY.rd (.tuple #[.slice ya yn yc,.bool FN,.int .i64 0]) (fun W hW=>by go_simp) (by simp only [Act.put,sa1,sa2,sa3]; rfl) ?_
          refine LinY.rd (.slice ya yn yc) (fun W hW=>by go_simp) (by simp only [Act.put,sa1,sa2,sa3]; rfl) ?_
          refine LinY.rd (.bool FN) (fun W hW=>by go_simp) (by simp only [Act.put,sa1,sa2,sa3]; rfl) ?_
          refine LinY.rd (.int .i64 0) (fun W hW=>by go_simp) (by simp only [Act.put,sa1,sa2,sa3]; rfl) ?_
          refine LinY.rd (.slice ya yn yc) (fun W hW=>by go_simp) (by simp only [Act.put,sa1,sa2,sa3]; rfl) ?_
          refine LinY.rd (.bool FN) (fun W hW=>by go_simp) (by simp only [Act.put,sa1,sa2,sa3]; rfl) ?_
          refine LinY.rd (.int .i64 0) (fun W hW=>by go_simp) (by simp only [Act.put,sa1,sa2,sa3]; rfl) ?_
          refine LinY.fin ?_
          have HX14:=hide (hk14.heap (uh HX0) (by simp))
          have HV14:=hide ((uh HV12).old hk14 (by simp))
          have HU14:=hide ((uh HU12).old hk14 (by simp))
          have HY14:=hide r14
          have HK1014:=hide ((uh HK1012).trans hk14 (by simp))
          clear hk14 k14 hk13 k13 hd4 r14 HCK HX0 HZ1
          generalize (getP q L).getD [] = Y at HV14 HU14 HY14
          have HSA:=hide (fun (W:World) (hW:Kept [] w14 W)=>(same_k _ _ Y Y W ((uh HV14).old hW (by simp)) ((uh HU14).old hW (by simp))).mono (fun e w2 h2=>(⟨h2.1,hW.trans h2.2 (by simp)⟩:e = .returned (.bool (decide (Y = Y)))∧Kept [] w14 w2)))
          have HSB:=hide (fun (W:World) (hW:Kept [] w14 W)=>(same_k _ _ Y Y W ((uh HY14).old hW (by simp)) ((uh HU14).old hW (by simp))).mono (fun e w2 h2=>(⟨h2.1,hW.trans h2.2 (by simp)⟩:e = .returned (.bool (decide (Y = Y)))∧Kept [] w14 w2)))
          have hYY:decide (Y = Y) = true:=decide_eq_true rfl
          rw [hYY] at HSA HSB
          have HRT:=hide (fun (W:World) (hW:Kept [] w14 W)=>(uh HROOT W ((uh HK1014).trans hW (by simp))).mono (fun e w2 h2=>(⟨h2.1,hW.trans h2.2 (by simp)⟩:e = .returned (.agg (brow R))∧Kept [] w14 w2)))
          have heq:=fun W=>dig_eq W R R hrl hrl
          rw [decide_eq_true rfl] at heq
          clear hYY HROOT HV14 HU14 HY14 HV12 HU12 HFN HV10
          go_upto_region 20 with fail
          refine xa0m (by kernel_rfl) (by kernel_rfl) ?_
          refine xa0p rfl 58 (.tmp 16) rfl w11.heap.size rfl _ (brow R) (0,0) _ (fun w' hw'=>hw'.heap (uh HX14) (by simp)) Tryz.underlying58 rfl (uh HSD) ?_
          simp only [Act.put,List.setIfInBounds_toArray,List.set_cons_succ,List.set_cons_zero]
          iterate 1 (go_big_quiet_step (fail))
          go_big_quiet_want
          go_big_quiet_op
          apply Exists.intro
          refine ⟨fun w' hw'=>?_,?_⟩
          · exact uh HRT w' hw'
          go_big_quiet_on
          refine xa0j rfl (.bool true) (fun w' hw'=>xa8k 58 (.tmp 100) (.tmp 102) _ rfl (brow R) (brow R) rfl rfl w' true (by kernel_rfl) (heq w')) ?_
          simp only [Act.put,List.setIfInBounds_toArray,List.set_cons_succ,List.set_cons_zero]
          iterate 3 (go_big_quiet_step (fail))
          go_big_quiet_want
          go_big_quiet_op
          apply Exists.intro
          refine ⟨fun w' hw'=>?_,?_⟩
          · exact uh HSA w' hw'
          go_big_quiet_on
          refine xa0j rfl (.bool true) (fun w' hw'=>by go_simp) ?_
          simp only [Act.put,List.setIfInBounds_toArray,List.set_cons_succ,List.set_cons_zero]
          iterate 3 (go_big_quiet_step (fail))
          cases FN
          all_goals
            refine xa0j rfl (.bool true) (fun w' hw'=>by go_simp) ?_
            simp only [Act.put,List.setIfInBounds_toArray,List.set_cons_succ,List.set_cons_zero]
            refine xa0j rfl (.bool true) (fun w' hw'=>by go_simp) ?_
            simp only [Act.put,List.setIfInBounds_toArray,List.set_cons_succ,List.set_cons_zero]
            iterate 3 (go_big_quiet_step (fail))
            go_big_quiet_want
            go_big_quiet_op
            apply Exists.intro
            refine ⟨fun w' hw'=>?_,?_⟩
            · exact uh HSB w' hw'
            go_big_quiet_on
            refine xa0j rfl (.bool true) (fun w' hw'=>by go_simp) ?_
            simp only [Act.put,List.setIfInBounds_toArray,List.set_cons_succ,List.set_cons_zero]
            iterate 3 (go_big_quiet_step (fail))
            refine xa0j rfl (.bool true) (fun w' hw'=>by go_simp) ?_
            simp only [Act.put,List.setIfInBounds_toArray,List.set_cons_succ,List.set_cons_zero]
            refine xa0j rfl (.bool true) (fun w' hw'=>by go_simp) ?_
            simp only [Act.put,List.setIfInBounds_toArray,List.set_cons_succ,List.set_cons_zero]
            iterate 1 (go_big_quiet_step (fail))
            refine wpQuiet_nil ?_
            intro w15 hw15
            have HK15:=hide (((uh HK10).trans (uh HK1014) (by simp)).trans hw15 (by simp))
            clear hw15
            go_wp2
            go_ret
            exact ⟨rfl,(uh HK15).below (Nat.le_refl _) (by simp)⟩
end
section
open Go.ChangeShapes Go.WideShapes Go.ChangeAt Go.RowKit Go.Deep
theorem own:ownKnob Tryz.prog.godebug = none:=by kernel_rfl
theorem laidOut:laidOutB Tryz.prog = true:=by kernel_rfl
theorem xa6a {x:Int} (h:(Lit.int .u8 x).wf = true):0≤x∧x < 256:=by
  simp [Lit.wf,IntKind.min,IntKind.max,IntKind.signed,IntKind.bits] at h
  exact ⟨by omega,by omega⟩
theorem xb3j {x:Int} (h:(Lit.int .i64 x).wf = true):-9223372036854775808≤x∧x≤9223372036854775807:=by
  simp [Lit.wf,IntKind.min,IntKind.max,IntKind.signed,IntKind.bits] at h
  exact ⟨by omega,by omega⟩
theorem xb6w {H:Type} (d:DataW H):1≤Rows.uptoBulk d:=by
  cases d with
  | lit l=>cases l <;> simp [Rows.uptoBulk]
  | nil=>simp [Rows.uptoBulk]
  | ptr d=>simp [Rows.uptoBulk]
  | slice elems spare=>simp [Rows.uptoBulk]
  | agg parts=>simp [Rows.uptoBulk]
  | iface t d=>simp [Rows.uptoBulk]
  | map entries=>simp [Rows.uptoBulk]
  | held h=>simp [Rows.uptoBulk]
theorem xb6e {H:Type} (l:List (DataW H)):l.length≤Rows.uptoBulkAll l:=by
  induction l with
  | nil=>simp [Rows.uptoBulkAll]
  | cons x r ih=>have:=xb6w x; simp only [Rows.uptoBulkAll,List.length_cons]; omega
section
variable {H:Type} {enc:TypeId × Value→H} {W:World}
theorem xa3w {fuel:Nat} {cs:List Value} {x:DataW H × List MemPlace} (h:DataW.trod enc Tryz.prog W 0 (fun _=>true) true fuel 23 cs = some x) :
    ∃ v bs,cs = [v]∧(bs.length≤140737488355328→Rd W v bs)∧((bs = []∧x.1 = .nil)∨∃ elems spare,x.1 = .slice elems spare∧elems.length = bs.length):=by
  rcases open_ints Tryz.underlying23 Tryz.underlying5 (by kernel_rfl) h with ⟨rfl,rfl⟩ | ⟨a,len,cap,zs,rfl,_,hl,hm,hz,rfl,hcell,hwz⟩
  · exact ⟨_,[],rfl,fun _=>Rd.nil W,.inl ⟨rfl,rfl⟩⟩
  · have h2:(lits (H:=H) .u8 (zs.take len)).length = len:=by simp only [lits,List.length_map,List.length_take]; simp at hz; omega
    have hbl:((zs.take len).map Int.toNat).length = len:=by simp at hz; simp; omega
    refine ⟨_,(zs.take len).map Int.toNat,rfl,fun hB=>⟨_,_,_,rfl,hbl,hl,⟨by unfold maxLen at hm; omega,by omega⟩,by simp,?_,?_⟩,.inr ⟨_,_,rfl,by rw [h2,hbl]⟩⟩
    · intro y hy
      obtain ⟨z,hz1,rfl⟩:=List.mem_map.1 hy
      have:=xa6a (hwz z (List.mem_of_mem_take hz1)); omega
    · intro hp
      simp at hz
      have hc0:=hcell 0 (by omega)
      obtain ⟨b,off,spot⟩:=a
      have hspot:spot = none:=by simpa [Addr.add] using World.cell?_spot hc0
      subst hspot
      refine ⟨b,off,rfl,fun i hi=>?_⟩
      have hc:=hcell i (by omega)
      have hzi:i < zs.length:=by omega
      rw [Addr.add_mid] at hc
      rw [hc]
      have hw:=xa6a (hwz (zs[i]) (List.getElem_mem hzi))
      simp only [List.getD_eq_getElem?_getD,List.getElem?_eq_getElem hzi,Option.getD_some,List.getElem?_map,List.getElem?_take,hi,if_true,Option.map_some]
      simp [u8]; omega
theorem xa3m {d:DataW H} {bs:List Nat} (hx:(bs = []∧d = .nil)∨∃ elems spare,d = .slice elems spare∧elems.length = bs.length):bs.length + 1≤Rows.uptoBulk d:=by
  rcases hx with ⟨rfl,rfl⟩ | ⟨elems,spare,rfl,he⟩
  · simp [Rows.uptoBulk]
  · have:=xb6e elems
    simp only [Rows.uptoBulk]; omega
end
section
variable {H:Type} {enc:TypeId × Value→H} {W:World}
theorem xa7k {d:DataW H} {l:List (DataW H)} (h:d∈l):Rows.uptoBulk d≤Rows.uptoBulkAll l:=by
  induction l with
  | nil=>cases h
  | cons x r ih =>
    simp only [Rows.uptoBulkAll]
    cases List.mem_cons.1 h with
    | inl e=>subst e; omega
    | inr e=>have:=ih e; omega
theorem xa7d (f:Nat→List Nat × List Nat) (D0 D1:Nat→DataW H) (l:List Nat) (h:∀ i∈l,(f i).1.length + 1≤Rows.uptoBulk (D0 i)∧(f i).2.length + 1≤Rows.uptoBulk (D1 i)):kwt (l.map f)≤Rows.uptoBulkAll (l.map fun i=>.agg [D0 i,D1 i]):=by
  induction l with
  | nil=>simp [kwt]
  | cons a l ih =>
    have h1:=h a (by simp)
    have h2:=ih (fun i hi=>h i (by simp [hi]))
    simp only [kwt,List.map_cons,List.sum_cons,Rows.uptoBulkAll,Rows.uptoBulk] at h2 ⊢
    omega
theorem xb1s {fuel:Nat} {cs:List Value} {x:DataW H × List MemPlace} (h:DataW.trod enc Tryz.prog W 0 (fun _=>true) true fuel 22 cs = some x) (hB:Rows.uptoBulk x.1≤1048576) :
    ∃ v ps,cs = [v]∧RdK W v ps∧kwt ps≤1048576:=by
  rcases open_slice_pairs Tryz.underlying22 Tryz.underlying33 (by kernel_rfl) rfl rfl (by kernel_rfl) (by kernel_rfl) h with ⟨rfl,rfl⟩ | ⟨a,len,cap,m,n,V0,V1,D0,D1,P0,P1,rfl,_,hl,hm,hmm,rfl,hx⟩
  · exact ⟨_,[],rfl,⟨none,0,0,[],[],rfl,rfl,Nat.le_refl _,by omega,fun i h=>by omega,fun h=>by omega⟩,by simp [kwt]⟩
  · simp only [if_true] at hmm
    simp only [Rows.uptoBulk] at hB
    obtain ⟨f,hf⟩:=choose_lt (α:=List Nat × List Nat) (n:=len) (p:=fun i o=>(Rd W (V0 i) o.1∧Rd W (V1 i) o.2)∧o.1.length + 1≤Rows.uptoBulk (D0 i)∧o.2.length + 1≤Rows.uptoBulk (D1 i)) (by
      intro i hi
      obtain ⟨_,_,h0,h1⟩:=hx i (by omega)
      have hDi:Rows.uptoBulk (.agg [D0 i,D1 i])≤Rows.uptoBulkAll ((List.range len).map fun i=>.agg [D0 i,D1 i]):=xa7k (List.mem_map.2 ⟨i,List.mem_range.2 hi,rfl⟩)
      simp only [Rows.uptoBulk,Rows.uptoBulkAll] at hDi
      obtain ⟨v,bs,e0,hr0,hb0⟩:=xa3w h0
      obtain ⟨v',bs',e1,hr1,hb1⟩:=xa3w h1
      simp only [List.cons.injEq,and_true] at e0 e1
      subst e0
      subst e1
      have g0:=xa3m hb0
      have g1:=xa3m hb1
      exact ⟨(bs,bs'),⟨hr0 (by simp only at g0; omega),hr1 (by simp only at g1; omega)⟩,g0,g1⟩)
    refine ⟨_,(List.range len).map f,rfl,⟨some a,len,cap,(List.range len).map V0,(List.range len).map V1,rfl,by simp,hl,by unfold maxLen at hm; omega,?_,?_⟩,?_⟩
    · intro i hi
      have hc:=(hf i hi).1
      simpa [List.getD_eq_getElem?_getD,hi] using hc
    · intro hp
      obtain ⟨b,off,spot⟩:=a
      have hc0:=(hx 0 (by omega)).1
      have hspot:spot = none:=by simpa [Addr.add] using World.cell?_spot hc0
      subst hspot
      refine ⟨b,off,rfl,fun i hi=>?_⟩
      have hc:=hx i (by omega)
      rw [Addr.add_mid,Addr.add_mid] at hc
      have:=And.intro hc.1 hc.2.1
      simpa [List.getD_eq_getElem?_getD,hi,Nat.add_assoc] using this
    · have:=xa7d f D0 D1 (List.range len) (fun i hi=>(hf i (List.mem_range.1 hi)).2)
      omega
end
end
end Go.Proofs.YtepmjkkjhjkdgaaGreatDoor
