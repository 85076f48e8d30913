import Derived.Test.YtepmjkkjhjkdgaaDoorTopB
namespace Go.Proofs.YtepmjkkjhjkdgaaDoor
set_option linter.unusedVariables false
set_option linter.unusedSimpArgs false
set_option maxRecDepth 100000
section
open Go.RowKit Go.BigFrame
set_option maxHeartbeats 1000000 in
theorem xa0x (v:Value) (p:List Nat) (w:World) (h:Rd w v p) :
    Calls Tryd.prog 22 #[v] w fun e w'=>(∃ v',e = .returned v'∧Rd w' v' p∧∀ x∈blk v',w.heap.size≤x)∧Kept [] w w':=by
  have H:=hide h
  obtain ⟨a1,n1,c1,rfl,hn1,hc1,⟨hc2,hc3⟩,hc4,hc5,hc6⟩:=id h
  subst hn1
  clear h hc6 hc5
  cases a1 with
  | none =>
    have h0:p.length = 0:=by have:=hc4 rfl; omega
    have hp:p = []:=List.eq_nil_of_length_eq_zero h0
    clear hc4
    subst hp
    simp only [List.length_nil]
    have hq:∀ W:World,(binOp .eql 23 (.slice none 0 c1) (.slice none 0 0)).run Tryd.prog W = .ok (.bool true) W:=by
      intro W
      simp only [binOp]
      simp [run_equal_slice_nil W 23 5 none 0 c1 Tryd.underlying23]
    go_enter Tryd.func22,Tryd.ntmps22
    go_wp2
    go_ret
    exact ⟨⟨_,rfl,Rd.nil _,by simp [blk]⟩,Kept.refl _ _⟩
  | some ad =>
    clear hc4
    have HO:=hide (World.ownsRow_made (base:=w.heap.size) (e:=5) (size:=1) w #[] 0 (Nat.le_refl _) (by unfold maxLen; omega) (by simp))
    have hq:∀ W:World,(binOp .eql 23 (.slice (some ad) p.length c1) (.slice none 0 0)).run Tryd.prog W = .ok (.bool false) W:=by
      intro W
      simp only [binOp]
      simp [run_equal_slice_nil W 23 5 (some ad) p.length c1 Tryd.underlying23]
    go_enter Tryd.func22,Tryd.ntmps22
    go_wp2_with (at_builtin; refine xa3s rfl (.tmp 5) (.tmp 6) rfl rfl _ w.heap.size (.slice (some ⟨w.heap.size,0,none⟩) 0 0) [] p (some ad) p.length c1 (uh HO) ((uh H).old ((Kept.refl [] w).alloc _) (by simp)) (by simp; omega) (by simp) rfl rfl ?_; intro ao1 cap1 w1 HO1 HG1 HA1; simp only [List.nil_append,List.length_nil,Nat.zero_add] at HO1 HA1; have HK1:=hide (((Kept.refl [] w).alloc _).grown (uh HG1) (by intro k hk; right; simp [Value.ownBlock] at hk; omega)); clear HG1)
    go_ret
    refine ⟨⟨_,rfl,xb6p (uh HO1) (uh H).byte hc3,?_⟩,uh HK1⟩
    intro x hx
    cases ao1 with
    | none=>simp [blk] at hx
    | some a=>simp [blk] at hx; subst hx; exact ((uh HO1).lt a.block rfl).1
theorem xb4q {H:Hs} {q v:List Nat}:∀ {L:Prs},Srt H L→(insP H q v L).length = if fnd q L = true then L.length else L.length + 1
  | [],_=>rfl
  | y :: L,h=>by
    have ih:=xb4q (q:=q) (v:=v) h.tail
    rw [xa2c]
    by_cases g1:kc H q y.1 < 0
    · rw [if_pos g1]
      have hn:getP q (y :: L) = none:=xa1n.2 (fun z hz e=>by
        rcases List.mem_cons.1 hz with rfl | hz
        · rw [e,xa1f] at g1; omega
        · have h2:=xa3e g1 (h.head z hz); rw [e,xa1f] at h2; omega)
      have hf:fnd q (y :: L) = false:=by unfold fnd; rw [hn]; rfl
      rw [hf]; rfl
    · rw [if_neg g1]
      by_cases g2:kc H q y.1 = 0
      · rw [if_pos g2]
        have e:=xa7f g2
        have hf:fnd q (y :: L) = true:=by unfold fnd; rw [xa3m,if_pos e.symm]; rfl
        rw [hf]; rfl
      · rw [if_neg g2]
        have hne:¬ y.1 = q:=fun e=>g2 (by rw [e,xa1f])
        have hf:fnd q (y :: L) = fnd q L:=by unfold fnd; rw [xa3m,if_neg hne]
        rw [hf,List.length_cons,ih,List.length_cons]
        split <;> rfl
theorem WayAt.fd {S:Nat→Prop} {k:Nat} {W:World} {q:List Nat} {L:Prs} {m:Nat} {cr en:Value} {pl:Nat} {fd:Bool} (h:WayAt S k W q L m cr en pl fd):fd = fnd q L:=by
  have hg:=dn_get (H:=hsZ k) (q:=q) (L:=L) m
  rcases h.en with ⟨hm,_,_,rfl⟩ | ⟨_,g,_,_,_,rfl⟩
  · unfold fnd; rw [← hg,hm]; rfl
  · unfold fnd; rw [hg]
theorem xb0o (x y:Value) {X1 Y1:Option Addr} {X2 X3 Y2 Y3:Nat}:Tryd.prog.built 50 [(0,.slice X1 X2 X3),(1,.slice Y1 Y2 Y3)] = some #[.slice X1 X2 X3,.slice Y1 Y2 Y3]:=by kernel_rfl
theorem mapI:∃ i,Tryd.prog.info? 61 = some i∧i.zero = some (.agg #[.int .i64 0,.int .i64 0,.nilIface]):=by
  have h:(Tryd.prog.info? 61).map (·.zero) = some (some (.agg #[.int .i64 0,.int .i64 0,.nilIface])):=by kernel_rfl
  generalize Tryd.prog.info? 61 = o at h
  cases o with
  | none=>cases h
  | some i=>exact ⟨i,rfl,Option.some.inj h⟩
theorem fmap:∀ fs,Tryd.prog.underlying 61 = some (.struct fs)→fs.toList.mapM (fun f=>(Tryd.prog.info? f.type).map fun i=>(f.offset,i.size)) = some [(0,1),(1,1),(2,1)]:=by
  intro fs hfs
  rw [Tryd.underlying61] at hfs
  injection hfs with hfs
  injection hfs with hfs
  subst hfs
  kernel_rfl
theorem xb2y (k n:Int) (tv:Value) (h:tv.cells = #[tv]):Tryd.prog.built 61 [(0,.int .i64 k),(1,.int .i64 n),(2,tv)] = some #[.int .i64 k,.int .i64 n,tv]:=by
  obtain ⟨it,hit,hz⟩:=mapI
  obtain ⟨fs,hfs⟩:∃ fs,Tryd.prog.underlying 61 = some (.struct fs):=⟨_,Tryd.underlying61⟩
  have hpl:=fmap fs hfs
  unfold Program.built
  rw [hit,hfs]
  simp only [hz,hpl,Value.cells]
  have s1:=xa0z (place:=([(0,1),(1,1),(2,1)].toArray[·]?)) (i:=0) (n:=1) (rest:=[(1,.int .i64 n),(2,tv)]) [] [.int .i64 0] [.int .i64 0,.nilIface] [.int .i64 k] (X:=.int .i64 k) rfl rfl rfl rfl
  have s2:=xa0z (place:=([(0,1),(1,1),(2,1)].toArray[·]?)) (i:=1) (n:=1) (rest:=[(2,tv)]) [.int .i64 k] [.int .i64 0] [.nilIface] [.int .i64 n] (X:=.int .i64 n) rfl rfl rfl rfl
  have s3:=xa0z (place:=([(0,1),(1,1),(2,1)].toArray[·]?)) (i:=2) (n:=1) (rest:=[]) [.int .i64 k,.int .i64 n] [.nilIface] [] [tv] (X:=tv) h rfl rfl rfl
  exact s1.trans (s2.trans s3)
theorem xa4u {o:Oper} {a:Act} (w:World) {x y z:Operand} {k n:Int} {tv:Value} (ho:o.op = .build 61 #[(0,x),(1,y),(2,z)]∧a.eval x = .int .i64 k∧a.eval y = .int .i64 n∧a.eval z = tv) (h:tv.cells = #[tv]):(execOp a.eval o).run Tryd.prog w = .ok (.value (.agg #[.int .i64 k,.int .i64 n,tv])) w:=by
  obtain ⟨h0,h1,h2,h3⟩:=ho
  have hb:=run_build (P:=Tryd.prog) w 61 #[(0,.int .i64 k),(1,.int .i64 n),(2,tv)] _ (xb2y k n tv h)
  unfold execOp
  simp only [h0,List.map_toArray,List.map_cons,List.map_nil,h1,h2,h3,Sem.run_bind,hb,Result.andThen_ok]
  rfl
theorem xa2z {S:Nat→Prop} {k f:Nat} {W:World} {v:Value} {L:Prs} (h:KidAt S (hsZ k) W f v L):v.cells = #[v]:=by
  rcases h with ⟨_,rfl⟩ | h
  · rfl
  · rcases h.own with ⟨g,_,_,_,rfl,_⟩ | ⟨g,_,_,_,rfl,_⟩ <;> rfl
theorem xb3m {H:Hs} {q v:List Nat} {L:Prs} (hs:Srt H L) (hf:Fit L) (hq:q.length≤64) (hv:v.length≤256):Fit (insP H q v L):=fun p hp=>by
  rcases (xa1q hs p).1 hp with rfl | ⟨h1,_⟩
  · exact ⟨hq,hv⟩
  · exact hf p h1
theorem xa4a {W:World} {g k:Nat} {D:List Nat} {cr en:Value} {pl:Nat} {fd:Bool} {t:TypeId} (h:W.heap[g]? = some (.cells (wayC k D cr en pl fd).toArray t (0,0))):W.rangeAt g 0 (wayC k D cr en pl fd):=xa0m [] (wayC k D cr en pl fd) [] (by rw [List.nil_append,List.append_nil]; exact h) rfl
set_option maxHeartbeats 4000000 in
theorem xb0i (S:Nat→Prop) (k:Nat) (mv kv vv:Value) (L:Prs) (q v:List Nat) (w:World) (hM:MapAt S k w mv L) (hku:Rd w kv q) (hvu:Rd w vv v) (hq:q.length≤64) (hv:v.length≤256) (hL:L.length < 1000000000) (hS:∀ y,w.heap.size≤y→S y) (hT:Tabs w) :
    Calls Tryd.prog 15 #[mv,kv,vv] w fun e w'=>∃ m',e = .returned (.tuple #[m',.int .i64 0])∧MapAt S k w' m' (insP (hsZ k) q v L)∧Kept [] w w':=by
  have HM:=hide hM
  obtain ⟨hk,hs,hfit,hlen,g,tv,rfl,hSg,hh,htop⟩:=hM
  have hH:=hsZ_ok hk
  obtain ⟨va,vn,vc,rfl,hvl,_⟩:=id hvu
  have hun:vn≤256:=by omega
  have hu1:¬ (256:Int) < vn:=by omega
  have hu2:¬ (vn:Int) > 256:=by omega
  have c0:w.cell? ⟨g,0,none⟩ = some (.int .i64 k):=by rw [cell_of_row _ _ _ _ _ _ hh]; rfl
  have c1:w.cell? ⟨g,1,none⟩ = some (.int .i64 (L.length:Nat)):=by rw [cell_of_row _ _ _ _ _ _ hh]; rfl
  have HC0:=hide c0
  have HC1:=hide c1
  have HKU:=hide hku
  have HVU:=hide hvu
  have HTb:=hide hT
  have HSr:=hide hs
  have HFt:=hide hfit
  have hil:=xb4q (q:=q) (v:=v) hs
  clear hh htop hT hs c0 c1 hku hvu hfit hSg
  go_enter Tryd.func15,Tryd.ntmps15
  go_wp2_with fail
  refine Calls.mono (xa2j S k _ kv L q w (uh HM) (uh HKU) hq (uh HTb)) ?_
  rintro e w1 ⟨m,cr,en,pl,fd,rfl,hway,k1⟩
  have hfd:=hway.fd
  rw [← hfd] at hil
  have hon:=hway.cells
  have HWay:=hide hway
  have hDl:((hsZ k).kd q).length = 32:=(hH.dg q).1
  obtain ⟨D,hD⟩:∃ D,(hsZ k).kd q = D:=⟨_,rfl⟩
  have HD:=hide hD
  rw [hD] at hDl ⊢
  clear hD hfd hway
  have hws:((wayC k D cr en pl fd).toArray).size = 37:=by rw [List.size_toArray,xa0q hDl]
  have HZ1:=hide (heap_alloc_new w1 (.cells zwy 67))
  have HN2:=hide (setRow_heap _ _ _ (wayC k D cr en pl fd).toArray _ _ (uh HZ1))
  have HK12:=hide ((Kept.refl [] w1).alloc (.cells zwy 67) |>.setRow (g:=w1.heap.size) (Or.inr (Nat.le_refl _)) (wayC k D cr en pl fd).toArray)
  have HK2:=hide (k1.trans (uh HK12) (by simp))
  have hz2:((w1.alloc (.cells zwy 67)).setRow w1.heap.size (wayC k D cr en pl fd).toArray).heap.size = w1.heap.size + 1:=by simp [World.setRow]
  have hw1:=k1.size
  clear k1
  obtain ⟨c,hc⟩:∃ c,L.length = c:=⟨_,rfl⟩
  rw [hc] at hil hL HC1
  have hwr:IntKind.i64.wrap ((c:Int) + 1) = ((c + 1:Nat):Int):=by simp [IntKind.wrap,IntKind.signed,IntKind.bits]; omega
  obtain ⟨W2,hW2⟩:∃ W2,(w1.alloc (.cells zwy 67)).setRow w1.heap.size (wayC k D cr en pl fd).toArray = W2:=⟨_,rfl⟩
  rw [hW2] at HN2 HK12 HK2 hz2
  have c1a:=(uh HK2).cell (uh HC1) (by simp)
  have c5a:=(xa0k (uh HN2) hDl).2.2.2.2.2
  cases fd with
  | true =>
    rw [if_pos rfl] at hil
    go_wp2_with (rw [xa2g]; refine wpList_store_row rfl 67 (.tmp 8) (.tmp 16) rfl w1.heap.size (wayC k D cr en pl true).toArray rfl rfl _ zwy (uh HZ1) (by rw [hws]; exact Tryd.size_way) (by rw [hws]; rfl) (xa1e _ _ hon.1 hon.2) ?_; rw [hW2]; simp only [Act.put])
    refine Calls.mono (xa0x kv q W2 ((uh HKU).old (uh HK2) (by simp))) ?_
    rintro e w3 ⟨⟨kz,rfl,hkz,hkb⟩,k3⟩
    obtain ⟨ka,kn,kc',rfl,_⟩:=id hkz
    have HK3:=hide ((uh HK2).trans k3 (by simp))
    have HN3:=hide (k3.heap (uh HN2) (by simp))
    have HK13:=hide ((uh HK12).trans k3 (by simp))
    have hz3:=k3.size
    have HKz:=hide hkz
    have HKb:=hide hkb
    clear k3 hkz hkb
    go_wp2_with fail
    refine Calls.mono (xa0x _ v w3 ((uh HVU).old (uh HK3) (by simp))) ?_
    rintro e w4 ⟨⟨vz,rfl,hvz,hvb⟩,k4⟩
    obtain ⟨va',vn',vc',rfl,_⟩:=id hvz
    have HK4:=hide ((uh HK3).trans k4 (by simp))
    have HN4:=hide (k4.heap (uh HN3) (by simp))
    have HK14:=hide ((uh HK13).trans k4 (by simp))
    have hz4:=k4.size
    have HKz4:=hide ((uh HKz).old k4 (by simp))
    have HVz:=hide hvz
    have HVb:=hide hvb
    clear k4 hvz hvb
    have HP5:=hide (heap_alloc_new w4 (.cells #[.slice ka kn kc',.slice va' vn' vc'] 50))
    have HK45:=hide ((Kept.refl [] w4).alloc (.cells #[.slice ka kn kc',.slice va' vn' vc'] 50))
    have HN5:=hide ((uh HK45).heap (uh HN4) (by simp))
    have HK5:=hide ((uh HK4).trans (uh HK45) (by simp))
    have HK15:=hide ((uh HK14).trans (uh HK45) (by simp))
    have HKz5:=hide ((uh HKz4).old (uh HK45) (by simp))
    have HVz5:=hide ((uh HVz).old (uh HK45) (by simp))
    go_upto_region 10 with fail
    try simp only [Act.put]
    generalize w4.alloc (.cells #[.slice ka kn kc',.slice va' vn' vc'] 50) = W5 at HP5 HK45 HN5 HK5 HK15 HKz5 HVz5 ⊢
    clear c1a c5a
    have HV0:=hide ((uh HK5).cell (uh HC0) (by simp))
    refine ln_pt (by kernel_rfl) (by kernel_rfl) rfl (fun W=>Kept [] W5 W) (Kept.refl _ W5).drew ?_
    refine LinY.mv (x:=.tmp 0) rfl (.pointer (some ⟨g,0,none⟩)) rfl (by simp only [Act.put,sa1,sa2,sa3]; rfl) ?_
    refine LinY.rd (.pointer (some ⟨g,0,none⟩)) (fun W hW=>by go_simp) (by simp only [Act.put,sa1,sa2,sa3]; rfl) ?_
    refine LinY.rd (.pointer (some ⟨g,0,none⟩)) (fun W hW=>by go_simp) (by simp only [Act.put,sa1,sa2,sa3]; rfl) ?_
    refine LinY.rd (.int .i64 k) (fun W hW=>by have h9:=hW.cell (uh HV0) (by simp); go_simp) (by simp only [Act.put,sa1,sa2,sa3]; rfl) ?_
    refine LinY.mv (x:=.tmp 10) rfl (.int .i64 c) rfl (by simp only [Act.put,sa1,sa2,sa3]; rfl) ?_
    refine LinY.ld 67 (.tmp 8) rfl w1.heap.size 0 rfl (wayC k D cr en pl true) _ (fun W hW=>hW.rng (xa4a (uh HN5)) (by simp)) Tryd.underlying67 rfl (by rw [xa0q hDl]; exact Tryd.size_way) (by simp only [Act.put,sa1,sa2,sa3]; rfl) ?_
    refine LinY.ld 67 (.tmp 8) rfl w1.heap.size 0 rfl (wayC k D cr en pl true) _ (fun W hW=>hW.rng (xa4a (uh HN5)) (by simp)) Tryd.underlying67 rfl (by rw [xa0q hDl]; exact Tryd.size_way) (by simp only [Act.put,sa1,sa2,sa3]; rfl) ?_
    refine LinY.ld 50 (.tmp 11) rfl w4.heap.size 0 rfl ([.slice ka kn kc',.slice va' vn' vc']) _ (fun W hW=>hW.rng (xa0m [] [.slice ka kn kc',.slice va' vn' vc'] [] (uh HP5) rfl) (by simp)) Tryd.underlying50 rfl Tryd.size_pair (by simp only [Act.put,sa1,sa2,sa3]; rfl) ?_
    have hd5:=(Kept.refl [] W5).drew
    have hw5:=(uh HWay).old ((uh HK15).trans hd5 (by simp))
    have hS5:∀ y,W5.drew.heap.size≤y→S y:=fun y hy=>hS y (Nat.le_trans ((uh HK5).trans hd5 (by simp)).size hy)
    have hew:=xa4i S k m q v L cr en (.slice ka kn kc') (.slice va' vn' vc') pl true W5.drew hk hS5 hw5 (uh HSr) (uh HFt) (by omega) hq hv
      (Sty.rd ((uh HKz5).old hd5 (by simp)) (fun x hx=>hS x (Nat.le_trans (uh HK2).size (uh HKb x hx))))
      (Sty.rd ((uh HVz5).old hd5 (by simp)) (fun x hx=>hS x (Nat.le_trans (uh HK3).size (uh HVb x hx)))) ((uh HTb).k ((uh HK5).trans hd5 (by simp)))
    rw [uh HD] at hew
    refine ChL.call rfl Tryd.call26 [.agg (wayC k D cr en pl true).toArray,.agg #[.slice ka kn kc',.slice va' vn' vc']] rfl hew ?_
    rintro e w6 ⟨t6,rfl,ht6,k6⟩
    have hk6:=hd5.trans k6 (by simp)
    refine ⟨_,rfl,hk6,?_⟩
    simp only [Act.put,sa1,sa2,sa3]
    have hk60:=(uh HK5).trans hk6 (by simp)
    have hli:=xa6w S k m q L (fun i=>insP (hsZ k) q v (dnL (hsZ k) q L i)) cr en pl true t6 w6 hk (fun y hy=>hS y (Nat.le_trans hk60.size hy)) (hw5.old k6) (fun i hi=>⟨put_in (dn_srt (uh HSr) i),xb0l (dn_srt (uh HSr) i),ins_ne⟩) (Or.inr ht6) ((uh HTb).k hk60)
    rw [uh HD] at hli
    refine ChL.call rfl Tryd.call25 [.agg (wayC k D cr en pl true).toArray,t6] rfl hli ?_
    rintro e w7 ⟨t7,rfl,ht7,k7⟩
    have hk7:=hk6.trans k7 (by simp)
    refine ⟨_,rfl,hk7,?_⟩
    simp only [Act.put,sa1,sa2,sa3]
    have hk70:=hk60.trans k7 (by simp)
    have hone:t7.cells = #[t7]:=xa2z ht7
    refine ChL.op (.agg #[.int .i64 k,.int .i64 c,t7]) (xa4u w7 ⟨rfl,rfl,rfl,rfl⟩ hone) hk7 (by simp only [Act.put,sa1,sa2,sa3]; rfl) ?_
    have hka:=hk7.alloc (.cells #[.int .i64 k,.int .i64 c,t7] 61)
    have hkz:=hk70.alloc (.cells #[.int .i64 k,.int .i64 c,t7] 61)
    refine ChL.op (.pointer (some ⟨w7.heap.size,0,none⟩)) (by go_simp) hka (by simp only [Act.put,sa1,sa2,sa3]; rfl) ?_
    refine ChL.op (.pointer (some ⟨w7.heap.size,0,none⟩)) (by go_simp) hka (by simp only [Act.put,sa1,sa2,sa3]; rfl) ?_
    refine ChL.op (.int .i64 0) (by go_simp) hka (by simp only [Act.put,sa1,sa2,sa3]; rfl) (ChL.fin ?_)
    have hfin:MapAt S k (w7.alloc (.cells #[.int .i64 k,.int .i64 c,t7] 61)) (.pointer (some ⟨w7.heap.size,0,none⟩)) (insP (hsZ k) q v L) :=
      ⟨hk,(uh HSr).ins q v,xb3m (uh HSr) (uh HFt) hq hv,by omega,w7.heap.size,t7,rfl,hS _ hk70.size,by rw [hil]; exact heap_alloc_new _ _,ht7.agr (Agr.nil ((Kept.refl [] w7).alloc _))⟩
    go_wp2
    go_ret2
    exact ⟨_,rfl,hfin,hkz⟩
  | false =>
    rw [if_neg (by decide)] at hil
    go_wp2_with (rw [xa2g]; refine wpList_store_row rfl 67 (.tmp 8) (.tmp 16) rfl w1.heap.size (wayC k D cr en pl false).toArray rfl rfl _ zwy (uh HZ1) (by rw [hws]; exact Tryd.size_way) (by rw [hws]; rfl) (xa1e _ _ hon.1 hon.2) ?_; rw [hW2]; simp only [Act.put])
    refine Calls.mono (xa0x kv q W2 ((uh HKU).old (uh HK2) (by simp))) ?_
    rintro e w3 ⟨⟨kz,rfl,hkz,hkb⟩,k3⟩
    obtain ⟨ka,kn,kc',rfl,_⟩:=id hkz
    have HK3:=hide ((uh HK2).trans k3 (by simp))
    have HN3:=hide (k3.heap (uh HN2) (by simp))
    have HK13:=hide ((uh HK12).trans k3 (by simp))
    have hz3:=k3.size
    have HKz:=hide hkz
    have HKb:=hide hkb
    clear k3 hkz hkb
    go_wp2_with fail
    refine Calls.mono (xa0x _ v w3 ((uh HVU).old (uh HK3) (by simp))) ?_
    rintro e w4 ⟨⟨vz,rfl,hvz,hvb⟩,k4⟩
    obtain ⟨va',vn',vc',rfl,_⟩:=id hvz
    have HK4:=hide ((uh HK3).trans k4 (by simp))
    have HN4:=hide (k4.heap (uh HN3) (by simp))
    have HK14:=hide ((uh HK13).trans k4 (by simp))
    have hz4:=k4.size
    have HKz4:=hide ((uh HKz).old k4 (by simp))
    have HVz:=hide hvz
    have HVb:=hide hvb
    clear k4 hvz hvb
    have HP5:=hide (heap_alloc_new w4 (.cells #[.slice ka kn kc',.slice va' vn' vc'] 50))
    have HK45:=hide ((Kept.refl [] w4).alloc (.cells #[.slice ka kn kc',.slice va' vn' vc'] 50))
    have HN5:=hide ((uh HK45).heap (uh HN4) (by simp))
    have HK5:=hide ((uh HK4).trans (uh HK45) (by simp))
    have HK15:=hide ((uh HK14).trans (uh HK45) (by simp))
    have HKz5:=hide ((uh HKz4).old (uh HK45) (by simp))
    have HVz5:=hide ((uh HVz).old (uh HK45) (by simp))
    go_upto_region 10 with fail
    try simp only [Act.put]
    generalize w4.alloc (.cells #[.slice ka kn kc',.slice va' vn' vc'] 50) = W5 at HP5 HK45 HN5 HK5 HK15 HKz5 HVz5 ⊢
    clear c1a c5a
    have HV0:=hide ((uh HK5).cell (uh HC0) (by simp))
    refine ln_pt (by kernel_rfl) (by kernel_rfl) rfl (fun W=>Kept [] W5 W) (Kept.refl _ W5).drew ?_
    refine LinY.mv (x:=.tmp 0) rfl (.pointer (some ⟨g,0,none⟩)) rfl (by simp only [Act.put,sa1,sa2,sa3]; rfl) ?_
    refine LinY.rd (.pointer (some ⟨g,0,none⟩)) (fun W hW=>by go_simp) (by simp only [Act.put,sa1,sa2,sa3]; rfl) ?_
    refine LinY.rd (.pointer (some ⟨g,0,none⟩)) (fun W hW=>by go_simp) (by simp only [Act.put,sa1,sa2,sa3]; rfl) ?_
    refine LinY.rd (.int .i64 k) (fun W hW=>by have h9:=hW.cell (uh HV0) (by simp); go_simp) (by simp only [Act.put,sa1,sa2,sa3]; rfl) ?_
    refine LinY.mv (x:=.tmp 10) rfl (.int .i64 (c + 1:Nat)) rfl (by simp only [Act.put,sa1,sa2,sa3]; rfl) ?_
    refine LinY.ld 67 (.tmp 8) rfl w1.heap.size 0 rfl (wayC k D cr en pl false) _ (fun W hW=>hW.rng (xa4a (uh HN5)) (by simp)) Tryd.underlying67 rfl (by rw [xa0q hDl]; exact Tryd.size_way) (by simp only [Act.put,sa1,sa2,sa3]; rfl) ?_
    refine LinY.ld 67 (.tmp 8) rfl w1.heap.size 0 rfl (wayC k D cr en pl false) _ (fun W hW=>hW.rng (xa4a (uh HN5)) (by simp)) Tryd.underlying67 rfl (by rw [xa0q hDl]; exact Tryd.size_way) (by simp only [Act.put,sa1,sa2,sa3]; rfl) ?_
    refine LinY.ld 50 (.tmp 11) rfl w4.heap.size 0 rfl ([.slice ka kn kc',.slice va' vn' vc']) _ (fun W hW=>hW.rng (xa0m [] [.slice ka kn kc',.slice va' vn' vc'] [] (uh HP5) rfl) (by simp)) Tryd.underlying50 rfl Tryd.size_pair (by simp only [Act.put,sa1,sa2,sa3]; rfl) ?_
    have hd5:=(Kept.refl [] W5).drew
    have hw5:=(uh HWay).old ((uh HK15).trans hd5 (by simp))
    have hS5:∀ y,W5.drew.heap.size≤y→S y:=fun y hy=>hS y (Nat.le_trans ((uh HK5).trans hd5 (by simp)).size hy)
    have hew:=xa4i S k m q v L cr en (.slice ka kn kc') (.slice va' vn' vc') pl false W5.drew hk hS5 hw5 (uh HSr) (uh HFt) (by omega) hq hv
      (Sty.rd ((uh HKz5).old hd5 (by simp)) (fun x hx=>hS x (Nat.le_trans (uh HK2).size (uh HKb x hx))))
      (Sty.rd ((uh HVz5).old hd5 (by simp)) (fun x hx=>hS x (Nat.le_trans (uh HK3).size (uh HVb x hx)))) ((uh HTb).k ((uh HK5).trans hd5 (by simp)))
    rw [uh HD] at hew
    refine ChL.call rfl Tryd.call26 [.agg (wayC k D cr en pl false).toArray,.agg #[.slice ka kn kc',.slice va' vn' vc']] rfl hew ?_
    rintro e w6 ⟨t6,rfl,ht6,k6⟩
    have hk6:=hd5.trans k6 (by simp)
    refine ⟨_,rfl,hk6,?_⟩
    simp only [Act.put,sa1,sa2,sa3]
    have hk60:=(uh HK5).trans hk6 (by simp)
    have hli:=xa6w S k m q L (fun i=>insP (hsZ k) q v (dnL (hsZ k) q L i)) cr en pl false t6 w6 hk (fun y hy=>hS y (Nat.le_trans hk60.size hy)) (hw5.old k6) (fun i hi=>⟨put_in (dn_srt (uh HSr) i),xb0l (dn_srt (uh HSr) i),ins_ne⟩) (Or.inr ht6) ((uh HTb).k hk60)
    rw [uh HD] at hli
    refine ChL.call rfl Tryd.call25 [.agg (wayC k D cr en pl false).toArray,t6] rfl hli ?_
    rintro e w7 ⟨t7,rfl,ht7,k7⟩
    have hk7:=hk6.trans k7 (by simp)
    refine ⟨_,rfl,hk7,?_⟩
    simp only [Act.put,sa1,sa2,sa3]
    have hk70:=hk60.trans k7 (by simp)
    have hone:t7.cells = #[t7]:=xa2z ht7
    refine ChL.op (.agg #[.int .i64 k,.int .i64 (c + 1:Nat),t7]) (xa4u w7 ⟨rfl,rfl,rfl,rfl⟩ hone) hk7 (by simp only [Act.put,sa1,sa2,sa3]; rfl) ?_
    have hka:=hk7.alloc (.cells #[.int .i64 k,.int .i64 (c + 1:Nat),t7] 61)
    have hkz:=hk70.alloc (.cells #[.int .i64 k,.int .i64 (c + 1:Nat),t7] 61)
    refine ChL.op (.pointer (some ⟨w7.heap.size,0,none⟩)) (by go_simp) hka (by simp only [Act.put,sa1,sa2,sa3]; rfl) ?_
    refine ChL.op (.pointer (some ⟨w7.heap.size,0,none⟩)) (by go_simp) hka (by simp only [Act.put,sa1,sa2,sa3]; rfl) ?_
    refine ChL.op (.int .i64 0) (by go_simp) hka (by simp only [Act.put,sa1,sa2,sa3]; rfl) (ChL.fin ?_)
    have hfin:MapAt S k (w7.alloc (.cells #[.int .i64 k,.int .i64 (c + 1:Nat),t7] 61)) (.pointer (some ⟨w7.heap.size,0,none⟩)) (insP (hsZ k) q v L) :=
      ⟨hk,(uh HSr).ins q v,xb3m (uh HSr) (uh HFt) hq hv,by omega,w7.heap.size,t7,rfl,hS _ hk70.size,by rw [hil]; exact heap_alloc_new _ _,ht7.agr (Agr.nil ((Kept.refl [] w7).alloc _))⟩
    go_wp2
    go_ret2
    exact ⟨_,rfl,hfin,hkz⟩
theorem xa6m (S:Nat→Prop) (k:Nat) (mv:Value) (L:Prs) (w:World) (hM:MapAt S k w mv L) :
    Calls Tryd.prog 6 #[mv] w fun e w'=>e = .returned (.int .i64 (L.length:Nat))∧Kept [] w w':=by
  obtain ⟨hk,hs,hfit,hlen,g,tv,rfl,hSg,hh,htop⟩:=hM
  have c1:w.cell? ⟨g,1,none⟩ = some (.int .i64 (L.length:Nat)):=by rw [cell_of_row _ _ _ _ _ _ hh]; rfl
  clear hh htop hs hfit
  go_enter Tryd.func6,Tryd.ntmps6
  go_wp2
  go_ret
  exact ⟨rfl,Kept.refl _ _⟩
theorem xa9i (k:Int):Tryd.prog.built 61 [(0,.int .i64 k)] = some #[.int .i64 k,.int .i64 0,.nilIface]:=by kernel_rfl
theorem xb4g (S:Nat→Prop) (k:Nat) (w:World) (hk:1≤k∧k≤32) (hS:∀ y,w.heap.size≤y→S y) :
    Calls Tryd.prog 14 #[.int .i64 k] w fun e w'=>∃ m',e = .returned (.tuple #[m',.int .i64 0])∧MapAt S k w' m' []∧Kept [] w w':=by
  have h1:¬ (k:Int) < 1:=by omega
  have h2:¬ (32:Int) < k:=by omega
  have h3:¬ (k:Int) > 32:=by omega
  go_enter Tryd.func14,Tryd.ntmps14
  go_wp2_with (refine xa0i rfl 61 _ rfl #[.int .i64 k,.int .i64 0,.nilIface] (by simp only [List.map_toArray,List.map_cons,List.map_nil]; exact xa9i k) ?_)
  go_ret2
  exact ⟨_,rfl,⟨hk,List.Pairwise.nil,fun p hp=>by simp at hp,by simp,w.heap.size,.nilIface,rfl,hS _ (Nat.le_refl _),heap_alloc_new w _,Or.inl ⟨rfl,rfl⟩⟩,(Kept.refl [] w).alloc _⟩
def rootP (k:Nat) (L:Prs):List Nat:=if L.isEmpty then cutL k (hash [5]) else nodP (hsZ k) 64 L
set_option maxHeartbeats 2000000 in
theorem xa3n (S:Nat→Prop) (k:Nat) (mv:Value) (L:Prs) (w:World) (hM:MapAt S k w mv L) (hT:Tabs w) :
    Calls Tryd.prog 7 #[mv] w fun e w'=>e = .returned (.agg (brow (rootP k L)))∧Kept [] w w':=by
  obtain ⟨hk,hs,hfit,hlen,g,tv,rfl,hSg,hh,htop⟩:=hM
  have c0:w.cell? ⟨g,0,none⟩ = some (.int .i64 k):=by rw [cell_of_row _ _ _ _ _ _ hh]; rfl
  have c2:w.cell? ⟨g,2,none⟩ = some tv:=by rw [cell_of_row _ _ _ _ _ _ hh]; rfl
  have HZ0:=hide (heap_alloc_new w (.cells (zb 32) 36))
  have HK0:=hide ((Kept.refl [] w).alloc (.cells (zb 32) 36))
  have c0a:∀ o,(w.alloc o).cell? ⟨g,0,none⟩ = some (.int .i64 k):=fun o=>((Kept.refl [] w).alloc o).cell c0 (by simp)
  have c2a:∀ o,(w.alloc o).cell? ⟨g,2,none⟩ = some tv:=fun o=>((Kept.refl [] w).alloc o).cell c2 (by simp)
  have HTb:=hide hT
  have he1:=en_bk
  have he2:=en_br
  have he3:=en_nil
  have hg1:=eg_bk
  have hg2:=eg_br
  rcases htop with ⟨rfl,rfl⟩ | ht
  · obtain ⟨O,hO⟩:∃ O,cutL k (hash [5]) = O:=⟨_,rfl⟩
    have hOl:O.length = 32:=by rw [← hO]; exact xa1t k (hash [5]) (by omega) (xa3d [5])
    have hR:rootP k [] = O:=hO
    rw [hR]
    have HO:=hide hO
    clear hO hR hh hT c0 c2
    go_enter Tryd.func7,Tryd.ntmps7
    go_wp2_with fail
    rw [zb32]
    refine Calls.mono (xb1t k _ (by omega) (wide_k hk) ((uh HTb).k (uh HK0))) ?_
    rintro e w1 ⟨rfl,k1⟩
    rw [Int.toNat_natCast,uh HO]
    have HK1:=hide ((uh HK0).trans k1 (by simp))
    have HZ1:=hide (k1.heap (uh HZ0) (by simp))
    have hlt:=lt_of_block (uh HZ1)
    clear k1 c0a c2a
    have HN1:=hide (heap_alloc_new w1 (.cells (zb 32) 36))
    have HN2:=hide (setRow_heap _ _ _ (brow O) _ _ (uh HN1))
    have HK12:=hide ((Kept.refl [] w1).alloc (.cells (zb 32) 36) |>.setRow (g:=w1.heap.size) (Or.inr (Nat.le_refl _)) (brow O))
    have HZ2:=hide ((uh HK12).heap (uh HZ1) (by simp))
    have HK2:=hide ((uh HK1).trans (uh HK12) (by simp))
    go_wp2_with (first
      | (rw [zb32]; refine wpList_store_row rfl 36 (.tmp 3) (.tmp 21) rfl w1.heap.size (brow O) rfl rfl _ (zb 32) (uh HN1) (by rw [xa0b,hOl]; exact Tryd.size_dig) (by rw [xa0g,xa0b,hOl]) (xa0f _) ?_)
      | (refine wpList_load_row rfl 36 (.tmp 3) rfl w1.heap.size rfl 36 (brow O) (0,0) _ (uh HN2) Tryd.underlying36 rfl (by rw [xa0b,hOl]; exact Tryd.size_dig) ?_)
      | (refine wpList_store_row rfl 36 (.tmp 2) (.tmp 23) rfl w.heap.size (brow O) rfl rfl _ (zb 32) (uh HZ2) (by rw [xa0b,hOl]; exact Tryd.size_dig) (by rw [xa0g,xa0b,hOl]) (xa0f _) ?_))
    refine bodyPost_ret (v:=.agg (brow O)) ?_ rfl ⟨rfl,(uh HK2).setRow (Or.inr (Nat.le_refl _)) _⟩
    exact results_cell_row rfl _ _ w.heap.size _ (brow O) (0,0) _ rfl (setRow_heap _ _ _ _ _ _ (uh HZ2)) Tryd.underlying36 rfl (by rw [xa0b,hOl]; exact Tryd.size_dig)
  · have hne:=ht.ne
    have hR:rootP k L = nodP (hsZ k) 64 L:=by
      unfold rootP
      cases L with
      | nil=>exact absurd rfl hne
      | cons y L=>rfl
    rw [hR]
    have hO2:=(nod_dg k 64 L).1
    have hown:=ht.own
    generalize nodP (hsZ k) 64 L = O at hown hO2
    clear hR hh hT c0 c2 ht hne
    rcases hown with ⟨g1,D,pv,hs1,rfl,hD,hh1⟩ | ⟨g1,x,kv,hs1,rfl,hh1⟩
    · have HH:=hide (((Kept.refl [] w).alloc (.cells (zb 32) 36)).heap hh1 (by simp))
      clear hh1 hs1
      go_enter Tryd.func7,Tryd.ntmps7
      go_wp2_with fail
      rw [zb32]
      refine Calls.mono (xb1c g1 D O pv _ (uh HH) hD hO2) ?_
      rintro e w1 ⟨rfl,k1⟩
      have HK1:=hide ((uh HK0).trans k1 (by simp))
      have HZ1:=hide (k1.heap (uh HZ0) (by simp))
      clear k1 c0a c2a
      go_wp2_with (refine wpList_store_row rfl 36 (.tmp 2) (.tmp 28) rfl w.heap.size (brow O) rfl rfl _ (zb 32) (uh HZ1) (by rw [xa0b,hO2]; exact Tryd.size_dig) (by rw [xa0g,xa0b,hO2]) (xa0f _) ?_)
      refine bodyPost_ret (v:=.agg (brow O)) ?_ rfl ⟨rfl,(uh HK1).setRow (Or.inr (Nat.le_refl _)) _⟩
      exact results_cell_row rfl _ _ w.heap.size _ (brow O) (0,0) _ rfl (setRow_heap _ _ _ _ _ _ (uh HZ1)) Tryd.underlying36 rfl (by rw [xa0b,hO2]; exact Tryd.size_dig)
    · have HH:=hide (((Kept.refl [] w).alloc (.cells (zb 32) 36)).heap hh1 (by simp))
      clear hh1 hs1
      go_enter Tryd.func7,Tryd.ntmps7
      go_wp2_with fail
      rw [zb32]
      refine Calls.mono (xb1n g1 x O kv _ (uh HH) hO2) ?_
      rintro e w1 ⟨rfl,k1⟩
      have HK1:=hide ((uh HK0).trans k1 (by simp))
      have HZ1:=hide (k1.heap (uh HZ0) (by simp))
      clear k1 c0a c2a
      go_wp2_with (refine wpList_store_row rfl 36 (.tmp 2) (.tmp 28) rfl w.heap.size (brow O) rfl rfl _ (zb 32) (uh HZ1) (by rw [xa0b,hO2]; exact Tryd.size_dig) (by rw [xa0g,xa0b,hO2]) (xa0f _) ?_)
      refine bodyPost_ret (v:=.agg (brow O)) ?_ rfl ⟨rfl,(uh HK1).setRow (Or.inr (Nat.le_refl _)) _⟩
      exact results_cell_row rfl _ _ w.heap.size _ (brow O) (0,0) _ rfl (setRow_heap _ _ _ _ _ _ (uh HZ1)) Tryd.underlying36 rfl (by rw [xa0b,hO2]; exact Tryd.size_dig)
theorem xb3w {H:Hs} {q:List Nat}:∀ {L:Prs},Srt H L→fnd q L = true→(delP q L).length + 1 = L.length
  | [],_,h=>by simp [fnd,getP] at h
  | y :: L,hs,h=>by
    by_cases e:y.1 = q
    · have h1:delP q (y :: L) = delP q L:=by unfold delP; rw [List.filter_cons]; simp [e]
      rw [h1,xa8f (fun z hz e2=>by have:=hs.head z hz; rw [e,e2,xa1f] at this; omega)]; rfl
    · have h3:fnd q (y :: L) = fnd q L:=by unfold fnd; rw [xa3m,if_neg e]
      rw [h3] at h
      have h1:delP q (y :: L) = y :: delP q L:=by unfold delP; rw [List.filter_cons]; simp [e]
      rw [h1,List.length_cons,xb3w hs.tail h]; rfl
theorem del_no {q:List Nat} {L:Prs} (h:fnd q L = false):delP q L = L:=by
  refine xa8f (fun y hy e=>?_)
  unfold fnd at h
  have h1:getP q L = none:=by cases hg:getP q L with
    | none=>rfl
    | some v=>rw [hg] at h; simp at h
  exact xa1n.1 h1 y hy e
set_option maxHeartbeats 4000000 in
theorem xa3l (S:Nat→Prop) (k:Nat) (mv kv:Value) (L:Prs) (q:List Nat) (w:World) (hM:MapAt S k w mv L) (hku:Rd w kv q) (hq:q.length≤64) (hS:∀ y,w.heap.size≤y→S y) (hT:Tabs w) :
    Calls Tryd.prog 16 #[mv,kv] w fun e w'=>∃ m',e = .returned (.tuple #[m',.bool (fnd q L),.int .i64 0])∧MapAt S k w' m' (delP q L)∧Kept [] w w':=by
  have HM:=hide hM
  obtain ⟨hk,hs,hfit,hlen,g,tv,rfl,hSg,hh,htop⟩:=hM
  have hH:=hsZ_ok hk
  have c0:w.cell? ⟨g,0,none⟩ = some (.int .i64 k):=by rw [cell_of_row _ _ _ _ _ _ hh]; rfl
  have c1:w.cell? ⟨g,1,none⟩ = some (.int .i64 (L.length:Nat)):=by rw [cell_of_row _ _ _ _ _ _ hh]; rfl
  have c2:w.cell? ⟨g,2,none⟩ = some tv:=by rw [cell_of_row _ _ _ _ _ _ hh]; rfl
  have hdl:=xb3w (q:=q) hs
  have hdn:=del_no (q:=q) (L:=L)
  have hle:(delP q L).length≤L.length:=List.length_filter_le _ _
  have hlen':=hlen
  obtain ⟨z,hz⟩:∃ z:Int,((L.length:Nat):Int) = z:=⟨_,rfl⟩
  rw [hz] at c1
  have HC0:=hide c0
  have HC1:=hide c1
  have HC2:=hide c2
  have HKU:=hide hku
  have HTb:=hide hT
  have HSr:=hide hs
  have HFt:=hide hfit
  have HTop:=hide htop
  clear hh htop hT hs c0 c1 c2 hku hfit hSg
  go_enter Tryd.func16,Tryd.ntmps16
  go_wp2_with fail
  refine Calls.mono (xa2j S k _ kv L q w (uh HM) (uh HKU) hq (uh HTb)) ?_
  rintro e w1 ⟨m,cr,en,pl,fd,rfl,hway,k1⟩
  have hfd:=hway.fd
  rw [← hfd] at hdl hdn
  have HFd:=hide hfd
  have hon:=hway.cells
  have HWay:=hide hway
  have hDl:((hsZ k).kd q).length = 32:=(hH.dg q).1
  obtain ⟨D,hD⟩:∃ D,(hsZ k).kd q = D:=⟨_,rfl⟩
  have HD:=hide hD
  rw [hD] at hDl ⊢
  clear hD hfd hway
  have hws:((wayC k D cr en pl fd).toArray).size = 37:=by rw [List.size_toArray,xa0q hDl]
  have HZ1:=hide (heap_alloc_new w1 (.cells zwy 67))
  have HN2:=hide (setRow_heap _ _ _ (wayC k D cr en pl fd).toArray _ _ (uh HZ1))
  have HK12:=hide ((Kept.refl [] w1).alloc (.cells zwy 67) |>.setRow (g:=w1.heap.size) (Or.inr (Nat.le_refl _)) (wayC k D cr en pl fd).toArray)
  have HK2:=hide (k1.trans (uh HK12) (by simp))
  have hw1:=k1.size
  clear k1
  obtain ⟨W2,hW2⟩:∃ W2,(w1.alloc (.cells zwy 67)).setRow w1.heap.size (wayC k D cr en pl fd).toArray = W2:=⟨_,rfl⟩
  rw [hW2] at HN2 HK12 HK2
  have c5a:=(xa0k (uh HN2) hDl).2.2.2.2.2
  have HV0:=hide ((uh HK2).cell (uh HC0) (by simp))
  have HV1:=hide ((uh HK2).cell (uh HC1) (by simp))
  have HV2:=hide ((uh HK2).cell (uh HC2) (by simp))
  cases fd with
  | false =>
    have hdn':=hdn rfl
    go_upto_region 5 with (rw [xa2g]; refine wpList_store_row rfl 67 (.tmp 7) (.tmp 13) rfl w1.heap.size (wayC k D cr en pl false).toArray rfl rfl _ zwy (uh HZ1) (by rw [hws]; exact Tryd.size_way) (by rw [hws]; rfl) (xa1e _ _ hon.1 hon.2) ?_; rw [hW2]; simp only [Act.put])
    refine ln_dn (by kernel_rfl) (by kernel_rfl) rfl (fun W=>Kept [] W2 W) (Kept.refl _ W2).drew ?_
    refine LinY.mv (x:=.tmp 0) rfl (.pointer (some ⟨g,0,none⟩)) rfl (by simp only [Act.put,sa1,sa2,sa3]; rfl) ?_
    refine LinY.rd (.pointer (some ⟨g,0,none⟩)) (fun W hW=>by go_simp) (by simp only [Act.put,sa1,sa2,sa3]; rfl) ?_
    refine LinY.rd (.pointer (some ⟨g,0,none⟩)) (fun W hW=>by go_simp) (by simp only [Act.put,sa1,sa2,sa3]; rfl) ?_
    refine LinY.rd (.int .i64 k) (fun W hW=>by have h9:=hW.cell (uh HV0) (by simp); go_simp) (by simp only [Act.put,sa1,sa2,sa3]; rfl) ?_
    refine LinY.mv (x:=.tmp 0) rfl (.pointer (some ⟨g,0,none⟩)) rfl (by simp only [Act.put,sa1,sa2,sa3]; rfl) ?_
    refine LinY.rd (.pointer (some ⟨g,0,none⟩)) (fun W hW=>by go_simp) (by simp only [Act.put,sa1,sa2,sa3]; rfl) ?_
    refine LinY.rd (.pointer (some ⟨g,1,none⟩)) (fun W hW=>by go_simp) (by simp only [Act.put,sa1,sa2,sa3]; rfl) ?_
    refine LinY.rd (.int .i64 z) (fun W hW=>by have h9:=hW.cell (uh HV1) (by simp); go_simp) (by simp only [Act.put,sa1,sa2,sa3]; rfl) ?_
    refine LinY.mv (x:=.tmp 0) rfl (.pointer (some ⟨g,0,none⟩)) rfl (by simp only [Act.put,sa1,sa2,sa3]; rfl) ?_
    refine LinY.rd (.pointer (some ⟨g,0,none⟩)) (fun W hW=>by go_simp) (by simp only [Act.put,sa1,sa2,sa3]; rfl) ?_
    refine LinY.rd (.pointer (some ⟨g,2,none⟩)) (fun W hW=>by go_simp) (by simp only [Act.put,sa1,sa2,sa3]; rfl) ?_
    refine LinY.rd (tv) (fun W hW=>by have h9:=hW.cell (uh HV2) (by simp); go_simp) (by simp only [Act.put,sa1,sa2,sa3]; rfl) ?_
    have hd2:=(Kept.refl [] W2).drew
    have htw:TopAt S (hsZ k) W2.drew tv L:=(uh HTop).agr (Agr.nil ((uh HK2).trans hd2 (by simp)))
    have hone:tv.cells = #[tv]:=xa2z (S:=S) (f:=64) htw
    obtain ⟨W3,hW3⟩:∃ W3,W2.drew = W3:=⟨_,rfl⟩
    rw [hW3] at hd2 htw ⊢
    refine ChL.op (.agg #[.int .i64 k,.int .i64 z,tv]) (xa4u W3 ⟨rfl,rfl,rfl,rfl⟩ hone) hd2 (by simp only [Act.put,sa1,sa2,sa3]; rfl) ?_
    have hka:=hd2.alloc (.cells #[.int .i64 k,.int .i64 z,tv] 61)
    have hkz:=((uh HK2).trans hd2 (by simp)).alloc (.cells #[.int .i64 k,.int .i64 z,tv] 61)
    refine ChL.op (.pointer (some ⟨W3.heap.size,0,none⟩)) (by go_simp) hka (by simp only [Act.put,sa1,sa2,sa3]; rfl) ?_
    refine ChL.op (.pointer (some ⟨W3.heap.size,0,none⟩)) (by go_simp) hka (by simp only [Act.put,sa1,sa2,sa3]; rfl) ?_
    refine ChL.op (.bool false) (by go_simp) hka (by simp only [Act.put,sa1,sa2,sa3]; rfl) ?_
    refine ChL.op (.int .i64 0) (by go_simp) hka (by simp only [Act.put,sa1,sa2,sa3]; rfl) (ChL.fin ?_)
    have hfin:MapAt S k (W3.alloc (.cells #[.int .i64 k,.int .i64 z,tv] 61)) (.pointer (some ⟨W3.heap.size,0,none⟩)) (delP q L):=by
      rw [hdn']
      exact ⟨hk,uh HSr,uh HFt,hlen',W3.heap.size,tv,rfl,hS _ ((uh HK2).trans hd2 (by simp)).size,by rw [hz]; exact heap_alloc_new _ _,htw.agr (Agr.nil ((Kept.refl [] W3).alloc _))⟩
    go_wp2
    go_ret3
    exact ⟨.pointer (some ⟨W3.heap.size,0,none⟩),by rw [← uh HFd]; rfl,hfin,hkz⟩
  | true =>
    have hdl':=hdl rfl
    obtain ⟨y,hy⟩:∃ y:Int,(((delP q L).length:Nat):Int) = y:=⟨_,rfl⟩
    have hwr:IntKind.i64.wrap (z - 1) = y:=by rw [← hz,← hy]; simp [IntKind.wrap,IntKind.signed,IntKind.bits]; omega
    go_upto_region 6 with (rw [xa2g]; refine wpList_store_row rfl 67 (.tmp 7) (.tmp 13) rfl w1.heap.size (wayC k D cr en pl true).toArray rfl rfl _ zwy (uh HZ1) (by rw [hws]; exact Tryd.size_way) (by rw [hws]; rfl) (xa1e _ _ hon.1 hon.2) ?_; rw [hW2]; simp only [Act.put])
    refine ln_dl (by kernel_rfl) (by kernel_rfl) rfl (fun W=>Kept [] W2 W) (Kept.refl _ W2).drew ?_
    refine LinY.mv (x:=.tmp 0) rfl (.pointer (some ⟨g,0,none⟩)) rfl (by simp only [Act.put,sa1,sa2,sa3]; rfl) ?_
    refine LinY.rd (.pointer (some ⟨g,0,none⟩)) (fun W hW=>by go_simp) (by simp only [Act.put,sa1,sa2,sa3]; rfl) ?_
    refine LinY.rd (.pointer (some ⟨g,0,none⟩)) (fun W hW=>by go_simp) (by simp only [Act.put,sa1,sa2,sa3]; rfl) ?_
    refine LinY.rd (.int .i64 k) (fun W hW=>by have h9:=hW.cell (uh HV0) (by simp); go_simp) (by simp only [Act.put,sa1,sa2,sa3]; rfl) ?_
    refine LinY.mv (x:=.tmp 0) rfl (.pointer (some ⟨g,0,none⟩)) rfl (by simp only [Act.put,sa1,sa2,sa3]; rfl) ?_
    refine LinY.rd (.pointer (some ⟨g,0,none⟩)) (fun W hW=>by go_simp) (by simp only [Act.put,sa1,sa2,sa3]; rfl) ?_
    refine LinY.rd (.pointer (some ⟨g,1,none⟩)) (fun W hW=>by go_simp) (by simp only [Act.put,sa1,sa2,sa3]; rfl) ?_
    refine LinY.rd (.int .i64 z) (fun W hW=>by have h9:=hW.cell (uh HV1) (by simp); go_simp) (by simp only [Act.put,sa1,sa2,sa3]; rfl) ?_
    refine LinY.rd (.int .i64 y) (fun W hW=>by go_simp) (by simp only [Act.put,sa1,sa2,sa3]; rfl) ?_
    refine LinY.ld 67 (.tmp 7) rfl w1.heap.size 0 rfl (wayC k D cr en pl true) _ (fun W hW=>hW.rng (xa4a (uh HN2)) (by simp)) Tryd.underlying67 rfl (by rw [xa0q hDl]; exact Tryd.size_way) (by simp only [Act.put,sa1,sa2,sa3]; rfl) ?_
    refine LinY.ld 67 (.tmp 7) rfl w1.heap.size 0 rfl (wayC k D cr en pl true) _ (fun W hW=>hW.rng (xa4a (uh HN2)) (by simp)) Tryd.underlying67 rfl (by rw [xa0q hDl]; exact Tryd.size_way) (by simp only [Act.put,sa1,sa2,sa3]; rfl) ?_
    have hd5:=(Kept.refl [] W2).drew
    have hk50:=(uh HK2).trans hd5 (by simp)
    have hw5:=(uh HWay).old ((uh HK12).trans hd5 (by simp))
    have hew:=xa4o S k m q L cr en pl W2.drew hk (fun y hy=>hS y (Nat.le_trans hk50.size hy)) hw5 (uh HSr) (uh HFt) hlen' ((uh HTb).k hk50)
    rw [uh HD] at hew
    refine ChL.call rfl Tryd.call27 [.agg (wayC k D cr en pl true).toArray] rfl hew ?_
    rintro e w6 ⟨t6,rfl,ht6,k6⟩
    have hk6:=hd5.trans k6 (by simp)
    refine ⟨_,rfl,hk6,?_⟩
    simp only [Act.put,sa1,sa2,sa3]
    have hk60:=(uh HK2).trans hk6 (by simp)
    obtain ⟨gs,_,_,htr⟩:=hw5.cr
    have hli:=xa6w S k m q L (fun i=>delP q (dnL (hsZ k) q L i)) cr en pl true t6 w6 hk (fun y hy=>hS y (Nat.le_trans hk60.size hy)) (hw5.old k6) (fun i hi=>⟨ch_del _ _ _ _ _,xb4s,del_ne (htr i hi).2⟩) ht6 ((uh HTb).k hk60)
    rw [uh HD] at hli
    refine ChL.call rfl Tryd.call25 [.agg (wayC k D cr en pl true).toArray,t6] rfl hli ?_
    rintro e w7 ⟨t7,rfl,ht7,k7⟩
    have hk7:=hk6.trans k7 (by simp)
    refine ⟨_,rfl,hk7,?_⟩
    simp only [Act.put,sa1,sa2,sa3]
    have hk70:=hk60.trans k7 (by simp)
    have hone:t7.cells = #[t7]:=xa2z ht7
    refine ChL.op (.agg #[.int .i64 k,.int .i64 y,t7]) (xa4u w7 ⟨rfl,rfl,rfl,rfl⟩ hone) hk7 (by simp only [Act.put,sa1,sa2,sa3]; rfl) ?_
    have hka:=hk7.alloc (.cells #[.int .i64 k,.int .i64 y,t7] 61)
    have hkz:=hk70.alloc (.cells #[.int .i64 k,.int .i64 y,t7] 61)
    refine ChL.op (.pointer (some ⟨w7.heap.size,0,none⟩)) (by go_simp) hka (by simp only [Act.put,sa1,sa2,sa3]; rfl) ?_
    refine ChL.op (.pointer (some ⟨w7.heap.size,0,none⟩)) (by go_simp) hka (by simp only [Act.put,sa1,sa2,sa3]; rfl) ?_
    refine ChL.op (.bool true) (by go_simp) hka (by simp only [Act.put,sa1,sa2,sa3]; rfl) ?_
    refine ChL.op (.int .i64 0) (by go_simp) hka (by simp only [Act.put,sa1,sa2,sa3]; rfl) (ChL.fin ?_)
    have hfin:MapAt S k (w7.alloc (.cells #[.int .i64 k,.int .i64 y,t7] 61)) (.pointer (some ⟨w7.heap.size,0,none⟩)) (delP q L) :=
      ⟨hk,(uh HSr).del q,(uh HFt).sub (fun x hx=>((xa4f x).1 hx).1),by omega,w7.heap.size,t7,rfl,hS _ hk70.size,by rw [hy]; exact heap_alloc_new _ _,ht7.agr (Agr.nil ((Kept.refl [] w7).alloc _))⟩
    go_wp2
    go_ret3
    exact ⟨.pointer (some ⟨w7.heap.size,0,none⟩),by rw [← uh HFd]; rfl,hfin,hkz⟩
theorem get_no {q:List Nat} {L:Prs} (h:fnd q L = false):getP q L = none:=by
  unfold fnd at h
  cases hg:getP q L with
  | none=>rfl
  | some v=>rw [hg] at h; simp at h
theorem xb7a {H:Hs} {q:List Nat} {L:Prs} (hs:Srt H L) (hr:Rise L) (h:fnd q L = true):plc q L < L.length∧getP q L = some (L.getD (plc q L) ([],[])).2:=by
  obtain ⟨h1,h2⟩:=(fnd_at hr).1 h
  refine ⟨h1,(xa1y hs).2 ?_⟩
  have h3:=List.getElem_mem h1
  rw [List.getD_eq_getElem?_getD,List.getElem?_eq_getElem h1,Option.getD_some] at h2 ⊢
  generalize L[plc q L] = x at h2 h3 ⊢
  have e:(q,x.2) = x:=by rw [← h2]
  rw [e]; exact h3
set_option maxHeartbeats 2000000 in
theorem xb4f (S:Nat→Prop) (k:Nat) (mv kv:Value) (L:Prs) (q:List Nat) (w:World) (hM:MapAt S k w mv L) (hku:Rd w kv q) (hq:q.length≤64) (hT:Tabs w) :
    Calls Tryd.prog 9 #[mv,kv] w fun e w'=>∃ v',e = .returned (.tuple #[v',.bool (fnd q L),.int .i64 0])∧Rd w' v' ((getP q L).getD [])∧(∀ x∈blk v',w.heap.size≤x)∧Kept [] w w':=by
  have HM:=hide hM
  obtain ⟨hk,hs,hfit,hlen,g,tv,rfl,hSg,hh,htop⟩:=hM
  have hH:=hsZ_ok hk
  have HKU:=hide hku
  have HTb:=hide hT
  have HSr:=hide hs
  clear hh htop hT hs hku hfit hSg
  go_enter Tryd.func9,Tryd.ntmps9
  go_wp2_with fail
  refine Calls.mono (xa2j S k _ kv L q w (uh HM) (uh HKU) hq (uh HTb)) ?_
  rintro e w1 ⟨m,cr,en,pl,fd,rfl,hway,k1⟩
  have hfd:=hway.fd
  have HFd:=hide hfd
  have hon:=hway.cells
  have hend:=hway.en
  have hgt:=dn_get (H:=hsZ k) (q:=q) (L:=L) m
  have hMs:=dn_srt (q:=q) (uh HSr) m
  have hDl:((hsZ k).kd q).length = 32:=(hH.dg q).1
  obtain ⟨D,hD⟩:∃ D,(hsZ k).kd q = D:=⟨_,rfl⟩
  rw [hD] at hDl ⊢
  clear hD hfd hway
  generalize dnL (hsZ k) q L m = M at hend hgt hMs
  have hws:((wayC k D cr en pl fd).toArray).size = 37:=by rw [List.size_toArray,xa0q hDl]
  have HZ1:=hide (heap_alloc_new w1 (.cells zwy 67))
  have HN2:=hide (setRow_heap _ _ _ (wayC k D cr en pl fd).toArray _ _ (uh HZ1))
  have HK12:=hide ((Kept.refl [] w1).alloc (.cells zwy 67) |>.setRow (g:=w1.heap.size) (Or.inr (Nat.le_refl _)) (wayC k D cr en pl fd).toArray)
  have HK2:=hide (k1.trans (uh HK12) (by simp))
  have hw1:=k1.size
  clear k1
  obtain ⟨W2,hW2⟩:∃ W2,(w1.alloc (.cells zwy 67)).setRow w1.heap.size (wayC k D cr en pl fd).toArray = W2:=⟨_,rfl⟩
  rw [hW2] at HN2 HK12 HK2
  obtain ⟨cw0,cw1,cw2,cw3,cw4,cw5⟩:=xa0k (uh HN2) hDl
  have HW3:=hide cw3
  have HW4:=hide cw4
  clear cw0 cw1 cw2 cw3 cw4
  cases fd with
  | false =>
    go_wp2_with (rw [xa2g]; refine wpList_store_row rfl 67 (.tmp 7) (.tmp 13) rfl w1.heap.size (wayC k D cr en pl false).toArray rfl rfl _ zwy (uh HZ1) (by rw [hws]; exact Tryd.size_way) (by rw [hws]; rfl) (xa1e _ _ hon.1 hon.2) ?_; rw [hW2]; simp only [Act.put])
    go_ret3
    refine ⟨.slice none 0 0,by rw [← uh HFd]; rfl,?_,by simp [blk],uh HK2⟩
    rw [get_no (uh HFd).symm]
    exact Rd.nil _
  | true =>
    rcases hend with ⟨_,_,_,hx⟩ | ⟨hsg,g1,rfl,hb,hpl,hfd⟩
    · cases hx
    have hris:=xa4t hMs hsg
    obtain ⟨hp1,hp2⟩:=xb7a hMs hris hfd.symm
    rw [← hpl] at hp1 hp2
    obtain ⟨pv,hSg1,hh1,hne,hkr⟩:=hb
    have hkd:((hsZ k).kd (M.headD ([],[])).1).length = 32:=xa0r _ _
    have c1:=(bk_row hh1 hkd).2.1
    obtain ⟨b,off,cap,l,rfl,hc1,hc2,hSb,hll,hcells,hrds⟩:=hkr
    have hcv:=(hcells pl (by omega)).2
    have hrv:=(hrds pl (by omega)).now.2
    have hgl:(getP q L).getD [] = (M.getD pl ([],[])).2:=by rw [← hgt,hp2]; rfl
    have HGL:=hide hgl
    generalize (M.getD pl ([],[])).2 = val at hrv hgl HGL
    generalize (l.getD pl (undef,undef)).2 = vz at hcv hrv
    obtain ⟨za,zn,zc,rfl,_⟩:=id hrv
    have hpn:pl < l.length:=by omega
    have hpi:(pl:Int) < (l.length:Int):=by omega
    generalize l.length = n at hc1 hpn hpi c1
    have HC1:=hide ((uh HK12).cell c1 (by simp))
    have HCV:=hide ((uh HK12).cell hcv (by simp))
    have HRV:=hide (hrv.old (uh HK12) (by simp))
    clear hcells hrds hcv hrv c1 hh1 hp2 hgt hgl hfd hpl hsg hris hMs hne
    go_upto_region 4 with (rw [xa2g]; refine wpList_store_row rfl 67 (.tmp 7) (.tmp 13) rfl w1.heap.size (wayC k D cr (.pointer (some ⟨g1,0,none⟩)) pl true).toArray rfl rfl _ zwy (uh HZ1) (by rw [hws]; exact Tryd.size_way) (by rw [hws]; rfl) (xa1e _ _ hon.1 hon.2) ?_; rw [hW2]; simp only [Act.put])
    refine ln_gt (by kernel_rfl) (by kernel_rfl) rfl (fun W=>Kept [] W2 W) (Kept.refl _ W2).drew ?_
    refine LinY.rd (.pointer (some ⟨w1.heap.size,34,none⟩)) (fun W hW=>by go_simp) (by simp only [Act.put,sa1,sa2,sa3]; rfl) ?_
    refine LinY.rd (.pointer (some ⟨g1,0,none⟩)) (fun W hW=>by have h9:=hW.cell (uh HW3) (by simp); go_simp) (by simp only [Act.put,sa1,sa2,sa3]; rfl) ?_
    refine LinY.rd (.pointer (some ⟨g1,0,none⟩)) (fun W hW=>by go_simp) (by simp only [Act.put,sa1,sa2,sa3]; rfl) ?_
    refine LinY.rd (.pointer (some ⟨g1,32,none⟩)) (fun W hW=>by go_simp) (by simp only [Act.put,sa1,sa2,sa3]; rfl) ?_
    refine LinY.rd (.slice (some ⟨b,off,none⟩) n cap) (fun W hW=>by have h9:=hW.cell (uh HC1) (by simp); go_simp) (by simp only [Act.put,sa1,sa2,sa3]; rfl) ?_
    refine LinY.rd (.pointer (some ⟨w1.heap.size,35,none⟩)) (fun W hW=>by go_simp) (by simp only [Act.put,sa1,sa2,sa3]; rfl) ?_
    refine LinY.rd (.int .i64 pl) (fun W hW=>by have h9:=hW.cell (uh HW4) (by simp); go_simp) (by simp only [Act.put,sa1,sa2,sa3]; rfl) ?_
    refine LinY.rd (.pointer (some ⟨b,off + pl * 2,none⟩)) (fun W hW=>by go_simp) (by simp only [Act.put,sa1,sa2,sa3]; rfl) ?_
    refine LinY.rd (.pointer (some ⟨b,off + pl * 2 + 1,none⟩)) (fun W hW=>by go_simp) (by simp only [Act.put,sa1,sa2,sa3]; rfl) ?_
    refine LinY.rd (.slice za zn zc) (fun W hW=>by have h9:=hW.cell (uh HCV) (by simp); go_simp) (by simp only [Act.put,sa1,sa2,sa3]; rfl) ?_
    have hd2:=(Kept.refl [] W2).drew
    refine ChL.call rfl Tryd.call22 [.slice za zn zc] rfl (xa0x _ val W2.drew ((uh HRV).old hd2 (by simp))) ?_
    rintro e w3 ⟨⟨vz,rfl,hvz,hvb⟩,k3⟩
    have hk3:=hd2.trans k3 (by simp)
    have hk30:=(uh HK2).trans hk3 (by simp)
    have hk20:=(uh HK2).trans hd2 (by simp)
    obtain ⟨ya,yn,yc,rfl,_⟩:=id hvz
    refine ⟨_,rfl,hk3,?_⟩
    simp only [Act.put,sa1,sa2,sa3]
    refine ChL.op (.slice ya yn yc) (by go_simp) hk3 (by simp only [Act.put,sa1,sa2,sa3]; rfl) ?_
    refine ChL.op (.bool true) (by go_simp) hk3 (by simp only [Act.put,sa1,sa2,sa3]; rfl) ?_
    refine ChL.op (.int .i64 0) (by go_simp) hk3 (by simp only [Act.put,sa1,sa2,sa3]; rfl) (ChL.fin ?_)
    go_wp2
    go_ret3
    exact ⟨.slice ya yn yc,by rw [← uh HFd]; rfl,by rw [uh HGL]; exact hvz,fun x hx=>Nat.le_trans hk20.size (hvb x hx),hk30⟩

end
section
open Go Go.RowKit Go.BigFrame
theorem ln_ly {P:Program} {Q:Exit→Act→World→Prop} {id:Nat} {o0 o1 o2 o3 o4 o5 o6 o7 o8 o9 o10:Oper} {a:Act} {w:World} (hm:P.follows .mixedOrders = true) (hb:linB #[o0,o1,o2,o3,o4,o5,o6,o7,o8,o9,o10] [0,1,2,4,5] [3,6,7,8,9,10] [] = true) (hg:([o0,o1,o2,o4,o5]++([o3,o6,o7,o8,o9,o10]++[])).all (fun o=>o.guard.isNone) = true) (S:World→Prop) (hS:S w.drew)
    (h:LinY P S (ChL P Q S (Q .normal) [o3,o6,o7,o8,o9,o10]) [o0,o1,o2,o4,o5] a w.drew):(Code.region id #[o0,o1,o2,o3,o4,o5,o6,o7,o8,o9,o10] true).wp P Q a w:=xa1b (R:=[0,1,2,4,5]) (C:=[3,6,7,8,9,10]) (rs:=[o0,o1,o2,o4,o5]) (cs:=[o3,o6,o7,o8,o9,o10]) hm hb rfl rfl hg hS h
end
section
open Go.RowKit Go.BigFrame
theorem ChL.app {Q:Exit→Act→World→Prop} {S:World→Prop} {F:Act→World→Prop} {cs:List Oper} {o:Oper} {a:Act} (T e:Nat) (s x:Operand)
    (ho:o.op = .call { callee:=.builtin .append,args:=#[s,x],argTypes:=#[T,T] }) (hty:o.type = T)
    (w:World) (base:Nat) (z:Value) (sz bytes:Nat) (hu:Tryd.prog.underlying T = some (.slice e)) (hinf:(Tryd.prog.info? e).map (fun i=>(i.zero,i.size,i.bytes)) = some (some z,sz,bytes)) (hzs:z.cells.size = sz) (hs0:0 < sz)
    (v:Value) (n:Nat) (xs:List Value) (h:w.ownsRow base e sz v n xs) (ao:Option Addr) (m c:Nat) (rows:List (List Value)) (hr:RdC sz w (.slice ao m c) rows) (hs:∀ r∈rows,r.length = sz) (hone:∀ r∈rows,∀ u∈r,u.oneCell' = true)
    (hl:(n + m) * bytes≤140737488355328) (hl2:n + m≤1000000000000) (hb:base≤w.heap.size) (he:a.eval s = v) (hx:a.eval x = .slice ao m c)
    (hK:∀ ao' cap' w1,Hid (w1.ownsRow base e sz (.slice ao' (n + m) cap') (n + m) (xs++rows.flatten))→Hid (w.grownBy w1 v.ownBlock)→Hid ((Value.slice ao' (n + m) cap').ownBlock = v.ownBlock∨(Value.slice ao' (n + m) cap').ownBlock = some w.heap.size) →
      S w1∧ChL Tryd.prog Q S F cs (a.put o.dst (.slice ao' (n + m) cap')) w1):ChL Tryd.prog Q S F (o :: cs) a w:=by
  obtain ⟨ao',cap',w1,hrun,h2,h3,h4⟩:=appendC w base T e z sz bytes hu hinf hzs hs0 v n xs h ao m c rows hr hs hone hl hl2 hb
  unfold ChL
  unfold Oper.wp execOp
  simp only [ho,hty,resolve,invoke,builtin,Sem.run_bind,Sem.run_pure,Result.andThen_ok,List.map_toArray,List.map_cons,List.map_nil,he,hx,hrun]
  exact hK ao' cap' w1 h2 h3 h4
theorem PR.shrink {S:Nat→Prop} {W:World} {l:List VP} {L:Prs} (h:PR S W l L):PR (lowS S W) W l L:=⟨h.1,fun i hi=>(h.2 i hi).shrink⟩
theorem PR.mono {S T:Nat→Prop} {W:World} {l:List VP} {L:Prs} (hs:∀ x,T x→S x) (h:PR T W l L):PR S W l L:=⟨h.1,fun i hi=>(h.2 i hi).mono hs⟩
def tB (B:Nat) (v:Value):Nat→Prop:=fun y=>B≤y∧v.ownBlock≠some y
structure LayAt (B:Nat) (w:World) (v:Value) (l:List VP) (L:Prs):Prop where
  own:w.ownsRow B 50 2 v l.length (kvR l).flatten
  pr:PR (tB B v) w l L
theorem LayAt.agr {B:Nat} {w w':World} {v:Value} {l:List VP} {L:Prs} (h:LayAt B w v l L) (k:Kept [] w w'):LayAt B w' v l L:=⟨k.owns h.own (by simp),h.pr.agr (Agr.nil k)⟩
theorem LayAt.nil (B:Nat) (w:World):LayAt B w (.slice none 0 0) [] []:=⟨World.ownsRow_nil _ _ _ _,PR.nil _ _⟩
theorem LayAt.snoc {B:Nat} {w w1:World} {v v':Value} {l:List VP} {L:Prs} {kz vz:Value} {a b:List Nat} (h:LayAt B w v l L) (hk:Rd w kz a) (hv:Rd w vz b) (hkb:∀ x∈blk kz,tB B v x) (hvb:∀ x∈blk vz,tB B v x)
    (ho:w1.ownsRow B 50 2 v' (l.length + 1) ((kvR l).flatten++(kvR [(kz,vz)]).flatten)) (hg:w.grownBy w1 v.ownBlock) (hb:v'.ownBlock = v.ownBlock∨v'.ownBlock = some w.heap.size):LayAt B w1 v' (l++[(kz,vz)]) (L++[(a,b)]):=by
  have hp:=(h.pr.app (PR.one (Sty.rd hk hkb) (Sty.rd hv hvb))).shrink
  have hK:=(Kept.refl v.ownBlock.toList w).grown hg (by intro x hx; left; simp [hx])
  have ha:Agr (lowS (tB B v) w) w w1:=⟨hK.size,fun x hx hl=>hK.block x hl (by
    intro hm
    have:v.ownBlock = some x:=by simpa using hm
    exact hx.1.2 this)⟩
  refine ⟨?_,(hp.agr ha).mono (fun x hx=>⟨hx.1.1,?_⟩)⟩
  · rw [List.length_append,xb1g,List.flatten_append]; exact ho
  · rcases hb with e | e
    · rw [e]; exact hx.1.2
    · rw [e]; intro e2; have h2:=hx.2; injection e2 with e3; omega
theorem xb3a {o:Oper} {a:Act} (w:World) {x y:Operand} {X1 Y1:Option Addr} {X2 X3 Y2 Y3:Nat} (ho:o.op = .build 50 #[(0,x),(1,y)]∧a.eval x = .slice X1 X2 X3∧a.eval y = .slice Y1 Y2 Y3):(execOp a.eval o).run Tryd.prog w = .ok (.value (.agg #[.slice X1 X2 X3,.slice Y1 Y2 Y3])) w:=by
  obtain ⟨h0,h1,h2⟩:=ho
  have hb:=run_build (P:=Tryd.prog) w 50 #[(0,.slice X1 X2 X3),(1,.slice Y1 Y2 Y3)] _ (xb0o undef undef)
  unfold execOp
  simp only [h0,List.map_toArray,List.map_cons,List.map_nil,h1,h2,Sem.run_bind,hb,Result.andThen_ok]
  rfl
set_option maxHeartbeats 4000000 in
theorem xb0v (S:Nat→Prop) (k g:Nat) (E L:Prs) (lv:Value) (l:List VP) (W0 w:World) (hb:BkAt S (hsZ k) W0 g E) (hk0:Kept [] W0 w) (hl:LayAt W0.heap.size w lv l L) (hn:L.length + E.length≤1000000000) :
    Calls Tryd.prog 101 #[.pointer (some ⟨g,0,none⟩),lv] w fun e w'=>∃ v' l',e = .returned v'∧LayAt W0.heap.size w' v' l' (L++E)∧Kept [] W0 w':=by
  obtain ⟨pv,hSg,hh,hne,hkr⟩:=hb
  have hkd:((hsZ k).kd (E.headD ([],[])).1).length = 32:=xa0r _ _
  have c1:=(bk_row hh hkd).2.1
  obtain ⟨b,off,cap,le,rfl,hc1,hc2,hSb,hle,hcells,hrds⟩:=hkr
  have HC1:=hide c1
  have c1a:=hk0.cell c1 (by simp)
  have HCE:=hide hcells
  have HRD:=hide (fun i (hi:i < le.length)=>(hrds i hi).now)
  obtain ⟨n,hnn⟩:∃ n,le.length = n:=⟨_,rfl⟩
  rw [hnn] at hle hc1 HC1 HCE HRD c1a
  have HLE:=hide hle
  have HKW:=hide hk0
  have HLY:=hide hl
  rw [← hle] at hn
  clear hcells hrds hh hkd c1 hl hk0 hnn hle hne
  go_enter Tryd.func101,Tryd.ntmps101
  go_wp2
  go_loopw [1,12] (fun t1 t12 wr=>∃ (i:Nat) (v:Value) (lx:List VP),t12 = .int .i64 i∧t1 = v∧i≤n∧Hid (LayAt W0.heap.size wr v lx (L++E.take i))∧Hid (Kept [] W0 wr)) (fun _ t _=>n - (intOf t).toNat)
  case atStart=>exact ⟨0,lv,l,rfl,rfl,Nat.zero_le _,hide (by rw [List.take_zero,List.append_nil]; exact uh HLY),HKW⟩
  case round =>
    clear HLY HKW c1a
    obtain ⟨i,v,lx,rfl,rfl,hi,HLx,HKr⟩:=hrel
    by_cases hlt:i < n
    · have hlt':(i:Int) < n:=by omega
      obtain ⟨hx1,hx2⟩:=uh HCE i hlt
      obtain ⟨hr1,hr2⟩:=uh HRD i hlt
      generalize (le.getD i (undef,undef)).1 = kx at hx1 hr1
      generalize (le.getD i (undef,undef)).2 = vx at hx2 hr2
      have hEi:E.take (i + 1) = E.take i++[E.getD i ([],[])]:=by
        have hiE:i < E.length:=by have:=uh HLE; omega
        rw [List.take_succ_eq_append_getElem hiE,List.getD_eq_getElem?_getD,List.getElem?_eq_getElem hiE]; rfl
      have HEi:=hide hEi
      clear hEi
      generalize E.getD i ([],[]) = ei at hr1 hr2 HEi
      obtain ⟨ka,kb⟩:=ei
      obtain ⟨x1,x2,x3,rfl,_⟩:=id hr1
      obtain ⟨y1,y2,y3,rfl,_⟩:=id hr2
      have hlx:=(uh HLx).pr.1
      rw [List.length_append,List.length_take] at hlx
      have HLX:=hide hlx
      clear hlx
      obtain ⟨vo,vc,rfl⟩:=xa1l (uh HLx).own
      have hm1:=(uh HKr).cell hx1 (by simp)
      have hm2:=(uh HKr).cell hx2 (by simp)
      have HRG:=hide (show wr.rangeAt b (off + i * 2) [.slice x1 x2 x3,.slice y1 y2 y3] from fun j u hj=>by
        match j,hj with
        | 0,hj=>rw [Nat.add_zero,hm1]; exact hj
        | 1,hj=>rw [hm2]; exact hj)
      have HP2:=hide (heap_alloc_new wr (.cells #[.slice x1 x2 x3,.slice y1 y2 y3] 50))
      have HK2:=hide ((Kept.refl [] wr).alloc (.cells #[.slice x1 x2 x3,.slice y1 y2 y3] 50))
      have hws:(wr.alloc (.cells #[.slice x1 x2 x3,.slice y1 y2 y3] 50)).heap.size = wr.heap.size + 1:=by simp
      have hown:∀ y,(Value.slice vo lx.length vc).ownBlock = some y→W0.heap.size≤y∧y < wr.heap.size:=fun y hy=>(uh HLx).own.lt y hy
      have HR1:=hide hr1
      have HR2:=hide hr2
      clear hx1 hx2 hr1 hr2 hm1 hm2
      go_upto_region 4 with (refine wpList_load_mid rfl 50 (.tmp 14) rfl b (off + i * 2) rfl [.slice x1 x2 x3,.slice y1 y2 y3] _ (uh HRG) Tryd.underlying50 rfl Tryd.size_pair ?_)
      try simp only [Act.put]
      generalize wr.alloc (.cells #[.slice x1 x2 x3,.slice y1 y2 y3] 50) = W2 at HP2 HK2 hws ⊢
      have hcp:=xa0m [] [.slice x1 x2 x3,.slice y1 y2 y3] [] (uh HP2) rfl
      have HQ1:=hide (show W2.cell? ⟨wr.heap.size,0,none⟩ = some (.slice x1 x2 x3) from hcp 0 _ rfl)
      have HQ2:=hide (show W2.cell? ⟨wr.heap.size,1,none⟩ = some (.slice y1 y2 y3) from hcp 1 _ rfl)
      have hno:wr.heap.size∉(Value.slice vo lx.length vc).ownBlock.toList:=by
        intro hm
        have:=hown _ (by simpa using hm)
        omega
      obtain ⟨OB,hOB⟩:∃ OB,(Value.slice vo lx.length vc).ownBlock = OB:=⟨_,rfl⟩
      rw [hOB] at hno hown
      refine ln_ly (by kernel_rfl) (by kernel_rfl) rfl (fun W=>Kept OB.toList W2 W) (Kept.refl _ W2).drew ?_
      refine LinY.mv (x:=.tmp 1) rfl (.slice vo lx.length vc) rfl (by simp only [Act.put,sa1,sa2,sa3]; rfl) ?_
      refine LinY.rd (.pointer (some ⟨wr.heap.size,0,none⟩)) (fun W hW=>by go_simp) (by simp only [Act.put,sa1,sa2,sa3]; rfl) ?_
      refine LinY.rd (.slice x1 x2 x3) (fun W hW=>by have h9:=hW.cell (uh HQ1) hno; go_simp) (by simp only [Act.put,sa1,sa2,sa3]; rfl) ?_
      refine LinY.rd (.pointer (some ⟨wr.heap.size,1,none⟩)) (fun W hW=>by go_simp) (by simp only [Act.put,sa1,sa2,sa3]; rfl) ?_
      refine LinY.rd (.slice y1 y2 y3) (fun W hW=>by have h9:=hW.cell (uh HQ2) hno; go_simp) (by simp only [Act.put,sa1,sa2,sa3]; rfl) ?_
      have hd2:=(Kept.refl [] W2).drew
      have hk02:=(uh HKr).trans ((uh HK2).trans hd2 (by simp)) (by simp)
      have hsz:wr.heap.size < W2.drew.heap.size:=by have:=hd2.size; omega
      have HLd:=hide ((uh HLx).agr ((uh HK2).trans hd2 (by simp)))
      obtain ⟨W3,hW3⟩:∃ W3,W2.drew = W3:=⟨_,rfl⟩
      rw [hW3] at hd2 hk02 hsz HLd ⊢
      refine ChL.call rfl Tryd.call22 [.slice x1 x2 x3] rfl (xa0x _ ka W3 ((uh HR1).old hk02 (by simp))) ?_
      rintro e w4 ⟨⟨kz,rfl,hA,hAb⟩,k4⟩
      have hk4:=hd2.trans k4 (by simp)
      refine ⟨_,rfl,hk4.mono (by simp),?_⟩
      simp only [Act.put,sa1,sa2,sa3]
      refine ChL.call rfl Tryd.call22 [.slice y1 y2 y3] rfl (xa0x _ kb w4 ((uh HR2).old (hk02.trans k4 (by simp)) (by simp))) ?_
      rintro e w5 ⟨⟨vz,rfl,hB,hBb⟩,k5⟩
      have hk5:=hk4.trans k5 (by simp)
      refine ⟨_,rfl,hk5.mono (by simp),?_⟩
      simp only [Act.put,sa1,sa2,sa3]
      have hA5:=hA.old k5 (by simp)
      have hz4:=k4.size
      obtain ⟨p1,p2,p3,rfl,_⟩:=id hA5
      obtain ⟨q1,q2,q3,rfl,_⟩:=id hB
      refine ChL.op (.agg #[.slice p1 p2 p3,.slice q1 q2 q3]) (xb3a w5 ⟨rfl,rfl,rfl⟩) (hk5.mono (by simp)) (by simp only [Act.put,sa1,sa2,sa3]; rfl) ?_
      have hka:=(Kept.refl [] w5).alloc (.cells #[.slice p1 p2 p3,.slice q1 q2 q3] 50)
      have hk6:=hk5.trans hka (by simp)
      refine ChL.op (.slice (some ⟨w5.heap.size,0,none⟩) 1 1) (xa6o w5 (.tmp 23) rfl _ _ rfl) (hk6.mono (by simp)) (by simp only [Act.put,sa1,sa2,sa3]; rfl) ?_
      have hrl:RdC 2 (w5.alloc (.cells #[.slice p1 p2 p3,.slice q1 q2 q3] 50)) (.slice (some ⟨w5.heap.size,0,none⟩) 1 1) (kvR [(.slice p1 p2 p3,.slice q1 q2 q3)]):=⟨_,1,1,rfl,rfl,Nat.le_refl _,by omega,fun _=>⟨w5.heap.size,0,rfl,fun j hj=>by
        have h0:j = 0:=by rw [xa0j] at hj; simp at hj; omega
        subst h0
        exact xa0m [] [.slice p1 p2 p3,.slice q1 q2 q3] [] (heap_alloc_new w5 _) rfl⟩⟩
      have hly:=((uh HLd).agr ((k4.trans k5 (by simp)).trans hka (by simp)))
      have hk06:=hk02.trans ((k4.trans k5 (by simp)).trans hka (by simp)) (by simp)
      refine ChL.app 32 50 (.tmp 16) (.tmp 24) rfl rfl _ W0.heap.size (.agg #[.slice none 0 0,.slice none 0 0]) 2 48 Tryd.underlying32 Tryd.infoQ rfl (by decide) (.slice vo lx.length vc) lx.length (kvR lx).flatten hly.own (some ⟨w5.heap.size,0,none⟩) 1 1 (kvR [(.slice p1 p2 p3,.slice q1 q2 q3)]) hrl (by intro r hr; simp [kvR] at hr; rw [hr]; rfl) (by intro r hr u hu; simp [kvR] at hr; rw [hr] at hu; simp at hu; rcases hu with rfl | rfl <;> rfl) (by have:=uh HLX; omega) (by have:=uh HLX; omega) hk06.size rfl rfl ?_
      intro ao7 c7 w7 HO7 HG7 HA7
      have hg7:=uh HG7
      rw [hOB] at hg7
      have hk7:=(Kept.refl OB.toList _).grown hg7 (by intro x hx; left; simp [hx])
      have hk27:=(hk6.mono (M:=OB.toList) (by simp)).trans hk7 (fun x hx=>Or.inl hx)
      refine ⟨hk27,?_⟩
      simp only [Act.put,sa1,sa2,sa3]
      refine ChL.op (.slice ao7 (lx.length + 1) c7) (by go_simp) hk27 (by simp only [Act.put,sa1,sa2,sa3]; rfl) (ChL.fin ?_)
      have hsn:=hly.snoc (hA5.old hka (by simp)) (hB.old hka (by simp)) (fun x hx=>⟨by have:=hAb x hx; have:=hk02.size; omega,fun e=>by rw [hOB] at e; have:=(hown x e).2; have:=hAb x hx; omega⟩) (fun x hx=>⟨by have:=hBb x hx; have:=hk02.size; omega,fun e=>by rw [hOB] at e; have:=(hown x e).2; have:=hBb x hx; omega⟩) (uh HO7) (uh HG7) (uh HA7)
      have hk07:=hk06.grown (uh HG7) (fun x hx=>Or.inr (by rw [hOB] at hx; exact (hown x hx).1))
      have HSN:=hide hsn
      have HK7:=hide hk07
      clear hsn hk07 hk27 hk7 hk6 hk06 hly hrl hA hB hA5 k4 k5 hka
      go_wp2
      refine ⟨⟨i + 1,.slice ao7 (lx.length + 1) c7,_,by go_num,rfl,hlt,hide (by rw [uh HEi,← List.append_assoc]; exact uh HSN),HK7⟩,?_⟩
      simp [intOf]; omega
    · have hie:i = n:=by omega
      subst hie
      have hlt':¬ (i:Int) < i:=by omega
      go_wp2
      go_ret
      have h9:=uh HLx
      rw [List.take_of_length_le (by have:=uh HLE; omega)] at h9
      first | exact ⟨_,rfl,⟨lx,h9⟩,uh HKr⟩ | exact ⟨_,lx,rfl,h9,uh HKr⟩
theorem xb3j (a : Addr) (w : World) : (method 269 65 (.pointer (some a)) "notary/hamt.lay").run Tryd.prog w = .ok (101, .pointer (some a)) w := by kernel_rfl
theorem xb3g (a : Addr) (w : World) : (method 269 85 (.pointer (some a)) "notary/hamt.lay").run Tryd.prog w = .ok (103, .pointer (some a)) w := by kernel_rfl
theorem xb6u {H:Hs} {d i:Nat} {L:Prs} (h:Pre H d L):Pre H (d + 1) (ch H d i L):=fun x hx y hy j hj=>by
  obtain ⟨a1,a2⟩:=(ch_mem x).1 hx
  obtain ⟨b1,b2⟩:=(ch_mem y).1 hy
  rcases Nat.lt_or_ge j d with g | g
  · exact h x a1 y b1 j g
  · rw [show j = d by omega,a2,b2]
theorem TreeAt.form {S:Nat→Prop} {H:Hs} {W:World} {f:Nat} {v:Value} {L:Prs} (h:TreeAt S H W f v L):(∃ g,v = bkV g∧BkAt S H W g L)∨(∃ g,v = brV g∧sgl H L = false):=by
  cases hs:sgl H L with
  | true=>exact Or.inl (h.bk hs)
  | false =>
    cases f with
    | zero=>rw [h.1] at hs; cases hs
    | succ f =>
      obtain ⟨g,_,_,e,_⟩:=h.2 hs
      exact Or.inr ⟨g,e,rfl⟩
set_option maxHeartbeats 4000000 in
theorem xb5q (S:Nat→Prop) (k:Nat) (hk:1≤k∧k≤32):∀ (f:Nat),f≤64→∀ (g:Nat) (M L:Prs) (lv:Value) (l:List VP) (W0 w:World),TreeAt S (hsZ k) W0 f (brV g) M→sgl (hsZ k) M = false→Srt (hsZ k) M→Pre (hsZ k) (64 - f) M→Kept [] W0 w→LayAt W0.heap.size w lv l L→L.length + M.length≤1000000000 →
    Calls Tryd.prog 103 #[.pointer (some ⟨g,0,none⟩),lv] w fun e w'=>∃ v' l',e = .returned v'∧LayAt W0.heap.size w' v' l' (L++M)∧Kept [] W0 w':=by
  intro f
  induction f with
  | zero=>intro _ g M L lv l W0 w ht hs; rw [ht.1] at hs; cases hs
  | succ f ih =>
    intro hf g M L lv l W0 w ht hs hsr hpre hk0 hl hn
    have hH:=hsZ_ok hk
    have IH:=hide (ih (by omega))
    clear ih
    obtain ⟨g',kv,vs,e,hSg,hh,hrow,hlen,hkd⟩:=ht.2 hs
    have eg:g' = g:=by injection e with _ e2; injection e2 with e3; injection e3 with e4; injection e4 with e5; exact e5.symm
    subst eg
    obtain ⟨_,b1,_⟩:=br_row hh
    have hfl:(kidsL (hsZ k) (63 - f) M).flatten = M:=xb7z hH (by omega) hsr (by rw [show 63 - f = 64 - (f + 1) by omega]; exact hpre)
    have hKs:∀ K∈kidsL (hsZ k) (63 - f) M,Srt (hsZ k) K∧Pre (hsZ k) (64 - f) K:=fun K hK=>by
      obtain ⟨j,_,rfl⟩:=List.mem_map.1 hK
      refine ⟨hsr.ch _ _,?_⟩
      have h9:Pre (hsZ k) (63 - f) M:=by rw [show 63 - f = 64 - (f + 1) by omega]; exact hpre
      have h8:=xb6u (i:=j) h9
      rw [show 63 - f + 1 = 64 - f by omega] at h8
      exact h8
    generalize kidsL (hsZ k) (63 - f) M = Ks at hlen hkd hfl hKs
    have HFl:=hide hfl
    have HKs:=hide hKs
    have HKd:=hide hkd
    have HLen:=hide hlen
    obtain ⟨b,off,cap,rfl,hc1,hc2,hSb,hcells⟩:=hrow
    obtain ⟨n,hnn⟩:∃ n,vs.length = n:=⟨_,rfl⟩
    rw [hnn] at hc1 hcells b1 HKd HLen
    have c1a:=hk0.cell b1 (by simp)
    have HCE:=hide hcells
    have HKW:=hide hk0
    have HLY:=hide hl
    have HN:=hide hn
    have hm1:=xb3j
    have hm2:=xb3g
    clear hfl hKs hkd hlen hcells hk0 hl hnn hh b1 ht hs hsr hpre e hn
    go_enter Tryd.func103,Tryd.ntmps103
    go_wp2
    go_loopw [1,12] (fun t1 t12 wr=>∃ (i:Nat) (v:Value) (lx:List VP),t12 = .int .i64 i∧t1 = v∧i≤n∧Hid (LayAt W0.heap.size wr v lx (L++(Ks.take i).flatten))∧Hid (Kept [] W0 wr)) (fun _ t _=>n - (intOf t).toNat)
    case atStart=>exact ⟨0,lv,l,rfl,rfl,Nat.zero_le _,hide (by rw [List.take_zero,List.flatten_nil,List.append_nil]; exact uh HLY),HKW⟩
    case round =>
      clear HLY HKW c1a
      obtain ⟨i,v,lx,rfl,rfl,hi,HLx,HKr⟩:=hrel
      by_cases hlt:i < n
      · have hlt':(i:Int) < n:=by omega
        have hx1:=(uh HKr).cell (uh HCE i hlt) (by simp)
        have hti:=uh HKd i hlt
        have hiK:i < Ks.length:=by have:=uh HLen; omega
        have hmem:Ks.getD i []∈Ks:=by rw [List.getD_eq_getElem?_getD,List.getElem?_eq_getElem hiK]; exact List.getElem_mem hiK
        obtain ⟨hks1,hks2⟩:=uh HKs _ hmem
        have hEi:(Ks.take (i + 1)).flatten = (Ks.take i).flatten++Ks.getD i []:=by
          rw [List.take_succ_eq_append_getElem hiK,List.flatten_append,List.getD_eq_getElem?_getD,List.getElem?_eq_getElem hiK]; simp
        have hle:(L++(Ks.take i).flatten).length + (Ks.getD i []).length≤1000000000:=by
          have h1:=congrArg List.length (uh HFl)
          have h2:Ks.flatten = (Ks.take (i + 1)).flatten++(Ks.drop (i + 1)).flatten:=by rw [← List.flatten_append,List.take_append_drop]
          rw [h2,hEi,List.length_append,List.length_append] at h1
          have:=uh HN
          rw [List.length_append]; omega
        have HEi:=hide hEi
        have HLe:=hide hle
        clear hEi hle hmem
        generalize Ks.getD i [] = K at hti hks1 hks2 HEi HLe
        generalize vs.getD i undef = tv at hx1 hti
        rcases hti.form with ⟨gb,rfl,hb⟩ | ⟨gb,rfl,hsg⟩
        · go_wp2_with fail
          refine Calls.mono (xb0v S k gb K (L++(Ks.take i).flatten) _ lx W0 wr hb (uh HKr) (uh HLx) (uh HLe)) ?_
          rintro e w2 ⟨v2,l2,rfl,hl2,k2⟩
          have HL2:=hide hl2
          have HK2:=hide k2
          clear hl2 k2
          go_wp2_with fail
          refine ⟨⟨i + 1,v2,l2,by go_num,rfl,hlt,hide (by rw [uh HEi,← List.append_assoc]; exact uh HL2),HK2⟩,?_⟩
          simp [intOf]; omega
        · go_wp2_with fail
          refine Calls.mono (uh IH gb K (L++(Ks.take i).flatten) _ lx W0 wr hti hsg hks1 hks2 (uh HKr) (uh HLx) (uh HLe)) ?_
          rintro e w2 ⟨v2,l2,rfl,hl2,k2⟩
          have HL2:=hide hl2
          have HK2:=hide k2
          clear hl2 k2
          go_wp2_with fail
          refine ⟨⟨i + 1,v2,l2,by go_num,rfl,hlt,hide (by rw [uh HEi,← List.append_assoc]; exact uh HL2),HK2⟩,?_⟩
          simp [intOf]; omega
      · have hie:i = n:=by omega
        subst hie
        have hlt':¬ (i:Int) < i:=by omega
        go_wp2
        go_ret
        have h9:=uh HLx
        rw [List.take_of_length_le (by have:=uh HLen; omega),uh HFl] at h9
        first | exact ⟨_,rfl,⟨lx,h9⟩,uh HKr⟩ | exact ⟨_,lx,rfl,h9,uh HKr⟩
set_option maxHeartbeats 2000000 in
theorem xb1v (S:Nat→Prop) (k:Nat) (mv:Value) (L:Prs) (w:World) (hM:MapAt S k w mv L) :
    Calls Tryd.prog 12 #[mv] w fun e w'=>∃ v' l',e = .returned v'∧LayAt w.heap.size w' v' l' L∧Kept [] w w':=by
  obtain ⟨hk,hs,hfit,hlen,g,tv,rfl,hSg,hh,htop⟩:=hM
  have c2:w.cell? ⟨g,2,none⟩ = some tv:=by rw [cell_of_row _ _ _ _ _ _ hh]; rfl
  have he1:=en_bk
  have he2:=en_br
  have he3:=en_nil
  have hg1:=eg_bk
  have hg2:=eg_br
  have hm1:=xb3j
  have hm2:=xb3g
  rcases htop with ⟨rfl,rfl⟩ | ht
  · clear hh
    go_enter Tryd.func12,Tryd.ntmps12
    go_wp2_with fail
    go_ret
    first | exact ⟨_,rfl,⟨[],LayAt.nil _ _⟩,Kept.refl _ _⟩ | exact ⟨_,[],rfl,LayAt.nil _ _,Kept.refl _ _⟩
  · have hf:=ht.form
    have HT:=hide ht
    have HS:=hide hs
    clear hh ht hs hfit
    rcases hf with ⟨gb,rfl,hb⟩ | ⟨gb,rfl,hsg⟩
    · go_enter Tryd.func12,Tryd.ntmps12
      go_wp2_with fail
      refine Calls.mono (xb0v S k gb L [] _ [] w w hb (Kept.refl _ _) (LayAt.nil _ _) (by simpa using hlen)) ?_
      rintro e w2 ⟨v2,l2,rfl,hl2,k2⟩
      have HL2:=hide hl2
      have HK2:=hide k2
      clear hl2 k2
      go_wp2_with fail
      go_ret
      first | exact ⟨_,rfl,⟨l2,uh HL2⟩,uh HK2⟩ | exact ⟨_,l2,rfl,uh HL2,uh HK2⟩
    · go_enter Tryd.func12,Tryd.ntmps12
      go_wp2_with fail
      refine Calls.mono (xb5q S k hk 64 (Nat.le_refl _) gb L [] _ [] w w (uh HT) hsg (uh HS) (fun x _ y _ j hj=>by omega) (Kept.refl _ _) (LayAt.nil _ _) (by simpa using hlen)) ?_
      rintro e w2 ⟨v2,l2,rfl,hl2,k2⟩
      have HL2:=hide hl2
      have HK2:=hide k2
      clear hl2 k2
      go_wp2_with fail
      go_ret
      first | exact ⟨_,rfl,⟨l2,uh HL2⟩,uh HK2⟩ | exact ⟨_,l2,rfl,uh HL2,uh HK2⟩
end
section
open Go Go.RowKit Go.BigFrame

end
section
open Go.RowKit Go.BigFrame


theorem xa3a {L:List Nat} {w0:World} (b:Nat) (hb:b∈L∨w0.heap.size≤b):∀ (vs:List Value) (o:Nat) (w:World),Kept L w0 w→Kept L w0 (w.setCells b o vs)
  | [],o,w,h=>h
  | v :: r,o,w,h=>by
    rw [World.setCells]
    exact xa3a b hb r (o + 1) _ (h.setCell (p:=⟨b,o,none⟩) hb v)
theorem p_two1 {a b:Value} (ha:a.oneCell' = true) (hb:b.oneCell' = true):(#[a,b]:Array Value).all (·.oneCell') = true:=by simp [ha,hb]
theorem xa7y {u:Value}:∀ {rows:List (List Value)} (hs:∀ r∈rows,r.length = 2) {i:Nat} (hi:i < rows.length) (a:Value) (ha:rows[i][0]? = some a),rows.flatten.set (i * 2 + 1) u = (rows.set i [a,u]).flatten
  | [],hs,i,hi,a,ha=>by simp at hi
  | r :: rs,hs,0,hi,a,ha=>by
    obtain ⟨x,y,rfl⟩:∃ x y,r = [x,y]:=by
      have:=hs r (by simp)
      match r,this with
      | [x,y],_=>exact ⟨x,y,rfl⟩
    have e:x = a:=by simpa using ha
    subst e
    simp
  | r :: rs,hs,i + 1,hi,a,ha=>by
    obtain ⟨x,y,rfl⟩:∃ x y,r = [x,y]:=by
      have:=hs r (by simp)
      match r,this with
      | [x,y],_=>exact ⟨x,y,rfl⟩
    have ih:=xa7y (u:=u) (fun r hr=>hs r (by simp [hr])) (i:=i) (by simpa using hi) a ha
    rw [List.set_cons_succ,List.flatten_cons,List.flatten_cons,← ih,show (i + 1) * 2 + 1 = (i * 2 + 1) + 1 + 1 by omega]
    rfl
theorem xa8i {α:Type} {l:List α} {i:Nat} {a d:α} (h:i < l.length):(l.set i a).getD i d = a:=by
  rw [List.getD_eq_getElem?_getD,List.getElem?_set_self h,Option.getD_some]
theorem xa7h {α:Type} {l:List α} {i j:Nat} {a d:α} (h:i≠j):(l.set i a).getD j d = l.getD j d:=by
  rw [List.getD_eq_getElem?_getD,List.getElem?_set_ne h,← List.getD_eq_getElem?_getD]
theorem xa5q {α:Type} (l:List α) (a d:α) (i:Nat) (hi:i < l.length + 1):(l++[a]).getD i d = if i < l.length then l.getD i d else a:=by
  simp only [List.getD_eq_getElem?_getD]
  by_cases h:i < l.length
  · rw [if_pos h,List.getElem?_append_left h]
  · rw [if_neg h,List.getElem?_append_right (by omega),show i - l.length = 0 by omega]
    simp
theorem xa2s {S:Nat→Prop} {k:Nat} {W:World} {v:Value} {L:Prs} (h:MapAt S k W v L):∃ g,v = .pointer (some ⟨g,0,none⟩):=by
  obtain ⟨g,tv,e,_⟩:=h.at_
  exact ⟨g,e⟩
theorem ins_le (H:Hs) (q v:List Nat):∀ L:Prs,(insP H q v L).length≤L.length + 1
  | []=>by simp [insP]
  | y :: L=>by
    have ih:=ins_le H q v L
    rw [xa2c]
    split
    · simp
    · split
      · simp
      · simp only [List.length_cons]; omega
theorem xa2v {P:Program} (w:World) (g off:Nat) (t ty:TypeId) (cur:Array Value) (v:Value) (hg:w.heap[g]? = some (.cells cur t (0,0))) (ho:off + 1≤cur.size) (hi:(P.info? ty).map (·.size) = some 1)
    (h1:v.oneCell' = true):(storeVar ty ⟨g,off,none⟩ v).run P w = .ok () (w.setRow g (cur.toList.take off++[v]++cur.toList.drop (off + 1)).toArray):=by
  have:=run_storeCells_at (P:=P) g off t [v] 0 cur w hg (by simpa using ho) (fun x hx=>by simp at hx; subst hx; exact h1)
  have hc:v.cells = #[v]:=by cases v <;> first | rfl | cases h1
  cases hq:P.info? ty with
  | none=>simp [hq] at hi
  | some i =>
    have hs:i.size = 1:=by simpa [hq] using hi
    simp only [Nat.add_zero] at this
    simp [storeVar,sizeOf,typeInfo,hq,hc,hs,this]
theorem xa2q {P:Program} {o:Oper} {a:Act} {w:World} {K:Act→World→Prop} {Q:Exit→Act→World→Prop} (ty:TypeId) (x y:Operand) (ho:o.op = .store ty x y) (g off:Nat) (t:TypeId) (cur cur':Array Value) (v:Value) (hx:a.eval x = .pointer (some ⟨g,off,none⟩)) (hy:a.eval y = v)
    (hg:w.heap[g]? = some (.cells cur t (0,0))) (hoff:off + 1≤cur.size) (hi:(P.info? ty).map (·.size) = some 1) (h1:v.oneCell' = true) (hc:(cur.toList.take off++[v]++cur.toList.drop (off + 1)).toArray = cur') (h:K (a.put o.dst undef) (w.setRow g cur')):o.wp P a w K Q:=by
  subst hc
  unfold Oper.wp execOp
  simp only [ho,hx,hy,Instr.storeAt,Instr.sureAddr,Sem.run_bind,Sem.run_pure,Result.andThen_ok,xa2v w g off t ty cur v hg hoff hi h1]
  exact h
theorem xb3f {ops:Array Oper} {rest:List Oper} {o:Oper} {a:Act} {w:World} {Q:Exit→Act→World→Prop} (hw:Region.wanted o (yielded ops a.tmps) = true) (ty:TypeId) (x y:Operand) (ho:o.op = .store ty x y) (g off:Nat) (t:TypeId) (cur cur':Array Value) (v:Value) (hx:a.eval x = .pointer (some ⟨g,off,none⟩)) (hy:a.eval y = v)
    (hg:w.heap[g]? = some (.cells cur t (0,0))) (hoff:off + 1≤cur.size) (hi:(Tryd.prog.info? ty).map (·.size) = some 1) (h1:v.oneCell' = true) (hc:(cur.toList.take off++[v]++cur.toList.drop (off + 1)).toArray = cur') (h:wpList Tryd.prog ops Q rest (a.put o.dst undef) (w.setRow g cur')):wpList Tryd.prog ops Q (o :: rest) a w :=
  wpList_want hw fun _ hK=>xa2q ty x y ho g off t cur cur' v hx hy hg hoff hi h1 hc (hK _ _ h)
structure BkOk (w0 w:World) (g:Nat) (sl:Value) (l:List VP) (bs:Prs):Prop where
  g0:w0.heap.size≤g
  hd:w.heap[g]? = some (.cells #[sl] 34 (0,0))
  own:w.ownsRow w0.heap.size 50 2 sl l.length (kvR l).flatten
  len:l.length = bs.length
  rd:∀ i,i < l.length→Rd w0 (l.getD i (undef,undef)).1 (bs.getD i ([],[])).1∧Rd w0 (l.getD i (undef,undef)).2 (bs.getD i ([],[])).2
  kk:Kept [] w0 w
theorem xa4c (l:List VP):∀ r∈kvR l,r.length = 2:=fun r hr=>by
  obtain ⟨p,_,rfl⟩:=List.mem_map.1 hr; rfl
theorem bkR_at (l:List VP) (i:Nat) (hi:i < l.length):(kvR l)[i]'(by rw [xa0j]; exact hi) = [(l.getD i (undef,undef)).1,(l.getD i (undef,undef)).2]:=by
  simp [kvR,List.getD_eq_getElem?_getD,List.getElem?_eq_getElem hi]
theorem BkOk.at_ {w0 w:World} {g:Nat} {sl:Value} {l:List VP} {bs:Prs} (h:BkOk w0 w g sl l bs) {i:Nat} (hi:i < l.length):∃ b c,sl = .slice (some ⟨b,0,none⟩) l.length c∧w0.heap.size≤b∧b < w.heap.size∧b≠g∧w.cell? ⟨b,i * 2,none⟩ = some (l.getD i (undef,undef)).1∧w.cell? ⟨b,i * 2 + 1,none⟩ = some (l.getD i (undef,undef)).2∧∃ cur,w.heap[b]? = some (.cells cur 50 (0,0)):=by
  rcases h.own.2 with ⟨e,h9⟩ | ⟨b,cap,cur,rfl,hg,hh,hc,hm,hsz,ht⟩
  · omega
  · have hne:b≠g:=fun e=>by
      have h1:=h.hd
      rw [← e,hh] at h1
      cases h1
    refine ⟨b,cap,rfl,hg,lt_of_block hh,hne,?_,?_,cur,hh⟩
    · have h8:=h.own.cells (g:=b) rfl (i * 2 + 0) (l.getD i (undef,undef)).1 (xa4j (xa4c l) (show i < (kvR l).length by rw [xa0j]; exact hi) (j:=0) (by rw [bkR_at l i hi]; rfl))
      rw [Addr.add_lit] at h8
      simp only [Nat.zero_add,Nat.add_zero] at h8
      exact h8
    · have h8:=h.own.cells (g:=b) rfl (i * 2 + 1) (l.getD i (undef,undef)).2 (xa4j (xa4c l) (show i < (kvR l).length by rw [xa0j]; exact hi) (j:=1) (by rw [bkR_at l i hi]; rfl))
      rw [Addr.add_lit] at h8
      simp only [Nat.zero_add,Nat.add_zero] at h8
      exact h8
theorem BkOk.kept {w0 w w':World} {g:Nat} {sl:Value} {l:List VP} {bs:Prs} (h:BkOk w0 w g sl l bs) (k:Kept [] w w'):BkOk w0 w' g sl l bs :=
  ⟨h.g0,k.heap h.hd (by simp),k.owns h.own (by simp),h.len,h.rd,h.kk.trans k (by simp)⟩
theorem BkOk.form {w0 w:World} {g:Nat} {sl:Value} {l:List VP} {bs:Prs} (h:BkOk w0 w g sl l bs):∃ ao c,sl = .slice ao l.length c:=xa1l h.own
set_option maxHeartbeats 4000000 in
theorem xa9g (w0:World) (g:Nat) (sl:Value) (l:List VP) (bs:Prs) (kv:Value) (q:List Nat) (w:World) (h:BkOk w0 w g sl l bs) (hq:Rd w kv q) (hl:bs.length≤1000000000) :
    Calls Tryd.prog 10 #[.pointer (some ⟨g,0,none⟩),kv] w fun e w'=>∃ v',e = .returned (.tuple #[v',.bool (getP q bs).isSome])∧Rd w' v' ((getP q bs).getD [])∧Kept [] w w':=by
  obtain ⟨ao,c,rfl⟩:=h.form
  have HB:=hide h
  have HQ:=hide hq
  have hln:=h.len
  obtain ⟨n,hn⟩:∃ n,l.length = n:=⟨_,rfl⟩
  rw [hn] at hln
  have HN:=hide hn
  have HLN:=hide hln.symm
  have hn9:n≤1000000000:=by omega
  have HC:=hide (show w.cell? ⟨g,0,none⟩ = some (.slice ao n c) by rw [cell_of_row _ _ 0 _ _ _ h.hd,hn]; rfl)
  clear h hq hl hln hn
  go_enter Tryd.func10,Tryd.ntmps10
  go_wp2_with fail
  go_loopw [6] (fun t6 wr=>∃ (i:Nat),t6 = .int .i64 i∧i≤n∧Hid (∀ j,j < i→(bs.getD j ([],[])).1≠q)∧Hid (Kept [] w wr)) (fun t _=>n - (intOf t).toNat)
  case atStart=>exact ⟨0,rfl,Nat.zero_le _,hide (fun j hj=>by omega),hide (Kept.refl _ _)⟩
  case round =>
    obtain ⟨i,rfl,hi,HNE,HKr⟩:=hrel
    have hc0:=(uh HKr).cell (uh HC) (by simp)
    by_cases hlt:i < n
    · have hlt':(i:Int) < n:=by omega
      obtain ⟨b,c',e,hb0,hbw,hbg,hx1,hx2,_⟩:=(uh HB).at_ (i:=i) (by rw [uh HN]; exact hlt)
      have ea:ao = some ⟨b,0,none⟩:=by injection e
      subst ea
      have hrd:=(uh HB).rd i (by rw [uh HN]; exact hlt)
      have HR1:=hide (hrd.1.old (uh HB).kk (by simp))
      have HR2:=hide (hrd.2.old (uh HB).kk (by simp))
      have hy1:=(uh HKr).cell hx1 (by simp)
      have hy2:=(uh HKr).cell hx2 (by simp)
      have HY2:=hide hy2
      have HNX:=hide (show ∀ e9:(bs.getD i ([],[])).1 = q,bix q bs = i from fun e9=>bix_of (by rw [uh HLN]; exact hlt) (uh HNE) e9)
      have HGB:=hide (xa2u q bs)
      generalize (l.getD i (undef,undef)).1 = x1 at hy1 HR1
      generalize (l.getD i (undef,undef)).2 = x2 at hy2 HR2 HY2
      obtain ⟨a1,a2,a3,rfl,_⟩:=id (uh HR1)
      obtain ⟨b1,b2,b3,rfl,_⟩:=id (uh HR2)
      clear hrd hx1 hx2 e hbw hb0
      go_wp2_with fail
      refine Calls.mono (xa1p _ _ (bs.getD i ([],[])).1 q wr ((uh HR1).old (uh HKr) (by simp)) ((uh HQ).old (uh HKr) (by simp))) ?_
      rintro e w3 ⟨rfl,h3⟩
      rw [h3]
      clear h3
      by_cases hk:(bs.getD i ([],[])).1 = q
      · have hbi:=uh HNX hk
        have HG:=hide (show getP q bs = some (bs.getD i ([],[])).2 by rw [uh HGB,hbi,if_pos (by rw [uh HLN]; exact hlt)])
        rw [decide_eq_true hk]
        go_wp2_with fail
        go_ret2
        exact ⟨_,by rw [uh HG]; rfl,by rw [uh HG]; exact (uh HR2).old (uh HKr) (by simp),uh HKr⟩
      · rw [decide_eq_false hk]
        have HNE2:=hide (show ∀ j,j < i + 1→(bs.getD j ([],[])).1≠q from fun j hj=>by
          rcases Nat.lt_or_ge j i with g9 | g9
          · exact uh HNE j g9
          · rw [show j = i by omega]; exact hk)
        clear hk
        go_wp2_with fail
        refine ⟨⟨i + 1,by go_num,hlt,HNE2,HKr⟩,?_⟩
        simp [intOf]; omega
    · have hie:i = n:=by omega
      subst hie
      have hlt':¬ (i:Int) < i:=by omega
      have hall:=xa9z (q:=q) (L:=bs) (fun j hj=>uh HNE j (by rw [uh HLN] at hj; exact hj))
      have HG:=hide (show getP q bs = none by rw [xa2u,hall,if_neg (by omega)])
      clear hall
      go_wp2_with fail
      go_ret2
      exact ⟨_,by rw [uh HG]; rfl,by rw [uh HG]; exact Rd.nil _,uh HKr⟩
end
section
open Go Go.RowKit Go.BigFrame
section
variable {P:Program} {Q:Exit→Act→World→Prop} {S:World→Prop}
end
end
section
open Go
section
variable {P:Program} {ops:Array Oper} {Q:Exit→Act→World→Prop} {md:Region.Mode} {S:Array Bool→World→Prop}
def AnyL (P:Program) (md:Region.Mode) (ops:Array Oper) (Q:Exit→Act→World→Prop) (S:Array Bool→World→Prop):Nat→Array Bool→Act→World→Prop
  | 0,d,a,w=>Region.ready md ops d = []∧Q .normal a w
  | g + 1,d,a,w=>(Region.ready md ops d = []→Q .normal a w)∧∀ i∈Region.ready md ops d,wpOp P ops Q i (fun a' w'=>S (d.setIfInBounds i true) w'∧AnyL P md ops Q S g (d.setIfInBounds i true) a' w') a w
theorem AnyL.any:∀ (g:Nat) (d:Array Bool) (a:Act) (w:World),AnyL P md ops Q S g d a w→wpAny P md ops Q g d a w
  | 0,_,_,_,h=>h
  | g + 1,_,_,_,h=>⟨h.1,fun i hi=>wpOp_mono (fun a' w' h'=>AnyL.any g _ a' w' h'.2) (h.2 i hi)⟩
theorem AnyL.first {i t:Nat} {oi ot:Oper} {v:Value} {T:World→Prop} (hi:ops[i]? = some oi) (ht:ops[t]? = some ot) (hit:t≠i) (hb:∃ e∈ot.after,Region.binds md e = true∧e.on = i)
    (hsel:∀ (j:Nat) (o:Oper) cs b,ops[j]? = some o→o.op≠.select cs b) (hQ:∀ c a w,Q (.panic c) (a.put oi.dst v) w→Q (.panic c) a w)
    (hST:∀ d w,S d w→d.getD t true = false→T w) (hSi:∀ d w,S (d.setIfInBounds i true) w↔S d w) :
    ∀ (g:Nat) (d:Array Bool) (a:Act) (w:World),
      (∀ j oj,ops[j]? = some oj→j≠i→d.getD j true = false→(∀ e∈oj.after,Region.binds md e = true→e.on≠i)→oi.apart ops oj = true) →
      i∈Region.ready md ops d→YieldsIf P ops T oi v a→d.getD t true = false→S d w →
      AnyL P md ops Q S g (d.setIfInBounds i true) (a.put oi.dst v) w→AnyL P md ops Q S (g + 1) d a w:=by
  intro g
  induction g with
  | zero =>
    intro d a w _ hr hy hdt hS H
    refine ⟨fun h=>(by rw [h] at hr; cases hr),fun j hj=>?_⟩
    by_cases hji:j = i
    · subst hji; exact hy.wpOp hi (hST d w hS hdt) ⟨(hSi d w).2 hS,H⟩
    · have:=ready_mono hj hji
      rw [H.1] at this
      cases this
  | succ g ih =>
    intro d a w hfree hr hy hdt hS H
    refine ⟨fun h=>(by rw [h] at hr; cases hr),fun j hj=>?_⟩
    by_cases hji:j = i
    · subst hji; exact hy.wpOp hi (hST d w hS hdt) ⟨(hSi d w).2 hS,H⟩
    · have h1:=H.2 j (ready_mono hj hji)
      obtain ⟨hjun,oj,hoj,hall⟩:=mem_ready.1 hj
      have hnot:∀ e∈oj.after,Region.binds md e = true→e.on≠i:=fun e he hb heq=>by
        have h1:=hall e he hb
        have h0:=(mem_ready.1 hr).1
        rw [heq] at h1
        rcases Nat.lt_or_ge i d.size with h' | h'
        · simp [h'] at h0 h1; rw [h0] at h1; cases h1
        · simp [Array.getElem?_eq_none h'] at h1
      have hjt:j≠t:=fun e9=>by
        subst e9
        rw [ht] at hoj
        injection hoj with hoj
        obtain ⟨e,he,hb1,hb2⟩:=hb
        exact hnot e (by rw [← hoj]; exact he) hb1 hb2
      have h2:=wpOp_putIf hoj (hfree j oj hoj hji hjun hnot) (fun cs b=>hsel i oi cs b hi) (fun cs b=>hsel j oj cs b hoj) hQ hy h1
      refine wpOp_mono (fun a' w' h3=>?_) h2
      have hc:=Array.setIfInBounds_comm (xs:=d) true true hji
      have hS':S (d.setIfInBounds j true) w':=(hSi _ w').1 (by rw [hc]; exact h3.2.1)
      refine ⟨hS',ih (d.setIfInBounds j true) a' w' (fun k ok hk hki hun hno=>?_) (ready_mono hr (Ne.symm hji)) h3.1 ?_ hS' ?_⟩
      · refine hfree k ok hk hki ?_ hno
        by_cases hjk:j = k
        · subst hjk; exact hjun
        · rw [getD_set_ne true hjk] at hun; exact hun
      · rw [getD_set_ne true hjt]; exact hdt
      · rw [hc]; exact h3.2.2
theorem AnyL.take {i t:Nat} {oi ot:Oper} {v:Value} {T:World→Prop} {g:Nat} {d:Array Bool} {a:Act} {w:World} (hi:ops[i]? = some oi) (ht:ops[t]? = some ot) (hit:t≠i) (hs:Region.noSelect ops = true) (hf:Region.free md ops d i = true)
    (hr:(Region.ready md ops d).contains i = true) (hb:ot.after.any (fun e=>Region.binds md e && e.on == i) = true) (hQ:∀ c a w,Q (.panic c) (a.put oi.dst v) w→Q (.panic c) a w)
    (hST:∀ d w,S d w→d.getD t true = false→T w) (hSi:∀ d w,S (d.setIfInBounds i true) w↔S d w) (hy:YieldsIf P ops T oi v a) (hd:d.getD t true = false) (hS:S d w)
    (h:AnyL P md ops Q S g (d.setIfInBounds i true) (a.put oi.dst v) w):AnyL P md ops Q S (g + 1) d a w:=by
  refine AnyL.first hi ht hit ?_ (Region.noSelect_spec hs) hQ hST hSi g d a w (Region.free_spec hi hf) (by simpa using hr) hy hd hS h
  obtain ⟨e,he,h9⟩:=Array.any_eq_true'.1 hb
  simp only [Bool.and_eq_true,beq_iff_eq] at h9
  exact ⟨e,he,h9⟩
theorem AnyL.forced {i:Nat} {o:Oper} {g:Nat} {d:Array Bool} {a:Act} {w:World} (hr:Region.ready md ops d = [i]) (ho:ops[i]? = some o) (hg:o.guard = none)
    (h:∀ K:Act→World→Prop,(∀ a' w',S (d.setIfInBounds i true) w'→AnyL P md ops Q S g (d.setIfInBounds i true) a' w'→K a' w')→o.wp P a w K Q):AnyL P md ops Q S (g + 1) d a w:=by
  refine ⟨fun h0=>(by rw [hr] at h0; cases h0),fun j hj=>?_⟩
  rw [hr] at hj
  obtain rfl:j = i:=by simpa using hj
  refine wpOp_step ho (fun K' hK=>?_)
  rw [if_pos (by unfold Region.wanted; rw [hg])]
  exact h K' (fun a' w' h1 h2=>hK a' w' ⟨h1,h2⟩)
end
section
variable {P:Program} {Q:Exit→Act→World→Prop}
end
end
section
open Go Go.RowKit Go.BigFrame
section
variable {P:Program} {Q:Exit→Act→World→Prop} {T:World→Prop}
def linRT (O:Array Oper) (t:Nat):List Nat→Array Bool→Bool
  | [],_=>true
  | i :: r,d=>(Region.free .any O d i && (Region.ready .any O d).contains i) && ((match O[t]? with | some ot=>ot.after.any (fun e=>Region.binds .any e && e.on == i) | none=>false) && (decide (t≠i) && (decide (d.getD t true = false) && linRT O t r (d.setIfInBounds i true))))
def lateS (T:World→Prop) (t:Nat):Array Bool→World→Prop:=fun d w=>d.getD t true = false→T w
theorem xb6i {t i:Nat} (h:t≠i) (d:Array Bool) (w:World):lateS T t (d.setIfInBounds i true) w↔lateS T t d w:=by
  unfold lateS
  rw [getD_set_ne true (fun e=>h e.symm)]
theorem xb3e (t:Nat) (d:Array Bool) (w:World):lateS T t (d.setIfInBounds t true) w:=fun h=>by
  exfalso
  by_cases hd:t < d.size
  · simp [Array.getD,hd] at h
  · simp [Array.getD,hd] at h
theorem xa5x {O:Array Oper} {F:Act→World→Prop} {m t:Nat} {ot:Oper} {D:Array Bool} (ht:O[t]? = some ot) (hs:Region.noSelect O = true) (hF:∀ a w,F a w→AnyL P .any O (NoPanic Q) (lateS T t) m D a w) :
    ∀ (R:List Nat) (rs:List Oper) (d:Array Bool) (a:Act) (w:World),R.map (O[·]?) = rs.map some→(∀ o∈rs,o.guard = none)→linRT O t R d = true→linD R d = D→T w→LinY P T F rs a w→AnyL P .any O (NoPanic Q) (lateS T t) (R.length + m) d a w
  | [],[],d,a,w,_,_,_,hc,_,h=>by rw [List.length_nil,Nat.zero_add]; have e:d = D:=hc; rw [e]; exact hF a w h
  | [],_ :: _,_,_,_,he,_,_,_,_,_=>by simp at he
  | i :: R,[],_,_,_,he,_,_,_,_,_=>by simp at he
  | i :: R,o :: rs,d,a,w,he,hg,hr,hc,hS,h=>by
    simp only [List.map_cons,List.cons.injEq] at he
    simp only [linRT,ht,Bool.and_eq_true,decide_eq_true_eq] at hr
    obtain ⟨v,hv,h2⟩:=h
    have hw:∀ y,Region.wanted o y = true:=fun y=>by unfold Region.wanted; rw [hg o (by simp)]
    rw [List.length_cons,show R.length + 1 + m = (R.length + m) + 1 by omega]
    refine AnyL.take (i:=i) (t:=t) (oi:=o) (ot:=ot) (T:=T) he.1 ht hr.2.2.1 hs hr.1.1 hr.1.2 hr.2.1 (fun _ _ _ h=>h) (fun d w h9 hd=>h9 hd) (fun d w=>xb6i hr.2.2.1 d w) (Or.inl ⟨hw _,hv⟩) hr.2.2.2.1 (fun _=>hS) ?_
    exact xa5x ht hs hF R rs _ _ w he.2 (fun x hx=>hg x (by simp [hx])) hr.2.2.2.2 hc hS h2
theorem xa6b {O:Array Oper} {F:Act→World→Prop} {m t:Nat} {D:Array Bool} (hF:∀ a w,F a w→AnyL P .any O (NoPanic Q) (lateS T t) m D a w):∀ (C:List Nat) (cs:List Oper) (d:Array Bool) (a:Act) (w:World),C.map (O[·]?) = cs.map some→(∀ o∈cs,o.guard = none)→linC O C d = true→linD C d = D→ChL P Q T F cs a w→AnyL P .any O (NoPanic Q) (lateS T t) (C.length + m) d a w
  | [],[],d,a,w,_,_,_,hD,h=>by rw [List.length_nil,Nat.zero_add]; have e:d = D:=hD; rw [e]; exact hF a w h
  | [],_ :: _,_,_,_,he,_,_,_,_=>by simp at he
  | i :: C,[],_,_,_,he,_,_,_,_=>by simp at he
  | i :: C,o :: cs,d,a,w,he,hg,hb,hD,h=>by
    simp only [List.map_cons,List.cons.injEq] at he
    simp only [linC,Bool.and_eq_true,decide_eq_true_eq] at hb
    rw [List.length_cons,show C.length + 1 + m = (C.length + m) + 1 by omega]
    refine AnyL.forced hb.1 he.1 (hg o (by simp)) (fun K hK=>?_)
    exact Oper.wp_mono (fun a' w' h2=>hK a' w' (fun _=>h2.1) (xa6b hF C cs _ a' w' he.2 (fun x hx=>hg x (by simp [hx])) hb.2 hD h2.2)) h
def linBT (O:Array Oper) (R C:List Nat) (t:Nat):Bool :=
  (Region.noSelect O && decide (O.size = R.length + (C.length + 1))) && (linRT O t R (linS O) && (linC O C (linD R (linS O)) && (decide (Region.ready .any O (linD C (linD R (linS O))) = [t]) && decide (Region.ready .any O ((linD C (linD R (linS O))).setIfInBounds t true) = []))))
theorem xa9p {id:Nat} {O:Array Oper} {a:Act} {w:World} {R C:List Nat} {t:Nat} {rs cs:List Oper} {ot:Oper} (hm:P.follows .mixedOrders = true) (hb:linBT O R C t = true) (hR:R.map (O[·]?) = rs.map some) (hC:C.map (O[·]?) = cs.map some) (ht:O[t]? = some ot) (hg:(rs++(cs++[ot])).all (fun o=>o.guard.isNone) = true)
    (hT:T w.drew) (h:LinY P T (ChL P Q T (fun a w=>ot.wp P a w (Q .normal) (NoPanic Q)) cs) rs a w.drew):(Code.region id O true).wp P Q a w:=by
  unfold linBT at hb
  simp only [Bool.and_eq_true,decide_eq_true_eq] at hb
  obtain ⟨⟨b1,b2⟩,b3,b4,b5,b6⟩:=hb
  rw [List.all_append,List.all_append,Bool.and_eq_true,Bool.and_eq_true,List.all_eq_true,List.all_eq_true,List.all_eq_true] at hg
  refine wp_region_noPanic ?_
  refine wp_region_any hm ?_
  refine AnyL.any (S:=lateS T t) _ _ _ _ ?_
  rw [b2]
  have h3:∀ a w,ot.wp P a w (Q .normal) (NoPanic Q)→AnyL P .any O (NoPanic Q) (lateS T t) 1 (linD C (linD R (linS O))) a w:=fun a w h=>by
    refine AnyL.forced b5 ht (by simpa using hg.2.2 ot (by simp)) (fun K hK=>?_)
    exact Oper.wp_mono (fun a' w' h2=>hK a' w' (xb3e t _ w') ⟨b6,NoPanic.normal h2⟩) h
  have h2:=fun a w h=>xa6b (P:=P) (Q:=Q) (T:=T) (t:=t) h3 C cs (linD R (linS O)) a w hC (fun o ho=>by simpa using hg.2.1 o ho) b4 rfl h
  have:=xa5x (P:=P) (Q:=Q) (T:=T) ht b1 h2 R rs (linS O) a w.drew hR (fun o ho=>by simpa using hg.1 o ho) b3 rfl hT h
  unfold linS at this
  rw [b2] at this
  exact this
end
theorem lp_u19 {P:Program} {Q:Exit→Act→World→Prop} {id:Nat} {o0 o1 o2 o3 o4 o5 o6 o7 o8 o9 o10 o11 o12 o13 o14 o15 o16 o17 o18:Oper} {a:Act} {w:World} (hm:P.follows .mixedOrders = true) (hb:linBT #[o0,o1,o2,o3,o4,o5,o6,o7,o8,o9,o10,o11,o12,o13,o14,o15,o16,o17,o18] [0,1,2,3,4,5,6,7,8,9,10,11,12,13,14,15,16,17] [] 18 = true) (hg:([o0,o1,o2,o3,o4,o5,o6,o7,o8,o9,o10,o11,o12,o13,o14,o15,o16,o17]++([]++[o18])).all (fun o=>o.guard.isNone) = true) (T:World→Prop) (hT:T w.drew)
    (h:LinY P T (ChL P Q T (fun a w=>o18.wp P a w (Q .normal) (NoPanic Q)) []) [o0,o1,o2,o3,o4,o5,o6,o7,o8,o9,o10,o11,o12,o13,o14,o15,o16,o17] a w.drew):(Code.region id #[o0,o1,o2,o3,o4,o5,o6,o7,o8,o9,o10,o11,o12,o13,o14,o15,o16,o17,o18] true).wp P Q a w:=xa9p (R:=[0,1,2,3,4,5,6,7,8,9,10,11,12,13,14,15,16,17]) (C:=[]) (t:=18) (rs:=[o0,o1,o2,o3,o4,o5,o6,o7,o8,o9,o10,o11,o12,o13,o14,o15,o16,o17]) (cs:=[]) hm hb rfl rfl rfl hg hT h
theorem lp_u15 {P:Program} {Q:Exit→Act→World→Prop} {id:Nat} {o0 o1 o2 o3 o4 o5 o6 o7 o8 o9 o10 o11 o12 o13 o14:Oper} {a:Act} {w:World} (hm:P.follows .mixedOrders = true) (hb:linBT #[o0,o1,o2,o3,o4,o5,o6,o7,o8,o9,o10,o11,o12,o13,o14] [0,1,2,3,4,5,6,7,8,9,10,11] [12,13] 14 = true) (hg:([o0,o1,o2,o3,o4,o5,o6,o7,o8,o9,o10,o11]++([o12,o13]++[o14])).all (fun o=>o.guard.isNone) = true) (T:World→Prop) (hT:T w.drew)
    (h:LinY P T (ChL P Q T (fun a w=>o14.wp P a w (Q .normal) (NoPanic Q)) [o12,o13]) [o0,o1,o2,o3,o4,o5,o6,o7,o8,o9,o10,o11] a w.drew):(Code.region id #[o0,o1,o2,o3,o4,o5,o6,o7,o8,o9,o10,o11,o12,o13,o14] true).wp P Q a w:=xa9p (R:=[0,1,2,3,4,5,6,7,8,9,10,11]) (C:=[12,13]) (t:=14) (rs:=[o0,o1,o2,o3,o4,o5,o6,o7,o8,o9,o10,o11]) (cs:=[o12,o13]) hm hb rfl rfl rfl hg hT h
theorem lp_f8 {P:Program} {Q:Exit→Act→World→Prop} {id:Nat} {o0 o1 o2 o3 o4 o5 o6 o7:Oper} {a:Act} {w:World} (hm:P.follows .mixedOrders = true) (hb:linBT #[o0,o1,o2,o3,o4,o5,o6,o7] [0,1,3,4] [2,5,6] 7 = true) (hg:([o0,o1,o3,o4]++([o2,o5,o6]++[o7])).all (fun o=>o.guard.isNone) = true) (T:World→Prop) (hT:T w.drew)
    (h:LinY P T (ChL P Q T (fun a w=>o7.wp P a w (Q .normal) (NoPanic Q)) [o2,o5,o6]) [o0,o1,o3,o4] a w.drew):(Code.region id #[o0,o1,o2,o3,o4,o5,o6,o7] true).wp P Q a w:=xa9p (R:=[0,1,3,4]) (C:=[2,5,6]) (t:=7) (rs:=[o0,o1,o3,o4]) (cs:=[o2,o5,o6]) hm hb rfl rfl rfl hg hT h
end
section
open Go.RowKit Go.BigFrame
def bkS (g:Nat) (sl:Value):Nat→Prop:=fun y=>sl.ownBlock≠some y∧y≠g
theorem Tryd.size_prs2:(Tryd.prog.info? 32).map (·.size) = some 1:=by kernel_rfl
theorem BkOk.set {w0 w:World} {g:Nat} {sl:Value} {l:List VP} {bs:Prs} (h:BkOk w0 w g sl l bs) {i b c:Nat} (hi:i < l.length) (e:sl = .slice (some ⟨b,0,none⟩) l.length c) (vv:Value) (v:List Nat) (hv:Rd w0 vv v) :
    BkOk w0 (w.setCell ⟨b,i * 2 + 1,none⟩ vv) g sl (l.set i ((l.getD i (undef,undef)).1,vv)) (bs.set i ((bs.getD i ([],[])).1,v)):=by
  obtain ⟨b',c',e',hb0,hbw,hbg,hx1,hx2,cur0,hcur0⟩:=h.at_ hi
  rw [e] at e'
  cases e'
  have hK:=(Kept.refl [b] w).setCell (p:=⟨b,i * 2 + 1,none⟩) (Or.inl (by simp)) vv
  refine ⟨h.g0,hK.heap h.hd (by simp; exact fun e9=>hbg e9.symm),?_,by rw [List.length_set,List.length_set]; exact h.len,fun j hj=>?_,h.kk.setCell (p:=⟨b,i * 2 + 1,none⟩) (Or.inr hb0) vv⟩
  · rcases h.own.2 with ⟨e9,h9⟩ | ⟨b2,cap,cur,e2,hg,hh,hc,hm,hsz,ht⟩
    · omega
    · rw [e] at e2
      cases e2
      have h1:=heap_setCell_same w b (i * 2 + 1) cur _ vv hh
      have hfl:(kvR l).flatten.set (i * 2 + 1) vv = (kvR (l.set i ((l.getD i (undef,undef)).1,vv))).flatten:=by
        rw [xa7y (xa4c l) (i:=i) (by rw [xa0j]; exact hi) (l.getD i (undef,undef)).1 (by rw [bkR_at l i hi]; rfl)]
        congr 1
        simp [kvR,List.map_set]
      refine ⟨?_,Or.inr ⟨b,c,_,by rw [e,List.length_set],hg,h1,by rw [List.length_set]; exact hc,hm,by rw [Array.size_setIfInBounds]; exact hsz,?_⟩⟩
      · rw [← hfl,List.length_set,h.own.1,List.length_set]
      · rw [List.length_set,Array.toList_setIfInBounds,List.take_set,ht,hfl]
  · rw [List.length_set] at hj
    by_cases e9:i = j
    · subst e9
      have hib:i < bs.length:=by have:=h.len; omega
      rw [xa8i hi,xa8i hib]
      exact ⟨(h.rd i hi).1,hv⟩
    · rw [xa7h e9,xa7h e9]
      exact h.rd j hj
set_option maxHeartbeats 8000000 in
theorem xb5r (w0:World) (g:Nat) (sl:Value) (l:List VP) (bs:Prs) (kv vv:Value) (q v:List Nat) (w:World) (h:BkOk w0 w g sl l bs) (hq:Rd w0 kv q) (hv:Rd w0 vv v) (hl:bs.length≤1000000000) :
    Calls Tryd.prog 18 #[.pointer (some ⟨g,0,none⟩),kv,vv] w fun e w'=>e = .returned (.tuple #[])∧∃ sl' l',BkOk w0 w' g sl' l' (bset bs q v)∧Agr (bkS g sl) w w'∧(sl'.ownBlock = sl.ownBlock∨∃ y,sl'.ownBlock = some y∧w.heap.size≤y):=by
  obtain ⟨ao,c,rfl⟩:=h.form
  have HB:=hide h
  have HQ:=hide hq
  have HV:=hide hv
  have hln:=h.len
  obtain ⟨n,hn⟩:∃ n,l.length = n:=⟨_,rfl⟩
  rw [hn] at hln HB ⊢
  have HN:=hide hn
  have HLN:=hide hln.symm
  have hn9:n≤1000000000:=by omega
  have HC:=hide (show w.cell? ⟨g,0,none⟩ = some (.slice ao n c) by rw [cell_of_row _ _ 0 _ _ _ h.hd,hn]; rfl)
  obtain ⟨qa,qn,qc,rfl,_⟩:=id hq
  obtain ⟨va,vn,vc,rfl,_⟩:=id hv
  clear h hq hv hl hln hn
  go_enter Tryd.func18,Tryd.ntmps18
  go_wp2_with fail
  go_loopw [6] (fun t6 wr=>∃ (i:Nat),t6 = .int .i64 i∧i≤n∧Hid (∀ j,j < i→(bs.getD j ([],[])).1≠q)∧Hid (Kept [] w wr)) (fun t _=>n - (intOf t).toNat)
  case atStart=>exact ⟨0,rfl,Nat.zero_le _,hide (fun j hj=>by omega),hide (Kept.refl _ _)⟩
  case round =>
    obtain ⟨i,rfl,hi,HNE,HKr⟩:=hrel
    have hc0:=(uh HKr).cell (uh HC) (by simp)
    by_cases hlt:i < n
    · have hlt':(i:Int) < n:=by omega
      have hil:i < l.length:=by rw [uh HN]; exact hlt
      obtain ⟨b,c',e,hb0,hbw,hbg,hx1,hx2,cur,hcur⟩:=(uh HB).at_ hil
      have ea:ao = some ⟨b,0,none⟩:=by injection e
      have ec:c = c':=by injection e
      subst ea
      subst ec
      have hrd:=(uh HB).rd i hil
      have HR1:=hide (hrd.1.old (uh HB).kk (by simp))
      have hy1:=(uh HKr).cell hx1 (by simp)
      have hy2:=(uh HKr).cell hx2 (by simp)
      have hy3:wr.frozen? ⟨b,i * 2 + 1,none⟩ = false:=frozen_of_row _ _ _ _ _ ((uh HKr).heap hcur (by simp))
      have HY2:=hide hy2
      have HY3:=hide hy3
      have HC0:=hide hc0
      have HBG:=hide hbg
      have HNX:=hide (show ∀ e9:(bs.getD i ([],[])).1 = q,bix q bs = i from fun e9=>bix_of (by rw [uh HLN]; exact hlt) (uh HNE) e9)
      obtain ⟨x1,hx1e⟩:∃ x1,(l.getD i (undef,undef)).1 = x1:=⟨_,rfl⟩
      rw [hx1e] at hy1 HR1
      obtain ⟨a1,a2,a3,rfl,_⟩:=id (uh HR1)
      clear hrd hx1 hx2 e hbw hb0 hcur hy2 hy3 hx1e
      go_wp2_with fail
      refine Calls.mono (xa1p _ _ (bs.getD i ([],[])).1 q wr ((uh HR1).old (uh HKr) (by simp)) ((uh HQ).old ((uh HB).kk.trans (uh HKr) (by simp)) (by simp))) ?_
      rintro e w3 ⟨rfl,h3⟩
      rw [h3]
      clear h3
      by_cases hk:(bs.getD i ([],[])).1 = q
      · have hbi:=uh HNX hk
        have HBI:=hide hbi
        rw [decide_eq_true hk]
        have hc1:=uh HY2
        have hc2:=uh HY3
        clear hk hbi hy1
        go_wp2_with fail
        have hBr:=(uh HB).kept (uh HKr)
        have hs:=hBr.set hil (b:=b) (c:=c) (by rw [uh HN]) (.slice va vn vc) v (uh HV)
        have hbs:bset bs q v = bs.set i ((bs.getD i ([],[])).1,v):=by unfold bset; rw [uh HBI,if_pos (by rw [uh HLN]; exact hlt)]
        rw [← hbs] at hs
        have hK:=(Kept.refl [b] wr).setCell (p:=⟨b,i * 2 + 1,none⟩) (Or.inl (by simp)) (.slice va vn vc)
        first
          | refine bodyPost_ret (v:=.tuple #[]) (results_none rfl _ _ _) rfl ?_
          | refine bodyPost_end (v:=.tuple #[]) (results_none rfl _ _ _) rfl ?_
        exact ⟨rfl,_,_,hs,⟨by have h1:=(uh HKr).size; have h2:=hK.size; omega,fun x hx hl=>by
          have h1:x∉[b]:=fun hm=>by
            have h2:=List.mem_singleton.1 hm
            exact hx.1 (by rw [h2]; rfl)
          rw [hK.block x (by have:=(uh HKr).size; omega) h1,(uh HKr).block x hl (by simp)]⟩,Or.inl rfl⟩
      · rw [decide_eq_false hk]
        have HNE2:=hide (show ∀ j,j < i + 1→(bs.getD j ([],[])).1≠q from fun j hj=>by
          rcases Nat.lt_or_ge j i with g9 | g9
          · exact uh HNE j g9
          · rw [show j = i by omega]; exact hk)
        clear hk
        go_wp2_with fail
        refine ⟨⟨i + 1,by go_num,hlt,HNE2,HKr⟩,?_⟩
        simp [intOf]; omega
    · have hie:i = n:=by omega
      subst hie
      have hlt':¬ (i:Int) < i:=by omega
      have hall:=xa9z (q:=q) (L:=bs) (fun j hj=>uh HNE j (by rw [uh HLN] at hj; exact hj))
      have HBS:=hide (show bset bs q v = bs++[(q,v)] by unfold bset; rw [hall,if_neg (by omega)])
      have HBr:=hide ((uh HB).kept (uh HKr))
      have HP5:=hide (heap_alloc_new wr (.cells #[.slice qa qn qc,.slice va vn vc] 50))
      have hk5:=(Kept.refl [] wr).alloc (.cells #[.slice qa qn qc,.slice va vn vc] 50)
      have HB5:=hide ((uh HBr).kept hk5)
      have HK5:=hide ((uh HKr).trans hk5 (by simp))
      have HRL:=hide (show RdC 2 (wr.alloc (.cells #[.slice qa qn qc,.slice va vn vc] 50)) (.slice (some ⟨wr.heap.size,0,none⟩) 1 1) (kvR [(.slice qa qn qc,.slice va vn vc)]) from ⟨_,1,1,rfl,rfl,Nat.le_refl _,by omega,fun _=>⟨wr.heap.size,0,rfl,fun j hj=>by
          have h0:j = 0:=by rw [xa0j] at hj; simp at hj; omega
          subst h0
          exact xa0m [] [.slice qa qn qc,.slice va vn vc] [] (uh HP5) rfl⟩⟩)
      obtain ⟨w5,hw5⟩:∃ w5,wr.alloc (.cells #[.slice qa qn qc,.slice va vn vc] 50) = w5:=⟨_,rfl⟩
      rw [hw5] at HB5 HK5 HRL
      have HW05:=hide (show w0.heap.size≤w5.heap.size from (uh HB5).kk.size)
      have HOB:=hide (fun y hy=>(uh HB5).own.lt y hy)
      have HGN:=hide (show (Value.slice ao i c).ownBlock≠some g from fun e9=>by
        rcases (uh HB5).own.2 with ⟨e,h9⟩ | ⟨b2,cap,cur,e2,hg,hh,_⟩
        · rw [e] at e9; cases e9
        · rw [e2] at e9
          have h1:b2 = g:=Option.some.inj e9
          have h2:=(uh HB5).hd
          rw [← h1,hh] at h2
          cases h2)
      clear hall hk5
      go_wp2_with (first
        | (refine xa2k rfl (.tmp 41) rfl (.slice qa qn qc) (.slice va vn vc) rfl ?_; rw [hw5])
        | (at_builtin; refine xa0u rfl 32 50 (.tmp 38) (.tmp 42) rfl rfl _ w0.heap.size (.agg #[.slice none 0 0,.slice none 0 0]) 2 48 Tryd.underlying32 Tryd.infoQ rfl (by decide) (.slice ao i c) i (kvR l).flatten (by have h9:=(uh HB5).own; rw [uh HN] at h9; exact h9) (some ⟨wr.heap.size,0,none⟩) 1 1 (kvR [(.slice qa qn qc,.slice va vn vc)]) (uh HRL) (by intro r hr; simp [kvR] at hr; rw [hr]; rfl) (by intro r hr u hu; simp [kvR] at hr; rw [hr] at hu; simp at hu; rcases hu with rfl | rfl <;> rfl) (by omega) (by omega) (uh HW05) rfl rfl ?_; intro ao7 c7 w7 HO7 HG7 HA7; clear hw5)
        | (refine xb3f rfl 32 (.tmp 45) (.tmp 43) rfl g 0 34 #[.slice ao i c] #[.slice ao7 (i + 1) c7] (.slice ao7 (i + 1) c7) rfl rfl (((Kept.refl (Value.slice ao i c).ownBlock.toList w5).grown (uh HG7) (by intro y hy; left; simp [hy])).heap (by have h9:=(uh HB5).hd; exact h9) (fun hm=>uh HGN (by simpa using hm))) (by simp) Tryd.size_prs2 rfl rfl ?_))
      first
        | refine bodyPost_ret (v:=.tuple #[]) (results_none rfl _ _ _) rfl ?_
        | refine bodyPost_end (v:=.tuple #[]) (results_none rfl _ _ _) rfl ?_
      have hg7:=(Kept.refl (Value.slice ao i c).ownBlock.toList w5).grown (uh HG7) (by intro y hy; left; simp [hy])
      have hgh:=hg7.heap (by have h9:=(uh HB5).hd; exact h9) (fun hm=>uh HGN (by simpa using hm))
      have hg8:=setRow_heap _ _ _ #[.slice ao7 (i + 1) c7] _ _ hgh
      have hk8:=(Kept.refl [g] w7).setRow (g:=g) (Or.inl (by simp)) #[.slice ao7 (i + 1) c7]
      have hb5:=uh HB5
      have hlb:bs.length = i:=uh HLN
      have hll:l.length = i:=uh HN
      have hno7:(Value.slice ao7 (i + 1) c7).ownBlock≠some g:=fun e9=>by
        rcases (uh HO7).2 with ⟨e,h9⟩ | ⟨b2,cap,cur,e2,hg,hh,_⟩
        · rw [e] at e9; cases e9
        · rw [e2] at e9
          have h1:b2 = g:=Option.some.inj e9
          rw [← h1] at hgh
          rw [hgh] at hh
          cases hh
      refine ⟨rfl,.slice ao7 (i + 1) c7,⟨l++[(.slice qa qn qc,.slice va vn vc)],?_⟩,⟨?_,fun x hx hl=>?_⟩,?_⟩
      · rw [uh HBS]
        refine ⟨hb5.g0,hg8,?_,by simp [hll,hlb],fun j hj=>?_,((hb5.kk.trans hg7 (fun y hy=>Or.inr (uh HOB y (by simpa using hy)).1)).trans hk8 (fun y hy=>Or.inr (by rw [List.mem_singleton.1 hy]; exact hb5.g0)))⟩
        · rw [List.length_append,hll,xb1g,List.flatten_append]
          exact hk8.owns (uh HO7) (fun y hy hm=>by rw [List.mem_singleton.1 hm] at hy; exact hno7 hy)
        · rw [List.length_append] at hj
          have hj2:j < l.length + 1:=hj
          rw [xa5q _ _ _ _ hj2,xa5q _ _ _ _ (by omega)]
          by_cases g9:j < l.length
          · rw [if_pos g9,if_pos (by omega)]; exact hb5.rd j g9
          · rw [if_neg g9,if_neg (by omega)]; exact ⟨uh HQ,uh HV⟩
      · have h1:=(uh HK5).size
        have h2:=hg7.size
        have h3:=hk8.size
        omega
      · have h1:x∉(Value.slice ao i c).ownBlock.toList:=fun hm=>hx.1 (by simpa using hm)
        have h2:x∉[g]:=fun hm=>hx.2 (List.mem_singleton.1 hm)
        have h3:=(uh HK5).size
        have h4:=hg7.size
        rw [hk8.block x (by omega) h2,hg7.block x (by omega) h1,(uh HK5).block x hl (by simp)]
      · rcases uh HA7 with h9 | h9
        · exact Or.inl h9
        · exact Or.inr ⟨_,h9,(uh HK5).size⟩
theorem xa5c {x y:Value}:∀ {rows:List (List Value)} (hs:∀ r∈rows,r.length = 2) {i:Nat} (hi:i < rows.length),(rows.flatten.set (i * 2) x).set (i * 2 + 1) y = (rows.set i [x,y]).flatten
  | [],hs,i,hi=>by simp at hi
  | r :: rs,hs,0,hi=>by
    obtain ⟨a,b,rfl⟩:∃ x y,r = [x,y]:=by
      have:=hs r (by simp)
      match r,this with
      | [x,y],_=>exact ⟨x,y,rfl⟩
    simp
  | r :: rs,hs,i + 1,hi=>by
    obtain ⟨a,b,rfl⟩:∃ x y,r = [x,y]:=by
      have:=hs r (by simp)
      match r,this with
      | [x,y],_=>exact ⟨x,y,rfl⟩
    have ih:=xa5c (rows:=rs) (x:=x) (y:=y) (fun r hr=>hs r (by simp [hr])) (i:=i) (by simpa using hi)
    rw [List.set_cons_succ,List.flatten_cons,List.flatten_cons,← ih,show (i + 1) * 2 = i * 2 + 1 + 1 by omega]
    rfl
theorem xb7p (l:List VP) (i:Nat) (x y:Value):(kvR l).set i [x,y] = kvR (l.set i (x,y)):=by simp [kvR,List.map_set]
theorem BkOk.set2 {w0 w:World} {g:Nat} {sl:Value} {l:List VP} {bs:Prs} (h:BkOk w0 w g sl l bs) {i b c:Nat} (hi:i < l.length) (e:sl = .slice (some ⟨b,0,none⟩) l.length c) (x y:Value) (p:List Nat × List Nat) (hx:Rd w0 x p.1) (hy:Rd w0 y p.2) :
    BkOk w0 (w.setCells b (i * 2) [x,y]) g sl (l.set i (x,y)) (bs.set i p):=by
  obtain ⟨b',c',e',hb0,hbw,hbg,hx1,hx2,cur0,hcur0⟩:=h.at_ hi
  rw [e] at e'
  cases e'
  have hK:=xa3a (L:=[b]) (w0:=w) b (Or.inl (by simp)) [x,y] (i * 2) w (Kept.refl _ _)
  have hK0:=xa3a (L:=[]) (w0:=w0) b (Or.inr hb0) [x,y] (i * 2) w h.kk
  refine ⟨h.g0,hK.heap h.hd (by simp; exact fun e9=>hbg e9.symm),?_,by rw [List.length_set,List.length_set]; exact h.len,fun j hj=>?_,hK0⟩
  · rcases h.own.2 with ⟨e9,h9⟩ | ⟨b2,cap,cur,e2,hg,hh,hc,hm,hsz,ht⟩
    · omega
    · rw [e] at e2
      cases e2
      have h1:=heap_setCell_same _ b (i * 2 + 1) _ _ y (heap_setCell_same w b (i * 2) cur _ x hh)
      have hfl:=xa5c (x:=x) (y:=y) (xa4c l) (i:=i) (by rw [xa0j]; exact hi)
      rw [xb7p] at hfl
      refine ⟨?_,Or.inr ⟨b,c,_,by rw [e,List.length_set],hg,h1,by rw [List.length_set]; exact hc,hm,by rw [Array.size_setIfInBounds,Array.size_setIfInBounds]; exact hsz,?_⟩⟩
      · rw [← hfl,List.length_set,List.length_set,h.own.1,List.length_set]
      · rw [List.length_set,Array.toList_setIfInBounds,Array.toList_setIfInBounds,List.take_set,List.take_set,ht,hfl]
  · rw [List.length_set] at hj
    by_cases e9:i = j
    · subst e9
      have hib:i < bs.length:=by have:=h.len; omega
      rw [xa8i hi,xa8i hib]
      exact ⟨hx,hy⟩
    · rw [xa7h e9,xa7h e9]
      exact h.rd j hj
theorem xa5p:∀ {rows:List (List Value)} (hs:∀ r∈rows,r.length = 2) (m:Nat),m≤rows.length→rows.flatten.take (m * 2) = (rows.take m).flatten
  | rows,hs,0,_=>by simp
  | [],hs,m + 1,h=>by simp at h
  | r :: rs,hs,m + 1,h=>by
    obtain ⟨a,b,rfl⟩:∃ x y,r = [x,y]:=by
      have:=hs r (by simp)
      match r,this with
      | [x,y],_=>exact ⟨x,y,rfl⟩
    have ih:=xa5p (rows:=rs) (fun r hr=>hs r (by simp [hr])) m (by simpa using h)
    rw [List.take_succ_cons,List.flatten_cons,List.flatten_cons,← ih,show (m + 1) * 2 = m * 2 + 1 + 1 by omega]
    rfl
theorem xa8t {w:World} {base:Nat} {b n m c:Nat} {l:List VP} (h:w.ownsRow base 50 2 (.slice (some ⟨b,0,none⟩) n c) l.length (kvR l).flatten) (hn:l.length = n) (hm:m≤n):w.ownsRow base 50 2 (.slice (some ⟨b,0,none⟩) m c) (l.take m).length (kvR (l.take m)).flatten:=by
  have hl:(l.take m).length = m:=by rw [List.length_take]; omega
  have hk:kvR (l.take m) = (kvR l).take m:=by simp [kvR,List.map_take]
  have hf:=xa5p (xa4c l) m (by rw [xa0j]; omega)
  rcases h.2 with ⟨e9,h9⟩ | ⟨b2,cap,cur,e2,hg,hh,hc,hmx,hsz,ht⟩
  · cases e9
  · cases e2
    refine ⟨?_,Or.inr ⟨b,c,cur,by rw [hl],hg,hh,by omega,hmx,hsz,?_⟩⟩
    · rw [xa6h (xa4c _),xa0j]
    · rw [hl,hk,← hf,← ht,List.take_take]
      congr 1
      omega
set_option maxHeartbeats 8000000 in
theorem xa9k (w0:World) (g:Nat) (sl:Value) (l:List VP) (bs:Prs) (kv:Value) (q:List Nat) (w:World) (h:BkOk w0 w g sl l bs) (hq:Rd w0 kv q) (hl:bs.length≤1000000000) :
    Calls Tryd.prog 19 #[.pointer (some ⟨g,0,none⟩),kv] w fun e w'=>e = .returned (.bool (getP q bs).isSome)∧∃ sl' l',BkOk w0 w' g sl' l' (bun bs q)∧Agr (bkS g sl) w w'∧sl'.ownBlock = sl.ownBlock:=by
  obtain ⟨ao,c,rfl⟩:=h.form
  have HB:=hide h
  have HQ:=hide hq
  have hln:=h.len
  obtain ⟨n,hn⟩:∃ n,l.length = n:=⟨_,rfl⟩
  rw [hn] at hln HB ⊢
  have HN:=hide hn
  have HLN:=hide hln.symm
  have hn9:n≤1000000000:=by omega
  have HC:=hide (show w.cell? ⟨g,0,none⟩ = some (.slice ao n c) by rw [cell_of_row _ _ 0 _ _ _ h.hd,hn]; rfl)
  clear h hq hl hln hn
  go_enter Tryd.func19,Tryd.ntmps19
  go_wp2_with fail
  go_loopw [5] (fun t5 wr=>∃ (i:Nat),t5 = .int .i64 i∧i≤n∧Hid (∀ j,j < i→(bs.getD j ([],[])).1≠q)∧Hid (Kept [] w wr)) (fun t _=>n - (intOf t).toNat)
  case atStart=>exact ⟨0,rfl,Nat.zero_le _,hide (fun j hj=>by omega),hide (Kept.refl _ _)⟩
  case round =>
    obtain ⟨i,rfl,hi,HNE,HKr⟩:=hrel
    have hc0:=(uh HKr).cell (uh HC) (by simp)
    by_cases hlt:i < n
    · have hlt':(i:Int) < n:=by omega
      have hil:i < l.length:=by rw [uh HN]; exact hlt
      obtain ⟨b,c',e,hb0,hbw,hbg,hx1,hx2,cur,hcur⟩:=(uh HB).at_ hil
      have ea:ao = some ⟨b,0,none⟩:=by injection e
      have ec:c = c':=by injection e
      subst ea
      subst ec
      have hrd:=(uh HB).rd i hil
      have HR1:=hide (hrd.1.old (uh HB).kk (by simp))
      have hy1:=(uh HKr).cell hx1 (by simp)
      have HC0:=hide hc0
      have HNX:=hide (show ∀ e9:(bs.getD i ([],[])).1 = q,bix q bs = i from fun e9=>bix_of (by rw [uh HLN]; exact hlt) (uh HNE) e9)
      have hncB:n≤c:=by
        rcases (uh HB).own.2 with ⟨e9,h9⟩ | ⟨b2,cap,cur2,e2,_,_,hc9,_⟩
        · cases e9
        · cases e2
          have:=uh HN
          omega
      obtain ⟨x1,hx1e⟩:∃ x1,(l.getD i (undef,undef)).1 = x1:=⟨_,rfl⟩
      rw [hx1e] at hy1 HR1
      obtain ⟨a1,a2,a3,rfl,_⟩:=id (uh HR1)
      clear hrd hx1 hx2 e hbw hb0 hcur hx1e
      go_wp2_with fail
      refine Calls.mono (xa1p _ _ (bs.getD i ([],[])).1 q wr ((uh HR1).old (uh HKr) (by simp)) ((uh HQ).old ((uh HB).kk.trans (uh HKr) (by simp)) (by simp))) ?_
      rintro e w3 ⟨rfl,h3⟩
      rw [h3]
      clear h3
      by_cases hk:(bs.getD i ([],[])).1 = q
      · have hbi:=uh HNX hk
        have HBI:=hide hbi
        rw [decide_eq_true hk]
        clear hk hbi hy1
        go_upto_region 5 with fail
        obtain ⟨r,hr⟩:∃ r,r = n - 1:=⟨_,rfl⟩
        have hri:(n:Int) - 1 = (r:Int):=by omega
        have hrl:r < n:=by omega
        have hrl2:(r:Int) < n:=by omega
        have hrc:r≤c:=by omega
        have hrc2:¬ c < r:=by omega
        have HWR:=hide (show IntKind.i64.wrap (r:Int) = (r:Int) by simp [IntKind.wrap,IntKind.signed,IntKind.bits]; omega)
        have hBr:=(uh HB).kept (uh HKr)
        obtain ⟨b3,c3,e3,hb30,hb3w,hb3g,hz1,hz2,cur3,hcur3⟩:=hBr.at_ (i:=r) (by rw [uh HN]; exact hrl)
        rw [uh HN] at e3
        cases e3
        have hrd3:=hBr.rd r (by rw [uh HN]; exact hrl)
        have HR3:=hide hrd3
        obtain ⟨u1,hu1⟩:∃ u1,(l.getD r (undef,undef)).1 = u1:=⟨_,rfl⟩
        obtain ⟨u2,hu2⟩:∃ u2,(l.getD r (undef,undef)).2 = u2:=⟨_,rfl⟩
        rw [hu1] at hz1 HR3
        rw [hu2] at hz2 HR3
        have HU:=hide (show wr.rangeAt b (r * 2) [u1,u2] from fun j u hj=>by
          match j,hj with
          | 0,hj=>rw [Nat.add_zero,hz1]; exact hj
          | 1,hj=>rw [hz2]; exact hj)
        have h1one:u1.oneCell' = true:=by obtain ⟨_,_,_,e8,_⟩:=(uh HR3).1; rw [e8]; rfl
        have h2one:u2.oneCell' = true:=by obtain ⟨_,_,_,e8,_⟩:=(uh HR3).2; rw [e8]; rfl
        have HONE:=hide (And.intro h1one h2one)
        obtain ⟨b4,c4,e4,hb40,hb4w,hb4g,hq1,hq2,cur4,hcur4⟩:=hBr.at_ (i:=i) hil
        rw [uh HN] at e4
        cases e4
        have HTH:=hide (show ∀ W,Kept [] wr W→W.there b (i * 2) 2 from fun W hW j hj=>by
          refine ⟨?_,frozen_of_row _ _ _ _ _ (hW.heap hcur4 (by simp))⟩
          match j,hj with
          | 0,_=>rw [Nat.add_zero,hW.cell hq1 (by simp)]; rfl
          | 1,_=>rw [hW.cell hq2 (by simp)]; rfl)
        have HBr:=hide hBr
        clear hr hBr hz1 hz2 hrd3 hu1 hu2 hq1 hq2 hcur3 hcur4 h1one h2one hb3w hb3g hb40 hb4w hb30 hc0
        have hd2:=(Kept.refl [] wr).drew
        refine lp_u19 (by kernel_rfl) (by kernel_rfl) rfl (fun W=>Kept [] wr W) hd2 ?_
        refine LinY.rd (.pointer (some ⟨g,0,none⟩)) (fun W hW=>by go_simp) (by simp only [Act.put,sa1,sa2,sa3]; rfl) ?_
        refine LinY.rd (.pointer (some ⟨g,0,none⟩)) (fun W hW=>by go_simp) (by simp only [Act.put,sa1,sa2,sa3]; rfl) ?_
        refine LinY.rd (.pointer (some ⟨g,0,none⟩)) (fun W hW=>by go_simp) (by simp only [Act.put,sa1,sa2,sa3]; rfl) ?_
        refine LinY.rd (.slice (some ⟨b,0,none⟩) n c) (fun W hW=>by have h9:=hW.cell (uh HC0) (by simp); go_simp) (by simp only [Act.put,sa1,sa2,sa3]; rfl) ?_
        refine LinY.rd (.int .i64 i) (fun W hW=>by go_simp) (by simp only [Act.put,sa1,sa2,sa3]; rfl) ?_
        refine LinY.rd (.pointer (some ⟨g,0,none⟩)) (fun W hW=>by go_simp) (by simp only [Act.put,sa1,sa2,sa3]; rfl) ?_
        refine LinY.rd (.pointer (some ⟨g,0,none⟩)) (fun W hW=>by go_simp) (by simp only [Act.put,sa1,sa2,sa3]; rfl) ?_
        refine LinY.rd (.pointer (some ⟨g,0,none⟩)) (fun W hW=>by go_simp) (by simp only [Act.put,sa1,sa2,sa3]; rfl) ?_
        refine LinY.rd (.slice (some ⟨b,0,none⟩) n c) (fun W hW=>by have h9:=hW.cell (uh HC0) (by simp); go_simp) (by simp only [Act.put,sa1,sa2,sa3]; rfl) ?_
        refine LinY.rd (.pointer (some ⟨g,0,none⟩)) (fun W hW=>by go_simp) (by simp only [Act.put,sa1,sa2,sa3]; rfl) ?_
        refine LinY.rd (.pointer (some ⟨g,0,none⟩)) (fun W hW=>by go_simp) (by simp only [Act.put,sa1,sa2,sa3]; rfl) ?_
        refine LinY.rd (.pointer (some ⟨g,0,none⟩)) (fun W hW=>by go_simp) (by simp only [Act.put,sa1,sa2,sa3]; rfl) ?_
        refine LinY.rd (.slice (some ⟨b,0,none⟩) n c) (fun W hW=>by have h9:=hW.cell (uh HC0) (by simp); go_simp) (by simp only [Act.put,sa1,sa2,sa3]; rfl) ?_
        refine LinY.rd (.int .i64 n) (fun W hW=>by go_simp) (by simp only [Act.put,sa1,sa2,sa3]; rfl) ?_
        refine LinY.rd (.int .i64 r) (fun W hW=>by have h9:=uh HWR; go_simp) (by simp only [Act.put,sa1,sa2,sa3]; rfl) ?_
        refine LinY.rd (.pointer (some ⟨b,r * 2,none⟩)) (fun W hW=>by go_simp) (by simp only [Act.put,sa1,sa2,sa3]; rfl) ?_
        refine LinY.ld 50 (.tmp 40) rfl b (r * 2) rfl [u1,u2] _ (fun W hW=>hW.rng (uh HU) (by simp)) Tryd.underlying50 rfl Tryd.size_pair (by simp only [Act.put,sa1,sa2,sa3]; rfl) ?_
        refine LinY.rd (.pointer (some ⟨b,i * 2,none⟩)) (fun W hW=>by go_simp) (by simp only [Act.put,sa1,sa2,sa3]; rfl) ?_
        obtain ⟨W4,hW4⟩:∃ W4,wr.drew = W4:=⟨_,rfl⟩
        rw [hW4] at hd2 ⊢
        refine LinY.fin (ChL.fin (wp_store_mid 50 (.tmp 42) (.tmp 41) rfl b (i * 2) #[u1,u2] rfl rfl (uh HTH W4 hd2) Tryd.size_pair (p_two1 (uh HONE).1 (uh HONE).2) ?_))
        have hB4:=(uh HBr).kept hd2
        have hs:=hB4.set2 hil (b:=b) (c:=c) (by rw [uh HN]) u1 u2 (bs.getD r ([],[])) (uh HR3).1 (uh HR3).2
        have HS5:=hide hs
        have hk45:=xa3a (L:=[b]) (w0:=W4) b (Or.inl (by simp)) [u1,u2] (i * 2) W4 (Kept.refl _ _)
        have HK5:=hide (((uh HKr).mono (M:=[b]) (by simp)).trans (hd2.mono (M:=[b]) (by simp)) (fun x hx=>Or.inl hx) |>.trans hk45 (fun x hx=>Or.inl hx))
        obtain ⟨W5,hW5⟩:∃ W5,W4.setCells b (i * 2) [u1,u2] = W5:=⟨_,rfl⟩
        have hW5':W4.setCells b (i * 2) #[u1,u2].toList = W5:=hW5
        rw [hW5] at HS5 HK5
        rw [hW5']
        clear hs hB4 hk45 hd2 hW4 hW5 hW5'
        go_upto_region 6 with fail
        have hc5:W5.cell? ⟨g,0,none⟩ = some (.slice (some ⟨b,0,none⟩) n c):=by rw [cell_of_row _ _ 0 _ _ _ (uh HS5).hd]; rfl
        have HC5:=hide hc5
        have hd3:=(Kept.refl [] W5).drew
        clear hc5
        refine lp_u15 (by kernel_rfl) (by kernel_rfl) rfl (fun W=>Kept [] W5 W) hd3 ?_
        refine LinY.rd (.pointer (some ⟨g,0,none⟩)) (fun W hW=>by go_simp) (by simp only [Act.put,sa1,sa2,sa3]; rfl) ?_
        refine LinY.rd (.pointer (some ⟨g,0,none⟩)) (fun W hW=>by go_simp) (by simp only [Act.put,sa1,sa2,sa3]; rfl) ?_
        refine LinY.rd (.pointer (some ⟨g,0,none⟩)) (fun W hW=>by go_simp) (by simp only [Act.put,sa1,sa2,sa3]; rfl) ?_
        refine LinY.rd (.pointer (some ⟨g,0,none⟩)) (fun W hW=>by go_simp) (by simp only [Act.put,sa1,sa2,sa3]; rfl) ?_
        refine LinY.rd (.slice (some ⟨b,0,none⟩) n c) (fun W hW=>by have h9:=hW.cell (uh HC5) (by simp); go_simp) (by simp only [Act.put,sa1,sa2,sa3]; rfl) ?_
        refine LinY.rd (.pointer (some ⟨g,0,none⟩)) (fun W hW=>by go_simp) (by simp only [Act.put,sa1,sa2,sa3]; rfl) ?_
        refine LinY.rd (.pointer (some ⟨g,0,none⟩)) (fun W hW=>by go_simp) (by simp only [Act.put,sa1,sa2,sa3]; rfl) ?_
        refine LinY.rd (.pointer (some ⟨g,0,none⟩)) (fun W hW=>by go_simp) (by simp only [Act.put,sa1,sa2,sa3]; rfl) ?_
        refine LinY.rd (.slice (some ⟨b,0,none⟩) n c) (fun W hW=>by have h9:=hW.cell (uh HC5) (by simp); go_simp) (by simp only [Act.put,sa1,sa2,sa3]; rfl) ?_
        refine LinY.rd (.int .i64 n) (fun W hW=>by go_simp) (by simp only [Act.put,sa1,sa2,sa3]; rfl) ?_
        refine LinY.rd (.int .i64 r) (fun W hW=>by have h9:=uh HWR; go_simp) (by simp only [Act.put,sa1,sa2,sa3]; rfl) ?_
        refine LinY.rd (.slice (some ⟨b,0,none⟩) r c) (fun W hW=>by go_simp) (by simp only [Act.put,sa1,sa2,sa3]; rfl) ?_
        obtain ⟨W6,hW6⟩:∃ W6,W5.drew = W6:=⟨_,rfl⟩
        rw [hW6] at hd3 ⊢
        have hS6:=(uh HS5).kept hd3
        refine LinY.fin (ChL.op (.pointer (some ⟨g,0,none⟩)) (by go_simp) hd3 (by simp only [Act.put,sa1,sa2,sa3]; rfl) ?_)
        refine ChL.op (.pointer (some ⟨g,0,none⟩)) (by go_simp) hd3 (by simp only [Act.put,sa1,sa2,sa3]; rfl) ?_
        refine (ChL.fin (xa2q 32 (.tmp 56) (.tmp 54) rfl g 0 34 #[.slice (some ⟨b,0,none⟩) n c] #[.slice (some ⟨b,0,none⟩) r c] (.slice (some ⟨b,0,none⟩) r c) rfl rfl hS6.hd (by simp) Tryd.size_prs2 rfl rfl ?_))
        have hg8:=setRow_heap _ _ _ #[.slice (some ⟨b,0,none⟩) r c] _ _ hS6.hd
        have hk8:=(Kept.refl [g] W6).setRow (g:=g) (Or.inl (by simp)) #[.slice (some ⟨b,0,none⟩) r c]
        have hk08:=hS6.kk.setRow (g:=g) (Or.inr hS6.g0) #[.slice (some ⟨b,0,none⟩) r c]
        have hll:(l.set i (u1,u2)).length = n:=by rw [List.length_set]; exact uh HN
        have hown:=hk8.owns (xa8t (m:=r) (by have h9:=hS6.own; exact h9) hll (by omega)) (fun y hy hm=>by
          have h1:b = y:=Option.some.inj hy
          rw [List.mem_singleton.1 hm] at h1
          exact hbg h1)
        have HX:=hide (show BkOk w0 (W6.setRow g #[.slice (some ⟨b,0,none⟩) r c]) g (.slice (some ⟨b,0,none⟩) r c) ((l.set i (u1,u2)).take r) (bun bs q) from by
          have hbu:bun bs q = (bs.set i (bs.getD r ([],[]))).take r:=by
            unfold bun
            rw [uh HBI,uh HLN,if_pos hlt,show n - 1 = r by omega]
          rw [hbu]
          refine ⟨hS6.g0,hg8,hown,by rw [List.length_take,List.length_take,hS6.len],fun j hj=>?_,hk08⟩
          rw [List.length_take] at hj
          have h9:=hS6.rd j (by omega)
          rw [List.getD_eq_getElem?_getD,List.getElem?_take,if_pos (by omega),← List.getD_eq_getElem?_getD]
          rw [List.getD_eq_getElem?_getD (l:=(bs.set i (bs.getD r ([],[]))).take r),List.getElem?_take,if_pos (by omega),← List.getD_eq_getElem?_getD]
          exact h9)
        have HKX:=hide (((uh HK5).trans (hd3.mono (M:=[b]) (by simp)) (fun x hx=>Or.inl hx)).mono (M:=[b,g]) (by intro x hx; simp at hx ⊢; exact Or.inl hx) |>.trans (hk8.mono (M:=[b,g]) (by intro x hx; simp at hx ⊢; exact Or.inr hx)) (fun x hx=>Or.inl hx))
        have HGS:=hide (show (getP q bs).isSome = true by rw [xa2u,uh HBI,if_pos (by rw [uh HLN]; exact hlt)]; rfl)
        clear hS6 hg8 hk8 hk08 hown hll hd3 hW6
        generalize W6.setRow g #[.slice (some ⟨b,0,none⟩) r c] = W7 at HX HKX ⊢
        go_wp2_with fail
        go_ret
        refine ⟨by rw [uh HGS]; rfl,?_⟩
        have hag:Agr (bkS g (.slice (some ⟨b,0,none⟩) n c)) w W7:=⟨(uh HKX).size,fun x hx hl=>(uh HKX).block x hl (fun hm=>by
          rcases List.mem_cons.1 hm with h1 | h1
          · exact hx.1 (by rw [h1]; rfl)
          · exact hx.2 (List.mem_singleton.1 h1))⟩
        first
          | exact ⟨_,_,uh HX,hag,rfl⟩
          | exact ⟨_,⟨_,uh HX⟩,hag,rfl⟩
      · rw [decide_eq_false hk]
        have HNE2:=hide (show ∀ j,j < i + 1→(bs.getD j ([],[])).1≠q from fun j hj=>by
          rcases Nat.lt_or_ge j i with g9 | g9
          · exact uh HNE j g9
          · rw [show j = i by omega]; exact hk)
        clear hk
        go_wp2_with fail
        refine ⟨⟨i + 1,by go_num,hlt,HNE2,HKr⟩,?_⟩
        simp [intOf]; omega
    · have hie:i = n:=by omega
      subst hie
      have hlt':¬ (i:Int) < i:=by omega
      have hall:=xa9z (q:=q) (L:=bs) (fun j hj=>uh HNE j (by rw [uh HLN] at hj; exact hj))
      have HBS:=hide (show bun bs q = bs by unfold bun; rw [hall,if_neg (by omega)])
      have HGS:=hide (show (getP q bs).isSome = false by rw [xa2u,hall,if_neg (by omega)]; rfl)
      have HBr:=hide ((uh HB).kept (uh HKr))
      clear hall
      go_wp2_with fail
      go_ret
      refine ⟨by rw [uh HGS]; rfl,?_⟩
      have hx:=uh HBr
      rw [← uh HBS] at hx
      first
        | exact ⟨_,_,hx,Agr.nil (uh HKr),rfl⟩
        | exact ⟨_,⟨_,hx⟩,Agr.nil (uh HKr),rfl⟩
structure En where
  k:Nat
  key:List Nat
  val:List Nat
deriving DecidableEq
def enC (e:En) (kv vv:Value):Array Value:=#[.int .u8 (e.k:Int),kv,vv]
structure OkE (w:World) (e:En) (kv vv:Value):Prop where
  k:e.k < 256
  key:Rd w kv e.key
  val:Rd w vv e.val
theorem OkE.old {w w':World} {e:En} {kv vv:Value} (h:OkE w e kv vv) (k:Kept [] w w'):OkE w' e kv vv:=⟨h.k,h.key.old k (by simp),h.val.old k (by simp)⟩
def RdN (w:World) (v:Value) (es:List En):Prop :=
  ∃ (ao:Option Addr) (len cap:Nat) (kv vv:Nat→Value),v = .slice ao len cap∧es.length = len∧len≤cap∧cap≤9223372036854775807∧(∀ i (h:i < es.length),OkE w es[i] (kv i) (vv i)) ∧
    (0 < len→∃ b off,ao = some ⟨b,off,none⟩∧∀ i (h:i < es.length),w.rangeAt b (off + i * 3) (enC es[i] (kv i) (vv i)).toList)
theorem xa8v {L:List Nat} {w w':World} {b o:Nat} {cs:List Value} (h:w.rangeAt b o cs) (k:Kept L w w') (hb:b∉L):w'.rangeAt b o cs:=fun j v hv=>k.cell (h j v hv) hb
theorem RdN.old {w w':World} {v:Value} {es:List En} (h:RdN w v es) (k:Kept [] w w'):RdN w' v es:=by
  obtain ⟨ao,len,cap,kv,vv,h1,h2,h3,h4,h5,h6⟩:=h
  refine ⟨ao,len,cap,kv,vv,h1,h2,h3,h4,fun i hi=>(h5 i hi).old k,fun hp=>?_⟩
  obtain ⟨b,off,e,hc⟩:=h6 hp
  exact ⟨b,off,e,fun i hi=>xa8v (hc i hi) k (by simp)⟩
theorem RdN.nil (w:World):RdN w (.slice none 0 0) []:=⟨none,0,0,fun _=>undef,fun _=>undef,rfl,rfl,Nat.le_refl _,by omega,fun i h=>by simp at h,fun h=>by omega⟩
theorem MapAt.monoB {S T:Nat→Prop} {k:Nat} {W:World} {v:Value} {L:Prs} (hs:∀ x,T x→S x) (h:MapAt T k W v L):MapAt S k W v L:=by
  obtain ⟨h1,h2,h3,h4,g,tv,h5,h6,h7,h8⟩:=h
  refine ⟨h1,h2,h3,h4,g,tv,h5,hs g h6,h7,?_⟩
  rcases h8 with h | h
  · exact Or.inl h
  · exact Or.inr (h.mono hs)
theorem MapAt.shrinkB {S:Nat→Prop} {k:Nat} {W:World} {v:Value} {L:Prs} (h:MapAt S k W v L):MapAt (lowS S W) k W v L:=by
  have hk:=h.ok
  obtain ⟨h1,h2,h3,h4,g,tv,h5,h6,h7,h8⟩:=h
  refine ⟨h1,h2,h3,h4,g,tv,h5,⟨h6,lt_of_block h7⟩,h7,?_⟩
  rcases h8 with h | h
  · exact Or.inl h
  · exact Or.inr (h.shrink (hsZ_ok hk))
theorem RdN.form {w:World} {v:Value} {es:List En} (h:RdN w v es):∃ ao n c,v = .slice ao n c∧es.length = n∧n≤c∧c≤9223372036854775807:=by
  obtain ⟨ao,n,c,_,_,h1,h2,h3,h4,_⟩:=h
  exact ⟨ao,n,c,h1,by omega,h3,h4⟩
theorem xb1r {a:Option Addr} {n c:Nat}:Tryd.prog.built 30 [(0,.int .u8 2),(1,.slice a n c)] = some #[.int .u8 2,.slice a n c,.slice none 0 0]:=by kernel_rfl
theorem xa7j {a a':Option Addr} {n c n' c':Nat}:Tryd.prog.built 30 [(0,.int .u8 1),(1,.slice a n c),(2,.slice a' n' c')] = some #[.int .u8 1,.slice a n c,.slice a' n' c']:=by kernel_rfl
theorem xa8w {o:Oper} {a:Act} (w:World) {x y:Operand} {X1 Y1:Option Addr} {X2 X3 Y2 Y3:Nat} (ho:o.op = .build 30 #[(0,.const (.int .u8 1)),(1,x),(2,y)]∧a.eval x = .slice X1 X2 X3∧a.eval y = .slice Y1 Y2 Y3):(execOp a.eval o).run Tryd.prog w = .ok (.value (.agg #[.int .u8 1,.slice X1 X2 X3,.slice Y1 Y2 Y3])) w:=by
  obtain ⟨h0,h1,h2⟩:=ho
  have hb:=run_build (P:=Tryd.prog) w 30 #[(0,.int .u8 1),(1,.slice X1 X2 X3),(2,.slice Y1 Y2 Y3)] _ xa7j
  have h3:a.eval (.const (.int .u8 1)) = .int .u8 1:=rfl
  unfold execOp
  simp only [h0,List.map_toArray,List.map_cons,List.map_nil,h1,h2,h3,Sem.run_bind,hb,Result.andThen_ok]
  rfl
theorem Tryd.size_en:(Tryd.prog.info? 30).map (·.size) = some 3:=by kernel_rfl
def fitE (e:En):En:=if e.k % 2 = 0 then ⟨2,e.key.take 64,[]⟩ else ⟨1,e.key.take 64,e.val.take 256⟩
set_option maxHeartbeats 4000000 in
theorem xa2e (kv:Value) (q:List Nat) (m:Nat) (w:World) (h:Rd w kv q) (hm:m≤1000) :
    Calls Tryd.prog 8 #[kv,.int .i64 m] w fun e w'=>∃ v',e = .returned v'∧(∀ w9,Rd w9 kv q→Rd w9 v' (q.take m))∧Kept [] w w':=by
  obtain ⟨ao,n,c,rfl,hn,hc,hcc,hz,_⟩:=id h
  clear h
  by_cases hlt:m < n
  · have h1:(m:Int) < n:=by omega
    have h2:(n:Int) > m:=h1
    have h3:m≤c:=by omega
    have h4:¬ c < m:=by omega
    have HT:=hide (fun (w9:World) (h9:Rd w9 (.slice ao n c) q)=>(Rd.take (n:=m) (by rw [hn]; exact h9) (by omega):Rd w9 (.slice ao m c) (q.take m)))
    clear hz hn
    go_enter Tryd.func8,Tryd.ntmps8
    go_wp2_with fail
    go_ret
    exact ⟨_,rfl,uh HT,by first | exact Kept.refl _ _ | exact (Kept.refl [] w).drew⟩
  · have h1:¬ (m:Int) < n:=by omega
    have h2:¬ (n:Int) > m:=h1
    have HT:=hide (fun (w9:World) (h9:Rd w9 (.slice ao n c) q)=>(by rw [List.take_of_length_le (by omega)]; exact h9:Rd w9 (.slice ao n c) (q.take m)))
    clear hz hn
    go_enter Tryd.func8,Tryd.ntmps8
    go_wp2_with fail
    go_ret
    exact ⟨_,rfl,uh HT,by first | exact Kept.refl _ _ | exact (Kept.refl [] w).drew⟩
set_option maxHeartbeats 4000000 in
theorem xb1p (x:Nat) (hx:x < 256) (w:World) :
    Calls Tryd.prog 4 #[.int .u8 x] w fun e w'=>e = .returned (.int .i64 ((1 + x % 32:Nat):Int))∧Kept [] w w':=by
  have h1:IntKind.i64.wrap (x:Int) = (x:Int):=by simp [IntKind.wrap,IntKind.signed,IntKind.bits]; omega
  have h2:Int.tmod (x:Int) 32 = ((x % 32:Nat):Int):=by rw [Int.tmod_eq_emod_of_nonneg (by omega)]; omega
  have h3:IntKind.i64.wrap ((x % 32:Nat):Int) = ((x % 32:Nat):Int):=by simp [IntKind.wrap,IntKind.signed,IntKind.bits]; omega
  have h4:IntKind.i64.wrap (1 + ((x % 32:Nat):Int)) = ((1 + x % 32:Nat):Int):=by simp [IntKind.wrap,IntKind.signed,IntKind.bits]; omega
  generalize x % 32 = y at h2 h3 h4 ⊢
  go_enter Tryd.func4,Tryd.ntmps4
  go_wp2_with fail
  go_ret
  exact ⟨by first | rfl | (rw [h4]; rfl) | (simp; omega),by first | exact Kept.refl _ _ | exact (Kept.refl [] w).drew⟩
set_option maxHeartbeats 8000000 in
theorem xb3d (e:En) (kv vv:Value) (w:World) (h:OkE w e kv vv) :
    Calls Tryd.prog 17 #[.agg #[.int .u8 (e.k:Int),kv,vv]] w fun x w'=>∃ kv' vv',x = .returned (.agg #[.int .u8 ((fitE e).k:Int),kv',vv'])∧(∀ w9,OkE w9 e kv vv→OkE w9 (fitE e) kv' vv')∧Kept [] w w':=by
  obtain ⟨k,key,val⟩:=e
  obtain ⟨hk,hkey,hval⟩:=h
  simp only at hk hkey hval
  obtain ⟨k1,k2,k3,rfl,_⟩:=id hkey
  obtain ⟨v1,v2,v3,rfl,_⟩:=id hval
  have HB:=hide (heap_alloc_new w (.cells #[.int .u8 (k:Int),.slice k1 k2 k3,.slice v1 v2 v3] 30))
  have hk1:=(Kept.refl [] w).alloc (.cells #[.int .u8 (k:Int),.slice k1 k2 k3,.slice v1 v2 v3] 30)
  obtain ⟨W1,hW1⟩:∃ W1,w.alloc (.cells #[.int .u8 (k:Int),.slice k1 k2 k3,.slice v1 v2 v3] 30) = W1:=⟨_,rfl⟩
  have hsz:W1.heap.size = w.heap.size + 1:=by rw [← hW1]; simp
  rw [hW1] at HB hk1
  have HZ:=hide (heap_alloc_new W1 (.cells #[.int .u8 0,.slice none 0 0,.slice none 0 0] 30))
  have hk2:=(Kept.refl [] W1).alloc (.cells #[.int .u8 0,.slice none 0 0,.slice none 0 0] 30)
  obtain ⟨W2,hW2⟩:∃ W2,W1.alloc (.cells #[.int .u8 0,.slice none 0 0,.slice none 0 0] 30) = W2:=⟨_,rfl⟩
  rw [hW2] at HZ hk2
  rw [hsz] at HZ
  have HK2:=hide (hk1.trans hk2 (by simp))
  have hb2:=hk2.heap (uh HB) (by simp)
  have HC0:=hide (show W2.cell? ⟨w.heap.size,0,none⟩ = some (.int .u8 (k:Int)) from cell_of_row _ _ 0 _ _ _ hb2)
  have HC1:=hide (show W2.cell? ⟨w.heap.size,1,none⟩ = some (.slice k1 k2 k3) from cell_of_row _ _ 1 _ _ _ hb2)
  have HC2:=hide (show W2.cell? ⟨w.heap.size,2,none⟩ = some (.slice v1 v2 v3) from cell_of_row _ _ 2 _ _ _ hb2)
  have HKY:=hide hkey
  have HVL:=hide hval
  have HSZ:=hide hsz
  clear hkey hval hk1 hk2 hb2 hsz
  have hm:Int.tmod (k:Int) 2 = ((k % 2:Nat):Int):=by rw [Int.tmod_eq_emod_of_nonneg (by omega)]; omega
  have hwr:IntKind.u8.wrap ((k % 2:Nat):Int) = ((k % 2:Nat):Int):=by simp [IntKind.wrap,IntKind.signed,IntKind.bits]; omega
  by_cases hz:k % 2 = 0
  · have hfe:fitE ⟨k,key,val⟩ = ⟨2,key.take 64,[]⟩:=by unfold fitE; rw [if_pos hz]
    rw [hfe]
    rw [hz] at hm hwr
    clear hfe
    go_enter Tryd.func17,Tryd.ntmps17
    go_upto_region 1 with fail
    try rw [hW1]
    try rw [hW2]
    rw [uh HSZ]
    clear hW1 hW2
    have c0:=uh HC0
    have c1:=uh HC1
    go_wp2_with fail
    refine Calls.mono (xa2e _ key 64 W2 ((uh HKY).old (uh HK2) (by simp)) (by decide)) ?_
    rintro x w3 ⟨v',rfl,ht,k3⟩
    have HT:=hide ht
    obtain ⟨t1,t2,t3,rfl,_⟩:=id (ht _ (uh HKY))
    have HZ3:=hide (k3.heap (uh HZ) (by simp))
    have HK3:=hide ((uh HK2).trans k3 (by simp))
    clear k3 c0 c1 ht
    go_wp2_with (first
      | (refine xa0i rfl 30 _ rfl #[.int .u8 2,.slice t1 t2 t3,.slice none 0 0] (by simp only [List.map_toArray,List.map_cons,List.map_nil]; exact xb1r) ?_)
      | (refine wpList_store_row rfl 30 (.tmp 2) (.tmp 10) rfl (w.heap.size + 1) #[.int .u8 2,.slice t1 t2 t3,.slice none 0 0] rfl rfl _ #[.int .u8 0,.slice none 0 0,.slice none 0 0] (uh HZ3) Tryd.size_en rfl (by simp [Value.oneCell']) ?_))
    refine bodyPost_ret (v:=.agg #[.int .u8 2,.slice t1 t2 t3,.slice none 0 0]) ?_ rfl ⟨_,_,rfl,fun w9 h9=>⟨by show (2:Nat) < 256; omega,uh HT w9 h9.key,Rd.nil _⟩,(uh HK3).setRow (g:=w.heap.size + 1) (Or.inr (by omega)) _⟩
    exact results_cell_row rfl _ _ (w.heap.size + 1) 30 #[.int .u8 2,.slice t1 t2 t3,.slice none 0 0] (0,0) _ rfl (setRow_heap _ _ _ _ _ _ (uh HZ3)) Tryd.underlying30 rfl Tryd.size_en
  · have hz1:k % 2 = 1:=by omega
    have hfe:fitE ⟨k,key,val⟩ = ⟨1,key.take 64,val.take 256⟩:=by unfold fitE; rw [if_neg hz]
    rw [hfe]
    rw [hz1] at hm hwr
    clear hfe
    go_enter Tryd.func17,Tryd.ntmps17
    go_upto_region 1 with fail
    try rw [hW1]
    try rw [hW2]
    rw [uh HSZ]
    clear hW1 hW2
    have c0:=uh HC0
    go_upto_region 3 with fail
    clear c0
    have hd2:=(Kept.refl [] W2).drew
    refine lp_f8 (by kernel_rfl) (by kernel_rfl) rfl (fun W=>Kept [] W2 W) hd2 ?_
    refine LinY.rd (.pointer (some ⟨w.heap.size,1,none⟩)) (fun W hW=>by go_simp) (by simp only [Act.put,sa1,sa2,sa3]; rfl) ?_
    refine LinY.rd (.slice k1 k2 k3) (fun W hW=>by have h9:=hW.cell (uh HC1) (by simp); go_simp) (by simp only [Act.put,sa1,sa2,sa3]; rfl) ?_
    refine LinY.rd (.pointer (some ⟨w.heap.size,2,none⟩)) (fun W hW=>by go_simp) (by simp only [Act.put,sa1,sa2,sa3]; rfl) ?_
    refine LinY.rd (.slice v1 v2 v3) (fun W hW=>by have h9:=hW.cell (uh HC2) (by simp); go_simp) (by simp only [Act.put,sa1,sa2,sa3]; rfl) ?_
    refine LinY.fin (ChL.call rfl Tryd.call8 [.slice k1 k2 k3,.int .i64 ((64:Nat):Int)] rfl (xa2e _ key 64 W2.drew ((uh HKY).old ((uh HK2).trans hd2 (by simp)) (by simp)) (by decide)) ?_)
    rintro x w3 ⟨v',rfl,ht,k3⟩
    have HT:=hide ht
    obtain ⟨t1,t2,t3,rfl,_⟩:=id (ht _ (uh HKY))
    have hk3:=hd2.trans k3 (by simp)
    refine ⟨_,rfl,hk3,?_⟩
    simp only [Act.put,sa1,sa2,sa3]
    refine ChL.call rfl Tryd.call8 [.slice v1 v2 v3,.int .i64 ((256:Nat):Int)] rfl (xa2e _ val 256 w3 ((uh HVL).old ((uh HK2).trans hk3 (by simp)) (by simp)) (by decide)) ?_
    rintro x w4 ⟨u',rfl,hu,k4⟩
    have HU:=hide hu
    obtain ⟨u1,u2,u3,rfl,_⟩:=id (hu _ (uh HVL))
    have hk4:=hk3.trans k4 (by simp)
    refine ⟨_,rfl,hk4,?_⟩
    simp only [Act.put,sa1,sa2,sa3]
    refine ChL.op (.agg #[.int .u8 1,.slice t1 t2 t3,.slice u1 u2 u3]) (xa8w w4 ⟨rfl,rfl,rfl⟩) hk4 (by simp only [Act.put,sa1,sa2,sa3]; rfl) ?_
    have hz4:=hk4.heap (uh HZ) (by simp)
    refine ChL.fin (wp_store_row 30 (.tmp 2) (.tmp 17) rfl (w.heap.size + 1) #[.int .u8 1,.slice t1 t2 t3,.slice u1 u2 u3] rfl rfl _ #[.int .u8 0,.slice none 0 0,.slice none 0 0] hz4 Tryd.size_en rfl (by simp [Value.oneCell']) ?_)
    have HZ4:=hide hz4
    have HK4:=hide ((uh HK2).trans hk4 (by simp))
    clear hz4 hk4 hk3 hd2 k4 k3 hu ht
    go_wp2_with fail
    refine bodyPost_ret (v:=.agg #[.int .u8 1,.slice t1 t2 t3,.slice u1 u2 u3]) ?_ rfl ⟨_,_,rfl,fun w9 h9=>⟨by show (1:Nat) < 256; omega,uh HT w9 h9.key,uh HU w9 h9.val⟩,(uh HK4).setRow (g:=w.heap.size + 1) (Or.inr (by omega)) _⟩
    exact results_cell_row rfl _ _ (w.heap.size + 1) 30 #[.int .u8 1,.slice t1 t2 t3,.slice u1 u2 u3] (0,0) _ rfl (setRow_heap _ _ _ _ _ _ (uh HZ4)) Tryd.underlying30 rfl Tryd.size_en
theorem MapAt.step {g:Nat} {sl sl':Value} {k:Nat} {w w':World} {v:Value} {L:Prs} (h:MapAt (bkS g sl) k w v L) (a:Agr (bkS g sl) w w') (hb:sl'.ownBlock = sl.ownBlock∨∃ y,sl'.ownBlock = some y∧w.heap.size≤y):MapAt (bkS g sl') k w' v L:=by
  have h1:=h.shrinkB
  have h2:MapAt (lowS (bkS g sl) w) k w' v L:=h1.agr ⟨a.1,fun x hx hl=>a.2 x hx.1 hl⟩
  refine h2.monoB (fun x hx=>⟨fun e=>?_,hx.1.2⟩)
  rcases hb with h9 | ⟨y,h9,h10⟩
  · rw [h9] at e; exact hx.1.1 e
  · rw [h9] at e
    have h11:y = x:=Option.some.inj e
    have:=hx.2
    omega
theorem BkOk.new {w0 w:World} {g:Nat} {sl:Value} {l:List VP} {bs:Prs} (h:BkOk w0 w g sl l bs):∀ y,w.heap.size≤y→bkS g sl y:=fun y hy=>⟨fun e=>by have:=(h.own.lt y e).2; omega,fun e=>by have:=lt_of_block h.hd; omega⟩
theorem xb6s (q:List Nat) (L:Prs):(delP q L).length≤L.length:=List.length_filter_le _ _
def stepE (k:Nat) (L:Prs) (e:En):Prs:=if e.k % 2 = 0 then delP (e.key.take 64) L else insP (hsZ k) (e.key.take 64) (e.val.take 256) L
def mapL (k:Nat) (es:List En):Prs:=es.foldl (stepE k) []
theorem xb2n (k:Nat) {es:List En} {i:Nat} (hi:i < es.length):mapL k (es.take (i + 1)) = stepE k (mapL k (es.take i)) es[i]:=by
  unfold mapL
  rw [List.take_succ_eq_append_getElem hi,List.foldl_append]; rfl
theorem xb2g (k:Nat) (L:Prs) (e:En):stepE k L e = if (fitE e).k = 2 then delP (fitE e).key L else insP (hsZ k) (fitE e).key (fitE e).val L:=by
  unfold stepE fitE
  by_cases h:e.k % 2 = 0
  · rw [if_pos h,if_pos h,if_pos rfl]
  · rw [if_neg h,if_neg h,if_neg (show ¬ (1:Nat) = 2 by decide)]
structure MpOk (w0 w:World) (k g gb:Nat) (sl:Value) (l:List VP) (bs L:Prs) (n:Nat):Prop where
  m:MapAt (bkS gb sl) k w (.pointer (some ⟨g,0,none⟩)) L
  b:BkOk w0 w gb sl l bs
  e:∀ q,getP q bs = getP q L
  u:Uq bs
  nb:bs.length≤n
  nL:L.length≤n
theorem MpOk.kept {w0 w w':World} {k g gb:Nat} {sl:Value} {l:List VP} {bs L:Prs} {n:Nat} (h:MpOk w0 w k g gb sl l bs L n) (kk:Kept [] w w'):MpOk w0 w' k g gb sl l bs L n:=⟨h.m.agr (Agr.nil kk),h.b.kept kk,h.e,h.u,h.nb,h.nL⟩
set_option maxHeartbeats 8000000 in
theorem xa5m (k:Nat) (hk:1≤k∧k≤32) (ev:Value) (es:List En) (w:World) (hE:RdN w ev es) (hl:es.length≤100000000) (hT:Tabs w) :
    Calls Tryd.prog 5 #[.int .i64 k,ev] w fun e w'=>∃ g gb,e = .returned (.tuple #[.pointer (some ⟨g,0,none⟩),.pointer (some ⟨gb,0,none⟩)])∧∃ sl l bs,MpOk w w' k g gb sl l bs (mapL k es) es.length:=by
  obtain ⟨ao,n,c,kvf,vvf,rfl,hn,hc1,hc2,hok,hcell⟩:=hE
  have HN:=hide hn
  rw [hn] at hl ⊢
  have HOK:=hide hok
  have HCE:=hide hcell
  have HT:=hide hT
  have hS9:∀ y,w.heap.size≤y→(fun _:Nat=>True) y:=fun _ _=>trivial
  have HNW:=hide (xb4g (fun _=>True) k w hk hS9)
  clear hn hok hcell hT hS9
  go_enter Tryd.func5,Tryd.ntmps5
  go_wp2_with fail
  refine Calls.mono (uh HNW) ?_
  clear HNW
  rintro e w1 ⟨m1,rfl,hm1,k1⟩
  obtain ⟨g1,rfl⟩:=xa2s hm1
  have HG:=hide (heap_alloc_new w1 (.cells #[.slice none 0 0] 34))
  have hk2:=(Kept.refl [] w1).alloc (.cells #[.slice none 0 0] 34)
  obtain ⟨W1,hW1⟩:∃ W1,w1.alloc (.cells #[.slice none 0 0] 34) = W1:=⟨_,rfl⟩
  rw [hW1] at HG hk2
  have HMP:=hide (show MpOk w W1 k g1 w1.heap.size (.slice none 0 0) [] [] [] 0 from ⟨((hm1.shrinkB).monoB (fun x hx=>⟨by simp [Value.ownBlock],by have:=hx.2; omega⟩)).agr (Agr.nil hk2),⟨k1.size,uh HG,World.ownsRow_nil _ _ _ _,rfl,fun i hi=>by simp at hi,k1.trans hk2 (by simp)⟩,fun q=>rfl,List.Pairwise.nil,Nat.le_refl _,Nat.le_refl _⟩)
  obtain ⟨gb,hgb⟩:∃ gb,w1.heap.size = gb:=⟨_,rfl⟩
  rw [hgb] at HMP
  clear hm1 k1 hk2 HG
  go_upto_region 5 with fail
  try rw [hW1]
  try rw [hgb]
  clear hW1 hgb
  go_wp2_with fail
  go_loopw [6,9] (fun t6 t9 wr=>∃ (i gx:Nat),t9 = .int .i64 i∧t6 = .pointer (some ⟨gx,0,none⟩)∧i≤n∧Hid (∃ sl l bs,MpOk w wr k gx gb sl l bs (mapL k (es.take i)) i)) (fun _ t _=>n - (intOf t).toNat)
  case atStart=>exact ⟨0,g1,rfl,rfl,Nat.zero_le _,hide ⟨_,_,_,uh HMP⟩⟩
  case round =>
    clear HMP
    obtain ⟨i,gx,rfl,rfl,hi,HX⟩:=hrel
    obtain ⟨sl,l,bs,hmp⟩:=uh HX
    have HM:=hide hmp
    clear HX hmp
    by_cases hlt:i < n
    · have hlt':(i:Int) < n:=by omega
      have hiL:i < es.length:=by have:=uh HN; omega
      have HSU:=hide (show mapL k (es.take (i + 1)) = _ by rw [xb2n k hiL,xb2g])
      obtain ⟨b,off,rfl,hcl⟩:=uh HCE (by omega)
      have hrg:=hcl i hiL
      have hoe:=uh HOK i hiL
      generalize mapL k (es.take i) = L at HM HSU
      generalize es[i] = en at hrg hoe HSU
      generalize kvf i = kv at hrg hoe
      generalize vvf i = vv at hrg hoe
      have HOE:=hide hoe
      obtain ⟨x1,x2,x3,rfl,_⟩:=id hoe.key
      obtain ⟨y1,y2,y3,rfl,_⟩:=id hoe.val
      have HRG:=hide (show wr.rangeAt b (off + i * 3) [.int .u8 (en.k:Int),.slice x1 x2 x3,.slice y1 y2 y3] from fun j u hj=>(uh HM).b.kk.cell (hrg j u hj) (by simp))
      clear hrg hoe hcl
      go_wp2_with (refine wpList_load_mid rfl 30 (.tmp 37) rfl b (off + i * 3) rfl [.int .u8 (en.k:Int),.slice x1 x2 x3,.slice y1 y2 y3] _ (uh HRG) Tryd.underlying30 rfl Tryd.size_en ?_)
      refine Calls.mono (xb3d en _ _ wr ((uh HOE).old (uh HM).b.kk)) ?_
      rintro e w2 ⟨kv',vv',rfl,hfit,k2⟩
      have hoe2:=hfit w (uh HOE)
      obtain ⟨a1,a2,a3,rfl,_⟩:=id hoe2.key
      obtain ⟨d1,d2,d3,rfl,_⟩:=id hoe2.val
      have HO2:=hide hoe2
      have HA:=hide (heap_alloc_new w2 (.cells #[.int .u8 ((fitE en).k:Int),.slice a1 a2 a3,.slice d1 d2 d3] 30))
      have hka:=(Kept.refl [] w2).alloc (.cells #[.int .u8 ((fitE en).k:Int),.slice a1 a2 a3,.slice d1 d2 d3] 30)
      have HM3:=hide ((uh HM).kept (k2.trans hka (by simp)))
      obtain ⟨w3,hw3⟩:∃ w3,w2.alloc (.cells #[.int .u8 ((fitE en).k:Int),.slice a1 a2 a3,.slice d1 d2 d3] 30) = w3:=⟨_,rfl⟩
      rw [hw3] at HA HM3
      have HQK:=hide (show (fitE en).key.length≤64 by unfold fitE; split <;> (rw [List.length_take]; omega))
      have HVK:=hide (show (fitE en).val.length≤256 by unfold fitE; split <;> simp <;> omega)
      have hkk:(fitE en).k = 2∨(fitE en).k = 1:=by unfold fitE; split <;> simp
      have HB3:=hide (uh HM3).b
      have hbl:=(uh HM3).nb
      have hLl:=(uh HM3).nL
      clear hfit k2 hka HM hoe2
      go_upto_region 9 with fail
      try rw [hw3]
      clear hw3
      have HC0:=hide (show w3.cell? ⟨w2.heap.size,0,none⟩ = some (.int .u8 ((fitE en).k:Int)) from cell_of_row _ _ 0 _ _ _ (uh HA))
      have HC1:=hide (show w3.cell? ⟨w2.heap.size,1,none⟩ = some (.slice a1 a2 a3) from cell_of_row _ _ 1 _ _ _ (uh HA))
      have HC2:=hide (show w3.cell? ⟨w2.heap.size,2,none⟩ = some (.slice d1 d2 d3) from cell_of_row _ _ 2 _ _ _ (uh HA))
      generalize fitE en = f at HO2 HQK HVK hkk HC0 HSU
      obtain ⟨fk,fkey,fval⟩:=f
      simp only at hkk
      have HKY:=hide (uh HO2).key
      have HVL:=hide (uh HO2).val
      simp only at HKY HVL HC0 HQK HVK
      clear HO2 HA
      rcases hkk with rfl | rfl
      · have HSV:=hide (show mapL k (es.take (i + 1)) = delP fkey L by rw [uh HSU,if_pos rfl])
        have hc0:=uh HC0
        have hc1:=uh HC1
        go_wp2_with fail
        refine Calls.mono (xa3l (bkS gb sl) k _ _ L fkey w3 (uh HM3).m ((uh HKY).old (uh HB3).kk (by simp)) (uh HQK) (uh HB3).new ((uh HT).k (uh HB3).kk)) ?_
        rintro e w4 ⟨m4,rfl,hm4,k4⟩
        obtain ⟨g4,rfl⟩:=xa2s hm4
        have HM4:=hide hm4
        have HB4:=hide ((uh HB3).kept k4)
        have HFN:=hide (show fnd fkey L = (getP fkey bs).isSome by rw [xb5m,(uh HM3).e])
        rw [uh HFN]
        have hc1':=k4.cell (uh HC1) (by simp)
        clear hm4 k4 hc0 hc1
        go_wp2_with fail
        refine Calls.mono (xa9k w gb sl l bs _ fkey w4 (uh HB4) (uh HKY) (by omega)) ?_
        rintro e w5 ⟨rfl,sl5,l5,hb5,ha5,ho5⟩
        have HM5:=hide (show MpOk w w5 k g4 gb sl5 l5 (bun bs fkey) (delP fkey L) (i + 1) from ⟨(uh HM4).step ha5 (Or.inl ho5),hb5,fun q'=>by rw [xb6q (uh HM3).u,(uh HM3).e,xa8b (uh HM3).m.srt],uq_bun (uh HM3).u _,Nat.le_trans (bun_le _ _) (by omega),Nat.le_trans (xb6s _ _) (by omega)⟩)
        clear hb5 ha5 ho5 hc1'
        generalize (getP fkey bs).isSome = FN
        cases FN
        all_goals
          go_wp2_with fail
          refine ⟨⟨i + 1,g4,by go_num,rfl,hlt,hide ⟨_,_,_,by rw [uh HSV]; exact uh HM5⟩⟩,?_⟩
          simp [intOf]; omega
      · have HSV:=hide (show mapL k (es.take (i + 1)) = insP (hsZ k) fkey fval L by rw [uh HSU,if_neg (show ¬ (1:Nat) = 2 by decide)])
        have hc0:=uh HC0
        have hc1:=uh HC1
        have hc2:=uh HC2
        go_wp2_with fail
        refine Calls.mono (xb0i (bkS gb sl) k _ _ _ L fkey fval w3 (uh HM3).m ((uh HKY).old (uh HB3).kk (by simp)) ((uh HVL).old (uh HB3).kk (by simp)) (uh HQK) (uh HVK) (by omega) (uh HB3).new ((uh HT).k (uh HB3).kk)) ?_
        rintro e w4 ⟨m4,rfl,hm4,k4⟩
        obtain ⟨g4,rfl⟩:=xa2s hm4
        have HM4:=hide hm4
        have HB4:=hide ((uh HB3).kept k4)
        have hc1':=k4.cell (uh HC1) (by simp)
        have hc2':=k4.cell (uh HC2) (by simp)
        clear hm4 k4 hc0 hc1 hc2
        go_wp2_with fail
        refine Calls.mono (xb5r w gb sl l bs _ _ fkey fval w4 (uh HB4) (uh HKY) (uh HVL) (by omega)) ?_
        rintro e w5 ⟨rfl,sl5,l5,hb5,ha5,ho5⟩
        have HM5:=hide (show MpOk w w5 k g4 gb sl5 l5 (bset bs fkey fval) (insP (hsZ k) fkey fval L) (i + 1) from ⟨(uh HM4).step ha5 ho5,hb5,fun q'=>by rw [xb5p,(uh HM3).e,xa7p (uh HM3).m.srt],xb7l (uh HM3).u _ _,Nat.le_trans (xb7d _ _ _) (by omega),Nat.le_trans (ins_le _ _ _ _) (by omega)⟩)
        clear hb5 ha5 ho5 hc1' hc2'
        go_wp2_with fail
        refine ⟨⟨i + 1,g4,by go_num,rfl,hlt,hide ⟨_,_,_,by rw [uh HSV]; exact uh HM5⟩⟩,?_⟩
        simp [intOf]; omega
    · have hie:i = n:=by omega
      subst hie
      have hlt':¬ (i:Int) < i:=by omega
      rw [List.take_of_length_le (by have:=uh HN; omega)] at HM
      go_wp2_with fail
      go_ret2
      exact ⟨gx,gb,rfl,sl,l,bs,uh HM⟩
end
section
open Go Go.RowKit Go.BigFrame
section
variable {P:Program} {Q:Exit→Act→World→Prop} {S:World→Prop} {R:Nat→World→World→Prop} {F:Nat→Value→World→Prop} {U:Nat→Option Nat}
structure DagI (O:Array Oper) (U:Nat→Option Nat) (D:List Nat) (F:Nat→Value→World→Prop) (S:World→Prop) (b:Act) (d:Array Bool) (a:Act) (w:World):Prop where
  s:S w
  defs:a.defers = b.defers
  size:a.tmps.size = b.tmps.size
  frame:∀ s,s∉D→a.tmps[s]? = b.tmps[s]?
  fact:∀ i s,D[i]? = some s→d.getD i false = true→(∀ k,U i = some k→d.getD k false = false)→F i (a.eval (.tmp s)) w
  clo:∀ i o,i < D.length→O[i]? = some o→d.getD i false = true→∀ e∈o.after,Region.binds .any e = true→d.getD e.on false = true
  dsize:d.size = O.size
  late:∀ j,D.length≤j→d.getD j false = false
theorem xa7m {l:Array Edge} {p:Edge→Bool} (h:l.any p = true):∃ e,e∈l∧p e = true:=by
  rw [← Array.any_toList,List.any_eq_true] at h
  obtain ⟨e,h1,h2⟩:=h
  exact ⟨e,by simpa using h1,h2⟩
theorem xb4v:∀ (D:List Nat) (i j:Nat) (hi:i < D.length) (hj:j < D.length),D.Nodup→D[i] = D[j]→i = j:=fun D i j hi hj hn he=>by
  have h1:=List.pairwise_iff_getElem.1 hn
  rcases Nat.lt_trichotomy i j with h | h | h
  · exact absurd he (h1 i j hi hj h)
  · exact h
  · exact absurd he.symm (h1 j i hj hi h)
def dagM (n m:Nat):Array Bool:=(List.replicate n true++List.replicate m false).toArray
def dagE (O:Array Oper) (i k:Nat):Bool:=match O[i]? with | some o=>o.after.any (fun e=>Region.binds .any e && e.on == k) | none=>false
theorem xa7g:∀ (n:Nat) (p:Nat→Bool),(∃ i,i < n∧p i = false)→∃ i,i < n∧p i = false∧∀ j,j < i→p j = true
  | 0,_,⟨_,h,_⟩=>absurd h (Nat.not_lt_zero _)
  | n + 1,p,⟨i,hi,hp⟩=>by
    by_cases h:∃ j,j < n∧p j = false
    · obtain ⟨j,h1,h2,h3⟩:=xa7g n p h
      exact ⟨j,by omega,h2,h3⟩
    · have hall:∀ j,j < n→p j = true:=fun j hj=>by
        cases hpj:p j with
        | true=>rfl
        | false=>exact absurd ⟨j,hj,hpj⟩ h
      have:i = n:=by
        by_cases e:i = n
        · exact e
        · have:=hall i (by omega); rw [hp] at this; cases this
      subst this
      exact ⟨i,by omega,hp,hall⟩
def dagN (d:Array Bool):Nat→Nat
  | 0=>0
  | n + 1=>dagN d n + (if d.getD n false = true then 0 else 1)
theorem xa8h (d:Array Bool):∀ n,dagN d n = 0→∀ i,i < n→d.getD i false = true
  | 0,_,_,h=>absurd h (Nat.not_lt_zero _)
  | n + 1,h,i,hi=>by
    unfold dagN at h
    by_cases e:d.getD n false = true
    · rw [if_pos e] at h
      by_cases e2:i = n
      · subst e2; exact e
      · exact xa8h d n (by omega) i (by omega)
    · rw [if_neg e] at h; omega
theorem xb0e (d:Array Bool):∀ n k,dagN d n = k + 1→∃ i,i < n∧d.getD i false = false
  | 0,k,h=>by simp [dagN] at h
  | n + 1,k,h=>by
    unfold dagN at h
    by_cases e:d.getD n false = true
    · rw [if_pos e] at h
      obtain ⟨i,h1,h2⟩:=xb0e d n k (by omega)
      exact ⟨i,by omega,h2⟩
    · exact ⟨n,by omega,by simpa using e⟩
theorem xa2o (d:Array Bool) (i j:Nat) (hi:i < d.size):(d.setIfInBounds i true).getD j false = (if j = i then true else d.getD j false):=by
  by_cases e:j = i
  · subst e; simp [Array.getD,hi]
  · rw [if_neg e]
    simp only [Array.getD_eq_getD_getElem?,Array.getElem?_setIfInBounds_ne (fun h:i = j=>e h.symm)]
theorem xb0g (d:Array Bool) (i:Nat) (hs:i < d.size) (hf:d.getD i false = false):∀ n,dagN (d.setIfInBounds i true) n + (if i < n then 1 else 0) = dagN d n
  | 0=>by simp [dagN]
  | n + 1=>by
    have ih:=xb0g d i hs hf n
    unfold dagN
    rw [xa2o d i n hs]
    by_cases e:n = i
    · subst e
      rw [if_pos rfl,if_pos rfl,hf,if_pos (by omega:n < n + 1)]
      rw [if_neg (by omega:¬ n < n)] at ih
      simp; omega
    · rw [if_neg e]
      by_cases e2:i < n
      · rw [if_pos e2] at ih; rw [if_pos (by omega:i < n + 1)]; omega
      · rw [if_neg e2] at ih; rw [if_neg (by omega:¬ i < n + 1)]; omega
theorem xb5j {O:Array Oper} {D:List Nat} {d:Array Bool} (hs:d.size = O.size) (hle:D.length≤O.size) (h1:∀ i,i < D.length→d.getD i false = true) (h2:∀ j,D.length≤j→d.getD j false = false):d = dagM D.length (O.size - D.length):=by
  apply Array.ext
  · simp [dagM]; omega
  · intro i hi hi2
    have hg:d.getD i false = d[i]:=by simp [Array.getD,hi]
    by_cases e:i < D.length
    · rw [← hg,h1 i e]; simp [dagM,List.getElem_append,e]
    · rw [← hg,h2 i (by omega)]; simp [dagM,List.getElem_append,e]
theorem xa5d {a:Act} {s:Nat} {v:Value} (h:s < a.tmps.size):(a.put (some s) v).eval (.tmp s) = v:=by
  show (a.tmps.setIfInBounds s v).getD s undef = v
  simp [Array.getD,h]
theorem xa8z {a:Act} {s t:Nat} {v:Value} (h:t≠s):(a.put (some s) v).eval (.tmp t) = a.eval (.tmp t):=by
  show (a.tmps.setIfInBounds s v).getD t undef = a.tmps.getD t undef
  simp only [Array.getD_eq_getD_getElem?,Array.getElem?_setIfInBounds_ne (fun e:s = t=>h e.symm)]
theorem xa9m (g:Nat→Value):∀ (D:List Nat) (b:Act),(D.foldl (fun a s=>a.put (some s) (g s)) b).defers = b.defers∧(D.foldl (fun a s=>a.put (some s) (g s)) b).tmps.size = b.tmps.size∧∀ s,(D.foldl (fun a s=>a.put (some s) (g s)) b).tmps[s]? = if s∈D∧s < b.tmps.size then some (g s) else b.tmps[s]?
  | [],b=>⟨rfl,rfl,fun s=>by simp⟩
  | x :: D,b=>by
    obtain ⟨h1,h2,h3⟩:=xa9m g D (b.put (some x) (g x))
    have hz:(b.put (some x) (g x)).tmps.size = b.tmps.size:=Array.size_setIfInBounds ..
    refine ⟨h1,h2.trans hz,fun s=>?_⟩
    rw [List.foldl_cons,h3 s,hz]
    by_cases e:s∈D∧s < b.tmps.size
    · rw [if_pos e,if_pos ⟨List.mem_cons_of_mem _ e.1,e.2⟩]
    · rw [if_neg e]
      show (b.tmps.setIfInBounds x (g x))[s]? = _
      by_cases ex:x = s
      · subst ex
        by_cases hl:x < b.tmps.size
        · rw [if_pos ⟨List.mem_cons_self,hl⟩]; simp [hl]
        · rw [if_neg (fun h=>hl h.2)]; simp [hl]
      · rw [Array.getElem?_setIfInBounds_ne ex,if_neg (fun h=>?_)]
        rcases List.mem_cons.1 h.1 with e2 | e2
        · exact ex e2.symm
        · exact e ⟨e2,h.2⟩
theorem DagI.form {O:Array Oper} {D:List Nat} {b:Act} {a:Act} {w:World} {d:Array Bool} (hsz:∀ s∈D,s < b.tmps.size) (h:DagI O U D F S b d a w):a = D.foldl (fun x s=>x.put (some s) (a.eval (.tmp s))) b:=by
  obtain ⟨h1,h2,h3⟩:=xa9m (fun s=>a.eval (.tmp s)) D b
  obtain ⟨at_,ad⟩:=a
  have e1:(D.foldl (fun x s=>x.put (some s) (Act.eval ⟨at_,ad⟩ (.tmp s))) b).defers = ad:=by rw [h1]; exact h.defs.symm
  have e2:(D.foldl (fun x s=>x.put (some s) (Act.eval ⟨at_,ad⟩ (.tmp s))) b).tmps = at_:=by
    apply Array.ext_getElem?
    intro s
    rw [h3 s]
    by_cases e:s∈D∧s < b.tmps.size
    · rw [if_pos e]
      have hl:s < at_.size:=by have:=h.size; simp only at this; omega
      show some (at_.getD s undef) = _
      simp [Array.getD,hl]
    · rw [if_neg e]
      by_cases e2:s∈D
      · exact absurd ⟨e2,hsz s e2⟩ e
      · exact (h.frame s e2).symm
  generalize D.foldl (fun x s=>x.put (some s) (Act.eval ⟨at_,ad⟩ (.tmp s))) b = c at e1 e2
  obtain ⟨ct,cd⟩:=c
  simp only at e1 e2
  rw [e1,e2]
end
section
variable {P:Program} {Q:Exit→Act→World→Prop} {S:World→Prop} {R:Nat→World→World→Prop} {F:Nat→Value→World→Prop} {U:Nat→Option Nat}
def DagSG (P:Program) (Q:Exit→Act→World→Prop) (O:Array Oper) (U:Nat→Option Nat) (D:List Nat) (F:Nat→Value→World→Prop) (S:World→Prop) (R:Nat→World→World→Prop) (b:Act) (i:Nat) (o:Oper):Prop :=
  ∀ a W,S W→(∀ s,s∉D→a.eval (.tmp s) = b.eval (.tmp s))→(∀ j s,D[j]? = some s→(o.after.any fun e=>Region.binds .any e && e.on == j) = true→(U j = none∨U j = some i)→F j (a.eval (.tmp s)) W) →
    (Region.wanted o (yielded O a.tmps) = true∧ChL P Q S (fun a' W'=>∃ v,a' = a.put o.dst v∧R i W W'∧F i v W') [o] a W)∨(Region.wanted o (yielded O a.tmps) = false∧R i W W∧F i undef W)
def DagYG (P:Program) (Q:Exit→Act→World→Prop) (O:Array Oper) (U:Nat→Option Nat) (D:List Nat) (F:Nat→Value→World→Prop) (S:World→Prop) (R:Nat→World→World→Prop) (b:Act):Nat→List Oper→Prop
  | _,[]=>True
  | i,o :: r=>DagSG P Q O U D F S R b i o∧DagYG P Q O U D F S R b (i + 1) r
theorem DagYG.at_ {O:Array Oper} {D:List Nat} {b:Act}:∀ (l:List Oper) (k i:Nat) (o:Oper),DagYG P Q O U D F S R b k l→l[i]? = some o→DagSG P Q O U D F S R b (k + i) o
  | [],_,_,_,_,h=>by simp at h
  | x :: l,k,0,o,hy,h=>by
    have:x = o:=by simpa using h
    subst this; exact hy.1
  | x :: l,k,i + 1,o,hy,h=>by
    have h2:=DagYG.at_ l (k + 1) i o hy.2 (by simpa using h)
    rw [show k + (i + 1) = k + 1 + i by omega]; exact h2
def dagBG (O:Array Oper) (U:Nat→Option Nat) (D:List Nat):Bool :=
  decide (D.length≤O.size) && (decide D.Nodup && ((List.range D.length).all (fun i=>match O[i]? with | some o=>decide (o.dst = D[i]?) && (o.after.all (fun e=>!Region.binds .any e || decide (e.on < i))) | none=>false)
    && (true
    && (List.range O.size).all (fun j=>decide (j < D.length) || (match O[j]? with | some o=>(List.range D.length).all (fun i=>o.after.any (fun e=>Region.binds .any e && e.on == i)) | none=>false)))))
theorem xb2h {O:Array Oper} {D:List Nat} {b:Act} (hb:dagBG O U D = true) (hsz:∀ s∈D,s < b.tmps.size) (hst:∀ k i v W W',k < D.length→i < D.length→k≠i→U i≠some k→dagE O i k = false→(∀ j,U i = some j→dagE O k j = false)→R k W W'→F i v W→F i v W')
    (hY:∀ i o,i < D.length→O[i]? = some o→DagSG P Q O U D F S R b i o) {m:Nat}
    (hF:∀ a w,DagI O U D F S b (dagM D.length (O.size - D.length)) a w→wpAnyH P .any O (NoPanic Q) (fun _=>True) m (dagM D.length (O.size - D.length)) a w) :
    ∀ (k:Nat) (d:Array Bool) (a:Act) (w:World),DagI O U D F S b d a w→dagN d D.length = k→wpAnyH P .any O (NoPanic Q) (fun _=>True) (k + m) d a w:=by
  unfold dagBG at hb
  simp only [Bool.and_eq_true,decide_eq_true_eq,List.all_eq_true,List.mem_range] at hb
  obtain ⟨hle,hnd,h1,_,h2⟩:=hb
  have hdst:∀ i o,i < D.length→O[i]? = some o→o.dst = D[i]?∧∀ e∈o.after,Region.binds .any e = true→e.on < i:=fun i o hi ho=>by
    have h3:=h1 i hi
    rw [ho] at h3
    simp only [Bool.and_eq_true,decide_eq_true_eq,Array.all_eq_true_iff_forall_mem] at h3
    refine ⟨h3.1,fun e he hbd=>?_⟩
    have h4:=h3.2 e he
    rw [hbd] at h4
    simpa using h4
  intro k
  induction k with
  | zero =>
    intro d a w hI hk
    have hd:=xb5j hI.dsize hle (xa8h d _ hk) hI.late
    subst hd
    rw [Nat.zero_add]
    exact hF a w hI
  | succ k ih =>
    intro d a w hI hk
    obtain ⟨i0,hi0,hf0,hbef⟩:=xa7g D.length (fun i=>d.getD i false) (xb0e d _ k hk)
    have hgd:∀ i,i < O.size→d.getD i true = d.getD i false:=fun i hi=>by simp [Array.getD,hI.dsize,hi]
    have hr0:i0∈Region.ready .any O d:=by
      refine mem_ready.2 ⟨by rw [hgd i0 (by omega)]; exact hf0,O[i0]'(by omega),Array.getElem?_eq_getElem (by omega),fun e he hbd=>?_⟩
      exact hbef _ ((hdst i0 _ hi0 (Array.getElem?_eq_getElem (by omega))).2 e he hbd)
    rw [show k + 1 + m = (k + m) + 1 by omega]
    refine wpAnyH_all (rs:=Region.ready .any O d) rfl (fun e=>by rw [e] at hr0; cases hr0) (fun i hi=>?_)
    obtain ⟨hun,o,ho,hed⟩:=mem_ready.1 hi
    have hio:i < O.size:=(Array.getElem?_eq_some_iff.1 ho).1
    have hin:i < D.length:=by
      rcases Nat.lt_or_ge i D.length with h | h
      · exact h
      · exfalso
        have h3:=h2 i hio
        rw [ho] at h3
        simp only [Bool.or_eq_true,decide_eq_true_eq,List.all_eq_true,List.mem_range] at h3
        rcases h3 with h3 | h3
        · omega
        · have h4:=h3 i0 hi0
          obtain ⟨e,he,h5⟩:=xa7m h4
          simp only [Bool.and_eq_true,beq_iff_eq] at h5
          have:=hed e he h5.1
          rw [h5.2] at this
          have h6:d.getD i0 false = false:=hf0
          rw [h6] at this; cases this
    have hun2:d.getD i false = false:=by rw [← hgd i hio]; exact hun
    obtain ⟨hds,_⟩:=hdst i o hin ho
    have hsi:D[i]? = some D[i]:=List.getElem?_eq_getElem hin
    have hsm:D[i]∈D:=List.getElem_mem _
    have hstep:=hY i o hin ho a w hI.s (fun s hs=>by show a.tmps.getD s undef = b.tmps.getD s undef; simp only [Array.getD_eq_getD_getElem?,hI.frame s hs]) (fun j s hj hany hu=>by
      obtain ⟨e,he,h5⟩:=xa7m hany
      simp only [Bool.and_eq_true,beq_iff_eq] at h5
      have:=hed e he h5.1
      rw [h5.2] at this
      refine hI.fact j s hj this (fun k hk=>?_)
      rcases hu with h6 | h6
      · rw [h6] at hk; cases hk
      · rw [h6] at hk; injection hk with hk; subst hk; exact hun2)
    have key:∀ (v:Value) (w':World),S w'→R i w w'→F i v w'→wpAnyH P .any O (NoPanic Q) (fun _=>True) (k + m) (d.setIfInBounds i true) (a.put o.dst v) w':=fun v w' hS' hR hFi=>by
      rw [hds,hsi]
      have hlt:D[i] < a.tmps.size:=by rw [hI.size]; exact hsz _ hsm
      refine ih _ _ w' ⟨hS',hI.defs,?_,?_,?_,?_,?_,?_⟩ ?_
      · show (a.tmps.setIfInBounds _ v).size = _
        rw [Array.size_setIfInBounds]; exact hI.size
      · intro s hs
        show (a.tmps.setIfInBounds _ v)[s]? = _
        rw [Array.getElem?_setIfInBounds_ne (fun e=>hs (by rw [← e]; exact hsm))]
        exact hI.frame s hs
      · intro j s hj hdj hlive
        rw [xa2o d i j (by rw [hI.dsize]; exact hio)] at hdj
        by_cases e:j = i
        · subst e
          have:D[j] = s:=by rw [hsi] at hj; injection hj
          subst this
          rw [xa5d hlt]; exact hFi
        · rw [if_neg e] at hdj
          have hne:s≠D[i]:=fun e2=>by
            have hjl:j < D.length:=(List.getElem?_eq_some_iff.1 hj).1
            have h7:D[j] = s:=by rw [List.getElem?_eq_getElem hjl] at hj; injection hj
            rw [← h7] at e2
            exact e (xb4v D j i hjl hin hnd e2)
          rw [xa8z hne]
          have hjl:j < D.length:=(List.getElem?_eq_some_iff.1 hj).1
          refine hst i j _ _ _ hin hjl (fun e2=>e e2.symm) (fun e2=>?_) ?_ (fun k2 hk2=>?_) hR (hI.fact j s hj hdj (fun k hk=>?_))
          · have:=hlive i e2
            rw [xa2o d i i (by rw [hI.dsize]; exact hio),if_pos rfl] at this; cases this
          · cases he:dagE O j i with
            | false=>rfl
            | true =>
              unfold dagE at he
              have hoj:O[j]? = some (O[j]'(by omega)):=Array.getElem?_eq_getElem (by omega)
              rw [hoj] at he
              obtain ⟨e3,he3,h5⟩:=xa7m he
              simp only [Bool.and_eq_true,beq_iff_eq] at h5
              have:=hI.clo j _ hjl hoj hdj e3 he3 h5.1
              rw [h5.2,hun2] at this; cases this
          · cases he:dagE O i k2 with
            | false=>rfl
            | true =>
              unfold dagE at he
              rw [ho] at he
              obtain ⟨e3,he3,h5⟩:=xa7m he
              simp only [Bool.and_eq_true,beq_iff_eq] at h5
              have h8:=hed e3 he3 h5.1
              have h9:=hlive k2 hk2
              rw [h5.2] at h8
              rw [xa2o d i k2 (by rw [hI.dsize]; exact hio)] at h9
              by_cases e4:k2 = i
              · rw [if_pos e4] at h9; cases h9
              · rw [if_neg e4,h8] at h9; cases h9
          · have:=hlive k hk
            rw [xa2o d i k (by rw [hI.dsize]; exact hio)] at this
            by_cases e4:k = i
            · rw [if_pos e4] at this; cases this
            · rw [if_neg e4] at this; exact this
      · intro j o' hj hoj hdj e3 he3 hbd
        rw [xa2o d i e3.on (by rw [hI.dsize]; exact hio)]
        by_cases e4:e3.on = i
        · rw [if_pos e4]
        · rw [if_neg e4]
          rw [xa2o d i j (by rw [hI.dsize]; exact hio)] at hdj
          by_cases e5:j = i
          · subst e5; rw [ho] at hoj; injection hoj with hoj; subst hoj; exact hed e3 he3 hbd
          · rw [if_neg e5] at hdj; exact hI.clo j o' hj hoj hdj e3 he3 hbd
      · rw [Array.size_setIfInBounds]; exact hI.dsize
      · intro j hj
        rw [xa2o d i j (by rw [hI.dsize]; exact hio),if_neg (by omega)]
        exact hI.late j hj
      · have:=xb0g d i (by rw [hI.dsize]; exact hio) hun2 D.length
        rw [if_pos hin] at this
        omega
    unfold wpOp
    simp only [ho]
    rcases hstep with ⟨hw,hch⟩ | ⟨hw,hR,hFi⟩
    · rw [if_pos hw]
      refine Or.inl (Oper.wp_mono (fun a' w' h2=>?_) hch)
      obtain ⟨hS',v,rfl,hR,hFi⟩:=h2
      exact ⟨trivial,key v w' hS' hR hFi⟩
    · rw [if_neg (by rw [hw]; decide)]
      exact ⟨trivial,key undef w hI.s hR hFi⟩
theorem xb3r {id:Nat} {O:Array Oper} {a:Act} {w:World} {D:List Nat} {os:List Oper} (hm:P.follows .mixedOrders = true) (U:Nat→Option Nat) (hb:dagBG O U D = true) (hs0:O.size = D.length) (ho:O.toList = os) (hr:Region.ready .any O (dagM D.length 0) = []) (hsz:D.all (fun s=>decide (s < a.tmps.size)) = true)
    (F:Nat→Value→World→Prop) (S:World→Prop) (R:Nat→World→World→Prop) (hst:∀ k i v W W',k < D.length→i < D.length→k≠i→U i≠some k→dagE O i k = false→(∀ j,U i = some j→dagE O k j = false)→R k W W'→F i v W→F i v W') (hS:S w.drew) (hY:DagYG P Q O U D F S R a 0 os)
    (hend:∀ (g:Nat→Value) (W:World),S W→(∀ i s,D[i]? = some s→U i = none→F i (g s) W)→Q .normal (D.foldl (fun x s=>x.put (some s) (g s)) a) W):(Code.region id O true).wp P Q a w:=by
  have hszm:∀ s∈D,s < a.tmps.size:=fun s hs=>by simpa using List.all_eq_true.1 hsz s hs
  have hat:∀ i,O[i]? = os[i]?:=fun i=>by rw [← ho,Array.getElem?_toList]
  refine wp_region_noPanic ?_
  refine wp_region_held_drew (S:=fun _=>True) hm trivial (fun _=>?_)
  have e1:O.size - D.length = 0:=by omega
  have hc:=xb2h (P:=P) (Q:=Q) (S:=S) (R:=R) (F:=F) (U:=U) (b:=a) (m:=0) hb hszm hst (fun i o hi hoi=>by
    rw [hat i] at hoi
    have:=DagYG.at_ os 0 i o hY hoi
    rw [Nat.zero_add] at this; exact this) (fun a2 w2 hI=>?_) D.length (Array.replicate O.size false) a w.drew ⟨hS,rfl,rfl,fun _ _=>rfl,fun i s _ h=>?_,fun i o _ _ h=>?_,by simp,fun j _=>?_⟩ ?_
  · rw [hs0]; rw [Nat.add_zero,hs0] at hc; exact hc
  · have hfm:a2 = D.foldl (fun x s=>x.put (some s) (a2.eval (.tmp s))) a:=hI.form hszm
    have hfac:∀ i s,D[i]? = some s→U i = none→F i (a2.eval (.tmp s)) w2:=fun i s hi hu=>hI.fact i s hi (by
      have hil:i < D.length:=(List.getElem?_eq_some_iff.1 hi).1
      simp [dagM,Array.getD,List.getElem_append,hil]; omega) (fun k hk=>by rw [hu] at hk; cases hk)
    have hlast:=hend (fun s=>a2.eval (.tmp s)) w2 hI.s hfac
    rw [← hfm] at hlast
    rw [e1]
    exact ⟨hr,NoPanic.normal hlast⟩
  · exfalso
    have:(Array.replicate O.size false).getD i false = false:=by
      by_cases h9:i < O.size
      · simp [Array.getD,h9]
      · simp [Array.getD,h9]
    rw [this] at h; cases h
  · exfalso
    have:(Array.replicate O.size false).getD i false = false:=by
      by_cases h9:i < O.size
      · simp [Array.getD,h9]
      · simp [Array.getD,h9]
    rw [this] at h; cases h
  · by_cases h9:j < O.size
    · simp [Array.getD,h9]
    · simp [Array.getD,h9]
  · have:∀ n,dagN (Array.replicate O.size false) n = n:=by
      intro n
      induction n with
      | zero=>rfl
      | succ n ih =>
        unfold dagN
        rw [ih]
        have:(Array.replicate O.size false).getD n false = false:=by
          by_cases h9:n < O.size
          · simp [Array.getD,h9]
          · simp [Array.getD,h9]
        rw [this]; simp
    exact this _
end
section
variable {P:Program} {Q:Exit→Act→World→Prop}
abbrev Fct:=Value→World→Prop
def factAt (Fs:List Fct) (i:Nat):Fct:=Fs.getD i (fun _ _=>True)
def stL:List Fct→Prop
  | []=>True
  | G :: r=>(∀ v W W',Kept [] W W'→G v W→G v W')∧stL r
theorem stL_at:∀ (Fs:List Fct),stL Fs→∀ i v W W',Kept [] W W'→factAt Fs i v W→factAt Fs i v W'
  | [],_,i,v,W,W',_,_=>by unfold factAt; simp
  | G :: r,h,0,v,W,W',k,hf=>h.1 v W W' k hf
  | G :: r,h,i + 1,v,W,W',k,hf=>stL_at r h.2 i v W W' k hf
theorem xa4z {G:Fct} {r:List Fct} (h:∀ v W W',Kept [] W W'→G v W→G v W') (hr:stL r):stL (G :: r):=⟨h,hr⟩
theorem stL_c {x:Value} {r:List Fct} (hr:stL r):stL ((fun v _=>v = x) :: r):=⟨fun _ _ _ _ h=>h,hr⟩
def DagSK (P:Program) (Q:Exit→Act→World→Prop) (O:Array Oper) (D:List Nat) (Fs:List Fct) (w:World) (b:Act) (i:Nat) (o:Oper):Prop :=
  ∀ a W,Kept [] w W→(∀ s,s∉D→a.eval (.tmp s) = b.eval (.tmp s))→(∀ j s,D[j]? = some s→(o.after.any fun e=>Region.binds .any e && e.on == j) = true→factAt Fs j (a.eval (.tmp s)) W) →
    (Region.wanted o (yielded O a.tmps) = true∧ChL P Q (fun W=>Kept [] w W) (fun a' W'=>∃ v,a' = a.put o.dst v∧Kept [] W W'∧factAt Fs i v W') [o] a W)∨(Region.wanted o (yielded O a.tmps) = false∧Kept [] W W∧factAt Fs i undef W)
abbrev DagYK (P:Program) (Q:Exit→Act→World→Prop) (O:Array Oper) (D:List Nat) (Fs:List Fct) (w:World) (b:Act) (i:Nat) (l:List Oper):Prop:=DagYG P Q O (fun _=>none) D (factAt Fs) (fun W=>Kept [] w W) (fun _ W W'=>Kept [] W W') b i l
theorem DagYK.nil {O:Array Oper} {D:List Nat} {Fs:List Fct} {w:World} {b:Act} {i:Nat}:DagYK P Q O D Fs w b i []:=trivial
theorem DagYK.cons {O:Array Oper} {D:List Nat} {Fs:List Fct} {w:World} {b:Act} {i:Nat} {o:Oper} {l:List Oper} (h:DagSK P Q O D Fs w b i o) (hr:DagYK P Q O D Fs w b (i + 1) l):DagYK P Q O D Fs w b i (o :: l):=⟨fun a W hS hfr hf=>h a W hS hfr (fun j s hj he=>hf j s hj he (.inl rfl)),hr⟩
theorem xa8d {id:Nat} {O:Array Oper} {a:Act} {w:World} (D:List Nat) (hm:P.follows .mixedOrders = true) (hb:dagBG O (fun _=>none) D = true) (hs0:O.size = D.length) (hr:Region.ready .any O (dagM D.length 0) = []) (hsz:D.all (fun s=>decide (s < a.tmps.size)) = true)
    (Fs:List Fct) (hst:stL Fs) (hY:DagYK P Q O D Fs w a 0 O.toList)
    (hend:∀ (g:Nat→Value) (W:World),Kept [] w W→(∀ i s,D[i]? = some s→factAt Fs i (g s) W)→Q .normal (D.foldl (fun x s=>x.put (some s) (g s)) a) W):(Code.region id O true).wp P Q a w :=
  xb3r hm (fun _=>none) hb hs0 rfl hr hsz (factAt Fs) (fun W=>Kept [] w W) (fun _ W W'=>Kept [] W W') (fun k i v W W' _ _ _ _ _ _ hk hf=>stL_at Fs hst i v W W' hk hf) (Kept.refl [] w).drew hY (fun g W hS hf=>hend g W hS (fun i s hi=>hf i s hi rfl))
def rU (w:World) (c k:Nat) (W W':World):Prop:=if k = c then ∃ b,w.heap.size≤b∧Kept [b] W W' else Kept [] W W'
def uU (c0 c i:Nat):Option Nat:=if i = c0 then some c else none
def stU (c0 c:Nat):Nat→List Fct→Prop
  | _,[]=>True
  | i,G :: r=>((∀ v W W',Kept [] W W'→G v W→G v W')∧(i = c0∨i = c∨∀ v W W',G v W→G v W'))∧stU c0 c (i + 1) r
theorem stU_at {c0 c:Nat}:∀ (Fs:List Fct) (j:Nat),stU c0 c j Fs→∀ i v W W',(Kept [] W W'→factAt Fs i v W→factAt Fs i v W')∧(j + i≠c0→j + i≠c→factAt Fs i v W→factAt Fs i v W')
  | [],_,_,i,v,W,W'=>by unfold factAt; simp
  | G :: r,j,h,0,v,W,W'=>⟨h.1.1 v W W',fun h1 h2 hf=>by
      rcases h.1.2 with e | e | e
      · exact absurd e h1
      · exact absurd e h2
      · exact e v W W' hf⟩
  | G :: r,j,h,i + 1,v,W,W'=>by
    have:=stU_at r (j + 1) h.2 i v W W'
    rw [show j + (i + 1) = j + 1 + i by omega]
    exact this
theorem stU_c {c0 c i:Nat} {x:Value} {r:List Fct} (hr:stU c0 c (i + 1) r):stU c0 c i ((fun v _=>v = x) :: r):=⟨⟨fun _ _ _ _ h=>h,.inr (.inr (fun _ _ _ h=>h))⟩,hr⟩
theorem stU_f {c0 c i:Nat} {G:Fct} {r:List Fct} (h:∀ v W W',Kept [] W W'→G v W→G v W') (hi:i = c0∨i = c) (hr:stU c0 c (i + 1) r):stU c0 c i (G :: r):=⟨⟨h,hi.elim .inl (fun e=>.inr (.inl e))⟩,hr⟩
abbrev DagSU (P:Program) (Q:Exit→Act→World→Prop) (O:Array Oper) (D:List Nat) (Fs:List Fct) (w:World) (c0 c:Nat) (b:Act) (i:Nat) (o:Oper):Prop:=DagSG P Q O (uU c0 c) D (factAt Fs) (fun W=>Kept [] w W) (rU w c) b i o
abbrev DagYU (P:Program) (Q:Exit→Act→World→Prop) (O:Array Oper) (D:List Nat) (Fs:List Fct) (w:World) (c0 c:Nat) (b:Act) (i:Nat) (l:List Oper):Prop:=DagYG P Q O (uU c0 c) D (factAt Fs) (fun W=>Kept [] w W) (rU w c) b i l
theorem DagYU.nil {O:Array Oper} {D:List Nat} {Fs:List Fct} {w:World} {b:Act} {i c0 c:Nat}:DagYU P Q O D Fs w c0 c b i []:=trivial
theorem DagYU.cons {O:Array Oper} {D:List Nat} {Fs:List Fct} {w:World} {b:Act} {i c0 c:Nat} {o:Oper} {l:List Oper} (h:DagSU P Q O D Fs w c0 c b i o) (hr:DagYU P Q O D Fs w c0 c b (i + 1) l):DagYU P Q O D Fs w c0 c b i (o :: l):=⟨h,hr⟩
def DagSKU (P:Program) (Q:Exit→Act→World→Prop) (O:Array Oper) (D:List Nat) (Fs:List Fct) (w:World) (c0:Nat) (b:Act) (i:Nat) (o:Oper):Prop :=
  ∀ a W,Kept [] w W→(∀ s,s∉D→a.eval (.tmp s) = b.eval (.tmp s))→(∀ j s,D[j]? = some s→(o.after.any fun e=>Region.binds .any e && e.on == j) = true→j≠c0→factAt Fs j (a.eval (.tmp s)) W) →
    (Region.wanted o (yielded O a.tmps) = true∧ChL P Q (fun W=>Kept [] w W) (fun a' W'=>∃ v,a' = a.put o.dst v∧Kept [] W W'∧factAt Fs i v W') [o] a W)∨(Region.wanted o (yielded O a.tmps) = false∧Kept [] W W∧factAt Fs i undef W)
theorem DagYU.consK {O:Array Oper} {D:List Nat} {Fs:List Fct} {w:World} {b:Act} {i c0 c:Nat} {o:Oper} {l:List Oper} (hi:i≠c) (h:DagSKU P Q O D Fs w c0 b i o) (hr:DagYU P Q O D Fs w c0 c b (i + 1) l):DagYU P Q O D Fs w c0 c b i (o :: l) :=
  ⟨fun a W hS hfr hf=>by
    have e:∀ W W',rU w c i W W' = Kept [] W W':=fun W W'=>by unfold rU; rw [if_neg hi]
    simp only [e]
    exact h a W hS hfr (fun j s hj he hne=>hf j s hj he (.inl (by unfold uU; rw [if_neg hne]))),hr⟩
theorem xb3u {id:Nat} {O:Array Oper} {a:Act} {w:World} (D:List Nat) (c0 c:Nat) (hm:P.follows .mixedOrders = true) (hb:dagBG O (uU c0 c) D = true) (hs0:O.size = D.length) (hr:Region.ready .any O (dagM D.length 0) = []) (hsz:D.all (fun s=>decide (s < a.tmps.size)) = true)
    (Fs:List Fct) (hst:stU c0 c 0 Fs) (hY:DagYU P Q O D Fs w c0 c a 0 O.toList)
    (hend:∀ (g:Nat→Value) (W:World),Kept [] w W→(∀ i s,D[i]? = some s→i≠c0→factAt Fs i (g s) W)→Q .normal (D.foldl (fun x s=>x.put (some s) (g s)) a) W):(Code.region id O true).wp P Q a w :=
  xb3r hm (uU c0 c) hb hs0 rfl hr hsz (factAt Fs) (fun W=>Kept [] w W) (rU w c) (fun k i v W W' _ _ hne hU hE hJ hk hf=>by
    have h9:=stU_at Fs 0 hst i v W W'
    rw [Nat.zero_add] at h9
    unfold rU at hk
    by_cases e:k = c
    · refine h9.2 (fun e2=>hU ?_) (fun e2=>hne (by rw [e,e2])) hf
      unfold uU; rw [if_pos e2,e]
    · rw [if_neg e] at hk
      exact h9.1 hk hf) (Kept.refl [] w).drew hY (fun g W hS hf=>hend g W hS (fun i s hi hne=>hf i s hi (by unfold uU; rw [if_neg hne])))
theorem xa0a {O:Array Oper} {o:Oper} {a:Act} (hg:o.guard = none):Region.wanted o (yielded O a.tmps) = true:=by unfold Region.wanted; rw [hg]
theorem xb6b {O:Array Oper} {a:Act} {j s:Nat} {b:Bool} (hd:((O[j]?).bind (·.dst)) = some s) (he:a.eval (.tmp s) = .bool b):yielded O a.tmps j = some b:=by
  unfold yielded
  rw [hd]
  have h9:a.tmps.getD s undef = .bool b:=he
  rw [Array.getD_eq_getD_getElem?] at h9
  cases h8:a.tmps[s]? with
  | none=>rw [h8] at h9; cases h9
  | some v =>
    rw [h8] at h9
    simp only [Option.getD_some] at h9
    subst h9
    simp [h8]
theorem xa0c {O:Array Oper} {o:Oper} {a:Act} {j s:Nat} {want b:Bool} (hg:o.guard = some (j,want)) (hd:((O[j]?).bind (·.dst)) = some s) (he:a.eval (.tmp s) = .bool b):Region.wanted o (yielded O a.tmps) = (some b == some want):=by
  unfold Region.wanted
  rw [hg]
  simp only [xb6b hd he]
theorem xb2e (O:Array Oper):(List.range O.size).map (O[·]?) = O.toList.map some:=by
  apply List.ext_getElem?
  intro i
  simp only [List.getElem?_map,List.getElem?_range]
  by_cases h:i < O.size
  · simp [h]
  · simp [h]
theorem xa4q {o:Oper} {a:Act} {W:World} (ty:TypeId) (x:Operand) (ho:o.op = .load ty x) (b off:Nat) (hx:a.eval x = .pointer (some ⟨b,off,none⟩)) (cs:List Value) (d:TypeDesc) (hc:W.rangeAt b off cs)
    (hu:P.underlying ty = some d) (hd:d.isRow = true) (hi:(P.info? ty).map (·.size) = some cs.length):(execOp a.eval o).run P W = .ok (.value (.agg cs.toArray)) W:=by
  unfold execOp
  simp only [ho,hx,Instr.loadAt,Instr.sureAddr,Sem.run_bind,Sem.run_pure,Result.andThen_ok,run_loadVar_mid W b off ty cs d hc hu hd hi]
theorem xb1k {id:Nat} {O:Array Oper} {a:Act} {w:World} (hm:P.follows .mixedOrders = true) (hb:linB O (List.range O.size) [] [] = true) (S:World→Prop) (hS:S w.drew) (h:LinG P O S (Q .normal) O.toList a w.drew):(Code.region id O true).wp P Q a w :=
  xb3o (R:=List.range O.size) (rs:=O.toList) hm hb (xb2e O) hS h
end
end
section
open Go.RowKit Go.BigFrame
def strOfH (p:List Nat):ByteArray:=⟨(p.map UInt8.ofNat).toArray⟩
theorem xb6e (s:ByteArray):∀ n i r,s.size - i = n→ByteArray.toList.loop s i r = r.reverse++s.data.toList.drop i:=by
  intro n
  induction n with
  | zero =>
    intro i r h
    rw [ByteArray.toList.loop]
    have h1:s.size = s.data.toList.length:=(Array.length_toList).symm
    rw [if_neg (by omega),List.drop_eq_nil_of_le (by omega),List.append_nil]
  | succ n ih =>
    intro i r h
    rw [ByteArray.toList.loop]
    have h1:s.size = s.data.toList.length:=(Array.length_toList).symm
    have h2:i < s.data.toList.length:=by omega
    rw [if_pos (by omega),ih (i + 1) _ (by omega),List.drop_eq_getElem_cons h2]
    have h3:s.get! i = s.data.toList[i]:=by
      have h4:i < s.data.size:=by simpa using h2
      rw [Array.getElem_toList]
      exact getElem!_pos s.data i h4
    simp [h3]
theorem xa6c (s:ByteArray):s.toList = s.data.toList:=by
  unfold ByteArray.toList
  rw [xb6e s _ 0 [] rfl]
  simp
theorem xb1w (v:Value) (p:List Nat) (w:World) (h:Rd w v p) (hu5:Tryd.prog.underlying 5 = some (.int .u8)) (hu9:Tryd.prog.underlying 9 = some .string) :
    (convert 23 9 v).run Tryd.prog w = .ok (.string (strOfH p)) w:=by
  obtain ⟨ao,len,cap,rfl,rfl,h2,h3,h4,h5,h6⟩:=h
  have hl:p.length = (p.map UInt8.ofNat).length:=by simp
  cases ao with
  | none =>
    have hz:=h4 rfl
    have hp0:p = []:=List.eq_nil_of_length_eq_zero (by omega)
    subst hp0
    rw [run_convert_bytes_string w 23 9 5 none _ cap Tryd.underlying23 hu5 hu9]
    simp [Conv.bytesToString,strOfH]
    rfl
  | some a =>
    rw [hl]
    refine run_convert_bytes_back w 23 9 5 a cap (p.map UInt8.ofNat) Tryd.underlying23 hu5 hu9 (fun j hj=>?_)
    simp at hj
    obtain ⟨b,off,he,hc⟩:=h6 (by omega)
    cases he
    have:=hc j hj
    rw [Addr.add_mid,this]
    have hb:=h5 (p[j]) (List.getElem_mem hj)
    simp [u8,List.getD_eq_getElem?_getD,List.getElem?_eq_getElem hj,UInt8.toNat_ofNat]
    omega
theorem xa7n {o:Oper} {a:Act} {w:World} {x:Operand} {v:Value} {p:List Nat} (ho:o.op = .convert 23 9 x) (hx:a.eval x = v) (h:Rd w v p):(execOp a.eval o).run Tryd.prog w = .ok (.value (.string (strOfH p))) w:=by
  have h9:=xb1w v p w h (by kernel_rfl) (by kernel_rfl)
  unfold execOp
  simp only [ho,hx,Sem.run_bind,h9,Result.andThen_ok]
  rfl
theorem xb0t:∀ (p q:List Nat),(∀ x∈p,x < 256)→(∀ x∈q,x < 256)→ordL p q < 0→Op.bytesLess (p.map UInt8.ofNat) (q.map UInt8.ofNat) = true
  | [],[],_,_,h=>by simp [ordL] at h
  | [],y :: q,_,_,_=>by simp [Op.bytesLess]
  | x :: p,[],_,_,h=>by simp [ordL] at h
  | x :: p,y :: q,hp,hq,h=>by
    have hx:=hp x (by simp)
    have hy:=hq y (by simp)
    unfold ordL at h
    by_cases h1:x < y
    · have h2:(UInt8.ofNat x) < (UInt8.ofNat y):=by rw [UInt8.lt_iff_toNat_lt]; simp [Nat.mod_eq_of_lt hx,Nat.mod_eq_of_lt hy,h1]
      simp [Op.bytesLess,h2]
    · rw [if_neg h1] at h
      by_cases h3:y < x
      · rw [if_pos h3] at h; omega
      · rw [if_neg h3] at h
        obtain rfl:x = y:=by omega
        have ih:=xb0t p q (fun z hz=>hp z (by simp [hz])) (fun z hz=>hq z (by simp [hz])) h
        simp [Op.bytesLess,ih]
theorem less_H {p q:List Nat} (hp:∀ x∈p,x < 256) (hq:∀ x∈q,x < 256) (h:ordL p q < 0):Op.bytesLess (strOfH p).toList (strOfH q).toList = true:=by
  rw [xa6c,xa6c]
  have:=xb0t p q hp hq h
  simpa [strOfH] using this
theorem xb5y {H:Hs} {L:Prs} (h:Srt H L) {j:Nat} (hj:j + 1 < L.length):ordL (H.kd (L.getD j ([],[])).1) (H.kd (L.getD (j + 1) ([],[])).1) < 0∨(ordL (H.kd (L.getD j ([],[])).1) (H.kd (L.getD (j + 1) ([],[])).1) = 0∧ordL (L.getD j ([],[])).1 (L.getD (j + 1) ([],[])).1 < 0):=by
  have h1:=List.pairwise_iff_getElem.1 h j (j + 1) (by omega) hj (by omega)
  simp only [List.getD_eq_getElem?_getD,List.getElem?_eq_getElem hj,List.getElem?_eq_getElem (show j < L.length by omega),Option.getD_some]
  unfold kc at h1
  split at h1
  · rename_i h2; exact .inr ⟨h2,h1⟩
  · rename_i h2; exact .inl h1
set_option maxHeartbeats 8000000 in
theorem xa8y (k:Nat) (hk:1≤k∧k≤32) (pv:Value) (L:Prs) (w:World) (hp:RdK w pv L) (hs:Srt (hsZ k) L) (hf:Fit L) (hl:L.length≤1000000000) (hT:Tabs w) :
    Calls Tryd.prog 13 #[.int .i64 k,pv] w fun e w'=>e = .returned (.bool true)∧Kept [] w w':=by
  obtain ⟨ao,n,cap,ks,us,rfl,hn,hnc,hcm,hrd,hcell⟩:=hp
  have HRD:=hide hrd
  have HCL:=hide hcell
  have HS:=hide hs
  have HF:=hide hf
  have HT:=hide hT
  have HN:=hide hn
  rw [hn] at hl
  have HZK:=hide (show -9223372036854775808≤(k:Int)∧(k:Int)≤9223372036854775807 by omega)
  have HK:=hide hk
  have hse:sumE (k:Int) = 0:=by unfold sumE; rw [wide_k hk]; rfl
  have HSE:=hide hse
  clear hrd hcell hs hf hT hn hse hk
  go_enter Tryd.func13,Tryd.ntmps13
  go_wp2_with fail
  go_loopw [5] (fun t5 wr=>∃ (i:Nat),t5 = .int .i64 i∧1≤i∧Hid (Kept [] w wr)) (fun t _=>n - (intOf t).toNat)
  case atStart=>exact ⟨1,rfl,Nat.le_refl _,hide (Kept.refl _ _)⟩
  case round =>
    obtain ⟨i,rfl,hi1,HKr⟩:=hrel
    obtain ⟨j,rfl⟩:∃ j,i = j + 1:=⟨i - 1,by omega⟩
    by_cases hlt:j + 1 < n
    · have hlt2:((j + 1:Nat):Int) < n:=by omega
      obtain ⟨b,off,hao,hcc⟩:=uh HCL (by omega)
      subst hao
      have hx0:=(hcc j (by omega)).1
      have hy0:=(hcc (j + 1) hlt).1
      have hrp:=(uh HRD j (by omega)).1
      have hrq:=(uh HRD (j + 1) hlt).1
      have hfp:(L.getD j ([],[])).1.length≤64:=by
        have hjl:j < L.length:=by have:=uh HN; omega
        have:=(uh HF _ (List.getElem_mem hjl)).1
        simpa [List.getD_eq_getElem?_getD,List.getElem?_eq_getElem hjl] using this
      have hfq:(L.getD (j + 1) ([],[])).1.length≤64:=by
        have hjl:j + 1 < L.length:=by have:=uh HN; omega
        have:=(uh HF _ (List.getElem_mem hjl)).1
        simpa [List.getD_eq_getElem?_getD,List.getElem?_eq_getElem hjl] using this
      have hno:=xb5y (uh HS) (j:=j) (by have:=uh HN; omega)
      generalize (L.getD j ([],[])).1 = p at hrp hfp hno
      generalize (L.getD (j + 1) ([],[])).1 = q at hrq hfq hno
      generalize ks.getD j undef = kx at hx0 hrp
      generalize ks.getD (j + 1) undef = ky at hy0 hrq
      obtain ⟨x1,x2,x3,rfl,_⟩:=id hrp
      obtain ⟨y1,y2,y3,rfl,_⟩:=id hrq
      have HNO:=hide hno
      have HRP0:=hide hrp
      have HRQ0:=hide hrq
      have hx:=(uh HKr).cell hx0 (by simp)
      have hy:=(uh HKr).cell hy0 (by simp)
      have HX0':=hide hx0
      have HY0':=hide hy0
      have HY0:=hide hy
      have hwj:IntKind.i64.wrap (((j + 1:Nat):Int) - 1) = (j:Int):=by simp [IntKind.wrap,IntKind.signed,IntKind.bits]; omega
      have hjn:(j:Int) < n:=by omega
      clear hx0 hy0 hrp hrq hno hcc
      go_wp2_with fail
      refine Calls.mono (xb0y (k:Int) _ p wr (uh HZK) ((uh HRP0).old (uh HKr) (by simp)) (by omega) ((uh HT).k (uh HKr))) ?_
      rintro e w1 ⟨rfl,k1⟩
      rw [uh HSE,show sumD (k:Int) (2 :: p) = (hsZ k).kd p from rfl]
      have hd1:((hsZ k).kd p).length = 32:=xa0r _ _
      have hd2:((hsZ k).kd q).length = 32:=xa0r _ _
      have HZ1:=hide (heap_alloc_new w1 (.cells (zb 32) 36))
      have HX1:=hide (setRow_heap _ _ _ (brow ((hsZ k).kd p)) _ _ (uh HZ1))
      have hkz:=((Kept.refl [] w1).alloc (.cells (zb 32) 36)).setRow (g:=w1.heap.size) (Or.inr (Nat.le_refl _)) (brow ((hsZ k).kd p))
      have HSD:=hide (by rw [xa0b,hd1]; exact Tryd.size_dig:(Tryd.prog.info? 36).map (·.size) = some (brow ((hsZ k).kd p)).size)
      obtain ⟨w2,hw2⟩:∃ w2,(w1.alloc (.cells (zb 32) 36)).setRow w1.heap.size (brow ((hsZ k).kd p)) = w2:=⟨_,rfl⟩
      rw [hw2] at HX1 hkz
      have HK12:=hide (k1.trans hkz (by simp))
      have HK2:=hide ((uh HKr).trans (uh HK12) (by simp))
      have HY2:=hide ((uh HK12).cell (uh HY0) (by simp))
      clear k1 hkz hx hy
      have hy:=uh HY2
      have hjn2:((j + 1:Nat):Int) < n:=hlt2
      go_upto_region 5 with (rw [zb32]; refine wpList_store_row rfl 36 (.tmp 6) (.tmp 27) rfl w1.heap.size (brow ((hsZ k).kd p)) rfl rfl _ (zb 32) (uh HZ1) (uh HSD) (by rw [xa0g,xa0b,hd1]) (xa0f _) ?_; rw [hw2]; simp only [Act.put])
      clear hw2
      go_wp2_with fail
      refine Calls.mono (xb0y (k:Int) _ q w2 (uh HZK) ((uh HRQ0).old (uh HK2) (by simp)) (by omega) ((uh HT).k (uh HK2))) ?_
      rintro e w3 ⟨rfl,k3⟩
      rw [uh HSE,show sumD (k:Int) (2 :: q) = (hsZ k).kd q from rfl]
      have HZ3:=hide (heap_alloc_new w3 (.cells (zb 32) 36))
      have HX3:=hide (setRow_heap _ _ _ (brow ((hsZ k).kd q)) _ _ (uh HZ3))
      have hkz:=((Kept.refl [] w3).alloc (.cells (zb 32) 36)).setRow (g:=w3.heap.size) (Or.inr (Nat.le_refl _)) (brow ((hsZ k).kd q))
      have HSE2:=hide (by rw [xa0b,hd2]; exact Tryd.size_dig:(Tryd.prog.info? 36).map (·.size) = some (brow ((hsZ k).kd q)).size)
      obtain ⟨w4,hw4⟩:∃ w4,(w3.alloc (.cells (zb 32) 36)).setRow w3.heap.size (brow ((hsZ k).kd q)) = w4:=⟨_,rfl⟩
      rw [hw4] at HX3 hkz
      have hk34:=k3.trans hkz (by simp)
      have HK4:=hide ((uh HK2).trans hk34 (by simp))
      have HX14:=hide (show w4.heap[w1.heap.size]? = some (.cells (brow ((hsZ k).kd p)) 36 (0,0)) from (hk34.block _ (lt_of_block (uh HX1)) (by simp)).trans (uh HX1))
      clear k3 hkz hk34 hy HK12 HX1 HZ1 HY2 HK2
      go_upto_region 6 with (rw [zb32]; refine wpList_store_row rfl 36 (.tmp 8) (.tmp 37) rfl w3.heap.size (brow ((hsZ k).kd q)) rfl rfl _ (zb 32) (uh HZ3) (uh HSE2) (by rw [xa0g,xa0b,hd2]) (xa0f _) ?_; rw [hw4]; simp only [Act.put])
      clear hw4 HZ3
      go_wp2_with (first
        | (refine wpList_load_row rfl 36 (.tmp 6) rfl w1.heap.size rfl 36 (brow ((hsZ k).kd p)) (0,0) _ (uh HX14) Tryd.underlying36 rfl (uh HSD) ?_)
        | (refine wpList_load_row rfl 36 (.tmp 8) rfl w3.heap.size rfl 36 (brow ((hsZ k).kd q)) (0,0) _ (uh HX3) Tryd.underlying36 rfl (uh HSE2) ?_))
      refine Calls.mono (xa8g (k:Int) ((hsZ k).kd p) ((hsZ k).kd q) w4 (uh HZK) ((hsZ_ok (uh HK)).dg p) ((hsZ_ok (uh HK)).dg q)) ?_
      rintro e w5 ⟨rfl,k5⟩
      have hfe:formedE (k:Int) [(hsZ k).kd p,(hsZ k).kd q] = 0:=xa6l (uh HK) (fun d hd=>by
        rcases List.mem_cons.1 hd with rfl | hd
        · exact xa4e (uh HK) _
        · rw [List.mem_singleton.1 hd]; exact xa4e (uh HK) _)
      have hoc:ordC (k:Int) ((hsZ k).kd p) ((hsZ k).kd q) = ordL ((hsZ k).kd p) ((hsZ k).kd q):=by unfold ordC; rw [if_pos hfe]
      rw [hfe,hoc]
      have HKB:=hide ((uh HK4).trans k5 (by simp))
      have HX:=hide ((uh HKB).cell (uh HX0') (by simp))
      have HY:=hide ((uh HKB).cell (uh HY0') (by simp))
      have HRP:=hide ((uh HRP0).old (uh HKB) (by simp))
      have HRQ:=hide ((uh HRQ0).old (uh HKB) (by simp))
      clear k5 hfe hoc HX14 HX3 HSD HSE2 HK4 hd1 hd2
      obtain ⟨oo,hoo⟩:∃ oo,ordL ((hsZ k).kd p) ((hsZ k).kd q) = oo:=⟨_,rfl⟩
      rw [hoo] at HNO ⊢
      clear hoo
      go_upto_region 7 with fail
      obtain ⟨w6,hw6⟩:∃ w6,w6 = w5:=⟨_,rfl⟩
      subst hw6
      rcases uh HNO with hneg | ⟨hz,hlt4⟩
      · have h1:¬ oo > 0:=by omega
        have h2:¬ 0 < oo:=by omega
        have h3:(oo == 0) = false:=by rw [beq_eq_false_iff_ne]; omega
        have h4:¬ oo = 0:=by omega
        clear hneg HNO
        refine xb1k (by kernel_rfl) (by kernel_rfl) (fun W=>Kept [] w6 W) (Kept.refl [] w6).drew ?_
        refine LinG.rd (by rfl) (.int .i64 0) (fun W hW=>by go_simp) (by simp only [Act.put,sa1,sa2,sa3]; rfl) ?_
        refine LinG.rd (by rfl) (.bool false) (fun W hW=>by go_simp) (by simp only [Act.put,sa1,sa2,sa3]; rfl) ?_
        refine LinG.rd (by rfl) (.bool false) (fun W hW=>by go_simp) (by simp only [Act.put,sa1,sa2,sa3]; rfl) ?_
        refine LinG.rd (by rfl) (.int .i64 0) (fun W hW=>by go_simp) (by simp only [Act.put,sa1,sa2,sa3]; rfl) ?_
        refine LinG.rd (by rfl) (.bool false) (fun W hW=>by go_simp) (by simp only [Act.put,sa1,sa2,sa3]; rfl) ?_
        refine LinG.rd (by rfl) (.bool false) (fun W hW=>by go_simp) (by simp only [Act.put,sa1,sa2,sa3]; rfl) ?_
        refine LinG.rd (by rfl) (.bool false) (fun W hW=>by go_simp) (by simp only [Act.put,sa1,sa2,sa3]; rfl) ?_
        refine LinG.rd (by rfl) (.int .i64 0) (fun W hW=>by go_simp) (by simp only [Act.put,sa1,sa2,sa3]; rfl) ?_
        refine LinG.rd (by rfl) (.bool false) (fun W hW=>by go_simp) (by simp only [Act.put,sa1,sa2,sa3]; rfl) ?_
        refine LinG.rd (by rfl) (.bool false) (fun W hW=>by go_simp) (by simp only [Act.put,sa1,sa2,sa3]; rfl) ?_
        refine LinG.rd (by rfl) (.bool false) (fun W hW=>by go_simp) (by simp only [Act.put,sa1,sa2,sa3]; rfl) ?_
        refine LinG.rd (by rfl) (.int .i64 oo) (fun W hW=>by go_simp) (by simp only [Act.put,sa1,sa2,sa3]; rfl) ?_
        refine LinG.rd (by rfl) (.bool false) (fun W hW=>by go_simp) (by simp only [Act.put,sa1,sa2,sa3]; rfl) ?_
        refine LinG.rd (by rfl) (.bool false) (fun W hW=>by go_simp) (by simp only [Act.put,sa1,sa2,sa3]; rfl) ?_
        refine LinG.rd (by rfl) (.bool false) (fun W hW=>by go_simp) (by simp only [Act.put,sa1,sa2,sa3]; rfl) ?_
        refine LinG.rd (by rfl) (.int .i64 oo) (fun W hW=>by go_simp) (by simp only [Act.put,sa1,sa2,sa3]; rfl) ?_
        refine LinG.rd (by rfl) (.bool false) (fun W hW=>by go_simp) (by simp only [Act.put,sa1,sa2,sa3]; rfl) ?_
        refine LinG.rd (by rfl) (.bool false) (fun W hW=>by go_simp) (by simp only [Act.put,sa1,sa2,sa3]; rfl) ?_
        refine LinG.no (by rfl) (by simp only [Act.put,sa1,sa2,sa3]; rfl) ?_
        refine LinG.no (by rfl) (by simp only [Act.put,sa1,sa2,sa3]; rfl) ?_
        refine LinG.no (by rfl) (by simp only [Act.put,sa1,sa2,sa3]; rfl) ?_
        refine LinG.no (by rfl) (by simp only [Act.put,sa1,sa2,sa3]; rfl) ?_
        refine LinG.no (by rfl) (by simp only [Act.put,sa1,sa2,sa3]; rfl) ?_
        refine LinG.no (by rfl) (by simp only [Act.put,sa1,sa2,sa3]; rfl) ?_
        refine LinG.no (by rfl) (by simp only [Act.put,sa1,sa2,sa3]; rfl) ?_
        refine LinG.no (by rfl) (by simp only [Act.put,sa1,sa2,sa3]; rfl) ?_
        refine LinG.no (by rfl) (by simp only [Act.put,sa1,sa2,sa3]; rfl) ?_
        refine LinG.no (by rfl) (by simp only [Act.put,sa1,sa2,sa3]; rfl) ?_
        refine LinG.no (by rfl) (by simp only [Act.put,sa1,sa2,sa3]; rfl) ?_
        refine LinG.no (by rfl) (by simp only [Act.put,sa1,sa2,sa3]; rfl) ?_
        refine LinG.no (by rfl) (by simp only [Act.put,sa1,sa2,sa3]; rfl) ?_
        refine LinG.no (by rfl) (by simp only [Act.put,sa1,sa2,sa3]; rfl) ?_
        refine LinG.rd (by rfl) (.bool false) (fun W hW=>by go_simp) (by simp only [Act.put,sa1,sa2,sa3]; rfl) ?_
        refine LinG.rd (by rfl) (.bool false) (fun W hW=>by go_simp) (by simp only [Act.put,sa1,sa2,sa3]; rfl) ?_
        refine LinG.fin ?_
        go_wp2_with fail
        refine ⟨⟨j + 1 + 1,by go_num,by omega,hide ((uh HKB).drew)⟩,?_⟩
        simp [intOf]; try omega
      · subst hz
        have HLS:=hide (less_H (uh HRP).byte (uh HRQ).byte hlt4)
        have hwj2:IntKind.i64.wrap (j:Int) = (j:Int):=by simp [IntKind.wrap,IntKind.signed,IntKind.bits]; omega
        clear HNO hlt4
        refine xb1k (by kernel_rfl) (by kernel_rfl) (fun W=>Kept [] w6 W) (Kept.refl [] w6).drew ?_
        refine LinG.rd (by rfl) (.int .i64 0) (fun W hW=>by go_simp) (by simp only [Act.put,sa1,sa2,sa3]; rfl) ?_
        refine LinG.rd (by rfl) (.bool false) (fun W hW=>by go_simp) (by simp only [Act.put,sa1,sa2,sa3]; rfl) ?_
        refine LinG.rd (by rfl) (.bool false) (fun W hW=>by go_simp) (by simp only [Act.put,sa1,sa2,sa3]; rfl) ?_
        refine LinG.rd (by rfl) (.int .i64 0) (fun W hW=>by go_simp) (by simp only [Act.put,sa1,sa2,sa3]; rfl) ?_
        refine LinG.rd (by rfl) (.bool false) (fun W hW=>by go_simp) (by simp only [Act.put,sa1,sa2,sa3]; rfl) ?_
        refine LinG.rd (by rfl) (.bool false) (fun W hW=>by go_simp) (by simp only [Act.put,sa1,sa2,sa3]; rfl) ?_
        refine LinG.rd (by rfl) (.bool false) (fun W hW=>by go_simp) (by simp only [Act.put,sa1,sa2,sa3]; rfl) ?_
        refine LinG.rd (by rfl) (.int .i64 0) (fun W hW=>by go_simp) (by simp only [Act.put,sa1,sa2,sa3]; rfl) ?_
        refine LinG.rd (by rfl) (.bool false) (fun W hW=>by go_simp) (by simp only [Act.put,sa1,sa2,sa3]; rfl) ?_
        refine LinG.rd (by rfl) (.bool false) (fun W hW=>by go_simp) (by simp only [Act.put,sa1,sa2,sa3]; rfl) ?_
        refine LinG.rd (by rfl) (.bool false) (fun W hW=>by go_simp) (by simp only [Act.put,sa1,sa2,sa3]; rfl) ?_
        refine LinG.rd (by rfl) (.int .i64 0) (fun W hW=>by go_simp) (by simp only [Act.put,sa1,sa2,sa3]; rfl) ?_
        refine LinG.rd (by rfl) (.bool false) (fun W hW=>by go_simp) (by simp only [Act.put,sa1,sa2,sa3]; rfl) ?_
        refine LinG.rd (by rfl) (.bool false) (fun W hW=>by go_simp) (by simp only [Act.put,sa1,sa2,sa3]; rfl) ?_
        refine LinG.rd (by rfl) (.bool false) (fun W hW=>by go_simp) (by simp only [Act.put,sa1,sa2,sa3]; rfl) ?_
        refine LinG.rd (by rfl) (.int .i64 0) (fun W hW=>by go_simp) (by simp only [Act.put,sa1,sa2,sa3]; rfl) ?_
        refine LinG.rd (by rfl) (.bool true) (fun W hW=>by go_simp) (by simp only [Act.put,sa1,sa2,sa3]; rfl) ?_
        refine LinG.rd (by rfl) (.bool true) (fun W hW=>by go_simp) (by simp only [Act.put,sa1,sa2,sa3]; rfl) ?_
        refine LinG.rd (by rfl) (.slice (some ⟨b,off,none⟩) n cap) (fun W hW=>by go_simp) (by simp only [Act.put,sa1,sa2,sa3]; rfl) ?_
        refine LinG.rd (by rfl) (.int .i64 (j + 1:Nat)) (fun W hW=>by go_simp) (by simp only [Act.put,sa1,sa2,sa3]; rfl) ?_
        refine LinG.rd (by rfl) (.int .i64 j) (fun W hW=>by go_simp) (by simp only [Act.put,sa1,sa2,sa3]; rfl) ?_
        refine LinG.rd (by rfl) (.pointer (some ⟨b,off + j * 2,none⟩)) (fun W hW=>by go_simp) (by simp only [Act.put,sa1,sa2,sa3]; rfl) ?_
        refine LinG.rd (by rfl) (.pointer (some ⟨b,off + j * 2,none⟩)) (fun W hW=>by go_simp) (by simp only [Act.put,sa1,sa2,sa3]; rfl) ?_
        refine LinG.rd (by rfl) (.slice x1 x2 x3) (fun W hW=>by have h9:=hW.cell (uh HX) (by simp); go_simp) (by simp only [Act.put,sa1,sa2,sa3]; rfl) ?_
        refine LinG.rd (by rfl) (.string (strOfH p)) (fun W hW=>xa7n rfl rfl ((uh HRP).old hW (by simp))) (by simp only [Act.put,sa1,sa2,sa3]; rfl) ?_
        refine LinG.rd (by rfl) (.slice (some ⟨b,off,none⟩) n cap) (fun W hW=>by go_simp) (by simp only [Act.put,sa1,sa2,sa3]; rfl) ?_
        refine LinG.rd (by rfl) (.int .i64 (j + 1:Nat)) (fun W hW=>by go_simp) (by simp only [Act.put,sa1,sa2,sa3]; rfl) ?_
        refine LinG.rd (by rfl) (.pointer (some ⟨b,off + (j + 1) * 2,none⟩)) (fun W hW=>by have h9:¬ ((j:Int) + 1 < 0):=(by omega); go_simp) (by simp only [Act.put,sa1,sa2,sa3]; rfl) ?_
        refine LinG.rd (by rfl) (.pointer (some ⟨b,off + (j + 1) * 2,none⟩)) (fun W hW=>by go_simp) (by simp only [Act.put,sa1,sa2,sa3]; rfl) ?_
        refine LinG.rd (by rfl) (.slice y1 y2 y3) (fun W hW=>by have h9:=hW.cell (uh HY) (by simp); go_simp) (by simp only [Act.put,sa1,sa2,sa3]; rfl) ?_
        refine LinG.rd (by rfl) (.string (strOfH q)) (fun W hW=>xa7n rfl rfl ((uh HRQ).old hW (by simp))) (by simp only [Act.put,sa1,sa2,sa3]; rfl) ?_
        refine LinG.rd (by rfl) (.bool false) (fun W hW=>by have h9:=uh HLS; go_simp) (by simp only [Act.put,sa1,sa2,sa3]; rfl) ?_
        refine LinG.rd (by rfl) (.bool false) (fun W hW=>by go_simp) (by simp only [Act.put,sa1,sa2,sa3]; rfl) ?_
        refine LinG.rd (by rfl) (.bool false) (fun W hW=>by go_simp) (by simp only [Act.put,sa1,sa2,sa3]; rfl) ?_
        refine LinG.fin ?_
        go_wp2_with fail
        refine ⟨⟨j + 1 + 1,by go_num,by omega,hide ((uh HKB).drew)⟩,?_⟩
        simp [intOf]; try omega
    · have hlt2:¬ ((j + 1:Nat):Int) < n:=by omega
      go_wp2
      go_ret
      exact ⟨rfl,uh HKr⟩
end
theorem xa6z {α:Type} [DecidableEq α]:∀ {L M:List α},L.Nodup→(∀ x∈L,x∈M)→L.length≤M.length
  | [],_,_,_=>Nat.zero_le _
  | a :: L,M,hn,hs=>by
    have h1:=List.nodup_cons.1 hn
    have ha:=hs a (by simp)
    have ih:=xa6z (L:=L) (M:=M.erase a) h1.2 (fun x hx=>by
      have hne:x≠a:=fun e=>h1.1 (e ▸ hx)
      exact (List.mem_erase_of_ne hne).2 (hs x (by simp [hx])))
    rw [List.length_erase_of_mem ha] at ih
    have hp:=List.length_pos_of_mem ha
    rw [List.length_cons]
    omega
theorem xb1m {L:Prs} (h:Uq L):L.Nodup:=List.Pairwise.imp (fun hxy e=>hxy (by rw [e])) h
theorem srt_uq {H:Hs} {L:Prs} (h:Srt H L):Uq L:=List.Pairwise.imp (fun hxy e=>by rw [e,xa1f] at hxy; omega) h
theorem xb8d {L M:Prs} (hL:Uq L) (hM:Uq M) (h:∀ q,getP q L = getP q M):L.length = M.length:=by
  apply Nat.le_antisymm
  · exact xa6z (xb1m hL) (fun x hx=>(xa1d hM).1 (by rw [← h]; exact (xa1d hL).2 hx))
  · exact xa6z (xb1m hM) (fun x hx=>(xa1d hL).1 (by rw [h]; exact (xa1d hM).2 hx))
theorem xb5l {H:Hs} {L:Prs} (hL:Srt H L):insAll H [] L.reverse = L:=xb0u ((xb3l H).insAll _) hL (fun q=>by
  rw [xb7h (xb3l H)]
  cases getP q L <;> rfl)
theorem xb6a {H:Hs} {L:Prs} (hL:Srt H L) (q v:List Nat):delP q (insP H q v L) = delP q L:=xb0u ((hL.ins _ _).del _) (hL.del _) (fun q'=>by
  rw [xa8b (hL.ins _ _),xa8b hL,xa7p hL]
  by_cases e:q' = q
  · rw [if_pos e,if_pos e]
  · rw [if_neg e,if_neg e,if_neg e])
theorem xb5w {H:Hs} {L:Prs} (hL:Srt H L) {q:List Nat} (h:getP q L = none):delP q L = L:=xb0u (hL.del _) hL (fun q'=>by
  rw [xa8b hL]
  by_cases e:q' = q
  · rw [if_pos e,e,h]
  · rw [if_neg e])
section
open Go.RowKit Go.BigFrame
theorem xa7r {w:World} {g:Nat} (bs:List Nat) {cs:Array Value} {fr:Nat × Nat} (h:w.heap[g]? = some (.cells cs 5 fr)) (hc:cs = (bs.map u8).toArray) (hb:∀ x∈bs,x < 256) (n:Nat) (hn:bs.length = n) (hl:n≤140737488355328):Rd w (.slice (some ⟨g,0,none⟩) n n) bs:=by
  refine ⟨_,n,n,rfl,hn,Nat.le_refl _,⟨by omega,hl⟩,fun h=>by simp at h,hb,fun hp=>⟨g,0,rfl,fun i hi=>?_⟩⟩
  subst hc
  have hi':i < bs.length:=by omega
  rw [cell_of_row _ _ _ _ _ _ h,Nat.zero_add,List.getElem?_toArray,List.getElem?_map,List.getD_eq_getElem?_getD,List.getElem?_eq_getElem hi']
  rfl
abbrev bt (x:Int):Obj:=.cells #[.int .u8 x] 5 (1,2)
theorem bt_rd (w:World) (x:Nat) (hx:x < 256):Rd (w.alloc (bt x)) (.slice (some ⟨w.heap.size,0,none⟩) 1 1) [x]:=xa7r (n:=1) [x] (heap_alloc_new w (bt x)) rfl (by intro y hy; simp at hy; omega) rfl (by decide)
theorem RdN.oneM {w:World} {g:Nat} {e:En} {kv vv:Value} {t:TypeId} {fr:Nat × Nat} (h:w.heap[g]? = some (.cells (enC e kv vv) t fr)) (ho:OkE w e kv vv):RdN w (.slice (some ⟨g,0,none⟩) 1 1) [e]:=by
  refine ⟨_,1,1,fun _=>kv,fun _=>vv,rfl,rfl,Nat.le_refl _,by omega,fun i hi=>?_,fun _=>⟨g,0,rfl,fun i hi=>?_⟩⟩
  · have:i = 0:=by simpa using hi
    subst this; exact ho
  · have:i = 0:=by simpa using hi
    subst this
    intro j v hv
    rw [cell_of_row _ _ _ _ _ _ h,Nat.zero_mul,Nat.add_zero,Nat.zero_add,← Array.getElem?_toList]
    exact hv
theorem LayAt.rdKM {B:Nat} {w:World} {v:Value} {l:List VP} {L:Prs} (h:LayAt B w v l L):RdK w v L:=by
  obtain ⟨_,len,cap,rfl,hl,hc1,hc2,hcell⟩:=xa6q (by rw [xa0j]; exact h.own) h.pr.cell.1
  rw [xa0j] at hl
  have e1:∀ i,i < l.length→(l.map (·.1)).getD i undef = (l.getD i (undef,undef)).1∧(l.map (·.2)).getD i undef = (l.getD i (undef,undef)).2:=fun i hi=>by
    simp [List.getD_eq_getElem?_getD,List.getElem?_eq_getElem hi]
  refine ⟨_,len,cap,l.map (·.1),l.map (·.2),rfl,by rw [← hl]; exact h.pr.1.symm,hc1,hc2,fun i hi=>?_,fun h0=>?_⟩
  · rw [(e1 i (by omega)).1,(e1 i (by omega)).2]; exact (h.pr.2 i (by omega)).now
  · obtain ⟨b,off,rfl,hce⟩:=hcell h0
    refine ⟨b,off,rfl,fun i hi=>?_⟩
    have hi':i < l.length:=by omega
    have h7:=hce i (by rw [xa0j]; exact hi')
    have e:(kvR l)[i]'(by rw [xa0j]; exact hi') = [l[i].1,l[i].2]:=kvR_at _ i hi'
    rw [e] at h7
    rw [(e1 i hi').1,(e1 i hi').2]
    simp only [List.getD_eq_getElem?_getD,List.getElem?_eq_getElem hi',Option.getD_some]
    exact ⟨h7 0 _ rfl,h7 1 _ rfl⟩
theorem xa8l {k:Nat} (hk:1≤k∧k≤32) (L:Prs):Dg (rootP k L):=by
  unfold rootP
  split
  · have e:sumD (k:Int) [5] = cutL k (hash [5]):=by
      unfold sumD
      rw [if_pos (by simp [widthB]; omega),Int.toNat_natCast]
    rw [← e]; exact xa5b _ _
  · exact nod_dg k 64 L
theorem xb1f {q:List Nat} {L:Prs}:fnd q L = (getP q L).isSome:=by unfold fnd; cases getP q L <;> rfl
theorem xa5e (H:Hs):∀ (ps L:Prs),(insAll H L ps).length≤L.length + ps.length
  | [],L=>Nat.le_refl _
  | p :: ps,L=>by
    have h1:=xa5e H ps (insP H p.1 p.2 L)
    have h2:=ins_le H p.1 p.2 L
    show (insAll H (insP H p.1 p.2 L) ps).length≤_
    rw [List.length_cons]; omega
def anB:List Nat:=[97,110,111,116,104,101,114]
def anC:Array Value:=#[.int .u8 97,.int .u8 110,.int .u8 111,.int .u8 116,.int .u8 104,.int .u8 101,.int .u8 114]
theorem xa8e {w:World} {g n:Nat} {C:Array Value} {e:TypeId} (h:w.heap[g]? = some (.cells C e (0,0))):(w.freeze ⟨g,n,none⟩ 1).heap[g]? = some (.cells C e (n,n + 1))∧Kept [g] w (w.freeze ⟨g,n,none⟩ 1):=by
  unfold World.freeze
  rw [if_neg (by decide)]
  refine ⟨?_,⟨rfl,rfl,rfl,by simp,fun k _ hk=>?_⟩⟩
  · simp only [Array.getElem?_modify,if_true,h,Option.map_some]
    rfl
  · have hne:g≠k:=fun e=>hk (by simp [e])
    simp only [Array.getElem?_modify,if_neg hne]
theorem xa7q {w:World} {g n c:Nat} {C:Array Value} (t:TypeId) {e:TypeId} (h:w.heap[g]? = some (.cells C e (0,0))) (ht:Tryd.prog.underlying t = some (.slice e)) (he:Tryd.prog.underlying e = some (.int .u8)) :
    (convert t t (.slice (some ⟨g,0,none⟩) n c)).run Tryd.prog w = .ok (.slice (some ⟨g,0,none⟩) n c) (w.freeze ⟨g,C.size,none⟩ 1):=by
  have hsh:w.shape? g = some (e,C.size):=by
    unfold World.shape?
    rw [h]
  simp [convert,run_underlying ht,run_underlying he,markStringish,hsh]
def enK:En:=⟨1,[107],[118]⟩
theorem mapL_k (k:Nat):mapL k [enK] = [([107],[118])]:=by
  unfold mapL stepE enK
  rfl
set_option maxHeartbeats 16000000 in
theorem wholeMap_walk (n8:Nat) (ev:Value) (es:List En) (pv:Value) (pr:List Nat) (w:World) (h8:n8 < 256) (hE:RdN w ev es) (hel:es.length≤1048576) (hp:Rd w pv pr) (hpl:pr.length≤1048576) (hT:Tabs w) :
    Calls Tryd.prog 3 #[.int .u8 n8,ev,pv] w fun e w'=>e = .returned (.bool true)∧Below w.heap.size w w':=by
  have HT:=hide hT
  have HE:=hide hE
  have HP:=hide hp
  have HEL:=hide hel
  obtain ⟨ea,en,ec,rfl,hen,_⟩:=hE.form
  obtain ⟨pa,pn,pc,rfl,hpn,_⟩:=id hp
  have kc:=fun (w:World) (C:Array Value) (n c:Nat)=>Lib.run_convert_bytes_const (P:=Tryd.prog) w 23 5 C n c Tryd.underlying23 Tryd.underlying5
  have kc1:=fun (w:World) (o:Obj) (C:Array Value) (n c:Nat)=>Go.Joins.run_convert_bytes_const_at (P:=Tryd.prog) (w.alloc o) 23 5 C n c (w.heap.size + 1) (by simp) Tryd.underlying23 Tryd.underlying5
  clear hT hE hel hp hpl hen
  go_enter Tryd.func3,Tryd.ntmps3
  go_wp2_with fail
  refine Calls.mono (xb1p n8 h8 w) ?_
  rintro e w1 ⟨rfl,k1⟩
  have HK1:=hide k1
  have hk:1≤1 + n8 % 32∧1 + n8 % 32≤32:=by omega
  generalize 1 + n8 % 32 = k at hk ⊢
  clear k1
  have z1:(w1.alloc (bt 107)).heap.size = w1.heap.size + 1:=by simp
  have z2:((w1.alloc (bt 107)).alloc (bt 118)).heap.size = w1.heap.size + 1 + 1:=by simp
  have ka:=(Kept.refl [] w1).alloc (bt 107)
  have kb:=(Kept.refl [] (w1.alloc (bt 107))).alloc (bt 118)
  obtain ⟨RW,hRW⟩:∃ RW:Obj,RW = .cells #[.int .u8 1,.slice (some ⟨w1.heap.size,0,none⟩) 1 1,.slice (some ⟨w1.heap.size + 1,0,none⟩) 1 1] 30:=⟨_,rfl⟩
  have ke:=(Kept.refl [] ((w1.alloc (bt 107)).alloc (bt 118))).alloc RW
  have r1:=((bt_rd w1 107 (by decide)).old kb (by simp)).old ke (by simp)
  have r2:=(bt_rd (w1.alloc (bt 107)) 118 (by decide)).old ke (by simp)
  rw [z1] at r2
  have hx:=heap_alloc_new ((w1.alloc (bt 107)).alloc (bt 118)) RW
  rw [z2] at hx
  have kall:=(ka.trans kb (by simp)).trans ke (by simp)
  rw [hRW] at r1 r2 hx kall
  obtain ⟨X,hX⟩:∃ X,((w1.alloc (bt 107)).alloc (bt 118)).alloc (.cells #[.int .u8 1,.slice (some ⟨w1.heap.size,0,none⟩) 1 1,.slice (some ⟨w1.heap.size + 1,0,none⟩) 1 1] 30) = X:=⟨_,rfl⟩
  rw [hX] at r1 r2 hx kall
  have HN1:=hide (RdN.oneM (e:=enK) hx ⟨by show (1:Nat) < 256; omega,r1,r2⟩)
  have HKX:=hide ((uh HK1).trans kall (by simp))
  clear z1 z2 ka kb ke r1 r2 hx kall hRW
  go_wp2_with (
    (refine xa0i rfl 30 _ rfl #[.int .u8 1,.slice (some ⟨w1.heap.size,0,none⟩) 1 1,.slice (some ⟨w1.heap.size + 1,0,none⟩) 1 1] (by simp only [List.map_toArray,List.map_cons,List.map_nil]; exact xa7j) ?_))
  refine Calls.mono (xa5m k hk _ [enK] X (uh HN1) (by simp) ((uh HT).k (uh HKX))) ?_
  rintro e w2 ⟨g1,gb1,rfl,sl1,l1,bs1,hm1⟩
  rw [mapL_k] at hm1
  have HK2:=hide ((uh HKX).trans hm1.b.kk (by simp))
  have HM1:=hide hm1.m
  clear hm1 HN1 HKX kc1 hX
  go_wp2_with fail
  refine Calls.mono (xa6m _ k _ _ w2 (uh HM1)) ?_
  rintro e w3 ⟨rfl,k3⟩
  rw [show ([([107],[118])]:Prs).length = 1 from rfl]
  have HK3:=hide ((uh HK2).trans k3 (by simp))
  clear k3 HM1 HK2
  go_wp2_with fail
  refine Calls.mono (xa5m k hk _ es w3 ((uh HE).old (uh HK3)) (by have:=uh HEL; omega) ((uh HT).k (uh HK3))) ?_
  rintro e w4 ⟨g,gb,rfl,sl,l,bs,hmp⟩
  have HMP:=hide hmp
  have HNB:=hide hmp.nb
  have HNL:=hide hmp.nL
  generalize mapL k es = L at HMP HNL
  clear hmp
  have HK4:=hide ((uh HK3).trans (uh HMP).b.kk (by simp))
  obtain ⟨ao,cap,hsl⟩:=(uh HMP).b.form
  subst hsl
  obtain ⟨nb,hnb⟩:∃ nb,l.length = nb:=⟨_,rfl⟩
  have hbl:bs.length = nb:=by rw [← hnb]; exact (uh HMP).b.len.symm
  have hLb:L.length = nb:=by rw [← hbl]; exact xb8d (srt_uq (uh HMP).m.srt) (uh HMP).u (fun q=>((uh HMP).e q).symm)
  have HBL:=hide hbl
  have HLB:=hide hLb
  have HLN:=hide hnb
  have hnb9:nb≤1048576:=by have:=uh HNB; have:=uh HEL; omega
  have HC:=hide (show w4.cell? ⟨gb,0,none⟩ = some (.slice ao nb cap) by rw [cell_of_row _ _ 0 _ _ _ (uh HMP).b.hd,hnb]; rfl)
  have HLEN:=hide (fun (W:World) (hW:Kept [] w4 W)=>(xa6m _ k _ L W ((uh HMP).kept hW).m))
  rw [hLb] at HLEN
  clear hnb hbl hLb
  go_upto_region 6 with fail
  refine xa8d [64,65,66,67,68,69,70,71,72,73,74,75] (by kernel_rfl) (by kernel_rfl) rfl (by kernel_rfl) (by kernel_rfl) [(fun v _=>v = .pointer (some ⟨g,0,none⟩)),(fun v _=>v = .bool false),(fun v _=>v = .bool false),(fun v _=>v = .pointer (some ⟨g,0,none⟩)),(fun v _=>v = .int .i64 nb),(fun v _=>v = .pointer (some ⟨gb,0,none⟩)),(fun v _=>v = .pointer (some ⟨gb,0,none⟩)),(fun v _=>v = .pointer (some ⟨gb,0,none⟩)),(fun v _=>v = .slice ao nb cap),(fun v _=>v = .int .i64 nb),(fun v _=>v = .bool false),(fun v _=>v = .bool false)] ?_ ?_ ?_
  · exact stL_c (stL_c (stL_c (stL_c (stL_c (stL_c (stL_c (stL_c (stL_c (stL_c (stL_c (stL_c (trivial))))))))))))
  · refine DagYK.cons (fun b W hS hfr hf=>?_) ?_
    · have q10:b.eval (.tmp 10) = .pointer (some ⟨g,0,none⟩):=(hfr 10 (by decide)).trans rfl
      exact .inl ⟨xa0a rfl,ChL.op (.pointer (some ⟨g,0,none⟩)) (by unfold execOp; simp only [List.map_toArray,List.map_cons,List.map_nil,q10]; go_simp) hS rfl (ChL.fin ⟨_,rfl,Kept.refl [] W,rfl⟩)⟩
    refine DagYK.cons (fun b W hS hfr hf=>?_) ?_
    · have q64:b.eval (.tmp 64) = .pointer (some ⟨g,0,none⟩):=hf 0 64 rfl (by kernel_rfl)
      exact .inl ⟨xa0a rfl,ChL.op (.bool false) (by unfold execOp; simp only [List.map_toArray,List.map_cons,List.map_nil,q64]; go_simp) hS rfl (ChL.fin ⟨_,rfl,Kept.refl [] W,rfl⟩)⟩
    refine DagYK.cons (fun b W hS hfr hf=>?_) ?_
    · have q65:b.eval (.tmp 65) = .bool false:=hf 1 65 rfl (by kernel_rfl)
      exact .inl ⟨xa0a rfl,ChL.op (.bool false) (by unfold execOp; simp only [List.map_toArray,List.map_cons,List.map_nil,q65]; go_simp) hS rfl (ChL.fin ⟨_,rfl,Kept.refl [] W,rfl⟩)⟩
    refine DagYK.cons (fun b W hS hfr hf=>?_) ?_
    · have q10:b.eval (.tmp 10) = .pointer (some ⟨g,0,none⟩):=(hfr 10 (by decide)).trans rfl
      have g66:b.eval (.tmp 66) = .bool false:=hf 2 66 rfl (by kernel_rfl)
      exact .inl ⟨(xa0c (j:=2) (s:=66) (want:=false) (b:=false) rfl rfl g66).trans rfl,ChL.op (.pointer (some ⟨g,0,none⟩)) (by unfold execOp; simp only [List.map_toArray,List.map_cons,List.map_nil,q10]; go_simp) hS rfl (ChL.fin ⟨_,rfl,Kept.refl [] W,rfl⟩)⟩
    refine DagYK.cons (fun b W hS hfr hf=>?_) ?_
    · have q67:b.eval (.tmp 67) = .pointer (some ⟨g,0,none⟩):=hf 3 67 rfl (by kernel_rfl)
      have g66:b.eval (.tmp 66) = .bool false:=hf 2 66 rfl (by kernel_rfl)
      refine .inl ⟨(xa0c (j:=2) (s:=66) (want:=false) (b:=false) rfl rfl g66).trans rfl,ChL.call rfl Tryd.call6 [.pointer (some ⟨g,0,none⟩)] (by show [b.eval (.tmp 67)] = _; simp only [q67]) (uh HLEN W hS) (fun e w9 h9=>⟨_,h9.1,hS.trans h9.2 (by simp),ChL.fin ⟨_,rfl,h9.2,rfl⟩⟩)⟩
    refine DagYK.cons (fun b W hS hfr hf=>?_) ?_
    · have q11:b.eval (.tmp 11) = .pointer (some ⟨gb,0,none⟩):=(hfr 11 (by decide)).trans rfl
      have g66:b.eval (.tmp 66) = .bool false:=hf 2 66 rfl (by kernel_rfl)
      exact .inl ⟨(xa0c (j:=2) (s:=66) (want:=false) (b:=false) rfl rfl g66).trans rfl,ChL.op (.pointer (some ⟨gb,0,none⟩)) (by unfold execOp; simp only [List.map_toArray,List.map_cons,List.map_nil,q11]; go_simp) hS rfl (ChL.fin ⟨_,rfl,Kept.refl [] W,rfl⟩)⟩
    refine DagYK.cons (fun b W hS hfr hf=>?_) ?_
    · have q69:b.eval (.tmp 69) = .pointer (some ⟨gb,0,none⟩):=hf 5 69 rfl (by kernel_rfl)
      have g66:b.eval (.tmp 66) = .bool false:=hf 2 66 rfl (by kernel_rfl)
      exact .inl ⟨(xa0c (j:=2) (s:=66) (want:=false) (b:=false) rfl rfl g66).trans rfl,ChL.op (.pointer (some ⟨gb,0,none⟩)) (by unfold execOp; simp only [List.map_toArray,List.map_cons,List.map_nil,q69]; go_simp) hS rfl (ChL.fin ⟨_,rfl,Kept.refl [] W,rfl⟩)⟩
    refine DagYK.cons (fun b W hS hfr hf=>?_) ?_
    · have q70:b.eval (.tmp 70) = .pointer (some ⟨gb,0,none⟩):=hf 6 70 rfl (by kernel_rfl)
      have g66:b.eval (.tmp 66) = .bool false:=hf 2 66 rfl (by kernel_rfl)
      exact .inl ⟨(xa0c (j:=2) (s:=66) (want:=false) (b:=false) rfl rfl g66).trans rfl,ChL.op (.pointer (some ⟨gb,0,none⟩)) (by unfold execOp; simp only [List.map_toArray,List.map_cons,List.map_nil,q70]; go_simp) hS rfl (ChL.fin ⟨_,rfl,Kept.refl [] W,rfl⟩)⟩
    refine DagYK.cons (fun b W hS hfr hf=>?_) ?_
    · have q71:b.eval (.tmp 71) = .pointer (some ⟨gb,0,none⟩):=hf 7 71 rfl (by kernel_rfl)
      have g66:b.eval (.tmp 66) = .bool false:=hf 2 66 rfl (by kernel_rfl)
      have h9:=hS.cell (uh HC) (by simp)
      exact .inl ⟨(xa0c (j:=2) (s:=66) (want:=false) (b:=false) rfl rfl g66).trans rfl,ChL.op (.slice ao nb cap) (by unfold execOp; simp only [List.map_toArray,List.map_cons,List.map_nil,q71]; go_simp) hS rfl (ChL.fin ⟨_,rfl,Kept.refl [] W,rfl⟩)⟩
    refine DagYK.cons (fun b W hS hfr hf=>?_) ?_
    · have q72:b.eval (.tmp 72) = .slice ao nb cap:=hf 8 72 rfl (by kernel_rfl)
      have g66:b.eval (.tmp 66) = .bool false:=hf 2 66 rfl (by kernel_rfl)
      have r72:b.tmps[72]?.getD undef = .slice ao nb cap:=by simpa [Act.eval] using q72
      exact .inl ⟨(xa0c (j:=2) (s:=66) (want:=false) (b:=false) rfl rfl g66).trans rfl,ChL.op (.int .i64 nb) (by unfold execOp; simp only [List.map_toArray,List.map_cons,List.map_nil,q72]; go_simp) hS rfl (ChL.fin ⟨_,rfl,Kept.refl [] W,rfl⟩)⟩
    refine DagYK.cons (fun b W hS hfr hf=>?_) ?_
    · have q68:b.eval (.tmp 68) = .int .i64 nb:=hf 4 68 rfl (by kernel_rfl)
      have q73:b.eval (.tmp 73) = .int .i64 nb:=hf 9 73 rfl (by kernel_rfl)
      have g66:b.eval (.tmp 66) = .bool false:=hf 2 66 rfl (by kernel_rfl)
      exact .inl ⟨(xa0c (j:=2) (s:=66) (want:=false) (b:=false) rfl rfl g66).trans rfl,ChL.op (.bool false) (by unfold execOp; simp only [List.map_toArray,List.map_cons,List.map_nil,q68,q73]; go_simp) hS rfl (ChL.fin ⟨_,rfl,Kept.refl [] W,rfl⟩)⟩
    refine DagYK.cons (fun b W hS hfr hf=>?_) ?_
    · have q66:b.eval (.tmp 66) = .bool false:=hf 2 66 rfl (by kernel_rfl)
      have q74:b.eval (.tmp 74) = .bool false:=hf 10 74 rfl (by kernel_rfl)
      exact .inl ⟨xa0a rfl,ChL.op (.bool false) (by unfold execOp; simp only [List.map_toArray,List.map_cons,List.map_nil,q66,q74]; go_simp) hS rfl (ChL.fin ⟨_,rfl,Kept.refl [] W,rfl⟩)⟩
    exact DagYK.nil
  intro gz w5 hS_w5 hf
  have e75:gz 75 = .bool false:=hf 11 75 rfl
  simp only [List.foldl_cons,List.foldl_nil,Act.put,sa1,sa2,sa3]
  rw [e75]
  clear hf e75
  have HK5:=hide ((uh HK4).trans hS_w5 (by simp))
  have HM5:=hide ((uh HMP).kept hS_w5)
  clear HMP HLEN HC HK4 hS_w5
  go_wp2_with fail
  have hDG:=xa8l hk L
  have HDG:=hide hDG
  have hrl:=hDG.1
  have HROOT:=hide (fun (W:World) (hW:Kept [] w5 W)=>xa3n _ k _ L W ((uh HM5).kept hW).m ((uh HT).k ((uh HK5).trans hW (by simp))))
  obtain ⟨RL,hRL⟩:∃ RL,rootP k L = RL:=⟨_,rfl⟩
  rw [hRL] at HROOT hrl HDG
  have HRL:=hide hRL
  clear hRL hDG
  refine Calls.mono (uh HROOT w5 (Kept.refl [] w5)) ?_
  rintro e w6 ⟨rfl,k6⟩
  have HZ6:=hide (heap_alloc_new w6 (.cells (zb 32) 36))
  have HX6:=hide (setRow_heap _ _ _ (brow RL) _ _ (uh HZ6))
  have hkz:=((Kept.refl [] w6).alloc (.cells (zb 32) 36)).setRow (g:=w6.heap.size) (Or.inr (Nat.le_refl _)) (brow RL)
  have HSD:=hide (by rw [xa0b,hrl]; exact Tryd.size_dig:(Tryd.prog.info? 36).map (·.size) = some (brow RL).size)
  obtain ⟨w7,hw7⟩:∃ w7,(w6.alloc (.cells (zb 32) 36)).setRow w6.heap.size (brow RL) = w7:=⟨_,rfl⟩
  rw [hw7] at HX6 hkz
  have HK57:=hide (k6.trans hkz (by simp))
  have HK7:=hide ((uh HK5).trans (uh HK57) (by simp))
  clear k6 hkz
  go_upto_region 9 with (rw [zb32]; refine wpList_store_row rfl 36 (.tmp 12) (.tmp 77) rfl w6.heap.size (brow RL) rfl rfl _ (zb 32) (uh HZ6) (uh HSD) (by rw [xa0g,xa0b,hrl]) (xa0f _) ?_; rw [hw7]; simp only [Act.put])
  clear hw7 HZ6
  generalize w6.heap.size = gr at HX6 ⊢
  have HRG:=hide (xa0m [] ((RL).map u8) [] (show w7.heap[gr]? = some (.cells ([]++RL.map u8++[]).toArray 36 (0,0)) by have h9:=uh HX6; simpa [brow] using h9) rfl:w7.rangeAt gr 0 (RL.map u8))
  go_wp2_with fail
  refine Calls.mono (xa2e _ pr 64 w7 ((uh HP).old (uh HK7) (by simp)) (by decide)) ?_
  rintro e w8 ⟨kv9,rfl,hkv,k8⟩
  have HKV:=hide ((hkv _ (uh HP)).old ((uh HK7).trans k8 (by simp)) (by simp))
  obtain ⟨κ1,κ2,κ3,rfl,_⟩:=id (hkv _ (uh HP))
  have HK78:=hide k8
  have HK58:=hide ((uh HK57).trans k8 (by simp))
  have HK8:=hide ((uh HK7).trans k8 (by simp))
  have HQ:=hide (show (pr.take 64).length≤64 by rw [List.length_take]; omega)
  generalize pr.take 64 = qk at HKV HQ
  clear hkv k8 HK7 HK57
  have HM8:=hide ((uh HM5).kept (uh HK58))
  obtain ⟨FN,hFN⟩:∃ FN,(getP qk L).isSome = FN:=⟨_,rfl⟩
  obtain ⟨Y,hY⟩:∃ Y,(getP qk L).getD [] = Y:=⟨_,rfl⟩
  have HFN:=hide hFN
  have HGT:=hide (xb4f _ k _ _ L qk w8 (uh HM8).m (uh HKV) (uh HQ) ((uh HT).k (uh HK8)))
  rw [xb1f,hFN,hY] at HGT
  have HBG:=hide (fun (W:World) (hW:Kept [] w8 W)=>xa9g w3 gb _ l bs _ qk W ((uh HM8).kept hW).b ((uh HKV).old hW (by simp)) (by rw [uh HBL]; omega))
  rw [(uh HM8).e qk,hFN,hY] at HBG
  clear hFN hY
  go_wp2_with fail
  refine Calls.mono (uh HGT) ?_
  rintro e w9 ⟨v9,rfl,r9,_,k9⟩
  obtain ⟨va,vn,vc,rfl,_⟩:=id r9
  have HR9:=hide r9
  have HK89:=hide k9
  clear r9 k9 HGT
  go_wp2_with fail
  refine Calls.mono (uh HBG w9 (uh HK89)) ?_
  rintro e w10 ⟨x10,rfl,r10,k10⟩
  obtain ⟨xa,xn,xc,rfl,_⟩:=id r10
  have HR10:=hide r10
  have HV10:=hide ((uh HR9).old k10 (by simp))
  have HK810:=hide ((uh HK89).trans k10 (by simp))
  clear r10 k10 HBG HR9 HK89
  go_wp2_with fail
  refine Calls.mono (xa1p _ _ Y Y w10 (uh HV10) (uh HR10)) ?_
  rintro e w11 ⟨rfl,hw11⟩
  rw [decide_eq_true rfl]
  subst hw11
  clear HV10 HR10
  go_wp2_with fail
  have HM11:=hide ((uh HM8).kept (uh HK810))
  have HK11:=hide ((uh HK8).trans (uh HK810) (by simp))
  refine Calls.mono (xb1v _ k _ L w11 (uh HM11).m) ?_
  rintro e w12 ⟨pv2,pl,rfl,hlay,k12⟩
  have hrk:=hlay.rdKM
  obtain ⟨po,pn2,pc2,ks,us,rfl,hpn2,hpc,hpc9,hprd,hpcl⟩:=id hrk
  have hnp:pn2 = nb:=by rw [← hpn2]; exact uh HLB
  subst hnp
  have HK12:=hide ((uh HK11).trans k12 (by simp))
  have HK812:=hide ((uh HK810).trans k12 (by simp))
  have HPRD:=hide hprd
  have HPCL:=hide hpcl
  have HRK:=hide hrk
  have HC12:=hide (((uh HK58).trans (uh HK812) (by simp)).cell (show w5.cell? ⟨gb,0,none⟩ = some (.slice ao pn2 cap) by rw [cell_of_row _ _ 0 _ _ _ (uh HM5).b.hd,uh HLN]; rfl) (by simp))
  clear hlay hrk hprd hpcl hpn2 k12 HM11 HK11 HK810
  have hc12:=uh HC12
  go_wp2_with fail
  refine Calls.mono (xa8y k hk _ L w12 (uh HRK) (uh HM8).m.srt (uh HM8).m.fit (by rw [uh HLB]; omega) ((uh HT).k (uh HK12))) ?_
  rintro e w13 ⟨rfl,k13⟩
  have HK13:=hide ((uh HK12).trans k13 (by simp))
  have HK813:=hide ((uh HK812).trans k13 (by simp))
  have HPR13:=hide (fun i (hi:i < pn2)=>(⟨(uh HPRD i hi).1.old k13 (by simp),(uh HPRD i hi).2.old k13 (by simp)⟩:Rd w13 (ks.getD i undef) (L.getD i ([],[])).1∧Rd w13 (us.getD i undef) (L.getD i ([],[])).2))
  have HPC13:=hide (fun h0:0 < pn2=>(by
    obtain ⟨b9,o9,h1,h2⟩:=uh HPCL h0
    exact ⟨b9,o9,h1,fun i hi=>⟨k13.cell (h2 i hi).1 (by simp),k13.cell (h2 i hi).2 (by simp)⟩⟩:∃ b off,po = some ⟨b,off,none⟩∧∀ i,i < pn2→w13.cell? ⟨b,off + i * 2,none⟩ = some (ks.getD i undef)∧w13.cell? ⟨b,off + i * 2 + 1,none⟩ = some (us.getD i undef)))
  clear k13 HPRD HPCL HRK HK12 HK812 hc12 HC12
  go_wp2_with fail
  refine Calls.mono (xb4g (fun _=>True) k w13 hk (fun _ _=>trivial)) ?_
  rintro e w14 ⟨m14,rfl,hm14,k14⟩
  obtain ⟨g14,rfl⟩:=xa2s hm14
  have HM14:=hide hm14
  have HK1314:=hide k14
  have hwi:IntKind.i64.wrap ((pn2:Int) - 1) = (pn2:Int) - 1:=by simp [IntKind.wrap,IntKind.signed,IntKind.bits]; omega
  clear hm14 k14
  go_wp2_with fail
  go_loopw [20,22] (fun t20 t22 wr=>∃ (z:Int) (j ga:Nat),t22 = .int .i64 z∧t20 = .pointer (some ⟨ga,0,none⟩)∧z + 1 = j∧j≤pn2∧Hid (MapAt (fun _=>True) k wr (.pointer (some ⟨ga,0,none⟩)) (insAll (hsZ k) [] (L.drop j).reverse))∧Hid (Kept [] w13 wr)) (fun _ t _=>(intOf t + 1).toNat)
  case atStart =>
    refine ⟨(pn2:Int) - 1,pn2,g14,rfl,rfl,by omega,Nat.le_refl _,?_,HK1314⟩
    rw [List.drop_of_length_le (by rw [uh HLB]; exact Nat.le_refl _)]
    exact HM14
  case round =>
    clear HM14 HK1314 hwi
    obtain ⟨z,j,ga,rfl,rfl,hz,hj,HMr,HKr⟩:=hrel
    cases j with
    | zero =>
      have hz1:z = -1:=by omega
      subst hz1
      go_wp2_with fail
      have e0:insAll (hsZ k) [] (L.drop 0).reverse = L:=by rw [List.drop_zero]; exact xb5l (uh HM8).m.srt
      have HMA:=hide (by have h9:=uh HMr; rw [e0] at h9; exact h9:MapAt (fun _=>True) k wr (.pointer (some ⟨ga,0,none⟩)) L)
      have HKwr:=hide ((uh HK13).trans (uh HKr) (by simp))
      have HK8r:=hide ((uh HK813).trans (uh HKr) (by simp))
      have HK7r:=hide ((uh HK78).trans (uh HK8r) (by simp))
      have HMW:=hide ((uh HM8).kept (uh HK8r))
      have HRO:=hide (fun (W:World) (hW:Kept [] wr W)=>xa3n (fun _=>True) k _ L W ((uh HMA).agr (Agr.nil hW)) ((uh HT).k ((uh HKwr).trans hW (by simp))))
      rw [uh HRL] at HRO
      have HEQ:=hide (fun W:World=>(by have h9:=dig_eq W RL RL hrl hrl; rw [decide_eq_true rfl] at h9; exact h9:(Op.equalIn 10000 36 (.agg (brow RL)) (.agg (brow RL))).run Tryd.prog W = .ok true W))
      clear e0 HMr
      go_upto_region 26 with fail
      refine xa8d [176,177,178,179] (by kernel_rfl) (by kernel_rfl) rfl (by kernel_rfl) (by kernel_rfl) [(fun v _=>v = .pointer (some ⟨ga,0,none⟩)),(fun v _=>v = .agg (brow RL)),(fun v _=>v = .agg (brow RL)),(fun v _=>v = .bool false)] ?_ ?_ ?_
      · exact stL_c (stL_c (stL_c (stL_c (trivial))))
      · refine DagYK.cons (fun b W hS hfr hf=>?_) ?_
        · have q20:b.eval (.tmp 20) = .pointer (some ⟨ga,0,none⟩):=(hfr 20 (by decide)).trans rfl
          exact .inl ⟨xa0a rfl,ChL.op (.pointer (some ⟨ga,0,none⟩)) (by unfold execOp; simp only [List.map_toArray,List.map_cons,List.map_nil,q20]; go_simp) hS rfl (ChL.fin ⟨_,rfl,Kept.refl [] W,rfl⟩)⟩
        refine DagYK.cons (fun b W hS hfr hf=>?_) ?_
        · have q176:b.eval (.tmp 176) = .pointer (some ⟨ga,0,none⟩):=hf 0 176 rfl (by kernel_rfl)
          refine .inl ⟨xa0a rfl,ChL.call rfl Tryd.call7 [.pointer (some ⟨ga,0,none⟩)] (by show [b.eval (.tmp 176)] = _; simp only [q176]) (uh HRO W hS) (fun e w9 h9=>⟨_,h9.1,hS.trans h9.2 (by simp),ChL.fin ⟨_,rfl,h9.2,rfl⟩⟩)⟩
        refine DagYK.cons (fun b W hS hfr hf=>?_) ?_
        · have q12:b.eval (.tmp 12) = .pointer (some ⟨gr,0,none⟩):=(hfr 12 (by decide)).trans rfl
          exact .inl ⟨xa0a rfl,ChL.op (.agg (brow RL)) (xa4q 36 (.tmp 12) rfl gr 0 q12 (RL.map u8) _ (((uh HK7r).trans (hS) (by simp)).rng (uh HRG) (by simp)) Tryd.underlying36 rfl (by rw [List.length_map,hrl]; exact Tryd.size_dig)) hS rfl (ChL.fin ⟨_,rfl,Kept.refl [] W,rfl⟩)⟩
        refine DagYK.cons (fun b W hS hfr hf=>?_) ?_
        · have q177:b.eval (.tmp 177) = .agg (brow RL):=hf 1 177 rfl (by kernel_rfl)
          have q178:b.eval (.tmp 178) = .agg (brow RL):=hf 2 178 rfl (by kernel_rfl)
          exact .inl ⟨xa0a rfl,ChL.op (.bool false) (xb3y 36 (.tmp 177) (.tmp 178) _ rfl (brow RL) (brow RL) q177 q178 W true (by kernel_rfl) (uh HEQ W)) hS rfl (ChL.fin ⟨_,rfl,Kept.refl [] W,rfl⟩)⟩
        exact DagYK.nil
      intro gz ws hS_ws hf
      have e179:gz 179 = .bool false:=hf 3 179 rfl
      simp only [List.foldl_cons,List.foldl_nil,Act.put,sa1,sa2,sa3]
      rw [e179]
      clear hf e179
      have HKrs:=hide hS_ws
      have HMs:=hide ((uh HMW).kept hS_ws)
      have HKws:=hide ((uh HKwr).trans hS_ws (by simp))
      have HKVs:=hide ((uh HKV).old ((uh HK8r).trans hS_ws (by simp)) (by simp))
      clear hS_ws HRO HMA HMW
      have HB7:=hide (heap_alloc_new ws (.cells anC 5 (7,8)))
      have ka7:=(Kept.refl [] ws).alloc (.cells anC 5 (7,8))
      have hr7:=xa7r (n:=7) anB (uh HB7) rfl (by intro y hy; simp [anB] at hy; omega) rfl (by decide)
      obtain ⟨wt,hwt⟩:∃ wt,ws.alloc (.cells anC 5 (7,8)) = wt:=⟨_,rfl⟩
      rw [hwt] at ka7 hr7
      have HKt:=hide ((uh HKws).trans ka7 (by simp))
      have HMt:=hide ((uh HMs).kept ka7)
      have HKVt:=hide ((uh HKVs).old ka7 (by simp))
      have HKst:=hide ka7
      have HR7:=hide hr7
      clear ka7 hr7 HB7 HMs
      go_upto_region 28 with fail
      go_wp2_with fail
      try (rw [show (.cells #[.int .u8 97,.int .u8 110,.int .u8 111,.int .u8 116,.int .u8 104,.int .u8 101,.int .u8 114] 5 (7,8):Obj) = .cells anC 5 (7,8) from rfl])
      rw [hwt]
      clear hwt
      refine Calls.mono (xb0i _ k _ _ _ L qk anB wt (uh HMt).m (uh HKVt) (uh HR7) (uh HQ) (by decide) (by rw [uh HLB]; omega) (fun y hy=>(uh HMt).b.new y hy) ((uh HT).k (uh HKt))) ?_
      rintro e wu ⟨mu,rfl,hmu,ku⟩
      obtain ⟨gm,rfl⟩:=xa2s hmu
      have HKu:=hide ((uh HKt).trans ku (by simp))
      have HMu:=hide ((uh HMt).kept ku)
      have HMO:=hide hmu
      have HKVu:=hide ((uh HKVt).old ku (by simp))
      have HKsu:=hide ((uh HKst).trans ku (by simp))
      clear hmu ku HMt HKVt HKVs HKws HR7
      go_wp2_with fail
      refine Calls.mono (xa3l _ k _ _ L qk wu (uh HMu).m (uh HKVu) (uh HQ) (fun y hy=>(uh HMu).b.new y hy) ((uh HT).k (uh HKu))) ?_
      rintro e wv ⟨mv,rfl,hmv,kv⟩
      obtain ⟨gd,rfl⟩:=xa2s hmv
      obtain ⟨FD,hFD⟩:∃ FD,fnd qk L = FD:=⟨_,rfl⟩
      rw [hFD]
      clear hFD
      have HKv:=hide ((uh HKu).trans kv (by simp))
      have HMv:=hide ((uh HMu).kept kv)
      have HMOv:=hide ((uh HMO).agr (Agr.nil kv))
      have HMD:=hide hmv
      have HKVv:=hide ((uh HKVu).old kv (by simp))
      have HKsv:=hide ((uh HKsu).trans kv (by simp))
      have HK7v:=hide ((uh HK7r).trans ((uh HKrs).trans (uh HKsv) (by simp)) (by simp))
      clear kv hmv HMu HMO HKVu HKsu HK7r HKst
      have HK7r:=HK7v
      have HROv:=hide (fun (W:World) (hW:Kept [] wv W)=>xa3n _ k _ L W ((uh HMv).kept hW).m ((uh HT).k ((uh HKv).trans hW (by simp))))
      have HLNv:=hide (fun (W:World) (hW:Kept [] wv W)=>xa6m _ k _ L W ((uh HMv).kept hW).m)
      rw [uh HRL] at HROv
      rw [uh HLB] at HLNv
      go_upto_region 30 with fail
      refine xa8d [195,196,197,198,199,200,201,202,203,204,205,206,207,208,209,210,211,212,213,214,215,216,217,218,219,220,221] (by kernel_rfl) (by kernel_rfl) rfl (by kernel_rfl) (by kernel_rfl) [(fun v _=>v = .int .i64 0),(fun v _=>v = .bool false),(fun v _=>v = .bool false),(fun v _=>v = .int .i64 0),(fun v _=>v = .bool false),(fun v _=>v = .bool false),(fun v _=>v = .bool false),(fun v _=>v = .pointer (some ⟨gm,0,none⟩)),(fun v _=>v = .bool false),(fun v _=>v = .bool false),(fun v _=>v = .bool false),(fun v _=>v = .pointer (some ⟨gd,0,none⟩)),(fun v _=>v = .bool false),(fun v _=>v = .bool false),(fun v _=>v = .bool false),(fun v _=>v = .pointer (some ⟨g,0,none⟩)),(fun v _=>v = .agg (brow RL)),(fun v _=>v = .agg (brow RL)),(fun v _=>v = .bool false),(fun v _=>v = .bool false),(fun v _=>v = .bool false),(fun v _=>v = .pointer (some ⟨g,0,none⟩)),(fun v _=>v = .int .i64 pn2),(fun v _=>v = .slice po pn2 pc2),(fun v _=>v = .int .i64 pn2),(fun v _=>v = .bool false),(fun v _=>v = .bool false)] ?_ ?_ ?_
      · exact stL_c (stL_c (stL_c (stL_c (stL_c (stL_c (stL_c (stL_c (stL_c (stL_c (stL_c (stL_c (stL_c (stL_c (stL_c (stL_c (stL_c (stL_c (stL_c (stL_c (stL_c (stL_c (stL_c (stL_c (stL_c (stL_c (stL_c (trivial)))))))))))))))))))))))))))
      · refine DagYK.cons (fun b W hS hfr hf=>?_) ?_
        · have q28:b.eval (.tmp 28) = .int .i64 0:=(hfr 28 (by decide)).trans rfl
          exact .inl ⟨xa0a rfl,ChL.op (.int .i64 0) (by unfold execOp; simp only [List.map_toArray,List.map_cons,List.map_nil,q28]; go_simp) hS rfl (ChL.fin ⟨_,rfl,Kept.refl [] W,rfl⟩)⟩
        refine DagYK.cons (fun b W hS hfr hf=>?_) ?_
        · have q195:b.eval (.tmp 195) = .int .i64 0:=hf 0 195 rfl (by kernel_rfl)
          exact .inl ⟨xa0a rfl,ChL.op (.bool false) (by unfold execOp; simp only [List.map_toArray,List.map_cons,List.map_nil,q195]; go_simp) hS rfl (ChL.fin ⟨_,rfl,Kept.refl [] W,rfl⟩)⟩
        refine DagYK.cons (fun b W hS hfr hf=>?_) ?_
        · have q196:b.eval (.tmp 196) = .bool false:=hf 1 196 rfl (by kernel_rfl)
          exact .inl ⟨xa0a rfl,ChL.op (.bool false) (by unfold execOp; simp only [List.map_toArray,List.map_cons,List.map_nil,q196]; go_simp) hS rfl (ChL.fin ⟨_,rfl,Kept.refl [] W,rfl⟩)⟩
        refine DagYK.cons (fun b W hS hfr hf=>?_) ?_
        · have q31:b.eval (.tmp 31) = .int .i64 0:=(hfr 31 (by decide)).trans rfl
          have g197:b.eval (.tmp 197) = .bool false:=hf 2 197 rfl (by kernel_rfl)
          exact .inl ⟨(xa0c (j:=2) (s:=197) (want:=false) (b:=false) rfl rfl g197).trans rfl,ChL.op (.int .i64 0) (by unfold execOp; simp only [List.map_toArray,List.map_cons,List.map_nil,q31]; go_simp) hS rfl (ChL.fin ⟨_,rfl,Kept.refl [] W,rfl⟩)⟩
        refine DagYK.cons (fun b W hS hfr hf=>?_) ?_
        · have q198:b.eval (.tmp 198) = .int .i64 0:=hf 3 198 rfl (by kernel_rfl)
          have g197:b.eval (.tmp 197) = .bool false:=hf 2 197 rfl (by kernel_rfl)
          exact .inl ⟨(xa0c (j:=2) (s:=197) (want:=false) (b:=false) rfl rfl g197).trans rfl,ChL.op (.bool false) (by unfold execOp; simp only [List.map_toArray,List.map_cons,List.map_nil,q198]; go_simp) hS rfl (ChL.fin ⟨_,rfl,Kept.refl [] W,rfl⟩)⟩
        refine DagYK.cons (fun b W hS hfr hf=>?_) ?_
        · have q197:b.eval (.tmp 197) = .bool false:=hf 2 197 rfl (by kernel_rfl)
          have q199:b.eval (.tmp 199) = .bool false:=hf 4 199 rfl (by kernel_rfl)
          exact .inl ⟨xa0a rfl,ChL.op (.bool false) (by unfold execOp; simp only [List.map_toArray,List.map_cons,List.map_nil,q197,q199]; go_simp) hS rfl (ChL.fin ⟨_,rfl,Kept.refl [] W,rfl⟩)⟩
        refine DagYK.cons (fun b W hS hfr hf=>?_) ?_
        · have q200:b.eval (.tmp 200) = .bool false:=hf 5 200 rfl (by kernel_rfl)
          exact .inl ⟨xa0a rfl,ChL.op (.bool false) (by unfold execOp; simp only [List.map_toArray,List.map_cons,List.map_nil,q200]; go_simp) hS rfl (ChL.fin ⟨_,rfl,Kept.refl [] W,rfl⟩)⟩
        refine DagYK.cons (fun b W hS hfr hf=>?_) ?_
        · have q27:b.eval (.tmp 27) = .pointer (some ⟨gm,0,none⟩):=(hfr 27 (by decide)).trans rfl
          have g201:b.eval (.tmp 201) = .bool false:=hf 6 201 rfl (by kernel_rfl)
          exact .inl ⟨(xa0c (j:=6) (s:=201) (want:=false) (b:=false) rfl rfl g201).trans rfl,ChL.op (.pointer (some ⟨gm,0,none⟩)) (by unfold execOp; simp only [List.map_toArray,List.map_cons,List.map_nil,q27]; go_simp) hS rfl (ChL.fin ⟨_,rfl,Kept.refl [] W,rfl⟩)⟩
        refine DagYK.cons (fun b W hS hfr hf=>?_) ?_
        · have q202:b.eval (.tmp 202) = .pointer (some ⟨gm,0,none⟩):=hf 7 202 rfl (by kernel_rfl)
          have g201:b.eval (.tmp 201) = .bool false:=hf 6 201 rfl (by kernel_rfl)
          exact .inl ⟨(xa0c (j:=6) (s:=201) (want:=false) (b:=false) rfl rfl g201).trans rfl,ChL.op (.bool false) (by unfold execOp; simp only [List.map_toArray,List.map_cons,List.map_nil,q202]; go_simp) hS rfl (ChL.fin ⟨_,rfl,Kept.refl [] W,rfl⟩)⟩
        refine DagYK.cons (fun b W hS hfr hf=>?_) ?_
        · have q201:b.eval (.tmp 201) = .bool false:=hf 6 201 rfl (by kernel_rfl)
          have q203:b.eval (.tmp 203) = .bool false:=hf 8 203 rfl (by kernel_rfl)
          exact .inl ⟨xa0a rfl,ChL.op (.bool false) (by unfold execOp; simp only [List.map_toArray,List.map_cons,List.map_nil,q201,q203]; go_simp) hS rfl (ChL.fin ⟨_,rfl,Kept.refl [] W,rfl⟩)⟩
        refine DagYK.cons (fun b W hS hfr hf=>?_) ?_
        · have q204:b.eval (.tmp 204) = .bool false:=hf 9 204 rfl (by kernel_rfl)
          exact .inl ⟨xa0a rfl,ChL.op (.bool false) (by unfold execOp; simp only [List.map_toArray,List.map_cons,List.map_nil,q204]; go_simp) hS rfl (ChL.fin ⟨_,rfl,Kept.refl [] W,rfl⟩)⟩
        refine DagYK.cons (fun b W hS hfr hf=>?_) ?_
        · have q29:b.eval (.tmp 29) = .pointer (some ⟨gd,0,none⟩):=(hfr 29 (by decide)).trans rfl
          have g205:b.eval (.tmp 205) = .bool false:=hf 10 205 rfl (by kernel_rfl)
          exact .inl ⟨(xa0c (j:=10) (s:=205) (want:=false) (b:=false) rfl rfl g205).trans rfl,ChL.op (.pointer (some ⟨gd,0,none⟩)) (by unfold execOp; simp only [List.map_toArray,List.map_cons,List.map_nil,q29]; go_simp) hS rfl (ChL.fin ⟨_,rfl,Kept.refl [] W,rfl⟩)⟩
        refine DagYK.cons (fun b W hS hfr hf=>?_) ?_
        · have q206:b.eval (.tmp 206) = .pointer (some ⟨gd,0,none⟩):=hf 11 206 rfl (by kernel_rfl)
          have g205:b.eval (.tmp 205) = .bool false:=hf 10 205 rfl (by kernel_rfl)
          exact .inl ⟨(xa0c (j:=10) (s:=205) (want:=false) (b:=false) rfl rfl g205).trans rfl,ChL.op (.bool false) (by unfold execOp; simp only [List.map_toArray,List.map_cons,List.map_nil,q206]; go_simp) hS rfl (ChL.fin ⟨_,rfl,Kept.refl [] W,rfl⟩)⟩
        refine DagYK.cons (fun b W hS hfr hf=>?_) ?_
        · have q205:b.eval (.tmp 205) = .bool false:=hf 10 205 rfl (by kernel_rfl)
          have q207:b.eval (.tmp 207) = .bool false:=hf 12 207 rfl (by kernel_rfl)
          exact .inl ⟨xa0a rfl,ChL.op (.bool false) (by unfold execOp; simp only [List.map_toArray,List.map_cons,List.map_nil,q205,q207]; go_simp) hS rfl (ChL.fin ⟨_,rfl,Kept.refl [] W,rfl⟩)⟩
        refine DagYK.cons (fun b W hS hfr hf=>?_) ?_
        · have q208:b.eval (.tmp 208) = .bool false:=hf 13 208 rfl (by kernel_rfl)
          exact .inl ⟨xa0a rfl,ChL.op (.bool false) (by unfold execOp; simp only [List.map_toArray,List.map_cons,List.map_nil,q208]; go_simp) hS rfl (ChL.fin ⟨_,rfl,Kept.refl [] W,rfl⟩)⟩
        refine DagYK.cons (fun b W hS hfr hf=>?_) ?_
        · have q10:b.eval (.tmp 10) = .pointer (some ⟨g,0,none⟩):=(hfr 10 (by decide)).trans rfl
          have g209:b.eval (.tmp 209) = .bool false:=hf 14 209 rfl (by kernel_rfl)
          exact .inl ⟨(xa0c (j:=14) (s:=209) (want:=false) (b:=false) rfl rfl g209).trans rfl,ChL.op (.pointer (some ⟨g,0,none⟩)) (by unfold execOp; simp only [List.map_toArray,List.map_cons,List.map_nil,q10]; go_simp) hS rfl (ChL.fin ⟨_,rfl,Kept.refl [] W,rfl⟩)⟩
        refine DagYK.cons (fun b W hS hfr hf=>?_) ?_
        · have q210:b.eval (.tmp 210) = .pointer (some ⟨g,0,none⟩):=hf 15 210 rfl (by kernel_rfl)
          have g209:b.eval (.tmp 209) = .bool false:=hf 14 209 rfl (by kernel_rfl)
          refine .inl ⟨(xa0c (j:=14) (s:=209) (want:=false) (b:=false) rfl rfl g209).trans rfl,ChL.call rfl Tryd.call7 [.pointer (some ⟨g,0,none⟩)] (by show [b.eval (.tmp 210)] = _; simp only [q210]) (uh HROv W hS) (fun e w9 h9=>⟨_,h9.1,hS.trans h9.2 (by simp),ChL.fin ⟨_,rfl,h9.2,rfl⟩⟩)⟩
        refine DagYK.cons (fun b W hS hfr hf=>?_) ?_
        · have q12:b.eval (.tmp 12) = .pointer (some ⟨gr,0,none⟩):=(hfr 12 (by decide)).trans rfl
          have g209:b.eval (.tmp 209) = .bool false:=hf 14 209 rfl (by kernel_rfl)
          exact .inl ⟨(xa0c (j:=14) (s:=209) (want:=false) (b:=false) rfl rfl g209).trans rfl,ChL.op (.agg (brow RL)) (xa4q 36 (.tmp 12) rfl gr 0 q12 (RL.map u8) _ (((uh HK7r).trans (hS) (by simp)).rng (uh HRG) (by simp)) Tryd.underlying36 rfl (by rw [List.length_map,hrl]; exact Tryd.size_dig)) hS rfl (ChL.fin ⟨_,rfl,Kept.refl [] W,rfl⟩)⟩
        refine DagYK.cons (fun b W hS hfr hf=>?_) ?_
        · have q211:b.eval (.tmp 211) = .agg (brow RL):=hf 16 211 rfl (by kernel_rfl)
          have q212:b.eval (.tmp 212) = .agg (brow RL):=hf 17 212 rfl (by kernel_rfl)
          have g209:b.eval (.tmp 209) = .bool false:=hf 14 209 rfl (by kernel_rfl)
          exact .inl ⟨(xa0c (j:=14) (s:=209) (want:=false) (b:=false) rfl rfl g209).trans rfl,ChL.op (.bool false) (xb3y 36 (.tmp 211) (.tmp 212) _ rfl (brow RL) (brow RL) q211 q212 W true (by kernel_rfl) (uh HEQ W)) hS rfl (ChL.fin ⟨_,rfl,Kept.refl [] W,rfl⟩)⟩
        refine DagYK.cons (fun b W hS hfr hf=>?_) ?_
        · have q209:b.eval (.tmp 209) = .bool false:=hf 14 209 rfl (by kernel_rfl)
          have q213:b.eval (.tmp 213) = .bool false:=hf 18 213 rfl (by kernel_rfl)
          exact .inl ⟨xa0a rfl,ChL.op (.bool false) (by unfold execOp; simp only [List.map_toArray,List.map_cons,List.map_nil,q209,q213]; go_simp) hS rfl (ChL.fin ⟨_,rfl,Kept.refl [] W,rfl⟩)⟩
        refine DagYK.cons (fun b W hS hfr hf=>?_) ?_
        · have q214:b.eval (.tmp 214) = .bool false:=hf 19 214 rfl (by kernel_rfl)
          exact .inl ⟨xa0a rfl,ChL.op (.bool false) (by unfold execOp; simp only [List.map_toArray,List.map_cons,List.map_nil,q214]; go_simp) hS rfl (ChL.fin ⟨_,rfl,Kept.refl [] W,rfl⟩)⟩
        refine DagYK.cons (fun b W hS hfr hf=>?_) ?_
        · have q10:b.eval (.tmp 10) = .pointer (some ⟨g,0,none⟩):=(hfr 10 (by decide)).trans rfl
          have g215:b.eval (.tmp 215) = .bool false:=hf 20 215 rfl (by kernel_rfl)
          exact .inl ⟨(xa0c (j:=20) (s:=215) (want:=false) (b:=false) rfl rfl g215).trans rfl,ChL.op (.pointer (some ⟨g,0,none⟩)) (by unfold execOp; simp only [List.map_toArray,List.map_cons,List.map_nil,q10]; go_simp) hS rfl (ChL.fin ⟨_,rfl,Kept.refl [] W,rfl⟩)⟩
        refine DagYK.cons (fun b W hS hfr hf=>?_) ?_
        · have q216:b.eval (.tmp 216) = .pointer (some ⟨g,0,none⟩):=hf 21 216 rfl (by kernel_rfl)
          have g215:b.eval (.tmp 215) = .bool false:=hf 20 215 rfl (by kernel_rfl)
          refine .inl ⟨(xa0c (j:=20) (s:=215) (want:=false) (b:=false) rfl rfl g215).trans rfl,ChL.call rfl Tryd.call6 [.pointer (some ⟨g,0,none⟩)] (by show [b.eval (.tmp 216)] = _; simp only [q216]) (uh HLNv W hS) (fun e w9 h9=>⟨_,h9.1,hS.trans h9.2 (by simp),ChL.fin ⟨_,rfl,h9.2,rfl⟩⟩)⟩
        refine DagYK.cons (fun b W hS hfr hf=>?_) ?_
        · have q19:b.eval (.tmp 19) = .slice po pn2 pc2:=(hfr 19 (by decide)).trans rfl
          have g215:b.eval (.tmp 215) = .bool false:=hf 20 215 rfl (by kernel_rfl)
          exact .inl ⟨(xa0c (j:=20) (s:=215) (want:=false) (b:=false) rfl rfl g215).trans rfl,ChL.op (.slice po pn2 pc2) (by unfold execOp; simp only [List.map_toArray,List.map_cons,List.map_nil,q19]; go_simp) hS rfl (ChL.fin ⟨_,rfl,Kept.refl [] W,rfl⟩)⟩
        refine DagYK.cons (fun b W hS hfr hf=>?_) ?_
        · have q218:b.eval (.tmp 218) = .slice po pn2 pc2:=hf 23 218 rfl (by kernel_rfl)
          have g215:b.eval (.tmp 215) = .bool false:=hf 20 215 rfl (by kernel_rfl)
          have r218:b.tmps[218]?.getD undef = .slice po pn2 pc2:=by simpa [Act.eval] using q218
          exact .inl ⟨(xa0c (j:=20) (s:=215) (want:=false) (b:=false) rfl rfl g215).trans rfl,ChL.op (.int .i64 pn2) (by unfold execOp; simp only [List.map_toArray,List.map_cons,List.map_nil,q218]; go_simp) hS rfl (ChL.fin ⟨_,rfl,Kept.refl [] W,rfl⟩)⟩
        refine DagYK.cons (fun b W hS hfr hf=>?_) ?_
        · have q217:b.eval (.tmp 217) = .int .i64 pn2:=hf 22 217 rfl (by kernel_rfl)
          have q219:b.eval (.tmp 219) = .int .i64 pn2:=hf 24 219 rfl (by kernel_rfl)
          have g215:b.eval (.tmp 215) = .bool false:=hf 20 215 rfl (by kernel_rfl)
          exact .inl ⟨(xa0c (j:=20) (s:=215) (want:=false) (b:=false) rfl rfl g215).trans rfl,ChL.op (.bool false) (by unfold execOp; simp only [List.map_toArray,List.map_cons,List.map_nil,q217,q219]; go_simp) hS rfl (ChL.fin ⟨_,rfl,Kept.refl [] W,rfl⟩)⟩
        refine DagYK.cons (fun b W hS hfr hf=>?_) ?_
        · have q215:b.eval (.tmp 215) = .bool false:=hf 20 215 rfl (by kernel_rfl)
          have q220:b.eval (.tmp 220) = .bool false:=hf 25 220 rfl (by kernel_rfl)
          exact .inl ⟨xa0a rfl,ChL.op (.bool false) (by unfold execOp; simp only [List.map_toArray,List.map_cons,List.map_nil,q215,q220]; go_simp) hS rfl (ChL.fin ⟨_,rfl,Kept.refl [] W,rfl⟩)⟩
        exact DagYK.nil
      intro gz wx hS_wx hf
      have e221:gz 221 = .bool false:=hf 26 221 rfl
      simp only [List.foldl_cons,List.foldl_nil,Act.put,sa1,sa2,sa3]
      rw [e221]
      clear hf e221
      have HKx:=hide ((uh HKv).trans hS_wx (by simp))
      have HMOx:=hide ((uh HMOv).agr (Agr.nil hS_wx))
      have HMDx:=hide ((uh HMD).agr (Agr.nil hS_wx))
      have HKVx:=hide ((uh HKVv).old hS_wx (by simp))
      have HNW:=hide (fun y (hy:wx.heap.size≤y)=>((uh HMv).kept hS_wx).b.new y hy)
      have HK7x:=hide ((uh HK7r).trans hS_wx (by simp))
      clear hS_wx HMv HMOv HMD HKVv HKv HROv HLNv HK7r HK7v
      have hgn:getP qk (insP (hsZ k) qk anB L) = some anB:=by rw [xa7p (uh HM8).m.srt,if_pos rfl]
      have HGE:=hide (xb4f _ k _ _ (insP (hsZ k) qk anB L) qk wx (uh HMOx) (uh HKVx) (uh HQ) ((uh HT).k (uh HKx)))
      rw [xb1f,hgn,show (some anB).isSome = true from rfl,show (some anB).getD [] = anB from rfl] at HGE
      clear hgn
      go_wp2_with fail
      refine Calls.mono (uh HGE) ?_
      rintro e wy ⟨vy,rfl,ry,_,ky⟩
      obtain ⟨n1,n2,n3,rfl,_⟩:=id ry
      have HRY:=hide ry
      have HKy:=hide ((uh HKx).trans ky (by simp))
      have HMOy:=hide ((uh HMOx).agr (Agr.nil ky))
      have HMDy:=hide ((uh HMDx).agr (Agr.nil ky))
      have HKVy:=hide ((uh HKVx).old ky (by simp))
      have HNWy:=hide (fun y (hy:wy.heap.size≤y)=>uh HNW y (Nat.le_trans ky.size hy))
      have HK7y:=hide ((uh HK7x).trans ky (by simp))
      clear ry ky HGE HMOx HMDx HKVx HNW HK7x HKx
      go_wp2_with fail
      refine Calls.mono (xa3l _ k _ _ (insP (hsZ k) qk anB L) qk wy (uh HMOy) (uh HKVy) (uh HQ) (uh HNWy) ((uh HT).k (uh HKy))) ?_
      rintro e wz ⟨mz,rfl,hmz,kz⟩
      obtain ⟨gz9,rfl⟩:=xa2s hmz
      rw [xb6a (uh HM8).m.srt] at hmz
      obtain ⟨FE,hFE⟩:∃ FE,fnd qk (insP (hsZ k) qk anB L) = FE:=⟨_,rfl⟩
      rw [hFE]
      clear hFE
      have HKz:=hide ((uh HKy).trans kz (by simp))
      have HMDz:=hide ((uh HMDy).agr (Agr.nil kz))
      have HMBz:=hide hmz
      have HRZ:=hide ((uh HRY).old kz (by simp))
      have HK7r:=hide ((uh HK7y).trans kz (by simp))
      clear hmz kz HMDy HMOy HKVy HNWy HRY HK7y HKy
      obtain ⟨RD,hRD⟩:∃ RD,rootP k (delP qk L) = RD:=⟨_,rfl⟩
      have HDD:=hide (by rw [← hRD]; exact (xa8l hk _).1:RD.length = 32)
      have hdl:=uh HDD
      have HSU:=hide (fun h9:FN = false=>(by rw [← hRD,xb5w (uh HM8).m.srt (by have h8:=uh HFN; rw [h9] at h8; cases hg:getP qk L with | none=>rfl | some v=>rw [hg] at h8; cases h8)]; exact uh HRL:RD = RL))
      have HRB:=hide (fun (W:World) (hW:Kept [] wz W)=>xa3n _ k _ (delP qk L) W ((uh HMBz).agr (Agr.nil hW)) ((uh HT).k ((uh HKz).trans hW (by simp))))
      have HRE:=hide (fun (W:World) (hW:Kept [] wz W)=>xa3n _ k _ (delP qk L) W ((uh HMDz).agr (Agr.nil hW)) ((uh HT).k ((uh HKz).trans hW (by simp))))
      rw [hRD] at HRB HRE
      clear hRD
      have HED:=hide (fun W:World=>(by have h9:=dig_eq W RD RD hdl hdl; rw [decide_eq_true rfl] at h9; exact h9:(Op.equalIn 10000 36 (.agg (brow RD)) (.agg (brow RD))).run Tryd.prog W = .ok true W))
      go_upto_region 34 with fail
      cases FN with
      | true =>
        refine xb3u [236,237,238,239,240,241,242,243,244,245,246,247,248,249,250,251,252,253,254,255,256,257,258,259,260,261,262,263,264,265,266,6] 7 8 (by kernel_rfl) (by kernel_rfl) rfl (by kernel_rfl) (by kernel_rfl) [(fun v _=>v = .int .i64 0),(fun v _=>v = .bool true),(fun v _=>v = .bool true),(fun v _=>v = .bool true),(fun v _=>v = .bool true),(fun v _=>v = .bool true),(fun v _=>v = .slice n1 n2 n3),(fun v W=>∃ g9,v = .slice (some ⟨g9,0,none⟩) 7 7∧wz.heap.size≤g9∧W.heap[g9]? = some (.cells anC 5 (0,0))),(fun v W=>∃ g9,v = .slice (some ⟨g9,0,none⟩) 7 7∧Rd W v anB),(fun v _=>v = .bool true),(fun v _=>v = .bool true),(fun v _=>v = .bool true),(fun v _=>v = .int .i64 0),(fun v _=>v = .bool true),(fun v _=>v = .bool true),(fun v _=>v = .bool true),(fun v _=>v = .pointer (some ⟨gz9,0,none⟩)),(fun v _=>v = .agg (brow RD)),(fun v _=>v = .pointer (some ⟨gd,0,none⟩)),(fun v _=>v = .agg (brow RD)),(fun v _=>v = .bool true),(fun v _=>v = .bool true),(fun v _=>v = .bool true),(fun v _=>v = .bool true),(fun v _=>v = .bool true),(fun v _=>v = undef),(fun v _=>v = undef),(fun v _=>v = undef),(fun v _=>v = undef),(fun v _=>v = .bool true),(fun v _=>v = .bool true),(fun v _=>v = .bool true)] ?_ ?_ ?_
        · exact stU_c (stU_c (stU_c (stU_c (stU_c (stU_c (stU_c (stU_f (fun v W W2 k9 ⟨g9,e9,l9,h9⟩=>⟨g9,e9,l9,k9.heap h9 (by simp)⟩) (by decide) (stU_f (fun v W W2 k9 ⟨g9,e9,h9⟩=>⟨g9,e9,h9.old k9 (by simp)⟩) (by decide) (stU_c (stU_c (stU_c (stU_c (stU_c (stU_c (stU_c (stU_c (stU_c (stU_c (stU_c (stU_c (stU_c (stU_c (stU_c (stU_c (stU_c (stU_c (stU_c (stU_c (stU_c (stU_c (stU_c (trivial))))))))))))))))))))))))))))))))
        · refine DagYU.consK (by decide) (fun b W hS hfr hf=>?_) ?_
          · have q34:b.eval (.tmp 34) = .int .i64 0:=(hfr 34 (by decide)).trans rfl
            exact .inl ⟨xa0a rfl,ChL.op (.int .i64 0) (by unfold execOp; simp only [List.map_toArray,List.map_cons,List.map_nil,q34]; go_simp) hS rfl (ChL.fin ⟨_,rfl,Kept.refl [] W,rfl⟩)⟩
          refine DagYU.consK (by decide) (fun b W hS hfr hf=>?_) ?_
          · have q236:b.eval (.tmp 236) = .int .i64 0:=hf 0 236 rfl (by kernel_rfl) (by decide)
            exact .inl ⟨xa0a rfl,ChL.op (.bool true) (by unfold execOp; simp only [List.map_toArray,List.map_cons,List.map_nil,q236]; go_simp) hS rfl (ChL.fin ⟨_,rfl,Kept.refl [] W,rfl⟩)⟩
          refine DagYU.consK (by decide) (fun b W hS hfr hf=>?_) ?_
          · have q237:b.eval (.tmp 237) = .bool true:=hf 1 237 rfl (by kernel_rfl) (by decide)
            exact .inl ⟨xa0a rfl,ChL.op (.bool true) (by unfold execOp; simp only [List.map_toArray,List.map_cons,List.map_nil,q237]; go_simp) hS rfl (ChL.fin ⟨_,rfl,Kept.refl [] W,rfl⟩)⟩
          refine DagYU.consK (by decide) (fun b W hS hfr hf=>?_) ?_
          · have q33:b.eval (.tmp 33) = .bool true:=(hfr 33 (by decide)).trans rfl
            have g238:b.eval (.tmp 238) = .bool true:=hf 2 238 rfl (by kernel_rfl) (by decide)
            exact .inl ⟨(xa0c (j:=2) (s:=238) (want:=true) (b:=true) rfl rfl g238).trans rfl,ChL.op (.bool true) (by unfold execOp; simp only [List.map_toArray,List.map_cons,List.map_nil,q33]; go_simp) hS rfl (ChL.fin ⟨_,rfl,Kept.refl [] W,rfl⟩)⟩
          refine DagYU.consK (by decide) (fun b W hS hfr hf=>?_) ?_
          · have q238:b.eval (.tmp 238) = .bool true:=hf 2 238 rfl (by kernel_rfl) (by decide)
            have q239:b.eval (.tmp 239) = .bool true:=hf 3 239 rfl (by kernel_rfl) (by decide)
            exact .inl ⟨xa0a rfl,ChL.op (.bool true) (by unfold execOp; simp only [List.map_toArray,List.map_cons,List.map_nil,q238,q239]; go_simp) hS rfl (ChL.fin ⟨_,rfl,Kept.refl [] W,rfl⟩)⟩
          refine DagYU.consK (by decide) (fun b W hS hfr hf=>?_) ?_
          · have q240:b.eval (.tmp 240) = .bool true:=hf 4 240 rfl (by kernel_rfl) (by decide)
            exact .inl ⟨xa0a rfl,ChL.op (.bool true) (by unfold execOp; simp only [List.map_toArray,List.map_cons,List.map_nil,q240]; go_simp) hS rfl (ChL.fin ⟨_,rfl,Kept.refl [] W,rfl⟩)⟩
          refine DagYU.consK (by decide) (fun b W hS hfr hf=>?_) ?_
          · have q32:b.eval (.tmp 32) = .slice n1 n2 n3:=(hfr 32 (by decide)).trans rfl
            have g241:b.eval (.tmp 241) = .bool true:=hf 5 241 rfl (by kernel_rfl) (by decide)
            exact .inl ⟨(xa0c (j:=5) (s:=241) (want:=true) (b:=true) rfl rfl g241).trans rfl,ChL.op (.slice n1 n2 n3) (by unfold execOp; simp only [List.map_toArray,List.map_cons,List.map_nil,q32]; go_simp) hS rfl (ChL.fin ⟨_,rfl,Kept.refl [] W,rfl⟩)⟩
          refine DagYU.consK (by decide) (fun b W hS hfr hf=>?_) ?_
          · have g241:b.eval (.tmp 241) = .bool true:=hf 5 241 rfl (by kernel_rfl) (by decide)
            refine .inl ⟨(xa0c (j:=5) (s:=241) (want:=true) (b:=true) rfl rfl g241).trans rfl,ChL.op (.slice (some ⟨W.heap.size,0,none⟩) 7 7) (w':=W.alloc (.cells anC 5)) (by unfold execOp anC; go_simp) (hS.alloc _) rfl (ChL.fin ⟨_,rfl,(Kept.refl [] W).alloc _,W.heap.size,rfl,hS.size,heap_alloc_new W _⟩)⟩
          refine DagYU.cons (fun b W hS hfr hf=>?_) ?_
          · have g241:b.eval (.tmp 241) = .bool true:=hf 5 241 rfl (by kernel_rfl) (.inl rfl)
            obtain ⟨g9,hq,hl9,hg9⟩:=hf 7 243 rfl (by kernel_rfl) (.inr rfl)
            obtain ⟨f1,f2⟩:=xa8e (n:=7) hg9
            have hcv:=xa7q (n:=7) (c:=7) 23 hg9 Tryd.underlying23 Tryd.underlying5
            have hsw:Kept [] wz (W.freeze ⟨g9,7,none⟩ 1):=hS.trans f2 (by simpa using hl9)
            refine .inl ⟨(xa0c (j:=5) (s:=241) (want:=true) (b:=true) rfl rfl g241).trans rfl,ChL.op (.slice (some ⟨g9,0,none⟩) 7 7) (w':=W.freeze ⟨g9,7,none⟩ 1) (by unfold execOp; simp only [hq]; rw [Sem.run_bind,hcv]; rfl) hsw rfl (ChL.fin ⟨_,rfl,⟨g9,hl9,f2⟩,g9,rfl,xa7r (n:=7) anB f1 rfl (by intro y hy; simp [anB] at hy; omega) rfl (by decide)⟩)⟩
          refine DagYU.consK (by decide) (fun b W hS hfr hf=>?_) ?_
          · have g241:b.eval (.tmp 241) = .bool true:=hf 5 241 rfl (by kernel_rfl) (by decide)
            have q242:b.eval (.tmp 242) = .slice n1 n2 n3:=hf 6 242 rfl (by kernel_rfl) (by decide)
            obtain ⟨g9,hq,hr9⟩:=hf 8 244 rfl (by kernel_rfl) (by decide)
            rw [hq] at hr9
            refine .inl ⟨(xa0c (j:=5) (s:=241) (want:=true) (b:=true) rfl rfl g241).trans rfl,ChL.call rfl Tryd.call11 [.slice n1 n2 n3,.slice (some ⟨g9,0,none⟩) 7 7] (by show [b.eval (.tmp 242),b.eval (.tmp 244)] = _; simp only [q242,hq]) (xa1p _ _ anB anB W ((uh HRZ).old hS (by simp)) hr9) (fun e w9 h9=>?_)⟩
            obtain ⟨rfl,rfl⟩:=h9
            exact ⟨_,rfl,hS,ChL.fin ⟨_,by rw [decide_eq_true rfl],Kept.refl [] _,rfl⟩⟩
          refine DagYU.consK (by decide) (fun b W hS hfr hf=>?_) ?_
          · have q241:b.eval (.tmp 241) = .bool true:=hf 5 241 rfl (by kernel_rfl) (by decide)
            have q245:b.eval (.tmp 245) = .bool true:=hf 9 245 rfl (by kernel_rfl) (by decide)
            exact .inl ⟨xa0a rfl,ChL.op (.bool true) (by unfold execOp; simp only [List.map_toArray,List.map_cons,List.map_nil,q241,q245]; go_simp) hS rfl (ChL.fin ⟨_,rfl,Kept.refl [] W,rfl⟩)⟩
          refine DagYU.consK (by decide) (fun b W hS hfr hf=>?_) ?_
          · have q246:b.eval (.tmp 246) = .bool true:=hf 10 246 rfl (by kernel_rfl) (by decide)
            exact .inl ⟨xa0a rfl,ChL.op (.bool true) (by unfold execOp; simp only [List.map_toArray,List.map_cons,List.map_nil,q246]; go_simp) hS rfl (ChL.fin ⟨_,rfl,Kept.refl [] W,rfl⟩)⟩
          refine DagYU.consK (by decide) (fun b W hS hfr hf=>?_) ?_
          · have q37:b.eval (.tmp 37) = .int .i64 0:=(hfr 37 (by decide)).trans rfl
            have g247:b.eval (.tmp 247) = .bool true:=hf 11 247 rfl (by kernel_rfl) (by decide)
            exact .inl ⟨(xa0c (j:=11) (s:=247) (want:=true) (b:=true) rfl rfl g247).trans rfl,ChL.op (.int .i64 0) (by unfold execOp; simp only [List.map_toArray,List.map_cons,List.map_nil,q37]; go_simp) hS rfl (ChL.fin ⟨_,rfl,Kept.refl [] W,rfl⟩)⟩
          refine DagYU.consK (by decide) (fun b W hS hfr hf=>?_) ?_
          · have q248:b.eval (.tmp 248) = .int .i64 0:=hf 12 248 rfl (by kernel_rfl) (by decide)
            have g247:b.eval (.tmp 247) = .bool true:=hf 11 247 rfl (by kernel_rfl) (by decide)
            exact .inl ⟨(xa0c (j:=11) (s:=247) (want:=true) (b:=true) rfl rfl g247).trans rfl,ChL.op (.bool true) (by unfold execOp; simp only [List.map_toArray,List.map_cons,List.map_nil,q248]; go_simp) hS rfl (ChL.fin ⟨_,rfl,Kept.refl [] W,rfl⟩)⟩
          refine DagYU.consK (by decide) (fun b W hS hfr hf=>?_) ?_
          · have q247:b.eval (.tmp 247) = .bool true:=hf 11 247 rfl (by kernel_rfl) (by decide)
            have q249:b.eval (.tmp 249) = .bool true:=hf 13 249 rfl (by kernel_rfl) (by decide)
            exact .inl ⟨xa0a rfl,ChL.op (.bool true) (by unfold execOp; simp only [List.map_toArray,List.map_cons,List.map_nil,q247,q249]; go_simp) hS rfl (ChL.fin ⟨_,rfl,Kept.refl [] W,rfl⟩)⟩
          refine DagYU.consK (by decide) (fun b W hS hfr hf=>?_) ?_
          · have q250:b.eval (.tmp 250) = .bool true:=hf 14 250 rfl (by kernel_rfl) (by decide)
            exact .inl ⟨xa0a rfl,ChL.op (.bool true) (by unfold execOp; simp only [List.map_toArray,List.map_cons,List.map_nil,q250]; go_simp) hS rfl (ChL.fin ⟨_,rfl,Kept.refl [] W,rfl⟩)⟩
          refine DagYU.consK (by decide) (fun b W hS hfr hf=>?_) ?_
          · have q35:b.eval (.tmp 35) = .pointer (some ⟨gz9,0,none⟩):=(hfr 35 (by decide)).trans rfl
            have g251:b.eval (.tmp 251) = .bool true:=hf 15 251 rfl (by kernel_rfl) (by decide)
            exact .inl ⟨(xa0c (j:=15) (s:=251) (want:=true) (b:=true) rfl rfl g251).trans rfl,ChL.op (.pointer (some ⟨gz9,0,none⟩)) (by unfold execOp; simp only [List.map_toArray,List.map_cons,List.map_nil,q35]; go_simp) hS rfl (ChL.fin ⟨_,rfl,Kept.refl [] W,rfl⟩)⟩
          refine DagYU.consK (by decide) (fun b W hS hfr hf=>?_) ?_
          · have q252:b.eval (.tmp 252) = .pointer (some ⟨gz9,0,none⟩):=hf 16 252 rfl (by kernel_rfl) (by decide)
            have g251:b.eval (.tmp 251) = .bool true:=hf 15 251 rfl (by kernel_rfl) (by decide)
            refine .inl ⟨(xa0c (j:=15) (s:=251) (want:=true) (b:=true) rfl rfl g251).trans rfl,ChL.call rfl Tryd.call7 [.pointer (some ⟨gz9,0,none⟩)] (by show [b.eval (.tmp 252)] = _; simp only [q252]) (uh HRB W hS) (fun e w9 h9=>⟨_,h9.1,hS.trans h9.2 (by simp),ChL.fin ⟨_,rfl,h9.2,rfl⟩⟩)⟩
          refine DagYU.consK (by decide) (fun b W hS hfr hf=>?_) ?_
          · have q29:b.eval (.tmp 29) = .pointer (some ⟨gd,0,none⟩):=(hfr 29 (by decide)).trans rfl
            have g251:b.eval (.tmp 251) = .bool true:=hf 15 251 rfl (by kernel_rfl) (by decide)
            exact .inl ⟨(xa0c (j:=15) (s:=251) (want:=true) (b:=true) rfl rfl g251).trans rfl,ChL.op (.pointer (some ⟨gd,0,none⟩)) (by unfold execOp; simp only [List.map_toArray,List.map_cons,List.map_nil,q29]; go_simp) hS rfl (ChL.fin ⟨_,rfl,Kept.refl [] W,rfl⟩)⟩
          refine DagYU.consK (by decide) (fun b W hS hfr hf=>?_) ?_
          · have q254:b.eval (.tmp 254) = .pointer (some ⟨gd,0,none⟩):=hf 18 254 rfl (by kernel_rfl) (by decide)
            have g251:b.eval (.tmp 251) = .bool true:=hf 15 251 rfl (by kernel_rfl) (by decide)
            refine .inl ⟨(xa0c (j:=15) (s:=251) (want:=true) (b:=true) rfl rfl g251).trans rfl,ChL.call rfl Tryd.call7 [.pointer (some ⟨gd,0,none⟩)] (by show [b.eval (.tmp 254)] = _; simp only [q254]) (uh HRE W hS) (fun e w9 h9=>⟨_,h9.1,hS.trans h9.2 (by simp),ChL.fin ⟨_,rfl,h9.2,rfl⟩⟩)⟩
          refine DagYU.consK (by decide) (fun b W hS hfr hf=>?_) ?_
          · have q253:b.eval (.tmp 253) = .agg (brow RD):=hf 17 253 rfl (by kernel_rfl) (by decide)
            have q255:b.eval (.tmp 255) = .agg (brow RD):=hf 19 255 rfl (by kernel_rfl) (by decide)
            have g251:b.eval (.tmp 251) = .bool true:=hf 15 251 rfl (by kernel_rfl) (by decide)
            exact .inl ⟨(xa0c (j:=15) (s:=251) (want:=true) (b:=true) rfl rfl g251).trans rfl,ChL.op (.bool true) (xa6a 36 (.tmp 253) (.tmp 255) _ rfl (brow RD) (brow RD) q253 q255 W true (by kernel_rfl) (uh HED W)) hS rfl (ChL.fin ⟨_,rfl,Kept.refl [] W,rfl⟩)⟩
          refine DagYU.consK (by decide) (fun b W hS hfr hf=>?_) ?_
          · have q251:b.eval (.tmp 251) = .bool true:=hf 15 251 rfl (by kernel_rfl) (by decide)
            have q256:b.eval (.tmp 256) = .bool true:=hf 20 256 rfl (by kernel_rfl) (by decide)
            exact .inl ⟨xa0a rfl,ChL.op (.bool true) (by unfold execOp; simp only [List.map_toArray,List.map_cons,List.map_nil,q251,q256]; go_simp) hS rfl (ChL.fin ⟨_,rfl,Kept.refl [] W,rfl⟩)⟩
          refine DagYU.consK (by decide) (fun b W hS hfr hf=>?_) ?_
          · have q257:b.eval (.tmp 257) = .bool true:=hf 21 257 rfl (by kernel_rfl) (by decide)
            exact .inl ⟨xa0a rfl,ChL.op (.bool true) (by unfold execOp; simp only [List.map_toArray,List.map_cons,List.map_nil,q257]; go_simp) hS rfl (ChL.fin ⟨_,rfl,Kept.refl [] W,rfl⟩)⟩
          refine DagYU.consK (by decide) (fun b W hS hfr hf=>?_) ?_
          · have q18:b.eval (.tmp 18) = .bool true:=(hfr 18 (by decide)).trans rfl
            have g258:b.eval (.tmp 258) = .bool true:=hf 22 258 rfl (by kernel_rfl) (by decide)
            exact .inl ⟨(xa0c (j:=22) (s:=258) (want:=true) (b:=true) rfl rfl g258).trans rfl,ChL.op (.bool true) (by unfold execOp; simp only [List.map_toArray,List.map_cons,List.map_nil,q18]; go_simp) hS rfl (ChL.fin ⟨_,rfl,Kept.refl [] W,rfl⟩)⟩
          refine DagYU.consK (by decide) (fun b W hS hfr hf=>?_) ?_
          · have q259:b.eval (.tmp 259) = .bool true:=hf 23 259 rfl (by kernel_rfl) (by decide)
            have g258:b.eval (.tmp 258) = .bool true:=hf 22 258 rfl (by kernel_rfl) (by decide)
            exact .inl ⟨(xa0c (j:=22) (s:=258) (want:=true) (b:=true) rfl rfl g258).trans rfl,ChL.op (.bool true) (by unfold execOp; simp only [List.map_toArray,List.map_cons,List.map_nil,q259]; go_simp) hS rfl (ChL.fin ⟨_,rfl,Kept.refl [] W,rfl⟩)⟩
          refine DagYU.consK (by decide) (fun b W hS hfr hf=>?_) ?_
          · have q29:b.eval (.tmp 29) = .pointer (some ⟨gd,0,none⟩):=(hfr 29 (by decide)).trans rfl
            have g260:b.eval (.tmp 260) = .bool true:=hf 24 260 rfl (by kernel_rfl) (by decide)
            exact .inr ⟨(xa0c (j:=24) (s:=260) (want:=false) (b:=true) rfl rfl g260).trans rfl,Kept.refl [] W,rfl⟩
          refine DagYU.consK (by decide) (fun b W hS hfr hf=>?_) ?_
          · have q261:b.eval (.tmp 261) = undef:=hf 25 261 rfl (by kernel_rfl) (by decide)
            have g260:b.eval (.tmp 260) = .bool true:=hf 24 260 rfl (by kernel_rfl) (by decide)
            exact .inr ⟨(xa0c (j:=24) (s:=260) (want:=false) (b:=true) rfl rfl g260).trans rfl,Kept.refl [] W,rfl⟩
          refine DagYU.consK (by decide) (fun b W hS hfr hf=>?_) ?_
          · have q12:b.eval (.tmp 12) = .pointer (some ⟨gr,0,none⟩):=(hfr 12 (by decide)).trans rfl
            have g260:b.eval (.tmp 260) = .bool true:=hf 24 260 rfl (by kernel_rfl) (by decide)
            exact .inr ⟨(xa0c (j:=24) (s:=260) (want:=false) (b:=true) rfl rfl g260).trans rfl,Kept.refl [] W,rfl⟩
          refine DagYU.consK (by decide) (fun b W hS hfr hf=>?_) ?_
          · have q262:b.eval (.tmp 262) = undef:=hf 26 262 rfl (by kernel_rfl) (by decide)
            have q263:b.eval (.tmp 263) = undef:=hf 27 263 rfl (by kernel_rfl) (by decide)
            have g260:b.eval (.tmp 260) = .bool true:=hf 24 260 rfl (by kernel_rfl) (by decide)
            exact .inr ⟨(xa0c (j:=24) (s:=260) (want:=false) (b:=true) rfl rfl g260).trans rfl,Kept.refl [] W,rfl⟩
          refine DagYU.consK (by decide) (fun b W hS hfr hf=>?_) ?_
          · have q260:b.eval (.tmp 260) = .bool true:=hf 24 260 rfl (by kernel_rfl) (by decide)
            have q264:b.eval (.tmp 264) = undef:=hf 28 264 rfl (by kernel_rfl) (by decide)
            have g258:b.eval (.tmp 258) = .bool true:=hf 22 258 rfl (by kernel_rfl) (by decide)
            exact .inl ⟨(xa0c (j:=22) (s:=258) (want:=true) (b:=true) rfl rfl g258).trans rfl,ChL.op (.bool true) (by unfold execOp; simp only [List.map_toArray,List.map_cons,List.map_nil,q260,q264]; go_simp) hS rfl (ChL.fin ⟨_,rfl,Kept.refl [] W,rfl⟩)⟩
          refine DagYU.consK (by decide) (fun b W hS hfr hf=>?_) ?_
          · have q258:b.eval (.tmp 258) = .bool true:=hf 22 258 rfl (by kernel_rfl) (by decide)
            have q265:b.eval (.tmp 265) = .bool true:=hf 29 265 rfl (by kernel_rfl) (by decide)
            exact .inl ⟨xa0a rfl,ChL.op (.bool true) (by unfold execOp; simp only [List.map_toArray,List.map_cons,List.map_nil,q258,q265]; go_simp) hS rfl (ChL.fin ⟨_,rfl,Kept.refl [] W,rfl⟩)⟩
          refine DagYU.consK (by decide) (fun b W hS hfr hf=>?_) ?_
          · have q266:b.eval (.tmp 266) = .bool true:=hf 30 266 rfl (by kernel_rfl) (by decide)
            exact .inl ⟨xa0a rfl,ChL.op (.bool true) (by unfold execOp; simp only [List.map_toArray,List.map_cons,List.map_nil,q266]; go_simp) hS rfl (ChL.fin ⟨_,rfl,Kept.refl [] W,rfl⟩)⟩
          exact DagYU.nil
        intro gz wf hS_wf hf
        have e6:gz 6 = .bool true:=hf 31 6 rfl (by decide)
        simp only [List.foldl_cons,List.foldl_nil,Act.put,sa1,sa2,sa3]
        rw [e6]
        clear hf e6
        go_wp2
        go_ret
        exact ⟨rfl,((uh HKz).trans hS_wf (by simp)).below (Nat.le_refl _) (by simp)⟩
      | false =>
        have hrd:=uh HSU rfl
        subst hrd
        refine xb3u [236,237,238,239,240,241,242,243,244,245,246,247,248,249,250,251,252,253,254,255,256,257,258,259,260,261,262,263,264,265,266,6] 7 8 (by kernel_rfl) (by kernel_rfl) rfl (by kernel_rfl) (by kernel_rfl) [(fun v _=>v = .int .i64 0),(fun v _=>v = .bool true),(fun v _=>v = .bool true),(fun v _=>v = .bool true),(fun v _=>v = .bool true),(fun v _=>v = .bool true),(fun v _=>v = .slice n1 n2 n3),(fun v W=>∃ g9,v = .slice (some ⟨g9,0,none⟩) 7 7∧wz.heap.size≤g9∧W.heap[g9]? = some (.cells anC 5 (0,0))),(fun v W=>∃ g9,v = .slice (some ⟨g9,0,none⟩) 7 7∧Rd W v anB),(fun v _=>v = .bool true),(fun v _=>v = .bool true),(fun v _=>v = .bool true),(fun v _=>v = .int .i64 0),(fun v _=>v = .bool true),(fun v _=>v = .bool true),(fun v _=>v = .bool true),(fun v _=>v = .pointer (some ⟨gz9,0,none⟩)),(fun v _=>v = .agg (brow RD)),(fun v _=>v = .pointer (some ⟨gd,0,none⟩)),(fun v _=>v = .agg (brow RD)),(fun v _=>v = .bool true),(fun v _=>v = .bool true),(fun v _=>v = .bool true),(fun v _=>v = .bool false),(fun v _=>v = .bool false),(fun v _=>v = .pointer (some ⟨gd,0,none⟩)),(fun v _=>v = .agg (brow RD)),(fun v _=>v = .agg (brow RD)),(fun v _=>v = .bool true),(fun v _=>v = .bool true),(fun v _=>v = .bool true),(fun v _=>v = .bool true)] ?_ ?_ ?_
        · exact stU_c (stU_c (stU_c (stU_c (stU_c (stU_c (stU_c (stU_f (fun v W W2 k9 ⟨g9,e9,l9,h9⟩=>⟨g9,e9,l9,k9.heap h9 (by simp)⟩) (by decide) (stU_f (fun v W W2 k9 ⟨g9,e9,h9⟩=>⟨g9,e9,h9.old k9 (by simp)⟩) (by decide) (stU_c (stU_c (stU_c (stU_c (stU_c (stU_c (stU_c (stU_c (stU_c (stU_c (stU_c (stU_c (stU_c (stU_c (stU_c (stU_c (stU_c (stU_c (stU_c (stU_c (stU_c (stU_c (stU_c (trivial))))))))))))))))))))))))))))))))
        · refine DagYU.consK (by decide) (fun b W hS hfr hf=>?_) ?_
          · have q34:b.eval (.tmp 34) = .int .i64 0:=(hfr 34 (by decide)).trans rfl
            exact .inl ⟨xa0a rfl,ChL.op (.int .i64 0) (by unfold execOp; simp only [List.map_toArray,List.map_cons,List.map_nil,q34]; go_simp) hS rfl (ChL.fin ⟨_,rfl,Kept.refl [] W,rfl⟩)⟩
          refine DagYU.consK (by decide) (fun b W hS hfr hf=>?_) ?_
          · have q236:b.eval (.tmp 236) = .int .i64 0:=hf 0 236 rfl (by kernel_rfl) (by decide)
            exact .inl ⟨xa0a rfl,ChL.op (.bool true) (by unfold execOp; simp only [List.map_toArray,List.map_cons,List.map_nil,q236]; go_simp) hS rfl (ChL.fin ⟨_,rfl,Kept.refl [] W,rfl⟩)⟩
          refine DagYU.consK (by decide) (fun b W hS hfr hf=>?_) ?_
          · have q237:b.eval (.tmp 237) = .bool true:=hf 1 237 rfl (by kernel_rfl) (by decide)
            exact .inl ⟨xa0a rfl,ChL.op (.bool true) (by unfold execOp; simp only [List.map_toArray,List.map_cons,List.map_nil,q237]; go_simp) hS rfl (ChL.fin ⟨_,rfl,Kept.refl [] W,rfl⟩)⟩
          refine DagYU.consK (by decide) (fun b W hS hfr hf=>?_) ?_
          · have q33:b.eval (.tmp 33) = .bool true:=(hfr 33 (by decide)).trans rfl
            have g238:b.eval (.tmp 238) = .bool true:=hf 2 238 rfl (by kernel_rfl) (by decide)
            exact .inl ⟨(xa0c (j:=2) (s:=238) (want:=true) (b:=true) rfl rfl g238).trans rfl,ChL.op (.bool true) (by unfold execOp; simp only [List.map_toArray,List.map_cons,List.map_nil,q33]; go_simp) hS rfl (ChL.fin ⟨_,rfl,Kept.refl [] W,rfl⟩)⟩
          refine DagYU.consK (by decide) (fun b W hS hfr hf=>?_) ?_
          · have q238:b.eval (.tmp 238) = .bool true:=hf 2 238 rfl (by kernel_rfl) (by decide)
            have q239:b.eval (.tmp 239) = .bool true:=hf 3 239 rfl (by kernel_rfl) (by decide)
            exact .inl ⟨xa0a rfl,ChL.op (.bool true) (by unfold execOp; simp only [List.map_toArray,List.map_cons,List.map_nil,q238,q239]; go_simp) hS rfl (ChL.fin ⟨_,rfl,Kept.refl [] W,rfl⟩)⟩
          refine DagYU.consK (by decide) (fun b W hS hfr hf=>?_) ?_
          · have q240:b.eval (.tmp 240) = .bool true:=hf 4 240 rfl (by kernel_rfl) (by decide)
            exact .inl ⟨xa0a rfl,ChL.op (.bool true) (by unfold execOp; simp only [List.map_toArray,List.map_cons,List.map_nil,q240]; go_simp) hS rfl (ChL.fin ⟨_,rfl,Kept.refl [] W,rfl⟩)⟩
          refine DagYU.consK (by decide) (fun b W hS hfr hf=>?_) ?_
          · have q32:b.eval (.tmp 32) = .slice n1 n2 n3:=(hfr 32 (by decide)).trans rfl
            have g241:b.eval (.tmp 241) = .bool true:=hf 5 241 rfl (by kernel_rfl) (by decide)
            exact .inl ⟨(xa0c (j:=5) (s:=241) (want:=true) (b:=true) rfl rfl g241).trans rfl,ChL.op (.slice n1 n2 n3) (by unfold execOp; simp only [List.map_toArray,List.map_cons,List.map_nil,q32]; go_simp) hS rfl (ChL.fin ⟨_,rfl,Kept.refl [] W,rfl⟩)⟩
          refine DagYU.consK (by decide) (fun b W hS hfr hf=>?_) ?_
          · have g241:b.eval (.tmp 241) = .bool true:=hf 5 241 rfl (by kernel_rfl) (by decide)
            refine .inl ⟨(xa0c (j:=5) (s:=241) (want:=true) (b:=true) rfl rfl g241).trans rfl,ChL.op (.slice (some ⟨W.heap.size,0,none⟩) 7 7) (w':=W.alloc (.cells anC 5)) (by unfold execOp anC; go_simp) (hS.alloc _) rfl (ChL.fin ⟨_,rfl,(Kept.refl [] W).alloc _,W.heap.size,rfl,hS.size,heap_alloc_new W _⟩)⟩
          refine DagYU.cons (fun b W hS hfr hf=>?_) ?_
          · have g241:b.eval (.tmp 241) = .bool true:=hf 5 241 rfl (by kernel_rfl) (.inl rfl)
            obtain ⟨g9,hq,hl9,hg9⟩:=hf 7 243 rfl (by kernel_rfl) (.inr rfl)
            obtain ⟨f1,f2⟩:=xa8e (n:=7) hg9
            have hcv:=xa7q (n:=7) (c:=7) 23 hg9 Tryd.underlying23 Tryd.underlying5
            have hsw:Kept [] wz (W.freeze ⟨g9,7,none⟩ 1):=hS.trans f2 (by simpa using hl9)
            refine .inl ⟨(xa0c (j:=5) (s:=241) (want:=true) (b:=true) rfl rfl g241).trans rfl,ChL.op (.slice (some ⟨g9,0,none⟩) 7 7) (w':=W.freeze ⟨g9,7,none⟩ 1) (by unfold execOp; simp only [hq]; rw [Sem.run_bind,hcv]; rfl) hsw rfl (ChL.fin ⟨_,rfl,⟨g9,hl9,f2⟩,g9,rfl,xa7r (n:=7) anB f1 rfl (by intro y hy; simp [anB] at hy; omega) rfl (by decide)⟩)⟩
          refine DagYU.consK (by decide) (fun b W hS hfr hf=>?_) ?_
          · have g241:b.eval (.tmp 241) = .bool true:=hf 5 241 rfl (by kernel_rfl) (by decide)
            have q242:b.eval (.tmp 242) = .slice n1 n2 n3:=hf 6 242 rfl (by kernel_rfl) (by decide)
            obtain ⟨g9,hq,hr9⟩:=hf 8 244 rfl (by kernel_rfl) (by decide)
            rw [hq] at hr9
            refine .inl ⟨(xa0c (j:=5) (s:=241) (want:=true) (b:=true) rfl rfl g241).trans rfl,ChL.call rfl Tryd.call11 [.slice n1 n2 n3,.slice (some ⟨g9,0,none⟩) 7 7] (by show [b.eval (.tmp 242),b.eval (.tmp 244)] = _; simp only [q242,hq]) (xa1p _ _ anB anB W ((uh HRZ).old hS (by simp)) hr9) (fun e w9 h9=>?_)⟩
            obtain ⟨rfl,rfl⟩:=h9
            exact ⟨_,rfl,hS,ChL.fin ⟨_,by rw [decide_eq_true rfl],Kept.refl [] _,rfl⟩⟩
          refine DagYU.consK (by decide) (fun b W hS hfr hf=>?_) ?_
          · have q241:b.eval (.tmp 241) = .bool true:=hf 5 241 rfl (by kernel_rfl) (by decide)
            have q245:b.eval (.tmp 245) = .bool true:=hf 9 245 rfl (by kernel_rfl) (by decide)
            exact .inl ⟨xa0a rfl,ChL.op (.bool true) (by unfold execOp; simp only [List.map_toArray,List.map_cons,List.map_nil,q241,q245]; go_simp) hS rfl (ChL.fin ⟨_,rfl,Kept.refl [] W,rfl⟩)⟩
          refine DagYU.consK (by decide) (fun b W hS hfr hf=>?_) ?_
          · have q246:b.eval (.tmp 246) = .bool true:=hf 10 246 rfl (by kernel_rfl) (by decide)
            exact .inl ⟨xa0a rfl,ChL.op (.bool true) (by unfold execOp; simp only [List.map_toArray,List.map_cons,List.map_nil,q246]; go_simp) hS rfl (ChL.fin ⟨_,rfl,Kept.refl [] W,rfl⟩)⟩
          refine DagYU.consK (by decide) (fun b W hS hfr hf=>?_) ?_
          · have q37:b.eval (.tmp 37) = .int .i64 0:=(hfr 37 (by decide)).trans rfl
            have g247:b.eval (.tmp 247) = .bool true:=hf 11 247 rfl (by kernel_rfl) (by decide)
            exact .inl ⟨(xa0c (j:=11) (s:=247) (want:=true) (b:=true) rfl rfl g247).trans rfl,ChL.op (.int .i64 0) (by unfold execOp; simp only [List.map_toArray,List.map_cons,List.map_nil,q37]; go_simp) hS rfl (ChL.fin ⟨_,rfl,Kept.refl [] W,rfl⟩)⟩
          refine DagYU.consK (by decide) (fun b W hS hfr hf=>?_) ?_
          · have q248:b.eval (.tmp 248) = .int .i64 0:=hf 12 248 rfl (by kernel_rfl) (by decide)
            have g247:b.eval (.tmp 247) = .bool true:=hf 11 247 rfl (by kernel_rfl) (by decide)
            exact .inl ⟨(xa0c (j:=11) (s:=247) (want:=true) (b:=true) rfl rfl g247).trans rfl,ChL.op (.bool true) (by unfold execOp; simp only [List.map_toArray,List.map_cons,List.map_nil,q248]; go_simp) hS rfl (ChL.fin ⟨_,rfl,Kept.refl [] W,rfl⟩)⟩
          refine DagYU.consK (by decide) (fun b W hS hfr hf=>?_) ?_
          · have q247:b.eval (.tmp 247) = .bool true:=hf 11 247 rfl (by kernel_rfl) (by decide)
            have q249:b.eval (.tmp 249) = .bool true:=hf 13 249 rfl (by kernel_rfl) (by decide)
            exact .inl ⟨xa0a rfl,ChL.op (.bool true) (by unfold execOp; simp only [List.map_toArray,List.map_cons,List.map_nil,q247,q249]; go_simp) hS rfl (ChL.fin ⟨_,rfl,Kept.refl [] W,rfl⟩)⟩
          refine DagYU.consK (by decide) (fun b W hS hfr hf=>?_) ?_
          · have q250:b.eval (.tmp 250) = .bool true:=hf 14 250 rfl (by kernel_rfl) (by decide)
            exact .inl ⟨xa0a rfl,ChL.op (.bool true) (by unfold execOp; simp only [List.map_toArray,List.map_cons,List.map_nil,q250]; go_simp) hS rfl (ChL.fin ⟨_,rfl,Kept.refl [] W,rfl⟩)⟩
          refine DagYU.consK (by decide) (fun b W hS hfr hf=>?_) ?_
          · have q35:b.eval (.tmp 35) = .pointer (some ⟨gz9,0,none⟩):=(hfr 35 (by decide)).trans rfl
            have g251:b.eval (.tmp 251) = .bool true:=hf 15 251 rfl (by kernel_rfl) (by decide)
            exact .inl ⟨(xa0c (j:=15) (s:=251) (want:=true) (b:=true) rfl rfl g251).trans rfl,ChL.op (.pointer (some ⟨gz9,0,none⟩)) (by unfold execOp; simp only [List.map_toArray,List.map_cons,List.map_nil,q35]; go_simp) hS rfl (ChL.fin ⟨_,rfl,Kept.refl [] W,rfl⟩)⟩
          refine DagYU.consK (by decide) (fun b W hS hfr hf=>?_) ?_
          · have q252:b.eval (.tmp 252) = .pointer (some ⟨gz9,0,none⟩):=hf 16 252 rfl (by kernel_rfl) (by decide)
            have g251:b.eval (.tmp 251) = .bool true:=hf 15 251 rfl (by kernel_rfl) (by decide)
            refine .inl ⟨(xa0c (j:=15) (s:=251) (want:=true) (b:=true) rfl rfl g251).trans rfl,ChL.call rfl Tryd.call7 [.pointer (some ⟨gz9,0,none⟩)] (by show [b.eval (.tmp 252)] = _; simp only [q252]) (uh HRB W hS) (fun e w9 h9=>⟨_,h9.1,hS.trans h9.2 (by simp),ChL.fin ⟨_,rfl,h9.2,rfl⟩⟩)⟩
          refine DagYU.consK (by decide) (fun b W hS hfr hf=>?_) ?_
          · have q29:b.eval (.tmp 29) = .pointer (some ⟨gd,0,none⟩):=(hfr 29 (by decide)).trans rfl
            have g251:b.eval (.tmp 251) = .bool true:=hf 15 251 rfl (by kernel_rfl) (by decide)
            exact .inl ⟨(xa0c (j:=15) (s:=251) (want:=true) (b:=true) rfl rfl g251).trans rfl,ChL.op (.pointer (some ⟨gd,0,none⟩)) (by unfold execOp; simp only [List.map_toArray,List.map_cons,List.map_nil,q29]; go_simp) hS rfl (ChL.fin ⟨_,rfl,Kept.refl [] W,rfl⟩)⟩
          refine DagYU.consK (by decide) (fun b W hS hfr hf=>?_) ?_
          · have q254:b.eval (.tmp 254) = .pointer (some ⟨gd,0,none⟩):=hf 18 254 rfl (by kernel_rfl) (by decide)
            have g251:b.eval (.tmp 251) = .bool true:=hf 15 251 rfl (by kernel_rfl) (by decide)
            refine .inl ⟨(xa0c (j:=15) (s:=251) (want:=true) (b:=true) rfl rfl g251).trans rfl,ChL.call rfl Tryd.call7 [.pointer (some ⟨gd,0,none⟩)] (by show [b.eval (.tmp 254)] = _; simp only [q254]) (uh HRE W hS) (fun e w9 h9=>⟨_,h9.1,hS.trans h9.2 (by simp),ChL.fin ⟨_,rfl,h9.2,rfl⟩⟩)⟩
          refine DagYU.consK (by decide) (fun b W hS hfr hf=>?_) ?_
          · have q253:b.eval (.tmp 253) = .agg (brow RD):=hf 17 253 rfl (by kernel_rfl) (by decide)
            have q255:b.eval (.tmp 255) = .agg (brow RD):=hf 19 255 rfl (by kernel_rfl) (by decide)
            have g251:b.eval (.tmp 251) = .bool true:=hf 15 251 rfl (by kernel_rfl) (by decide)
            exact .inl ⟨(xa0c (j:=15) (s:=251) (want:=true) (b:=true) rfl rfl g251).trans rfl,ChL.op (.bool true) (xa6a 36 (.tmp 253) (.tmp 255) _ rfl (brow RD) (brow RD) q253 q255 W true (by kernel_rfl) (uh HED W)) hS rfl (ChL.fin ⟨_,rfl,Kept.refl [] W,rfl⟩)⟩
          refine DagYU.consK (by decide) (fun b W hS hfr hf=>?_) ?_
          · have q251:b.eval (.tmp 251) = .bool true:=hf 15 251 rfl (by kernel_rfl) (by decide)
            have q256:b.eval (.tmp 256) = .bool true:=hf 20 256 rfl (by kernel_rfl) (by decide)
            exact .inl ⟨xa0a rfl,ChL.op (.bool true) (by unfold execOp; simp only [List.map_toArray,List.map_cons,List.map_nil,q251,q256]; go_simp) hS rfl (ChL.fin ⟨_,rfl,Kept.refl [] W,rfl⟩)⟩
          refine DagYU.consK (by decide) (fun b W hS hfr hf=>?_) ?_
          · have q257:b.eval (.tmp 257) = .bool true:=hf 21 257 rfl (by kernel_rfl) (by decide)
            exact .inl ⟨xa0a rfl,ChL.op (.bool true) (by unfold execOp; simp only [List.map_toArray,List.map_cons,List.map_nil,q257]; go_simp) hS rfl (ChL.fin ⟨_,rfl,Kept.refl [] W,rfl⟩)⟩
          refine DagYU.consK (by decide) (fun b W hS hfr hf=>?_) ?_
          · have q18:b.eval (.tmp 18) = .bool false:=(hfr 18 (by decide)).trans rfl
            have g258:b.eval (.tmp 258) = .bool true:=hf 22 258 rfl (by kernel_rfl) (by decide)
            exact .inl ⟨(xa0c (j:=22) (s:=258) (want:=true) (b:=true) rfl rfl g258).trans rfl,ChL.op (.bool false) (by unfold execOp; simp only [List.map_toArray,List.map_cons,List.map_nil,q18]; go_simp) hS rfl (ChL.fin ⟨_,rfl,Kept.refl [] W,rfl⟩)⟩
          refine DagYU.consK (by decide) (fun b W hS hfr hf=>?_) ?_
          · have q259:b.eval (.tmp 259) = .bool false:=hf 23 259 rfl (by kernel_rfl) (by decide)
            have g258:b.eval (.tmp 258) = .bool true:=hf 22 258 rfl (by kernel_rfl) (by decide)
            exact .inl ⟨(xa0c (j:=22) (s:=258) (want:=true) (b:=true) rfl rfl g258).trans rfl,ChL.op (.bool false) (by unfold execOp; simp only [List.map_toArray,List.map_cons,List.map_nil,q259]; go_simp) hS rfl (ChL.fin ⟨_,rfl,Kept.refl [] W,rfl⟩)⟩
          refine DagYU.consK (by decide) (fun b W hS hfr hf=>?_) ?_
          · have q29:b.eval (.tmp 29) = .pointer (some ⟨gd,0,none⟩):=(hfr 29 (by decide)).trans rfl
            have g260:b.eval (.tmp 260) = .bool false:=hf 24 260 rfl (by kernel_rfl) (by decide)
            exact .inl ⟨(xa0c (j:=24) (s:=260) (want:=false) (b:=false) rfl rfl g260).trans rfl,ChL.op (.pointer (some ⟨gd,0,none⟩)) (by unfold execOp; simp only [List.map_toArray,List.map_cons,List.map_nil,q29]; go_simp) hS rfl (ChL.fin ⟨_,rfl,Kept.refl [] W,rfl⟩)⟩
          refine DagYU.consK (by decide) (fun b W hS hfr hf=>?_) ?_
          · have q261:b.eval (.tmp 261) = .pointer (some ⟨gd,0,none⟩):=hf 25 261 rfl (by kernel_rfl) (by decide)
            have g260:b.eval (.tmp 260) = .bool false:=hf 24 260 rfl (by kernel_rfl) (by decide)
            refine .inl ⟨(xa0c (j:=24) (s:=260) (want:=false) (b:=false) rfl rfl g260).trans rfl,ChL.call rfl Tryd.call7 [.pointer (some ⟨gd,0,none⟩)] (by show [b.eval (.tmp 261)] = _; simp only [q261]) (uh HRE W hS) (fun e w9 h9=>⟨_,h9.1,hS.trans h9.2 (by simp),ChL.fin ⟨_,rfl,h9.2,rfl⟩⟩)⟩
          refine DagYU.consK (by decide) (fun b W hS hfr hf=>?_) ?_
          · have q12:b.eval (.tmp 12) = .pointer (some ⟨gr,0,none⟩):=(hfr 12 (by decide)).trans rfl
            have g260:b.eval (.tmp 260) = .bool false:=hf 24 260 rfl (by kernel_rfl) (by decide)
            exact .inl ⟨(xa0c (j:=24) (s:=260) (want:=false) (b:=false) rfl rfl g260).trans rfl,ChL.op (.agg (brow RD)) (xa4q 36 (.tmp 12) rfl gr 0 q12 (RD.map u8) _ (((uh HK7r).trans (hS) (by simp)).rng (uh HRG) (by simp)) Tryd.underlying36 rfl (by rw [List.length_map,hrl]; exact Tryd.size_dig)) hS rfl (ChL.fin ⟨_,rfl,Kept.refl [] W,rfl⟩)⟩
          refine DagYU.consK (by decide) (fun b W hS hfr hf=>?_) ?_
          · have q262:b.eval (.tmp 262) = .agg (brow RD):=hf 26 262 rfl (by kernel_rfl) (by decide)
            have q263:b.eval (.tmp 263) = .agg (brow RD):=hf 27 263 rfl (by kernel_rfl) (by decide)
            have g260:b.eval (.tmp 260) = .bool false:=hf 24 260 rfl (by kernel_rfl) (by decide)
            exact .inl ⟨(xa0c (j:=24) (s:=260) (want:=false) (b:=false) rfl rfl g260).trans rfl,ChL.op (.bool true) (xa6a 36 (.tmp 262) (.tmp 263) _ rfl (brow RD) (brow RD) q262 q263 W true (by kernel_rfl) (uh HEQ W)) hS rfl (ChL.fin ⟨_,rfl,Kept.refl [] W,rfl⟩)⟩
          refine DagYU.consK (by decide) (fun b W hS hfr hf=>?_) ?_
          · have q260:b.eval (.tmp 260) = .bool false:=hf 24 260 rfl (by kernel_rfl) (by decide)
            have q264:b.eval (.tmp 264) = .bool true:=hf 28 264 rfl (by kernel_rfl) (by decide)
            have g258:b.eval (.tmp 258) = .bool true:=hf 22 258 rfl (by kernel_rfl) (by decide)
            exact .inl ⟨(xa0c (j:=22) (s:=258) (want:=true) (b:=true) rfl rfl g258).trans rfl,ChL.op (.bool true) (by unfold execOp; simp only [List.map_toArray,List.map_cons,List.map_nil,q260,q264]; go_simp) hS rfl (ChL.fin ⟨_,rfl,Kept.refl [] W,rfl⟩)⟩
          refine DagYU.consK (by decide) (fun b W hS hfr hf=>?_) ?_
          · have q258:b.eval (.tmp 258) = .bool true:=hf 22 258 rfl (by kernel_rfl) (by decide)
            have q265:b.eval (.tmp 265) = .bool true:=hf 29 265 rfl (by kernel_rfl) (by decide)
            exact .inl ⟨xa0a rfl,ChL.op (.bool true) (by unfold execOp; simp only [List.map_toArray,List.map_cons,List.map_nil,q258,q265]; go_simp) hS rfl (ChL.fin ⟨_,rfl,Kept.refl [] W,rfl⟩)⟩
          refine DagYU.consK (by decide) (fun b W hS hfr hf=>?_) ?_
          · have q266:b.eval (.tmp 266) = .bool true:=hf 30 266 rfl (by kernel_rfl) (by decide)
            exact .inl ⟨xa0a rfl,ChL.op (.bool true) (by unfold execOp; simp only [List.map_toArray,List.map_cons,List.map_nil,q266]; go_simp) hS rfl (ChL.fin ⟨_,rfl,Kept.refl [] W,rfl⟩)⟩
          exact DagYU.nil
        intro gz wf hS_wf hf
        have e6:gz 6 = .bool true:=hf 31 6 rfl (by decide)
        simp only [List.foldl_cons,List.foldl_nil,Act.put,sa1,sa2,sa3]
        rw [e6]
        clear hf e6
        go_wp2
        go_ret
        exact ⟨rfl,((uh HKz).trans hS_wf (by simp)).below (Nat.le_refl _) (by simp)⟩
    | succ jj =>
      have hz1:z = (jj:Int):=by omega
      subst hz1
      have hge:(jj:Int) ≥ 0:=by omega
      have hjn:jj < pn2:=by omega
      have hjn2:(jj:Int) < pn2:=by omega
      have hjl:jj < L.length:=by rw [uh HLB]; omega
      obtain ⟨pb,off,hao,hcc⟩:=uh HPC13 (by omega)
      subst hao
      have hx0:=(hcc jj hjn).1
      have hy0:=(hcc jj hjn).2
      have hrp:=(uh HPR13 jj hjn).1
      have hrq:=(uh HPR13 jj hjn).2
      have hmem:L.getD jj ([],[])∈L:=by
        rw [List.getD_eq_getElem?_getD,List.getElem?_eq_getElem hjl]; exact List.getElem_mem _
      have hfit:=(uh HM8).m.fit _ hmem
      have hgp:getP (L.getD jj ([],[])).1 L = some (L.getD jj ([],[])).2:=(xa1y (uh HM8).m.srt).2 hmem
      have hne:insAll (hsZ k) [] (L.drop jj).reverse = insP (hsZ k) (L.getD jj ([],[])).1 (L.getD jj ([],[])).2 (insAll (hsZ k) [] (L.drop (jj + 1)).reverse):=by
        have e1:L.drop jj = L.getD jj ([],[]) :: L.drop (jj + 1):=by
          rw [List.getD_eq_getElem?_getD,List.getElem?_eq_getElem hjl]; exact List.drop_eq_getElem_cons hjl
        rw [e1,List.reverse_cons,xa8x]
      generalize L.getD jj ([],[]) = pq at hrp hrq hmem hfit hgp hne
      generalize ks.getD jj undef = kx at hx0 hrp
      generalize us.getD jj undef = ky at hy0 hrq
      obtain ⟨x1,x2,x3,rfl,_⟩:=id hrp
      obtain ⟨y1,y2,y3,rfl,_⟩:=id hrq
      have HNE:=hide hne
      have HGP:=hide hgp
      have HFT:=hide hfit
      have HKX:=hide (hrp.old (uh HKr) (by simp))
      have HKY:=hide (hrq.old (uh HKr) (by simp))
      have HX:=hide ((uh HKr).cell hx0 (by simp))
      have HY:=hide ((uh HKr).cell hy0 (by simp))
      have HK8r:=hide ((uh HK813).trans (uh HKr) (by simp))
      have HKwr:=hide ((uh HK13).trans (uh HKr) (by simp))
      have hx:=uh HX
      have hnn:¬ (jj:Int) < 0:=by omega
      clear hrp hrq hfit hgp hne hx0 hy0 hcc hmem
      go_wp2_with fail
      have HBG:=hide (xa9g w3 gb _ l bs _ pq.1 wr ((uh HM8).kept (uh HK8r)).b (uh HKX) (by rw [uh HBL]; omega))
      rw [(uh HM8).e pq.1,uh HGP] at HBG
      refine Calls.mono (uh HBG) ?_
      rintro e wa ⟨xv,rfl,rx,ka⟩
      rw [show (some pq.2).isSome = true from rfl]
      rw [show (some pq.2).getD [] = pq.2 from rfl] at rx
      obtain ⟨r1,r2,r3,rfl,_⟩:=id rx
      have HRX:=hide rx
      have HKa:=hide ka
      clear rx ka HBG hx
      go_upto_region 22 with fail
      have HPUT:=hide (fun (W:World) (hW:Kept [] wa W)=>xb0i (fun _=>True) k _ _ _ _ pq.1 pq.2 W ((uh HMr).agr (Agr.nil ((uh HKa).trans hW (by simp)))) ((uh HKX).old ((uh HKa).trans hW (by simp)) (by simp)) ((uh HKY).old ((uh HKa).trans hW (by simp)) (by simp)) (uh HFT).1 (uh HFT).2 (by have h9:=xa5e (hsZ k) (L.drop (jj + 1)).reverse []; rw [List.length_nil,List.length_reverse,List.length_drop,uh HLB] at h9; omega) (fun _ _=>trivial) ((uh HT).k ((uh HKwr).trans ((uh HKa).trans hW (by simp)) (by simp))))
      rw [← uh HNE] at HPUT
      refine xa8d [145,146,147,148,149,150,151,152,153,154,155,156,144,157,158,25,26] (by kernel_rfl) (by kernel_rfl) rfl (by kernel_rfl) (by kernel_rfl) [(fun v _=>v = .pointer (some ⟨ga,0,none⟩)),(fun v _=>v = .slice (some ⟨pb,off,none⟩) pn2 pc2),(fun v _=>v = .int .i64 jj),(fun v _=>v = .pointer (some ⟨pb,off + jj * 2,none⟩)),(fun v _=>v = .pointer (some ⟨pb,off + jj * 2,none⟩)),(fun v _=>v = .slice x1 x2 x3),(fun v _=>v = .slice (some ⟨pb,off,none⟩) pn2 pc2),(fun v _=>v = .int .i64 jj),(fun v _=>v = .pointer (some ⟨pb,off + jj * 2,none⟩)),(fun v _=>v = .pointer (some ⟨pb,off + jj * 2 + 1,none⟩)),(fun v _=>v = .slice y1 y2 y3),(fun v W=>∃ g9,v = .tuple #[.pointer (some ⟨g9,0,none⟩),.int .i64 0]∧MapAt (fun _=>True) k W (.pointer (some ⟨g9,0,none⟩)) (insAll (hsZ k) [] (L.drop jj).reverse)),(fun v W=>∃ g9,v = .tuple #[.pointer (some ⟨g9,0,none⟩),.int .i64 0]∧MapAt (fun _=>True) k W (.pointer (some ⟨g9,0,none⟩)) (insAll (hsZ k) [] (L.drop jj).reverse)),(fun v W=>∃ g9,v = .pointer (some ⟨g9,0,none⟩)∧MapAt (fun _=>True) k W (.pointer (some ⟨g9,0,none⟩)) (insAll (hsZ k) [] (L.drop jj).reverse)),(fun v _=>v = .int .i64 0),(fun v W=>∃ g9,v = .pointer (some ⟨g9,0,none⟩)∧MapAt (fun _=>True) k W (.pointer (some ⟨g9,0,none⟩)) (insAll (hsZ k) [] (L.drop jj).reverse)),(fun v _=>v = .int .i64 0)] ?_ ?_ ?_
      · exact stL_c (stL_c (stL_c (stL_c (stL_c (stL_c (stL_c (stL_c (stL_c (stL_c (stL_c (xa4z (fun v W W2 k9 ⟨g9,e9,m9⟩=>⟨g9,e9,m9.agr (Agr.nil k9)⟩) (xa4z (fun v W W2 k9 ⟨g9,e9,m9⟩=>⟨g9,e9,m9.agr (Agr.nil k9)⟩) (xa4z (fun v W W2 k9 ⟨g9,e9,m9⟩=>⟨g9,e9,m9.agr (Agr.nil k9)⟩) (stL_c (xa4z (fun v W W2 k9 ⟨g9,e9,m9⟩=>⟨g9,e9,m9.agr (Agr.nil k9)⟩) (stL_c (trivial)))))))))))))))))
      · refine DagYK.cons (fun b W hS hfr hf=>?_) ?_
        · have q20:b.eval (.tmp 20) = .pointer (some ⟨ga,0,none⟩):=(hfr 20 (by decide)).trans rfl
          exact .inl ⟨xa0a rfl,ChL.op (.pointer (some ⟨ga,0,none⟩)) (by unfold execOp; simp only [List.map_toArray,List.map_cons,List.map_nil,q20]; go_simp) hS rfl (ChL.fin ⟨_,rfl,Kept.refl [] W,rfl⟩)⟩
        refine DagYK.cons (fun b W hS hfr hf=>?_) ?_
        · have q19:b.eval (.tmp 19) = .slice (some ⟨pb,off,none⟩) pn2 pc2:=(hfr 19 (by decide)).trans rfl
          exact .inl ⟨xa0a rfl,ChL.op (.slice (some ⟨pb,off,none⟩) pn2 pc2) (by unfold execOp; simp only [List.map_toArray,List.map_cons,List.map_nil,q19]; go_simp) hS rfl (ChL.fin ⟨_,rfl,Kept.refl [] W,rfl⟩)⟩
        refine DagYK.cons (fun b W hS hfr hf=>?_) ?_
        · have q22:b.eval (.tmp 22) = .int .i64 jj:=(hfr 22 (by decide)).trans rfl
          exact .inl ⟨xa0a rfl,ChL.op (.int .i64 jj) (by unfold execOp; simp only [List.map_toArray,List.map_cons,List.map_nil,q22]; go_simp) hS rfl (ChL.fin ⟨_,rfl,Kept.refl [] W,rfl⟩)⟩
        refine DagYK.cons (fun b W hS hfr hf=>?_) ?_
        · have q146:b.eval (.tmp 146) = .slice (some ⟨pb,off,none⟩) pn2 pc2:=hf 1 146 rfl (by kernel_rfl)
          have q147:b.eval (.tmp 147) = .int .i64 jj:=hf 2 147 rfl (by kernel_rfl)
          have h9:¬ ((jj:Int) < 0):=(by omega); have h8:=hjn2
          exact .inl ⟨xa0a rfl,ChL.op (.pointer (some ⟨pb,off + jj * 2,none⟩)) (by unfold execOp; simp only [List.map_toArray,List.map_cons,List.map_nil,q146,q147]; go_simp) hS rfl (ChL.fin ⟨_,rfl,Kept.refl [] W,rfl⟩)⟩
        refine DagYK.cons (fun b W hS hfr hf=>?_) ?_
        · have q148:b.eval (.tmp 148) = .pointer (some ⟨pb,off + jj * 2,none⟩):=hf 3 148 rfl (by kernel_rfl)
          exact .inl ⟨xa0a rfl,ChL.op (.pointer (some ⟨pb,off + jj * 2,none⟩)) (by unfold execOp; simp only [List.map_toArray,List.map_cons,List.map_nil,q148]; go_simp) hS rfl (ChL.fin ⟨_,rfl,Kept.refl [] W,rfl⟩)⟩
        refine DagYK.cons (fun b W hS hfr hf=>?_) ?_
        · have q149:b.eval (.tmp 149) = .pointer (some ⟨pb,off + jj * 2,none⟩):=hf 4 149 rfl (by kernel_rfl)
          have h9:=hS.cell ((uh HKa).cell (uh HX) (by simp)) (by simp)
          exact .inl ⟨xa0a rfl,ChL.op (.slice x1 x2 x3) (by unfold execOp; simp only [List.map_toArray,List.map_cons,List.map_nil,q149]; go_simp) hS rfl (ChL.fin ⟨_,rfl,Kept.refl [] W,rfl⟩)⟩
        refine DagYK.cons (fun b W hS hfr hf=>?_) ?_
        · have q19:b.eval (.tmp 19) = .slice (some ⟨pb,off,none⟩) pn2 pc2:=(hfr 19 (by decide)).trans rfl
          exact .inl ⟨xa0a rfl,ChL.op (.slice (some ⟨pb,off,none⟩) pn2 pc2) (by unfold execOp; simp only [List.map_toArray,List.map_cons,List.map_nil,q19]; go_simp) hS rfl (ChL.fin ⟨_,rfl,Kept.refl [] W,rfl⟩)⟩
        refine DagYK.cons (fun b W hS hfr hf=>?_) ?_
        · have q22:b.eval (.tmp 22) = .int .i64 jj:=(hfr 22 (by decide)).trans rfl
          exact .inl ⟨xa0a rfl,ChL.op (.int .i64 jj) (by unfold execOp; simp only [List.map_toArray,List.map_cons,List.map_nil,q22]; go_simp) hS rfl (ChL.fin ⟨_,rfl,Kept.refl [] W,rfl⟩)⟩
        refine DagYK.cons (fun b W hS hfr hf=>?_) ?_
        · have q151:b.eval (.tmp 151) = .slice (some ⟨pb,off,none⟩) pn2 pc2:=hf 6 151 rfl (by kernel_rfl)
          have q152:b.eval (.tmp 152) = .int .i64 jj:=hf 7 152 rfl (by kernel_rfl)
          have h9:¬ ((jj:Int) < 0):=(by omega); have h8:=hjn2
          exact .inl ⟨xa0a rfl,ChL.op (.pointer (some ⟨pb,off + jj * 2,none⟩)) (by unfold execOp; simp only [List.map_toArray,List.map_cons,List.map_nil,q151,q152]; go_simp) hS rfl (ChL.fin ⟨_,rfl,Kept.refl [] W,rfl⟩)⟩
        refine DagYK.cons (fun b W hS hfr hf=>?_) ?_
        · have q153:b.eval (.tmp 153) = .pointer (some ⟨pb,off + jj * 2,none⟩):=hf 8 153 rfl (by kernel_rfl)
          exact .inl ⟨xa0a rfl,ChL.op (.pointer (some ⟨pb,off + jj * 2 + 1,none⟩)) (by unfold execOp; simp only [List.map_toArray,List.map_cons,List.map_nil,q153]; go_simp) hS rfl (ChL.fin ⟨_,rfl,Kept.refl [] W,rfl⟩)⟩
        refine DagYK.cons (fun b W hS hfr hf=>?_) ?_
        · have q154:b.eval (.tmp 154) = .pointer (some ⟨pb,off + jj * 2 + 1,none⟩):=hf 9 154 rfl (by kernel_rfl)
          have h9:=hS.cell ((uh HKa).cell (uh HY) (by simp)) (by simp)
          exact .inl ⟨xa0a rfl,ChL.op (.slice y1 y2 y3) (by unfold execOp; simp only [List.map_toArray,List.map_cons,List.map_nil,q154]; go_simp) hS rfl (ChL.fin ⟨_,rfl,Kept.refl [] W,rfl⟩)⟩
        refine DagYK.cons (fun b W hS hfr hf=>?_) ?_
        · have q145:b.eval (.tmp 145) = .pointer (some ⟨ga,0,none⟩):=hf 0 145 rfl (by kernel_rfl)
          have q150:b.eval (.tmp 150) = .slice x1 x2 x3:=hf 5 150 rfl (by kernel_rfl)
          have q155:b.eval (.tmp 155) = .slice y1 y2 y3:=hf 10 155 rfl (by kernel_rfl)
          refine .inl ⟨xa0a rfl,ChL.call rfl Tryd.call15 [.pointer (some ⟨ga,0,none⟩),.slice x1 x2 x3,.slice y1 y2 y3] (by show [b.eval (.tmp 145),b.eval (.tmp 150),b.eval (.tmp 155)] = _; simp only [q145,q150,q155]) (uh HPUT W hS) (fun e w9 h9=>?_)⟩
          obtain ⟨m9,rfl,hm9,k9⟩:=h9
          obtain ⟨g9,rfl⟩:=xa2s hm9
          exact ⟨_,rfl,hS.trans k9 (by simp),ChL.fin ⟨_,rfl,k9,g9,rfl,hm9⟩⟩
        refine DagYK.cons (fun b W hS hfr hf=>?_) ?_
        · obtain ⟨g9,hq,hm⟩:=hf 11 156 rfl (by kernel_rfl)
          exact .inl ⟨xa0a rfl,ChL.op (.tuple #[.pointer (some ⟨g9,0,none⟩),.int .i64 0]) (by unfold execOp; simp only [hq]; go_simp) hS rfl (ChL.fin ⟨_,rfl,Kept.refl [] W,g9,rfl,hm⟩)⟩
        refine DagYK.cons (fun b W hS hfr hf=>?_) ?_
        · obtain ⟨g9,hq,hm⟩:=hf 12 144 rfl (by kernel_rfl)
          exact .inl ⟨xa0a rfl,ChL.op (.pointer (some ⟨g9,0,none⟩)) (by unfold execOp; simp only [hq]; go_simp) hS rfl (ChL.fin ⟨_,rfl,Kept.refl [] W,g9,rfl,hm⟩)⟩
        refine DagYK.cons (fun b W hS hfr hf=>?_) ?_
        · obtain ⟨g9,hq,hm⟩:=hf 12 144 rfl (by kernel_rfl)
          exact .inl ⟨xa0a rfl,ChL.op (.int .i64 0) (by unfold execOp; simp only [hq]; go_simp) hS rfl (ChL.fin ⟨_,rfl,Kept.refl [] W,rfl⟩)⟩
        refine DagYK.cons (fun b W hS hfr hf=>?_) ?_
        · obtain ⟨g9,hq,hm⟩:=hf 13 157 rfl (by kernel_rfl)
          exact .inl ⟨xa0a rfl,ChL.op (.pointer (some ⟨g9,0,none⟩)) (by unfold execOp; simp only [hq]; go_simp) hS rfl (ChL.fin ⟨_,rfl,Kept.refl [] W,g9,rfl,hm⟩)⟩
        refine DagYK.cons (fun b W hS hfr hf=>?_) ?_
        · have q158:b.eval (.tmp 158) = .int .i64 0:=hf 14 158 rfl (by kernel_rfl)
          exact .inl ⟨xa0a rfl,ChL.op (.int .i64 0) (by unfold execOp; simp only [List.map_toArray,List.map_cons,List.map_nil,q158]; go_simp) hS rfl (ChL.fin ⟨_,rfl,Kept.refl [] W,rfl⟩)⟩
        exact DagYK.nil
      intro gz wb hS_wb hf
      obtain ⟨g9,e25,hm9⟩:=hf 15 25 rfl
      have e26:gz 26 = .int .i64 0:=hf 16 26 rfl
      simp only [List.foldl_cons,List.foldl_nil,Act.put,sa1,sa2,sa3]
      rw [e25,e26]
      have HM9:=hide hm9
      have HKb:=hide ((uh HKa).trans hS_wb (by simp))
      have HRXb:=hide ((uh HRX).old hS_wb (by simp))
      have hyb:=(uh HKb).cell (uh HY) (by simp)
      clear hm9 hf e25 e26 HPUT
      go_wp2_with fail
      refine Calls.mono (xa1p _ _ pq.2 pq.2 wb (uh HRXb) ((uh HKY).old (uh HKb) (by simp))) ?_
      rintro e wc ⟨rfl,hwc⟩
      rw [decide_eq_true rfl]
      subst hwc
      go_wp2_with fail
      refine ⟨⟨(jj:Int) - 1,jj,g9,by go_num,rfl,by omega,by omega,HM9,hide ((uh HKr).trans (uh HKb) (by simp))⟩,?_⟩
      simp [intOf]; try omega
end
section
open Go.ChangeShapes Go.WideShapes Go.ChangeAt Go.RowKit Go.Deep
theorem own:ownKnob Tryd.prog.godebug = none:=by kernel_rfl
theorem laidOut:laidOutB Tryd.prog = true:=by kernel_rfl
theorem xa3k {x:Int} (h:(Lit.int .u8 x).wf = true):0≤x∧x < 256:=by
  simp [Lit.wf,IntKind.min,IntKind.max,IntKind.signed,IntKind.bits] at h
  exact ⟨by omega,by omega⟩
theorem xb6g {H:Type} (d:DataW H):1≤Rows.uptoBulk d:=by
  cases d with
  | lit l=>cases l <;> simp [Rows.uptoBulk]
  | nil=>simp [Rows.uptoBulk]
  | ptr d=>simp [Rows.uptoBulk]
  | slice elems spare=>simp [Rows.uptoBulk]
  | agg parts=>simp [Rows.uptoBulk]
  | iface t d=>simp [Rows.uptoBulk]
  | map entries=>simp [Rows.uptoBulk]
  | held h=>simp [Rows.uptoBulk]
theorem xb4u {H:Type} (l:List (DataW H)):l.length≤Rows.uptoBulkAll l:=by
  induction l with
  | nil=>simp [Rows.uptoBulkAll]
  | cons x r ih=>have:=xb6g x; simp only [Rows.uptoBulkAll,List.length_cons]; omega
section
variable {H:Type} {enc:TypeId × Value→H} {W:World}
theorem xa3c {fuel:Nat} {cs:List Value} {x:DataW H × List MemPlace} (h:DataW.trod enc Tryd.prog W 0 (fun _=>true) true fuel 23 cs = some x) :
    ∃ v bs,cs = [v]∧(bs.length≤140737488355328→Rd W v bs)∧((bs = []∧x.1 = .nil)∨∃ elems spare,x.1 = .slice elems spare∧elems.length = bs.length):=by
  rcases open_ints Tryd.underlying23 Tryd.underlying5 (by kernel_rfl) h with ⟨rfl,rfl⟩ | ⟨a,len,cap,zs,rfl,_,hl,hm,hz,rfl,hcell,hwz⟩
  · exact ⟨_,[],rfl,fun _=>Rd.nil W,.inl ⟨rfl,rfl⟩⟩
  · have h2:(lits (H:=H) .u8 (zs.take len)).length = len:=by simp only [lits,List.length_map,List.length_take]; simp at hz; omega
    have hbl:((zs.take len).map Int.toNat).length = len:=by simp at hz; simp; omega
    refine ⟨_,(zs.take len).map Int.toNat,rfl,fun hB=>⟨_,_,_,rfl,hbl,hl,⟨by unfold maxLen at hm; omega,by omega⟩,by simp,?_,?_⟩,.inr ⟨_,_,rfl,by rw [h2,hbl]⟩⟩
    · intro y hy
      obtain ⟨z,hz1,rfl⟩:=List.mem_map.1 hy
      have:=xa3k (hwz z (List.mem_of_mem_take hz1)); omega
    · intro hp
      simp at hz
      have hc0:=hcell 0 (by omega)
      obtain ⟨b,off,spot⟩:=a
      have hspot:spot = none:=by simpa [Addr.add] using World.cell?_spot hc0
      subst hspot
      refine ⟨b,off,rfl,fun i hi=>?_⟩
      have hc:=hcell i (by omega)
      have hzi:i < zs.length:=by omega
      rw [Addr.add_mid] at hc
      rw [hc]
      have hw:=xa3k (hwz (zs[i]) (List.getElem_mem hzi))
      simp only [List.getD_eq_getElem?_getD,List.getElem?_eq_getElem hzi,Option.getD_some,List.getElem?_map,List.getElem?_take,hi,if_true,Option.map_some]
      simp [u8]; omega
theorem xa3f {d:DataW H} {bs:List Nat} (hx:(bs = []∧d = .nil)∨∃ elems spare,d = .slice elems spare∧elems.length = bs.length):bs.length + 1≤Rows.uptoBulk d:=by
  rcases hx with ⟨rfl,rfl⟩ | ⟨elems,spare,rfl,he⟩
  · simp [Rows.uptoBulk]
  · have:=xb4u elems
    simp only [Rows.uptoBulk]; omega
end
end
end Go.Proofs.YtepmjkkjhjkdgaaDoor
