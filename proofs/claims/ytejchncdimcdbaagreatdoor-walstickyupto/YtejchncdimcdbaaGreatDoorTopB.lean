import Derived.Test.YtejchncdimcdbaaGreatDoorTopA
namespace Go.Proofs.YtejchncdimcdbaaGreatDoor
set_option linter.unusedVariables false
set_option linter.unusedSimpArgs false
set_option maxRecDepth 100000
section
open Go.RowKit Go.BigFrame
theorem Wn.notNew {w0 w:World} {b:Nat} {v:Value} {bs:List Nat} (h:Wn w0 w b v bs):w.heap.size∉b :: v.ownBlock.toList:=by
 intro hx
 rcases List.mem_cons.1 hx with hx | hx
 ·have:=h.at_.lt; omega
 ·have:=h.at_.ownlt (g:=w.heap.size) (by simpa [Option.mem_toList] using hx); omega
theorem xa3z (w:World) (a:Obj) (b:Obj):((w.alloc a).alloc b).heap[w.heap.size + 1]? = some b:=by
 have h9:=heap_alloc_new (w.alloc a) b
 have e:(w.alloc a).heap.size = w.heap.size + 1:=Array.size_push _
 rw [e] at h9
 exact h9
set_option maxHeartbeats 1000000 in
theorem xa6i {w0 w:World} {b:Nat} {v:Value} {bs:List Nat} (e:En) (kv vv:Value) (h:Wn w0 w b v bs) (he:OkE w0 e kv vv) (hl:bs.length + e.key.length + e.val.length≤1000000000000) :
  Calls Tryz.prog 146 #[.pointer (some ⟨b,0,none⟩),.agg (enC e kv vv)] w fun r w'=>r = .returned (.tuple #[])∧∃ v',Wn w0 w' b v' (bs++enB e):=by
 have HW:=hide h
 have HE:=hide he
 have hk:=he.k
 obtain ⟨a1,n1,c1,rfl,hn1,_⟩:=id he.key
 obtain ⟨a2,n2,c2,rfl,hn2,_⟩:=id he.val
 obtain ⟨k,key,val⟩:=e
 simp only at hn1 hn2 hk hl
 subst hn1
 subst hn2
 clear h he
 unfold enC
 have HG:=hide (heap_alloc_new w (.cells #[.int .u8 (k:Int),.slice a1 key.length c1,.slice a2 val.length c2] 89))
 have HWW:=hide ((uh HW).pass ((Kept.refl [] w).alloc (.cells #[.int .u8 (k:Int),.slice a1 key.length c1,.slice a2 val.length c2] 89)))
 have HNN:=hide (uh HW).notNew
 go_enter Tryz.func146,Tryz.ntmps146
 go_wp2_with fail
 obtain ⟨W,hW⟩:∃ W,w.alloc (.cells #[.int .u8 (k:Int),.slice a1 key.length c1,.slice a2 val.length c2] 89) = W:=⟨_,rfl⟩
 rw [hW] at HG HWW ⊢
 clear hW
 have HC0:=hide (by rw [cell_of_row _ _ _ _ _ _ (uh HG)]; rfl:W.cell? ⟨w.heap.size,0,none⟩ = some (.int .u8 (k:Int)))
 have HC1:=hide (by rw [cell_of_row _ _ _ _ _ _ (uh HG)]; rfl:W.cell? ⟨w.heap.size,1,none⟩ = some (.slice a1 key.length c1))
 have HC2:=hide (by rw [cell_of_row _ _ _ _ _ _ (uh HG)]; rfl:W.cell? ⟨w.heap.size,2,none⟩ = some (.slice a2 val.length c2))
 refine Calls.mono (xb4h b v bs k W (uh HWW).at_ hk (by omega)) ?_
 rintro r w1 ⟨rfl,v1,h1,g1⟩
 have d0:=g1.kept.cell (uh HC0) (uh HNN)
 have d1:=g1.kept.cell (uh HC1) (uh HNN)
 have HW1:=hide ((uh HWW).grew h1 g1)
 have HG1:=hide g1
 rw [show bs++wide k 1 = bs++[k] by simp [wide,Nat.mod_eq_of_lt hk]] at HW1
 clear h1 g1
 have HU1:=hide (uv_len key.length (by omega))
 have HU2:=hide (uv_len val.length (by omega))
 go_wp2_with fail
 refine Calls.mono (xa6u b v1 _ (bs++[k]) key w1 (uh HW1).at_ (fun w' kk=>(uh HW1).rd (uh HE).key kk) (by simp only [List.length_append,List.length_cons,List.length_nil]; omega)) ?_
 rintro r w2 ⟨rfl,v2,h2,g2⟩
 have g12:=(uh HG1).trans g2
 have q0:=g12.kept.cell (uh HC0) (uh HNN)
 have q2:=g12.kept.cell (uh HC2) (uh HNN)
 have HW2:=hide ((uh HW1).grew h2 g2)
 clear h2 g2 g12 d0 d1
 by_cases hk1:k = 1
 ·have e1:((k:Int) == 1) = true:=by rw [hk1]; rfl
  have HB:=hide (by simp [enB,hk1]:enB ⟨k,key,val⟩ = k :: (uv key.length++key++(uv val.length++val)))
  clear hk1
  go_wp2_with fail
  refine Calls.mono (xb8n (uh HW2) (uh HE).val (by have:=uh HU1; have:=uh HU2; simp only [List.length_append,List.length_cons,List.length_nil]; omega)) ?_
  rintro r w3 ⟨rfl,v3,h3⟩
  have HW3:=hide h3
  clear h3
  go_wp2
  go_end0
  refine ⟨rfl,v3,?_⟩
  rw [uh HB]
  have h9:=uh HW3
  simpa only [List.append_assoc,List.cons_append,List.nil_append] using h9
 ·have e1:((k:Int) == 1) = false:=by rw [beq_eq_false_iff_ne]; omega
  have HB:=hide (by simp [enB,hk1]:enB ⟨k,key,val⟩ = k :: (uv key.length++key))
  clear hk1
  go_wp2
  go_end0
  refine ⟨rfl,v2,?_⟩
  rw [uh HB]
  have h9:=uh HW2
  simpa only [List.append_assoc,List.cons_append,List.nil_append] using h9

theorem xa9t {w:World} {g:Nat} {a b c:Value} {t:TypeId} (h:w.heap[g]? = some (.cells #[a,b,c] t (0,0))) (x y z:Value):(((w.setCell ⟨g,0,none⟩ x).setCell ⟨g,1,none⟩ y).setCell ⟨g,2,none⟩ z).heap[g]? = some (.cells #[x,y,z] t (0,0)):=by
 rw [heap_setCell_same _ g 2 _ t _ (heap_setCell_same _ g 1 _ t _ (heap_setCell_same w g 0 _ t _ h))]; rfl
theorem xa3c {L:List Nat} {w0 w:World} (k:Kept L w0 w) (g:Nat) (hg:g∈L∨w0.heap.size≤g) (x y z:Value):Kept L w0 (((w.setCell ⟨g,0,none⟩ x).setCell ⟨g,1,none⟩ y).setCell ⟨g,2,none⟩ z):=((k.setCell hg x).setCell hg y).setCell hg z
theorem Tryz.size_entry:(Tryz.prog.info? 89).map (·.size) = some 3:=by kernel_rfl
theorem xb4v (v:Value) (bs:List Nat) (w:World) (h:Rd w v bs) :
  Calls Tryz.prog 82 #[v] w fun e w'=>∃ v',e = .returned v'∧Rd w' v' bs∧(∀ x∈blk v',w.heap.size≤x)∧Kept [] w w' :=
 (xb6j v bs w h).mono fun e w' ⟨h1,h2,h3⟩=>⟨_,h1,xa3a h3 h.byte h.len,by simp [blk],h2⟩
set_option maxHeartbeats 1000000 in
theorem xa5p (e:En) (kv vv:Value) (w:World) (h:OkE w e kv vv) :
  Calls Tryz.prog 111 #[.agg (enC e kv vv)] w fun r w'=>∃ kv' vv',r = .returned (.agg (enC e kv' vv'))∧OkE w' e kv' vv'∧Kept [] w w'∧∀ y,y∈blk kv'∨y∈blk vv'→w.heap.size≤y:=by
 have H:=hide h
 obtain ⟨k,key,val⟩:=e
 clear h
 unfold enC
 simp only
 have HG:=hide (((Kept.refl [] (w.alloc (.cells #[.int .u8 (k:Int),kv,vv] 89))).alloc (.cells #[.int .u8 0,.slice none 0 0,.slice none 0 0] 89)).heap (heap_alloc_new w (.cells #[.int .u8 (k:Int),kv,vv] 89)) (by simp))
 have HZ:=hide (xa3z w (.cells #[.int .u8 (k:Int),kv,vv] 89) (.cells #[.int .u8 0,.slice none 0 0,.slice none 0 0] 89))
 have HK0:=hide (((Kept.refl [] w).alloc (.cells #[.int .u8 (k:Int),kv,vv] 89)).alloc (.cells #[.int .u8 0,.slice none 0 0,.slice none 0 0] 89))
 have HSZ:=hide (show ((w.alloc (.cells #[.int .u8 (k:Int),kv,vv] 89)).alloc (.cells #[.int .u8 0,.slice none 0 0,.slice none 0 0] 89)).heap.size = w.heap.size + 2 by simp)
 go_enter Tryz.func111,Tryz.ntmps111
 go_wp2_with fail
 obtain ⟨W,hW⟩:∃ W,(w.alloc (.cells #[.int .u8 (k:Int),kv,vv] 89)).alloc (.cells #[.int .u8 0,.slice none 0 0,.slice none 0 0] 89) = W:=⟨_,rfl⟩
 rw [hW] at HG HZ HK0 HSZ ⊢
 clear hW
 have x0:W.cell? ⟨w.heap.size,0,none⟩ = some (.int .u8 (k:Int)):=by rw [cell_of_row _ _ _ _ _ _ (uh HG)]; rfl
 have x1:W.cell? ⟨w.heap.size,1,none⟩ = some kv:=by rw [cell_of_row _ _ _ _ _ _ (uh HG)]; rfl
 have x2:W.cell? ⟨w.heap.size,2,none⟩ = some vv:=by rw [cell_of_row _ _ _ _ _ _ (uh HG)]; rfl
 have HX0:=hide x0
 have HX1:=hide x1
 have HX2:=hide x2
 have HKW:=hide (((uh H).key.old (uh HK0) (by simp)).old (Kept.refl [] W).drew (by simp))
 have HVW:=hide ((uh H).val.old (uh HK0) (by simp))
 have hne:w.heap.size≠w.heap.size + 1:=by omega
 go_region_held3 (fun w'=>w'.cell? ⟨w.heap.size,0,none⟩ = some (.int .u8 (k:Int))∧w'.cell? ⟨w.heap.size,1,none⟩ = some kv∧w'.cell? ⟨w.heap.size,2,none⟩ = some vv) (go_keep) (first
  | (go_at_call 82; refine (xb4v _ key _ (by exact uh HKW)).mono ?_; rintro e w3 ⟨v3,rfl,r3,n3,k3⟩; obtain ⟨a3,m3,c3,hu3,_⟩:=id r3; subst hu3; have HR3:=hide r3; have HN3:=hide (show ∀ x∈blk (.slice a3 m3 c3),W.heap.size≤x from n3); have K3:=(Kept.refl [] W).drew.trans k3 (by simp); have HK3:=hide K3; have HV3:=hide ((uh HVW).old K3 (by simp)); have y0:=K3.cell (uh HX0) (by simp); have y1:=K3.cell (uh HX1) (by simp); have y2:=K3.cell (uh HX2) (by simp); clear K3 k3 r3 n3)
  | (go_at_call 82; refine (xb4v _ val _ (by exact uh HV3)).mono ?_; rintro e w4 ⟨v4,rfl,r4,n4,k4⟩; obtain ⟨a4,m4,c4,hu4,_⟩:=id r4; subst hu4; have HR4:=hide r4; have HN4:=hide n4; have HS4:=hide (uh HK3).size; have HQ4:=hide ((uh HR3).old k4 (by simp)); have K4:=(uh HK3).trans k4 (by simp); have HK4:=hide K4; have z0:=K4.cell (uh HX0) (by simp); have z1:=K4.cell (uh HX1) (by simp); have z2:=K4.cell (uh HX2) (by simp); have HZ4:=hide (K4.heap (uh HZ) (by simp)); have t0:=cell_of_row _ _ 0 _ _ _ (uh HZ4); have t1:=cell_of_row _ _ 1 _ _ _ (uh HZ4); have t2:=cell_of_row _ _ 2 _ _ _ (uh HZ4); have f0:=frozen_of_row _ _ 0 _ _ (uh HZ4); have f1:=frozen_of_row _ _ 1 _ _ (uh HZ4); have f2:=frozen_of_row _ _ 2 _ _ (uh HZ4); clear K4 k4 r4 n4))
 all_goals go_wp2
 all_goals
  refine bodyPost_ret (v:=.agg #[.int .u8 (k:Int),.slice a3 m3 c3,.slice a4 m4 c4]) ?_ rfl ⟨.slice a3 m3 c3,.slice a4 m4 c4,rfl,⟨(uh H).k,?_,?_⟩,?_,?_⟩
  ·exact results_cell_row rfl _ _ (w.heap.size + 1) _ #[.int .u8 (k:Int),.slice a3 m3 c3,.slice a4 m4 c4] (0,0) _ rfl (by exact xa9t (uh HZ4) _ _ _) Tryz.underlying89 rfl Tryz.size_entry
  ·refine (uh HQ4).kept (xa3c (Kept.refl [w.heap.size + 1] w4) (w.heap.size + 1) (Or.inl (by simp)) _ _ _) ?_
   intro x hx hm
   have h9:=uh HN3 x hx
   have h8:x = w.heap.size + 1:=by simpa using hm
   have h7:=uh HSZ
   omega
  ·refine (uh HR4).kept (xa3c (Kept.refl [w.heap.size + 1] w4) (w.heap.size + 1) (Or.inl (by simp)) _ _ _) ?_
   intro x hx hm
   have h9:=uh HN4 x hx
   have h8:x = w.heap.size + 1:=by simpa using hm
   have h7:=uh HSZ
   have h6:=uh HS4
   omega
  ·exact xa3c ((uh HK0).trans (uh HK4) (by simp)) (w.heap.size + 1) (Or.inr (by omega)) _ _ _
  ·intro y hy
   have h7:=uh HSZ
   have h6:=uh HS4
   rcases hy with hy | hy
   ·have h9:=uh HN3 y hy; omega
   ·have h9:=uh HN4 y hy; omega
theorem Kept.setRowE {L:List Nat} {a w:World} (h:Kept L a w) {g:Nat} (hg:g∈L∨a.heap.size≤g) (cs:Array Value):Kept L a (w.setRow g cs) :=
 h.trans (M:=[g]) ⟨rfl,rfl,rfl,by simp [World.setRow],fun k _ hn=>setRow_other w g k _ (by simpa using hn)⟩ (by simpa using hg)
theorem xa8t {a b c:Value} (ha:a.oneCell' = true) (hb:b.oneCell' = true) (hc:c.oneCell' = true):(#[a,b,c]:Array Value).all (·.oneCell') = true:=by simp [ha,hb,hc]
def gave (f:Nat):List PanicEntry:=[{ v:=.iface 300 (.agg #[.int .i64 (f:Int)]),recovered:=false }]
set_option maxHeartbeats 1000000 in
theorem xa1w (w:World):Calls Tryz.prog 166 #[.int .i64 0] w fun r w'=>r = .returned (.tuple #[])∧w' = w:=by
 go_enter Tryz.func166,Tryz.ntmps166
 go_wp2
 go_end0
 exact ⟨rfl,rfl⟩
set_option maxHeartbeats 1000000 in
theorem xa1e (f:Nat) (w:World) (hf:f≠0):Calls Tryz.prog 166 #[.int .i64 f] w fun r w'=>r = .panicked (gave f)∧w' = w:=by
 have hb:((f:Int) != 0) = true:=by rw [bne_iff_ne]; omega
 go_enter Tryz.func166,Tryz.ntmps166
 go_wp2
 exact ⟨rfl,rfl,rfl⟩
def takeE (p:List Nat) (i:Nat):En × Nat × Nat :=
 if (rNum p i 0 1).1 % 256 = 1∨(rNum p i 0 1).1 % 256 = 2 then
  if (rNum p i 0 1).1 % 256 = 1 then
   (⟨1,(rBlob p (rNum p i 0 1).2.1 (rNum p i 0 1).2.2 64).1,(rBlob p (rBlob p (rNum p i 0 1).2.1 (rNum p i 0 1).2.2 64).2.1 (rBlob p (rNum p i 0 1).2.1 (rNum p i 0 1).2.2 64).2.2 256).1⟩,
    (rBlob p (rBlob p (rNum p i 0 1).2.1 (rNum p i 0 1).2.2 64).2.1 (rBlob p (rNum p i 0 1).2.1 (rNum p i 0 1).2.2 64).2.2 256).2)
  else (⟨2,(rBlob p (rNum p i 0 1).2.1 (rNum p i 0 1).2.2 64).1,[]⟩,(rBlob p (rNum p i 0 1).2.1 (rNum p i 0 1).2.2 64).2)
 else (⟨0,[],[]⟩,(rNum p i 0 1).2.1,3)
def TookE (w w':World) (b:Nat) (gv:Value) (p:List Nat) (x:En × Nat × Nat) (r:Ending):Prop :=
 (x.2.2 = 0→∃ kv vv,r = .returned (.agg (enC x.1 kv vv))∧OkE w' x.1 kv vv∧ReAt w' b gv p x.2.1 0∧∀ y,y∈blk kv∨y∈blk vv→w.heap.size≤y)∧(x.2.2≠0→r = .panicked (gave x.2.2))∧Kept [b] w w'
set_option maxHeartbeats 2000000 in
theorem xa4p (b:Nat) (gv:Value) (p:List Nat) (i:Nat) (w:World) (h:ReAt w b gv p i 0) (hgv:∀ x∈blk gv,x < w.heap.size) :
  Calls Tryz.prog 216 #[.pointer (some ⟨b,0,none⟩)] w fun r w'=>TookE w w' b gv p (takeE p i) r:=by
 have H:=hide h
 have hlt:=h.lt
 obtain ⟨T,hT⟩:∃ T,takeE p i = T:=⟨_,rfl⟩
 rw [hT]
 have HT:=hide hT
 unfold takeE at HT
 clear hT h
 have HZ:=hide (heap_alloc_new w (.cells #[.int .u8 0,.slice none 0 0,.slice none 0 0] 89))
 have HK0:=hide ((Kept.refl [b] w).alloc (.cells #[.int .u8 0,.slice none 0 0,.slice none 0 0] 89))
 have HR0:=hide ((uh H).kept ((Kept.refl [] w).alloc (.cells #[.int .u8 0,.slice none 0 0,.slice none 0 0] 89)) (by simp) (by simp))
 go_enter Tryz.func216,Tryz.ntmps216
 go_wp2_with fail
 refine Calls.mono (xb4e b gv p i 0 _ (uh HR0)) ?_
 rintro r w1 ⟨rfl,r1,k1⟩
 have hne0:w.heap.size≠b:=by omega
 have HZ1:=hide (k1.heap (uh HZ) (by simpa using hne0))
 have HK1:=hide ((uh HK0).trans k1 (by simp))
 obtain ⟨x,hx⟩:∃ x,rNum p i 0 1 = x:=⟨_,rfl⟩
 rw [hx] at HT r1 ⊢
 clear hx
 obtain ⟨x,i1,e1⟩:=x
 simp only at HT r1 ⊢
 have HR1:=hide r1
 clear r1 k1
 obtain ⟨k,hk⟩:∃ k,x % 256 = k:=⟨_,rfl⟩
 have hkl:k < 256:=by rw [← hk]; exact Nat.mod_lt _ (by decide)
 rw [hk] at HT ⊢
 clear hk
 have hs1:=(uh HK1).size
 have hs1':w.heap.size < w1.heap.size:=by have:=(uh HK1).size; have h9:=lt_of_block (uh HZ1); exact h9
 have HG1:=hide (heap_alloc_new w1 (.cells #[.int .u8 (k:Int),.slice none 0 0,.slice none 0 0] 89))
 go_wp2_with fail
 refine Calls.mono (xa4s k _) ?_
 rintro r w2 ⟨rfl,rfl⟩
 have HK1a:=hide ((uh HK1).alloc (.cells #[.int .u8 (k:Int),.slice none 0 0,.slice none 0 0] 89))
 have HRW:=hide ((uh HR1).kept ((Kept.refl [] w1).alloc (.cells #[.int .u8 (k:Int),.slice none 0 0,.slice none 0 0] 89)) (by simp) (by simp))
 by_cases hk12:¬ (k = 1∨k = 2)
 ·rw [decide_eq_false hk12]
  have HT2:=hide (by rw [← uh HT,if_neg hk12]:T = (⟨0,[],[]⟩,i1,3))
  clear hk12
  go_wp2_with fail
  refine Calls.mono (xa1e 3 _ (by decide)) ?_
  rintro r w3 ⟨rfl,rfl⟩
  exact ⟨rfl,fun h=>absurd h (by rw [uh HT2]; simp),fun _=>by rw [uh HT2],uh HK1a⟩
 replace hk12:=Decidable.not_not.1 hk12
 rw [decide_eq_true hk12]
 have HT1:=hide (by have h9:=uh HT; rw [if_pos hk12] at h9; exact h9)
 have HK12:=hide hk12
 clear hk12 HT
 go_wp2_with fail
 refine Calls.mono (xa6v b gv p i1 e1 64 _ (uh HRW) (by decide)) ?_
 rintro r w3 ⟨kv,rfl,rd3,r3,k3,n3⟩
 obtain ⟨y,hy⟩:∃ y,rBlob p i1 e1 64 = y:=⟨_,rfl⟩
 rw [hy] at HT1 rd3 r3
 clear hy
 obtain ⟨key,i2,e2⟩:=y
 simp only at HT1 rd3 r3
 have hneg:w1.heap.size≠b:=by omega
 have HG3:=hide (k3.heap (uh HG1) (by simpa using hneg))
 have HZ3:=hide (k3.heap ((Kept.refl [] w1).alloc (.cells #[.int .u8 (k:Int),.slice none 0 0,.slice none 0 0] 89) |>.heap (uh HZ1) (by simp)) (by simpa using hne0))
 have HK3:=hide ((uh HK1a).trans k3 (by simp))
 have HN3:=hide (show ∀ x∈blk kv,w1.heap.size + 1≤x from fun x hx=>by have h9:=n3 x hx; rw [show (w1.alloc (.cells #[.int .u8 (k:Int),.slice none 0 0,.slice none 0 0] 89)).heap.size = w1.heap.size + 1 from Array.size_push _] at h9; exact h9)
 obtain ⟨a3,m3,c3,hu3,_⟩:=id rd3
 subst hu3
 have HD3:=hide rd3
 have HR3:=hide r3
 clear rd3 r3 k3 n3
 have s0:=cell_of_row _ _ 0 _ _ _ (uh HG3)
 have s1:=cell_of_row _ _ 1 _ _ _ (uh HG3)
 have f1:=frozen_of_row _ _ 1 _ _ (uh HG3)
 have HG4:=hide (by have h9:=heap_setCell_same _ w1.heap.size 1 _ 89 (.slice a3 m3 c3) (uh HG3); exact h9:(w3.setCell ⟨w1.heap.size,1,none⟩ (.slice a3 m3 c3)).heap[w1.heap.size]? = some (.cells #[.int .u8 (k:Int),.slice a3 m3 c3,.slice none 0 0] 89 (0,0)))
 have kst:=(Kept.refl [w1.heap.size] w3).setCell (p:=⟨w1.heap.size,1,none⟩) (Or.inl (by simp)) (.slice a3 m3 c3)
 have HZ4:=hide (kst.heap (uh HZ3) (by simp; omega))
 have HK4:=hide ((uh HK3).setCell (p:=⟨w1.heap.size,1,none⟩) (Or.inr (by show w.heap.size≤w1.heap.size; omega)) (.slice a3 m3 c3))
 have HR4:=hide ((uh HR3).kept kst (by simp; omega) (fun x hx=>by simp; have h9:=hgv x hx; omega))
 have HD4:=hide ((uh HD3).kept kst (fun x hx=>by simp; have h9:=uh HN3 x hx; omega))
 clear kst
 have t0:=cell_of_row _ _ 0 _ _ _ (uh HG4)
 by_cases hk1:k = 1
 ·have hb1:((k:Int) == 1) = true:=by rw [hk1]; rfl
  have HT2:=hide (by have h9:=uh HT1; rw [if_pos hk1] at h9; exact h9.symm)
  have HKK:=hide hk1
  clear hk1 HT1
  go_wp2_with fail
  obtain ⟨W4,hW4⟩:∃ W,w3.setCell ⟨w1.heap.size,1,none⟩ (.slice a3 m3 c3) = W:=⟨_,rfl⟩
  rw [hW4] at HG4 HZ4 HK4 HR4 HD4 t0 ⊢
  clear hW4 s0 s1 f1 HG3 HR3 HD3
  refine Calls.mono (xa6v b gv p i2 e2 256 W4 (uh HR4) (by decide)) ?_
  rintro r w5 ⟨vv,rfl,rd5,r5,k5,n5⟩
  obtain ⟨y,hy⟩:∃ y,rBlob p i2 e2 256 = y:=⟨_,rfl⟩
  rw [hy] at HT2 rd5 r5
  clear hy
  obtain ⟨val,iF,eF⟩:=y
  simp only at HT2 rd5 r5
  have HG5:=hide (k5.heap (uh HG4) (by simpa using hneg))
  have HZ5:=hide (k5.heap (uh HZ4) (by simpa using hne0))
  have HK5:=hide ((uh HK4).trans k5 (by simp))
  have hsz4:w1.heap.size < W4.heap.size:=lt_of_block (uh HG4)
  have HN5:=hide (show ∀ x∈blk vv,w1.heap.size + 1≤x from fun x hx=>by have h9:=n5 x hx; omega)
  have HD5:=hide ((uh HD4).kept k5 (fun x hx=>by simp; have h9:=uh HN3 x hx; omega))
  obtain ⟨a5,m5,c5,hu5,_⟩:=id rd5
  subst hu5
  have HV5:=hide rd5
  have HR5:=hide r5
  clear rd5 r5 k5 n5
  have s2:=cell_of_row _ _ 2 _ _ _ (uh HG5)
  have f2:=frozen_of_row _ _ 2 _ _ (uh HG5)
  have kst:=(Kept.refl [w1.heap.size] w5).setCell (p:=⟨w1.heap.size,2,none⟩) (Or.inl (by simp)) (.slice a5 m5 c5)
  have HGF:=hide (by have h9:=heap_setCell_same _ w1.heap.size 2 _ 89 (.slice a5 m5 c5) (uh HG5); exact h9:(w5.setCell ⟨w1.heap.size,2,none⟩ (.slice a5 m5 c5)).heap[w1.heap.size]? = some (.cells #[.int .u8 (k:Int),.slice a3 m3 c3,.slice a5 m5 c5] 89 (0,0)))
  have HZF:=hide (kst.heap (uh HZ5) (by simp; omega))
  have HKF:=hide ((uh HK5).setCell (p:=⟨w1.heap.size,2,none⟩) (Or.inr (by show w.heap.size≤w1.heap.size; omega)) (.slice a5 m5 c5))
  have HRF:=hide ((uh HR5).kept kst (by simp; omega) (fun x hx=>by simp; have h9:=hgv x hx; omega))
  have HDF:=hide ((uh HD5).kept kst (fun x hx=>by simp; have h9:=uh HN3 x hx; omega))
  have HVF:=hide ((uh HV5).kept kst (fun x hx=>by simp; have h9:=uh HN5 x hx; omega))
  clear kst
  go_wp2_with fail
  obtain ⟨WF,hWF⟩:∃ W,w5.setCell ⟨w1.heap.size,2,none⟩ (.slice a5 m5 c5) = W:=⟨_,rfl⟩
  rw [hWF] at HGF HZF HKF HRF HDF HVF ⊢
  clear hWF s2 f2
  have krow:=(Kept.refl [w.heap.size] WF).setRowE (g:=w.heap.size) (Or.inl (by simp)) #[.int .u8 (k:Int),.slice a3 m3 c3,.slice a5 m5 c5]
  have HRR:=hide ((uh HRF).kept krow (by simp; omega) (fun x hx=>by simp; have h9:=hgv x hx; omega))
  have HOKF:=hide (⟨by show (1:Nat) < 256; omega,(uh HDF).kept krow (fun x hx=>by simp; have h9:=uh HN3 x hx; omega),(uh HVF).kept krow (fun x hx=>by simp; have h9:=uh HN5 x hx; omega)⟩:OkE (WF.setRow w.heap.size #[.int .u8 (k:Int),.slice a3 m3 c3,.slice a5 m5 c5]) ⟨1,key,val⟩ (.slice a3 m3 c3) (.slice a5 m5 c5))
  have HNEW:=hide (show ∀ y,y∈blk (.slice a3 m3 c3)∨y∈blk (.slice a5 m5 c5)→w.heap.size≤y from fun y hy=>by rcases hy with h | h; have h9:=uh HN3 y h; omega; have h9:=uh HN5 y h; omega)
  clear krow
  go_wp2_with fail
  refine Calls.mono (xa0k b gv p iF eF WF (uh HRF)) ?_
  rintro r w5 ⟨rfl,rfl⟩
  by_cases hE:eF = 0
  ·subst hE
   go_wp2_with fail
   refine Calls.mono (xa1w _) ?_
   rintro r w6 ⟨rfl,rfl⟩
   go_wp2_with (first
    | (refine wpList_load_row rfl 89 _ rfl w1.heap.size rfl _ #[.int .u8 (k:Int),.slice a3 m3 c3,.slice a5 m5 c5] (0,0) _ (uh HGF) Tryz.underlying89 rfl Tryz.size_entry ?_)
    | (refine wpList_store_row rfl 89 _ _ rfl w.heap.size #[.int .u8 (k:Int),.slice a3 m3 c3,.slice a5 m5 c5] rfl rfl _ #[.int .u8 0,.slice none 0 0,.slice none 0 0] (uh HZF) Tryz.size_entry rfl (xa8t rfl rfl rfl) ?_))
   refine bodyPost_ret (v:=.agg #[.int .u8 (k:Int),.slice a3 m3 c3,.slice a5 m5 c5]) ?_ rfl ⟨fun _=>⟨.slice a3 m3 c3,.slice a5 m5 c5,by rw [uh HT2,uh HKK]; rfl,?_,?_,?_⟩,fun h=>absurd (by rw [uh HT2]) h,(uh HKF).setRowE (Or.inr (Nat.le_refl _)) _⟩
   ·exact results_cell_row rfl _ _ w.heap.size _ #[.int .u8 (k:Int),.slice a3 m3 c3,.slice a5 m5 c5] (0,0) _ rfl (setRow_heap _ _ _ _ _ _ (uh HZF)) Tryz.underlying89 rfl Tryz.size_entry
   ·rw [uh HT2]; exact uh HOKF
   ·rw [uh HT2]; exact uh HRR
   ·exact uh HNEW
  ·have HT3:=hide (by rw [uh HT2]; exact hE:T.2.2≠0)
   have HE:=hide hE
   go_wp2_with fail
   refine Calls.mono (xa1e eF _ hE) ?_
   rintro r w6 ⟨rfl,rfl⟩
   exact ⟨rfl,fun h=>absurd h (uh HT3),fun _=>by rw [uh HT2],uh HKF⟩
 ·have hb1:((k:Int) == 1) = false:=by rw [beq_eq_false_iff_ne]; omega
  have hk2:k = 2:=by have h9:=uh HK12; omega
  have HT2:=hide (by have h9:=uh HT1; rw [if_neg hk1] at h9; exact h9.symm)
  have HKK:=hide hk2
  clear hk1 hk2 HT1
  go_wp2_with fail
  obtain ⟨WF,hWF⟩:∃ W,w3.setCell ⟨w1.heap.size,1,none⟩ (.slice a3 m3 c3) = W:=⟨_,rfl⟩
  rw [hWF] at HG4 HZ4 HK4 HR4 HD4 t0 ⊢
  clear hWF s0 s1 f1 HG3 HR3 HD3
  have HGF:=HG4
  have HZF:=HZ4
  have HKF:=HK4
  have HRF:=HR4
  have krow:=(Kept.refl [w.heap.size] WF).setRowE (g:=w.heap.size) (Or.inl (by simp)) #[.int .u8 (k:Int),.slice a3 m3 c3,.slice none 0 0]
  have HRR:=hide ((uh HRF).kept krow (by simp; omega) (fun x hx=>by simp; have h9:=hgv x hx; omega))
  have HOKF:=hide (⟨by show (2:Nat) < 256; omega,(uh HD4).kept krow (fun x hx=>by simp; have h9:=uh HN3 x hx; omega),Rd.nil _⟩:OkE (WF.setRow w.heap.size #[.int .u8 (k:Int),.slice a3 m3 c3,.slice none 0 0]) ⟨2,key,[]⟩ (.slice a3 m3 c3) (.slice none 0 0))
  have HNEW:=hide (show ∀ y,y∈blk (.slice a3 m3 c3)∨y∈blk (.slice none 0 0)→w.heap.size≤y from fun y hy=>by rcases hy with h | h; have h9:=uh HN3 y h; omega; simp [blk] at h)
  clear krow
  go_wp2_with fail
  refine Calls.mono (xa0k b gv p i2 e2 WF (uh HRF)) ?_
  rintro r w5 ⟨rfl,rfl⟩
  by_cases hE:e2 = 0
  ·subst hE
   go_wp2_with fail
   refine Calls.mono (xa1w _) ?_
   rintro r w6 ⟨rfl,rfl⟩
   go_wp2_with (first
    | (refine wpList_load_row rfl 89 _ rfl w1.heap.size rfl _ #[.int .u8 (k:Int),.slice a3 m3 c3,.slice none 0 0] (0,0) _ (uh HGF) Tryz.underlying89 rfl Tryz.size_entry ?_)
    | (refine wpList_store_row rfl 89 _ _ rfl w.heap.size #[.int .u8 (k:Int),.slice a3 m3 c3,.slice none 0 0] rfl rfl _ #[.int .u8 0,.slice none 0 0,.slice none 0 0] (uh HZF) Tryz.size_entry rfl (xa8t rfl rfl rfl) ?_))
   refine bodyPost_ret (v:=.agg #[.int .u8 (k:Int),.slice a3 m3 c3,.slice none 0 0]) ?_ rfl ⟨fun _=>⟨.slice a3 m3 c3,.slice none 0 0,by rw [uh HT2,uh HKK]; rfl,?_,?_,?_⟩,fun h=>absurd (by rw [uh HT2]) h,(uh HKF).setRowE (Or.inr (Nat.le_refl _)) _⟩
   ·exact results_cell_row rfl _ _ w.heap.size _ #[.int .u8 (k:Int),.slice a3 m3 c3,.slice none 0 0] (0,0) _ rfl (setRow_heap _ _ _ _ _ _ (uh HZF)) Tryz.underlying89 rfl Tryz.size_entry
   ·rw [uh HT2]; exact uh HOKF
   ·rw [uh HT2]; exact uh HRR
   ·exact uh HNEW
  ·have HT3:=hide (by rw [uh HT2]; exact hE:T.2.2≠0)
   have HE:=hide hE
   go_wp2_with fail
   refine Calls.mono (xa1e e2 _ hE) ?_
   rintro r w6 ⟨rfl,rfl⟩
   exact ⟨rfl,fun h=>absurd h (uh HT3),fun _=>by rw [uh HT2],uh HKF⟩
theorem xa7v (t:TypeId) (v:Value) (w:World):(Instr.typeAssert (.iface 300 v) t 300 true).run Tryz.prog w = .ok (.tuple #[v,.bool true]) w:=by
 unfold Instr.typeAssert
 simp [run_underlying Tryz.underlying300]
set_option maxHeartbeats 1000000 in
theorem xa9l (f:Nat) (w:World):Calls Tryz.prog 163 #[.iface 300 (.agg #[.int .i64 (f:Int)])] w fun r w'=>r = .returned (.int .i64 f)∧Kept [] w w':=by
 have HK:=hide ((Kept.refl [] w).alloc (.cells #[.int .i64 (f:Int)] 300))
 have HK2:=hide (((Kept.refl [] w).alloc (.cells #[.int .i64 0] 300)).setCell (p:=⟨w.heap.size,0,none⟩) (by simp) (.int .i64 (f:Int)))
 have ha:=xa7v
 go_enter Tryz.func163,Tryz.ntmps163
 go_wp2
 go_ret
 first | exact ⟨rfl,uh HK⟩ | exact ⟨rfl,uh HK2⟩
theorem xa0u {P:Program} {fn:Func} {p q:Tmp} {ty ty2:TypeId} (h:fn.results = #[.cell p ty,.cell q ty2]) (tmps:Array Value) (w:World) (g g2:Nat) (t t2:TypeId) (cs:Array Value) (fr fr2:Nat × Nat) (d:TypeDesc) (k:IntKind) (x:Value)
  (hp:tmps.getD p undef = .pointer (some ⟨g,0,none⟩)) (hg:w.heap[g]? = some (.cells cs t fr)) (hq:tmps.getD q undef = .pointer (some ⟨g2,0,none⟩)) (hg2:w.heap[g2]? = some (.cells #[x] t2 fr2))
  (hu:P.underlying ty = some d) (hd:(match d with | .struct _ | .array _ _=>true | _=>false) = true) (hi:(P.info? ty).map (·.size) = some cs.size) (hu2:P.underlying ty2 = some (.int k)) :
  (results fn tmps).run P w = .ok (.tuple #[.agg cs,x]) w:=by
 have hp':tmps[p]?.getD undef = .pointer (some ⟨g,0,none⟩):=by simpa using hp
 have hq':tmps[q]?.getD undef = .pointer (some ⟨g2,0,none⟩):=by simpa using hq
 have hc:w.cell? ⟨g2,0,none⟩ = some x:=by rw [cell_of_row _ _ _ _ _ _ hg2]; rfl
 have h2:(isAgg ty2).run P w = .ok false w:=by
  unfold isAgg
  rw [Sem.run_bind,run_underlying hu2 w]; simp
 have h3:(loadVar ty2 ⟨g2,0,none⟩).run P w = .ok x w:=by
  unfold loadVar
  simp only [Sem.run_bind,h2,Result.andThen_ok]
  simp [go_sem,hc]
 simp [results,h,hp',hq',asAddr,run_loadVar_row w g t ty cs fr d hg hu hd hi,h3]
def cntE (f n:Nat):Nat:=if 64 < n then 2 else if n = 0∨18446744073709551615 - f < n then 3 else 0
def leastE (a b:Nat):Nat:=if a = 0∨(b≠0∧b < a) then b else a
def chkB (f:Nat) (es:List En):Nat:=es.foldl (fun a e=>leastE a (chkE e)) (cntE f es.length)
def entB (es:List En):List Nat:=(es.map enB).flatten
def batB (f:Nat) (es:List En):List Nat:=uv f++(uv es.length++entB es)
def RdN (w:World) (v:Value) (es:List En):Prop :=
 ∃ (ao:Option Addr) (len cap:Nat) (kv vv:Nat→Value),v = .slice ao len cap∧es.length = len∧len≤cap∧cap≤9223372036854775807∧(∀ i (h:i < es.length),OkE w es[i] (kv i) (vv i)) ∧
  (0 < len→∃ b off,ao = some ⟨b,off,none⟩∧∀ i (h:i < es.length),w.rangeAt b (off + i * 3) (enC es[i] (kv i) (vv i)).toList)
theorem xa8g {L:List Nat} {w w':World} {b o:Nat} {cs:List Value} (h:w.rangeAt b o cs) (k:Kept L w w') (hb:b∉L):w'.rangeAt b o cs:=fun j v hv=>k.cell (h j v hv) hb
theorem RdN.old {w w':World} {v:Value} {es:List En} (h:RdN w v es) (k:Kept [] w w'):RdN w' v es:=by
 obtain ⟨ao,len,cap,kv,vv,h1,h2,h3,h4,h5,h6⟩:=h
 refine ⟨ao,len,cap,kv,vv,h1,h2,h3,h4,fun i hi=>(h5 i hi).old k,fun hp=>?_⟩
 obtain ⟨b,off,e,hc⟩:=h6 hp
 exact ⟨b,off,e,fun i hi=>xa8g (hc i hi) k (by simp)⟩
theorem RdN.nil (w:World):RdN w (.slice none 0 0) []:=⟨none,0,0,fun _=>undef,fun _=>undef,rfl,rfl,Nat.le_refl _,by omega,fun i h=>by simp at h,fun h=>by omega⟩
set_option maxHeartbeats 1000000 in
theorem xa1u (f n:Nat) (w:World) (hf:f < 18446744073709551616) (hn:n < 18446744073709551616) :
  Calls Tryz.prog 187 #[.int .u64 f,.int .u64 n] w fun r w'=>r = .returned (.int .i64 (cntE f n))∧w' = w:=by
 obtain ⟨E,hE⟩:∃ E,cntE f n = E:=⟨_,rfl⟩
 rw [hE]
 have HE:=hide hE
 clear hE
 have hw:IntKind.u64.wrap (18446744073709551615 - (f:Int)) = 18446744073709551615 - (f:Int):=by
  simp [IntKind.wrap,IntKind.signed,IntKind.bits]; omega
 have hw':(18446744073709551615 - (f:Int)) % 18446744073709551616 = 18446744073709551615 - (f:Int):=by omega
 go_enter Tryz.func187,Tryz.ntmps187
 by_cases h1:64 < n
 ·have h1':(64:Int) < n:=by omega
  have HE2:=hide (by rw [← uh HE]; simp [cntE,h1]:E = 2)
  go_wp2
  go_ret
  exact ⟨by rw [uh HE2]; rfl,rfl⟩
 ·have h1':¬ (64:Int) < n:=by omega
  by_cases h2:n = 0
  ·have h2':((n:Int) == 0) = true:=by rw [h2]; rfl
   have HE2:=hide (by rw [← uh HE]; simp [cntE,h2]:E = 3)
   clear h2
   go_wp2
   go_ret
   exact ⟨by rw [uh HE2]; rfl,rfl⟩
  ·have h2':((n:Int) == 0) = false:=by rw [beq_eq_false_iff_ne]; omega
   by_cases h3:18446744073709551615 - f < n
   ·have h3':18446744073709551615 - (f:Int) < n:=by omega
    have HE2:=hide (by rw [← uh HE]; simp [cntE,h1,h2,h3]:E = 3)
    go_wp2
    go_ret
    exact ⟨by rw [uh HE2]; rfl,rfl⟩
   ·have h3':¬ 18446744073709551615 - (f:Int) < n:=by omega
    have HE2:=hide (by rw [← uh HE]; simp [cntE,h1,h2,h3]:E = 0)
    go_wp2
    go_ret
    exact ⟨by rw [uh HE2]; rfl,rfl⟩
set_option maxHeartbeats 1000000 in
theorem xb3r (a b:Nat) (w:World) :
  Calls Tryz.prog 188 #[.int .i64 a,.int .i64 b] w fun r w'=>r = .returned (.int .i64 (leastE a b))∧w' = w:=by
 obtain ⟨E,hE⟩:∃ E,leastE a b = E:=⟨_,rfl⟩
 rw [hE]
 have HE:=hide hE
 clear hE
 go_enter Tryz.func188,Tryz.ntmps188
 by_cases h1:a = 0
 ·have h1':((a:Int) == 0) = true:=by rw [h1]; rfl
  have HE2:=hide (by rw [← uh HE]; simp [leastE,h1]:E = b)
  clear h1
  go_wp2
  go_ret
  exact ⟨by rw [uh HE2]; rfl,rfl⟩
 ·have h1':((a:Int) == 0) = false:=by rw [beq_eq_false_iff_ne]; omega
  by_cases h2:b = 0
  ·have h2':((b:Int) != 0) = false:=by rw [h2]; rfl
   have HE2:=hide (by rw [← uh HE]; simp [leastE,h1,h2]:E = a)
   clear h1 h2
   go_wp2
   go_ret
   exact ⟨by rw [uh HE2]; rfl,rfl⟩
  ·have h2':((b:Int) != 0) = true:=by rw [bne_iff_ne]; omega
   by_cases h3:b < a
   ·have h3':(b:Int) < a:=by omega
    have HE2:=hide (by rw [← uh HE]; simp [leastE,h1,h2,h3]:E = b)
    clear h1 h2
    go_wp2
    go_ret
    exact ⟨by rw [uh HE2]; rfl,rfl⟩
   ·have h3':¬ (b:Int) < a:=by omega
    have HE2:=hide (by rw [← uh HE]; simp [leastE,h1,h2,h3]:E = a)
    clear h1 h2
    go_wp2
    go_ret
    exact ⟨by rw [uh HE2]; rfl,rfl⟩
theorem xb1v {α β:Type} (g:β→α→β) (z:β) (l:List α) (i:Nat) (h:i < l.length):(l.take (i + 1)).foldl g z = g ((l.take i).foldl g z) l[i]:=by
 rw [List.take_succ_eq_append_getElem h,List.foldl_append]; rfl
set_option maxHeartbeats 1000000 in
theorem xa4f (f:Nat) (v:Value) (es:List En) (w:World) (hf:f < 18446744073709551616) (h:RdN w v es) :
  Calls Tryz.prog 144 #[.agg #[.int .u64 f,v]] w fun r w'=>r = .returned (.int .i64 (chkB f es))∧Kept [] w w':=by
 obtain ⟨ao,len,cap,kv,vv,rfl,h1,h2,h3,h4,h5⟩:=h
 have H4:=hide h4
 have H5:=hide h5
 clear h4 h5
 subst h1
 have HK0:=hide ((Kept.refl [] w).alloc (.cells #[.int .u64 (f:Int),.slice ao es.length cap] 129))
 go_enter Tryz.func144,Tryz.ntmps144
 go_wp2_with fail
 refine Calls.mono (xa1u f es.length _ hf (by omega)) ?_
 rintro r w1 ⟨rfl,rfl⟩
 go_wp2_with fail
 go_loopw [16,3] (fun t12 t4 wr=>∃ (i:Nat),i≤es.length∧t12 = .int .i64 i∧t4 = .int .i64 ((es.take i).foldl (fun a e=>leastE a (chkE e)) (cntE f es.length):Nat)∧Hid (Kept [] w wr)) (fun t _ _=>es.length - (intOf t).toNat)
 case atStart=>exact ⟨0,Nat.zero_le _,rfl,rfl,HK0⟩
 case round =>
  obtain ⟨i,hi,rfl,rfl,HK⟩:=hrel
  by_cases hlt:i < es.length
  ·have hlt':(i:Int) < es.length:=by omega
   obtain ⟨b,off,rfl,hcc⟩:=uh H5 (by omega)
   have hr:=hcc i hlt
   have q0:=(uh HK).cell (hr 0 _ rfl) (by simp)
   have q1:=(uh HK).cell (hr 1 _ rfl) (by simp)
   have q2:=(uh HK).cell (hr 2 _ rfl) (by simp)
   rw [Nat.add_zero] at q0
   have HO:=hide ((uh H4 i hlt).old (uh HK))
   have HSN:=hide (xb1v (fun a e=>leastE a (chkE e)) (cntE f es.length) es i hlt)
   clear hcc hr
   generalize kv i = kvi at q1 HO
   generalize vv i = vvi at q2 HO
   generalize es[i] = e at q0 HO HSN
   obtain ⟨a8,m8,c8,rfl,_⟩:=id (uh HO).key
   obtain ⟨a9,m9,c9,rfl,_⟩:=id (uh HO).val
   generalize (es.take i).foldl (fun a e=>leastE a (chkE e)) (cntE f es.length) = acc at HSN
   go_wp2_with fail
   have HK1:=hide ((uh HK).alloc (.cells #[.int .u8 (e.k:Int),.slice a8 m8 c8,.slice a9 m9 c9] 89))
   refine Calls.mono (xb2s e _ _ _ ((uh HO).old ((Kept.refl [] wr).alloc _))) ?_
   rintro r w2 ⟨rfl,k2⟩
   have HK2:=hide ((uh HK1).trans k2 (by simp))
   clear k2
   go_wp2_with fail
   refine Calls.mono (xb3r acc (chkE e) _) ?_
   rintro r w3 ⟨rfl,rfl⟩
   rw [← uh HSN]
   go_wp2
   refine ⟨⟨i + 1,by omega,by go_num,rfl,HK2⟩,?_⟩
   simp [intOf]; omega
  ·have hlt':¬ (i:Int) < es.length:=by omega
   have hie:i = es.length:=by omega
   subst hie
   rw [List.take_length]
   go_wp2
   go_ret
   exact ⟨rfl,uh HK⟩
theorem xa8b {a b:Nat} (h:leastE a b = 0):a = 0∧b = 0:=by
 unfold leastE at h
 split at h
 ·rename_i h1; rcases h1 with h1 | h1
  ·exact ⟨h1,h⟩
  ·omega
 ·rename_i h1; omega
theorem xb1i (es:List En):∀ z,es.foldl (fun a e=>leastE a (chkE e)) z = 0→z = 0∧∀ e∈es,chkE e = 0:=by
 induction es with
 | nil=>intro z h; exact ⟨h,by simp⟩
 | cons x xs ih =>
  intro z h
  obtain ⟨h1,h2⟩:=ih _ h
  obtain ⟨h3,h4⟩:=xa8b h1
  refine ⟨h3,fun e he=>?_⟩
  rcases List.mem_cons.1 he with rfl | he
  ·exact h4
  ·exact h2 e he
theorem xa6s {f:Nat} {es:List En} (h:chkB f es = 0):es.length≤64∧0 < es.length∧f + es.length≤18446744073709551615∧∀ e∈es,chkE e = 0:=by
 obtain ⟨h1,h2⟩:=xb1i es _ h
 unfold cntE at h1
 split at h1
 ·omega
 ·split at h1
  ·omega
  ·rename_i h3 h4; exact ⟨by omega,by omega,by omega,h2⟩
theorem xa7k {e:En} (h:chkE e = 0):e.key.length≤64∧e.val.length≤256∧(e.k = 1∨e.k = 2)∧(e.k = 2→e.val = []):=by
 unfold chkE at h
 split at h
 ·omega
 ·split at h
  ·omega
  ·rename_i h1 h2
   refine ⟨by omega,by omega,by omega,fun h3=>List.eq_nil_of_length_eq_zero (by omega)⟩
theorem xb7n {e:En} (h:chkE e = 0):(enB e).length≤400:=by
 obtain ⟨h1,h2,_⟩:=xa7k h
 have:=uv_len e.key.length (by omega)
 have:=uv_len e.val.length (by omega)
 unfold enB
 split <;> simp only [List.length_append,List.length_cons,List.length_nil] <;> omega
theorem xb3f (es:List En) (i:Nat) (h:i < es.length):entB (es.take (i + 1)) = entB (es.take i)++enB es[i]:=by
 unfold entB
 rw [List.take_succ_eq_append_getElem h,List.map_append,List.flatten_append]; simp
theorem xb0s (es:List En) (h:∀ e∈es,chkE e = 0):(entB es).length≤400 * es.length:=by
 induction es with
 | nil=>simp [entB]
 | cons x xs ih =>
  have h1:=xb7n (h x (by simp))
  have h2:=ih (fun e he=>h e (by simp [he]))
  have e:entB (x :: xs) = enB x++entB xs:=by simp [entB]
  rw [e,List.length_append,List.length_cons]; omega
set_option maxHeartbeats 2000000 in
theorem xa3j (f:Nat) (v:Value) (es:List En) (w:World) (hf:f < 18446744073709551616) (h:RdN w v es) :
  Calls Tryz.prog 104 #[.agg #[.int .u64 f,v]] w fun r w'=>∃ v',r = .returned (.tuple #[v',.int .i64 (chkB f es)])∧NewB w w' v' (if chkB f es = 0 then batB f es else [])∧Kept [] w w':=by
 have H:=hide h
 have HLE:=hide (fun h0:chkB f es = 0=>xa6s h0)
 obtain ⟨E,hE⟩:∃ E,chkB f es = E:=⟨_,rfl⟩
 rw [hE] at HLE ⊢
 have HE:=hide hE
 clear hE
 obtain ⟨B,hB⟩:∃ B,(if E = 0 then batB f es else []) = B:=⟨_,rfl⟩
 rw [hB]
 have HB:=hide hB
 clear hB
 obtain ⟨ao,len,cap,kv,vv,rfl,h1,h2,h3,h4,h5⟩:=h
 have H4:=hide h4
 have H5:=hide h5
 clear h4 h5
 subst h1
 have HK0:=hide ((Kept.refl [] w).alloc (.cells #[.int .u64 (f:Int),.slice ao es.length cap] 129))
 have HG0:=hide (heap_alloc_new w (.cells #[.int .u64 (f:Int),.slice ao es.length cap] 129))
 go_enter Tryz.func104,Tryz.ntmps104
 go_wp2_with fail
 have hc:=xa4f f (.slice ao es.length cap) es _ hf ((uh H).old (uh HK0))
 rw [uh HE] at hc
 refine Calls.mono hc ?_
 clear hc
 rintro r w1 ⟨rfl,k1⟩
 have HG1:=hide (k1.heap (uh HG0) (by simp))
 have HK1:=hide ((uh HK0).trans k1 (by simp))
 clear k1
 by_cases h0:E = 0
 ·have hb0:((E:Int) != 0) = false:=by rw [h0]; rfl
  obtain ⟨hl1,hl2,hl3,hl4⟩:=uh HLE h0
  have HL4:=hide hl4
  have HB2:=hide (by rw [← uh HB,if_pos h0]:B = batB f es)
  have H0:=hide h0
  clear h0 hl4
  have HW0:=hide (Wn.start (Kept.refl [] w1))
  have q0:∀ ob,(w1.alloc ob).cell? ⟨w.heap.size,0,none⟩ = some (.int .u64 (f:Int)):=fun ob=>((Kept.refl [] w1).alloc ob).cell (by rw [cell_of_row _ _ _ _ _ _ (uh HG1)]; rfl) (by simp)
  go_wp2_with fail
  refine Calls.mono (xb5c f (uh HW0) hf (by simp)) ?_
  rintro r w2 ⟨rfl,v2,h2'⟩
  rw [List.nil_append] at h2'
  have q1:=h2'.kept.cell (by rw [cell_of_row _ _ _ _ _ _ (uh HG1)]; rfl:w1.cell? ⟨w.heap.size,1,none⟩ = some (.slice ao es.length cap)) (by simp)
  have HW2:=hide h2'
  clear h2' HW0 q0
  have HU1:=hide (uv_len f hf)
  have HU2:=hide (uv_len es.length (by omega))
  go_wp2_with fail
  refine Calls.mono (xb5c es.length (uh HW2) (by omega) (by have:=uh HU1; omega)) ?_
  rintro r w3 ⟨rfl,v3,h3'⟩
  have q2:=h3'.kept.cell (by rw [cell_of_row _ _ _ _ _ _ (uh HG1)]; rfl:w1.cell? ⟨w.heap.size,1,none⟩ = some (.slice ao es.length cap)) (by simp)
  have HW3:=hide h3'
  clear h3' HW2 q1
  go_wp2_with fail
  go_loopw [24] (fun t12 wr=>∃ (i:Nat) (vw:Value),i≤es.length∧t12 = .int .i64 i∧Hid (Wn w1 wr w1.heap.size vw (uv f++uv es.length++entB (es.take i)))) (fun t _=>es.length - (intOf t).toNat)
  case atStart=>exact ⟨0,v3,Nat.zero_le _,rfl,by simpa [entB] using HW3⟩
  case round =>
   obtain ⟨i,vw,hi,rfl,HW⟩:=hrel
   have HLI:=hide (by have h9:=xb0s (es.take i) (fun e he=>uh HL4 e (List.mem_of_mem_take he)); rw [List.length_take] at h9; omega:(entB (es.take i)).length≤25600)
   by_cases hlt:i < es.length
   ·have hlt':(i:Int) < es.length:=by omega
    obtain ⟨b,off,rfl,hcc⟩:=uh H5 (by omega)
    have hr:=hcc i hlt
    have kw:=(uh HK1).trans (uh HW).kept (by simp)
    have p0:=kw.cell (hr 0 _ rfl) (by simp)
    have p1:=kw.cell (hr 1 _ rfl) (by simp)
    have p2:=kw.cell (hr 2 _ rfl) (by simp)
    rw [Nat.add_zero] at p0
    have HO:=hide ((uh H4 i hlt).old (uh HK1))
    have HSN:=hide (xb3f es i hlt)
    have HCE:=hide (xa7k (uh HL4 es[i] (List.getElem_mem hlt)))
    clear hcc hr kw
    generalize kv i = kvi at p1 HO
    generalize vv i = vvi at p2 HO
    generalize es[i] = e at p0 HO HSN HCE
    obtain ⟨a8,m8,c8,rfl,_⟩:=id (uh HO).key
    obtain ⟨a9,m9,c9,rfl,_⟩:=id (uh HO).val
    go_wp2_with fail
    refine Calls.mono (xa6i e _ _ ((uh HW).pass ((Kept.refl [] wr).alloc _)) (uh HO) (by have:=uh HLI; have:=uh HU1; have:=uh HU2; have:=uh HCE; simp only [List.length_append]; omega)) ?_
    rintro r w4 ⟨rfl,v4,h4'⟩
    rw [List.append_assoc,← uh HSN] at h4'
    have HW4:=hide h4'
    clear h4'
    go_wp2
    refine ⟨⟨i + 1,v4,by omega,by go_num,HW4⟩,?_⟩
    simp [intOf]; omega
   ·have hlt':¬ (i:Int) < es.length:=by omega
    have hie:i = es.length:=by omega
    subst hie
    rw [List.take_length] at HW HLI
    go_wp2_with fail
    refine Calls.mono (xa6e (uh HW) (by have:=uh HLI; have:=uh HU1; have:=uh HU2; simp only [List.length_append]; omega)) ?_
    rintro r w6 ⟨v6,rfl,h6,k6⟩
    have H6:=hide h6
    have HK6:=hide ((uh HK1).trans k6 (by simp))
    clear h6 k6
    go_wp2
    go_ret2
    refine ⟨_,by rw [uh H0]; rfl,?_,uh HK6⟩
    rw [uh HB2]
    have h9:=(uh H6).weak (uh HK1).size
    rw [List.append_assoc] at h9
    exact h9
 ·have hb0:((E:Int) != 0) = true:=by rw [bne_iff_ne]; omega
  have HB2:=hide (by rw [← uh HB,if_neg h0]:B = [])
  clear h0
  go_wp2
  go_ret2
  exact ⟨_,rfl,by rw [uh HB2]; exact NewB.nil _ _,uh HK1⟩
def cellsN (ts:List (En × Value × Value)):List Value:=ts.flatMap fun t=>[.int .u8 (t.1.k:Int),t.2.1,t.2.2]
theorem xb0t (ts:List (En × Value × Value)) (t:En × Value × Value):cellsN (ts++[t]) = cellsN ts++[.int .u8 (t.1.k:Int),t.2.1,t.2.2]:=by simp [cellsN]
theorem xa4w:∀ (ts:List (En × Value × Value)) (i:Nat) (h:i < ts.length),(cellsN ts)[3 * i]? = some (.int .u8 (ts[i].1.k:Int))∧(cellsN ts)[3 * i + 1]? = some ts[i].2.1∧(cellsN ts)[3 * i + 2]? = some ts[i].2.2
 | t :: r,0,_=>by simp [cellsN]
 | t :: r,i + 1,h=>by
  have h':i < r.length:=by simpa using h
  have:=xa4w r i h'
  have e:cellsN (t :: r) = (.int .u8 (t.1.k:Int)) :: t.2.1 :: t.2.2 :: cellsN r:=by simp [cellsN]
  rw [e,show 3 * (i + 1) = 3 * i + 1 + 1 + 1 by omega]
  simpa using this
theorem Tryz.infoN:(Tryz.prog.info? 89).map (fun i=>(i.zero,i.size,i.bytes)) = some (some (.agg #[.int .u8 0,.slice none 0 0,.slice none 0 0]),3,56):=by kernel_rfl
def nblk (v:Value) (bs:List Nat):List Nat:=if bs = [] then [] else blk v
theorem xa2x {v:Value} {bs:List Nat} {x:Nat} (h:x∈nblk v bs):x∈blk v∧bs≠[]:=by
 unfold nblk at h
 split at h
 ·simp at h
 ·rename_i h1; exact ⟨h,h1⟩
theorem Rd.keptN {L:List Nat} {w w':World} {v:Value} {bs:List Nat} (h:Rd w v bs) (k:Kept L w w') (hn:∀ x∈nblk v bs,x∉L):Rd w' v bs:=by
 by_cases he:bs = []
 ·subst he
  obtain ⟨ao,len,cap,rfl,h1,h2,h3,h4,h5,h6⟩:=h
  exact ⟨ao,len,cap,rfl,h1,h2,h3,h4,h5,fun hp=>by simp at h1; omega⟩
 ·exact h.kept k (by unfold nblk at hn; rw [if_neg he] at hn; exact hn)
theorem Rd.ltN {w:World} {v:Value} {bs:List Nat} (h:Rd w v bs):∀ x∈nblk v bs,x < w.heap.size:=by
 intro x hx
 obtain ⟨h1,h2⟩:=xa2x hx
 obtain ⟨ao,len,cap,rfl,h3,_,_,_,_,h6⟩:=h
 obtain ⟨b,off,rfl,hc⟩:=h6 (by rw [← h3]; exact List.length_pos_iff.2 h2)
 have h9:=block_lt_of_cell (hc 0 (by rw [← h3]; exact List.length_pos_iff.2 h2))
 simp only [blk,List.mem_singleton] at h1
 subst h1
 exact h9
structure OwnN (L:List Nat) (w0 w:World) (v:Value) (ts:List (En × Value × Value)):Prop where
 own:w.ownsRow w0.heap.size 89 3 v ts.length (cellsN ts)
 ok:∀ t∈ts,OkE w t.1 t.2.1 t.2.2
 apart:∀ t∈ts,∀ b,b∈nblk t.2.1 t.1.key∨b∈nblk t.2.2 t.1.val→v.ownBlock≠some b∧w0.heap.size≤b
 kept:Kept L w0 w
theorem OwnN.rdN {L:List Nat} {w0 w:World} {v:Value} {ts:List (En × Value × Value)} (h:OwnN L w0 w v ts):RdN w v (ts.map (·.1)):=by
 rcases h.own.2 with ⟨rfl,h0⟩ | ⟨g,cap,cur,rfl,_,hg,hc,hm',hs,ht⟩
 ·have:ts = []:=List.eq_nil_of_length_eq_zero h0
  subst this
  exact RdN.nil w
 ·refine ⟨some ⟨g,0,none⟩,ts.length,cap,fun i=>(ts.getD i (⟨0,[],[]⟩,undef,undef)).2.1,fun i=>(ts.getD i (⟨0,[],[]⟩,undef,undef)).2.2,rfl,by simp,hc,by unfold maxLen at hm'; omega,fun i hi=>?_,fun _=>⟨g,0,rfl,fun i hi=>?_⟩⟩
  ·have hi':i < ts.length:=by simpa using hi
   have h9:=h.ok ts[i] (List.getElem_mem hi')
   rw [List.getElem_map]
   simp only [List.getD_eq_getElem?_getD,List.getElem?_eq_getElem hi',Option.getD_some]
   exact h9
  ·have hi':i < ts.length:=by simpa using hi
   have hx:=xa4w ts i hi'
   have c0:=h.own.cells (g:=g) rfl (3 * i) _ hx.1
   have c1:=h.own.cells (g:=g) rfl (3 * i + 1) _ hx.2.1
   have c2:=h.own.cells (g:=g) rfl (3 * i + 2) _ hx.2.2
   rw [Addr.add_mid] at c0 c1 c2
   rw [List.getElem_map]
   simp only [List.getD_eq_getElem?_getD,List.getElem?_eq_getElem hi',Option.getD_some]
   intro j v hv
   have hj:j < 3:=(List.getElem?_eq_some_iff.1 hv).1
   rcases (by omega:j = 0∨j = 1∨j = 2) with rfl | rfl | rfl
   ·rw [show 0 + i * 3 + 0 = 0 + 3 * i by omega,c0]; exact hv
   ·rw [show 0 + i * 3 + 1 = 0 + (3 * i + 1) by omega,c1]; exact hv
   ·rw [show 0 + i * 3 + 2 = 0 + (3 * i + 2) by omega,c2]; exact hv
theorem pushN (w:World) (base:Nat) (v:Value) (ts:List (En × Value × Value)) (e:En) (x y:Value) (H:Nat) (h:w.ownsRow base 89 3 v ts.length (cellsN ts)) (hnew:w.heap[H]? = some (.cells #[.int .u8 (e.k:Int),x,y] 89 (0,0))) (hx:x.oneCell' = true) (hy:y.oneCell' = true) (hl:ts.length + 1≤1000000000) (hb:base≤w.heap.size) :
  ∃ g cap w1,(Builtin.append_ #[55,55] 55 #[v,.slice (some ⟨H,0,none⟩) 1 1]).run Tryz.prog w = .ok (.slice (some ⟨g,0,none⟩) (ts.length + 1) cap) w1 ∧
   w1.ownsRow base 89 3 (.slice (some ⟨g,0,none⟩) (ts.length + 1) cap) (ts.length + 1) (cellsN ts++[.int .u8 (e.k:Int),x,y])∧w.grownBy w1 v.ownBlock∧(v.ownBlock = some g∨g = w.heap.size):=by
 obtain ⟨i0,hi,hz0,hz1,hz2⟩:=info_parts Tryz.infoN
 obtain ⟨g,cap,w1,hr,hown,hgrow,hat,hlt⟩:=run_append_lies (P:=Tryz.prog) w 55 55 base 89 i0 (.agg #[.int .u8 0,.slice none 0 0,.slice none 0 0]) 3 56 Tryz.underlying55 hi hz0 hz1 hz2 rfl (by decide)
  v ts.length (cellsN ts) h ⟨H,0,none⟩ 1 1 [.int .u8 (e.k:Int),x,y] rfl (World.news_of_block hnew) (by intro u hu; simp at hu; rcases hu with rfl | rfl | rfl; rfl; exact hx; exact hy) (by decide) (by unfold maxLen; omega) (by omega) hb _ rfl
 exact ⟨g,cap,w1,hr,hown,hgrow,hat⟩
theorem xa6b {ops:Array Oper} {rest:List Oper} {o:Oper} {a:Act} {Q:Exit→Act→World→Prop} (hgd:o.guard = none) (s x:Operand)
  (ho:o.op = .call { callee:=.builtin .append,args:=#[s,x],argTypes:=#[55,55] }) (hty:o.type = 55)
  (w:World) (base:Nat) (v:Value) (ts:List (En × Value × Value)) (e:En) (y z:Value) (H:Nat) (h:w.ownsRow base 89 3 v ts.length (cellsN ts)) (hnew:w.heap[H]? = some (.cells #[.int .u8 (e.k:Int),y,z] 89 (0,0))) (hy:y.oneCell' = true) (hz:z.oneCell' = true) (hl:ts.length + 1≤1000000000) (hb:base≤w.heap.size)
  (hs:a.eval s = v) (hx:a.eval x = .slice (some ⟨H,0,none⟩) 1 1)
  (hK:∀ g cap w1,Hid (w1.ownsRow base 89 3 (.slice (some ⟨g,0,none⟩) (ts.length + 1) cap) (ts.length + 1) (cellsN ts++[.int .u8 (e.k:Int),y,z]))→Hid (w.grownBy w1 v.ownBlock)→Hid (v.ownBlock = some g∨g = w.heap.size) →
   wpList Tryz.prog ops Q rest (a.put o.dst (.slice (some ⟨g,0,none⟩) (ts.length + 1) cap)) w1) :
  wpList Tryz.prog ops Q (o :: rest) a w:=by
 obtain ⟨g,cap,w1,hrun,h2,h3,h4⟩:=pushN w base v ts e y z H h hnew hy hz hl hb
 refine wpList_plain hgd fun K hK'=>?_
 unfold Oper.wp execOp
 simp only [ho,hty,resolve,invoke,builtin,Sem.run_bind,Sem.run_pure,Result.andThen_ok,List.map_toArray,List.map_cons,List.map_nil,hs,hx,hrun]
 exact hK' _ _ (hK g cap w1 h2 h3 h4)
theorem OwnN.start {L:List Nat} {w0 w:World} (k:Kept L w0 w):OwnN L w0 w (.slice none 0 0) []:=⟨World.ownsRow_nil _ _ _ _,by simp,by simp,k⟩
theorem OwnN.mono {L M:List Nat} {w0 w:World} {v:Value} {ts:List (En × Value × Value)} (h:OwnN L w0 w v ts) (hM:∀ x∈L,x∈M):OwnN M w0 w v ts:=⟨h.own,h.ok,h.apart,h.kept.mono hM⟩
theorem OwnN.pass {L M:List Nat} {w0 w w':World} {v:Value} {ts:List (En × Value × Value)} (h:OwnN L w0 w v ts) (k:Kept M w w') (hM:∀ x∈M,x∈L∨w0.heap.size≤x) (ho:∀ x∈M,v.ownBlock≠some x) (he:∀ x∈M,∀ t∈ts,x∉nblk t.2.1 t.1.key∧x∉nblk t.2.2 t.1.val):OwnN L w0 w' v ts :=
 ⟨k.owns h.own (fun g hg hm=>ho g hm hg),fun t ht=>⟨(h.ok t ht).k,(h.ok t ht).key.keptN k (fun x hx hm=>(he x hm t ht).1 hx),(h.ok t ht).val.keptN k (fun x hx hm=>(he x hm t ht).2 hx)⟩,h.apart,h.kept.trans k hM⟩
theorem OwnN.old {L M:List Nat} {w0 w w':World} {v:Value} {ts:List (En × Value × Value)} (h:OwnN L w0 w v ts) (k:Kept M w w') (hM:∀ x∈M,x∈L∧x < w0.heap.size):OwnN L w0 w' v ts :=
 h.pass k (fun x hx=>Or.inl (hM x hx).1) (fun x hx e=>by have:=(h.own.lt x e).1; have:=(hM x hx).2; omega)
  (fun x hx t ht=>⟨fun hb=>by have:=(h.apart t ht x (Or.inl hb)).2; have:=(hM x hx).2; omega,fun hb=>by have:=(h.apart t ht x (Or.inr hb)).2; have:=(hM x hx).2; omega⟩)
theorem OwnN.push {L:List Nat} {w0 w W:World} {v:Value} {ts:List (En × Value × Value)} (h:OwnN L w0 w v ts) {e:En} {y z:Value} (hy:OkE w e y z) (hn:∀ b,b∈nblk y e.key∨b∈nblk z e.val→v.ownBlock≠some b∧w0.heap.size≤b) {g cap:Nat}
  (o:W.ownsRow w0.heap.size 89 3 (.slice (some ⟨g,0,none⟩) (ts.length + 1) cap) (ts.length + 1) (cellsN ts++[.int .u8 (e.k:Int),y,z])) (gr:w.grownBy W v.ownBlock) (hg:v.ownBlock = some g∨g = w.heap.size) :
  OwnN L w0 W (.slice (some ⟨g,0,none⟩) (ts.length + 1) cap) (ts++[(e,y,z)]):=by
 have kW:Kept v.ownBlock.toList w W:=((Kept.refl _ w)).grown gr (by intro k hk; left; simp [hk])
 have kW0:Kept L w0 W:=h.kept.grown gr (by intro k hk; right; exact (h.own.lt k hk).1)
 have key:∀ t∈ts++[(e,y,z)],OkE w t.1 t.2.1 t.2.2∧∀ b,b∈nblk t.2.1 t.1.key∨b∈nblk t.2.2 t.1.val→v.ownBlock≠some b∧w0.heap.size≤b:=by
  intro t ht
  rcases List.mem_append.1 ht with ht | ht
  ·exact ⟨h.ok t ht,h.apart t ht⟩
  ·rw [List.mem_singleton] at ht; subst ht; exact ⟨hy,hn⟩
 refine ⟨?_,fun t ht=>?_,fun t ht b hb=>⟨fun e'=>?_,((key t ht).2 b hb).2⟩,kW0⟩
 ·rw [xb0t,List.length_append]; exact o
 ·exact ⟨(key t ht).1.k,(key t ht).1.key.keptN kW (fun b hb hm=>((key t ht).2 b (Or.inl hb)).1 (by simpa using hm)),(key t ht).1.val.keptN kW (fun b hb hm=>((key t ht).2 b (Or.inr hb)).1 (by simpa using hm))⟩
 ·simp only [Value.ownBlock,Option.some.injEq] at e'
  subst e'
  rcases hg with hg | hg
  ·exact ((key t ht).2 _ hb).1 hg
  ·have h9:g < w.heap.size:=by
    rcases hb with hb | hb
    ·exact (key t ht).1.key.ltN g hb
    ·exact (key t ht).1.val.ltN g hb
   omega
def NewN (B:Nat) (w:World) (v:Value) (es:List En):Prop:=∃ (L:List Nat) (w0:World) (ts:List (En × Value × Value)),es = ts.map (·.1)∧OwnN L w0 w v ts∧B≤w0.heap.size
theorem NewN.rdN {B:Nat} {w:World} {v:Value} {es:List En} (h:NewN B w v es):RdN w v es:=by
 obtain ⟨L,w0,ts,rfl,h1,_⟩:=h; exact h1.rdN
theorem NewN.nil (B:Nat) (w:World) (h:B≤w.heap.size):NewN B w (.slice none 0 0) []:=⟨[],w,[],rfl,OwnN.start (Kept.refl [] w),h⟩
theorem NewN.weak {B C:Nat} {w:World} {v:Value} {es:List En} (h:NewN B w v es) (hc:C≤B):NewN C w v es:=by
 obtain ⟨L,w0,ts,h1,h2,h3⟩:=h; exact ⟨L,w0,ts,h1,h2,Nat.le_trans hc h3⟩
theorem NewN.kept {B:Nat} {M:List Nat} {w w':World} {v:Value} {es:List En} (h:NewN B w v es) (k:Kept M w w') (hM:∀ x∈M,x < B):NewN B w' v es:=by
 obtain ⟨L,w0,ts,h1,h2,h3⟩:=h
 refine ⟨L++M,w0,ts,h1,(h2.mono (M:=L++M) (fun x hx=>by simp [hx])).old k (fun x hx=>⟨by simp [hx],by have:=hM x hx; omega⟩),h3⟩
def takeN (p:List Nat):Nat→Nat→List En × Nat × Nat
 | i,0=>([],i,0)
 | i,n + 1=>if (takeE p i).2.2≠0 then ([],0,(takeE p i).2.2) else ((takeE p i).1 :: (takeN p (takeE p i).2.1 n).1,(takeN p (takeE p i).2.1 n).2)
def takeB (p:List Nat) (i:Nat):Nat × List En × Nat × Nat :=
 if (rUvar p (rUvar p i 0).2.1 (rUvar p i 0).2.2).2.2≠0 then (0,[],0,(rUvar p (rUvar p i 0).2.1 (rUvar p i 0).2.2).2.2)
 else if cntE (rUvar p i 0).1 (rUvar p (rUvar p i 0).2.1 (rUvar p i 0).2.2).1≠0 then (0,[],0,cntE (rUvar p i 0).1 (rUvar p (rUvar p i 0).2.1 (rUvar p i 0).2.2).1)
 else ((rUvar p i 0).1,takeN p (rUvar p (rUvar p i 0).2.1 (rUvar p i 0).2.2).2.1 (rUvar p (rUvar p i 0).2.1 (rUvar p i 0).2.2).1)
theorem xa8p (p:List Nat) (i e:Nat):(rUvar p i e).1 < 18446744073709551616:=by
 unfold rUvar
 split
 ·show (0:Nat) < _; omega
 ·split
  ·show (0:Nat) < _; omega
  ·exact fuv_lt _ 0 0 (by decide) (by decide)
theorem xb0u {ops:Array Oper} {o:Oper} {a:Act} {K:Act→World→Prop} {Q:Exit→Act→World→Prop} {F:Prop} (hgd:o.guard = none) (s x:Operand)
  (ho:o.op = .call { callee:=.builtin .append,args:=#[s,x],argTypes:=#[55,55] }) (hty:o.type = 55)
  (w:World) (base:Nat) (v:Value) (ts:List (En × Value × Value)) (e:En) (y z:Value) (H:Nat) (h:w.ownsRow base 89 3 v ts.length (cellsN ts)) (hnew:w.heap[H]? = some (.cells #[.int .u8 (e.k:Int),y,z] 89 (0,0))) (hy:y.oneCell' = true) (hz:z.oneCell' = true) (hl:ts.length + 1≤1000000000) (hb:base≤w.heap.size)
  (hs:a.eval s = v) (hx:a.eval x = .slice (some ⟨H,0,none⟩) 1 1)
  (hK:∀ g cap w1,Hid (w1.ownsRow base 89 3 (.slice (some ⟨g,0,none⟩) (ts.length + 1) cap) (ts.length + 1) (cellsN ts++[.int .u8 (e.k:Int),y,z]))→Hid (w.grownBy w1 v.ownBlock)→Hid (v.ownBlock = some g∨g = w.heap.size) →
   K (a.put o.dst (.slice (some ⟨g,0,none⟩) (ts.length + 1) cap)) w1) :
  if Region.wanted o (yielded ops a.tmps) = true then Oper.wp Tryz.prog o a w K Q else F:=by
 obtain ⟨g,cap,w1,hrun,h2,h3,h4⟩:=pushN w base v ts e y z H h hnew hy hz hl hb
 have hw:Region.wanted o (yielded ops a.tmps) = true:=by simp [Region.wanted,hgd]
 rw [if_pos hw]
 unfold Oper.wp execOp
 simp only [ho,hty,resolve,invoke,builtin,Sem.run_bind,Sem.run_pure,Result.andThen_ok,List.map_toArray,List.map_cons,List.map_nil,hs,hx,hrun]
 exact hK g cap w1 h2 h3 h4
def TookB (w w':World) (b:Nat) (gv:Value) (p:List Nat) (x:Nat × List En × Nat × Nat) (r:Ending):Prop :=
 (x.2.2.2 = 0→∃ v,r = .returned (.agg #[.int .u64 (x.1:Int),v])∧NewN w.heap.size w' v x.2.1∧ReAt w' b gv p x.2.2.1 0)∧(x.2.2.2≠0→r = .panicked (gave x.2.2.2))∧Kept [b] w w'
theorem Tryz.size_batch:(Tryz.prog.info? 129).map (·.size) = some 2:=by kernel_rfl
set_option maxHeartbeats 2000000 in
theorem xa5e (b:Nat) (gv:Value) (p:List Nat) (i:Nat) (w:World) (h:ReAt w b gv p i 0) (hgv:∀ x∈blk gv,x < w.heap.size) :
  Calls Tryz.prog 165 #[.pointer (some ⟨b,0,none⟩)] w fun r w'=>TookB w w' b gv p (takeB p i) r:=by
 have H:=hide h
 have hblt:=h.lt
 obtain ⟨T,hT⟩:∃ T,takeB p i = T:=⟨_,rfl⟩
 rw [hT]
 have HT:=hide hT
 unfold takeB at HT
 clear hT h
 have HZ:=hide (heap_alloc_new w (.cells #[.int .u64 0,.slice none 0 0] 129))
 have HK0:=hide ((Kept.refl [b] w).alloc (.cells #[.int .u64 0,.slice none 0 0] 129))
 have HR0:=hide ((uh H).kept ((Kept.refl [] w).alloc (.cells #[.int .u64 0,.slice none 0 0] 129)) (by simp) (by simp))
 have hfl:=xa8p p i 0
 go_enter Tryz.func165,Tryz.ntmps165
 go_wp2_with fail
 refine Calls.mono (xa6q b gv p i 0 _ (uh HR0)) ?_
 rintro r w1 ⟨rfl,r1,k1⟩
 have hne0:w.heap.size≠b:=by omega
 have HZ1:=hide (k1.heap (uh HZ) (by simpa using hne0))
 have HK1:=hide ((uh HK0).trans k1 (by simp))
 obtain ⟨x,hx⟩:∃ x,rUvar p i 0 = x:=⟨_,rfl⟩
 rw [hx] at HT r1 hfl ⊢
 clear hx
 obtain ⟨f,i1,e1⟩:=x
 simp only at HT r1 hfl ⊢
 have HR1:=hide r1
 clear r1 k1
 have hs1':w.heap.size < w1.heap.size:=lt_of_block (uh HZ1)
 have hcl:=xa8p p i1 e1
 have HKA:=hide ((uh HK1).alloc (.cells #[.int .u64 (f:Int),.slice none 0 0] 129))
 have HRA:=hide ((uh HR1).kept ((Kept.refl [] w1).alloc (.cells #[.int .u64 (f:Int),.slice none 0 0] 129)) (by simp) (by simp))
 have HGA:=hide (heap_alloc_new w1 (.cells #[.int .u64 (f:Int),.slice none 0 0] 129))
 have HZA:=hide (((Kept.refl [] w1).alloc (.cells #[.int .u64 (f:Int),.slice none 0 0] 129)).heap (uh HZ1) (by simp))
 have HSA:=hide (show (w1.alloc (.cells #[.int .u64 (f:Int),.slice none 0 0] 129)).heap.size = w1.heap.size + 1 by simp)
 go_wp2_with fail
 obtain ⟨WA,hWA⟩:∃ W,w1.alloc (.cells #[.int .u64 (f:Int),.slice none 0 0] 129) = W:=⟨_,rfl⟩
 rw [hWA] at HKA HRA HGA HZA HSA ⊢
 clear hWA
 have hneg:w1.heap.size≠b:=by omega
 refine Calls.mono (xa6q b gv p i1 e1 WA (uh HRA)) ?_
 rintro r w2 ⟨rfl,r2,k2⟩
 obtain ⟨x,hx⟩:∃ x,rUvar p i1 e1 = x:=⟨_,rfl⟩
 rw [hx] at HT r2 hcl ⊢
 clear hx
 obtain ⟨n,i2,e2⟩:=x
 simp only at HT r2 hcl ⊢
 have HR2:=hide r2
 have HG2:=hide (k2.heap (uh HGA) (by simpa using hneg))
 have HZ2:=hide (k2.heap (uh HZA) (by simpa using hne0))
 have HK2:=hide ((uh HKA).trans k2 (by simp))
 have HKW2:=hide k2
 clear r2 k2
 go_wp2_with fail
 refine Calls.mono (xa0k b gv p i2 e2 w2 (uh HR2)) ?_
 rintro r w3 ⟨rfl,rfl⟩
 by_cases hE:e2≠0
 ·have HT2:=hide (by rw [← uh HT,if_pos hE]:T = (0,[],0,e2))
  go_wp2_with fail
  refine Calls.mono (xa1e e2 _ hE) ?_
  rintro r w6 ⟨rfl,rfl⟩
  exact ⟨rfl,fun h=>absurd h (by rw [uh HT2]; exact hE),fun _=>by rw [uh HT2],uh HK2⟩
 have HT1:=hide (by have h9:=uh HT; rw [if_neg hE] at h9; exact h9)
 replace hE:e2 = 0:=Decidable.not_not.1 hE
 subst hE
 clear HT
 go_wp2_with fail
 refine Calls.mono (xa1w _) ?_
 rintro r w4 ⟨rfl,rfl⟩
 have q0:=cell_of_row _ _ 0 _ _ _ (uh HG2)
 go_wp2_with fail
 refine Calls.mono (xa1u f n _ hfl hcl) ?_
 rintro r w5 ⟨rfl,rfl⟩
 by_cases hE:cntE f n≠0
 ·have HT2:=hide (by rw [← uh HT1,if_pos hE]:T = (0,[],0,cntE f n))
  go_wp2_with fail
  refine Calls.mono (xa1e (cntE f n) _ hE) ?_
  rintro r w6 ⟨rfl,rfl⟩
  exact ⟨rfl,fun h=>absurd h (by rw [uh HT2]; exact hE),fun _=>by rw [uh HT2],uh HK2⟩
 have HT2:=hide (by have h9:=uh HT1; rw [if_neg hE] at h9; exact h9.symm)
 replace hE:cntE f n = 0:=Decidable.not_not.1 hE
 have hn64:n≤64:=by
  unfold cntE at hE
  split at hE
  ·omega
  ·omega
 rw [hE]
 clear HT1 hE
 go_wp2_with fail
 refine Calls.mono (xa1w _) ?_
 rintro r w6 ⟨rfl,rfl⟩
 go_wp2_with fail
 have HW6:=hide (Kept.refl [b,w1.heap.size] w6)
 have hgb6:w1.heap.size < w6.heap.size:=lt_of_block (uh HG2)
 have hb6:b < w6.heap.size:=by omega
 go_loopw [19] (fun t19 wr=>∃ (j ij:Nat) (vE:Value) (ts:List (En × Value × Value)),j≤n∧t19 = .int .u64 j∧Hid (ts.length = j)∧Hid (takeN p i2 n = (ts.map (·.1)++(takeN p ij (n - j)).1,(takeN p ij (n - j)).2))∧Hid (ReAt wr b gv p ij 0)∧Hid (wr.heap[w1.heap.size]? = some (.cells #[.int .u64 (f:Int),vE] 129 (0,0))) ∧
  Hid (wr.heap[w.heap.size]? = some (.cells #[.int .u64 0,.slice none 0 0] 129 (0,0)))∧Hid (OwnN [b,w1.heap.size] w6 wr vE ts)) (fun t _=>n - (intOf t).toNat)
 case atStart=>exact ⟨0,i2,.slice none 0 0,[],Nat.zero_le _,rfl,hide rfl,hide (by simp),HR2,HG2,HZ2,hide (OwnN.start (uh HW6))⟩
 case round =>
  obtain ⟨j,ij,vE,ts,hj,rfl,HJ,HTN,HR,HG,HZR,HO⟩:=hrel
  by_cases hlt:j < n
  ·have hlt':(j:Int) < n:=by omega
   obtain ⟨m,hm⟩:∃ m,n - j = m + 1:=⟨n - j - 1,by omega⟩
   have hmm:n - (j + 1) = m:=by omega
   rw [hm] at HTN
   have HHS:=hide (by have h9:=lt_of_block (uh HZR); have h8:=(uh HO).kept.size; omega:w6.heap.size≤wr.heap.size)
   have HRD:=hide ((uh HR).kept (Kept.refl [] wr).drew (by simp) (by simp))
   have HGV:=hide (fun x hx=>by have h9:=hgv x hx; have h8:=uh HHS; show x < wr.heap.size; omega:∀ x∈blk gv,x < wr.drew.heap.size)
   have HCT:=hide (xa4p b gv p ij wr.drew (uh HRD) (uh HGV))
   have HTU:=hide (show takeN p ij (m + 1) = if (takeE p ij).2.2≠0 then ([],0,(takeE p ij).2.2) else ((takeE p ij).1 :: (takeN p (takeE p ij).2.1 m).1,(takeN p (takeE p ij).2.1 m).2) from rfl)
   obtain ⟨X,hX⟩:∃ X,takeE p ij = X:=⟨_,rfl⟩
   rw [hX] at HCT HTU
   clear hX
   obtain ⟨en,i3,e3⟩:=X
   simp only at HTU
   have c1:wr.cell? ⟨w1.heap.size,1,none⟩ = some vE:=by rw [cell_of_row _ _ _ _ _ _ (uh HG)]; rfl
   have HC1:=hide c1
   have HTB:=hide (fun he:e3≠0=>by rw [uh HT2]; show (takeN p i2 n).2.2 = e3; rw [uh HTN,uh HTU,if_pos he]:e3≠0→T.2.2.2 = e3)
   have HKR:=hide ((uh HK2).trans (uh HO).kept (by intro x hx; simp at hx; rcases hx with rfl | rfl; left; simp; right; omega))
   go_wp2_with fail
   go_region_law (first
    | (refine xb0u rfl _ _ rfl rfl _ w6.heap.size vE ts en (.slice a8 m8 c8) (.slice a9 m9 c9) w3.heap.size (by exact (uh HO3).own) (by exact heap_alloc_new w3 _) rfl rfl (by have:=uh HJ; omega) (by exact uh HB3) rfl rfl ?_; intro g cap w5 HO5 HG5 HA5; have hrow5:=(uh HK45 w5 HG5).heap (uh HGR4) (uh HNG4); have s5:=cell_of_row _ _ 1 _ _ _ hrow5; have z5:=frozen_of_row _ _ 1 _ _ hrow5; have HGR5:=hide hrow5; clear hrow5)
    | (go_simp; go_at_call 216; refine (uh HCT).mono ?_; rintro r w3 ⟨t1,t2,t3⟩; by_cases he3:e3≠0; exact (by have hr:=t2 he3; subst hr; exact ⟨rfl,fun h=>absurd ((uh HTB he3).symm.trans h) he3,fun _=>by rw [uh HTB he3],(uh HKR).trans ((Kept.refl [b] wr).drew.trans t3 (by simp)) (by simp)⟩); replace he3:e3 = 0:=Decidable.not_not.1 he3; subst he3; obtain ⟨kv,vv,hr,ok3,re3,nw3⟩:=t1 rfl; subst hr; obtain ⟨a8,m8,c8,hu8,_⟩:=id ok3.key; subst hu8; obtain ⟨a9,m9,c9,hu9,_⟩:=id ok3.val; subst hu9; have HT3:=hide t3; have HOK3:=hide ok3; have HRE3:=hide re3; have HNW3:=hide nw3; have HO3:=hide (((uh HO).old ((Kept.refl [b] wr).drew.trans t3 (by simp):Kept [b] wr w3) (by intro x hx; rw [List.mem_singleton] at hx; subst hx; exact ⟨by simp,hb6⟩)).pass (M:=[]) ((Kept.refl [] w3).alloc (.cells #[.int .u8 (en.k:Int),.slice a8 m8 c8,.slice a9 m9 c9] 89)) (by simp) (by simp) (by simp)); have HB3:=hide (uh HO3).kept.size; have HGR4:=hide (((Kept.refl [] w3).alloc (.cells #[.int .u8 (en.k:Int),.slice a8 m8 c8,.slice a9 m9 c9] 89)).heap (t3.heap (show wr.drew.heap[w1.heap.size]? = _ from uh HG) (by simpa using hneg)) (by simp)); have HNG4:=hide (by intro hm9; have h9:=(uh HO3).own.lt w1.heap.size (by simpa using hm9); omega:w1.heap.size∉vE.ownBlock.toList); have HK45:=hide (fun w5 (hg:Hid ((w3.alloc (.cells #[.int .u8 (en.k:Int),.slice a8 m8 c8,.slice a9 m9 c9] 89)).grownBy w5 vE.ownBlock))=>(Kept.refl vE.ownBlock.toList _).grown (uh hg) (by intro k hk; left; simp [hk])); have d1:=t3.cell (uh HC1) (by simpa using hneg); have d2:∀ ob,(w3.alloc ob).cell? ⟨w1.heap.size,1,none⟩ = some vE:=fun ob=>((Kept.refl [] w3).alloc ob).cell d1 (by simp); clear t1 t2 t3 ok3 re3 nw3; simp only [enC]))
   all_goals
    go_wp2
    refine ⟨⟨j + 1,i3,.slice (some ⟨g,0,none⟩) (ts.length + 1) cap,ts++[(en,.slice a8 m8 c8,.slice a9 m9 c9)],by omega,by go_num,hide (by rw [List.length_append,uh HJ]; rfl),hide ?_,hide ?_,hide ?_,hide ?_,hide ?_⟩,?_⟩
    ·rw [hmm,uh HTN,uh HTU,if_neg (by simp)]; simp
    ·have k1:=((Kept.refl [] w3).alloc (.cells #[.int .u8 (en.k:Int),.slice a8 m8 c8,.slice a9 m9 c9] 89))
     have k2:=uh HK45 w5 HG5
     have r1:=(uh HRE3).kept k1 (by simp) (by simp)
     have r2:=r1.kept k2 (fun hm9=>by have h9:=(uh HO3).own.lt b (by simpa using hm9); omega) (fun x hx hm9=>by have h9:=(uh HO3).own.lt x (by simpa using hm9); have h8:=hgv x hx; omega)
     exact r2.kept ((Kept.refl [w1.heap.size] w5).setCell (p:=⟨w1.heap.size,1,none⟩) (Or.inl (by simp)) _) (by simp; omega) (fun x hx=>by simp; have h8:=hgv x hx; omega)
    ·exact heap_setCell_same w5 w1.heap.size 1 _ 129 _ (uh HGR5)
    ·have k1:=((Kept.refl [] w3).alloc (.cells #[.int .u8 (en.k:Int),.slice a8 m8 c8,.slice a9 m9 c9] 89))
     have z1:=(uh HT3).heap (show wr.drew.heap[w.heap.size]? = _ from uh HZR) (by simpa using hne0)
     have z2:=k1.heap z1 (by simp)
     have z3:=(uh HK45 w5 HG5).heap z2 (fun hm9=>by have h9:=(uh HO3).own.lt w.heap.size (by simpa using hm9); omega)
     exact ((Kept.refl [w1.heap.size] w5).setCell (p:=⟨w1.heap.size,1,none⟩) (Or.inl (by simp)) _).heap z3 (by simp; omega)
    ·have o5:=(uh HO3).push ((uh HOK3).old ((Kept.refl [] w3).alloc _)) (fun b' hb'=>by
      have h9:wr.heap.size≤b':=by
       rcases hb' with hb' | hb'
       ·exact uh HNW3 b' (Or.inl (xa2x hb').1)
       ·exact uh HNW3 b' (Or.inr (xa2x hb').1)
      have h8:=uh HHS
      exact ⟨fun e=>by have h7:=((uh HO).own.lt b' e).2; omega,by omega⟩) (uh HO5) (uh HG5) (uh HA5)
     refine o5.pass ((Kept.refl [w1.heap.size] w5).setCell (p:=⟨w1.heap.size,1,none⟩) (Or.inl (by simp)) _) (by simp) (fun x hx e=>?_) (fun x hx t ht=>⟨fun hb'=>?_,fun hb'=>?_⟩)
     ·have h9:=(o5.own.lt x e).1; rw [List.mem_singleton] at hx; omega
     ·have h9:=(o5.apart t ht x (Or.inl hb')).2; rw [List.mem_singleton] at hx; omega
     ·have h9:=(o5.apart t ht x (Or.inr hb')).2; rw [List.mem_singleton] at hx; omega
    ·simp [intOf]; omega
  ·have hlt':¬ (j:Int) < n:=by omega
   have hjn:j = n:=by omega
   subst hjn
   rw [Nat.sub_self] at HTN
   have HT3:=hide (by rw [uh HT2,uh HTN]; simp [takeN]:T = (f,ts.map (·.1),ij,0))
   have HK9:=hide ((uh HK2).trans (uh HO).kept (by intro x hx; simp at hx; rcases hx with rfl | rfl; left; simp; right; omega))
   obtain ⟨aE,mE,cE,hvE⟩:∃ aE mE cE,vE = .slice aE mE cE:=by
    rcases (uh HO).own.2 with ⟨rfl,_⟩ | ⟨g,cap,cur,rfl,_⟩
    ·exact ⟨_,_,_,rfl⟩
    ·exact ⟨_,_,_,rfl⟩
   subst hvE
   have krow:=(Kept.refl [w.heap.size] wr).setRowE (g:=w.heap.size) (Or.inl (by simp)) #[.int .u64 (f:Int),.slice aE mE cE]
   have HOR:=hide (((uh HO).mono (M:=[b,w1.heap.size,w.heap.size]) (by intro x hx; simp at hx; rcases hx with rfl | rfl <;> simp)).pass krow (by simp) (fun x hx e=>by have h9:=((uh HO).own.lt x e).1; rw [List.mem_singleton] at hx; omega) (fun x hx t ht=>⟨fun hb'=>by have h9:=((uh HO).apart t ht x (Or.inl hb')).2; rw [List.mem_singleton] at hx; omega,fun hb'=>by have h9:=((uh HO).apart t ht x (Or.inr hb')).2; rw [List.mem_singleton] at hx; omega⟩))
   have HRR:=hide ((uh HR).kept krow (by simp; omega) (fun x hx=>by simp; have h9:=hgv x hx; omega))
   clear krow
   go_wp2_with (first
    | (refine wpList_load_row rfl 129 _ rfl w1.heap.size rfl _ #[.int .u64 (f:Int),.slice aE mE cE] (0,0) _ (uh HG) Tryz.underlying129 rfl Tryz.size_batch ?_)
    | (refine wpList_store_row rfl 129 _ _ rfl w.heap.size #[.int .u64 (f:Int),.slice aE mE cE] rfl rfl _ #[.int .u64 0,.slice none 0 0] (uh HZR) Tryz.size_batch rfl (by simp [Value.oneCell']) ?_))
   refine bodyPost_ret (v:=.agg #[.int .u64 (f:Int),.slice aE mE cE]) ?_ rfl ⟨fun _=>⟨.slice aE mE cE,by rw [uh HT3],?_,?_⟩,fun h=>absurd (by rw [uh HT3]) h,(uh HK9).setRowE (Or.inr (Nat.le_refl _)) _⟩
   ·exact results_cell_row rfl _ _ w.heap.size _ #[.int .u64 (f:Int),.slice aE mE cE] (0,0) _ rfl (setRow_heap _ _ _ _ _ _ (uh HZR)) Tryz.underlying129 rfl Tryz.size_batch
   ·rw [uh HT3]; exact ⟨_,w6,ts,rfl,uh HOR,by omega⟩
   ·rw [uh HT3]; exact uh HRR
theorem xa8v {w:World} {g:Nat} {a b:Value} {t:TypeId} (h:w.heap[g]? = some (.cells #[a,b] t (0,0))) (x y:Value):((w.setCell ⟨g,0,none⟩ x).setCell ⟨g,1,none⟩ y).heap[g]? = some (.cells #[x,y] t (0,0)):=by
 rw [heap_setCell_same _ g 1 _ t _ (heap_setCell_same w g 0 _ t _ h)]; rfl
theorem xa4q {L:List Nat} {w0 w:World} (k:Kept L w0 w) (g:Nat) (hg:g∈L∨w0.heap.size≤g) (x y:Value):Kept L w0 ((w.setCell ⟨g,0,none⟩ x).setCell ⟨g,1,none⟩ y):=(k.setCell hg x).setCell hg y
theorem xa7w (ge gf:Nat) (w:World) :
  CallsD Tryz.prog 162 #[.pointer (some ⟨ge,0,none⟩),.pointer (some ⟨gf,0,none⟩)] .returning w fun e u' w'=>e = .returned (.tuple #[])∧u' = .returning∧w' = w:=by
 refine callsD_of_wpS Tryz.func162 rfl fun c₀ cs hu=>?_
 apply wpS_seq
 apply wpS_region
 simp [wpOpsS,go_sem,recoverD,hu,Tryz.ntmps162,Exit.thenS]
 refine wpS_of_wp ?_
 go_wp2
 cases c₀
 simp_all [bodyPostS,results,Tryz.results162]
theorem xa3t (f ge gf:Nat) (w:World) (a b x:Value) (he:w.heap[ge]? = some (.cells #[a,b] 129 (0,0))) (hf:w.heap[gf]? = some (.cells #[x] 27 (0,0))) (hne:ge≠gf) :
  CallsD Tryz.prog 162 #[.pointer (some ⟨ge,0,none⟩),.pointer (some ⟨gf,0,none⟩)] (.panicking (gave f)) w fun e u' w'=>e = .returned (.tuple #[])∧u' = .panicking [{ v:=.iface 300 (.agg #[.int .i64 (f:Int)]),recovered:=true }] ∧
   (w'.heap[ge]? = some (.cells #[.int .u64 0,.slice none 0 0] 129 (0,0))∧w'.heap[gf]? = some (.cells #[.int .i64 (f:Int)] 27 (0,0))∧Kept [ge,gf] w w'):=by
 have HE:=hide he
 have HF:=hide hf
 clear he hf
 unfold gave
 refine callsD_of_wpS Tryz.func162 rfl fun c₀ cs hu=>?_
 apply wpS_seq
 apply wpS_region
 simp [wpOpsS,go_sem,recoverD,hu,Tryz.ntmps162,Exit.thenS]
 refine wpS_of_wp ?_
 go_wp2_with fail
 refine Calls.mono (xa9l f w) ?_
 rintro r w1 ⟨rfl,k1⟩
 have HE1:=hide (k1.heap (uh HE) (by simp))
 have HF1:=hide (k1.heap (uh HF) (by simp))
 have HK1:=hide k1
 clear k1
 have s0:=cell_of_row _ _ 0 _ _ _ (uh HE1)
 have s1:=cell_of_row _ _ 1 _ _ _ (uh HE1)
 have t0:=cell_of_row _ _ 0 _ _ _ (uh HF1)
 have f0:=frozen_of_row _ _ 0 _ _ (uh HE1)
 have f1:=frozen_of_row _ _ 1 _ _ (uh HE1)
 have g0:=frozen_of_row _ _ 0 _ _ (uh HF1)
 have hne':gf≠ge:=fun h=>hne h.symm
 have HG1:=hide (xa8v (uh HE1) (.int .u64 0) (.slice none 0 0))
 have kp:=xa4q (Kept.refl [ge] w1) ge (Or.inl (by simp)) (.int .u64 0) (.slice none 0 0)
 have HG2:=hide (heap_setCell_same _ gf 0 _ 27 (.int .i64 (f:Int)) (kp.heap (uh HF1) (by simpa using hne')))
 have HG3:=hide (((Kept.refl [gf] _).setCell (p:=⟨gf,0,none⟩) (Or.inl (by simp)) (.int .i64 (f:Int))).heap (uh HG1) (by simpa using hne))
 have HK2:=hide ((xa4q ((uh HK1).mono (M:=[ge,gf]) (by simp)) ge (Or.inl (by simp)) (.int .u64 0) (.slice none 0 0)).setCell (p:=⟨gf,0,none⟩) (Or.inl (by simp)) (.int .i64 (f:Int)))
 clear kp
 go_wp2
 cases c₀
 simp_all [bodyPostS,results,Tryz.results162]
 exact ⟨uh HG3,uh HG2,uh HK2⟩
def decB (p:List Nat):Nat × List En × Nat :=
 if (takeB p 0).2.2.2≠0 then (0,[],(takeB p 0).2.2.2) else if doneE p (takeB p 0).2.2.1 0≠0 then (0,[],doneE p (takeB p 0).2.2.1 0) else ((takeB p 0).1,(takeB p 0).2.1,0)
set_option maxHeartbeats 2000000 in
theorem xa3k (v:Value) (p:List Nat) (w:World) (h:Rd w v p) :
  Calls Tryz.prog 117 #[v] w fun r w'=>∃ bv,r = .returned (.tuple #[.agg #[.int .u64 ((decB p).1:Int),bv],.int .i64 (decB p).2.2])∧NewN w.heap.size w' bv (decB p).2.1∧Kept [] w w':=by
 have H:=hide h
 clear h
 obtain ⟨D,hD⟩:∃ D,decB p = D:=⟨_,rfl⟩
 rw [hD]
 have HD:=hide hD
 unfold decB at HD
 clear hD
 have hmf:∀ (fn:Fn) (first cap:Array Value) (w:World),(Instr.makeFunc fn first cap).run Tryz.prog w = .ok (.func fn first cap) w:=fun _ _ _ _=>rfl
 have HE:=hide (((Kept.refl [] (w.alloc (.cells #[.int .u64 0,.slice none 0 0] 129))).alloc (.cells #[.int .i64 0] 27)).heap (heap_alloc_new w (.cells #[.int .u64 0,.slice none 0 0] 129)) (by simp))
 have HF:=hide (xa3z w (.cells #[.int .u64 0,.slice none 0 0] 129) (.cells #[.int .i64 0] 27))
 have HK0:=hide (((Kept.refl [] w).alloc (.cells #[.int .u64 0,.slice none 0 0] 129)).alloc (.cells #[.int .i64 0] 27))
 have HS0:=hide (show ((w.alloc (.cells #[.int .u64 0,.slice none 0 0] 129)).alloc (.cells #[.int .i64 0] 27)).heap.size = w.heap.size + 2 by simp)
 go_enter_defers Tryz.func117,Tryz.ntmps117
 go_wp2_with fail
 refine Calls.mono (xa2j v p _ ((uh H).old (uh HK0) (by simp))) ?_
 rintro r w1 ⟨b,gv,rfl,hb,r1,g1,k1⟩
 rw [uh HS0] at hb
 have HG1:=hide (fun x hx=>by have h9:=g1 x hx; rw [uh HS0] at h9; exact h9:∀ x∈blk gv,w.heap.size + 2≤x∧x < w1.heap.size)
 have HE1:=hide (k1.heap (uh HE) (by simp))
 have HF1:=hide (k1.heap (uh HF) (by simp))
 have HK1:=hide ((uh HK0).trans k1 (by simp))
 have HR1:=hide r1
 clear r1 g1 k1
 go_wp2_with fail
 refine Calls.mono (xa5e b gv p 0 w1 (uh HR1) (fun x hx=>(uh HG1 x hx).2)) ?_
 rintro r w2 ht
 obtain ⟨T,hT⟩:∃ T,takeB p 0 = T:=⟨_,rfl⟩
 rw [hT] at HD ht
 clear hT
 obtain ⟨ff,es,i2,f2⟩:=T
 simp only at HD
 obtain ⟨t1,t2,t3⟩:=ht
 simp only at t1 t2
 have HE2:=hide (t3.heap (uh HE1) (by simp; omega))
 have HF2:=hide (t3.heap (uh HF1) (by simp; omega))
 have HK2:=hide ((uh HK1).trans t3 (by simp; omega))
 clear t3
 by_cases hf2:f2≠0
 ·have hr:=t2 hf2
  subst hr
  have HD2:=hide (by rw [← uh HD,if_pos hf2]:D = (0,[],f2))
  clear t1 t2 HD
  go_wp2
  refine leaves_cons (f:=162) (args:=#[.pointer (some ⟨w.heap.size,0,none⟩),.pointer (some ⟨w.heap.size + 1,0,none⟩)]) (by simp) (by simp [go_sem]) ?_
  refine (xa3t f2 w.heap.size (w.heap.size + 1) w2 _ _ _ (uh HE2) (uh HF2) (by omega)).mono ?_
  rintro e u' w3 ⟨rfl,rfl,h1,h2,k3⟩
  have HE3:=hide h1
  have HF3:=hide h2
  clear h1 h2
  show Leaves _ _ _ _ [] .returning w3
  refine ⟨.tuple #[.agg #[.int .u64 0,.slice none 0 0],.int .i64 (f2:Int)],?_,?_⟩
  ·exact xa0u rfl _ _ w.heap.size (w.heap.size + 1) _ _ _ _ _ _ .i64 _ rfl (uh HE3) rfl (uh HF3) Tryz.underlying129 rfl Tryz.size_batch Tryz.underlying27
  ·refine ⟨.slice none 0 0,by rw [uh HD2]; rfl,by rw [uh HD2]; exact NewN.nil _ _ ((uh HK2).trans k3 (by simp)).size,(uh HK2).trans k3 (by simp)⟩
 replace hf2:f2 = 0:=Decidable.not_not.1 hf2
 obtain ⟨bv,hr,ok2,re2⟩:=t1 hf2
 subst hr
 have HD1:=hide (by have h9:=uh HD; rw [if_neg (by simpa using hf2)] at h9; exact h9)
 clear t1 t2 HD hf2
 obtain ⟨a3,m3,c3,kf,vf,hu3,_⟩:=id ok2.rdN
 subst hu3
 have HO2:=hide ok2
 have HR2:=hide re2
 clear ok2 re2
 have hw1:w.heap.size + 2≤w1.heap.size:=by have h9:=lt_of_block (uh HF1); omega
 have kst:=(Kept.refl [w.heap.size] w2).setRowE (g:=w.heap.size) (Or.inl (by simp)) #[.int .u64 (ff:Int),.slice a3 m3 c3]
 have HE3:=hide (setRow_heap w2 w.heap.size _ #[.int .u64 (ff:Int),.slice a3 m3 c3] 129 (0,0) (uh HE2))
 have HF3:=hide (kst.heap (uh HF2) (by simp))
 have HK3:=hide ((uh HK2).setRowE (g:=w.heap.size) (Or.inr (Nat.le_refl _)) #[.int .u64 (ff:Int),.slice a3 m3 c3])
 have HR3:=hide ((uh HR2).kept kst (by simp; omega) (fun x hx=>by simp; have h9:=uh HG1 x hx; omega))
 have HO3:=hide ((uh HO2).kept kst (by simp; omega))
 clear kst
 obtain ⟨A,hA⟩:∃ A:Array Value,#[.int .u64 (ff:Int),.slice a3 m3 c3] = A:=⟨_,rfl⟩
 have HA:=hide hA
 have HSZ:=hide (by rw [← hA]; exact Tryz.size_batch:(Tryz.prog.info? 129).map (·.size) = some A.size)
 have HS3:=hide (by rw [← hA]; rfl:A.size = 2)
 have HON:=hide (by rw [← hA]; simp [Value.oneCell']:A.all (·.oneCell') = true)
 rw [hA] at HE3 HF3 HK3 HR3 HO3 ⊢
 clear hA
 go_wp2_with (refine wpList_store_row rfl 129 _ _ rfl w.heap.size A rfl rfl _ _ (uh HE2) (uh HSZ) (uh HS3).symm (uh HON) ?_)
 obtain ⟨W3,hW3⟩:∃ W,w2.setRow w.heap.size A = W:=⟨_,rfl⟩
 rw [hW3] at HE3 HF3 HK3 HR3 HO3 ⊢
 clear hW3
 refine Calls.mono (xb3c b gv p i2 0 W3 (uh HR3)) ?_
 rintro r w4 ⟨rfl,n4,rfl⟩
 obtain ⟨d,hd⟩:∃ d,doneE p i2 0 = d:=⟨_,rfl⟩
 rw [hd] at HD1 ⊢
 clear hd
 have k4:=(Kept.refl [] W3).drewN n4
 have HE4:=hide (k4.heap (uh HE3) (by simp))
 have HF4:=hide (k4.heap (uh HF3) (by simp))
 have HK4:=hide ((uh HK3).trans k4 (by simp))
 have HO4:=hide ((uh HO3).kept k4 (by simp))
 clear k4
 by_cases hd0:d≠0
 ·have HD2:=hide (by rw [← uh HD1,if_pos hd0]:D = (0,[],d))
  clear HD1
  go_wp2_with fail
  refine Calls.mono (xa1e d _ hd0) ?_
  rintro r w5 ⟨rfl,rfl⟩
  clear hd0
  refine leaves_cons (f:=162) (args:=#[.pointer (some ⟨w.heap.size,0,none⟩),.pointer (some ⟨w.heap.size + 1,0,none⟩)]) (by simp) (by simp [go_sem]) ?_
  refine (xa3t d w.heap.size (w.heap.size + 1) _ _ _ _ (by have h9:=uh HE4; rw [← uh HA] at h9; exact h9) (uh HF4) (by omega)).mono ?_
  rintro e u' w6 ⟨rfl,rfl,h1,h2,k3⟩
  show Leaves _ _ _ _ [] .returning w6
  refine ⟨.tuple #[.agg #[.int .u64 0,.slice none 0 0],.int .i64 (d:Int)],?_,?_⟩
  ·exact xa0u rfl _ _ w.heap.size (w.heap.size + 1) _ _ _ _ _ _ .i64 _ rfl h1 rfl h2 Tryz.underlying129 rfl Tryz.size_batch Tryz.underlying27
  ·refine ⟨.slice none 0 0,by rw [uh HD2]; rfl,by rw [uh HD2]; exact NewN.nil _ _ ((uh HK4).trans k3 (by simp)).size,(uh HK4).trans k3 (by simp)⟩
 replace hd0:d = 0:=Decidable.not_not.1 hd0
 have HD2:=hide (by rw [← uh HD1,if_neg (by simpa using hd0)]:D = (ff,es,0))
 clear HD1
 subst hd0
 go_wp2_with fail
 refine Calls.mono (xa1w _) ?_
 rintro r w5 ⟨rfl,rfl⟩
 obtain ⟨W4,hW4⟩:∃ W,W3.drewN n4 = W:=⟨_,rfl⟩
 rw [hW4] at HE4 HF4 HK4 HO4 ⊢
 clear hW4
 have kst:=(Kept.refl [w.heap.size] W4).setRowE (g:=w.heap.size) (Or.inl (by simp)) A
 have HE5:=hide (setRow_heap W4 w.heap.size _ A 129 (0,0) (uh HE4))
 have HF5:=hide (kst.heap (uh HF4) (by simp))
 have HK5:=hide ((uh HK4).setRowE (g:=w.heap.size) (Or.inr (Nat.le_refl _)) A)
 have HO5:=hide ((uh HO4).kept kst (by simp; omega))
 clear kst
 have z0:=cell_of_row _ _ 0 _ _ _ (uh HF5)
 have zf:=frozen_of_row _ _ 0 _ _ (uh HF5)
 go_wp2_with (first
  | (refine wpList_load_row rfl 129 _ rfl w.heap.size rfl _ A (0,0) _ (uh HE4) Tryz.underlying129 rfl (uh HSZ) ?_)
  | (refine wpList_store_row rfl 129 _ _ rfl w.heap.size A rfl rfl _ _ (uh HE4) (uh HSZ) rfl (uh HON) ?_))
 have kc:=(Kept.refl [w.heap.size + 1] (W4.setRow w.heap.size A)).setCell (p:=⟨w.heap.size + 1,0,none⟩) (Or.inl (by simp)) (.int .i64 0)
 refine leaves_cons (f:=162) (args:=#[.pointer (some ⟨w.heap.size,0,none⟩),.pointer (some ⟨w.heap.size + 1,0,none⟩)]) (by simp) (by simp [go_sem]) ?_
 refine (xa7w w.heap.size (w.heap.size + 1) _).mono ?_
 rintro e u' w6 ⟨rfl,rfl,rfl⟩
 refine ⟨.tuple #[.agg A,.int .i64 0],?_,?_⟩
 ·exact xa0u rfl _ _ w.heap.size (w.heap.size + 1) _ _ _ _ _ _ .i64 _ rfl (kc.heap (uh HE5) (by simp)) rfl (heap_setCell_same _ (w.heap.size + 1) 0 _ 27 (.int .i64 0) (uh HF5)) Tryz.underlying129 rfl (uh HSZ) Tryz.underlying27
 ·refine ⟨.slice a3 m3 c3,by rw [uh HD2,← uh HA]; rfl,?_,(uh HK5).setCell (p:=⟨w.heap.size + 1,0,none⟩) (Or.inr (by show w.heap.size≤w.heap.size + 1; omega)) _⟩
  rw [uh HD2]
  exact ((uh HO5).kept kc (by simp; omega)).weak (by omega)
end
section
open Go Go.RowKit Go.BigFrame

theorem xb3w {P:Program} {o:Oper} {a:Act} (ty:TypeId) (x:Operand) (ho:o.op = .load ty x) (ad:Addr) (hx:a.eval x = .pointer (some ad)) (w:World) (v:Value) (k:IntKind) (hu:P.underlying ty = some (.int k)) (hc:w.cell? ad = some v) :
  (execOp a.eval o).run P w = .ok (.value v) w:=by
 have h2:(isAgg ty).run P w = .ok false w:=by
  unfold isAgg
  rw [Sem.run_bind,run_underlying hu w]; simp
 unfold execOp
 simp only [ho,hx,Instr.loadAt,Instr.sureAddr,Sem.run_bind,Sem.run_pure,Result.andThen_ok,loadVar,h2]
 simp [go_sem,hc]

end
section
open Go.RowKit Go.BigFrame


theorem rd_row {w:World} {g:Nat} (bs:List Nat) {cs:Array Value} {fr:Nat × Nat} (h:w.heap[g]? = some (.cells cs 5 fr)) (hc:cs = (bs.map u8).toArray) (hb:∀ x∈bs,x < 256) (n:Nat) (hn:bs.length = n) (hl:n≤140737488355328):Rd w (.slice (some ⟨g,0,none⟩) n n) bs:=by
 refine ⟨_,n,n,rfl,hn,Nat.le_refl _,⟨by omega,hl⟩,fun h=>by simp at h,hb,fun hp=>⟨g,0,rfl,fun i hi=>?_⟩⟩
 subst hc
 have hi':i < bs.length:=by omega
 rw [cell_of_row _ _ _ _ _ _ h,Nat.zero_add,List.getElem?_toArray,List.getElem?_map,List.getElem?_eq_getElem hi',List.getD_eq_getElem?_getD,List.getElem?_eq_getElem hi']
 rfl
theorem RdN.one {w:World} {g:Nat} {e:En} {kv vv:Value} {t:TypeId} {fr:Nat × Nat} (h:w.heap[g]? = some (.cells (enC e kv vv) t fr)) (ho:OkE w e kv vv):RdN w (.slice (some ⟨g,0,none⟩) 1 1) [e]:=by
 refine ⟨_,1,1,fun _=>kv,fun _=>vv,rfl,rfl,Nat.le_refl _,by omega,fun i hi=>?_,fun _=>⟨g,0,rfl,fun i hi=>?_⟩⟩
 ·have:i = 0:=by simpa using hi
  subst this; exact ho
 ·have:i = 0:=by simpa using hi
  subst this
  intro j v hv
  rw [cell_of_row _ _ _ _ _ _ h,Nat.zero_mul,Nat.add_zero,Nat.zero_add,← Array.getElem?_toList]
  exact hv
theorem xa6c (w:World) (a b c:Obj):(((w.alloc a).alloc b).alloc c).heap[w.heap.size]? = some a∧(((w.alloc a).alloc b).alloc c).heap[w.heap.size + 1]? = some b∧(((w.alloc a).alloc b).alloc c).heap[w.heap.size + 1 + 1]? = some c:=by
 refine ⟨?_,?_,?_⟩
 ·exact (((Kept.refl [] (w.alloc a)).alloc b).alloc c).heap (heap_alloc_new w a) (by simp)
 ·exact ((Kept.refl [] ((w.alloc a).alloc b)).alloc c).heap (xa3z w a b) (by simp)
 ·have h9:=xa3z (w.alloc a) b c
  rw [show (w.alloc a).heap.size = w.heap.size + 1 from Array.size_push _] at h9
  exact h9
def wideB (z:Int):Bool:=decide (1≤z∧z≤32)
theorem xa2g (z:Int) (w:World):Calls Tryz.prog 116 #[.int .i64 z] w fun e w'=>e = .returned (.bool (wideB z))∧w' = w:=by
 by_cases h1:1≤z
 ·by_cases h2:z≤32
  ·have hb:wideB z = true:=by simp [wideB,h1,h2]
   rw [hb]
   clear hb
   go_enter Tryz.func116,Tryz.ntmps116
   go_wp2
   go_ret
   exact ⟨rfl,rfl⟩
  ·have hb:wideB z = false:=by simp [wideB,h1]; omega
   have h2':decide (z≤32) = false:=by simpa using h2
   rw [hb]
   clear hb
   go_enter Tryz.func116,Tryz.ntmps116
   go_wp2
   go_ret
   exact ⟨rfl,rfl⟩
 ·have hb:wideB z = false:=by simp [wideB]; omega
  have h1':decide (1≤z) = false:=by simpa using h1
  rw [hb]
  clear hb
  go_enter Tryz.func116,Tryz.ntmps116
  go_wp2
  go_ret
  exact ⟨rfl,rfl⟩
def AppOk (base:Nat) (w:World) (v:Value) (bs:List Nat):Prop:=w.ownsRow base 5 1 v bs.length (bs.map u8)∨∃ g,v = .slice (some ⟨g,0,none⟩) bs.length bs.length∧Rd w v bs
theorem AppOk.pass {base:Nat} {w w':World} {v:Value} {bs:List Nat} (h:AppOk base w v bs) (k:Kept [] w w'):AppOk base w' v bs:=by
 rcases h with h | ⟨g,h1,h2⟩
 ·exact .inl (k.owns h (by simp))
 ·exact .inr ⟨g,h1,h2.old k (by simp)⟩
theorem pushA (w0 w:World) (v:Value) (bs:List Nat) (z:Nat) (H:Nat) (k:Kept [] w0 w) (h:AppOk w0.heap.size w v bs) (hnew:w.heap[H]? = some (.cells #[.int .u8 (z:Int)] 5 (0,0))) (hz:z < 256) (hl:bs.length + 1≤1000000000) :
  ∃ ao cap w1,(Builtin.append_ #[72,72] 72 #[v,.slice (some ⟨H,0,none⟩) 1 1]).run Tryz.prog w = .ok (.slice ao (bs.length + 1) cap) w1 ∧
   w1.ownsRow w0.heap.size 5 1 (.slice ao (bs.length + 1) cap) (bs++[z]).length ((bs++[z]).map u8)∧Kept [] w0 w1:=by
 have hr:Rd w (.slice (some ⟨H,0,none⟩) 1 1) [z]:=rd_lit hnew rfl (by simpa using hz) 1 rfl (by omega)
 rcases h with h | ⟨g,rfl,h2⟩
 ·obtain ⟨ao,cap,w1,hrun,ho,hg,_⟩:=appendAll w w0.heap.size v bs [z] _ 1 1 h hr (by simp; omega) k.size
  exact ⟨ao,cap,w1,hrun,ho,k.grown hg (fun j hj=>.inr (h.lt j hj).1)⟩
 ·obtain ⟨i0,hi,hz0,hz1,hz2⟩:=info_parts Tryz.info5
  have hold:∀ j u,(bs.map u8)[j]? = some u→w.cell? (Addr.add ⟨g,0,none⟩ j) = some u:=by
   intro j u hj
   by_cases h0:0 < (bs.map u8).length
   ·obtain ⟨ad',e,hc⟩:=h2.src h0
    cases e
    exact hc j u hj
   ·have:bs.map u8 = []:=List.eq_nil_of_length_eq_zero (by omega)
    rw [this] at hj; simp at hj
  have hnews:∀ j u,([z].map u8)[j]? = some u→w.cell? (Addr.add ⟨H,0,none⟩ j) = some u:=by
   intro j u hj
   obtain ⟨ad',e,hc⟩:=hr.src (by simp)
   cases e
   exact hc j u hj
  obtain ⟨v',w1,hrun,hown,hgrow⟩:=run_append_arg_grows (P:=Tryz.prog) w 72 72 5 i0 (.int .u8 0) 1 1 Tryz.underlying72 hi hz0 hz1 hz2 rfl (by decide)
   ⟨g,0,none⟩ bs.length bs.length (bs.map u8) (by simp) hold ⟨H,0,none⟩ 1 1 ([z].map u8) (by simp) hnews (by omega) (by unfold maxLen; omega) (by omega)
  obtain ⟨ao',cap',rfl⟩:=xa0x hown
  exact ⟨ao',cap',w1,hrun,by rw [List.length_append,List.map_append]; exact xa2n hown k.size,k.trans ((Kept.refl [] w).grown hgrow (by simp)) (by simp)⟩
theorem xa2v {ops:Array Oper} {rest:List Oper} {o:Oper} {a:Act} {Q:Exit→Act→World→Prop} (hgd:o.guard = none) (s x:Operand)
  (ho:o.op = .call { callee:=.builtin .append,args:=#[s,x],argTypes:=#[72,72] }) (hty:o.type = 72)
  (w0 w:World) (v:Value) (bs:List Nat) (z:Nat) (H:Nat) (k:Kept [] w0 w) (h:AppOk w0.heap.size w v bs) (hnew:w.heap[H]? = some (.cells #[.int .u8 (z:Int)] 5 (0,0))) (hz:z < 256) (hl:bs.length + 1≤1000000000)
  (hs:a.eval s = v) (hx:a.eval x = .slice (some ⟨H,0,none⟩) 1 1)
  (hK:∀ ao cap w1,Hid (w1.ownsRow w0.heap.size 5 1 (.slice ao (bs.length + 1) cap) (bs++[z]).length ((bs++[z]).map u8))→Hid (Kept [] w0 w1)→wpList Tryz.prog ops Q rest (a.put o.dst (.slice ao (bs.length + 1) cap)) w1) :
  wpList Tryz.prog ops Q (o :: rest) a w:=by
 obtain ⟨ao,cap,w1,hrun,h2,h3⟩:=pushA w0 w v bs z H k h hnew hz hl
 refine wpList_plain hgd fun K hK'=>?_
 unfold Oper.wp execOp
 simp only [ho,hty,resolve,invoke,builtin,Sem.run_bind,Sem.run_pure,Result.andThen_ok,List.map_toArray,List.map_cons,List.map_nil,hs,hx,hrun]
 exact hK' _ _ (hK ao cap w1 h2 h3)
theorem AppOk.shape {base:Nat} {w:World} {v:Value} {bs:List Nat} (h:AppOk base w v bs):∃ ao cap,v = .slice ao bs.length cap:=by
 rcases h with h | ⟨g,h1,h2⟩
 ·exact xa0x h
 ·exact ⟨_,_,h1⟩
set_option maxHeartbeats 2000000 in
theorem xa0w (w0 w:World) (v:Value) (bs:List Nat) (x:Nat) (k:Kept [] w0 w) (h:AppOk w0.heap.size w v bs) (hl:bs.length≤1000000) :
  Calls Tryz.prog 131 #[v,.int .u64 x] w fun e w'=>∃ v',e = .returned v'∧AppOk w0.heap.size w' v' (bs++wide x 8)∧Kept [] w0 w':=by
 have HH:=hide h
 have HK:=hide k
 clear h k
 go_enter Tryz.func131,Tryz.ntmps131
 go_wp2_with fail
 go_loopw [0,5] (fun t0 t5 wr=>∃ (k:Nat) (cur:List Nat),t5 = .int .i64 ((k:Int) - 1)∧k≤8∧Hid (cur++wide x k = bs++wide x 8)∧Hid (AppOk w0.heap.size wr t0 cur)∧Hid (Kept [] w0 wr)) (fun _ t _=>(intOf t + 1).toNat)
 case atStart=>exact ⟨8,bs,rfl,Nat.le_refl _,rfl,HH,HK⟩
 case round =>
  obtain ⟨k,cur,rfl,hk,Hp,HA,HK1⟩:=hrel
  have hlen:cur.length + k≤1000008:=by have h1:=congrArg List.length (uh Hp); simp [xa0n] at h1; omega
  by_cases h0:k = 0
  ·subst h0
   go_wp2
   go_ret
   have h1:cur = bs++wide x 8:=by have h2:=uh Hp; rw [show wide x 0 = [] from rfl,List.append_nil] at h2; exact h2
   exact ⟨_,rfl,by rw [← h1]; exact uh HA,uh HK1⟩
  ·obtain ⟨j,rfl⟩:∃ j,k = j + 1:=⟨k - 1,by omega⟩
   have e1:(((j + 1:Nat):Int) - 1) = (j:Int):=by omega
   rw [e1]
   have hj0:(0:Int)≤(j:Int):=by omega
   have hj8:(j:Int)≤7:=by omega
   obtain ⟨q,hq⟩:∃ q,q = x / 256 ^ j:=⟨_,rfl⟩
   have hsh:=shr8 x j (by omega)
   rw [← hq] at hsh
   have Hq:=hide hq
   clear hq
   have hz1:IntKind.u8.wrap (q:Int) = ((q % 256:Nat):Int):=by rw [IntKind.wrap_u8']; omega
   have hz2:(q:Int) % 256 = ((q % 256:Nat):Int):=by omega
   have HZ:=hide (Nat.mod_lt q (by decide:0 < 256))
   obtain ⟨y,hy⟩:∃ y,q % 256 = y:=⟨_,rfl⟩
   rw [hy] at hz1 hz2 HZ
   have HY:=hide hy
   have hval:(x:Int) / 2 ^ (8 * j) % 256 = (y:Int):=by
    have h1:(x:Int) / 2 ^ (8 * j) = (q:Int):=by rw [uh Hq,Int.pow_mul]; simp
    rw [h1,hz2]
   clear hy
   obtain ⟨ao,cap,he⟩:=(uh HA).shape
   subst he
   go_wp2_with (at_builtin; go_must (refine xa2v rfl (.tmp 10) (.tmp 16) rfl rfl w0 _ (.slice ao cur.length cap) cur y wr.heap.size ((uh HK1).alloc _) ((uh HA).pass ((Kept.refl [] wr).alloc _)) (heap_alloc_new _ _) (uh HZ) (by omega) rfl rfl ?_; intro ao2 cap2 w2 HO2 HK2))
   go_roundw
   case rel=>exact ⟨j,cur++[y],rfl,by omega,hide (by rw [← uh Hp,← uh HY,uh Hq]; simp [wide]),hide (.inl (uh HO2)),HK2⟩
   case measure=>simp [intOf]
theorem hcells {w:World} {b:Nat} {x0 x1 x2 x3:Value} {t:TypeId} (h:w.heap[b]? = some (.cells #[x0,x1,x2,x3] t (0,0))):w.cell? ⟨b,0,none⟩ = some x0∧w.cell? ⟨b,1,none⟩ = some x1∧w.cell? ⟨b,2,none⟩ = some x2∧w.cell? ⟨b,3,none⟩ = some x3:=by
 refine ⟨?_,?_,?_,?_⟩ <;> rw [cell_of_row _ _ _ _ _ _ h] <;> rfl
def headB (a b c:Nat) (z:Int):List Nat:=[78,84,82,89,49]++wide a 8++wide b 8++wide c 8++[(z % 256).toNat]
theorem xb6d (a b c:Nat) (z:Int):headB a b c z = [78,84,82,89,49]++wide a 8++wide b 8++wide c 8++[(z % 256).toNat]:=rfl
theorem xb3b (a b c:Nat) (z:Int):(headB a b c z).length = 30:=by simp [headB,xa0n]
def ehE (z:Int):Nat:=if wideB z then 0 else 1
def ehB (a b c:Nat) (z:Int):List Nat:=if wideB z then frB a (headB a b c z) else []
set_option maxHeartbeats 2000000 in
theorem xa4a (a b c:Nat) (z:Int) (w:World) (ha:a < 18446744073709551616) (hz:-9223372036854775808≤z∧z≤9223372036854775807) :
  Calls Tryz.prog 87 #[.agg #[.int .u64 a,.int .u64 b,.int .u64 c,.int .i64 z]] w fun e w'=>∃ v',e = .returned (.tuple #[v',.int .i64 (ehE z)])∧NewB w w' v' (ehB a b c z)∧Kept [] w w':=by
 have HK0:=hide ((Kept.refl [] w).alloc (.cells #[.int .u64 a,.int .u64 b,.int .u64 c,.int .i64 z] 81))
 have HB0:=hide (heap_alloc_new w (.cells #[.int .u64 a,.int .u64 b,.int .u64 c,.int .i64 z] 81))
 by_cases hw:wideB z = true
 ·have hE:ehE z = 0:=by simp [ehE,hw]
  have hB:ehB a b c z = frB a (headB a b c z):=by simp [ehB,hw]
  rw [hE,hB]
  clear hE hB
  have hzz:1≤z∧z≤32:=by simpa [wideB] using hw
  have kc:(convert 72 72 (.slice (some ⟨w.heap.size + 1,0,none⟩) 5 5)).run Tryz.prog ((w.alloc (.cells #[.int .u64 a,.int .u64 b,.int .u64 c,.int .i64 z] 81)).alloc (.cells #[.int .u8 78,.int .u8 84,.int .u8 82,.int .u8 89,.int .u8 49] 5)) = .ok (.slice (some ⟨w.heap.size + 1,0,none⟩) 5 5) ((w.alloc (.cells #[.int .u64 a,.int .u64 b,.int .u64 c,.int .i64 z] 81)).alloc (.cells #[.int .u8 78,.int .u8 84,.int .u8 82,.int .u8 89,.int .u8 49] 5 (5,6))):=by
   have h9:=Lib.run_convert_bytes_const (P:=Tryz.prog) (w.alloc (.cells #[.int .u64 a,.int .u64 b,.int .u64 c,.int .i64 z] 81)) 72 5 #[.int .u8 78,.int .u8 84,.int .u8 82,.int .u8 89,.int .u8 49] 5 5 Tryz.underlying72 Tryz.underlying5
   rw [show (w.alloc (.cells #[.int .u64 a,.int .u64 b,.int .u64 c,.int .i64 z] 81)).heap.size = w.heap.size + 1 by simp] at h9
   exact h9
  go_enter Tryz.func87,Tryz.ntmps87
  go_wp2_with fail
  refine Calls.mono (xa2g z _) ?_
  rintro e w1 ⟨rfl,rfl⟩
  rw [hw]
  go_wp2_with fail
  obtain ⟨W1,hW1⟩:∃ W,w.alloc (.cells #[.int .u64 a,.int .u64 b,.int .u64 c,.int .i64 z] 81) = W:=⟨_,rfl⟩
  have hs1:W1.heap.size = w.heap.size + 1:=by rw [← hW1]; simp
  rw [hW1] at HK0 HB0 ⊢
  have HS1:=hide hs1
  clear hW1 hs1 kc
  obtain ⟨W2,hW2⟩:∃ W,W1.alloc (.cells #[.int .u8 78,.int .u8 84,.int .u8 82,.int .u8 89,.int .u8 49] 5 (5,6)) = W:=⟨_,rfl⟩
  have HK2:=hide (by rw [← hW2]; exact (Kept.refl [] W1).alloc _:Kept [] W1 W2)
  have HR2:=hide (by rw [← hW2,← uh HS1]; exact rd_row [78,84,82,89,49] (heap_alloc_new W1 _) rfl (by decide) 5 rfl (by decide):Rd W2 (.slice (some ⟨w.heap.size + 1,0,none⟩) 5 5) [78,84,82,89,49])
  rw [hW2]
  clear hW2
  obtain ⟨d0,d1,d2,d3⟩:=hcells ((uh HK2).heap (uh HB0) (by simp))
  refine Calls.mono (xa0w W1 W2 _ [78,84,82,89,49] a (uh HK2) (.inr ⟨_,rfl,uh HR2⟩) (by decide)) ?_
  rintro e w3 ⟨v3,rfl,o3,k3⟩
  obtain ⟨a3,c3,rfl⟩:=o3.shape
  have HO3:=hide o3
  have HK3:=hide k3
  clear o3 k3 d0 d1 d2 d3 HR2 HK2
  obtain ⟨d0,d1,d2,d3⟩:=hcells ((uh HK3).heap (uh HB0) (by simp))
  go_wp2_with fail
  refine Calls.mono (xa0w W1 w3 _ _ b (uh HK3) (uh HO3) (by simp [xa0n])) ?_
  rintro e w4 ⟨v4,rfl,o4,k4⟩
  obtain ⟨a4,c4,rfl⟩:=o4.shape
  have HO4:=hide o4
  have HK4:=hide k4
  clear o4 k4 d0 d1 d2 d3 HO3 HK3
  obtain ⟨d0,d1,d2,d3⟩:=hcells ((uh HK4).heap (uh HB0) (by simp))
  go_wp2_with fail
  refine Calls.mono (xa0w W1 w4 _ _ c (uh HK4) (uh HO4) (by simp [xa0n])) ?_
  rintro e w5 ⟨v5,rfl,o5,k5⟩
  obtain ⟨a5,c5,rfl⟩:=o5.shape
  have HO5:=hide o5
  have HK5:=hide k5
  clear o5 k5 d0 d1 d2 d3 HO4 HK4
  have hbl:([78,84,82,89,49]++wide a 8++wide b 8++wide c 8).length = 29:=by simp [xa0n]
  have HHB:=hide (xb6d a b c z)
  generalize [78,84,82,89,49]++wide a 8++wide b 8++wide c 8 = bs at HO5 HHB hbl
  obtain ⟨y,hy⟩:∃ y:Nat,z = (y:Int):=⟨z.toNat,by omega⟩
  subst hy
  have hy2:((y:Int) % 256).toNat = y:=by omega
  rw [hy2] at HHB
  have hval:(y:Int) % 256 = (y:Int):=by omega
  have HLB:=hide hbl
  have hyl:y < 256:=by omega
  have HYL:=hide hyl
  obtain ⟨d0,d1,d2,d3⟩:=hcells ((uh HK5).heap (uh HB0) (by simp))
  clear hbl hy2 hyl
  go_wp2_with (at_builtin; go_must (refine xa2v rfl (.tmp 23) (.tmp 27) rfl rfl W1 _ _ bs y w5.heap.size ((uh HK5).alloc _) (by exact (uh HO5).pass ((Kept.refl [] w5).alloc _)) (heap_alloc_new _ _) (uh HYL) (by rw [uh HLB]; omega) rfl rfl ?_; intro a6 c6 w6 HO6 HK6; obtain ⟨x0,x1,x2,x3⟩:=hcells ((uh HK6).heap (uh HB0) (by simp))))
  have HK0w:=hide (uh HK6)
  have hby:∀ x∈bs++[y],x < 256:=by
   have h9:∀ x∈headB a b c (y:Int),x < 256:=by
    intro x hx
    unfold headB at hx
    simp only [List.mem_append,List.mem_cons,List.not_mem_nil,or_false] at hx
    rcases hx with ((((h | h | h | h | h) | h) | h) | h) | h
    ·omega
    ·omega
    ·omega
    ·omega
    ·omega
    ·exact xa1s _ _ x h
    ·exact xa1s _ _ x h
    ·exact xa1s _ _ x h
    ·omega
   rw [uh HHB] at h9; exact h9
  have HR6:=hide (xa2u (uh HO6) hby (by rw [List.length_append,uh HLB]; simp))
  clear hby d0 d1 d2 d3
  refine Calls.mono (xa4v a _ (bs++[y]) w6 (uh HR6) ha) ?_
  rintro e w7 ⟨v7,rfl,n7,k7⟩
  have hel:(bs++[y]).length = 30:=by rw [List.length_append,uh HLB]; rfl
  have hee:encE (bs++[y]) = 0:=by unfold encE; rw [hel]; rfl
  have heb:encB a (bs++[y]) = frB a (bs++[y]):=by unfold encB; rw [hee]; rfl
  rw [heb] at n7
  rw [hee]
  have HN7:=hide (n7.weak (w0:=w) (Nat.le_trans (uh HK0).size (uh HK6).size))
  have HK7:=hide (((uh HK0).trans (uh HK6) (by simp)).trans k7 (by simp))
  clear n7 k7 hel hee heb
  go_wp2
  go_ret2
  exact ⟨_,rfl,by rw [uh HHB]; exact uh HN7,uh HK7⟩
 ·have hw':wideB z = false:=by simpa using hw
  have hE:ehE z = 1:=by simp [ehE,hw']
  have hB:ehB a b c z = []:=by simp [ehB,hw']
  rw [hE,hB]
  clear hE hB hw
  go_enter Tryz.func87,Tryz.ntmps87
  go_wp2_with fail
  refine Calls.mono (xa2g z _) ?_
  rintro e w1 ⟨rfl,rfl⟩
  rw [hw']
  go_wp2
  go_ret2
  exact ⟨_,rfl,NewB.nil _ _,uh HK0⟩
set_option maxHeartbeats 1000000 in
theorem xb6q (u:Nat) (w:World) (hu:u < 18446744073709551616) (hv:VarsS w) :
  Calls Tryz.prog 72 #[.int .u64 u,.int .i64 10] w fun e w'=>e = .returned (.string (strB (dgs (Lib.nDigits u) u)))∧Kept [] w w':=by
 go_enter Tryz.func72,Tryz.ntmps72
 go_wp2_with fail
 refine Calls.mono (xb3e u _ hu hv) ?_
 rintro e w1 ⟨rfl,k1⟩
 have HK:=hide k1
 clear k1
 go_wp2
 go_ret
 exact ⟨rfl,uh HK⟩
set_option maxHeartbeats 1000000 in
theorem xb6p (k:Nat) (w:World) (hk:k≤20):Calls Tryz.prog 73 #[.string ⟨#[48]⟩,.int .i64 k] w fun e w'=>e = .returned (.string (strB (List.replicate k 48)))∧w' = w:=by
 by_cases h0:k = 0
 ·subst h0
  go_enter Tryz.func73,Tryz.ntmps73
  go_wp2
  go_ret
  exact ⟨rfl,rfl⟩
 by_cases h1:k = 1
 ·subst h1
  go_enter Tryz.func73,Tryz.ntmps73
  go_wp2
  go_ret
  exact ⟨rfl,rfl⟩
 refine (xb2c k w (by omega) hk).mono fun e w' h=>⟨?_,h.2⟩
 rw [h.1,xb8k ⟨k,by omega⟩]
set_option maxHeartbeats 2000000 in
theorem xa5t (u:Nat) (w:World) (hu:u < 18446744073709551616) (hv:VarsS w) :
  Calls Tryz.prog 35 #[.int .u64 u] w fun e w'=>e = .returned (.string (strB (nmL u)))∧Kept [] w w':=by
 have HP:=hide (Lib.lt_pow_nDigits u)
 have HN:=hide (by
  by_cases h0:u = 0
  ·subst h0; rw [Lib.nDigits_small (by omega)]; omega
  ·have:=Lib.numDigits_eq u (by omega) hu; split at this <;> omega:Lib.nDigits u≤20)
 have HF:=hide (xb6q u w hu hv)
 obtain ⟨nd,hnd⟩:∃ nd,Lib.nDigits u = nd:=⟨_,rfl⟩
 rw [hnd] at HP HN HF
 clear hnd hv
 have HS:=hide (xa0m (dgs nd u))
 rw [xa4x] at HS
 have HE:=hide (by
  have h1:=xb5a nd u (uh HP) (20 - nd)
  rw [Nat.sub_add_cancel (uh HN)] at h1
  unfold nmL
  rw [h1,xb1s,xb1s,← ByteArray.append_assoc]
  rfl:strB (nmL u) = (⟨#[115,101,103,45]⟩:ByteArray)++strB (List.replicate (20 - nd) 48)++strB (dgs nd u))
 obtain ⟨D,hD⟩:∃ D,strB (dgs nd u) = D:=⟨_,rfl⟩
 rw [hD] at HF HS HE
 clear hD
 have hsz:(D.size:Int) = nd:=by rw [uh HS]
 have hz0:(strB (List.replicate (20 - nd) 48)).size = 20 - nd:=by rw [xa0m,List.length_replicate]
 have hz1:¬ 9223372036854775807 < 4 + (strB (List.replicate (20 - nd) 48)).size:=by omega
 have hz2:¬ 9223372036854775807 < 4 + (strB (List.replicate (20 - nd) 48)).size + D.size:=by have:=uh HS; have:=uh HN; omega
 clear hz0
 have hsub:(20:Int) - (nd:Int) = ((20 - nd:Nat):Int):=by have:=uh HN; omega
 go_enter Tryz.func35,Tryz.ntmps35
 go_wp2_with fail
 refine Calls.mono (uh HF) ?_
 rintro e w1 ⟨rfl,k1⟩
 have HK:=hide k1
 clear k1
 go_wp2_with fail
 refine Calls.mono (xb6p (20 - nd) _ (by omega)) ?_
 rintro e w2 ⟨rfl,rfl⟩
 go_wp2
 go_ret
 exact ⟨by rw [uh HE]; rfl,uh HK⟩
theorem pre_is (l:List Nat):(strB ([115,101,103,45]++l)).data.toList.take 4 = [115,101,103,45]:=by simp [strB]
theorem xb7o (l:List Nat):(strB ([115,101,103,45]++l)).extract 4 (strB ([115,101,103,45]++l)).size = strB l:=by
 apply ByteArray.ext
 rw [ByteArray.data_extract,xa0m]
 simp [strB]
 rw [List.take_of_length_le (by simp)]
set_option maxHeartbeats 1000000 in
theorem xb1w (s:ByteArray) (w:World) (hs:s.size≤140737488355328) :
  Calls Tryz.prog 174 #[.string s,.string ⟨#[115,101,103,45]⟩] w fun e w'=>e = .returned (.bool (decide (4≤s.size∧s.data.toList.take 4 = [115,101,103,45])))∧w' = w:=by
 by_cases h4:4≤s.size
 ·have h1:(4:Int)≤s.size:=by omega
  have HE:=hide (by
   rw [xa1d,xb0f]
   by_cases h:s.data.toList.take 4 = [115,101,103,45]
   ·rw [decide_eq_true ⟨h4,h⟩,h]; decide
   ·rw [decide_eq_false (fun x=>h x.2)]; exact beq_eq_false_iff_ne.2 h:((s.extract 0 4).toList == [115,101,103,45]) = decide (4≤s.size∧s.data.toList.take 4 = [115,101,103,45]))
  go_enter Tryz.func174,Tryz.ntmps174
  go_wp2
  go_ret
  exact ⟨by rw [← uh HE]; rfl,rfl⟩
 ·have h1:¬ (4:Int)≤s.size:=by omega
  rw [decide_eq_false (fun x=>h4 x.1)]
  go_enter Tryz.func174,Tryz.ntmps174
  go_wp2
  go_ret
  exact ⟨rfl,rfl⟩
set_option maxHeartbeats 1000000 in
theorem xb3g (s:ByteArray) (w:World) (hs:s.size≤140737488355328) :
  Calls Tryz.prog 179 #[.string s,.string ⟨#[115,101,103,45]⟩] w fun e w'=>∃ t,e = .returned (.string t)∧t.size≤s.size∧(∀ l,s = strB ([115,101,103,45]++l)→t = strB l)∧w' = w:=by
 have HS:=hide (xb1w s w hs)
 by_cases hc:4≤s.size∧s.data.toList.take 4 = [115,101,103,45]
 ·rw [decide_eq_true hc] at HS
  have h1:(4:Int)≤s.size:=by have:=hc.1; omega
  clear hc
  go_enter Tryz.func179,Tryz.ntmps179
  go_wp2_with fail
  refine Calls.mono (uh HS) ?_
  rintro e w1 ⟨rfl,rfl⟩
  go_wp2
  go_ret
  exact ⟨_,rfl,by simp,fun l hl=>by subst hl; exact xb7o l,rfl⟩
 ·rw [decide_eq_false hc] at HS
  have HC:=hide hc
  clear hc
  go_enter Tryz.func179,Tryz.ntmps179
  go_wp2_with fail
  refine Calls.mono (uh HS) ?_
  rintro e w1 ⟨rfl,rfl⟩
  go_wp2
  go_ret
  exact ⟨_,rfl,Nat.le_refl _,fun l hl=>absurd ⟨by rw [hl,xa0m]; simp,by rw [hl]; exact pre_is l⟩ (uh HC),rfl⟩
set_option maxHeartbeats 1000000 in
theorem xb2d (s:ByteArray) (w:World) (hs:s.size≤140737488355328) :
  Calls Tryz.prog 129 #[.string s,.string ⟨#[115,101,103,45]⟩] w fun e w'=>∃ t,e = .returned (.string t)∧t.size≤s.size∧(∀ l,s = strB ([115,101,103,45]++l)→t = strB l)∧w' = w:=by
 go_enter Tryz.func129,Tryz.ntmps129
 go_wp2_with fail
 refine Calls.mono (xb3g s _ hs) ?_
 rintro e w1 ⟨t,rfl,h1,h2,rfl⟩
 have H1:=hide h1
 have H2:=hide h2
 clear h1 h2
 go_wp2
 go_ret
 exact ⟨t,rfl,uh H1,uh H2,rfl⟩
theorem xb1n (s:ByteArray) (w:World) (hs:s.size≤140737488355328) (hv:VarsS w) :
  Calls Tryz.prog 128 #[.string s,.int .i64 10,.int .i64 64] w fun e w'=>∃ (u:Nat) (er:Value),e = .returned (.tuple #[.int .u64 u,er])∧u < 18446744073709551616∧(er = .nilIface∨∃ t N,er = .iface t (.pointer (some ⟨N,0,none⟩)))∧Kept [] w w':=by
 obtain ⟨_,⟨t1,p1,h1⟩,t2,p2,h2⟩:=hv
 cases h:Lib.parseUintB 64 s.data.toList with
 | ok u =>
  refine (Tryz.strconv_ParseUint_10_at64_ok s (by omega) u h w).mono fun e w' hh=>⟨u,.nilIface,hh.1,by have:=Lib.parseUintB_le h; omega,Or.inl rfl,?_⟩
  rcases hh.2 with rfl | rfl
  ·exact Kept.refl _ _
  ·exact xa8z _ _ _
 | «syntax» =>
  refine (Tryz.strconv_ParseUint_10_at64_syntax_var s (by omega) h t1 p1 w h1).mono fun e w' hh=>?_
  obtain ⟨N,h3,_,_,h4⟩:=hh
  exact ⟨0,_,h3,by omega,Or.inr ⟨_,_,rfl⟩,Kept.ofBelow h4 (Nat.le_refl _)⟩
 | range =>
  refine (Tryz.strconv_ParseUint_10_at64_range_var s (by omega) h t2 p2 w h2).mono fun e w' hh=>?_
  obtain ⟨N,h3,_,_,h4⟩:=hh
  exact ⟨18446744073709551615,_,h3,by omega,Or.inr ⟨_,_,rfl⟩,Kept.ofBelow h4 (Nat.le_refl _)⟩
theorem str_ne {s t:ByteArray} (h:s≠t):(s.toList == t.toList) = false:=by
 rw [xa1d,xa1d]
 refine beq_eq_false_iff_ne.2 fun e=>h ?_
 apply ByteArray.ext
 exact Array.toList_inj.1 e
set_option maxHeartbeats 1000000 in
theorem xb0h (u:Nat) (w:World) (hu:u < 18446744073709551616) (hv:VarsS w) :
  Calls Tryz.prog 83 #[.string (strB (nmL u))] w fun e w'=>e = .returned (.tuple #[.int .u64 u,.int .i64 0])∧Kept [] w w':=by
 have HV:=hide hv
 have HSZ:=hide (by rw [xa0m,xb4o]; omega:(strB (nmL u)).size≤140737488355328)
 have HT:=hide (fun t (h:∀ l,strB (nmL u) = strB ([115,101,103,45]++l)→t = strB l)=>h (dgs 20 u) rfl:∀ t:ByteArray,(∀ l,strB (nmL u) = strB ([115,101,103,45]++l)→t = strB l)→t = strB (dgs 20 u))
 have HP:=hide (fun W=>xb3k (dgs 20 u) W (by rw [xa4x]; omega) (by rw [xa4x]; omega) (xa7n 20 u) (by rw [xa2d,Nat.mod_eq_of_lt (by omega)]; exact hu))
 simp only [xa2d,Nat.mod_eq_of_lt (show u < 10 ^ 20 by omega)] at HP
 have HN:=hide (fun W (h:VarsS W)=>xa5t u W hu h)
 obtain ⟨S,hS⟩:∃ S,strB (nmL u) = S:=⟨_,rfl⟩
 rw [hS] at HSZ HT HN ⊢
 have heq:(S.toList == S.toList) = true:=by simp
 clear hS hv
 go_enter Tryz.func83,Tryz.ntmps83
 go_wp2_with fail
 refine Calls.mono (xb2d S _ (uh HSZ)) ?_
 rintro e w1 ⟨t,rfl,_,h2,rfl⟩
 obtain rfl:=uh HT t h2
 clear h2
 go_wp2_with fail
 refine Calls.mono (uh HP _) ?_
 rintro e w2 ⟨rfl,k2⟩
 have HK2:=hide k2
 clear k2
 go_wp2_with fail
 refine Calls.mono (uh HN _ ((uh HV).old (uh HK2))) ?_
 rintro e w3 ⟨rfl,k3⟩
 have HK3:=hide ((uh HK2).trans k3 (by simp))
 clear k3
 go_wp2
 go_ret2
 exact ⟨rfl,uh HK3⟩
set_option maxHeartbeats 1000000 in
theorem xb2l (s:ByteArray) (w:World) (hs:s.size≤140737488355328) (h:∀ u,u < 18446744073709551616→s≠strB (nmL u)) (hv:VarsS w) :
  Calls Tryz.prog 83 #[.string s] w fun e w'=>e = .returned (.tuple #[.int .u64 0,.int .i64 3])∧Kept [] w w':=by
 have HV:=hide hv
 have HH:=hide h
 clear h hv
 go_enter Tryz.func83,Tryz.ntmps83
 go_wp2_with fail
 refine Calls.mono (xb2d s _ hs) ?_
 rintro e w1 ⟨t,rfl,h1,_,rfl⟩
 have H1:=hide h1
 clear h1
 go_wp2_with fail
 refine Calls.mono (xb1n t _ (by have:=uh H1; omega) (uh HV)) ?_
 rintro e w2 ⟨u,er,rfl,hu,her,k2⟩
 have HK2:=hide k2
 clear k2
 rcases her with rfl | ⟨t9,N9,rfl⟩
 ·go_wp2_with fail
  refine Calls.mono (xa5t u _ hu ((uh HV).old (uh HK2))) ?_
  rintro e w3 ⟨rfl,k3⟩
  have HK3:=hide ((uh HK2).trans k3 (by simp))
  clear k3
  have hne:=str_ne (fun e=>uh HH u hu e.symm)
  generalize strB (nmL u) = S at hne ⊢
  go_wp2
  go_ret2
  exact ⟨rfl,uh HK3⟩
 ·go_wp2
  go_ret2
  exact ⟨rfl,uh HK2⟩
def stp (v c:Nat):Nat:=(10 * v + c + 18446744073709551568) % 18446744073709551616
theorem stp_lt (v c:Nat):stp v c < 18446744073709551616:=by unfold stp; exact Nat.mod_lt _ (Nat.zero_lt_succ _)
theorem xb8o {v c:Nat} (h:48≤c) (hl:v * 10 + (c - 48) < 18446744073709551616):stp v c = v * 10 + (c - 48):=by unfold stp; omega
def dv (a:Nat) (m:List Nat):Nat:=m.foldl stp a
theorem xb4j (a x:Nat) (r:List Nat):dv a (x :: r) = dv (stp a x) r:=by unfold dv; rw [List.foldl_cons]
theorem dv_lt (m:List Nat):∀ a,a < 18446744073709551616→dv a m < 18446744073709551616:=by
 induction m with
 | nil=>intro a h; exact h
 | cons x r ih=>intro a h; rw [xb4j]; exact ih _ (stp_lt _ _)
def fd (a:Nat) (m:List Nat):Nat:=m.foldl (fun a d=>a * 10 + (d - 48)) a
theorem xb4z (a x:Nat) (r:List Nat):fd a (x :: r) = fd (a * 10 + (x - 48)) r:=by unfold fd; rw [List.foldl_cons]
theorem fd_ge (m:List Nat):∀ a,a≤fd a m:=by
 induction m with
 | nil=>intro a; exact Nat.le_refl _
 | cons x r ih=>intro a; rw [xb4z]; exact Nat.le_trans (by omega) (ih _)
theorem xb7u (m:List Nat):∀ a,(∀ x∈m,48≤x)→fd a m < 18446744073709551616→dv a m = fd a m:=by
 induction m with
 | nil=>intro a _ _; unfold dv fd; rw [List.foldl_nil,List.foldl_nil]
 | cons x r ih =>
  intro a hx hl
  rw [xb4z] at hl ⊢
  have h1:=fd_ge r (a * 10 + (x - 48))
  rw [xb4j,xb8o (hx x (by simp)) (Nat.lt_of_le_of_lt h1 hl)]
  exact ih _ (fun y hy=>hx y (by simp [hy])) hl
theorem xb4c {u:Nat} (hu:u < 18446744073709551616):dv 0 ((nmL u).drop 4) = u:=by
 have h0:(nmL u).drop 4 = dgs 20 u:=by unfold nmL; simp
 have h1:fd 0 (dgs 20 u) = u:=by
  have h2:=xa2d 20 u
  rw [Nat.mod_eq_of_lt (Nat.lt_of_lt_of_le hu (by decide))] at h2
  exact h2
 rw [h0,xb7u _ 0 (fun x hx=>(xa7n 20 u x hx).1) (by rw [h1]; exact hu)]
 exact h1
theorem xa0a {P:Program} {fn:Func} {p q r:Tmp} {ty:TypeId} (h:fn.results = #[.cell p ty,.tmp q,.tmp r]) (tmps:Array Value) (w:World) (g:Nat) (t:TypeId) (cs:Array Value) (fr:Nat × Nat) (d:TypeDesc)
  (hp:tmps.getD p undef = .pointer (some ⟨g,0,none⟩)) (hg:w.heap[g]? = some (.cells cs t fr))
  (hu:P.underlying ty = some d) (hd:(match d with | .struct _ | .array _ _=>true | _=>false) = true) (hi:(P.info? ty).map (·.size) = some cs.size) (v u:Value) (hq:tmps.getD q undef = v) (hr:tmps.getD r undef = u) :
  (results fn tmps).run P w = .ok (.tuple #[.agg cs,v,u]) w:=by
 have hp':tmps[p]?.getD undef = .pointer (some ⟨g,0,none⟩):=by simpa using hp
 have hq':tmps[q]?.getD undef = v:=by simpa using hq
 have hr':tmps[r]?.getD undef = u:=by simpa using hr
 simp [results,h,hp',hq',hr',asAddr,run_loadVar_row w g t ty cs fr d hg hu hd hi]
structure NxR where
 pl:Nat
 pay:List Nat
 next:Int
 kind:Nat
def nextF (p:List Nat) (z:Int):NxR :=
 if z = p.length then ⟨0,[],z,0⟩ else if z < 0∨(p.length:Int) < z then ⟨0,[],z,2⟩ else
 match firstF (p.drop z.toNat) with
 | none=>⟨0,[],z,2⟩
 | some x=>⟨x.1,x.2,z + 18 + x.2.length,1⟩
theorem Rd.dropN {w:World} {b off cap:Nat} {p:List Nat} (h:Rd w (.slice (some ⟨b,off,none⟩) p.length cap) p) (n:Nat) (hn:n≤p.length):Rd w (.slice (some ⟨b,off + n,none⟩) (p.length - n) (cap - n)) (p.drop n):=by
 obtain ⟨ao',len',cap',he,_,h2,⟨h3,h3'⟩,h4,h5,h6⟩:=h
 cases he
 refine ⟨_,_,_,rfl,by rw [List.length_drop],by omega,⟨by omega,by omega⟩,fun h=>by simp at h,fun x hx=>h5 x (List.mem_of_mem_drop hx),fun hp=>?_⟩
 obtain ⟨b',off',e,hc⟩:=h6 (by omega)
 cases e
 refine ⟨b,off + n,rfl,fun i hi=>?_⟩
 have:=hc (n + i) (by omega)
 rw [Nat.add_assoc,this,List.getD_eq_getElem?_getD,List.getD_eq_getElem?_getD,List.getElem?_drop]
set_option maxHeartbeats 2000000 in
theorem xa9a (v:Value) (p:List Nat) (z:Int) (w:World) (h:Rd w v p) (hz:-9223372036854775808≤z∧z≤9223372036854775807) :
  Calls Tryz.prog 113 #[v,.int .i64 z] w fun e w'=>∃ v',e = .returned (.tuple #[.agg #[.int .u64 (nextF p z).pl,v'],.int .i64 (nextF p z).next,.int .i64 (nextF p z).kind])∧NewP w w' v' (nextF p z).pay∧Kept [] w w':=by
 have H:=hide h
 obtain ⟨a1,n1,c1,rfl,hn1,hc1,⟨hc2,hc3⟩,_,_,hcell⟩:=id h
 subst hn1
 clear h
 have HZ0:=hide (heap_alloc_new w (.cells #[.int .u64 0,.slice none 0 0] 187))
 have HK0:=hide ((Kept.refl [] w).alloc (.cells #[.int .u64 0,.slice none 0 0] 187))
 have HQ0:=hide (xa0p (uh HZ0) (.int .u64 0) (.slice none 0 0))
 have HKQ:=hide (xa0i (uh HK0) w.heap.size (Nat.le_refl _) (.int .u64 0) (.slice none 0 0))
 by_cases h1:z = p.length
 ·have hN:nextF p z = ⟨0,[],z,0⟩:=by unfold nextF; rw [if_pos h1]
  rw [hN]
  clear hN hcell
  subst h1
  go_enter Tryz.func113,Tryz.ntmps113
  go_wp2
  refine bodyPost_ret (v:=.tuple #[.agg #[.int .u64 0,.slice none 0 0],.int .i64 p.length,.int .i64 0]) ?_ rfl ⟨_,rfl,NewP.nil _ _,uh HK0⟩
  exact xa0a rfl _ _ w.heap.size _ #[.int .u64 0,.slice none 0 0] (0,0) _ rfl (uh HZ0) Tryz.underlying187 rfl Tryz.size_frame _ _ rfl rfl
 have h1':(z == (p.length:Int)) = false:=by rw [beq_eq_false_iff_ne]; exact h1
 by_cases h2:z < 0
 ·have hN:nextF p z = ⟨0,[],z,2⟩:=by unfold nextF; rw [if_neg h1,if_pos (Or.inl h2)]
  rw [hN]
  clear hN hcell
  go_enter Tryz.func113,Tryz.ntmps113
  go_wp2
  refine bodyPost_ret (v:=.tuple #[.agg #[.int .u64 0,.slice none 0 0],.int .i64 z,.int .i64 2]) ?_ rfl ⟨_,rfl,NewP.nil _ _,uh HK0⟩
  exact xa0a rfl _ _ w.heap.size _ #[.int .u64 0,.slice none 0 0] (0,0) _ rfl (uh HZ0) Tryz.underlying187 rfl Tryz.size_frame _ _ rfl rfl
 by_cases h3:(p.length:Int) < z
 ·have hN:nextF p z = ⟨0,[],z,2⟩:=by unfold nextF; rw [if_neg h1,if_pos (Or.inr h3)]
  rw [hN]
  clear hN hcell
  go_enter Tryz.func113,Tryz.ntmps113
  go_wp2
  refine bodyPost_ret (v:=.tuple #[.agg #[.int .u64 0,.slice none 0 0],.int .i64 z,.int .i64 2]) ?_ rfl ⟨_,rfl,NewP.nil _ _,uh HK0⟩
  exact xa0a rfl _ _ w.heap.size _ #[.int .u64 0,.slice none 0 0] (0,0) _ rfl (uh HZ0) Tryz.underlying187 rfl Tryz.size_frame _ _ rfl rfl
 obtain ⟨n,rfl⟩:∃ n:Nat,z = n:=⟨z.toNat,by omega⟩
 have hn:n < p.length:=by omega
 obtain ⟨bb,off,rfl,hcl⟩:=hcell (by omega)
 clear hcell hcl
 have HD:=hide ((uh H).dropN n (by omega))
 have HNF:=hide (by unfold nextF; rw [if_neg h1,if_neg (by omega),Int.toNat_natCast]:nextF p n = match firstF (p.drop n) with
  | none=>⟨0,[],n,2⟩
  | some x=>⟨x.1,x.2,(n:Int) + 18 + x.2.length,1⟩)
 cases hf:firstF (p.drop n) with
 | none =>
  rw [hf] at HNF
  rw [uh HNF]
  have HF:=hide hf
  clear hf
  have h3':¬ (p.length:Int) < n:=by omega
  go_enter Tryz.func113,Tryz.ntmps113
  go_wp2_with fail
  refine Calls.mono (xa7h _ (p.drop n) _ ((uh HD).old (uh HK0) (by simp))) ?_
  rintro e w1 ⟨v1,rfl,n1,k1⟩
  rw [uh HF]
  have HZ1:=hide (k1.heap (uh HZ0) (by simp))
  have HK1:=hide ((uh HK0).trans k1 (by simp))
  obtain ⟨a2,n2,c2,hv1,_⟩:=id n1.1
  subst hv1
  clear k1 n1
  have k2:=(Kept.refl [] w1).alloc (.cells #[.int .u64 (fstPl (p.drop n):Int),.slice a2 n2 c2] 187)
  have HZ2:=hide (k2.heap (uh HZ1) (by simp))
  have HK2:=hide ((uh HK1).alloc (.cells #[.int .u64 (fstPl (p.drop n):Int),.slice a2 n2 c2] 187))
  have d0:(w1.alloc (.cells #[.int .u64 (fstPl (p.drop n):Int),.slice a2 n2 c2] 187)).cell? ⟨w.heap.size,0,none⟩ = some (.int .u64 0):=by rw [cell_of_row _ _ _ _ _ _ (uh HZ2)]; rfl
  have d1:(w1.alloc (.cells #[.int .u64 (fstPl (p.drop n):Int),.slice a2 n2 c2] 187)).cell? ⟨w.heap.size,1,none⟩ = some (.slice none 0 0):=by rw [cell_of_row _ _ _ _ _ _ (uh HZ2)]; rfl
  have f0:(w1.alloc (.cells #[.int .u64 (fstPl (p.drop n):Int),.slice a2 n2 c2] 187)).frozen? ⟨w.heap.size,0,none⟩ = false:=frozen_of_row _ _ _ _ _ (uh HZ2)
  have f1:(w1.alloc (.cells #[.int .u64 (fstPl (p.drop n):Int),.slice a2 n2 c2] 187)).frozen? ⟨w.heap.size,1,none⟩ = false:=frozen_of_row _ _ _ _ _ (uh HZ2)
  clear k2
  go_wp2
  refine bodyPost_ret (v:=.tuple #[.agg #[.int .u64 0,.slice none 0 0],.int .i64 n,.int .i64 2]) ?_ rfl ⟨_,rfl,NewP.nil _ _,xa0i (uh HK2) w.heap.size (Nat.le_refl _) (.int .u64 0) (.slice none 0 0)⟩
  exact xa0a rfl _ _ w.heap.size _ #[.int .u64 0,.slice none 0 0] (0,0) _ rfl (xa0p (uh HZ2) (.int .u64 0) (.slice none 0 0)) Tryz.underlying187 rfl Tryz.size_frame _ _ rfl rfl
 | some x =>
  obtain ⟨pl,pay⟩:=x
  rw [hf] at HNF
  rw [uh HNF]
  have hfm:=xa3v hf (fun x hx=>(uh H).byte x (List.mem_of_mem_drop hx))
  have hlen:n + 18 + pay.length≤p.length:=by
   have:=congrArg List.length hfm.2.2.2.2
   rw [List.length_append,xa3w,List.length_drop] at this
   omega
  have HF:=hide hf
  have e1:fstPl (p.drop n) = pl:=by simp [fstPl,hf]
  have e2:fstPay (p.drop n) = pay:=by simp [fstPay,hf]
  clear hf
  have h3':¬ (p.length:Int) < n:=by omega
  go_enter Tryz.func113,Tryz.ntmps113
  go_wp2_with fail
  refine Calls.mono (xa7h _ (p.drop n) _ ((uh HD).old (uh HK0) (by simp))) ?_
  rintro e w1 ⟨v1,rfl,n1,k1⟩
  rw [e2] at n1
  rw [uh HF,e1]
  have HZ1:=hide (k1.heap (uh HZ0) (by simp))
  have HK1:=hide ((uh HK0).trans k1 (by simp))
  have HN1:=hide n1
  obtain ⟨a2,n2,c2,hv1,hn2,_⟩:=id n1.1
  subst hv1
  subst hn2
  clear k1 n1 e1 e2 hfm
  have k2:=(Kept.refl [] w1).alloc (.cells #[.int .u64 (pl:Int),.slice a2 pay.length c2] 187)
  have HZ2:=hide (k2.heap (uh HZ1) (by simp))
  have HK2:=hide ((uh HK1).alloc (.cells #[.int .u64 (pl:Int),.slice a2 pay.length c2] 187))
  have d0:(w1.alloc (.cells #[.int .u64 (pl:Int),.slice a2 pay.length c2] 187)).cell? ⟨w.heap.size,0,none⟩ = some (.int .u64 0):=by rw [cell_of_row _ _ _ _ _ _ (uh HZ2)]; rfl
  have d1:(w1.alloc (.cells #[.int .u64 (pl:Int),.slice a2 pay.length c2] 187)).cell? ⟨w.heap.size,1,none⟩ = some (.slice none 0 0):=by rw [cell_of_row _ _ _ _ _ _ (uh HZ2)]; rfl
  have f0:(w1.alloc (.cells #[.int .u64 (pl:Int),.slice a2 pay.length c2] 187)).frozen? ⟨w.heap.size,0,none⟩ = false:=frozen_of_row _ _ _ _ _ (uh HZ2)
  have f1:(w1.alloc (.cells #[.int .u64 (pl:Int),.slice a2 pay.length c2] 187)).frozen? ⟨w.heap.size,1,none⟩ = false:=frozen_of_row _ _ _ _ _ (uh HZ2)
  clear k2
  go_wp2
  obtain ⟨W,hW⟩:∃ W,w1.alloc (.cells #[.int .u64 (pl:Int),.slice a2 pay.length c2] 187) = W:=⟨_,rfl⟩
  have HC:=hide (heap_alloc_new w1 (.cells #[.int .u64 (pl:Int),.slice a2 pay.length c2] 187))
  have hlt1:w.heap.size < w1.heap.size:=lt_of_block (uh HZ1)
  have HNW:=hide ((uh HN1).1.old ((Kept.refl [] w1).alloc (.cells #[.int .u64 (pl:Int),.slice a2 pay.length c2] 187)) (by simp))
  rw [hW] at HC d0 d1 f0 f1 HZ2 HK2 HNW ⊢
  clear hW
  have e0:W.cell? ⟨w1.heap.size,0,none⟩ = some (.int .u64 pl):=by rw [cell_of_row _ _ _ _ _ _ (uh HC)]; rfl
  have e1:W.cell? ⟨w1.heap.size,1,none⟩ = some (.slice a2 pay.length c2):=by rw [cell_of_row _ _ _ _ _ _ (uh HC)]; rfl
  have hne:w.heap.size≠w1.heap.size:=by omega
  have HB1:=hide (fun x hx=>by have h9:=(uh HN1).2 x hx; have h8:(w.alloc (.cells #[.int .u64 0,.slice none 0 0] 187)).heap.size = w.heap.size + 1:=(by simp); omega:∀ x∈blk (.slice a2 pay.length c2),w.heap.size + 1≤x)
  have HRQ:=hide ((uh HNW).kept (xa5f W w.heap.size (.int .u64 pl) (.slice a2 pay.length c2)) (by
   intro x hx hm
   have h9:=uh HB1 x hx
   have h8:x = w.heap.size:=by simpa using hm
   omega))
  go_region_held3 (fun w'=>w'.cell? ⟨w1.heap.size,0,none⟩ = some (.int .u64 pl)∧w'.cell? ⟨w1.heap.size,1,none⟩ = some (.slice a2 pay.length c2)) (go_keep) (fail)
  have hww:IntKind.i64.wrap (IntKind.i64.wrap ((n:Int) + 18) + pay.length) = (n:Int) + 18 + pay.length:=by rw [IntKind.wrap_i64,IntKind.wrap_i64]; omega
  all_goals go_wp2
  all_goals
   refine bodyPost_ret (v:=.tuple #[.agg #[.int .u64 pl,.slice a2 pay.length c2],.int .i64 ((n:Int) + 18 + pay.length),.int .i64 1]) ?_ rfl ⟨.slice a2 pay.length c2,rfl,⟨uh HRQ,fun x hx=>by have h9:=uh HB1 x hx; omega⟩,(xa0i (uh HK2) w.heap.size (Nat.le_refl _) (.int .u64 pl) (.slice a2 pay.length c2)).drew⟩
   refine xa0a rfl _ _ w.heap.size 187 #[.int .u64 pl,.slice a2 pay.length c2] (0,0) _ rfl (by exact xa0p (uh HZ2) (.int .u64 pl) (.slice a2 pay.length c2)) Tryz.underlying187 rfl Tryz.size_frame _ _ ?_ rfl
   simp [hww]

theorem xa3s (p:List Nat) (z:Int) (hb:∀ x∈p,x < 256) :
  (z = p.length∧nextF p z = ⟨0,[],z,0⟩)∨(z≠p.length∧nextF p z = ⟨0,[],z,2⟩) ∨
  ∃ (n pl:Nat) (pay:List Nat),z = n∧nextF p z = ⟨pl,pay,((n + 18 + pay.length:Nat):Int),1⟩∧pl < 18446744073709551616∧1≤pay.length∧pay.length≤65535∧(∀ x∈pay,x < 256)∧n + 18 + pay.length≤p.length∧(p.drop n).take (18 + pay.length) = frB pl pay∧firstF (p.drop n) = some (pl,pay):=by
 by_cases h1:z = p.length
 ·exact Or.inl ⟨h1,by unfold nextF; rw [if_pos h1]⟩
 refine Or.inr ?_
 by_cases h2:z < 0∨(p.length:Int) < z
 ·exact Or.inl ⟨h1,by unfold nextF; rw [if_neg h1,if_pos h2]⟩
 obtain ⟨n,rfl⟩:∃ n:Nat,z = n:=⟨z.toNat,by omega⟩
 have hN:nextF p n = match firstF (p.drop n) with
  | none=>⟨0,[],n,2⟩
  | some x=>⟨x.1,x.2,(n:Int) + 18 + x.2.length,1⟩:=by
  unfold nextF; rw [if_neg h1,if_neg h2,Int.toNat_natCast]; try (cases firstF (p.drop n) <;> rfl)
 cases hf:firstF (p.drop n) with
 | none=>exact Or.inl ⟨h1,by rw [hN,hf]⟩
 | some x =>
  obtain ⟨pl,pay⟩:=x
  have hfm:=xa3v hf (fun x hx=>hb x (List.mem_of_mem_drop hx))
  have hlen:n + 18 + pay.length≤p.length:=by
   have:=congrArg List.length hfm.2.2.2.2
   rw [List.length_append,xa3w,List.length_drop] at this
   omega
  refine Or.inr ⟨n,pl,pay,rfl,?_,hfm.1,hfm.2.1,hfm.2.2.1,hfm.2.2.2.1,hlen,?_,hf⟩
  ·rw [hN,hf]; simp
  ·conv=>lhs; rw [hfm.2.2.2.2]
   rw [List.take_append_of_le_length (by rw [xa3w]; omega),List.take_of_length_le (by rw [xa3w]; omega)]
theorem Rd.cutN {w:World} {b off cap:Nat} {p:List Nat} (h:Rd w (.slice (some ⟨b,off,none⟩) p.length cap) p) (n N:Nat) (hn:n≤N) (hN:N≤p.length):Rd w (.slice (some ⟨b,off + n,none⟩) (N - n) (cap - n)) ((p.drop n).take (N - n)):=by
 obtain ⟨ao',len',cap',he,_,h2,⟨h3,h3'⟩,h4,h5,h6⟩:=h
 cases he
 refine ⟨_,_,_,rfl,by rw [List.length_take,List.length_drop]; omega,by omega,⟨by omega,by omega⟩,fun h=>by simp at h,fun x hx=>h5 x (List.mem_of_mem_drop (List.mem_of_mem_take hx)),fun hp=>?_⟩
 obtain ⟨b',off',e,hc⟩:=h6 (by omega)
 cases e
 refine ⟨b,off + n,rfl,fun i hi=>?_⟩
 have:=hc (n + i) (by omega)
 rw [Nat.add_assoc,this,List.getD_eq_getElem?_getD,List.getD_eq_getElem?_getD,List.getElem?_take,if_pos hi,List.getElem?_drop]
theorem xa7f {p:List Nat} (h1:1≤p.length) (h2:p.length≤65535):encE p = 0:=by unfold encE; rw [if_neg (by omega),if_neg (by omega)]
theorem xb2q {pl:Nat} {p:List Nat} (h1:1≤p.length) (h2:p.length≤65535):encB pl p = frB pl p:=by unfold encB; rw [xa7f h1 h2]; rfl
set_option maxHeartbeats 2000000 in
theorem xb2b (u v:Value) (p q:List Nat) (w:World) (hu:Rd w u p) (hv:Rd w v q) :
  Calls Tryz.prog 213 #[u,v] w fun e w'=>e = .returned (.bool (decide (p = q)))∧w' = w:=by
 have hu5:Tryz.prog.underlying 5 = some (.int .u8):=by kernel_rfl
 have hu9:Tryz.prog.underlying 9 = some .string:=by kernel_rfl
 have c1:=xa6l u p w hu hu5 hu9
 have c2:=xa6l v q w hv hu5 hu9
 have hd:((strOf p).toList == (strOf q).toList) = decide (p = q):=by
  rw [xa6m,xa6m]
  by_cases h:p = q
  ·subst h; simp
  ·have h2:¬ (strOf p).data.toList = (strOf q).data.toList:=fun e=>h (xb2m hu.byte hv.byte (by
    have e2:=congrArg List.toArray e
    simp only [Array.toArray_toList] at e2
    cases hp:strOf p; cases hq:strOf q
    rw [hp,hq] at e2
    simp only at e2
    rw [e2]))
   rw [decide_eq_false h]
   exact beq_eq_false_iff_ne.2 h2
 have Hd:=hide hd
 generalize strOf p = s1 at *
 generalize strOf q = s2 at *
 clear hu hv hu5 hu9 hd
 go_enter Tryz.func213,Tryz.ntmps213
 go_wp2
 go_ret
 exact ⟨by rw [uh Hd]; rfl,rfl⟩
set_option maxHeartbeats 1000000 in
theorem xa6o (u v:Value) (p q:List Nat) (w:World) (hu:Rd w u p) (hv:Rd w v q) (hl:q.length≤p.length) :
  Calls Tryz.prog 161 #[u,v] w fun e w'=>e = .returned (.bool (decide (p.take q.length = q)))∧w' = w:=by
 have HU:=hide hu
 have HV:=hide hv
 obtain ⟨a1,n1,c1,rfl,hn1,hc1,⟨hc2,hc3⟩,_⟩:=id hu
 obtain ⟨a2,n2,c2,rfl,hn2,_⟩:=id hv
 subst hn1
 subst hn2
 have hl':(q.length:Int)≤p.length:=by omega
 have hc9:(q.length:Int)≤c1:=by omega
 have HC:=hide ((uh HU).take0 hl)
 clear hu hv
 go_enter Tryz.func161,Tryz.ntmps161
 go_wp2_with fail
 refine Calls.mono (xb2b _ _ (p.take q.length) q w (uh HC) (uh HV)) ?_
 rintro e w1 ⟨rfl,rfl⟩
 go_wp2
 go_ret
 exact ⟨rfl,rfl⟩
set_option maxHeartbeats 1000000 in
theorem xb6w (b off cap:Nat) (v:Value) (p q:List Nat) (w:World) (hu:Rd w (.slice (some ⟨b,off,none⟩) p.length cap) p) (hv:Rd w v q) (hlt:q.length < p.length) :
  Calls Tryz.prog 114 #[.slice (some ⟨b,off,none⟩) p.length cap,v] w fun e w'=>e = .returned (.tuple #[if p.take q.length = q then .slice (some ⟨b,off + q.length,none⟩) (p.length - q.length) (cap - q.length) else .slice (some ⟨b,off,none⟩) p.length cap,.bool (decide (p.take q.length = q))])∧w' = w:=by
 have HU:=hide hu
 have HV:=hide hv
 obtain ⟨_,_,_,he,_,hc1,⟨hc2,hc3⟩,_⟩:=id hu
 cases he
 obtain ⟨a2,n2,c2,rfl,hn2,_⟩:=id hv
 subst hn2
 have hl:q.length≤p.length:=by omega
 have hl':(q.length:Int)≤p.length:=by omega
 have hcq:¬ cap = q.length:=by omega
 have hc9:(q.length:Int)≤cap:=by omega
 clear hu hv
 by_cases he:p.take q.length = q
 ·rw [if_pos he,decide_eq_true he]
  have HE:=hide (decide_eq_true he)
  clear he
  go_enter Tryz.func114,Tryz.ntmps114
  go_wp2_with fail
  refine Calls.mono (xa6o _ _ p q w (uh HU) (uh HV) hl) ?_
  rintro e w1 ⟨rfl,rfl⟩
  rw [uh HE]
  go_wp2
  go_ret2
  exact ⟨by simp,rfl⟩
 ·rw [if_neg he,decide_eq_false he]
  have HE:=hide (decide_eq_false he)
  clear he
  go_enter Tryz.func114,Tryz.ntmps114
  go_wp2_with fail
  refine Calls.mono (xa6o _ _ p q w (uh HU) (uh HV) hl) ?_
  rintro e w1 ⟨rfl,rfl⟩
  rw [uh HE]
  go_wp2
  go_ret2
  exact ⟨by simp,rfl⟩
set_option maxHeartbeats 2000000 in
theorem xa5v (b off cap i:Nat) (p:List Nat) (w:World) (hu:Rd w (.slice (some ⟨b,off,none⟩) p.length cap) p) (hi:i < 3) (hl:p.length = 25) :
  Calls Tryz.prog 115 #[.slice (some ⟨b,off,none⟩) p.length cap,.int .i64 i] w fun e w'=>e = .returned (.int .u64 (beL ((p.drop (i * 8)).take 8)))∧w' = w:=by
 obtain ⟨_,_,_,he,_,hc1,⟨hc2,hc3⟩,_,hby,hcl⟩:=id hu
 cases he
 obtain ⟨b9,o9,e9,hcell⟩:=hcl (by omega)
 cases e9
 obtain ⟨q,hq⟩:∃ q,(p.drop (i * 8)).take 8 = q:=⟨_,rfl⟩
 have hql:q.length = 8:=by rw [← hq,List.length_take,List.length_drop]; omega
 have HC:=hide (fun k (hk:k < 8)=>by
  have h9:=hcell (i * 8 + k) (by omega)
  have e9:p.getD (i * 8 + k) 0 = q.getD k 0:=by
   rw [← hq,List.getD_eq_getElem?_getD,List.getD_eq_getElem?_getD,List.getElem?_take,if_pos hk,List.getElem?_drop]
  rw [e9] at h9
  exact h9:∀ k,k < 8→w.cell? ⟨b,off + (i * 8 + k),none⟩ = some (u8 (q.getD k 0)))
 have HB:=hide (fun k (hk:k < 8)=>by
  have hm:∀ x∈q,x < 256:=fun x hx=>by rw [← hq] at hx; exact hby _ (List.mem_of_mem_drop (List.mem_of_mem_take hx))
  rw [List.getD_eq_getElem?_getD,List.getElem?_eq_getElem (by omega)]
  exact hm _ (List.getElem_mem _):∀ k,k < 8→q.getD k 0 < 256)
 have HQL:=hide hql
 rw [hq]
 rw [hl] at hc1 ⊢
 clear hu hby hcl hcell hq hql
 have hc4:(25:Int)≤cap:=by omega
 have hi3:i = 0∨i = 1∨i = 2:=by omega
 clear hi
 rcases hi3 with rfl | rfl | rfl
 all_goals
  have hc5:¬ cap = 8:=by omega
  have hc6:¬ cap = 16:=by omega
  have hc7:¬ cap = 0:=by omega
  go_enter Tryz.func115,Tryz.ntmps115
  go_wp2_with fail
  go_loopw [5,16] (fun t5 t16 wr=>∃ k:Nat,k≤8∧t16 = .int .i64 k∧t5 = .int .u64 (beL (q.take k))∧wr = w) (fun _ i _=>8 - (intOf i).toNat)
  case atStart=>exact ⟨0,Nat.zero_le _,rfl,by simp [beL],rfl⟩
  case round =>
   obtain ⟨k,hk,rfl,rfl,rfl⟩:=hrel
   by_cases hlt:k < 8
   ·have hck:=uh HC k hlt
    have hcb:=uh HB k hlt
    have hsn:=xb0p q k (by rw [uh HQL]; exact hlt)
    have hval:=xb4q (beL (q.take k)) (q.getD k 0) hcb
    rw [← hsn] at hval
    obtain ⟨c,hcc⟩:∃ c,q.getD k 0 = c:=⟨_,rfl⟩
    have ha1:=beL_lt (q.take k)
    obtain ⟨a,ha⟩:∃ a,beL (q.take k) = a:=⟨_,rfl⟩
    obtain ⟨a',ha'⟩:∃ a',beL (q.take (k + 1)) = a':=⟨_,rfl⟩
    rw [hcc] at hck hcb hval
    rw [ha] at hval ha1 ⊢
    rw [ha'] at hval
    have Ha':=hide ha'
    have hlt':(k:Int) < 8:=by omega
    clear hcc ha ha' hsn
    simp only [Nat.zero_mul,Nat.zero_add,Nat.one_mul,Nat.reduceMul,← Nat.add_assoc] at hck
    go_wp2
    go_roundw
    case rel=>exact ⟨k + 1,by omega,by go_num,by rw [uh Ha'],trivial⟩
    case measure=>simp [intOf]; omega
   ·have hlt':¬ (k:Int) < 8:=by omega
    obtain rfl:k = 8:=by omega
    have HT:=hide (List.take_of_length_le (by rw [uh HQL]; exact Nat.le_refl _):q.take 8 = q)
    rw [uh HT]
    go_wp2
    go_ret
    exact ⟨rfl,rfl⟩
end
section
open Go Go.RowKit Go.BigFrame
section
variable {P:Program} {Q:Exit→Act→World→Prop}
theorem xb8p {id:Nat} {o0 o1 o2 o3 o4 o5 o6 o7 o8 o9 o10 o11 o12:Oper} {a:Act} {w:World} (hm:P.follows .mixedOrders = true) (hs:Region.noSelect #[o0,o1,o2,o3,o4,o5,o6,o7,o8,o9,o10,o11,o12] = true)
  (f0:Region.free .any #[o0,o1,o2,o3,o4,o5,o6,o7,o8,o9,o10,o11,o12] #[false,false,false,false,false,false,false,false,false,false,false,false,false] 0 = true) (r0:(Region.ready .any #[o0,o1,o2,o3,o4,o5,o6,o7,o8,o9,o10,o11,o12] #[false,false,false,false,false,false,false,false,false,false,false,false,false]).contains 0 = true)
  (f2:Region.free .any #[o0,o1,o2,o3,o4,o5,o6,o7,o8,o9,o10,o11,o12] #[true,false,false,false,false,false,false,false,false,false,false,false,false] 2 = true) (r2:(Region.ready .any #[o0,o1,o2,o3,o4,o5,o6,o7,o8,o9,o10,o11,o12] #[true,false,false,false,false,false,false,false,false,false,false,false,false]).contains 2 = true)
  (f4:Region.free .any #[o0,o1,o2,o3,o4,o5,o6,o7,o8,o9,o10,o11,o12] #[true,false,true,false,false,false,false,false,false,false,false,false,false] 4 = true) (r4:(Region.ready .any #[o0,o1,o2,o3,o4,o5,o6,o7,o8,o9,o10,o11,o12] #[true,false,true,false,false,false,false,false,false,false,false,false,false]).contains 4 = true)
  (f6:Region.free .any #[o0,o1,o2,o3,o4,o5,o6,o7,o8,o9,o10,o11,o12] #[true,false,true,false,true,false,false,false,false,false,false,false,false] 6 = true) (r6:(Region.ready .any #[o0,o1,o2,o3,o4,o5,o6,o7,o8,o9,o10,o11,o12] #[true,false,true,false,true,false,false,false,false,false,false,false,false]).contains 6 = true)
  (f7:Region.free .any #[o0,o1,o2,o3,o4,o5,o6,o7,o8,o9,o10,o11,o12] #[true,false,true,false,true,false,true,false,false,false,false,false,false] 7 = true) (r7:(Region.ready .any #[o0,o1,o2,o3,o4,o5,o6,o7,o8,o9,o10,o11,o12] #[true,false,true,false,true,false,true,false,false,false,false,false,false]).contains 7 = true)
  (f8:Region.free .any #[o0,o1,o2,o3,o4,o5,o6,o7,o8,o9,o10,o11,o12] #[true,false,true,false,true,false,true,true,false,false,false,false,false] 8 = true) (r8:(Region.ready .any #[o0,o1,o2,o3,o4,o5,o6,o7,o8,o9,o10,o11,o12] #[true,false,true,false,true,false,true,true,false,false,false,false,false]).contains 8 = true)
  (f9:Region.free .any #[o0,o1,o2,o3,o4,o5,o6,o7,o8,o9,o10,o11,o12] #[true,false,true,false,true,false,true,true,true,false,false,false,false] 9 = true) (r9:(Region.ready .any #[o0,o1,o2,o3,o4,o5,o6,o7,o8,o9,o10,o11,o12] #[true,false,true,false,true,false,true,true,true,false,false,false,false]).contains 9 = true)
  (q_:Region.ready .any #[o0,o1,o2,o3,o4,o5,o6,o7,o8,o9,o10,o11,o12] #[true,false,true,false,true,false,true,true,true,true,false,false,false] = [1,11])
  (q1_:Region.ready .any #[o0,o1,o2,o3,o4,o5,o6,o7,o8,o9,o10,o11,o12] #[true,true,true,false,true,false,true,true,true,true,false,false,false] = [3,11])
  (q11_:Region.ready .any #[o0,o1,o2,o3,o4,o5,o6,o7,o8,o9,o10,o11,o12] #[true,false,true,false,true,false,true,true,true,true,false,true,false] = [1])
  (q1_3_:Region.ready .any #[o0,o1,o2,o3,o4,o5,o6,o7,o8,o9,o10,o11,o12] #[true,true,true,true,true,false,true,true,true,true,false,false,false] = [5,11])
  (f1_3_5_10:Region.free .any #[o0,o1,o2,o3,o4,o5,o6,o7,o8,o9,o10,o11,o12] #[true,true,true,true,true,true,true,true,true,true,false,false,false] 10 = true) (r1_3_5_10:(Region.ready .any #[o0,o1,o2,o3,o4,o5,o6,o7,o8,o9,o10,o11,o12] #[true,true,true,true,true,true,true,true,true,true,false,false,false]).contains 10 = true)
  (q1_11_:Region.ready .any #[o0,o1,o2,o3,o4,o5,o6,o7,o8,o9,o10,o11,o12] #[true,true,true,false,true,false,true,true,true,true,false,true,false] = [3])
  (q1_3_5_:Region.ready .any #[o0,o1,o2,o3,o4,o5,o6,o7,o8,o9,o10,o11,o12] #[true,true,true,true,true,true,true,true,true,true,true,false,false] = [11])
  (q1_3_11_:Region.ready .any #[o0,o1,o2,o3,o4,o5,o6,o7,o8,o9,o10,o11,o12] #[true,true,true,true,true,false,true,true,true,true,false,true,false] = [5])
  (f1_3_11_5_10:Region.free .any #[o0,o1,o2,o3,o4,o5,o6,o7,o8,o9,o10,o11,o12] #[true,true,true,true,true,true,true,true,true,true,false,true,false] 10 = true) (r1_3_11_5_10:(Region.ready .any #[o0,o1,o2,o3,o4,o5,o6,o7,o8,o9,o10,o11,o12] #[true,true,true,true,true,true,true,true,true,true,false,true,false]).contains 10 = true)
  (q1_3_5_11_:Region.ready .any #[o0,o1,o2,o3,o4,o5,o6,o7,o8,o9,o10,o11,o12] #[true,true,true,true,true,true,true,true,true,true,true,true,false] = [12])
  (q1_3_5_11_12_:Region.ready .any #[o0,o1,o2,o3,o4,o5,o6,o7,o8,o9,o10,o11,o12] #[true,true,true,true,true,true,true,true,true,true,true,true,true] = [])
  (g1:o1.guard = none)    (g3:o3.guard = none)    (g5:o5.guard = none)    (g11:o11.guard = none)    (g12:o12.guard = none)
  (ne11_1:∀ d,o11.dst = some d→o1.dst≠some d)
  (ne11_3:∀ d,o11.dst = some d→o3.dst≠some d)
  (ne11_5:∀ d,o11.dst = some d→o5.dst≠some d)
  (ne11_10:∀ d,o11.dst = some d→o10.dst≠some d)
  (v0 v2 v4 v6 v7 v8 v9:Value) (A0 A1 A2 A3 A4 A5 A6:Act)
  (S:World→Prop)
  (I_:World→Prop)
  (I1_:Value→World→Prop)
  (I11_:Value→World→Prop)
  (I1_3_:Value→Value→World→Prop)
  (I1_11_:Value→Value→World→Prop)
  (I1_3_5_:Value→Value→Value→World→Prop)
  (I1_3_11_:Value→Value→Value→World→Prop)
  (I1_3_5_11_:Value→Value→Value→Value→World→Prop)
  (I1_3_5_11_12_:Value→Value→Value→Value→Value→World→Prop)
  (v10:Value→Value→Value→Value)
  (p0:a.put o0.dst v0 = A0) (hy0:YieldsIf P #[o0,o1,o2,o3,o4,o5,o6,o7,o8,o9,o10,o11,o12] S o0 v0 a)
  (p2:A0.put o2.dst v2 = A1) (hy2:YieldsIf P #[o0,o1,o2,o3,o4,o5,o6,o7,o8,o9,o10,o11,o12] S o2 v2 A0)
  (p4:A1.put o4.dst v4 = A2) (hy4:YieldsIf P #[o0,o1,o2,o3,o4,o5,o6,o7,o8,o9,o10,o11,o12] S o4 v4 A1)
  (p6:A2.put o6.dst v6 = A3) (hy6:YieldsIf P #[o0,o1,o2,o3,o4,o5,o6,o7,o8,o9,o10,o11,o12] S o6 v6 A2)
  (p7:A3.put o7.dst v7 = A4) (hy7:YieldsIf P #[o0,o1,o2,o3,o4,o5,o6,o7,o8,o9,o10,o11,o12] S o7 v7 A3)
  (p8:A4.put o8.dst v8 = A5) (hy8:YieldsIf P #[o0,o1,o2,o3,o4,o5,o6,o7,o8,o9,o10,o11,o12] S o8 v8 A4)
  (p9:A5.put o9.dst v9 = A6) (hy9:YieldsIf P #[o0,o1,o2,o3,o4,o5,o6,o7,o8,o9,o10,o11,o12] S o9 v9 A5)
  (i0:I_ w.drew)
  (hIS:(∀ w',I_  w'→S w')∧(∀ (u1:Value) w',I1_ u1 w'→S w')∧(∀ (u11:Value) w',I11_ u11 w'→S w')∧(∀ (u1 u3:Value) w',I1_3_ u1 u3 w'→S w')∧(∀ (u1 u11:Value) w',I1_11_ u1 u11 w'→S w')∧(∀ (u1 u3 u5:Value) w',I1_3_5_ u1 u3 u5 w'→S w')∧(∀ (u1 u3 u11:Value) w',I1_3_11_ u1 u3 u11 w'→S w')∧(∀ (u1 u3 u5 u11:Value) w',I1_3_5_11_ u1 u3 u5 u11 w'→S w')∧(∀ (u1 u3 u5 u11 u12:Value) w',I1_3_5_11_12_ u1 u3 u5 u11 u12 w'→S w'))
  (s_1:∀ w',I_  w'→∀ K:Act→World→Prop,(∀ (u1:Value) w2,I1_ u1 w2→K (A6.put o1.dst u1) w2)→o1.wp P A6 w' K (NoPanic Q))
  (s_11:∀ w',I_  w'→∀ K:Act→World→Prop,(∀ (u11:Value) w2,I11_ u11 w2→K (A6.put o11.dst u11) w2)→o11.wp P A6 w' K (NoPanic Q))
  (s1_3:∀ (u1:Value) w',I1_ u1 w'→∀ K:Act→World→Prop,(∀ (u3:Value) w2,I1_3_ u1 u3 w2→K ((A6.put o1.dst u1).put o3.dst u3) w2)→o3.wp P (A6.put o1.dst u1) w' K (NoPanic Q))
  (s1_11:∀ (u1:Value) w',I1_ u1 w'→∀ K:Act→World→Prop,(∀ (u11:Value) w2,I1_11_ u1 u11 w2→K ((A6.put o1.dst u1).put o11.dst u11) w2)→o11.wp P (A6.put o1.dst u1) w' K (NoPanic Q))
  (s11_1:∀ (u11:Value) w',I11_ u11 w'→∀ K:Act→World→Prop,(∀ (u1:Value) w2,I1_11_ u1 u11 w2→K ((A6.put o11.dst u11).put o1.dst u1) w2)→o1.wp P (A6.put o11.dst u11) w' K (NoPanic Q))
  (s1_3_5:∀ (u1 u3:Value) w',I1_3_ u1 u3 w'→∀ K:Act→World→Prop,(∀ (u5:Value) w2,I1_3_5_ u1 u3 u5 w2→K (((A6.put o1.dst u1).put o3.dst u3).put o5.dst u5) w2)→o5.wp P ((A6.put o1.dst u1).put o3.dst u3) w' K (NoPanic Q))
  (s1_3_11:∀ (u1 u3:Value) w',I1_3_ u1 u3 w'→∀ K:Act→World→Prop,(∀ (u11:Value) w2,I1_3_11_ u1 u3 u11 w2→K (((A6.put o1.dst u1).put o3.dst u3).put o11.dst u11) w2)→o11.wp P ((A6.put o1.dst u1).put o3.dst u3) w' K (NoPanic Q))
  (s1_11_3:∀ (u1 u11:Value) w',I1_11_ u1 u11 w'→∀ K:Act→World→Prop,(∀ (u3:Value) w2,I1_3_11_ u1 u3 u11 w2→K (((A6.put o1.dst u1).put o11.dst u11).put o3.dst u3) w2)→o3.wp P ((A6.put o1.dst u1).put o11.dst u11) w' K (NoPanic Q))
  (s1_3_5_11:∀ (u1 u3 u5:Value) w',I1_3_5_ u1 u3 u5 w'→∀ K:Act→World→Prop,(∀ (u11:Value) w2,I1_3_5_11_ u1 u3 u5 u11 w2→K (((((A6.put o1.dst u1).put o3.dst u3).put o5.dst u5).put o10.dst (v10 u1 u3 u5)).put o11.dst u11) w2)→o11.wp P ((((A6.put o1.dst u1).put o3.dst u3).put o5.dst u5).put o10.dst (v10 u1 u3 u5)) w' K (NoPanic Q))
  (s1_3_11_5:∀ (u1 u3 u11:Value) w',I1_3_11_ u1 u3 u11 w'→∀ K:Act→World→Prop,(∀ (u5:Value) w2,I1_3_5_11_ u1 u3 u5 u11 w2→K ((((A6.put o1.dst u1).put o3.dst u3).put o11.dst u11).put o5.dst u5) w2)→o5.wp P (((A6.put o1.dst u1).put o3.dst u3).put o11.dst u11) w' K (NoPanic Q))
  (s1_3_5_11_12:∀ (u1 u3 u5 u11:Value) w',I1_3_5_11_ u1 u3 u5 u11 w'→∀ K:Act→World→Prop,(∀ (u12:Value) w2,I1_3_5_11_12_ u1 u3 u5 u11 u12 w2→K ((((((A6.put o1.dst u1).put o3.dst u3).put o5.dst u5).put o10.dst (v10 u1 u3 u5)).put o11.dst u11).put o12.dst u12) w2)→o12.wp P (((((A6.put o1.dst u1).put o3.dst u3).put o5.dst u5).put o10.dst (v10 u1 u3 u5)).put o11.dst u11) w' K (NoPanic Q))
  (y1_3_5_10:∀ (u1 u3 u5:Value) w',I1_3_5_ u1 u3 u5 w'→YieldsIf P #[o0,o1,o2,o3,o4,o5,o6,o7,o8,o9,o10,o11,o12] S o10 (v10 u1 u3 u5) (((A6.put o1.dst u1).put o3.dst u3).put o5.dst u5))
  (y1_3_11_5_10:∀ (u1 u3 u5 u11:Value) w',I1_3_5_11_ u1 u3 u5 u11 w'→YieldsIf P #[o0,o1,o2,o3,o4,o5,o6,o7,o8,o9,o10,o11,o12] S o10 (v10 u1 u3 u5) ((((A6.put o1.dst u1).put o3.dst u3).put o5.dst u5).put o11.dst u11))
  (h:∀ (u1 u3 u5 u11 u12:Value) w',I1_3_5_11_12_ u1 u3 u5 u11 u12 w'→Q .normal ((((((A6.put o1.dst u1).put o3.dst u3).put o5.dst u5).put o10.dst (v10 u1 u3 u5)).put o11.dst u11).put o12.dst u12) w') :
  (Code.region id #[o0,o1,o2,o3,o4,o5,o6,o7,o8,o9,o10,o11,o12] true).wp P Q a w:=by
 subst p0 p2 p4 p6 p7 p8 p9
 obtain ⟨z_,z1_,z11_,z1_3_,z1_11_,z1_3_5_,z1_3_11_,z1_3_5_11_,z1_3_5_11_12_⟩:=hIS
 refine wp_region_noPanic ?_
 refine wp_region_held_drew (S:=S) hm (z_ _ i0) (fun hH=>?_)
 show wpAnyH P .any #[o0,o1,o2,o3,o4,o5,o6,o7,o8,o9,o10,o11,o12] (NoPanic Q) S 13 #[false,false,false,false,false,false,false,false,false,false,false,false,false] a w.drew
 refine wpAnyH_take (i:=0) (oi:=o0) rfl hs f0 r0 (fun _ _ _ h=>h) hy0 hH ?_
 refine wpAnyH_take (i:=2) (oi:=o2) rfl hs f2 r2 (fun _ _ _ h=>h) hy2 hH ?_
 refine wpAnyH_take (i:=4) (oi:=o4) rfl hs f4 r4 (fun _ _ _ h=>h) hy4 hH ?_
 refine wpAnyH_take (i:=6) (oi:=o6) rfl hs f6 r6 (fun _ _ _ h=>h) hy6 hH ?_
 refine wpAnyH_take (i:=7) (oi:=o7) rfl hs f7 r7 (fun _ _ _ h=>h) hy7 hH ?_
 refine wpAnyH_take (i:=8) (oi:=o8) rfl hs f8 r8 (fun _ _ _ h=>h) hy8 hH ?_
 refine wpAnyH_take (i:=9) (oi:=o9) rfl hs f9 r9 (fun _ _ _ h=>h) hy9 hH ?_
 generalize (((((((a.put o0.dst v0).put o2.dst v2).put o4.dst v4).put o6.dst v6).put o7.dst v7).put o8.dst v8).put o9.dst v9) = B at *
 have wa1:∀ y,Region.wanted o1 y = true:=fun y=>by unfold Region.wanted; rw [g1]
 have wa3:∀ y,Region.wanted o3 y = true:=fun y=>by unfold Region.wanted; rw [g3]
 have wa5:∀ y,Region.wanted o5 y = true:=fun y=>by unfold Region.wanted; rw [g5]
 have wa11:∀ y,Region.wanted o11 y = true:=fun y=>by unfold Region.wanted; rw [g11]
 have wa12:∀ y,Region.wanted o12 y = true:=fun y=>by unfold Region.wanted; rw [g12]
 have t1_3_5_11_12_:∀ (u1 u3 u5 u11 u12:Value) w',I1_3_5_11_12_ u1 u3 u5 u11 u12 w'→wpAnyH P .any #[o0,o1,o2,o3,o4,o5,o6,o7,o8,o9,o10,o11,o12] (NoPanic Q) S 0 #[true,true,true,true,true,true,true,true,true,true,true,true,true] ((((((B.put o1.dst u1).put o3.dst u3).put o5.dst u5).put o10.dst (v10 u1 u3 u5)).put o11.dst u11).put o12.dst u12) w':=by
  intro u1 u3 u5 u11 u12 w0 i0
  exact ⟨q1_3_5_11_12_,NoPanic.normal (h u1 u3 u5 u11 u12 w0 i0)⟩
 have t1_3_5_11_:∀ (u1 u3 u5 u11:Value) w',I1_3_5_11_ u1 u3 u5 u11 w'→wpAnyH P .any #[o0,o1,o2,o3,o4,o5,o6,o7,o8,o9,o10,o11,o12] (NoPanic Q) S 1 #[true,true,true,true,true,true,true,true,true,true,true,true,false] (((((B.put o1.dst u1).put o3.dst u3).put o5.dst u5).put o10.dst (v10 u1 u3 u5)).put o11.dst u11) w':=by
  intro u1 u3 u5 u11 w0 i0
  refine wpAnyH_ready (rs:=[12]) q1_3_5_11_ (by simp) (AllReadyH.cons (o:=o12) rfl (fun K hK=>?_) AllReadyH.nil)
  ·rw [if_pos (wa12 _)]
   refine s1_3_5_11_12 u1 u3 u5 u11 w0 i0 K (fun u12 w1 i1=>hK.out _ _ (z1_3_5_11_12_ u1 u3 u5 u11 u12 w1 i1) (fun _=>?_))
   clear hK
   exact t1_3_5_11_12_ u1 u3 u5 u11 u12 w1 i1
 have t1_3_11_:∀ (u1 u3 u11:Value) w',I1_3_11_ u1 u3 u11 w'→wpAnyH P .any #[o0,o1,o2,o3,o4,o5,o6,o7,o8,o9,o10,o11,o12] (NoPanic Q) S 3 #[true,true,true,true,true,false,true,true,true,true,false,true,false] (((B.put o1.dst u1).put o3.dst u3).put o11.dst u11) w':=by
  intro u1 u3 u11 w0 i0
  refine wpAnyH_ready (rs:=[5]) q1_3_11_ (by simp) (AllReadyH.cons (o:=o5) rfl (fun K hK=>?_) AllReadyH.nil)
  ·rw [if_pos (wa5 _)]
   refine s1_3_11_5 u1 u3 u11 w0 i0 K (fun u5 w1 i1=>hK.out _ _ (z1_3_5_11_ u1 u3 u5 u11 w1 i1) (fun _=>?_))
   clear hK
   rw [Act.put_comm _ _ _ ne11_5]
   refine wpAnyH_take (i:=10) (oi:=o10) rfl hs f1_3_11_5_10 r1_3_11_5_10 (fun _ _ _ h=>h) (y1_3_11_5_10 u1 u3 u5 u11 w1 i1) (z1_3_5_11_ u1 u3 u5 u11 w1 i1) ?_
   rw [Act.put_comm _ _ _ ne11_10]
   exact t1_3_5_11_ u1 u3 u5 u11 w1 i1
 have t1_3_5_:∀ (u1 u3 u5:Value) w',I1_3_5_ u1 u3 u5 w'→wpAnyH P .any #[o0,o1,o2,o3,o4,o5,o6,o7,o8,o9,o10,o11,o12] (NoPanic Q) S 2 #[true,true,true,true,true,true,true,true,true,true,true,false,false] ((((B.put o1.dst u1).put o3.dst u3).put o5.dst u5).put o10.dst (v10 u1 u3 u5)) w':=by
  intro u1 u3 u5 w0 i0
  refine wpAnyH_ready (rs:=[11]) q1_3_5_ (by simp) (AllReadyH.cons (o:=o11) rfl (fun K hK=>?_) AllReadyH.nil)
  ·rw [if_pos (wa11 _)]
   refine s1_3_5_11 u1 u3 u5 w0 i0 K (fun u11 w1 i1=>hK.out _ _ (z1_3_5_11_ u1 u3 u5 u11 w1 i1) (fun _=>?_))
   clear hK
   exact t1_3_5_11_ u1 u3 u5 u11 w1 i1
 have t1_11_:∀ (u1 u11:Value) w',I1_11_ u1 u11 w'→wpAnyH P .any #[o0,o1,o2,o3,o4,o5,o6,o7,o8,o9,o10,o11,o12] (NoPanic Q) S 4 #[true,true,true,false,true,false,true,true,true,true,false,true,false] ((B.put o1.dst u1).put o11.dst u11) w':=by
  intro u1 u11 w0 i0
  refine wpAnyH_ready (rs:=[3]) q1_11_ (by simp) (AllReadyH.cons (o:=o3) rfl (fun K hK=>?_) AllReadyH.nil)
  ·rw [if_pos (wa3 _)]
   refine s1_11_3 u1 u11 w0 i0 K (fun u3 w1 i1=>hK.out _ _ (z1_3_11_ u1 u3 u11 w1 i1) (fun _=>?_))
   clear hK
   rw [Act.put_comm _ _ _ ne11_3]
   exact t1_3_11_ u1 u3 u11 w1 i1
 have t1_3_:∀ (u1 u3:Value) w',I1_3_ u1 u3 w'→wpAnyH P .any #[o0,o1,o2,o3,o4,o5,o6,o7,o8,o9,o10,o11,o12] (NoPanic Q) S 4 #[true,true,true,true,true,false,true,true,true,true,false,false,false] ((B.put o1.dst u1).put o3.dst u3) w':=by
  intro u1 u3 w0 i0
  refine wpAnyH_ready (rs:=[5,11]) q1_3_ (by simp) (AllReadyH.cons (o:=o5) rfl (fun K hK=>?_) (AllReadyH.cons (o:=o11) rfl (fun K hK=>?_) AllReadyH.nil))
  ·rw [if_pos (wa5 _)]
   refine s1_3_5 u1 u3 w0 i0 K (fun u5 w1 i1=>hK.out _ _ (z1_3_5_ u1 u3 u5 w1 i1) (fun _=>?_))
   clear hK
   refine wpAnyH_take (i:=10) (oi:=o10) rfl hs f1_3_5_10 r1_3_5_10 (fun _ _ _ h=>h) (y1_3_5_10 u1 u3 u5 w1 i1) (z1_3_5_ u1 u3 u5 w1 i1) ?_
   exact t1_3_5_ u1 u3 u5 w1 i1
  ·rw [if_pos (wa11 _)]
   refine s1_3_11 u1 u3 w0 i0 K (fun u11 w1 i1=>hK.out _ _ (z1_3_11_ u1 u3 u11 w1 i1) (fun _=>?_))
   clear hK
   exact t1_3_11_ u1 u3 u11 w1 i1
 have t11_:∀ (u11:Value) w',I11_ u11 w'→wpAnyH P .any #[o0,o1,o2,o3,o4,o5,o6,o7,o8,o9,o10,o11,o12] (NoPanic Q) S 5 #[true,false,true,false,true,false,true,true,true,true,false,true,false] (B.put o11.dst u11) w':=by
  intro u11 w0 i0
  refine wpAnyH_ready (rs:=[1]) q11_ (by simp) (AllReadyH.cons (o:=o1) rfl (fun K hK=>?_) AllReadyH.nil)
  ·rw [if_pos (wa1 _)]
   refine s11_1 u11 w0 i0 K (fun u1 w1 i1=>hK.out _ _ (z1_11_ u1 u11 w1 i1) (fun _=>?_))
   clear hK
   rw [Act.put_comm _ _ _ ne11_1]
   exact t1_11_ u1 u11 w1 i1
 have t1_:∀ (u1:Value) w',I1_ u1 w'→wpAnyH P .any #[o0,o1,o2,o3,o4,o5,o6,o7,o8,o9,o10,o11,o12] (NoPanic Q) S 5 #[true,true,true,false,true,false,true,true,true,true,false,false,false] (B.put o1.dst u1) w':=by
  intro u1 w0 i0
  refine wpAnyH_ready (rs:=[3,11]) q1_ (by simp) (AllReadyH.cons (o:=o3) rfl (fun K hK=>?_) (AllReadyH.cons (o:=o11) rfl (fun K hK=>?_) AllReadyH.nil))
  ·rw [if_pos (wa3 _)]
   refine s1_3 u1 w0 i0 K (fun u3 w1 i1=>hK.out _ _ (z1_3_ u1 u3 w1 i1) (fun _=>?_))
   clear hK
   exact t1_3_ u1 u3 w1 i1
  ·rw [if_pos (wa11 _)]
   refine s1_11 u1 w0 i0 K (fun u11 w1 i1=>hK.out _ _ (z1_11_ u1 u11 w1 i1) (fun _=>?_))
   clear hK
   exact t1_11_ u1 u11 w1 i1
 have t_:∀ w',I_  w'→wpAnyH P .any #[o0,o1,o2,o3,o4,o5,o6,o7,o8,o9,o10,o11,o12] (NoPanic Q) S 6 #[true,false,true,false,true,false,true,true,true,true,false,false,false] B w':=by
  intro w0 i0
  refine wpAnyH_ready (rs:=[1,11]) q_ (by simp) (AllReadyH.cons (o:=o1) rfl (fun K hK=>?_) (AllReadyH.cons (o:=o11) rfl (fun K hK=>?_) AllReadyH.nil))
  ·rw [if_pos (wa1 _)]
   refine s_1  w0 i0 K (fun u1 w1 i1=>hK.out _ _ (z1_ u1 w1 i1) (fun _=>?_))
   clear hK
   exact t1_ u1 w1 i1
  ·rw [if_pos (wa11 _)]
   refine s_11  w0 i0 K (fun u11 w1 i1=>hK.out _ _ (z11_ u11 w1 i1) (fun _=>?_))
   clear hK
   exact t11_ u11 w1 i1
 exact t_ w.drew i0
end
end
section
open Go.RowKit Go.BigFrame
theorem xa1n {w:World} {g:Nat} {a b c d:Value} {t:TypeId} (h:w.heap[g]? = some (.cells #[a,b,c,d] t (0,0))) (x y z u:Value):((((w.setCell ⟨g,0,none⟩ x).setCell ⟨g,1,none⟩ y).setCell ⟨g,2,none⟩ z).setCell ⟨g,3,none⟩ u).heap[g]? = some (.cells #[x,y,z,u] t (0,0)):=by
 rw [heap_setCell_same _ g 3 _ t _ (heap_setCell_same _ g 2 _ t _ (heap_setCell_same _ g 1 _ t _ (heap_setCell_same w g 0 _ t _ h)))]; rfl
theorem xa1p {w0 w:World} (k:Kept [] w0 w) (g:Nat) (hg:w0.heap.size≤g) (x y z u:Value):Kept [] w0 ((((w.setCell ⟨g,0,none⟩ x).setCell ⟨g,1,none⟩ y).setCell ⟨g,2,none⟩ z).setCell ⟨g,3,none⟩ u):=(((k.setCell (Or.inr hg) x).setCell (Or.inr hg) y).setCell (Or.inr hg) z).setCell (Or.inr hg) u
theorem Tryz.size_head:(Tryz.prog.info? 81).map (·.size) = some 4:=by kernel_rfl
theorem hfroz {w:World} {b:Nat} {cs:Array Value} {t:TypeId} (h:w.heap[b]? = some (.cells cs t (0,0))):w.frozen? ⟨b,0,none⟩ = false∧w.frozen? ⟨b,1,none⟩ = false∧w.frozen? ⟨b,2,none⟩ = false∧w.frozen? ⟨b,3,none⟩ = false :=
 ⟨frozen_of_row _ _ _ _ _ h,frozen_of_row _ _ _ _ _ h,frozen_of_row _ _ _ _ _ h,frozen_of_row _ _ _ _ _ h⟩
theorem xa1g {o:Oper} {a:Act} {w:World} {K:Act→World→Prop} {Q:Exit→Act→World→Prop} (ho:o.op = .alloc 81) (h:K (a.put o.dst (.pointer (some ⟨w.heap.size,0,none⟩))) (w.alloc (.cells #[.int .u64 0,.int .u64 0,.int .u64 0,.int .i64 0] 81))):o.wp Tryz.prog a w K Q:=by
 unfold Oper.wp execOp
 simp only [ho]
 go_simp
 exact h
theorem xa9r {n:Nat} (h:n < 256):IntKind.i64.wrap (n:Int) = (n:Int):=by
 simp [IntKind.wrap,IntKind.bits,IntKind.signed]; omega
def Ald (W:World) (u:Value) (cs:Array Value) (w:World):Prop:=∃ g,u = .pointer (some ⟨g,0,none⟩)∧W.heap.size≤g∧w.heap[g]? = some (.cells cs 81 (0,0))
theorem xa7o {W w:World} (k:Kept [] W w):Ald W (.pointer (some ⟨w.heap.size,0,none⟩)) #[.int .u64 0,.int .u64 0,.int .u64 0,.int .i64 0] (w.alloc (.cells #[.int .u64 0,.int .u64 0,.int .u64 0,.int .i64 0] 81)):=⟨_,rfl,k.size,heap_alloc_new _ _⟩
structure HdR where
 a:Nat
 b:Nat
 c:Nat
 d:Nat
def payH (pl:Nat) (pay:List Nat):Bool:=decide (pay.length = 30∧pay.take 5 = [78,84,82,89,49]∧beL ((pay.drop 5).take 8) = pl∧1≤pay.getD 29 0∧pay.getD 29 0≤32)
def hdF (p:List Nat):Option HdR:=match firstF p with
 | none=>none
 | some x=>if payH x.1 x.2 then some ⟨beL ((x.2.drop 5).take 8),beL ((x.2.drop 13).take 8),beL ((x.2.drop 21).take 8),x.2.getD 29 0⟩ else none
def hdC (p:List Nat):HdR:=(hdF p).getD ⟨0,0,0,0⟩
def hdN (p:List Nat):Nat:=if (hdF p).isSome then 48 else 0
theorem xb0z {p:List Nat} (h:(nextF p 0).kind≠1):hdF p = none:=by
 cases hf:firstF p with
 | none=>unfold hdF; rw [hf]
 | some x =>
  exfalso
  apply h
  unfold nextF
  have hp:0 < p.length:=by
   rcases Nat.eq_zero_or_pos p.length with h0 | h0
   ·rw [xa3b (by omega)] at hf; cases hf
   ·exact h0
  rw [if_neg (by omega),if_neg (by omega)]
  simp [hf]
set_option maxHeartbeats 4000000 in
theorem xa5w (v:Value) (p:List Nat) (w:World) (h:Rd w v p) :
  Calls Tryz.prog 70 #[v] w fun e w'=>e = .returned (.tuple #[.agg #[.int .u64 (hdC p).a,.int .u64 (hdC p).b,.int .u64 (hdC p).c,.int .i64 (hdC p).d],.int .i64 (hdN p),.bool (hdF p).isSome])∧Kept [] w w':=by
 have H:=hide h
 obtain ⟨a1,n1,c1,rfl,hn1,_⟩:=id h
 subst hn1
 clear h
 have HZ0:=hide (heap_alloc_new w (.cells #[.int .u64 0,.int .u64 0,.int .u64 0,.int .i64 0] 81))
 have HK0:=hide ((Kept.refl [] w).alloc (.cells #[.int .u64 0,.int .u64 0,.int .u64 0,.int .i64 0] 81))
 obtain ⟨X,hX⟩:∃ X,hdC p = X:=⟨_,rfl⟩
 obtain ⟨Y,hY⟩:∃ Y,hdN p = Y:=⟨_,rfl⟩
 obtain ⟨Z,hZ⟩:∃ Z,(hdF p).isSome = Z:=⟨_,rfl⟩
 rw [hX,hY,hZ]
 have HNO:=hide (fun (h0:hdF p = none)=>by
  rw [← hX,← hY,← hZ]
  exact ⟨by simp [hdC,h0],by simp [hdN,h0],by simp [h0]⟩:hdF p = none→X = ⟨0,0,0,0⟩∧Y = 0∧Z = false)
 have HYE:=hide (fun (x:HdR) (h0:hdF p = some x)=>by
  rw [← hX,← hY,← hZ]
  exact ⟨by simp [hdC,h0],by simp [hdN,h0],by simp [h0]⟩:∀ x,hdF p = some x→X = x∧Y = 48∧Z = true)
 clear hX hY hZ
 go_enter Tryz.func70,Tryz.ntmps70
 go_wp2_with fail
 refine Calls.mono (xa9a _ p 0 _ ((uh H).old (uh HK0) (by simp)) (by omega)) ?_
 rintro e w1 ⟨v1,rfl,n1,k1⟩
 obtain ⟨av,nv,cv,rfl,hnv,_⟩:=id n1.1
 have HN1:=hide n1
 have HZ1:=hide (k1.heap (uh HZ0) (by simp))
 have HK1:=hide ((uh HK0).trans k1 (by simp))
 have HLT1:=hide (lt_of_block (uh HZ1):w.heap.size < w1.heap.size)
 clear n1 k1 hnv
 have HZW:=hide (((Kept.refl [] w1).alloc (.cells #[.int .u64 ((nextF p 0).pl:Int),.slice av nv cv] 187)).heap (uh HZ1) (by simp))
 have HKW:=hide ((uh HK1).alloc (.cells #[.int .u64 ((nextF p 0).pl:Int),.slice av nv cv] 187))
 have HFW:=hide (heap_alloc_new w1 (.cells #[.int .u64 ((nextF p 0).pl:Int),.slice av nv cv] 187))
 have HNW:=hide ((uh HN1).1.old ((Kept.refl [] w1).alloc (.cells #[.int .u64 ((nextF p 0).pl:Int),.slice av nv cv] 187)) (by simp))
 obtain ⟨W1,hW1⟩:∃ W,w1.alloc (.cells #[.int .u64 ((nextF p 0).pl:Int),.slice av nv cv] 187) = W:=⟨_,rfl⟩
 have HS1:=hide (by rw [← hW1]; simp:w1.heap.size < W1.heap.size)
 rw [hW1] at HZW HKW HFW HNW
 have HW1:=hide hW1
 clear hW1
 obtain ⟨d0,d1,d2,d3⟩:=hcells (uh HZW)
 obtain ⟨f0,f1,f2,f3⟩:=hfroz (uh HZW)
 have g0:W1.cell? ⟨w1.heap.size,0,none⟩ = some (.int .u64 ((nextF p 0).pl:Int)):=by rw [cell_of_row _ _ _ _ _ _ (uh HFW)]; rfl
 have g1:W1.cell? ⟨w1.heap.size,1,none⟩ = some (.slice av nv cv):=by rw [cell_of_row _ _ _ _ _ _ (uh HFW)]; rfl
 have HNK:=hide (fun h=>xb0z (p:=p) h)
 have hcase:=xa3s p 0 (uh H).byte
 by_cases hkd:(nextF p 0).kind = 1
 ·rcases hcase with ⟨_,hN⟩ | ⟨_,hN⟩ | ⟨m,pl,pay,hzn,hN,b1,b2,b3,b4,b5,b6,b7⟩
  ·rw [hN] at hkd; simp at hkd
  ·rw [hN] at hkd; simp at hkd
  ·obtain rfl:m = 0:=by omega
   rw [List.drop_zero] at b7
   rw [hN] at HN1 HFW HNW HW1 g0 ⊢
   simp only at HN1 HFW HNW HW1 g0 ⊢
   have hnv:nv = pay.length:=by obtain ⟨_,_,_,e,h9,_⟩:=(uh HN1).1; cases e; exact h9.symm
   subst hnv
   have HHF:=hide (by unfold hdF; rw [b7]:hdF p = if payH pl pay then some ⟨beL ((pay.drop 5).take 8),beL ((pay.drop 13).take 8),beL ((pay.drop 21).take 8),pay.getD 29 0⟩ else none)
   have hpl:(pl:Int)≤18446744073709551615:=by omega
   clear hN hkd hzn b5 b6 b7 HNK
   by_cases hl30:pay.length = 30
   ·have HPL:=hide hl30
    obtain ⟨_,_,_,he9,_,hcap9,⟨hcm9,_⟩,_,_,hcl9⟩:=id (uh HNW)
    cases he9
    obtain ⟨bq,oq,e9,_⟩:=hcl9 (by omega)
    cases e9
    clear hcl9
    have hcv:30≤cv:=by omega
    clear hcap9
    rw [hl30] at HNW HN1 HFW HW1 g1 ⊢
    clear hl30
    obtain ⟨HHF30,hhf⟩:∃ q,q = pay:=⟨_,rfl⟩
    clear HHF30 hhf
    have kc:=fun (w:World) (C:Array Value) (n c:Nat)=>Lib.run_convert_bytes_const (P:=Tryz.prog) w 72 5 C n c Tryz.underlying72 Tryz.underlying5
    have hsz1:(w1.alloc (.cells #[.int .u64 (pl:Int),.slice (some ⟨bq,oq,none⟩) 30 cv] 187)).heap.size = w1.heap.size + 1:=by simp
    have kc1:=kc (w1.alloc (.cells #[.int .u64 (pl:Int),.slice (some ⟨bq,oq,none⟩) 30 cv] 187)) #[.int .u8 78,.int .u8 84,.int .u8 82,.int .u8 89,.int .u8 49] 5 5
    rw [hsz1] at kc1
    clear kc hsz1
    rw [← uh HW1] at g0 g1
    go_wp2_with fail
    clear kc1 d0 d1 d2 d3 f0 f1 f2 f3 g0 g1
    rw [uh HW1]
    have HK3:=hide ((Kept.refl [] W1).alloc (.cells #[.int .u8 78,.int .u8 84,.int .u8 82,.int .u8 89,.int .u8 49] 5 (5,6)))
    have HR3:=hide (rd_row [78,84,82,89,49] (heap_alloc_new W1 (.cells #[.int .u8 78,.int .u8 84,.int .u8 82,.int .u8 89,.int .u8 49] 5 (5,6))) rfl (by decide) 5 rfl (by decide))
    rw [show W1.heap.size = w1.heap.size + 1 by rw [← uh HW1]; simp] at HR3
    obtain ⟨W3,hW3⟩:∃ W,W1.alloc (.cells #[.int .u8 78,.int .u8 84,.int .u8 82,.int .u8 89,.int .u8 49] 5 (5,6)) = W:=⟨_,rfl⟩
    rw [hW3] at HK3 HR3 ⊢
    clear hW3
    have HZ3:=hide ((uh HK3).heap (uh HZW) (by simp))
    have HF3:=hide ((uh HK3).heap (uh HFW) (by simp))
    have HKW3:=hide ((uh HKW).trans (uh HK3) (by simp))
    have HNW3:=hide ((uh HNW).old (uh HK3) (by simp))
    have hcut:=xb6w bq oq cv _ pay [78,84,82,89,49] W3 (by rw [uh HPL]; exact uh HNW3) (uh HR3) (by rw [uh HPL]; decide)
    rw [uh HPL] at hcut
    refine Calls.mono hcut ?_
    clear hcut
    rintro e w4 ⟨rfl,hw4⟩
    subst w4
    obtain ⟨d0,d1,d2,d3⟩:=hcells (uh HZ3)
    obtain ⟨f0,f1,f2,f3⟩:=hfroz (uh HZ3)
    by_cases hpre:pay.take 5 = [78,84,82,89,49]
    ·simp only [List.length_cons,List.length_nil,Nat.zero_add,Nat.reduceAdd,hpre,if_true,decide_true,Nat.reduceSub]
     have hfl:(pay.drop 5).length = 25:=by rw [List.length_drop,uh HPL]
     have HFP:=hide (by
      have h9:=Rd.cutN (n:=5) (N:=30) (p:=pay) (by rw [uh HPL]; exact uh HNW3) (by decide) (by rw [uh HPL]; exact Nat.le_refl _)
      rw [List.take_of_length_le (by rw [List.length_drop,uh HPL]; exact Nat.le_refl _)] at h9
      exact h9:Rd W3 (.slice (some ⟨bq,oq + 5,none⟩) 25 (cv - 5)) (pay.drop 5))
     obtain ⟨m0,hm0⟩:∃ m,beL ((pay.drop 5).take 8) = m:=⟨_,rfl⟩
     obtain ⟨m1,hm1⟩:∃ m,beL ((pay.drop 13).take 8) = m:=⟨_,rfl⟩
     obtain ⟨m2,hm2⟩:∃ m,beL ((pay.drop 21).take 8) = m:=⟨_,rfl⟩
     obtain ⟨wz,hwz⟩:∃ m,pay.getD 29 0 = m:=⟨_,rfl⟩
     have hwl:wz < 256:=by
      rw [← hwz,List.getD_eq_getElem?_getD,List.getElem?_eq_getElem (by rw [uh HPL]; decide)]
      exact (uh HNW3).byte _ (List.getElem_mem _)
     have HC24:=hide (by
      obtain ⟨_,_,_,e9,_,_,_,_,_,hcl⟩:=uh HFP
      cases e9
      obtain ⟨b9,o9,e9,hc⟩:=hcl (by decide)
      cases e9
      have h9:=hc 24 (by decide)
      rw [← hwz]
      have e9:(pay.drop 5).getD 24 0 = pay.getD 29 0:=by simp [List.getD_eq_getElem?_getD]
      rw [e9] at h9
      exact h9:W3.cell? ⟨bq,oq + 5 + 24,none⟩ = some (.int .u8 (wz:Int)))
     have hnum:∀ w',Kept [] W3 w'→∀ i:Nat,i < 3→Calls Tryz.prog 115 #[.slice (some ⟨bq,oq + 5,none⟩) 25 (cv - 5),.int .i64 i] w' fun e w2=>e = .returned (.int .u64 (beL (((pay.drop 5).drop (i * 8)).take 8):Nat))∧w2 = w':=by
      intro w' k i hi
      have h9:=xa5v bq (oq + 5) (cv - 5) i (pay.drop 5) w' (by rw [hfl]; exact (uh HFP).old k (by simp)) hi hfl
      rw [hfl] at h9
      exact h9
     have HHF2:=hide (uh HHF)
     rw [hm0,hm1,hm2,hwz] at HHF2
     have Hm0:=hide (by rw [← hm0]; rfl:m0 = beL (((pay.drop 5).drop (0 * 8)).take 8))
     have Hm1:=hide (by rw [← hm1,List.drop_drop]:m1 = beL (((pay.drop 5).drop (1 * 8)).take 8))
     have Hm2:=hide (by rw [← hm2,List.drop_drop]:m2 = beL (((pay.drop 5).drop (2 * 8)).take 8))
     have HPH:=hide (by unfold payH; rw [hm0,hwz,uh HPL]; simp [hpre]:payH pl pay = decide (m0 = pl∧1≤wz∧wz≤32))
     clear hm0 hm1 hm2 hwz hfl HHF
     go_upto_region 7 with fail
     refine xb8p (by kernel_rfl) (by kernel_rfl) (by kernel_rfl) (by kernel_rfl) (by kernel_rfl) (by kernel_rfl) (by kernel_rfl) (by kernel_rfl) (by kernel_rfl) (by kernel_rfl) (by kernel_rfl) (by kernel_rfl) (by kernel_rfl) (by kernel_rfl) (by kernel_rfl) (by kernel_rfl) (by kernel_rfl) (by kernel_rfl) (by kernel_rfl) (by kernel_rfl) (by kernel_rfl) (by kernel_rfl) (by kernel_rfl) (by kernel_rfl) (by kernel_rfl) (by kernel_rfl) (by kernel_rfl) (by kernel_rfl) (by kernel_rfl) rfl rfl rfl rfl rfl (by simp) (by simp) (by simp) (by simp)
      (.slice (some ⟨bq,oq + 5,none⟩) 25 (cv - 5)) (.slice (some ⟨bq,oq + 5,none⟩) 25 (cv - 5)) (.slice (some ⟨bq,oq + 5,none⟩) 25 (cv - 5)) (.slice (some ⟨bq,oq + 5,none⟩) 25 (cv - 5)) (.pointer (some ⟨bq,oq + 5 + 24,none⟩)) (.int .u8 (wz:Int)) (.int .i64 (wz:Int)) _ _ _ _ _ _ _
      (fun w'=>w'.cell? ⟨bq,oq + 5 + 24,none⟩ = some (.int .u8 (wz:Int)))
      (fun  w'=>Kept [] W3 w') (fun u1 w'=>u1 = .int .u64 (m0:Int)∧Kept [] W3 w') (fun u11 w'=>Kept [] W3 w'∧Ald W3 u11 #[.int .u64 0,.int .u64 0,.int .u64 0,.int .i64 0] w') (fun u1 u3 w'=>u1 = .int .u64 (m0:Int)∧u3 = .int .u64 (m1:Int)∧Kept [] W3 w') (fun u1 u11 w'=>u1 = .int .u64 (m0:Int)∧Kept [] W3 w'∧Ald W3 u11 #[.int .u64 0,.int .u64 0,.int .u64 0,.int .i64 0] w') (fun u1 u3 u5 w'=>u1 = .int .u64 (m0:Int)∧u3 = .int .u64 (m1:Int)∧u5 = .int .u64 (m2:Int)∧Kept [] W3 w') (fun u1 u3 u11 w'=>u1 = .int .u64 (m0:Int)∧u3 = .int .u64 (m1:Int)∧Kept [] W3 w'∧Ald W3 u11 #[.int .u64 0,.int .u64 0,.int .u64 0,.int .i64 0] w') (fun u1 u3 u5 u11 w'=>u1 = .int .u64 (m0:Int)∧u3 = .int .u64 (m1:Int)∧u5 = .int .u64 (m2:Int)∧Kept [] W3 w'∧Ald W3 u11 #[.int .u64 0,.int .u64 0,.int .u64 0,.int .i64 0] w') (fun u1 u3 u5 u11 u12 w'=>u1 = .int .u64 (m0:Int)∧u3 = .int .u64 (m1:Int)∧u5 = .int .u64 (m2:Int)∧Kept [] W3 w'∧Ald W3 u11 #[.int .u64 (m0:Int),.int .u64 (m1:Int),.int .u64 (m2:Int),.int .i64 (wz:Int)] w')
      (fun u1 u3 u5=>.agg #[u1,u3,u5,.int .i64 (wz:Int)])
      (by simp only [Act.put,sa1,sa2,sa3]; rfl) (by exact Or.inl ⟨by rfl,fun W' hW'=>by go_simp⟩)
      (by simp only [Act.put,sa1,sa2,sa3]; rfl) (by exact Or.inl ⟨by rfl,fun W' hW'=>by go_simp⟩)
      (by simp only [Act.put,sa1,sa2,sa3]; rfl) (by exact Or.inl ⟨by rfl,fun W' hW'=>by go_simp⟩)
      (by simp only [Act.put,sa1,sa2,sa3]; rfl) (by exact Or.inl ⟨by rfl,fun W' hW'=>by go_simp⟩)
      (by simp only [Act.put,sa1,sa2,sa3]; rfl) (by exact Or.inl ⟨by rfl,fun W' hW'=>by go_simp⟩)
      (by simp only [Act.put,sa1,sa2,sa3]; rfl) (by exact Or.inl ⟨by rfl,fun W' hW'=>xb3w 5 _ rfl ⟨bq,oq + 5 + 24,none⟩ rfl W' _ .u8 Tryz.underlying5 hW'⟩)
      (by simp only [Act.put,sa1,sa2,sa3]; rfl) (by exact Or.inl ⟨by rfl,fun W' hW'=>by go_simp; exact xa9r hwl⟩)
      ((Kept.refl [] W3).drew)
      ⟨fun  w' h=>(h).cell (uh HC24) (by simp),fun u1 w' h=>(h.2).cell (uh HC24) (by simp),fun u11 w' h=>(h.1).cell (uh HC24) (by simp),fun u1 u3 w' h=>(h.2.2).cell (uh HC24) (by simp),fun u1 u11 w' h=>(h.2.1).cell (uh HC24) (by simp),fun u1 u3 u5 w' h=>(h.2.2.2).cell (uh HC24) (by simp),fun u1 u3 u11 w' h=>(h.2.2.1).cell (uh HC24) (by simp),fun u1 u3 u5 u11 w' h=>(h.2.2.2.1).cell (uh HC24) (by simp),fun u1 u3 u5 u11 u12 w' h=>(h.2.2.2.1).cell (uh HC24) (by simp)⟩
      (by
       rintro w' k K hK
       refine xa0e rfl Tryz.call115 [.slice (some ⟨bq,oq + 5,none⟩) 25 (cv - 5),.int .i64 0] rfl (hnum w' k 0 (by decide)) ?_
       rintro e w2 ⟨rfl,rfl⟩
       exact ⟨_,rfl,hK _ _ (⟨by rw [← uh Hm0],k⟩)⟩) (by
       rintro w' k K hK
       exact xa1g rfl (hK _ _ ⟨k.alloc _,xa7o k⟩)) (by
       rintro u1 w' ⟨rfl,k⟩ K hK
       refine xa0e rfl Tryz.call115 [.slice (some ⟨bq,oq + 5,none⟩) 25 (cv - 5),.int .i64 1] rfl (hnum w' k 1 (by decide)) ?_
       rintro e w2 ⟨rfl,rfl⟩
       exact ⟨_,rfl,hK _ _ (⟨rfl,by rw [← uh Hm1],k⟩)⟩) (by
       rintro u1 w' ⟨rfl,k⟩ K hK
       exact xa1g rfl (hK _ _ ⟨rfl,k.alloc _,xa7o k⟩)) (by
       rintro u11 w' ⟨k,al⟩ K hK
       refine xa0e rfl Tryz.call115 [.slice (some ⟨bq,oq + 5,none⟩) 25 (cv - 5),.int .i64 0] rfl (hnum w' k 0 (by decide)) ?_
       rintro e w2 ⟨rfl,rfl⟩
       exact ⟨_,rfl,hK _ _ (⟨by rw [← uh Hm0],k,al⟩)⟩) (by
       rintro u1 u3 w' ⟨rfl,rfl,k⟩ K hK
       refine xa0e rfl Tryz.call115 [.slice (some ⟨bq,oq + 5,none⟩) 25 (cv - 5),.int .i64 2] rfl (hnum w' k 2 (by decide)) ?_
       rintro e w2 ⟨rfl,rfl⟩
       exact ⟨_,rfl,hK _ _ (⟨rfl,rfl,by rw [← uh Hm2],k⟩)⟩) (by
       rintro u1 u3 w' ⟨rfl,rfl,k⟩ K hK
       exact xa1g rfl (hK _ _ ⟨rfl,rfl,k.alloc _,xa7o k⟩)) (by
       rintro u1 u11 w' ⟨rfl,k,al⟩ K hK
       refine xa0e rfl Tryz.call115 [.slice (some ⟨bq,oq + 5,none⟩) 25 (cv - 5),.int .i64 1] rfl (hnum w' k 1 (by decide)) ?_
       rintro e w2 ⟨rfl,rfl⟩
       exact ⟨_,rfl,hK _ _ (⟨rfl,by rw [← uh Hm1],k,al⟩)⟩) (by
       rintro u1 u3 u5 w' ⟨rfl,rfl,rfl,k⟩ K hK
       exact xa1g rfl (hK _ _ ⟨rfl,rfl,rfl,k.alloc _,xa7o k⟩)) (by
       rintro u1 u3 u11 w' ⟨rfl,rfl,k,al⟩ K hK
       refine xa0e rfl Tryz.call115 [.slice (some ⟨bq,oq + 5,none⟩) 25 (cv - 5),.int .i64 2] rfl (hnum w' k 2 (by decide)) ?_
       rintro e w2 ⟨rfl,rfl⟩
       exact ⟨_,rfl,hK _ _ (⟨rfl,rfl,by rw [← uh Hm2],k,al⟩)⟩)
      (by
       rintro u1 u3 u5 u11 w' ⟨rfl,rfl,rfl,k,g,rfl,hg,hh⟩ K hK
       simp only [Act.put,sa1,sa2,sa3] at hK ⊢
       have hk2:=hK undef _ ⟨trivial,trivial,trivial,Kept.setRow k (Or.inr hg) #[.int .u64 (m0:Int),.int .u64 (m1:Int),.int .u64 (m2:Int),.int .i64 (wz:Int)],g,rfl,hg,setRow_heap _ _ _ _ _ _ hh⟩
       clear hK
       exact wp_store_row 81 (.tmp 10) (.tmp 47) rfl g #[.int .u64 (m0:Int),.int .u64 (m1:Int),.int .u64 (m2:Int),.int .i64 (wz:Int)] rfl rfl 81 #[.int .u64 0,.int .u64 0,.int .u64 0,.int .i64 0] hh Tryz.size_head rfl (by simp [Value.oneCell']) hk2)
      (by rintro u1 u3 u5 w' ⟨rfl,rfl,rfl,k⟩; exact Or.inl ⟨by rfl,fun W' hW'=>by go_simp⟩)
      (by rintro u1 u3 u5 u11 w' ⟨rfl,rfl,rfl,k,al⟩; exact Or.inl ⟨by rfl,fun W' hW'=>by go_simp⟩)
      ?_
     rintro u1 u3 u5 u11 u12 w5 ⟨rfl,rfl,rfl,k5,g,rfl,hg,hh⟩
     simp only [Act.put,sa1,sa2,sa3]
     have HGK:=hide (k5.heap (uh HF3) (by simp))
     have HZ5:=hide (k5.heap (uh HZ3) (by simp))
     have HK5:=hide ((uh HKW3).trans k5 (by simp))
     have HG5:=hide hh
     have hgn:w.heap.size≠g:=by
      have:=(uh HKW3).size; have:=lt_of_block (uh HZ3); omega
     have HGN:=hide hgn
     clear k5 hh hgn hg d0 d1 d2 d3 f0 f1 f2 f3 hnum HK3 HR3 HZ3 HF3 HKW3 HNW3
     obtain ⟨d0,d1,d2,d3⟩:=hcells (uh HZ5)
     obtain ⟨f0,f1,f2,f3⟩:=hfroz (uh HZ5)
     obtain ⟨x0,x1,x2,x3⟩:=hcells (uh HG5)
     have g0:w5.cell? ⟨w1.heap.size,0,none⟩ = some (.int .u64 (pl:Int)):=by rw [cell_of_row _ _ _ _ _ _ (uh HGK)]; rfl
     by_cases hpm:m0 = pl
     ·have hne:((m0:Int) != (pl:Int)) = false:=by simp [hpm]
      go_wp2_with fail
      refine Calls.mono (xa2g (wz:Int) _) ?_
      rintro e w6 ⟨rfl,hw6⟩
      subst w6
      have HWD:=hide (by unfold wideB; simp only [decide_eq_decide]; omega:wideB (wz:Int) = decide (1≤wz∧wz≤32))
      by_cases hwd:wideB (wz:Int) = true
      ·rw [hwd]
       have HV:=hide (uh HYE _ (by rw [uh HHF2,if_pos (by rw [uh HPH]; rw [uh HWD] at hwd; simpa [hpm] using hwd)]))
       go_wp2
       refine bodyPost_ret (v:=.tuple #[.agg #[.int .u64 (pl:Int),.int .u64 (m1:Int),.int .u64 (m2:Int),.int .i64 (wz:Int)],.int .i64 48,.bool true]) ?_ rfl ⟨by rw [(uh HV).1,(uh HV).2.1,(uh HV).2.2,hpm]; rfl,xa1p (uh HK5) w.heap.size (Nat.le_refl _) _ _ _ _⟩
       exact xa0a rfl _ _ w.heap.size _ #[.int .u64 (pl:Int),.int .u64 (m1:Int),.int .u64 (m2:Int),.int .i64 (wz:Int)] (0,0) _ rfl (xa1n (uh HZ5) _ _ _ _) Tryz.underlying81 rfl Tryz.size_head _ _ rfl rfl
      ·rw [Bool.not_eq_true] at hwd
       rw [hwd]
       have HV:=hide (uh HNO (by rw [uh HHF2,if_neg (by rw [uh HPH]; rw [uh HWD] at hwd; simpa [hpm] using hwd)]))
       go_wp2
       refine bodyPost_ret (v:=.tuple #[.agg #[.int .u64 0,.int .u64 0,.int .u64 0,.int .i64 0],.int .i64 0,.bool false]) ?_ rfl ⟨by rw [(uh HV).1,(uh HV).2.1,(uh HV).2.2]; rfl,xa1p (uh HK5) w.heap.size (Nat.le_refl _) _ _ _ _⟩
       exact xa0a rfl _ _ w.heap.size _ #[.int .u64 0,.int .u64 0,.int .u64 0,.int .i64 0] (0,0) _ rfl (xa1n (uh HZ5) _ _ _ _) Tryz.underlying81 rfl Tryz.size_head _ _ rfl rfl
     ·have hne:((m0:Int) != (pl:Int)) = true:=by rw [bne_iff_ne]; omega
      have HV:=hide (uh HNO (by rw [uh HHF2,if_neg (by rw [uh HPH]; simp [hpm])]))
      go_wp2
      refine bodyPost_ret (v:=.tuple #[.agg #[.int .u64 0,.int .u64 0,.int .u64 0,.int .i64 0],.int .i64 0,.bool false]) ?_ rfl ⟨by rw [(uh HV).1,(uh HV).2.1,(uh HV).2.2]; rfl,xa1p (uh HK5) w.heap.size (Nat.le_refl _) _ _ _ _⟩
      exact xa0a rfl _ _ w.heap.size _ #[.int .u64 0,.int .u64 0,.int .u64 0,.int .i64 0] (0,0) _ rfl (xa1n (uh HZ5) _ _ _ _) Tryz.underlying81 rfl Tryz.size_head _ _ rfl rfl
    ·simp only [List.length_cons,List.length_nil,Nat.zero_add,Nat.reduceAdd,hpre,if_false,decide_false]
     have HV:=hide (uh HNO (by rw [uh HHF,if_neg]; simp [payH,hpre]))
     go_wp2
     refine bodyPost_ret (v:=.tuple #[.agg #[.int .u64 0,.int .u64 0,.int .u64 0,.int .i64 0],.int .i64 0,.bool false]) ?_ rfl ⟨by rw [(uh HV).1,(uh HV).2.1,(uh HV).2.2]; rfl,xa1p (uh HKW3) w.heap.size (Nat.le_refl _) _ _ _ _⟩
     exact xa0a rfl _ _ w.heap.size _ #[.int .u64 0,.int .u64 0,.int .u64 0,.int .i64 0] (0,0) _ rfl (xa1n (uh HZ3) _ _ _ _) Tryz.underlying81 rfl Tryz.size_head _ _ rfl rfl
   ·have hl30':((pay.length:Int) != 30) = true:=by rw [bne_iff_ne]; omega
    have HV:=hide (uh HNO (by rw [uh HHF,if_neg]; simp [payH,hl30]))
    rw [← uh HW1] at d0 d1 d2 d3 f0 f1 f2 f3 g0 g1
    go_wp2
    rw [uh HW1]
    refine bodyPost_ret (v:=.tuple #[.agg #[.int .u64 0,.int .u64 0,.int .u64 0,.int .i64 0],.int .i64 0,.bool false]) ?_ rfl ⟨by rw [(uh HV).1,(uh HV).2.1,(uh HV).2.2]; rfl,xa1p (uh HKW) w.heap.size (Nat.le_refl _) _ _ _ _⟩
    exact xa0a rfl _ _ w.heap.size _ #[.int .u64 0,.int .u64 0,.int .u64 0,.int .i64 0] (0,0) _ rfl (xa1n (uh HZW) _ _ _ _) Tryz.underlying81 rfl Tryz.size_head _ _ rfl rfl
 ·have hkd':(((nextF p 0).kind:Int) != 1) = true:=by rw [bne_iff_ne]; omega
  have HV:=hide (uh HNO (uh HNK hkd))
  clear hcase
  rw [← uh HW1] at d0 d1 d2 d3 f0 f1 f2 f3 g0 g1
  go_wp2
  rw [uh HW1]
  refine bodyPost_ret (v:=.tuple #[.agg #[.int .u64 0,.int .u64 0,.int .u64 0,.int .i64 0],.int .i64 0,.bool false]) ?_ rfl ⟨by rw [(uh HV).1,(uh HV).2.1,(uh HV).2.2]; rfl,xa1p (uh HKW) w.heap.size (Nat.le_refl _) _ _ _ _⟩
  exact xa0a rfl _ _ w.heap.size _ #[.int .u64 0,.int .u64 0,.int .u64 0,.int .i64 0] (0,0) _ rfl (xa1n (uh HZW) _ _ _ _) Tryz.underlying81 rfl Tryz.size_head _ _ rfl rfl
def rbOk (p:List Nat) (z:Int) (i:Nat):Bool:=decide ((nextF p z).kind = 1∧(nextF p z).pl = i∧(decB (nextF p z).pay).2.2 = 0∧(decB (nextF p z).pay).1 = i)
def rbF (p:List Nat) (z:Int) (i:Nat):Nat:=if rbOk p z i then i else 0
def rbN (p:List Nat) (z:Int) (i:Nat):Int:=if rbOk p z i then (nextF p z).next else 0
def rbE (p:List Nat) (z:Int) (i:Nat):List En:=if rbOk p z i then (decB (nextF p z).pay).2.1 else []
theorem bcells {w:World} {b:Nat} {x0 x1:Value} {t:TypeId} (h:w.heap[b]? = some (.cells #[x0,x1] t (0,0))):w.cell? ⟨b,0,none⟩ = some x0∧w.cell? ⟨b,1,none⟩ = some x1:=by
 refine ⟨?_,?_⟩ <;> rw [cell_of_row _ _ _ _ _ _ h] <;> rfl
theorem bfroz {w:World} {b:Nat} {cs:Array Value} {t:TypeId} (h:w.heap[b]? = some (.cells cs t (0,0))):w.frozen? ⟨b,0,none⟩ = false∧w.frozen? ⟨b,1,none⟩ = false :=
 ⟨frozen_of_row _ _ _ _ _ h,frozen_of_row _ _ _ _ _ h⟩
theorem Tryz.size_batch9:(Tryz.prog.info? 129).map (·.size) = some 2:=by kernel_rfl
set_option maxHeartbeats 4000000 in
theorem xa5k (v:Value) (p:List Nat) (z:Int) (i:Nat) (w:World) (h:Rd w v p) (hz:-9223372036854775808≤z∧z≤9223372036854775807) :
  Calls Tryz.prog 71 #[v,.int .i64 z,.int .u64 i] w fun e w'=>∃ bv,e = .returned (.tuple #[.agg #[.int .u64 (rbF p z i),bv],.int .i64 (rbN p z i),.bool (rbOk p z i)])∧NewN w.heap.size w' bv (rbE p z i)∧Kept [] w w':=by
 have H:=hide h
 obtain ⟨a1,n1,c1,rfl,hn1,_⟩:=id h
 subst hn1
 clear h
 have HZ0:=hide (heap_alloc_new w (.cells #[.int .u64 0,.slice none 0 0] 129))
 have HK0:=hide ((Kept.refl [] w).alloc (.cells #[.int .u64 0,.slice none 0 0] 129))
 obtain ⟨X,hX⟩:∃ X,rbF p z i = X:=⟨_,rfl⟩
 obtain ⟨Y,hY⟩:∃ Y,rbN p z i = Y:=⟨_,rfl⟩
 obtain ⟨E,hE⟩:∃ E,rbE p z i = E:=⟨_,rfl⟩
 obtain ⟨Z,hZ⟩:∃ Z,rbOk p z i = Z:=⟨_,rfl⟩
 rw [hX,hY,hZ,hE]
 have HNO:=hide (fun (h0:rbOk p z i = false)=>by
  rw [← hX,← hY,← hZ,← hE]
  exact ⟨by simp [rbF,h0],by simp [rbN,h0],by simp [rbE,h0],h0⟩:rbOk p z i = false→X = 0∧Y = 0∧E = []∧Z = false)
 have HYE:=hide (fun (h0:rbOk p z i = true)=>by
  rw [← hX,← hY,← hZ,← hE]
  exact ⟨by simp [rbF,h0],by simp [rbN,h0],by simp [rbE,h0],h0⟩:rbOk p z i = true→X = i∧Y = (nextF p z).next∧E = (decB (nextF p z).pay).2.1∧Z = true)
 have HOK:=hide (by unfold rbOk; rfl:rbOk p z i = decide ((nextF p z).kind = 1∧(nextF p z).pl = i∧(decB (nextF p z).pay).2.2 = 0∧(decB (nextF p z).pay).1 = i))
 clear hX hY hZ hE
 go_enter Tryz.func71,Tryz.ntmps71
 go_wp2_with fail
 refine Calls.mono (xa9a _ p z _ ((uh H).old (uh HK0) (by simp)) hz) ?_
 rintro e w1 ⟨v1,rfl,n1,k1⟩
 obtain ⟨av,nv,cv,rfl,hnv,_⟩:=id n1.1
 obtain ⟨N,hN⟩:∃ N,nextF p z = N:=⟨_,rfl⟩
 rw [hN] at n1 HYE HOK hnv ⊢
 clear hN
 have HN1:=hide n1.1
 have HZ1:=hide (k1.heap (uh HZ0) (by simp))
 have HK1:=hide ((uh HK0).trans k1 (by simp))
 clear n1 k1 hnv
 have HZW:=hide (((Kept.refl [] w1).alloc (.cells #[.int .u64 (N.pl:Int),.slice av nv cv] 187)).heap (uh HZ1) (by simp))
 have HKW:=hide ((uh HK1).alloc (.cells #[.int .u64 (N.pl:Int),.slice av nv cv] 187))
 have HFW:=hide (heap_alloc_new w1 (.cells #[.int .u64 (N.pl:Int),.slice av nv cv] 187))
 have HNW:=hide ((uh HN1).old ((Kept.refl [] w1).alloc (.cells #[.int .u64 (N.pl:Int),.slice av nv cv] 187)) (by simp))
 obtain ⟨W1,hW1⟩:∃ W,w1.alloc (.cells #[.int .u64 (N.pl:Int),.slice av nv cv] 187) = W:=⟨_,rfl⟩
 rw [hW1] at HZW HKW HFW HNW
 have HW1:=hide hW1
 clear hW1
 obtain ⟨d0,d1⟩:=bcells (uh HZW)
 obtain ⟨f0,f1⟩:=bfroz (uh HZW)
 obtain ⟨g0,g1⟩:=bcells (uh HFW)
 rw [← uh HW1] at d0 d1 f0 f1 g0 g1
 by_cases hkd:N.kind = 1
 ·by_cases hpl:N.pl = i
  ·have hkd':((N.kind:Int) != 1) = false:=by simp [hkd]
   have hpl':((N.pl:Int) != (i:Int)) = false:=by simp [hpl]
   have HPL:=hide hpl
   have HKD:=hide hkd
   clear hpl hkd
   go_wp2_with fail
   rw [uh HW1]
   clear d0 d1 f0 f1 g0 g1
   refine Calls.mono (xa3k _ N.pay W1 (uh HNW)) ?_
   rintro e w2 ⟨bv,rfl,nb,k2⟩
   obtain ⟨D,hD⟩:∃ D,decB N.pay = D:=⟨_,rfl⟩
   rw [hD] at nb HYE HOK ⊢
   clear hD
   obtain ⟨ab,nbl,cb,_,_,hbv,_⟩:=id nb.rdN
   subst hbv
   have HNB:=hide nb
   have HZ2:=hide (k2.heap (uh HZW) (by simp))
   have HK2:=hide ((uh HKW).trans k2 (by simp))
   have HL2:=hide (Nat.le_trans (uh HKW).size (Nat.le_refl _):w.heap.size≤W1.heap.size)
   clear nb k2
   have HZX:=hide (((Kept.refl [] w2).alloc (.cells #[.int .u64 (D.1:Int),.slice ab nbl cb] 129)).heap (uh HZ2) (by simp))
   have HKX:=hide ((uh HK2).alloc (.cells #[.int .u64 (D.1:Int),.slice ab nbl cb] 129))
   have HBX:=hide (heap_alloc_new w2 (.cells #[.int .u64 (D.1:Int),.slice ab nbl cb] 129))
   have HNX:=hide (((uh HNB).kept ((Kept.refl [] w2).alloc (.cells #[.int .u64 (D.1:Int),.slice ab nbl cb] 129)) (by simp)).weak (uh HL2))
   obtain ⟨W2,hW2⟩:∃ W,w2.alloc (.cells #[.int .u64 (D.1:Int),.slice ab nbl cb] 129) = W:=⟨_,rfl⟩
   rw [hW2] at HZX HKX HBX HNX
   have HW2:=hide hW2
   clear hW2
   obtain ⟨d0,d1⟩:=bcells (uh HZX)
   obtain ⟨f0,f1⟩:=bfroz (uh HZX)
   obtain ⟨g0,g1⟩:=bcells (uh HBX)
   rw [← uh HW2] at d0 d1 f0 f1 g0 g1
   by_cases he:D.2.2 = 0
   ·by_cases hfi:D.1 = i
    ·have he':((D.2.2:Int) != 0) = false:=by simp [he]
     have hfi':((D.1:Int) != (i:Int)) = false:=by simp [hfi]
     have HV:=hide (uh HYE (by rw [uh HOK]; simp [uh HKD,uh HPL,he,hfi]))
     have HFI:=hide hfi
     clear hfi he
     go_wp2
     rw [uh HW2]
     refine bodyPost_ret (v:=.tuple #[.agg #[.int .u64 (D.1:Int),.slice ab nbl cb],.int .i64 N.next,.bool true]) ?_ rfl ⟨.slice ab nbl cb,by rw [(uh HV).1,(uh HV).2.1,(uh HV).2.2.2,uh HFI],?_,xa0i (uh HKX) w.heap.size (Nat.le_refl _) _ _⟩
     ·exact xa0a rfl _ _ w.heap.size _ #[.int .u64 (D.1:Int),.slice ab nbl cb] (0,0) _ rfl (xa0p (uh HZX) _ _) Tryz.underlying129 rfl Tryz.size_batch9 _ _ rfl rfl
     ·rw [(uh HV).2.2.1]
      refine (uh HNB).kept (M:=[w.heap.size]) ?_ ?_ |>.weak (uh HL2)
      ·rw [← uh HW2]
       exact (((Kept.refl [w.heap.size] w2).alloc _).setCell (Or.inl (by simp)) _).setCell (Or.inl (by simp)) _
      ·have:=lt_of_block (uh HZW); simpa using this
    ·have he':((D.2.2:Int) != 0) = false:=by simp [he]
     have hfi':((D.1:Int) != (i:Int)) = true:=by rw [bne_iff_ne]; omega
     have HV:=hide (uh HNO (by rw [uh HOK]; simp [hfi]))
     clear hfi he
     go_wp2
     rw [uh HW2]
     refine bodyPost_ret (v:=.tuple #[.agg #[.int .u64 0,.slice none 0 0],.int .i64 0,.bool false]) ?_ rfl ⟨.slice none 0 0,by rw [(uh HV).1,(uh HV).2.1,(uh HV).2.2.2]; rfl,by rw [(uh HV).2.2.1]; exact (NewN.nil _ _ (xa0i (uh HKX) w.heap.size (Nat.le_refl _) _ _).size),xa0i (uh HKX) w.heap.size (Nat.le_refl _) _ _⟩
     exact xa0a rfl _ _ w.heap.size _ #[.int .u64 0,.slice none 0 0] (0,0) _ rfl (xa0p (uh HZX) _ _) Tryz.underlying129 rfl Tryz.size_batch9 _ _ rfl rfl
   ·have he':((D.2.2:Int) != 0) = true:=by rw [bne_iff_ne]; omega
    have HV:=hide (uh HNO (by rw [uh HOK]; simp [he]))
    clear he
    go_wp2
    rw [uh HW2]
    refine bodyPost_ret (v:=.tuple #[.agg #[.int .u64 0,.slice none 0 0],.int .i64 0,.bool false]) ?_ rfl ⟨.slice none 0 0,by rw [(uh HV).1,(uh HV).2.1,(uh HV).2.2.2]; rfl,by rw [(uh HV).2.2.1]; exact (NewN.nil _ _ (xa0i (uh HKX) w.heap.size (Nat.le_refl _) _ _).size),xa0i (uh HKX) w.heap.size (Nat.le_refl _) _ _⟩
    exact xa0a rfl _ _ w.heap.size _ #[.int .u64 0,.slice none 0 0] (0,0) _ rfl (xa0p (uh HZX) _ _) Tryz.underlying129 rfl Tryz.size_batch9 _ _ rfl rfl
  ·have hkd':((N.kind:Int) != 1) = false:=by simp [hkd]
   have hpl':((N.pl:Int) != (i:Int)) = true:=by rw [bne_iff_ne]; omega
   have HV:=hide (uh HNO (by rw [uh HOK]; simp [hpl]))
   clear hpl hkd
   go_wp2
   rw [uh HW1]
   refine bodyPost_ret (v:=.tuple #[.agg #[.int .u64 0,.slice none 0 0],.int .i64 0,.bool false]) ?_ rfl ⟨.slice none 0 0,by rw [(uh HV).1,(uh HV).2.1,(uh HV).2.2.2]; rfl,by rw [(uh HV).2.2.1]; exact (NewN.nil _ _ (xa0i (uh HKW) w.heap.size (Nat.le_refl _) _ _).size),xa0i (uh HKW) w.heap.size (Nat.le_refl _) _ _⟩
   exact xa0a rfl _ _ w.heap.size _ #[.int .u64 0,.slice none 0 0] (0,0) _ rfl (xa0p (uh HZW) _ _) Tryz.underlying129 rfl Tryz.size_batch9 _ _ rfl rfl
 ·have hkd':((N.kind:Int) != 1) = true:=by rw [bne_iff_ne]; omega
  have HV:=hide (uh HNO (by rw [uh HOK]; simp [hkd]))
  clear hkd
  go_wp2
  rw [uh HW1]
  refine bodyPost_ret (v:=.tuple #[.agg #[.int .u64 0,.slice none 0 0],.int .i64 0,.bool false]) ?_ rfl ⟨.slice none 0 0,by rw [(uh HV).1,(uh HV).2.1,(uh HV).2.2.2]; rfl,by rw [(uh HV).2.2.1]; exact (NewN.nil _ _ (xa0i (uh HKW) w.heap.size (Nat.le_refl _) _ _).size),xa0i (uh HKW) w.heap.size (Nat.le_refl _) _ _⟩
  exact xa0a rfl _ _ w.heap.size _ #[.int .u64 0,.slice none 0 0] (0,0) _ rfl (xa0p (uh HZW) _ _) Tryz.underlying129 rfl Tryz.size_batch9 _ _ rfl rfl
end

section
open Go.RowKit

end
section
open Go.RowKit Go.BigFrame
theorem xa6t {f:Nat} {es:List En} (h:chkB f es = 0) (hf:f < 18446744073709551616):0 < (batB f es).length∧(batB f es).length≤30000:=by
 obtain ⟨h1,h2,_,h4⟩:=xa6s h
 have h5:=xb0s es h4
 have h6:=uv_len f hf
 have h7:=uv_len es.length (by omega)
 have h8:0 < (uv f).length:=uv_pos f
 unfold batB
 simp only [List.length_append]
 omega
def sbB (f:Nat) (es:List En):List Nat:=if chkB f es = 0 then frB f (batB f es) else []
set_option maxHeartbeats 2000000 in
theorem xa6d (f:Nat) (v:Value) (es:List En) (w:World) (hf:f < 18446744073709551616) (h:RdN w v es) :
  Calls Tryz.prog 56 #[.agg #[.int .u64 f,v]] w fun r w'=>∃ v',r = .returned (.tuple #[v',.int .i64 (chkB f es)])∧NewB w w' v' (sbB f es)∧Kept [] w w':=by
 have H:=hide h
 obtain ⟨a1,n1,c1,_,_,rfl,_⟩:=id h
 clear h
 obtain ⟨B,hB⟩:∃ B,sbB f es = B:=⟨_,rfl⟩
 have HBB:=hide hB.symm
 rw [hB]
 clear hB
 have HK0:=hide ((Kept.refl [] w).alloc (.cells #[.int .u64 f,.slice a1 n1 c1] 129))
 have HB0:=hide (heap_alloc_new w (.cells #[.int .u64 f,.slice a1 n1 c1] 129))
 obtain ⟨W1,hW1⟩:∃ W,w.alloc (.cells #[.int .u64 f,.slice a1 n1 c1] 129) = W:=⟨_,rfl⟩
 rw [hW1] at HK0 HB0
 have HW1:=hide hW1
 clear hW1
 obtain ⟨d0,d1⟩:=bcells (uh HB0)
 rw [← uh HW1] at d0 d1
 go_enter Tryz.func56,Tryz.ntmps56
 go_wp2_with fail
 rw [uh HW1]
 clear d0 d1
 refine Calls.mono (xa3j f _ es W1 hf ((uh H).old (uh HK0))) ?_
 rintro e w2 ⟨v2,rfl,n2,k2⟩
 obtain ⟨a2,l2,c2,rfl,_⟩:=id n2.1
 have HN2:=hide n2
 have HK2:=hide ((uh HK0).trans k2 (by simp))
 have HB2:=hide (k2.heap (uh HB0) (by simp))
 clear n2 k2
 by_cases hc:chkB f es = 0
 ·have HB:=hide (by simp [sbB,hc]:sbB f es = frB f (batB f es))
  have HL:=hide (xa6t hc hf)
  rw [if_pos hc] at HN2
  rw [hc]
  obtain ⟨d0,d1⟩:=bcells (uh HB2)
  go_wp2_with fail
  refine Calls.mono (xa4v f _ (batB f es) w2 (uh HN2).1 hf) ?_
  rintro e w3 ⟨v3,rfl,n3,k3⟩
  rw [xa7f (by have:=(uh HL).1; omega) (by have:=(uh HL).2; omega)]
  rw [xb2q (by have:=(uh HL).1; omega) (by have:=(uh HL).2; omega)] at n3
  have HN3:=hide n3
  have HK3:=hide ((uh HK2).trans k3 (by simp))
  obtain ⟨a3,l3,c3,rfl,_⟩:=id n3.1
  clear n3 k3 d0 d1
  go_wp2
  go_ret2
  exact ⟨_,by rw [hc]; rfl,by rw [uh HBB,uh HB]; exact (uh HN3).weak (uh HK2).size,uh HK3⟩
 ·have HB:=hide (by simp [sbB,hc]:sbB f es = [])
  have hc':((chkB f es:Int) != 0) = true:=by rw [bne_iff_ne]; omega
  go_wp2
  go_ret2
  exact ⟨_,rfl,by rw [uh HBB,uh HB]; exact NewB.nil _ _,uh HK2⟩
theorem xa0g {P:Program} {fn:Func} {p q:Tmp} {ty:TypeId} (h:fn.results = #[.cell p ty,.tmp q]) (tmps:Array Value) (w:World) (g:Nat) (t:TypeId) (cs:Array Value) (fr:Nat × Nat) (d:TypeDesc)
  (hp:tmps.getD p undef = .pointer (some ⟨g,0,none⟩)) (hg:w.heap[g]? = some (.cells cs t fr))
  (hu:P.underlying ty = some d) (hd:(match d with | .struct _ | .array _ _=>true | _=>false) = true) (hi:(P.info? ty).map (·.size) = some cs.size) (v:Value) (hq:tmps.getD q undef = v) :
  (results fn tmps).run P w = .ok (.tuple #[.agg cs,v]) w:=by
 have hp':tmps[p]?.getD undef = .pointer (some ⟨g,0,none⟩):=by simpa using hp
 have hq':tmps[q]?.getD undef = v:=by simpa using hq
 simp [results,h,hp',hq',asAddr,run_loadVar_row w g t ty cs fr d hg hu hd hi]
theorem NewN.stay {B:Nat} {M:List Nat} {w w':World} {v:Value} {es:List En} (h:NewN B w v es) (k:Kept M w w') (hM:∀ x∈M,x < B∨w.heap.size≤x):RdN w' v es:=by
 have k2:Kept (M.filter (· < B)) w w':=⟨k.os,k.tape,k.output,k.size,fun j hj hn=>k.block j hj (fun hm=>hn (by
  rw [List.mem_filter]
  refine ⟨hm,?_⟩
  have:=hM j hm
  simp; omega))⟩
 exact (h.kept k2 (fun x hx=>by rw [List.mem_filter] at hx; simpa using hx.2)).rdN
def cellsB (ts:List (Nat × Value × List En)):List Value:=ts.flatMap fun t=>[.int .u64 (t.1:Int),t.2.1]
theorem xb1u (ts:List (Nat × Value × List En)) (t:Nat × Value × List En):cellsB (ts++[t]) = cellsB ts++[.int .u64 (t.1:Int),t.2.1]:=by simp [cellsB]
theorem Tryz.infoBt:(Tryz.prog.info? 129).map (fun i=>(i.zero,i.size,i.bytes)) = some (some (.agg #[.int .u64 0,.slice none 0 0]),2,32):=by kernel_rfl
structure OwnB (w0 w:World) (v:Value) (ts:List (Nat × Value × List En)):Prop where
 own:w.ownsRow w0.heap.size 129 2 v ts.length (cellsB ts)
 rd:∀ t∈ts,∃ B C,C≤w.heap.size∧w0.heap.size≤B∧(∀ b,v.ownBlock = some b→b < B∨C≤b)∧∀ M w',Kept M w w'→(∀ x∈M,x < B∨C≤x)→RdN w' t.2.1 t.2.2
 sz:w0.heap.size≤w.heap.size
theorem OwnB.start (w:World):OwnB w w (.slice none 0 0) []:=⟨World.ownsRow_nil _ _ _ _,by simp,Nat.le_refl _⟩
theorem OwnB.pass {w0 w w':World} {M:List Nat} {v:Value} {ts:List (Nat × Value × List En)} (h:OwnB w0 w v ts) (k:Kept M w w') (hM:∀ x∈M,x < w0.heap.size):OwnB w0 w' v ts:=by
 refine ⟨k.owns h.own (fun b hb hm=>by have:=(h.own.lt b hb).1; have:=hM b hm; omega),fun t ht=>?_,Nat.le_trans h.sz k.size⟩
 obtain ⟨B,C,h1,h2,h3,h4⟩:=h.rd t ht
 refine ⟨B,C,Nat.le_trans h1 k.size,h2,h3,fun N w2 kN hN=>h4 (M++N) w2 ((k.mono (M:=M++N) (fun x hx=>by simp [hx])).trans kN (fun x hx=>Or.inl (by simp [hx]))) (fun x hx=>?_)⟩
 rcases List.mem_append.1 hx with hx | hx
 ·have:=hM x hx; omega
 ·exact hN x hx
theorem OwnB.push {w0 w W:World} {v:Value} {ts:List (Nat × Value × List En)} (h:OwnB w0 w v ts) {pl B:Nat} {y:Value} {es:List En} (hy:NewN B w y es) (hB:w0.heap.size≤B) (hBv:∀ b,v.ownBlock = some b→b < B) {g cap:Nat}
  (o:W.ownsRow w0.heap.size 129 2 (.slice (some ⟨g,0,none⟩) (ts.length + 1) cap) (ts.length + 1) (cellsB ts++[.int .u64 (pl:Int),y])) (gr:w.grownBy W v.ownBlock) (hg:v.ownBlock = some g∨g = w.heap.size) :
  OwnB w0 W (.slice (some ⟨g,0,none⟩) (ts.length + 1) cap) (ts++[(pl,y,es)]):=by
 have kW:Kept v.ownBlock.toList w W:=((Kept.refl _ w)).grown gr (by intro k hk; left; simp [hk])
 refine ⟨by rw [xb1u,List.length_append]; exact o,fun t ht=>?_,Nat.le_trans h.sz kW.size⟩
 rcases List.mem_append.1 ht with ht | ht
 ·obtain ⟨B1,C,h1,h2,h3,h4⟩:=h.rd t ht
  refine ⟨B1,C,Nat.le_trans h1 kW.size,h2,fun b hb=>?_,fun N w2 kN hN=>h4 (v.ownBlock.toList++N) w2 ((kW.mono (M:=v.ownBlock.toList++N) (fun x hx=>List.mem_append_left _ hx)).trans kN (fun x hx=>Or.inl (by simp [hx]))) (fun x hx=>?_)⟩
  ·simp only [Value.ownBlock,Option.some.injEq] at hb
   subst hb
   rcases hg with hg | hg
   ·exact h3 _ hg
   ·omega
  ·rcases List.mem_append.1 hx with hx | hx
   ·exact h3 x (by simpa using hx)
   ·exact hN x hx
 ·rw [List.mem_singleton] at ht
  subst ht
  refine ⟨B,w.heap.size,kW.size,hB,fun b hb=>?_,fun N w2 kN hN=>hy.stay (M:=v.ownBlock.toList++N) ((kW.mono (M:=v.ownBlock.toList++N) (fun x hx=>List.mem_append_left _ hx)).trans kN (fun x hx=>Or.inl (by simp [hx]))) (fun x hx=>?_)⟩
  ·simp only [Value.ownBlock,Option.some.injEq] at hb
   subst hb
   rcases hg with hg | hg
   ·exact Or.inl (hBv _ hg)
   ·omega
  ·rcases List.mem_append.1 hx with hx | hx
   ·exact Or.inl (hBv x (by simpa using hx))
   ·exact hN x hx
theorem pushB (w:World) (base:Nat) (v:Value) (ts:List (Nat × Value × List En)) (pl:Nat) (x:Value) (H:Nat) (h:w.ownsRow base 129 2 v ts.length (cellsB ts)) (hnew:w.heap[H]? = some (.cells #[.int .u64 (pl:Int),x] 129 (0,0))) (hx:x.oneCell' = true) (hl:ts.length + 1≤1000000000000) (hb:base≤w.heap.size) :
  ∃ g cap w1,(Builtin.append_ #[46,46] 46 #[v,.slice (some ⟨H,0,none⟩) 1 1]).run Tryz.prog w = .ok (.slice (some ⟨g,0,none⟩) (ts.length + 1) cap) w1 ∧
   w1.ownsRow base 129 2 (.slice (some ⟨g,0,none⟩) (ts.length + 1) cap) (ts.length + 1) (cellsB ts++[.int .u64 (pl:Int),x])∧w.grownBy w1 v.ownBlock∧(v.ownBlock = some g∨g = w.heap.size):=by
 obtain ⟨i0,hi,hz0,hz1,hz2⟩:=info_parts Tryz.infoBt
 obtain ⟨g,cap,w1,hr,hown,hgrow,hat,hlt⟩:=run_append_lies (P:=Tryz.prog) w 46 46 base 129 i0 (.agg #[.int .u64 0,.slice none 0 0]) 2 32 Tryz.underlying46 hi hz0 hz1 hz2 rfl (by decide)
  v ts.length (cellsB ts) h ⟨H,0,none⟩ 1 1 [.int .u64 (pl:Int),x] rfl (World.news_of_block hnew) (by intro u hu; simp at hu; rcases hu with rfl | rfl; rfl; exact hx) (by decide) (by unfold maxLen; omega) (by omega) hb _ rfl
 exact ⟨g,cap,w1,hr,hown,hgrow,hat⟩
theorem xa6h {ops:Array Oper} {rest:List Oper} {o:Oper} {a:Act} {Q:Exit→Act→World→Prop} (hgd:o.guard = none) (s x:Operand)
  (ho:o.op = .call { callee:=.builtin .append,args:=#[s,x],argTypes:=#[46,46] }) (hty:o.type = 46)
  (w:World) (base:Nat) (v:Value) (ts:List (Nat × Value × List En)) (pl:Nat) (y:Value) (H:Nat) (h:w.ownsRow base 129 2 v ts.length (cellsB ts)) (hnew:w.heap[H]? = some (.cells #[.int .u64 (pl:Int),y] 129 (0,0))) (hy:y.oneCell' = true) (hl:ts.length + 1≤1000000000000) (hb:base≤w.heap.size)
  (hs:a.eval s = v) (hx:a.eval x = .slice (some ⟨H,0,none⟩) 1 1)
  (hK:∀ g cap w1,Hid (w1.ownsRow base 129 2 (.slice (some ⟨g,0,none⟩) (ts.length + 1) cap) (ts.length + 1) (cellsB ts++[.int .u64 (pl:Int),y]))→Hid (w.grownBy w1 v.ownBlock)→Hid (v.ownBlock = some g∨g = w.heap.size) →
   wpList Tryz.prog ops Q rest (a.put o.dst (.slice (some ⟨g,0,none⟩) (ts.length + 1) cap)) w1) :
  wpList Tryz.prog ops Q (o :: rest) a w:=by
 obtain ⟨g,cap,w1,hrun,h2,h3,h4⟩:=pushB w base v ts pl y H h hnew hy hl hb
 refine wpList_plain hgd fun K hK'=>?_
 unfold Oper.wp execOp
 simp only [ho,hty,resolve,invoke,builtin,Sem.run_bind,Sem.run_pure,Result.andThen_ok,List.map_toArray,List.map_cons,List.map_nil,hs,hx,hrun]
 exact hK' _ _ (hK g cap w1 h2 h3 h4)
theorem scells {w:World} {b:Nat} {x0 x1 x2 x3 x4 x5:Value} {t:TypeId} (h:w.heap[b]? = some (.cells #[x0,x1,x2,x3,x4,x5] t (0,0))):w.cell? ⟨b,0,none⟩ = some x0∧w.cell? ⟨b,1,none⟩ = some x1∧w.cell? ⟨b,2,none⟩ = some x2∧w.cell? ⟨b,3,none⟩ = some x3∧w.cell? ⟨b,4,none⟩ = some x4∧w.cell? ⟨b,5,none⟩ = some x5:=by
 refine ⟨?_,?_,?_,?_,?_,?_⟩ <;> rw [cell_of_row _ _ _ _ _ _ h] <;> rfl
theorem sfroz {w:World} {b:Nat} {cs:Array Value} {t:TypeId} (h:w.heap[b]? = some (.cells cs t (0,0))):w.frozen? ⟨b,0,none⟩ = false∧w.frozen? ⟨b,1,none⟩ = false∧w.frozen? ⟨b,2,none⟩ = false∧w.frozen? ⟨b,3,none⟩ = false∧w.frozen? ⟨b,4,none⟩ = false∧w.frozen? ⟨b,5,none⟩ = false :=
 ⟨frozen_of_row _ _ _ _ _ h,frozen_of_row _ _ _ _ _ h,frozen_of_row _ _ _ _ _ h,frozen_of_row _ _ _ _ _ h,frozen_of_row _ _ _ _ _ h,frozen_of_row _ _ _ _ _ h⟩
theorem xa6w {w:World} {g:Nat} {a b c d e f:Value} {t:TypeId} (h:w.heap[g]? = some (.cells #[a,b,c,d,e,f] t (0,0))) (x y z u r s:Value):((((((w.setCell ⟨g,0,none⟩ x).setCell ⟨g,1,none⟩ y).setCell ⟨g,2,none⟩ z).setCell ⟨g,3,none⟩ u).setCell ⟨g,4,none⟩ r).setCell ⟨g,5,none⟩ s).heap[g]? = some (.cells #[x,y,z,u,r,s] t (0,0)):=by
 rw [heap_setCell_same _ g 5 _ t _ (heap_setCell_same _ g 4 _ t _ (heap_setCell_same _ g 3 _ t _ (heap_setCell_same _ g 2 _ t _ (heap_setCell_same _ g 1 _ t _ (heap_setCell_same w g 0 _ t _ h)))))]; rfl
theorem xa2s {L:List Nat} {w0 w:World} (k:Kept L w0 w) (g:Nat) (hg:g∈L∨w0.heap.size≤g) (x y z u r s:Value):Kept L w0 ((((((w.setCell ⟨g,0,none⟩ x).setCell ⟨g,1,none⟩ y).setCell ⟨g,2,none⟩ z).setCell ⟨g,3,none⟩ u).setCell ⟨g,4,none⟩ r).setCell ⟨g,5,none⟩ s):=(((((k.setCell hg x).setCell hg y).setCell hg z).setCell hg u).setCell hg r).setCell hg s
theorem Tryz.size_seg:(Tryz.prog.info? 83).map (·.size) = some 6:=by kernel_rfl
theorem xa8q {w:World} {g:Nat} {a b c d e f:Value} {t:TypeId} (h:w.heap[g]? = some (.cells #[a,b,c,d,e,f] t (0,0))) (r s:Value):((w.setCell ⟨g,4,none⟩ r).setCell ⟨g,5,none⟩ s).heap[g]? = some (.cells #[a,b,c,d,r,s] t (0,0)):=by
 rw [heap_setCell_same _ g 5 _ t _ (heap_setCell_same _ g 4 _ t _ h)]; rfl
def rdL:Nat→List Nat→Nat→Nat→List (Nat × List En) × Nat
 | 0,_,z,_=>([],z)
 | k + 1,p,z,i=>if rbOk p z i then ((i,rbE p z i) :: (rdL k p (rbN p z i).toNat ((i + (rbE p z i).length) % 18446744073709551616)).1,(rdL k p (rbN p z i).toNat ((i + (rbE p z i).length) % 18446744073709551616)).2) else ([],z)
theorem rdL_no {k z i:Nat} {p:List Nat} (h:rbOk p z i = false):rdL k p z i = ([],z):=by
 cases k with
 | zero=>rfl
 | succ k=>rw [rdL,h]; rfl
theorem xb7q {k z i:Nat} {p:List Nat} (h:rbOk p z i = true):rdL (k + 1) p z i = ((i,rbE p z i) :: (rdL k p (rbN p z i).toNat ((i + (rbE p z i).length) % 18446744073709551616)).1,(rdL k p (rbN p z i).toNat ((i + (rbE p z i).length) % 18446744073709551616)).2):=by
 rw [rdL,if_pos h]
def sgB (p:List Nat):List (Nat × List En):=if (hdF p).isSome then (rdL p.length p 48 (hdC p).c).1 else []
def sgU (p:List Nat):Nat:=if (hdF p).isSome then (rdL p.length p 48 (hdC p).c).2 else 0
def sgE (p:List Nat):Nat:=if (hdF p).isSome then 0 else 3
theorem xb7j {p:List Nat} {z i:Nat} (hb:∀ x∈p,x < 256) (h:rbOk p z i = true):∃ n:Nat,rbN p z i = (n:Int)∧z + 18 < n∧n≤p.length:=by
 have hn:rbN p z i = (nextF p z).next:=by simp [rbN,h]
 have hk:(nextF p z).kind = 1:=by unfold rbOk at h; simp at h; exact h.1
 rcases xa3s p z hb with ⟨_,hN⟩ | ⟨_,hN⟩ | ⟨m,pl,pay,hzn,hN,b1,b2,b3,b4,b5,b6,b7⟩
 ·rw [hN] at hk; simp at hk
 ·rw [hN] at hk; simp at hk
 ·rw [hN] at hn
  refine ⟨m + 18 + pay.length,hn,by omega,b5⟩



def nbU (l:List Nat):Nat:=if l = nmL (dv 0 (l.drop 4)) then dv 0 (l.drop 4) else 0
def nbE (l:List Nat):Nat:=if l = nmL (dv 0 (l.drop 4)) then 0 else 3
theorem xb0j (l:List Nat) (w:World) (hb:∀ x∈l,x < 256) (hl:l.length≤140737488355328) (hv:VarsS w) :
  Calls Tryz.prog 83 #[.string (strB l)] w fun e w'=>e = .returned (.tuple #[.int .u64 (nbU l),.int .i64 (nbE l)])∧Kept [] w w':=by
 by_cases h:l = nmL (dv 0 (l.drop 4))
 ·have h1:nbU l = dv 0 (l.drop 4):=if_pos h
  have h2:nbE l = 0:=if_pos h
  have h3:=xb0h (dv 0 (l.drop 4)) w (dv_lt _ 0 (by omega)) hv
  rw [← h] at h3
  rw [h1,h2]
  exact h3
 ·have h1:nbU l = 0:=if_neg h
  have h2:nbE l = 3:=if_neg h
  rw [h1,h2]
  refine xb2l (strB l) w (by rw [xa0m]; exact hl) (fun u hu e=>h ?_) hv
  have e2:=xb1h hb (xa3x u) e
  have e3:dv 0 (l.drop 4) = u:=by rw [e2]; exact xb4c hu
  rw [e3]
  exact e2
theorem OwnB.base {w0 w1 w:World} {v:Value} {ts:List (Nat × Value × List En)} (h:OwnB w1 w v ts) (hb:w0.heap.size≤w1.heap.size):OwnB w0 w v ts:=by
 refine ⟨xa2n h.own hb,fun t ht=>?_,Nat.le_trans hb h.sz⟩
 obtain ⟨B,C,h1,h2,h3,h4⟩:=h.rd t ht
 exact ⟨B,C,h1,Nat.le_trans hb h2,h3,h4⟩
theorem OwnB.empty {w0 w:World} (h:w0.heap.size≤w.heap.size):OwnB w0 w (.slice none 0 0) []:=⟨World.ownsRow_nil _ _ _ _,by simp,h⟩
set_option maxHeartbeats 4000000 in
theorem xb2n (v:Value) (p:List Nat) (w:World) (h:Rd w v p) (hl:p.length≤100000000000) :
  Calls Tryz.prog 34 #[v] w fun e w'=>∃ bv,e = .returned (.tuple #[.agg #[.int .u64 (hdC p).a,.int .u64 (hdC p).b,.int .u64 (hdC p).c,.int .i64 (hdC p).d,bv,.int .i64 (sgU p)],.int .i64 (sgE p)])∧(∃ ts,sgB p = ts.map (fun t=>(t.1,t.2.2))∧OwnB w w' bv ts)∧Kept [] w w':=by
 have H:=hide h
 obtain ⟨a1,n1,c1,rfl,hn1,_⟩:=id h
 subst hn1
 clear h
 have HZ0:=hide (heap_alloc_new w (.cells #[.int .u64 0,.int .u64 0,.int .u64 0,.int .i64 0,.slice none 0 0,.int .i64 0] 83))
 have HK0:=hide ((Kept.refl [] w).alloc (.cells #[.int .u64 0,.int .u64 0,.int .u64 0,.int .i64 0,.slice none 0 0,.int .i64 0] 83))
 have HLP:=hide hl
 obtain ⟨X,hX⟩:∃ X,hdC p = X:=⟨_,rfl⟩
 obtain ⟨T,hT⟩:∃ T,rdL p.length p 48 X.c = T:=⟨_,rfl⟩
 obtain ⟨U,hU⟩:∃ U,sgU p = U:=⟨_,rfl⟩
 obtain ⟨S,hS⟩:∃ S,sgB p = S:=⟨_,rfl⟩
 obtain ⟨E,hE⟩:∃ E,sgE p = E:=⟨_,rfl⟩
 rw [hX,hU,hS,hE]
 have HNO:=hide (fun (h0:(hdF p).isSome = false)=>by
  rw [← hU,← hS,← hE]
  exact ⟨by rw [← hX]; rw [Option.isSome_eq_false_iff,Option.isNone_iff_eq_none] at h0; simp [hdC,h0],by simp [sgU,h0],by simp [sgB,h0],by simp [sgE,h0]⟩:(hdF p).isSome = false→X = ⟨0,0,0,0⟩∧U = 0∧S = []∧E = 3)
 have HYE:=hide (fun (h0:(hdF p).isSome = true)=>by
  rw [← hU,← hS,← hE,← hT,← hX]
  exact ⟨by simp [sgU,h0],by simp [sgB,h0],by simp [sgE,h0]⟩:(hdF p).isSome = true→U = T.2∧S = T.1∧E = 0)
 have HT:=hide hT
 have HN48:=hide (by simp [hdN]:hdN p = if (hdF p).isSome then 48 else 0)
 clear hT hU hS hE hl
 go_enter Tryz.func34,Tryz.ntmps34
 go_wp2_with fail
 refine Calls.mono (xa5w _ p _ ((uh H).old (uh HK0) (by simp))) ?_
 rintro e w1 ⟨rfl,k1⟩
 rw [hX,uh HN48]
 clear hX
 have HZ1:=hide (k1.heap (uh HZ0) (by simp))
 have HK1:=hide ((uh HK0).trans k1 (by simp))
 clear k1
 have HHW:=hide (heap_alloc_new w1 (.cells #[.int .u64 (X.a:Int),.int .u64 (X.b:Int),.int .u64 (X.c:Int),.int .i64 (X.d:Int)] 81))
 have HKW:=hide ((uh HK1).alloc (.cells #[.int .u64 (X.a:Int),.int .u64 (X.b:Int),.int .u64 (X.c:Int),.int .i64 (X.d:Int)] 81))
 have HZW:=hide (((Kept.refl [] w1).alloc (.cells #[.int .u64 (X.a:Int),.int .u64 (X.b:Int),.int .u64 (X.c:Int),.int .i64 (X.d:Int)] 81)).heap (uh HZ1) (by simp))
 obtain ⟨W1,hW1⟩:∃ W,w1.alloc (.cells #[.int .u64 (X.a:Int),.int .u64 (X.b:Int),.int .u64 (X.c:Int),.int .i64 (X.d:Int)] 81) = W:=⟨_,rfl⟩
 rw [hW1] at HHW HKW HZW
 have HW1:=hide hW1
 clear hW1
 obtain ⟨d0,d1,d2,d3,d4,d5⟩:=scells (uh HZW)
 obtain ⟨f0,f1,f2,f3,f4,f5⟩:=sfroz (uh HZW)
 obtain ⟨g0,g1,g2,g3⟩:=hcells (uh HHW)
 rw [← uh HW1] at d0 d1 d2 d3 d4 d5 f0 f1 f2 f3 f4 f5 g0 g1 g2 g3
 by_cases hok:(hdF p).isSome = true
 ·rw [hok]
  simp only [if_true]
  rw [show ((48:Nat):Int) = 48 from rfl]
  have HV:=hide (uh HYE hok)
  clear hok HYE HNO HN48
  have HS0:=hide (heap_alloc_new W1 (.cells #[.int .u64 (X.a:Int),.int .u64 (X.b:Int),.int .u64 (X.c:Int),.int .i64 (X.d:Int),.slice none 0 0,.int .i64 48] 83))
  have HKS:=hide ((Kept.refl [] W1).alloc (.cells #[.int .u64 (X.a:Int),.int .u64 (X.b:Int),.int .u64 (X.c:Int),.int .i64 (X.d:Int),.slice none 0 0,.int .i64 48] 83))
  have HSZ:=hide (by rw [← uh HW1]; simp:W1.heap.size = w1.heap.size + 1)
  rw [uh HSZ] at HS0
  go_wp2_with fail
  rw [uh HW1]
  have HZS:=hide ((uh HKS).heap (uh HZW) (by simp))
  have HKw:=hide ((uh HKW).trans (uh HKS) (by simp))
  have HLT:=hide (by have:=lt_of_block (uh HZ1); omega:w.heap.size < w1.heap.size + 1)
  obtain ⟨W2,hW2⟩:∃ W,W1.alloc (.cells #[.int .u64 (X.a:Int),.int .u64 (X.b:Int),.int .u64 (X.c:Int),.int .i64 (X.d:Int),.slice none 0 0,.int .i64 48] 83) = W:=⟨_,rfl⟩
  have HS2:=hide (by rw [← hW2]; simp [uh HSZ]:W2.heap.size = w1.heap.size + 1 + 1)
  rw [hW2] at HS0 HKS HZS HKw ⊢
  clear hW2 d0 d1 d2 d3 d4 d5 f0 f1 f2 f3 f4 f5 g0 g1 g2 g3 HKS
  go_loopw [8] (fun t8 wr=>∃ (n f i:Nat) (bv:Value) (ts:List (Nat × Value × List En)),t8 = .int .u64 (i:Int)∧Hid (n≤p.length + 48∧p.length≤n + f∧ts.length≤n)∧Hid (T = (ts.map (fun t=>(t.1,t.2.2))++(rdL f p n i).1,(rdL f p n i).2))∧Hid (wr.heap[w1.heap.size + 1]? = some (.cells #[.int .u64 (X.a:Int),.int .u64 (X.b:Int),.int .u64 (X.c:Int),.int .i64 (X.d:Int),bv,.int .i64 (n:Int)] 83 (0,0)))∧Hid (OwnB W2 wr bv ts)∧Hid (Kept [] w wr)∧Hid (wr.heap[w.heap.size]? = some (.cells #[.int .u64 0,.int .u64 0,.int .u64 0,.int .i64 0,.slice none 0 0,.int .i64 0] 83 (0,0)))) (fun _ wr=>p.length - (intOf ((wr.cell? ⟨w1.heap.size + 1,5,none⟩).getD undef)).toNat)
  case atStart=>exact ⟨48,p.length,X.c,.slice none 0 0,[],rfl,hide ⟨by omega,by omega,by simp⟩,hide (by rw [uh HT]; simp),HS0,hide (OwnB.start _),HKw,HZS⟩
  case round =>
   obtain ⟨n,f,i,bv,ts,rfl,HN,HR,HS,HO,HK,HZ⟩:=hrel
   obtain ⟨s0,s1,s2,s3,s4,s5⟩:=scells (uh HS)
   have HC5:=hide s5
   go_wp2_with fail
   refine Calls.mono (xa5k _ p (n:Int) i wr ((uh H).old (uh HK) (by simp)) (by have:=(uh HN).1; have:=uh HLP; omega)) ?_
   rintro e w3 ⟨b3,rfl,nb,k3⟩
   obtain ⟨a3,n3,c3,_,_,hb3,hl3,_⟩:=id nb.rdN
   subst hb3
   have HL3:=hide hl3
   have HNB:=hide nb
   have HSB:=hide (k3.size)
   have HO3:=hide ((uh HO).pass k3 (by simp))
   have HS3:=hide (k3.heap (uh HS) (by simp))
   have HZ3:=hide (k3.heap (uh HZ) (by simp))
   have HK3:=hide ((uh HK).trans k3 (by simp))
   have HBB:=hide (fun b hb=>((uh HO).own.lt b hb).2:∀ b,bv.ownBlock = some b→b < wr.heap.size)
   have HWB:=hide ((uh HO).sz)
   clear k3 nb s0 s1 s2 s3 s4 s5 hl3 HS HO HK HZ
   obtain ⟨R,hRR⟩:∃ R,rbF p (n:Int) i = R:=⟨_,rfl⟩
   obtain ⟨V,hVV⟩:∃ V,rbN p (n:Int) i = V:=⟨_,rfl⟩
   rw [hRR,hVV]
   have HBW:=hide (heap_alloc_new w3 (.cells #[.int .u64 (R:Int),.slice a3 n3 c3] 129))
   have KA:=hide ((Kept.refl [] w3).alloc (.cells #[.int .u64 (R:Int),.slice a3 n3 c3] 129))
   obtain ⟨W4,hW4⟩:∃ W,w3.alloc (.cells #[.int .u64 (R:Int),.slice a3 n3 c3] 129) = W:=⟨_,rfl⟩
   rw [hW4] at HBW KA
   have HW4:=hide hW4
   clear hW4
   have HS4:=hide ((uh KA).heap (uh HS3) (by simp))
   have HZ4:=hide ((uh KA).heap (uh HZ3) (by simp))
   obtain ⟨s0,s1,s2,s3,s4,s5⟩:=scells (uh HS4)
   obtain ⟨g0,g1⟩:=bcells (uh HBW)
   obtain ⟨z0,z1,z2,z3,z4,z5⟩:=scells (uh HZ4)
   obtain ⟨f0,f1,f2,f3,f4,f5⟩:=sfroz (uh HZ4)
   rw [← uh HW4] at s0 s1 s2 s3 s4 s5 g0 g1 z0 z1 z2 z3 z4 z5 f0 f1 f2 f3 f4 f5
   by_cases hrb:rbOk p (n:Int) i = true
   ·rw [hrb]
    obtain ⟨m,hm,hm1,hm2⟩:=xb7j (uh H).byte hrb
    have HRI:=hide (by rw [← hRR]; simp [rbF,hrb]:R = i)
    obtain ⟨f',rfl⟩:∃ f',f = f' + 1:=⟨f - 1,by have:=(uh HN).2.1; omega⟩
    have HE:=hide (xb7q (k:=f') hrb)
    rw [hm,Int.toNat_natCast] at HE
    obtain rfl:V = (m:Int):=by rw [← hVV,hm]
    obtain ⟨es,hes⟩:∃ es,rbE p (n:Int) i = es:=⟨_,rfl⟩
    rw [hes] at HE HNB HL3
    have HM:=hide (⟨hm1,hm2⟩:n + 18 < m∧m≤p.length)
    clear hrb hm hm1 hm2 hVV hRR hes
    have HO4:=hide (((uh HO3).pass (uh KA) (by simp)).pass ((Kept.refl [] W4).alloc (.cells #[.int .u64 (R:Int),.slice a3 n3 c3] 129)) (by simp))
    have HX4:=hide (((Kept.refl [] W4).alloc (.cells #[.int .u64 (R:Int),.slice a3 n3 c3] 129)).heap (uh HS4) (by simp))
    have HY4:=hide (((Kept.refl [] W4).alloc (.cells #[.int .u64 (R:Int),.slice a3 n3 c3] 129)).heap (uh HZ4) (by simp))
    have HG4:=hide (((Kept.refl [] W4).alloc (.cells #[.int .u64 (R:Int),.slice a3 n3 c3] 129)).heap (uh HBW) (by simp))
    have HK4:=hide (((uh HK3).trans (uh KA) (by simp)).alloc (.cells #[.int .u64 (R:Int),.slice a3 n3 c3] 129))
    have HN4:=hide (((uh HNB).kept (uh KA) (by simp)).kept ((Kept.refl [] W4).alloc (.cells #[.int .u64 (R:Int),.slice a3 n3 c3] 129)) (by simp))
    have HH4:=hide (by rw [← uh HW4]; exact heap_alloc2_new _ _ _:(W4.alloc (.cells #[.int .u64 (R:Int),.slice a3 n3 c3] 129)).heap[w3.heap.size + 1]? = some (.cells #[.int .u64 (R:Int),.slice a3 n3 c3] 129 (0,0)))
    rw [← uh HW4] at HO4 HX4 HY4 HG4 HK4 HN4 HH4
    have HNB4:=hide (fun b hb=>by have:=uh HBB b hb; have:=uh HSB; exact Nat.ne_of_lt (by omega):∀ b,bv.ownBlock = some b→b≠w3.heap.size)
    have HNS4:=hide (fun b hb=>by have:=((uh HO3).own.lt b hb).1; have:=uh HS2; omega:∀ b,bv.ownBlock = some b→b≠w1.heap.size + 1)
    have HNZ4:=hide (fun b hb=>by have:=((uh HO3).own.lt b hb).1; have:=uh HS2; have:=uh HLT; omega:∀ b,bv.ownBlock = some b→b≠w.heap.size)
    go_upto_region 10 with (at_builtin; refine xa6h rfl (.tmp 39) (.tmp 41) rfl rfl _ W2.heap.size bv ts R (.slice a3 n3 c3) (w3.heap.size + 1) (uh HO4).own (uh HH4) rfl (by have:=uh HN; have:=uh HLP; omega) (uh HO4).sz rfl rfl ?_; intro g cap w5 HO5 HG5 HA5; (have HX5:=hide (((Kept.refl (bv.ownBlock.toList) _).grown (uh HG5) (by intro k hk; left; simp [hk])).heap (uh HX4) (by intro hm; exact uh HNS4 _ (by simpa using hm) rfl))); (obtain ⟨x0,x1,x2,x3,x4,x5⟩:=scells (uh HX5)); (obtain ⟨q0,q1,q2,q3,q4,q5⟩:=sfroz (uh HX5)))
    have HK5:=hide ((Kept.refl (bv.ownBlock.toList) _).grown (uh HG5) (by intro k hk; left; simp [hk]))
    have HB5:=hide ((uh HK5).heap (uh HG4) (by intro hm; exact uh HNB4 _ (by simpa using hm) rfl))
    have HZ5:=hide ((uh HK5).heap (uh HY4) (by intro hm; exact uh HNZ4 _ (by simpa using hm) rfl))
    have HP5:=hide ((uh HO4).push (uh HN4) (uh HWB) (uh HBB) (uh HO5) (uh HG5) (uh HA5))
    have HKW5:=hide ((uh HK4).grown (uh HG5) (fun k hk=>Or.inr (by have:=((uh HO3).own.lt k hk).1; have:=uh HS2; have:=uh HLT; omega)))
    have HSS:=hide (by have:=lt_of_block (uh HX5); have:=(uh HO3).sz; have:=uh HS2; have:=uh HWB; have:=uh HSB; omega:w1.heap.size + 1≠w3.heap.size)
    clear x0 x1 x2 x3 x4 x5 q0 q1 q2 q3 q4 q5 HO5 HG5 HA5 HO4 HX4 HY4 HG4 HK4 HN4 HH4 HNB4 HNS4 HNZ4 HK5 s0 s1 s2 s3 s4 s5 g0 g1 z0 z1 z2 z3 z4 z5 f0 f1 f2 f3 f4 f5 HW4 HBW KA HS4 HZ4
    have HX6:=hide (xa8q (uh HX5) (.slice (some ⟨g,0,none⟩) (ts.length + 1) cap) (.int .i64 (m:Int)))
    have HK6:=hide (((Kept.refl [w1.heap.size + 1] w5).setCell (p:=⟨w1.heap.size + 1,4,none⟩) (Or.inl (by simp)) (.slice (some ⟨g,0,none⟩) (ts.length + 1) cap)).setCell (p:=⟨w1.heap.size + 1,5,none⟩) (Or.inl (by simp)) (.int .i64 (m:Int)))
    have HKW6:=hide (((uh HKW5).setCell (p:=⟨w1.heap.size + 1,4,none⟩) (Or.inr (by have:=uh HLT; simp only; omega)) (.slice (some ⟨g,0,none⟩) (ts.length + 1) cap)).setCell (p:=⟨w1.heap.size + 1,5,none⟩) (Or.inr (by have:=uh HLT; simp only; omega)) (.int .i64 (m:Int)))
    generalize (w5.setCell ⟨w1.heap.size + 1,4,none⟩ (.slice (some ⟨g,0,none⟩) (ts.length + 1) cap)).setCell ⟨w1.heap.size + 1,5,none⟩ (.int .i64 (m:Int)) = W6 at HX6 HK6 HKW6 ⊢
    have HB6:=hide ((uh HK6).heap (uh HB5) (by intro hm; exact uh HSS (by simpa using (List.mem_singleton.1 hm).symm)))
    have HZ6:=hide ((uh HK6).heap (uh HZ5) (by intro hm; have:=List.mem_singleton.1 hm; have:=uh HLT; omega))
    have HP6:=hide ((uh HP5).pass (uh HK6) (by have:=uh HS2; simp; omega))
    obtain ⟨g0,g1⟩:=bcells (uh HB6)
    go_wp2_with fail
    go_roundw
    case rel =>
     refine ⟨m,f',(i + es.length) % 18446744073709551616,.slice (some ⟨g,0,none⟩) (ts.length + 1) cap,ts++[(R,.slice a3 n3 c3,es)],?_,hide ⟨by have:=(uh HM).2; omega,by have:=(uh HN).2.1; have:=(uh HM).1; omega,by have:=(uh HN).2.2; have:=(uh HM).1; rw [List.length_append]; simp; omega⟩,hide ?_,HX6,HP6,HKW6,HZ6⟩
     ·have h9:=uh HL3
      rw [h9,IntKind.wrap_u64]
      simp
     ·rw [uh HR,uh HE,uh HRI]
      simp
    case measure =>
     rw [(scells (uh HX6)).2.2.2.2.2,uh HC5]
     have:=uh HM
     simp [intOf]
     omega
   ·rw [Bool.not_eq_true] at hrb
    rw [hrb]
    have HE:=hide (rdL_no (k:=f) hrb)
    have HBS:=hide (by
     have h9:=(uh HO3).own.2
     rcases h9 with ⟨rfl,_⟩ | ⟨g,cap,cur,rfl,_⟩
     ·exact ⟨_,_,_,rfl⟩
     ·exact ⟨_,_,_,rfl⟩:∃ a n c,bv = .slice a n c)
    obtain ⟨ab,nb,cb,rfl⟩:=uh HBS
    clear hrb
    go_wp2
    rw [uh HW4]
    refine bodyPost_ret (v:=.tuple #[.agg #[.int .u64 (X.a:Int),.int .u64 (X.b:Int),.int .u64 (X.c:Int),.int .i64 (X.d:Int),.slice ab nb cb,.int .i64 (n:Int)],.int .i64 0]) ?_ rfl ⟨.slice ab nb cb,by rw [(uh HV).1,(uh HV).2.2,uh HR,uh HE]; rfl,?_,xa2s ((uh HK3).trans (uh KA) (by simp)) w.heap.size (Or.inr (Nat.le_refl _)) _ _ _ _ _ _⟩
    ·exact xa0g rfl _ _ w.heap.size _ #[.int .u64 (X.a:Int),.int .u64 (X.b:Int),.int .u64 (X.c:Int),.int .i64 (X.d:Int),.slice ab nb cb,.int .i64 (n:Int)] (0,0) _ rfl (xa6w (uh HZ4) _ _ _ _ _ _) Tryz.underlying83 rfl Tryz.size_seg _ rfl
    ·rw [(uh HV).2.1,uh HR,uh HE,List.append_nil]
     exact ⟨ts,rfl,(((uh HO3).pass (uh KA) (by simp)).pass (xa2s (L:=[w.heap.size]) (Kept.refl _ W4) w.heap.size (Or.inl (by simp)) _ _ _ _ _ _) (by have:=uh HLT; have:=uh HS2; simp; omega)).base (by have:=uh HLT; have:=uh HS2; omega)⟩
 ·rw [Bool.not_eq_true] at hok
  rw [hok]
  simp only [Bool.false_eq_true,if_false]
  have HV:=hide (uh HNO hok)
  go_wp2
  rw [uh HW1]
  refine bodyPost_ret (v:=.tuple #[.agg #[.int .u64 0,.int .u64 0,.int .u64 0,.int .i64 0,.slice none 0 0,.int .i64 0],.int .i64 3]) ?_ rfl ⟨.slice none 0 0,by rw [(uh HV).1,(uh HV).2.1,(uh HV).2.2.2]; rfl,by rw [(uh HV).2.2.1]; exact ⟨[],rfl,OwnB.empty (xa2s (uh HKW) w.heap.size (Or.inr (Nat.le_refl _)) _ _ _ _ _ _).size⟩,xa2s (uh HKW) w.heap.size (Or.inr (Nat.le_refl _)) _ _ _ _ _ _⟩
  exact xa0g rfl _ _ w.heap.size _ #[.int .u64 0,.int .u64 0,.int .u64 0,.int .i64 0,.slice none 0 0,.int .i64 0] (0,0) _ rfl (xa6w (uh HZW) _ _ _ _ _ _) Tryz.underlying83 rfl Tryz.size_seg _ rfl
def thn (r:Nat × DSt) (f:DSt→Nat × DSt):Nat × DSt:=if r.1 = 0 then f r.2 else r
def nmB (u:Nat):ByteArray:=strB (nmL u)
def stBegin (σ:DSt) (n ep fs:Nat) (wd:Int):Nat × DSt :=
 thn (thn (thn (stCreate σ (nmB n)) (fun τ=>stAppend τ (nmB n) (ehB n ep fs wd))) (fun τ=>stSync τ (nmB n))) stNames
structure LSt where
 num:Nat
 ep:Nat
 fst:Nat
 wd:Int
 byt:Nat
 bt:Nat
 lim:Int
 nx:Nat
 st:Nat
def lgRot (σ:DSt) (l:LSt):Nat × DSt × LSt :=
 if (stSync σ (nmB l.num)).1≠0 then ((stSync σ (nmB l.num)).1,(stSync σ (nmB l.num)).2,l)
 else if l.num = 18446744073709551615 then (7,(stSync σ (nmB l.num)).2,l)
 else if (stBegin (stSync σ (nmB l.num)).2 (l.num + 1) l.ep l.nx l.wd).1≠0 then ((stBegin (stSync σ (nmB l.num)).2 (l.num + 1) l.ep l.nx l.wd).1,(stBegin (stSync σ (nmB l.num)).2 (l.num + 1) l.ep l.nx l.wd).2,l)
 else (0,(stBegin (stSync σ (nmB l.num)).2 (l.num + 1) l.ep l.nx l.wd).2,{ l with num:=l.num + 1,fst:=l.nx,byt:=48,bt:=0 })
def lgLay (σ:DSt) (l:LSt) (p:List Nat):Nat × DSt × LSt :=
 ((stAppend σ (nmB l.num) p).1,(stAppend σ (nmB l.num) p).2,if (stAppend σ (nmB l.num) p).1 = 0 then { l with byt:=l.byt + p.length,bt:=l.bt + 1 } else l)
def lgFull (l:LSt):Bool:=decide (0 < l.bt) && decide (l.lim≤(l.byt:Int))
def lgWrite (σ:DSt) (l:LSt) (p:List Nat):Nat × DSt × LSt :=
 if lgFull l then (if (lgRot σ l).1≠0 then lgRot σ l else lgLay (lgRot σ l).2.1 (lgRot σ l).2.2 p) else lgLay σ l p
def lgFail (l:LSt):Nat:=if l.st = 0∨l.st = 12 then l.st else 8
def lgAppend (σ:DSt) (l:LSt) (es:List En):Nat × DSt × LSt :=
 if chkB l.nx es≠0 then (chkB l.nx es,σ,l)
 else if lgFail l≠0 then (lgFail l,σ,l)
 else ((lgWrite σ l (sbB l.nx es)).1,(lgWrite σ l (sbB l.nx es)).2.1,{ (lgWrite σ l (sbB l.nx es)).2.2 with st:=(lgWrite σ l (sbB l.nx es)).1,nx:=if (lgWrite σ l (sbB l.nx es)).1 = 0 then (l.nx + es.length) % 18446744073709551616 else l.nx })
def lgSync (σ:DSt) (l:LSt):Nat × DSt × LSt :=
 if lgFail l≠0 then (lgFail l,σ,l)
 else ((stSync σ (nmB l.num)).1,(stSync σ (nmB l.num)).2,{ l with st:=(stSync σ (nmB l.num)).1 })
structure FSt where
 last:Nat
 ep:Nat
 sz:Nat
 sg:List (List UInt8)
 bs:List (Nat × List En)
def natL (s:List UInt8):List Nat:=s.map UInt8.toNat
def strU (s:List UInt8):ByteArray:=⟨s.toArray⟩
theorem xb6k (s:List UInt8):strB (natL s) = strU s:=by
 unfold strB natL strU
 rw [List.map_map]
 congr 1
 congr 1
 conv=>rhs; rw [← List.map_id s]
 apply List.map_congr_left
 intro x _
 simp
theorem xb3i (s:List UInt8):∀ x∈natL s,x < 256:=by
 intro x hx
 simp only [natL,List.mem_map] at hx
 obtain ⟨y,_,rfl⟩:=hx
 exact y.toNat_lt
def cntB (bs:List (Nat × List En)):Nat:=(bs.map fun b=>b.2.length).sum
def goOnF (f:FSt) (p:List Nat):Bool:=decide ((hdC p).c = f.sz) && decide (f.ep≤(hdC p).b) && decide ((hdC p).b < 18446744073709551615)
def stepF (σ:DSt) (wd:Int) (f:FSt) (s:List UInt8):Option FSt :=
 if nbE (natL s)≠0 then some f
 else if nbU (natL s) = 18446744073709551615 then none
 else if sgE (stRead σ (strU s)).1≠0 then some { f with last:=nbU (natL s) }
 else if (hdC (stRead σ (strU s)).1).a = nbU (natL s)∧((hdC (stRead σ (strU s)).1).d:Int) = wd∧goOnF f (stRead σ (strU s)).1 = true then
  some ⟨nbU (natL s),(hdC (stRead σ (strU s)).1).b,(f.sz + cntB (sgB (stRead σ (strU s)).1)) % 18446744073709551616,f.sg++[s],f.bs++sgB (stRead σ (strU s)).1⟩
 else none
def findF (σ:DSt) (wd:Int):FSt→List (List UInt8)→Option FSt
 | f,[]=>some f
 | f,s :: r=>match stepF σ wd f s with
  | none=>none
  | some g=>findF σ wd g r
def stSyncs:DSt→List (List UInt8)→Nat × DSt
 | σ,[]=>(0,σ)
 | σ,s :: r=>if (stSync σ (strU s)).1≠0 then stSync σ (strU s) else stSyncs (stSync σ (strU s)).2 r
def argOk (wd lim:Int):Bool:=decide (1≤wd∧wd≤32∧1≤lim∧lim≤1048576)
def fst0:FSt:=⟨0,0,0,[],[]⟩
structure OpA where
 e:Nat
 σ:DSt
 l:Option LSt
 bs:List (Nat × List En)
def opOf (σ:DSt) (wd lim:Int) (f:FSt):OpA :=
 if (stSyncs σ f.sg).1≠0 then ⟨(stSyncs σ f.sg).1,(stSyncs σ f.sg).2,none,[]⟩
 else if (stBegin (stSyncs σ f.sg).2 (f.last + 1) (f.ep + 1) f.sz wd).1≠0 then ⟨(stBegin (stSyncs σ f.sg).2 (f.last + 1) (f.ep + 1) f.sz wd).1,(stBegin (stSyncs σ f.sg).2 (f.last + 1) (f.ep + 1) f.sz wd).2,none,[]⟩
 else ⟨0,(stBegin (stSyncs σ f.sg).2 (f.last + 1) (f.ep + 1) f.sz wd).2,some ⟨f.last + 1,f.ep + 1,f.sz,wd,48,0,lim,f.sz,0⟩,f.bs⟩
def opD (σ:DSt) (wd lim:Int):OpA :=
 if argOk wd lim = false then ⟨1,σ,none,[]⟩
 else if σ.off then ⟨12,σ,none,[]⟩
 else match findF σ wd fst0 (nmsOf σ) with
  | none=>⟨11,σ,none,[]⟩
  | some f=>opOf σ wd lim f
def VarsG (g:Nat) (w:World):Prop:=∀ L w',Kept L w w'→(∀ x∈L,g≤x)→VarsS w'
theorem VarsG.now {g:Nat} {w:World} (h:VarsG g w):VarsS w:=h [] w (Kept.refl _ _) (by simp)
theorem VarsG.on {g:Nat} {L:List Nat} {w w':World} (h:VarsG g w) (k:Kept L w w') (hL:∀ x∈L,g≤x):VarsG g w':=by
 intro M w2 k2 hM
 exact h (L++M) w2 ((k.mono (M:=L++M) (fun x hx=>by simp [hx])).trans (k2.mono (M:=L++M) (fun x hx=>by simp [hx])) (fun x hx=>Or.inl hx)) (fun x hx=>by
  rcases List.mem_append.1 hx with hx | hx
  ·exact hL x hx
  ·exact hM x hx)
theorem VarsG.old {g:Nat} {w w':World} (h:VarsG g w) (k:Kept [] w w'):VarsG g w':=h.on k (by simp)
theorem VarsG.start {w:World} (h:VarsS w):VarsG w.heap.size w:=by
 intro L w' k hL
 exact h.old ⟨k.os,k.tape,k.output,k.size,fun j hj _=>k.block j hj (fun hm=>by have:=hL j hm; omega)⟩
theorem Ev.ge {w w':World} {B B':List Nat} {g:Nat} (h:Ev w w' B B') (hB:∀ x∈B,g≤x) (hg:g≤w.heap.size):∀ x∈B',g≤x:=by
 intro x hx
 rcases h.2 x hx with h1 | h1
 ·exact hB x h1
 ·omega
end
section
open Go Go.RowKit Go.BigFrame
section
variable {P:Program} {Q:Exit→Act→World→Prop}
theorem wp_w8 {id:Nat} {o0 o1 o2 o3 o4 o5 o6 o7:Oper} {a:Act} {w:World} (hm:P.follows .mixedOrders = true) (hs:Region.noSelect #[o0,o1,o2,o3,o4,o5,o6,o7] = true)
  (f0:Region.free .any #[o0,o1,o2,o3,o4,o5,o6,o7] #[false,false,false,false,false,false,false,false] 0 = true) (r0:(Region.ready .any #[o0,o1,o2,o3,o4,o5,o6,o7] #[false,false,false,false,false,false,false,false]).contains 0 = true)
  (f1:Region.free .any #[o0,o1,o2,o3,o4,o5,o6,o7] #[true,false,false,false,false,false,false,false] 1 = true) (r1:(Region.ready .any #[o0,o1,o2,o3,o4,o5,o6,o7] #[true,false,false,false,false,false,false,false]).contains 1 = true)
  (f2:Region.free .any #[o0,o1,o2,o3,o4,o5,o6,o7] #[true,true,false,false,false,false,false,false] 2 = true) (r2:(Region.ready .any #[o0,o1,o2,o3,o4,o5,o6,o7] #[true,true,false,false,false,false,false,false]).contains 2 = true)
  (f3:Region.free .any #[o0,o1,o2,o3,o4,o5,o6,o7] #[true,true,true,false,false,false,false,false] 3 = true) (r3:(Region.ready .any #[o0,o1,o2,o3,o4,o5,o6,o7] #[true,true,true,false,false,false,false,false]).contains 3 = true)
  (f4:Region.free .any #[o0,o1,o2,o3,o4,o5,o6,o7] #[true,true,true,true,false,false,false,false] 4 = true) (r4:(Region.ready .any #[o0,o1,o2,o3,o4,o5,o6,o7] #[true,true,true,true,false,false,false,false]).contains 4 = true)
  (q_:Region.ready .any #[o0,o1,o2,o3,o4,o5,o6,o7] #[true,true,true,true,true,false,false,false] = [5])
  (q5_:Region.ready .any #[o0,o1,o2,o3,o4,o5,o6,o7] #[true,true,true,true,true,true,false,false] = [6])
  (f5_6_7:Region.free .any #[o0,o1,o2,o3,o4,o5,o6,o7] #[true,true,true,true,true,true,true,false] 7 = true) (r5_6_7:(Region.ready .any #[o0,o1,o2,o3,o4,o5,o6,o7] #[true,true,true,true,true,true,true,false]).contains 7 = true)
  (q5_6_:Region.ready .any #[o0,o1,o2,o3,o4,o5,o6,o7] #[true,true,true,true,true,true,true,true] = [])
  (g5:o5.guard = none)    (g6:o6.guard = none)
  (v0 v1 v2 v3 v4:Value) (A0 A1 A2 A3 A4:Act)
  (S:World→Prop)
  (I_:World→Prop)
  (I5_:Value→World→Prop)
  (I5_6_:Value→Value→World→Prop)
  (v7:Value→Value)
  (p0:a.put o0.dst v0 = A0) (hy0:YieldsIf P #[o0,o1,o2,o3,o4,o5,o6,o7] S o0 v0 a)
  (p1:A0.put o1.dst v1 = A1) (hy1:YieldsIf P #[o0,o1,o2,o3,o4,o5,o6,o7] S o1 v1 A0)
  (p2:A1.put o2.dst v2 = A2) (hy2:YieldsIf P #[o0,o1,o2,o3,o4,o5,o6,o7] S o2 v2 A1)
  (p3:A2.put o3.dst v3 = A3) (hy3:YieldsIf P #[o0,o1,o2,o3,o4,o5,o6,o7] S o3 v3 A2)
  (p4:A3.put o4.dst v4 = A4) (hy4:YieldsIf P #[o0,o1,o2,o3,o4,o5,o6,o7] S o4 v4 A3)
  (i0:I_ w.drew)
  (hIS:(∀ w',I_  w'→S w')∧(∀ (u5:Value) w',I5_ u5 w'→S w')∧(∀ (u5 u6:Value) w',I5_6_ u5 u6 w'→S w'))
  (s_5:∀ w',I_  w'→∀ K:Act→World→Prop,(∀ (u5:Value) w2,I5_ u5 w2→K (A4.put o5.dst u5) w2)→o5.wp P A4 w' K (NoPanic Q))
  (s5_6:∀ (u5:Value) w',I5_ u5 w'→∀ K:Act→World→Prop,(∀ (u6:Value) w2,I5_6_ u5 u6 w2→K ((A4.put o5.dst u5).put o6.dst u6) w2)→o6.wp P (A4.put o5.dst u5) w' K (NoPanic Q))
  (y5_6_7:∀ (u5 u6:Value) w',I5_6_ u5 u6 w'→YieldsIf P #[o0,o1,o2,o3,o4,o5,o6,o7] S o7 (v7 u6) ((A4.put o5.dst u5).put o6.dst u6))
  (h:∀ (u5 u6:Value) w',I5_6_ u5 u6 w'→Q .normal (((A4.put o5.dst u5).put o6.dst u6).put o7.dst (v7 u6)) w') :
  (Code.region id #[o0,o1,o2,o3,o4,o5,o6,o7] true).wp P Q a w:=by
 subst p0 p1 p2 p3 p4
 obtain ⟨z_,z5_,z5_6_⟩:=hIS
 refine wp_region_noPanic ?_
 refine wp_region_held_drew (S:=S) hm (z_ _ i0) (fun hH=>?_)
 show wpAnyH P .any #[o0,o1,o2,o3,o4,o5,o6,o7] (NoPanic Q) S 8 #[false,false,false,false,false,false,false,false] a w.drew
 refine wpAnyH_take (i:=0) (oi:=o0) rfl hs f0 r0 (fun _ _ _ h=>h) hy0 hH ?_
 refine wpAnyH_take (i:=1) (oi:=o1) rfl hs f1 r1 (fun _ _ _ h=>h) hy1 hH ?_
 refine wpAnyH_take (i:=2) (oi:=o2) rfl hs f2 r2 (fun _ _ _ h=>h) hy2 hH ?_
 refine wpAnyH_take (i:=3) (oi:=o3) rfl hs f3 r3 (fun _ _ _ h=>h) hy3 hH ?_
 refine wpAnyH_take (i:=4) (oi:=o4) rfl hs f4 r4 (fun _ _ _ h=>h) hy4 hH ?_
 generalize (((((a.put o0.dst v0).put o1.dst v1).put o2.dst v2).put o3.dst v3).put o4.dst v4) = B at *
 have wa5:∀ y,Region.wanted o5 y = true:=fun y=>by unfold Region.wanted; rw [g5]
 have wa6:∀ y,Region.wanted o6 y = true:=fun y=>by unfold Region.wanted; rw [g6]
 have t5_6_:∀ (u5 u6:Value) w',I5_6_ u5 u6 w'→wpAnyH P .any #[o0,o1,o2,o3,o4,o5,o6,o7] (NoPanic Q) S 0 #[true,true,true,true,true,true,true,true] (((B.put o5.dst u5).put o6.dst u6).put o7.dst (v7 u6)) w':=by
  intro u5 u6 w0 i0
  exact ⟨q5_6_,NoPanic.normal (h u5 u6 w0 i0)⟩
 have t5_:∀ (u5:Value) w',I5_ u5 w'→wpAnyH P .any #[o0,o1,o2,o3,o4,o5,o6,o7] (NoPanic Q) S 2 #[true,true,true,true,true,true,false,false] (B.put o5.dst u5) w':=by
  intro u5 w0 i0
  refine wpAnyH_ready (rs:=[6]) q5_ (by simp) (AllReadyH.cons (o:=o6) rfl (fun K hK=>?_) AllReadyH.nil)
  ·rw [if_pos (wa6 _)]
   refine s5_6 u5 w0 i0 K (fun u6 w1 i1=>hK.out _ _ (z5_6_ u5 u6 w1 i1) (fun _=>?_))
   clear hK
   refine wpAnyH_take (i:=7) (oi:=o7) rfl hs f5_6_7 r5_6_7 (fun _ _ _ h=>h) (y5_6_7 u5 u6 w1 i1) (z5_6_ u5 u6 w1 i1) ?_
   exact t5_6_ u5 u6 w1 i1
 have t_:∀ w',I_  w'→wpAnyH P .any #[o0,o1,o2,o3,o4,o5,o6,o7] (NoPanic Q) S 3 #[true,true,true,true,true,false,false,false] B w':=by
  intro w0 i0
  refine wpAnyH_ready (rs:=[5]) q_ (by simp) (AllReadyH.cons (o:=o5) rfl (fun K hK=>?_) AllReadyH.nil)
  ·rw [if_pos (wa5 _)]
   refine s_5  w0 i0 K (fun u5 w1 i1=>hK.out _ _ (z5_ u5 w1 i1) (fun _=>?_))
   clear hK
   exact t5_ u5 w1 i1
 exact t_ w.drew i0
theorem wp_w9 {id:Nat} {o0 o1 o2 o3 o4 o5 o6 o7 o8:Oper} {a:Act} {w:World} (hm:P.follows .mixedOrders = true) (hs:Region.noSelect #[o0,o1,o2,o3,o4,o5,o6,o7,o8] = true)
  (f0:Region.free .any #[o0,o1,o2,o3,o4,o5,o6,o7,o8] #[false,false,false,false,false,false,false,false,false] 0 = true) (r0:(Region.ready .any #[o0,o1,o2,o3,o4,o5,o6,o7,o8] #[false,false,false,false,false,false,false,false,false]).contains 0 = true)
  (f1:Region.free .any #[o0,o1,o2,o3,o4,o5,o6,o7,o8] #[true,false,false,false,false,false,false,false,false] 1 = true) (r1:(Region.ready .any #[o0,o1,o2,o3,o4,o5,o6,o7,o8] #[true,false,false,false,false,false,false,false,false]).contains 1 = true)
  (f2:Region.free .any #[o0,o1,o2,o3,o4,o5,o6,o7,o8] #[true,true,false,false,false,false,false,false,false] 2 = true) (r2:(Region.ready .any #[o0,o1,o2,o3,o4,o5,o6,o7,o8] #[true,true,false,false,false,false,false,false,false]).contains 2 = true)
  (f3:Region.free .any #[o0,o1,o2,o3,o4,o5,o6,o7,o8] #[true,true,true,false,false,false,false,false,false] 3 = true) (r3:(Region.ready .any #[o0,o1,o2,o3,o4,o5,o6,o7,o8] #[true,true,true,false,false,false,false,false,false]).contains 3 = true)
  (f4:Region.free .any #[o0,o1,o2,o3,o4,o5,o6,o7,o8] #[true,true,true,true,false,false,false,false,false] 4 = true) (r4:(Region.ready .any #[o0,o1,o2,o3,o4,o5,o6,o7,o8] #[true,true,true,true,false,false,false,false,false]).contains 4 = true)
  (f6:Region.free .any #[o0,o1,o2,o3,o4,o5,o6,o7,o8] #[true,true,true,true,true,false,false,false,false] 6 = true) (r6:(Region.ready .any #[o0,o1,o2,o3,o4,o5,o6,o7,o8] #[true,true,true,true,true,false,false,false,false]).contains 6 = true)
  (q_:Region.ready .any #[o0,o1,o2,o3,o4,o5,o6,o7,o8] #[true,true,true,true,true,false,true,false,false] = [5])
  (q5_:Region.ready .any #[o0,o1,o2,o3,o4,o5,o6,o7,o8] #[true,true,true,true,true,true,true,false,false] = [7])
  (f5_7_8:Region.free .any #[o0,o1,o2,o3,o4,o5,o6,o7,o8] #[true,true,true,true,true,true,true,true,false] 8 = true) (r5_7_8:(Region.ready .any #[o0,o1,o2,o3,o4,o5,o6,o7,o8] #[true,true,true,true,true,true,true,true,false]).contains 8 = true)
  (q5_7_:Region.ready .any #[o0,o1,o2,o3,o4,o5,o6,o7,o8] #[true,true,true,true,true,true,true,true,true] = [])
  (g5:o5.guard = none)    (g7:o7.guard = none)
  (v0 v1 v2 v3 v4 v6:Value) (A0 A1 A2 A3 A4 A5:Act)
  (S:World→Prop)
  (I_:World→Prop)
  (I5_:Value→World→Prop)
  (I5_7_:Value→Value→World→Prop)
  (v8:Value→Value)
  (p0:a.put o0.dst v0 = A0) (hy0:YieldsIf P #[o0,o1,o2,o3,o4,o5,o6,o7,o8] S o0 v0 a)
  (p1:A0.put o1.dst v1 = A1) (hy1:YieldsIf P #[o0,o1,o2,o3,o4,o5,o6,o7,o8] S o1 v1 A0)
  (p2:A1.put o2.dst v2 = A2) (hy2:YieldsIf P #[o0,o1,o2,o3,o4,o5,o6,o7,o8] S o2 v2 A1)
  (p3:A2.put o3.dst v3 = A3) (hy3:YieldsIf P #[o0,o1,o2,o3,o4,o5,o6,o7,o8] S o3 v3 A2)
  (p4:A3.put o4.dst v4 = A4) (hy4:YieldsIf P #[o0,o1,o2,o3,o4,o5,o6,o7,o8] S o4 v4 A3)
  (p6:A4.put o6.dst v6 = A5) (hy6:YieldsIf P #[o0,o1,o2,o3,o4,o5,o6,o7,o8] S o6 v6 A4)
  (i0:I_ w.drew)
  (hIS:(∀ w',I_  w'→S w')∧(∀ (u5:Value) w',I5_ u5 w'→S w')∧(∀ (u5 u7:Value) w',I5_7_ u5 u7 w'→S w'))
  (s_5:∀ w',I_  w'→∀ K:Act→World→Prop,(∀ (u5:Value) w2,I5_ u5 w2→K (A5.put o5.dst u5) w2)→o5.wp P A5 w' K (NoPanic Q))
  (s5_7:∀ (u5:Value) w',I5_ u5 w'→∀ K:Act→World→Prop,(∀ (u7:Value) w2,I5_7_ u5 u7 w2→K ((A5.put o5.dst u5).put o7.dst u7) w2)→o7.wp P (A5.put o5.dst u5) w' K (NoPanic Q))
  (y5_7_8:∀ (u5 u7:Value) w',I5_7_ u5 u7 w'→YieldsIf P #[o0,o1,o2,o3,o4,o5,o6,o7,o8] S o8 (v8 u7) ((A5.put o5.dst u5).put o7.dst u7))
  (h:∀ (u5 u7:Value) w',I5_7_ u5 u7 w'→Q .normal (((A5.put o5.dst u5).put o7.dst u7).put o8.dst (v8 u7)) w') :
  (Code.region id #[o0,o1,o2,o3,o4,o5,o6,o7,o8] true).wp P Q a w:=by
 subst p0 p1 p2 p3 p4 p6
 obtain ⟨z_,z5_,z5_7_⟩:=hIS
 refine wp_region_noPanic ?_
 refine wp_region_held_drew (S:=S) hm (z_ _ i0) (fun hH=>?_)
 show wpAnyH P .any #[o0,o1,o2,o3,o4,o5,o6,o7,o8] (NoPanic Q) S 9 #[false,false,false,false,false,false,false,false,false] a w.drew
 refine wpAnyH_take (i:=0) (oi:=o0) rfl hs f0 r0 (fun _ _ _ h=>h) hy0 hH ?_
 refine wpAnyH_take (i:=1) (oi:=o1) rfl hs f1 r1 (fun _ _ _ h=>h) hy1 hH ?_
 refine wpAnyH_take (i:=2) (oi:=o2) rfl hs f2 r2 (fun _ _ _ h=>h) hy2 hH ?_
 refine wpAnyH_take (i:=3) (oi:=o3) rfl hs f3 r3 (fun _ _ _ h=>h) hy3 hH ?_
 refine wpAnyH_take (i:=4) (oi:=o4) rfl hs f4 r4 (fun _ _ _ h=>h) hy4 hH ?_
 refine wpAnyH_take (i:=6) (oi:=o6) rfl hs f6 r6 (fun _ _ _ h=>h) hy6 hH ?_
 generalize ((((((a.put o0.dst v0).put o1.dst v1).put o2.dst v2).put o3.dst v3).put o4.dst v4).put o6.dst v6) = B at *
 have wa5:∀ y,Region.wanted o5 y = true:=fun y=>by unfold Region.wanted; rw [g5]
 have wa7:∀ y,Region.wanted o7 y = true:=fun y=>by unfold Region.wanted; rw [g7]
 have t5_7_:∀ (u5 u7:Value) w',I5_7_ u5 u7 w'→wpAnyH P .any #[o0,o1,o2,o3,o4,o5,o6,o7,o8] (NoPanic Q) S 0 #[true,true,true,true,true,true,true,true,true] (((B.put o5.dst u5).put o7.dst u7).put o8.dst (v8 u7)) w':=by
  intro u5 u7 w0 i0
  exact ⟨q5_7_,NoPanic.normal (h u5 u7 w0 i0)⟩
 have t5_:∀ (u5:Value) w',I5_ u5 w'→wpAnyH P .any #[o0,o1,o2,o3,o4,o5,o6,o7,o8] (NoPanic Q) S 2 #[true,true,true,true,true,true,true,false,false] (B.put o5.dst u5) w':=by
  intro u5 w0 i0
  refine wpAnyH_ready (rs:=[7]) q5_ (by simp) (AllReadyH.cons (o:=o7) rfl (fun K hK=>?_) AllReadyH.nil)
  ·rw [if_pos (wa7 _)]
   refine s5_7 u5 w0 i0 K (fun u7 w1 i1=>hK.out _ _ (z5_7_ u5 u7 w1 i1) (fun _=>?_))
   clear hK
   refine wpAnyH_take (i:=8) (oi:=o8) rfl hs f5_7_8 r5_7_8 (fun _ _ _ h=>h) (y5_7_8 u5 u7 w1 i1) (z5_7_ u5 u7 w1 i1) ?_
   exact t5_7_ u5 u7 w1 i1
 have t_:∀ w',I_  w'→wpAnyH P .any #[o0,o1,o2,o3,o4,o5,o6,o7,o8] (NoPanic Q) S 3 #[true,true,true,true,true,false,true,false,false] B w':=by
  intro w0 i0
  refine wpAnyH_ready (rs:=[5]) q_ (by simp) (AllReadyH.cons (o:=o5) rfl (fun K hK=>?_) AllReadyH.nil)
  ·rw [if_pos (wa5 _)]
   refine s_5  w0 i0 K (fun u5 w1 i1=>hK.out _ _ (z5_ u5 w1 i1) (fun _=>?_))
   clear hK
   exact t5_ u5 w1 i1
 exact t_ w.drew i0
theorem wp_w10 {id:Nat} {o0 o1 o2 o3 o4 o5 o6 o7 o8 o9:Oper} {a:Act} {w:World} (hm:P.follows .mixedOrders = true) (hs:Region.noSelect #[o0,o1,o2,o3,o4,o5,o6,o7,o8,o9] = true)
  (f0:Region.free .any #[o0,o1,o2,o3,o4,o5,o6,o7,o8,o9] #[false,false,false,false,false,false,false,false,false,false] 0 = true) (r0:(Region.ready .any #[o0,o1,o2,o3,o4,o5,o6,o7,o8,o9] #[false,false,false,false,false,false,false,false,false,false]).contains 0 = true)
  (f1:Region.free .any #[o0,o1,o2,o3,o4,o5,o6,o7,o8,o9] #[true,false,false,false,false,false,false,false,false,false] 1 = true) (r1:(Region.ready .any #[o0,o1,o2,o3,o4,o5,o6,o7,o8,o9] #[true,false,false,false,false,false,false,false,false,false]).contains 1 = true)
  (f2:Region.free .any #[o0,o1,o2,o3,o4,o5,o6,o7,o8,o9] #[true,true,false,false,false,false,false,false,false,false] 2 = true) (r2:(Region.ready .any #[o0,o1,o2,o3,o4,o5,o6,o7,o8,o9] #[true,true,false,false,false,false,false,false,false,false]).contains 2 = true)
  (f3:Region.free .any #[o0,o1,o2,o3,o4,o5,o6,o7,o8,o9] #[true,true,true,false,false,false,false,false,false,false] 3 = true) (r3:(Region.ready .any #[o0,o1,o2,o3,o4,o5,o6,o7,o8,o9] #[true,true,true,false,false,false,false,false,false,false]).contains 3 = true)
  (f4:Region.free .any #[o0,o1,o2,o3,o4,o5,o6,o7,o8,o9] #[true,true,true,true,false,false,false,false,false,false] 4 = true) (r4:(Region.ready .any #[o0,o1,o2,o3,o4,o5,o6,o7,o8,o9] #[true,true,true,true,false,false,false,false,false,false]).contains 4 = true)
  (f5:Region.free .any #[o0,o1,o2,o3,o4,o5,o6,o7,o8,o9] #[true,true,true,true,true,false,false,false,false,false] 5 = true) (r5:(Region.ready .any #[o0,o1,o2,o3,o4,o5,o6,o7,o8,o9] #[true,true,true,true,true,false,false,false,false,false]).contains 5 = true)
  (f6:Region.free .any #[o0,o1,o2,o3,o4,o5,o6,o7,o8,o9] #[true,true,true,true,true,true,false,false,false,false] 6 = true) (r6:(Region.ready .any #[o0,o1,o2,o3,o4,o5,o6,o7,o8,o9] #[true,true,true,true,true,true,false,false,false,false]).contains 6 = true)
  (q_:Region.ready .any #[o0,o1,o2,o3,o4,o5,o6,o7,o8,o9] #[true,true,true,true,true,true,true,false,false,false] = [7,8])
  (q7_:Region.ready .any #[o0,o1,o2,o3,o4,o5,o6,o7,o8,o9] #[true,true,true,true,true,true,true,true,false,false] = [8])
  (q8_:Region.ready .any #[o0,o1,o2,o3,o4,o5,o6,o7,o8,o9] #[true,true,true,true,true,true,true,false,true,false] = [7])
  (q7_8_:Region.ready .any #[o0,o1,o2,o3,o4,o5,o6,o7,o8,o9] #[true,true,true,true,true,true,true,true,true,false] = [9])
  (q7_8_9_:Region.ready .any #[o0,o1,o2,o3,o4,o5,o6,o7,o8,o9] #[true,true,true,true,true,true,true,true,true,true] = [])
  (g7:o7.guard = none)    (g8:o8.guard = none)    (g9:o9.guard = none)
  (ne8_7:∀ d,o8.dst = some d→o7.dst≠some d)
  (v0 v1 v2 v3 v4 v5 v6:Value) (A0 A1 A2 A3 A4 A5 A6:Act)
  (S:World→Prop)
  (I_:World→Prop)
  (I7_:Value→World→Prop)
  (I8_:Value→World→Prop)
  (I7_8_:Value→Value→World→Prop)
  (I7_8_9_:Value→Value→Value→World→Prop)
  (p0:a.put o0.dst v0 = A0) (hy0:YieldsIf P #[o0,o1,o2,o3,o4,o5,o6,o7,o8,o9] S o0 v0 a)
  (p1:A0.put o1.dst v1 = A1) (hy1:YieldsIf P #[o0,o1,o2,o3,o4,o5,o6,o7,o8,o9] S o1 v1 A0)
  (p2:A1.put o2.dst v2 = A2) (hy2:YieldsIf P #[o0,o1,o2,o3,o4,o5,o6,o7,o8,o9] S o2 v2 A1)
  (p3:A2.put o3.dst v3 = A3) (hy3:YieldsIf P #[o0,o1,o2,o3,o4,o5,o6,o7,o8,o9] S o3 v3 A2)
  (p4:A3.put o4.dst v4 = A4) (hy4:YieldsIf P #[o0,o1,o2,o3,o4,o5,o6,o7,o8,o9] S o4 v4 A3)
  (p5:A4.put o5.dst v5 = A5) (hy5:YieldsIf P #[o0,o1,o2,o3,o4,o5,o6,o7,o8,o9] S o5 v5 A4)
  (p6:A5.put o6.dst v6 = A6) (hy6:YieldsIf P #[o0,o1,o2,o3,o4,o5,o6,o7,o8,o9] S o6 v6 A5)
  (i0:I_ w.drew)
  (hIS:(∀ w',I_  w'→S w')∧(∀ (u7:Value) w',I7_ u7 w'→S w')∧(∀ (u8:Value) w',I8_ u8 w'→S w')∧(∀ (u7 u8:Value) w',I7_8_ u7 u8 w'→S w')∧(∀ (u7 u8 u9:Value) w',I7_8_9_ u7 u8 u9 w'→S w'))
  (s_7:∀ w',I_  w'→∀ K:Act→World→Prop,(∀ (u7:Value) w2,I7_ u7 w2→K (A6.put o7.dst u7) w2)→o7.wp P A6 w' K (NoPanic Q))
  (s_8:∀ w',I_  w'→∀ K:Act→World→Prop,(∀ (u8:Value) w2,I8_ u8 w2→K (A6.put o8.dst u8) w2)→o8.wp P A6 w' K (NoPanic Q))
  (s7_8:∀ (u7:Value) w',I7_ u7 w'→∀ K:Act→World→Prop,(∀ (u8:Value) w2,I7_8_ u7 u8 w2→K ((A6.put o7.dst u7).put o8.dst u8) w2)→o8.wp P (A6.put o7.dst u7) w' K (NoPanic Q))
  (s8_7:∀ (u8:Value) w',I8_ u8 w'→∀ K:Act→World→Prop,(∀ (u7:Value) w2,I7_8_ u7 u8 w2→K ((A6.put o8.dst u8).put o7.dst u7) w2)→o7.wp P (A6.put o8.dst u8) w' K (NoPanic Q))
  (s7_8_9:∀ (u7 u8:Value) w',I7_8_ u7 u8 w'→∀ K:Act→World→Prop,(∀ (u9:Value) w2,I7_8_9_ u7 u8 u9 w2→K (((A6.put o7.dst u7).put o8.dst u8).put o9.dst u9) w2)→o9.wp P ((A6.put o7.dst u7).put o8.dst u8) w' K (NoPanic Q))
  (h:∀ (u7 u8 u9:Value) w',I7_8_9_ u7 u8 u9 w'→Q .normal (((A6.put o7.dst u7).put o8.dst u8).put o9.dst u9) w') :
  (Code.region id #[o0,o1,o2,o3,o4,o5,o6,o7,o8,o9] true).wp P Q a w:=by
 subst p0 p1 p2 p3 p4 p5 p6
 obtain ⟨z_,z7_,z8_,z7_8_,z7_8_9_⟩:=hIS
 refine wp_region_noPanic ?_
 refine wp_region_held_drew (S:=S) hm (z_ _ i0) (fun hH=>?_)
 show wpAnyH P .any #[o0,o1,o2,o3,o4,o5,o6,o7,o8,o9] (NoPanic Q) S 10 #[false,false,false,false,false,false,false,false,false,false] a w.drew
 refine wpAnyH_take (i:=0) (oi:=o0) rfl hs f0 r0 (fun _ _ _ h=>h) hy0 hH ?_
 refine wpAnyH_take (i:=1) (oi:=o1) rfl hs f1 r1 (fun _ _ _ h=>h) hy1 hH ?_
 refine wpAnyH_take (i:=2) (oi:=o2) rfl hs f2 r2 (fun _ _ _ h=>h) hy2 hH ?_
 refine wpAnyH_take (i:=3) (oi:=o3) rfl hs f3 r3 (fun _ _ _ h=>h) hy3 hH ?_
 refine wpAnyH_take (i:=4) (oi:=o4) rfl hs f4 r4 (fun _ _ _ h=>h) hy4 hH ?_
 refine wpAnyH_take (i:=5) (oi:=o5) rfl hs f5 r5 (fun _ _ _ h=>h) hy5 hH ?_
 refine wpAnyH_take (i:=6) (oi:=o6) rfl hs f6 r6 (fun _ _ _ h=>h) hy6 hH ?_
 generalize (((((((a.put o0.dst v0).put o1.dst v1).put o2.dst v2).put o3.dst v3).put o4.dst v4).put o5.dst v5).put o6.dst v6) = B at *
 have wa7:∀ y,Region.wanted o7 y = true:=fun y=>by unfold Region.wanted; rw [g7]
 have wa8:∀ y,Region.wanted o8 y = true:=fun y=>by unfold Region.wanted; rw [g8]
 have wa9:∀ y,Region.wanted o9 y = true:=fun y=>by unfold Region.wanted; rw [g9]
 have t7_8_9_:∀ (u7 u8 u9:Value) w',I7_8_9_ u7 u8 u9 w'→wpAnyH P .any #[o0,o1,o2,o3,o4,o5,o6,o7,o8,o9] (NoPanic Q) S 0 #[true,true,true,true,true,true,true,true,true,true] (((B.put o7.dst u7).put o8.dst u8).put o9.dst u9) w':=by
  intro u7 u8 u9 w0 i0
  exact ⟨q7_8_9_,NoPanic.normal (h u7 u8 u9 w0 i0)⟩
 have t7_8_:∀ (u7 u8:Value) w',I7_8_ u7 u8 w'→wpAnyH P .any #[o0,o1,o2,o3,o4,o5,o6,o7,o8,o9] (NoPanic Q) S 1 #[true,true,true,true,true,true,true,true,true,false] ((B.put o7.dst u7).put o8.dst u8) w':=by
  intro u7 u8 w0 i0
  refine wpAnyH_ready (rs:=[9]) q7_8_ (by simp) (AllReadyH.cons (o:=o9) rfl (fun K hK=>?_) AllReadyH.nil)
  ·rw [if_pos (wa9 _)]
   refine s7_8_9 u7 u8 w0 i0 K (fun u9 w1 i1=>hK.out _ _ (z7_8_9_ u7 u8 u9 w1 i1) (fun _=>?_))
   clear hK
   exact t7_8_9_ u7 u8 u9 w1 i1
 have t8_:∀ (u8:Value) w',I8_ u8 w'→wpAnyH P .any #[o0,o1,o2,o3,o4,o5,o6,o7,o8,o9] (NoPanic Q) S 2 #[true,true,true,true,true,true,true,false,true,false] (B.put o8.dst u8) w':=by
  intro u8 w0 i0
  refine wpAnyH_ready (rs:=[7]) q8_ (by simp) (AllReadyH.cons (o:=o7) rfl (fun K hK=>?_) AllReadyH.nil)
  ·rw [if_pos (wa7 _)]
   refine s8_7 u8 w0 i0 K (fun u7 w1 i1=>hK.out _ _ (z7_8_ u7 u8 w1 i1) (fun _=>?_))
   clear hK
   rw [Act.put_comm _ _ _ ne8_7]
   exact t7_8_ u7 u8 w1 i1
 have t7_:∀ (u7:Value) w',I7_ u7 w'→wpAnyH P .any #[o0,o1,o2,o3,o4,o5,o6,o7,o8,o9] (NoPanic Q) S 2 #[true,true,true,true,true,true,true,true,false,false] (B.put o7.dst u7) w':=by
  intro u7 w0 i0
  refine wpAnyH_ready (rs:=[8]) q7_ (by simp) (AllReadyH.cons (o:=o8) rfl (fun K hK=>?_) AllReadyH.nil)
  ·rw [if_pos (wa8 _)]
   refine s7_8 u7 w0 i0 K (fun u8 w1 i1=>hK.out _ _ (z7_8_ u7 u8 w1 i1) (fun _=>?_))
   clear hK
   exact t7_8_ u7 u8 w1 i1
 have t_:∀ w',I_  w'→wpAnyH P .any #[o0,o1,o2,o3,o4,o5,o6,o7,o8,o9] (NoPanic Q) S 3 #[true,true,true,true,true,true,true,false,false,false] B w':=by
  intro w0 i0
  refine wpAnyH_ready (rs:=[7,8]) q_ (by simp) (AllReadyH.cons (o:=o7) rfl (fun K hK=>?_) (AllReadyH.cons (o:=o8) rfl (fun K hK=>?_) AllReadyH.nil))
  ·rw [if_pos (wa7 _)]
   refine s_7  w0 i0 K (fun u7 w1 i1=>hK.out _ _ (z7_ u7 w1 i1) (fun _=>?_))
   clear hK
   exact t7_ u7 w1 i1
  ·rw [if_pos (wa8 _)]
   refine s_8  w0 i0 K (fun u8 w1 i1=>hK.out _ _ (z8_ u8 w1 i1) (fun _=>?_))
   clear hK
   exact t8_ u8 w1 i1
 exact t_ w.drew i0
end
end
section
open Go.RowKit Go.BigFrame
theorem xa3d (u:Nat):(nmB u).size = 24:=by unfold nmB; rw [xa0m,xb4o]
theorem Ev.pre {w0 w w':World} {B B':List Nat} (k:Kept [] w0 w) (h:Ev w w' B B'):Ev w0 w' B B' :=
 ⟨(k.mono (M:=B) (by simp)).trans h.1 (fun x hx=>Or.inl hx),fun x hx=>(h.2 x hx).imp id (fun h1=>Nat.le_trans k.size h1)⟩
set_option maxHeartbeats 1000000 in
theorem xa2o (g u:Nat) (w:World) (hc:w.cell? ⟨g,1,none⟩ = some (.int .u64 (u:Int))) (hu:u < 18446744073709551616) (hv:VarsS w) :
  Calls Tryz.prog 89 #[.pointer (some ⟨g,0,none⟩)] w fun e w'=>e = .returned (.string (nmB u))∧Kept [] w w':=by
 have HV:=hide hv
 clear hv
 go_enter Tryz.func89,Tryz.ntmps89
 go_wp2_with fail
 refine Calls.mono (xa5t u w hu (uh HV)) ?_
 rintro e w1 ⟨rfl,k1⟩
 have HK:=hide k1
 clear k1
 go_wp2_with fail
 go_ret
 exact ⟨rfl,uh HK⟩
set_option maxHeartbeats 1000000 in
theorem xa2z (g u d nb ob bb:Nat) (B:List Nat) (σ:DSt) (w:World) (h0:w.cell? ⟨g,0,none⟩ = some (.pointer (some ⟨d,0,none⟩))) (h1:w.cell? ⟨g,1,none⟩ = some (.int .u64 (u:Int))) (hu:u < 18446744073709551616) (hv:VarsS w) (hD:DKf w d B nb ob bb σ) (hg:g∉B) (hn:nb≤1000000000) (hob:ob≤1000000000) :
  Calls Tryz.prog 62 #[.pointer (some ⟨g,0,none⟩)] w fun e w'=>∃ B',e = .returned (.int .i64 ((stSync σ (nmB u)).1:Nat))∧DKf w' d B' nb (ob + 1) bb (stSync σ (nmB u)).2∧Ev w w' B B':=by
 have HV:=hide hv
 have HDK:=hide hD
 have HC0:=hide (fun w' (k:Kept [] w w')=>k.cell h0 (by simp))
 have HC1:=hide (fun w' (k:Kept [] w w')=>k.cell h1 (by simp))
 clear hv hD h0 h1
 go_enter Tryz.func62,Tryz.ntmps62
 go_upto_region 1 with fail
 refine wp_w8 (by kernel_rfl) (by kernel_rfl) (by kernel_rfl) (by kernel_rfl) (by kernel_rfl) (by kernel_rfl) (by kernel_rfl) (by kernel_rfl) (by kernel_rfl) (by kernel_rfl) (by kernel_rfl) (by kernel_rfl) (by kernel_rfl) (by kernel_rfl) (by kernel_rfl) (by kernel_rfl) (by kernel_rfl) rfl rfl
  (.pointer (some ⟨g,0,none⟩)) (.pointer (some ⟨g,0,none⟩)) (.pointer (some ⟨g,0,none⟩)) (.pointer (some ⟨d,0,none⟩)) (.pointer (some ⟨g,0,none⟩)) _ _ _ _ _
  (fun w'=>w'.cell? ⟨g,0,none⟩ = some (.pointer (some ⟨d,0,none⟩)))
  (fun w'=>Kept [] w w')
  (fun u5 w'=>u5 = .string (nmB u)∧Kept [] w w')
  (fun u5 u6 w'=>w'.cell? ⟨g,0,none⟩ = some (.pointer (some ⟨d,0,none⟩))∧∃ B',u6 = .int .i64 ((stSync σ (nmB u)).1:Nat)∧DKf w' d B' nb (ob + 1) bb (stSync σ (nmB u)).2∧Ev w w' B B')
  (fun u6=>u6)
  (by simp only [Act.put,sa1,sa2,sa3]; rfl) (by exact Or.inl ⟨by rfl,fun W' hW'=>by go_simp⟩)
  (by simp only [Act.put,sa1,sa2,sa3]; rfl) (by exact Or.inl ⟨by rfl,fun W' hW'=>by go_simp⟩)
  (by simp only [Act.put,sa1,sa2,sa3]; rfl) (by exact Or.inl ⟨by rfl,fun W' hW'=>by go_simp⟩)
  (by simp only [Act.put,sa1,sa2,sa3]; rfl) (by exact Or.inl ⟨by rfl,fun W' hW'=>by go_simp⟩)
  (by simp only [Act.put,sa1,sa2,sa3]; rfl) (by exact Or.inl ⟨by rfl,fun W' hW'=>by go_simp⟩)
  (Kept.refl [] w).drew
  ⟨fun w' h=>uh HC0 w' h,fun u5 w' h=>uh HC0 w' h.2,fun u5 u6 w' h=>h.1⟩
  (by
   intro w' k K hK
   refine xa0e rfl Tryz.call89 [.pointer (some ⟨g,0,none⟩)] rfl (xa2o g u w' (uh HC1 w' k) hu ((uh HV).old k)) ?_
   rintro e w2 ⟨rfl,k2⟩
   exact ⟨_,rfl,hK _ _ ⟨rfl,k.trans k2 (by simp)⟩⟩)
  (by
   rintro u5 w' ⟨rfl,k⟩ K hK
   refine xa0e rfl Tryz.call86 [.pointer (some ⟨d,0,none⟩),.string (nmB u)] rfl (sync_F d nb ob bb B σ (nmB u) w' ((uh HDK).old k) (by rw [xa3d]; omega) hn hob) ?_
   rintro e w2 ⟨B',rfl,h9,ev⟩
   exact ⟨_,rfl,hK _ _ ⟨ev.1.cell (uh HC0 w' k) hg,B',rfl,h9,Ev.pre k ev⟩⟩)
  (by
   rintro u5 u6 w' ⟨_,B',rfl,_⟩
   exact Or.inl ⟨by rfl,fun W' hW'=>by go_simp⟩)
  ?_
 rintro u5 u6 w3 ⟨_,B',rfl,h9,ev⟩
 simp only [Act.put,sa1,sa2,sa3]
 have H9:=hide h9
 have HE:=hide ev
 clear h9 ev
 go_wp2_with fail
 go_ret
 exact ⟨B',rfl,uh H9,uh HE⟩
theorem xb5d {a b c:Nat} {z:Int} (h:wideB z = true):(ehB a b c z).length = 48:=by
 unfold ehB
 rw [if_pos h,xa3w,xb3b]
theorem thn_no {r:Nat × DSt} {f:DSt→Nat × DSt} (h:r.1≠0):thn r f = r:=by unfold thn; rw [if_neg h]
theorem xa9g {r:Nat × DSt} {f:DSt→Nat × DSt} (h:r.1 = 0):thn r f = f r.2:=by unfold thn; rw [if_pos h]
theorem xa4b {w w':World} {B B':List Nat} {g:Nat} (ev:Ev w w' B B') (h:g∉B) (hl:g < w.heap.size):g∉B':=by
 intro hm
 rcases ev.2 g hm with h1 | h1
 ·exact h h1
 ·omega
def curC (d n ep fs:Nat) (wd:Int) (b t:Int):Array Value:=#[.pointer (some ⟨d,0,none⟩),.int .u64 (n:Int),.int .u64 (ep:Int),.int .u64 (fs:Int),.int .i64 wd,.int .i64 b,.int .i64 t]
theorem xa1f {w:World} {g d n ep fs:Nat} {wd b t:Int} {ty:TypeId} (h:w.heap[g]? = some (.cells (curC d n ep fs wd b t) ty (0,0))) :
  w.cell? ⟨g,0,none⟩ = some (.pointer (some ⟨d,0,none⟩))∧w.cell? ⟨g,1,none⟩ = some (.int .u64 (n:Int))∧w.cell? ⟨g,2,none⟩ = some (.int .u64 (ep:Int))∧w.cell? ⟨g,3,none⟩ = some (.int .u64 (fs:Int))∧w.cell? ⟨g,4,none⟩ = some (.int .i64 wd)∧w.cell? ⟨g,5,none⟩ = some (.int .i64 b)∧w.cell? ⟨g,6,none⟩ = some (.int .i64 t):=by
 refine ⟨?_,?_,?_,?_,?_,?_,?_⟩ <;> rw [cell_of_row _ _ _ _ _ _ h] <;> rfl
def BegR (w w':World) (g d n ep fs:Nat) (wd:Int) (B:List Nat) (nb ob bb:Nat) (r:Nat × DSt) (B':List Nat):Prop :=
 DKf w' d B' (nb + 1) (ob + 4) (bb + 48) r.2∧Kept (g :: B) w w'∧(∀ x∈B',x∈B∨w.heap.size≤x)∧w'.heap[g]? = some (.cells (curC d n ep fs wd 48 0) 115 (0,0))
theorem BegR.mk {w w3:World} {g d n ep fs:Nat} {wd:Int} {B B3:List Nat} {nb ob bb nb3 ob3 bb3:Nat} {r:Nat × DSt} (hD:DKf w3 d B3 nb3 ob3 bb3 r.2) (h1:nb3≤nb + 1) (h2:ob3≤ob + 4) (h3:bb3≤bb + 48) (ev:Ev w w3 B B3) (hg:w.heap[g]? = some (.cells (curC d n ep fs wd 0 0) 115 (0,0))) (hgB:g∉B) :
  BegR w (w3.setCell ⟨g,5,none⟩ (.int .i64 48)) g d n ep fs wd B nb ob bb r B3:=by
 have hlt:=lt_of_block hg
 have hg3:g∉B3:=xa4b ev hgB hlt
 have k9:Kept [g] w3 (w3.setCell ⟨g,5,none⟩ (.int .i64 48)):=(Kept.refl [g] w3).setCell (p:=⟨g,5,none⟩) (.inl (by simp)) _
 refine ⟨(hD.more h1 h2 h3).kept k9 (fun x hx hm=>?_),(ev.1.mono (M:=g :: B) (fun x hx=>by simp [hx])).setCell (p:=⟨g,5,none⟩) (.inl (by simp)) _,ev.2,?_⟩
 ·simp only [List.mem_singleton] at hm
  subst hm
  exact hg3 hx
 ·rw [heap_setCell_same _ g 5 _ _ _ (ev.1.heap hg hgB)]
  rfl
set_option maxHeartbeats 4000000 in
theorem xa5a (g n ep fs d nb ob bb g0:Nat) (wd:Int) (B:List Nat) (σ:DSt) (w:World) (hg:w.heap[g]? = some (.cells (curC d n ep fs wd 0 0) 115 (0,0))) (hwd:wideB wd = true) (hn:n < 18446744073709551616) (hv:VarsG g0 w) (hB:∀ x∈B,g0≤x) (hg0:g0≤w.heap.size) (hD:DKf w d B nb ob bb σ) (hgB:g∉B) (h1:nb≤900000000) (h2:ob≤900000000) (h3:bb≤140737488340000) :
  Calls Tryz.prog 48 #[.pointer (some ⟨g,0,none⟩)] w fun e w'=>∃ B',e = .returned (.int .i64 ((stBegin σ n ep fs wd).1:Nat))∧BegR w w' g d n ep fs wd B nb ob bb (stBegin σ n ep fs wd) B':=by
 have HG:=hide hg
 have HVG:=hide hv
 have HDK:=hide hD
 have HNU:=hide hn
 have HGB:=hide hgB
 have HLT:=hide (lt_of_block hg)
 have HB:=hide hB
 have HEH:=hide (xa4a n ep fs wd w hn (by simp [wideB] at hwd; omega))
 have HPL:=hide (xb5d (a:=n) (b:=ep) (c:=fs) hwd)
 have hE:ehE wd = 0:=by simp [ehE,hwd]
 rw [hE] at HEH
 have hst0:stBegin σ n ep fs wd = thn (thn (thn (stCreate σ (nmB n)) (fun τ=>stAppend τ (nmB n) (ehB n ep fs wd))) (fun τ=>stSync τ (nmB n))) stNames:=rfl
 obtain ⟨ST,hST⟩:∃ ST,stBegin σ n ep fs wd = ST:=⟨_,rfl⟩
 rw [hST] at hst0 ⊢
 have HST:=hide hst0
 generalize hPS:ehB n ep fs wd = ps at HEH HPL HST
 clear hPS hST hst0
 obtain ⟨c0,c1,c2,c3,c4,c5,c6⟩:=xa1f hg
 clear hg hv hD hn hgB hB hE hwd
 go_enter Tryz.func48,Tryz.ntmps48
 go_wp2_with fail
 refine Calls.mono (uh HEH) ?_
 rintro e w1 ⟨pv,rfl,nw,k1⟩
 obtain ⟨pg,hpv,hpg,hpc⟩:∃ pg,pv = .slice (some ⟨pg,0,none⟩) 48 48∧w.heap.size≤pg∧w1.heap[pg]? = some (.cells (ps.map u8).toArray 5 (0,0)):=by
  rcases nw.2 with ⟨h9,_⟩ | ⟨pg,h9,h8,h7⟩
  ·have:=uh HPL; rw [h9] at this; cases this
  ·rw [uh HPL] at h9; exact ⟨pg,h9,h8,h7⟩
 subst hpv
 have HPR:=hide nw.1
 have HPG:=hide hpg
 have HPL1:=hide (lt_of_block hpc)
 have HK1:=hide k1
 have HG1:=hide (k1.heap (uh HG) (by simp))
 have HV1:=hide ((uh HVG).old k1)
 have HD1:=hide ((uh HDK).old k1)
 have HC0:=hide (fun w' (k:Kept [] w1 w')=>k.cell (k1.cell c0 (by simp)) (by simp))
 have HC1:=hide (fun w' (k:Kept [] w1 w')=>k.cell (k1.cell c1 (by simp)) (by simp))
 have HV:=hide ((uh HVG).old k1).now
 clear c0 c1 c2 c3 c4 c5 c6 nw k1 hpg hpc HEH
 go_upto_region 2 with fail
 refine wp_w8 (by kernel_rfl) (by kernel_rfl) (by kernel_rfl) (by kernel_rfl) (by kernel_rfl) (by kernel_rfl) (by kernel_rfl) (by kernel_rfl) (by kernel_rfl) (by kernel_rfl) (by kernel_rfl) (by kernel_rfl) (by kernel_rfl) (by kernel_rfl) (by kernel_rfl) (by kernel_rfl) (by kernel_rfl) rfl rfl
  (.pointer (some ⟨g,0,none⟩)) (.pointer (some ⟨g,0,none⟩)) (.pointer (some ⟨g,0,none⟩)) (.pointer (some ⟨d,0,none⟩)) (.pointer (some ⟨g,0,none⟩)) _ _ _ _ _
  (fun w'=>w'.cell? ⟨g,0,none⟩ = some (.pointer (some ⟨d,0,none⟩)))
  (fun w'=>Kept [] w1 w')
  (fun u5 w'=>u5 = .string (nmB (n))∧Kept [] w1 w')
  (fun u5 u6 w'=>w'.cell? ⟨g,0,none⟩ = some (.pointer (some ⟨d,0,none⟩))∧∃ B',u6 = .int .i64 ((stCreate σ (nmB n)).1:Nat)∧DKf w' d B' (nb + 1) (ob + 1) bb (stCreate σ (nmB n)).2∧Ev w1 w' B B')
  (fun x=>x)
  (by simp only [Act.put,sa1,sa2,sa3]; rfl) (by exact Or.inl ⟨by rfl,fun W' hW'=>by go_simp⟩)
  (by simp only [Act.put,sa1,sa2,sa3]; rfl) (by exact Or.inl ⟨by rfl,fun W' hW'=>by go_simp⟩)
  (by simp only [Act.put,sa1,sa2,sa3]; rfl) (by exact Or.inl ⟨by rfl,fun W' hW'=>by go_simp⟩)
  (by simp only [Act.put,sa1,sa2,sa3]; rfl) (by exact Or.inl ⟨by rfl,fun W' hW'=>by go_simp⟩)
  (by simp only [Act.put,sa1,sa2,sa3]; rfl) (by exact Or.inl ⟨by rfl,fun W' hW'=>by go_simp⟩)
  (Kept.refl [] w1).drew
  ⟨fun w' h=>uh HC0 w' h,fun u5 w' h=>uh HC0 w' h.2,fun u5 u6 w' h=>h.1⟩
  (by
   intro w' k K hK
   refine xa0e rfl Tryz.call89 [.pointer (some ⟨g,0,none⟩)] rfl (xa2o g (n) w' (uh HC1 w' k) (uh HNU) ((uh HV).old k)) ?_
   rintro e w2 ⟨rfl,k2⟩
   exact ⟨_,rfl,hK _ _ ⟨rfl,k.trans k2 (by simp)⟩⟩)
  (by
   rintro u5 w' ⟨rfl,k⟩ K hK
   refine xa0e rfl Tryz.call88 [.pointer (some ⟨d,0,none⟩),.string (nmB (n))] rfl (xb5h d nb ob bb B σ (nmB n) w' ((uh HD1).old k) (by rw [xa3d]; omega) (by omega) (by omega)) ?_
   rintro e w2 ⟨B',rfl,h9,ev⟩
   exact ⟨_,rfl,hK _ _ ⟨ev.1.cell (uh HC0 w' k) (uh HGB),B',rfl,h9,Ev.pre k ev⟩⟩)
  (by
   rintro u5 u6 w' ⟨_,B',rfl,_⟩
   exact Or.inl ⟨by rfl,fun W' hW'=>by go_simp⟩)
  ?_
 rintro u5 u6 w3 ⟨_,B3,rfl,h9,ev⟩
 simp only [Act.put,sa1,sa2,sa3]
 have HE3:=hide (Ev.pre (uh HK1) ev)
 have HD3:=hide h9
 have HK3:=hide ev.1
 have HN3:=hide ev.2
 clear h9 ev HC0 HC1 HV
 have HG3:=hide ((uh HK3).heap (uh HG1) (uh HGB))
 obtain ⟨R1,hR1⟩:∃ R1,stCreate σ (nmB n) = R1:=⟨_,rfl⟩
 rw [hR1] at HD3 HST ⊢
 obtain ⟨E1,τ1⟩:=R1
 dsimp only at *
 obtain ⟨c0,c1,c2,c3,c4,c5,c6⟩:=xa1f (uh HG3)
 have hfz:=frozen_of_row _ _ 5 _ _ (uh HG3)
 by_cases he1:E1 = 0
 ·subst he1
  have HV:=hide ((uh HV1).on (uh HK3) (uh HB)).now
  have HGB3:=hide (xa4b (uh HE3) (uh HGB) (uh HLT))
  have HC0:=hide (fun w' (k:Kept [] w3 w')=>k.cell c0 (by simp))
  have HC1:=hide (fun w' (k:Kept [] w3 w')=>k.cell c1 (by simp))
  have HPR3:=hide ((uh HPR).kept (uh HK3) (fun x hx hm=>by simp only [blk,List.mem_singleton] at hx; subst hx; have:=(uh HDK).lt _ hm; have:=uh HPG; omega))
  have HPB:=hide (fun x hx hm=>by
   have hx2:=(xa2t hx).1
   simp only [blk,List.mem_singleton] at hx2
   subst hx2
   rcases uh HN3 _ hm with h7 | h7
   ·have:=(uh HDK).lt _ h7; have:=uh HPG; omega
   ·have:=uh HPL1; omega:∀ x∈zblk (.slice (some ⟨pg,0,none⟩) 48 48) ps,x∉B3)
  clear c0 c1 c2 c3 c4 c5 c6 hfz
  go_upto_region 4 with fail
  refine wp_w9 (by kernel_rfl) (by kernel_rfl) (by kernel_rfl) (by kernel_rfl) (by kernel_rfl) (by kernel_rfl) (by kernel_rfl) (by kernel_rfl) (by kernel_rfl) (by kernel_rfl) (by kernel_rfl) (by kernel_rfl) (by kernel_rfl) (by kernel_rfl) (by kernel_rfl) (by kernel_rfl) (by kernel_rfl) (by kernel_rfl) (by kernel_rfl) rfl rfl
   (.pointer (some ⟨g,0,none⟩)) (.pointer (some ⟨g,0,none⟩)) (.pointer (some ⟨g,0,none⟩)) (.pointer (some ⟨d,0,none⟩)) (.pointer (some ⟨g,0,none⟩)) (.slice (some ⟨pg,0,none⟩) 48 48) _ _ _ _ _ _
   (fun w'=>w'.cell? ⟨g,0,none⟩ = some (.pointer (some ⟨d,0,none⟩)))
   (fun w'=>Kept [] w3 w')
   (fun u5 w'=>u5 = .string (nmB (n))∧Kept [] w3 w')
   (fun u5 u7 w'=>w'.cell? ⟨g,0,none⟩ = some (.pointer (some ⟨d,0,none⟩))∧∃ B',u7 = .int .i64 ((stAppend τ1 (nmB n) ps).1:Nat)∧DKf w' d B' (nb + 1) (ob + 1 + 1) (bb + ps.length) (stAppend τ1 (nmB n) ps).2∧Ev w3 w' B3 B')
   (fun x=>x)
   (by simp only [Act.put,sa1,sa2,sa3]; rfl) (by exact Or.inl ⟨by rfl,fun W' hW'=>by go_simp⟩)
   (by simp only [Act.put,sa1,sa2,sa3]; rfl) (by exact Or.inl ⟨by rfl,fun W' hW'=>by go_simp⟩)
   (by simp only [Act.put,sa1,sa2,sa3]; rfl) (by exact Or.inl ⟨by rfl,fun W' hW'=>by go_simp⟩)
   (by simp only [Act.put,sa1,sa2,sa3]; rfl) (by exact Or.inl ⟨by rfl,fun W' hW'=>by go_simp⟩)
   (by simp only [Act.put,sa1,sa2,sa3]; rfl) (by exact Or.inl ⟨by rfl,fun W' hW'=>by go_simp⟩)
   (by simp only [Act.put,sa1,sa2,sa3]; rfl) (by exact Or.inl ⟨by rfl,fun W' hW'=>by go_simp⟩)
   (Kept.refl [] w3).drew
   ⟨fun w' h=>uh HC0 w' h,fun u5 w' h=>uh HC0 w' h.2,fun u5 u7 w' h=>h.1⟩
   (by
    intro w' k K hK
    refine xa0e rfl Tryz.call89 [.pointer (some ⟨g,0,none⟩)] rfl (xa2o g (n) w' (uh HC1 w' k) (uh HNU) ((uh HV).old k)) ?_
    rintro e w2 ⟨rfl,k2⟩
    exact ⟨_,rfl,hK _ _ ⟨rfl,k.trans k2 (by simp)⟩⟩)
   (by
    rintro u5 w' ⟨rfl,k⟩ K hK
    refine xa0e rfl Tryz.call90 [.pointer (some ⟨d,0,none⟩),.string (nmB (n)),.slice (some ⟨pg,0,none⟩) 48 48] rfl (xb0v d (nb + 1) (ob + 1) bb B3 τ1 (nmB n) (.slice (some ⟨pg,0,none⟩) 48 48) ps w' ((uh HD3).old k) (by rw [xa3d]; omega) (by omega) (by omega) ((uh HPR3).old k (by simp)) (uh HPB) (by have:=uh HPL; omega)) ?_
    rintro e w2 ⟨B',rfl,h9,ev⟩
    exact ⟨_,rfl,hK _ _ ⟨ev.1.cell (uh HC0 w' k) (uh HGB3),B',rfl,h9,Ev.pre k ev⟩⟩)
   (by
    rintro u5 u7 w' ⟨_,B',rfl,_⟩
    exact Or.inl ⟨by rfl,fun W' hW'=>by go_simp⟩)
   ?_
  rintro u5 u7 w4 ⟨_,B4,rfl,h9,ev⟩
  simp only [Act.put,sa1,sa2,sa3]
  have HE4:=hide ((uh HE3).trans ev)
  have HD4:=hide h9
  clear h9 ev HC0 HC1 HV HPR3 HPB
  have HG4:=hide ((uh HE4).1.heap (uh HG) (uh HGB))
  rw [uh HPL] at HD4
  have HST2:=hide (show ST = thn (thn (stAppend τ1 (nmB n) ps) (fun τ=>stSync τ (nmB n))) stNames from (uh HST))
  clear HST
  obtain ⟨R2,hR2⟩:∃ R2,stAppend τ1 (nmB n) ps = R2:=⟨_,rfl⟩
  rw [hR2] at HD4 HST2 ⊢
  obtain ⟨E2,τ2⟩:=R2
  dsimp only at *
  obtain ⟨c0,c1,c2,c3,c4,c5,c6⟩:=xa1f (uh HG4)
  have hfz:=frozen_of_row _ _ 5 _ _ (uh HG4)
  by_cases he2:E2 = 0
  ·subst he2
   have HST3:=hide (show ST = thn (stSync τ2 (nmB n)) stNames from (uh HST2))
   clear HST2
   have HV:=hide ((uh HVG).on (uh HE4).1 (uh HB)).now
   have HGB4:=hide (xa4b (uh HE4) (uh HGB) (uh HLT))
   go_wp2_with fail
   refine Calls.mono (xa2z g n d (nb + 1) (ob + 1 + 1) (bb + 48) B4 τ2 w4 c0 c1 (uh HNU) (uh HV) (uh HD4) (uh HGB4) (by omega) (by omega)) ?_
   rintro e w5 ⟨B5,rfl,h9,ev⟩
   have HE5:=hide ((uh HE4).trans ev)
   have HD5:=hide h9
   clear h9 ev
   have HG5:=hide ((uh HE5).1.heap (uh HG) (uh HGB))
   obtain ⟨R3,hR3⟩:∃ R3,stSync τ2 (nmB n) = R3:=⟨_,rfl⟩
   rw [hR3] at HD5 HST3 ⊢
   obtain ⟨E3,τ3⟩:=R3
   dsimp only at *
   clear c0 c1 c2 c3 c4 c5 c6 hfz
   obtain ⟨c0,c1,c2,c3,c4,c5,c6⟩:=xa1f (uh HG5)
   have hfz:=frozen_of_row _ _ 5 _ _ (uh HG5)
   by_cases he3:E3 = 0
   ·subst he3
    have HST4:=hide (show ST = stNames τ3 from (uh HST3))
    clear HST3
    go_wp2_with fail
    refine Calls.mono (xb8i d (nb + 1) (ob + 1 + 1 + 1) (bb + 48) B5 τ3 w5 (uh HD5) (by omega) (by omega)) ?_
    rintro e w6 ⟨B6,rfl,h9,ev⟩
    have HE6:=hide ((uh HE5).trans ev)
    have HD6:=hide h9
    clear h9 ev
    have HG6:=hide ((uh HE6).1.heap (uh HG) (uh HGB))
    rw [← uh HST4] at HD6 ⊢
    clear c0 c1 c2 c3 c4 c5 c6 hfz
    have hfz:=frozen_of_row _ _ 5 _ _ (uh HG6)
    obtain ⟨c0,c1,c2,c3,c4,c5,c6⟩:=xa1f (uh HG6)
    go_wp2_with fail
    go_ret
    first | exact ⟨B6,rfl,BegR.mk (uh HD6) (by omega) (by omega) (by omega) (uh HE6) (uh HG) (uh HGB)⟩ | exact ⟨rfl,B6,BegR.mk (uh HD6) (by omega) (by omega) (by omega) (uh HE6) (uh HG) (uh HGB)⟩
   ·have hs:ST = (E3,τ3):=by rw [uh HST3]; exact thn_no he3
    subst hs
    have hq:((E3:Int) == 0) = false:=by simp; omega
    go_wp2_with fail
    go_ret
    first | exact ⟨B5,rfl,BegR.mk (uh HD5) (by omega) (by omega) (by omega) (uh HE5) (uh HG) (uh HGB)⟩ | exact ⟨rfl,B5,BegR.mk (uh HD5) (by omega) (by omega) (by omega) (uh HE5) (uh HG) (uh HGB)⟩
  ·have hs:ST = (E2,τ2):=by rw [uh HST2,thn_no (r:=(E2,τ2)) he2,thn_no (r:=(E2,τ2)) he2]
   subst hs
   have hq:((E2:Int) == 0) = false:=by simp; omega
   go_wp2_with fail
   go_ret
   first | exact ⟨B4,rfl,BegR.mk (uh HD4) (by omega) (by omega) (by omega) (uh HE4) (uh HG) (uh HGB)⟩ | exact ⟨rfl,B4,BegR.mk (uh HD4) (by omega) (by omega) (by omega) (uh HE4) (uh HG) (uh HGB)⟩
 ·have hs:ST = (E1,τ1):=by rw [uh HST,thn_no (r:=(E1,τ1)) he1,thn_no (r:=(E1,τ1)) he1,thn_no (r:=(E1,τ1)) he1]
  subst hs
  have hq:((E1:Int) == 0) = false:=by simp; omega
  go_wp2_with fail
  go_ret
  first | exact ⟨B3,rfl,BegR.mk (uh HD3) (by omega) (by omega) (by omega) (uh HE3) (uh HG) (uh HGB)⟩ | exact ⟨rfl,B3,BegR.mk (uh HD3) (by omega) (by omega) (by omega) (uh HE3) (uh HG) (uh HGB)⟩
def lgC (d:Nat) (s:LSt):Array Value:=#[.pointer (some ⟨d,0,none⟩),.int .u64 (s.num:Int),.int .u64 (s.ep:Int),.int .u64 (s.fst:Int),.int .i64 s.wd,.int .i64 (s.byt:Int),.int .i64 (s.bt:Int),.int .i64 s.lim,.int .u64 (s.nx:Int),.int .i64 (s.st:Int)]
theorem xa0j {w:World} {l d:Nat} {s:LSt} {ty:TypeId} (h:w.heap[l]? = some (.cells (lgC d s) ty (0,0))) :
  w.cell? ⟨l,0,none⟩ = some (.pointer (some ⟨d,0,none⟩))∧w.cell? ⟨l,1,none⟩ = some (.int .u64 (s.num:Int))∧w.cell? ⟨l,2,none⟩ = some (.int .u64 (s.ep:Int))∧w.cell? ⟨l,3,none⟩ = some (.int .u64 (s.fst:Int))∧w.cell? ⟨l,4,none⟩ = some (.int .i64 s.wd)∧w.cell? ⟨l,5,none⟩ = some (.int .i64 (s.byt:Int))∧w.cell? ⟨l,6,none⟩ = some (.int .i64 (s.bt:Int))∧w.cell? ⟨l,7,none⟩ = some (.int .i64 s.lim)∧w.cell? ⟨l,8,none⟩ = some (.int .u64 (s.nx:Int))∧w.cell? ⟨l,9,none⟩ = some (.int .i64 (s.st:Int)):=by
 refine ⟨?_,?_,?_,?_,?_,?_,?_,?_,?_,?_⟩ <;> rw [cell_of_row _ _ _ _ _ _ h] <;> rfl
structure LK (w:World) (l d:Nat) (B:List Nat) (nb ob bb:Nat) (σ:DSt) (s:LSt):Prop where
 row:w.heap[l]? = some (.cells (lgC d s) 117 (0,0))
 dk:DKf w d B nb ob bb σ
 nl:l∉B
 num:s.num < 18446744073709551616
 ep:s.ep < 18446744073709551616
 nx:s.nx < 18446744073709551616
 wd:wideB s.wd = true
 bt:s.bt≤ob
 byt:s.byt≤48 + 40000 * ob
 lim:1≤s.lim∧s.lim≤1048576
 st:s.st < 100
def EvL (w w':World) (l:Nat) (B B':List Nat):Prop:=Kept (l :: B) w w'∧∀ x∈B',x∈B∨w.heap.size≤x
theorem EvL.refl (w:World) (l:Nat) (B:List Nat):EvL w w l B B:=⟨Kept.refl _ _,fun x hx=>.inl hx⟩
theorem EvL.trans {a b c:World} {l:Nat} {A B C:List Nat} (h:EvL a b l A B) (k:EvL b c l B C):EvL a c l A C:=by
 refine ⟨h.1.trans k.1 (fun x hx=>?_),?_⟩
 ·rcases List.mem_cons.1 hx with rfl | hx
  ·exact .inl (by simp)
  ·exact (h.2 x hx).imp (fun h1=>by simp [h1]) id
 ·intro x hx
  rcases k.2 x hx with h1 | h1
  ·exact h.2 x h1
  ·exact .inr (Nat.le_trans h.1.size h1)
theorem EvL.pre {w0 w w':World} {l:Nat} {B B':List Nat} (k:Kept [] w0 w) (h:EvL w w' l B B'):EvL w0 w' l B B' :=
 ⟨(k.mono (M:=l :: B) (by simp)).trans h.1 (fun x hx=>Or.inl hx),fun x hx=>(h.2 x hx).imp id (fun h1=>Nat.le_trans k.size h1)⟩
theorem LK.lt {w:World} {l d nb ob bb:Nat} {B:List Nat} {σ:DSt} {s:LSt} (h:LK w l d B nb ob bb σ s):l < w.heap.size:=lt_of_block h.row
theorem LK.old {w w':World} {l d nb ob bb:Nat} {B:List Nat} {σ:DSt} {s:LSt} (h:LK w l d B nb ob bb σ s) (k:Kept [] w w'):LK w' l d B nb ob bb σ s :=
 { h with row:=k.heap h.row (by simp),dk:=h.dk.old k }
theorem LK.kept {L:List Nat} {w w':World} {l d nb ob bb:Nat} {B:List Nat} {σ:DSt} {s:LSt} (h:LK w l d B nb ob bb σ s) (k:Kept L w w') (hl:l∉L) (hn:∀ x∈B,x∉L):LK w' l d B nb ob bb σ s :=
 { h with row:=k.heap h.row hl,dk:=h.dk.kept k hn }
theorem LK.more {w:World} {l d nb ob bb:Nat} {B:List Nat} {σ:DSt} {s:LSt} (h:LK w l d B nb ob bb σ s) {nb' ob' bb':Nat} (h1:nb≤nb') (h0:ob≤ob') (h2:bb≤bb'):LK w l d B nb' ob' bb' σ s :=
 { h with dk:=h.dk.more h1 h0 h2,bt:=Nat.le_trans h.bt h0,byt:=by have:=h.byt; omega }
set_option maxHeartbeats 1000000 in
theorem xb2v (l d:Nat) (s:LSt) (w:World) (hr:w.heap[l]? = some (.cells (lgC d s) 117 (0,0))) :
  Calls Tryz.prog 106 #[.pointer (some ⟨l,0,none⟩),.int .i64 s.lim] w fun e w'=>e = .returned (.bool (lgFull s))∧w' = w:=by
 obtain ⟨c0,c1,c2,c3,c4,c5,c6,c7,c8,c9⟩:=xa0j hr
 clear hr
 unfold lgFull
 by_cases hb:0 < s.bt
 ·have hb':(0:Int) < (s.bt:Int):=by omega
  rw [decide_eq_true hb,Bool.true_and]
  by_cases hy:s.lim≤(s.byt:Int)
  ·rw [decide_eq_true hy]
   go_enter Tryz.func106,Tryz.ntmps106
   go_wp2
   go_ret
   exact ⟨rfl,rfl⟩
  ·rw [decide_eq_false hy]
   go_enter Tryz.func106,Tryz.ntmps106
   go_wp2
   go_ret
   exact ⟨rfl,rfl⟩
 ·have hb':¬ (0:Int) < (s.bt:Int):=by omega
  rw [decide_eq_false hb,Bool.false_and]
  go_enter Tryz.func106,Tryz.ntmps106
  go_wp2
  go_ret
  exact ⟨rfl,rfl⟩
set_option maxHeartbeats 1000000 in
theorem xa7r (l d:Nat) (s:LSt) (w:World) (hr:w.heap[l]? = some (.cells (lgC d s) 117 (0,0))) :
  Calls Tryz.prog 57 #[.pointer (some ⟨l,0,none⟩)] w fun e w'=>e = .returned (.int .i64 ((lgFail s:Nat):Int))∧w' = w:=by
 obtain ⟨c0,c1,c2,c3,c4,c5,c6,c7,c8,c9⟩:=xa0j hr
 clear hr
 unfold lgFail
 by_cases h0:s.st = 0
 ·rw [if_pos (Or.inl h0)]
  have g0:((s.st:Int) == 0) = true:=by simp; omega
  go_enter Tryz.func57,Tryz.ntmps57
  go_wp2
  go_ret
  exact ⟨by rw [h0]; rfl,rfl⟩
 ·have g0:((s.st:Int) == 0) = false:=by simp; omega
  by_cases h1:s.st = 12
  ·rw [if_pos (Or.inr h1)]
   have g1:((s.st:Int) == 12) = true:=by simp; omega
   go_enter Tryz.func57,Tryz.ntmps57
   go_wp2
   go_ret
   exact ⟨by rw [h1]; rfl,rfl⟩
  ·rw [if_neg (by omega)]
   have g1:((s.st:Int) == 12) = false:=by simp; omega
   go_enter Tryz.func57,Tryz.ntmps57
   go_wp2
   go_ret
   exact ⟨rfl,rfl⟩
set_option maxHeartbeats 1000000 in
theorem xa1r (l d:Nat) (s:LSt) (w:World) (hr:w.heap[l]? = some (.cells (lgC d s) 117 (0,0))) :
  Calls Tryz.prog 22 #[.pointer (some ⟨l,0,none⟩)] w fun e w'=>e = .returned (.int .u64 (s.nx:Int))∧w' = w:=by
 obtain ⟨c0,c1,c2,c3,c4,c5,c6,c7,c8,c9⟩:=xa0j hr
 clear hr
 go_enter Tryz.func22,Tryz.ntmps22
 go_wp2
 go_ret
 exact ⟨rfl,rfl⟩
set_option maxHeartbeats 1000000 in
theorem xa9z (l d:Nat) (s:LSt) (w:World) (hr:w.heap[l]? = some (.cells (lgC d s) 117 (0,0))) :
  Calls Tryz.prog 23 #[.pointer (some ⟨l,0,none⟩)] w fun e w'=>e = .returned (.int .u64 (s.ep:Int))∧w' = w:=by
 obtain ⟨c0,c1,c2,c3,c4,c5,c6,c7,c8,c9⟩:=xa0j hr
 clear hr
 go_enter Tryz.func23,Tryz.ntmps23
 go_wp2
 go_ret
 exact ⟨rfl,rfl⟩
set_option maxHeartbeats 1000000 in
theorem xb2a (l d:Nat) (s:LSt) (w:World) (hr:w.heap[l]? = some (.cells (lgC d s) 117 (0,0))) :
  Calls Tryz.prog 24 #[.pointer (some ⟨l,0,none⟩)] w fun e w'=>e = .returned (.int .u64 (s.num:Int))∧w' = w:=by
 obtain ⟨c0,c1,c2,c3,c4,c5,c6,c7,c8,c9⟩:=xa0j hr
 clear hr
 go_enter Tryz.func24,Tryz.ntmps24
 go_wp2
 go_ret
 exact ⟨rfl,rfl⟩
set_option maxHeartbeats 1000000 in
theorem xa1k (l d:Nat) (s:LSt) (w:World) (hr:w.heap[l]? = some (.cells (lgC d s) 117 (0,0))) :
  Calls Tryz.prog 25 #[.pointer (some ⟨l,0,none⟩)] w fun e w'=>e = .returned (.int .i64 (s.st:Int))∧w' = w:=by
 obtain ⟨c0,c1,c2,c3,c4,c5,c6,c7,c8,c9⟩:=xa0j hr
 clear hr
 go_enter Tryz.func25,Tryz.ntmps25
 go_wp2
 go_ret
 exact ⟨rfl,rfl⟩
theorem Tryz.size_cur:(Tryz.prog.info? 115).map (·.size) = some 7:=by kernel_rfl
theorem xa2i {P:Program} {fn:Func} {p:Tmp} {ty:TypeId} (h:fn.results = #[.cell p ty]) (tmps:Array Value) (w:World) (g:Nat) (t:TypeId) (cs:Array Value) (fr:Nat × Nat) (d:TypeDesc)
  (hp:tmps.getD p undef = .pointer (some ⟨g,0,none⟩)) (hg:w.heap[g]? = some (.cells cs t fr))
  (hu:P.underlying ty = some d) (hd:(match d with | .struct _ | .array _ _=>true | _=>false) = true) (hi:(P.info? ty).map (·.size) = some cs.size) :
  (results fn tmps).run P w = .ok (.agg cs) w:=by
 have hp':tmps[p]?.getD undef = .pointer (some ⟨g,0,none⟩):=by simpa using hp
 simp [results,h,hp',asAddr,run_loadVar_row w g t ty cs fr d hg hu hd hi]
set_option maxHeartbeats 2000000 in
theorem xa3n (l d f:Nat) (s:LSt) (w:World) (hr:w.heap[l]? = some (.cells (lgC d s) 117 (0,0))) (hn:s.num + 1 < 18446744073709551616) :
  Calls Tryz.prog 153 #[.pointer (some ⟨l,0,none⟩),.int .u64 (f:Int)] w fun e w'=>e = .returned (.agg (curC d (s.num + 1) s.ep f s.wd 0 0))∧Kept [] w w':=by
 have hk0:=(Kept.refl [] w).alloc (.cells #[.pointer none,.int .u64 0,.int .u64 0,.int .u64 0,.int .i64 0,.int .i64 0,.int .i64 0] 115)
 obtain ⟨c0,c1,c2,c3,c4,c5,c6,c7,c8,c9⟩:=xa0j (hk0.heap hr (by simp))
 have HK0:=hide hk0
 clear hk0
 have hwr:IntKind.u64.wrap ((s.num:Int) + 1) = ((s.num + 1:Nat):Int):=by rw [IntKind.wrap_u64]; omega
 have hlt:l≠w.heap.size:=by have:=lt_of_block hr; omega
 go_enter Tryz.func153,Tryz.ntmps153
 go_upto_region 3 with fail
 have hk2:=(uh HK0).alloc (.cells #[.int .u64 ((s.num:Int) + 1),.int .u64 (s.ep:Int),.int .u64 (f:Int),.int .i64 s.wd] 81)
 have hh2:=heap_alloc_new (w.alloc (.cells #[.pointer none,.int .u64 0,.int .u64 0,.int .u64 0,.int .i64 0,.int .i64 0,.int .i64 0] 115)) (.cells #[.int .u64 ((s.num:Int) + 1),.int .u64 (s.ep:Int),.int .u64 (f:Int),.int .i64 s.wd] 81)
 have hz2:=((Kept.refl [] _).alloc (.cells #[.int .u64 ((s.num:Int) + 1),.int .u64 (s.ep:Int),.int .u64 (f:Int),.int .i64 s.wd] 81)).heap (heap_alloc_new w (.cells #[.pointer none,.int .u64 0,.int .u64 0,.int .u64 0,.int .i64 0,.int .i64 0,.int .i64 0] 115)) (by simp)
 obtain ⟨W2,hW2⟩:∃ W,(w.alloc (.cells #[.pointer none,.int .u64 0,.int .u64 0,.int .u64 0,.int .i64 0,.int .i64 0,.int .i64 0] 115)).alloc (.cells #[.int .u64 ((s.num:Int) + 1),.int .u64 (s.ep:Int),.int .u64 (f:Int),.int .i64 s.wd] 81) = W:=⟨_,rfl⟩
 rw [hW2] at hk2 hh2 hz2 ⊢
 rw [show (w.alloc (.cells #[.pointer none,.int .u64 0,.int .u64 0,.int .u64 0,.int .i64 0,.int .i64 0,.int .i64 0] 115)).heap.size = w.heap.size + 1 by simp] at hh2
 have HK2:=hide hk2
 have HZ2:=hide hz2
 obtain ⟨q0,q1,q2,q3⟩:=hcells hh2
 clear c0 c1 c2 c3 c4 c5 c6 c7 c8 c9 hW2
 have c0:=(xa0j (hk2.heap hr (by simp))).1
 clear hk2 hz2 hh2 hr
 refine xa0z 6 (by kernel_rfl) (by kernel_rfl) ?_
 simp only [List.take_succ_cons,List.take_zero,List.drop_succ_cons,List.drop_zero]
 repeat (go_big_quiet_step (fail))
 refine wpQuiet_nil ?_
 rintro _ ⟨n5,rfl⟩
 have HK5:=hide ((uh HK2).drewN n5)
 have HZ5:=hide (((Kept.refl [] W2).drewN n5).heap (uh HZ2) (by simp))
 generalize W2.drewN n5 = W5 at HK5 HZ5 ⊢
 clear c0 q0 q1 q2 q3 HK2 HZ2
 refine wpList_plain rfl fun K hK=>?_
 refine wp_store_row 115 (.tmp 4) (.tmp 21) rfl w.heap.size (curC d (s.num + 1) s.ep f s.wd 0 0) rfl (by unfold curC; simp [Act.eval]) 115 _ (uh HZ5) Tryz.size_cur rfl (by simp [curC,Value.oneCell']) (hK _ _ ?_)
 have HK6:=hide (Kept.setRow (uh HK5) (Or.inr (Nat.le_refl _)) (curC d (s.num + 1) s.ep f s.wd 0 0):Kept [] w (W5.setRow w.heap.size (curC d (s.num + 1) s.ep f s.wd 0 0)))
 have HZ6:=hide (setRow_heap W5 w.heap.size _ (curC d (s.num + 1) s.ep f s.wd 0 0) _ _ (uh HZ5))
 generalize W5.setRow w.heap.size (curC d (s.num + 1) s.ep f s.wd 0 0) = W6 at HK6 HZ6 ⊢
 go_wp2_with fail
 refine bodyPost_ret (v:=.agg (curC d (s.num + 1) s.ep f s.wd 0 0)) ?_ rfl ⟨rfl,uh HK6⟩
 exact xa2i rfl _ _ w.heap.size _ (curC d (s.num + 1) s.ep f s.wd 0 0) (0,0) _ rfl (uh HZ6) Tryz.underlying115 rfl Tryz.size_cur
theorem xb8a {w:World} {l d:Nat} {s:LSt} {t:TypeId} (h:w.heap[l]? = some (.cells (lgC d s) t (0,0))) (x y:Nat):((w.setCell ⟨l,5,none⟩ (.int .i64 (x:Int))).setCell ⟨l,6,none⟩ (.int .i64 (y:Int))).heap[l]? = some (.cells (lgC d { s with byt:=x,bt:=y }) t (0,0)):=by
 rw [heap_setCell_same _ l 6 _ t _ (heap_setCell_same w l 5 _ t _ h)]
 rfl
theorem lfroz {w:World} {b:Nat} {cs:Array Value} {t:TypeId} (h:w.heap[b]? = some (.cells cs t (0,0))):w.frozen? ⟨b,0,none⟩ = false∧w.frozen? ⟨b,1,none⟩ = false∧w.frozen? ⟨b,2,none⟩ = false∧w.frozen? ⟨b,3,none⟩ = false∧w.frozen? ⟨b,4,none⟩ = false∧w.frozen? ⟨b,5,none⟩ = false∧w.frozen? ⟨b,6,none⟩ = false∧w.frozen? ⟨b,8,none⟩ = false∧w.frozen? ⟨b,9,none⟩ = false :=
 ⟨frozen_of_row _ _ _ _ _ h,frozen_of_row _ _ _ _ _ h,frozen_of_row _ _ _ _ _ h,frozen_of_row _ _ _ _ _ h,frozen_of_row _ _ _ _ _ h,frozen_of_row _ _ _ _ _ h,frozen_of_row _ _ _ _ _ h,frozen_of_row _ _ _ _ _ h,frozen_of_row _ _ _ _ _ h⟩
theorem LK.turn {w w3 w':World} {l d nb ob bb nb3 ob3 bb3:Nat} {B B3:List Nat} {σ τ:DSt} {s s':LSt} (h:LK w l d B nb ob bb σ s) (ev:Ev w w3 B B3) (hD:DKf w3 d B3 nb3 ob3 bb3 τ) (k:Kept [l] w3 w') (hr:w'.heap[l]? = some (.cells (lgC d s') 117 (0,0)))
  (h1:s'.num < 18446744073709551616) (h2:s'.ep = s.ep) (h3:s'.nx < 18446744073709551616) (h4:s'.wd = s.wd) (h5:s'.bt≤ob3) (h6:s'.byt≤48 + 40000 * ob3) (h7:s'.lim = s.lim) (h8:s'.st < 100) :
  LK w' l d B3 nb3 ob3 bb3 τ s'∧EvL w w' l B B3:=by
 have hn:=xa4b ev h.nl h.lt
 refine ⟨⟨hr,hD.kept k (fun x hx hm=>hn (by rw [← List.mem_singleton.1 hm]; exact hx)),hn,h1,by rw [h2]; exact h.ep,h3,by rw [h4]; exact h.wd,h5,h6,by rw [h7]; exact h.lim,h8⟩,?_⟩
 exact ⟨(ev.1.mono (M:=l :: B) (fun x hx=>by simp [hx])).trans k (fun x hx=>Or.inl (by rw [List.mem_singleton.1 hx]; simp)),ev.2⟩
set_option maxHeartbeats 2000000 in
theorem xa9u (l d nb ob bb g0:Nat) (B:List Nat) (σ:DSt) (s:LSt) (pv:Value) (ps:List Nat) (w:World) (h:LK w l d B nb ob bb σ s) (hv:VarsG g0 w) (hp:Rd w pv ps) (hpd:∀ x∈zblk pv ps,x∉B) (hpl:ps.length≤40000) (h1:nb≤900000000) (h2:ob≤900000000) (h3:bb≤140737488300000) :
  Calls Tryz.prog 108 #[.pointer (some ⟨l,0,none⟩),pv] w fun e w'=>∃ B',e = .returned (.int .i64 ((lgLay σ s ps).1:Nat))∧LK w' l d B' nb (ob + 1) (bb + ps.length) (lgLay σ s ps).2.1 (lgLay σ s ps).2.2∧EvL w w' l B B':=by
 have H:=hide h
 have HNU:=hide h.num
 have HV:=hide hv.now
 have HP:=hide hp
 have HPD:=hide hpd
 obtain ⟨pa,pn,pc,rfl,hpn,_⟩:=id hp
 subst hpn
 obtain ⟨c0,c1,_⟩:=xa0j h.row
 have HC0:=hide (fun w' (k:Kept [] w w')=>k.cell c0 (by simp))
 have HC1:=hide (fun w' (k:Kept [] w w')=>k.cell c1 (by simp))
 obtain ⟨LS,hLS⟩:∃ LS,lgLay σ s ps = ((stAppend σ (nmB s.num) ps).1,(stAppend σ (nmB s.num) ps).2,LS):=⟨_,rfl⟩
 have hLS2:LS = (lgLay σ s ps).2.2:=by rw [hLS]
 have HY:=hide (fun (h0:(stAppend σ (nmB s.num) ps).1 = 0)=>(by rw [hLS2]; unfold lgLay; simp only [h0,if_true]:LS = { s with byt:=s.byt + ps.length,bt:=s.bt + 1 }))
 have HN:=hide (fun (h0:(stAppend σ (nmB s.num) ps).1≠0)=>(by rw [hLS2]; unfold lgLay; simp only [h0,if_false]:LS = s))
 rw [hLS]
 clear h hv hp hpd c0 c1 hLS hLS2
 obtain ⟨R1,hR1⟩:∃ R1,stAppend σ (nmB s.num) ps = R1:=⟨_,rfl⟩
 rw [hR1] at HY HN ⊢
 have HR1:=hide hR1
 clear hR1
 obtain ⟨E1,τ1⟩:=R1
 dsimp only at *
 go_enter Tryz.func108,Tryz.ntmps108
 go_upto_region 1 with fail
 refine wp_w9 (by kernel_rfl) (by kernel_rfl) (by kernel_rfl) (by kernel_rfl) (by kernel_rfl) (by kernel_rfl) (by kernel_rfl) (by kernel_rfl) (by kernel_rfl) (by kernel_rfl) (by kernel_rfl) (by kernel_rfl) (by kernel_rfl) (by kernel_rfl) (by kernel_rfl) (by kernel_rfl) (by kernel_rfl) (by kernel_rfl) (by kernel_rfl) rfl rfl
  (.pointer (some ⟨l,0,none⟩)) (.pointer (some ⟨l,0,none⟩)) (.pointer (some ⟨l,0,none⟩)) (.pointer (some ⟨d,0,none⟩)) (.pointer (some ⟨l,0,none⟩)) (.slice pa ps.length pc) _ _ _ _ _ _
  (fun w'=>w'.cell? ⟨l,0,none⟩ = some (.pointer (some ⟨d,0,none⟩)))
  (fun w'=>Kept [] w w')
  (fun u5 w'=>u5 = .string (nmB (s.num))∧Kept [] w w')
  (fun u5 u7 w'=>w'.cell? ⟨l,0,none⟩ = some (.pointer (some ⟨d,0,none⟩))∧∃ B',u7 = .int .i64 ((stAppend σ (nmB s.num) ps).1:Nat)∧DKf w' d B' nb (ob + 1) (bb + ps.length) (stAppend σ (nmB s.num) ps).2∧Ev w w' B B')
  (fun x=>x)
  (by simp only [Act.put,sa1,sa2,sa3]; rfl) (by exact Or.inl ⟨by rfl,fun W' hW'=>by go_simp⟩)
  (by simp only [Act.put,sa1,sa2,sa3]; rfl) (by exact Or.inl ⟨by rfl,fun W' hW'=>by go_simp⟩)
  (by simp only [Act.put,sa1,sa2,sa3]; rfl) (by exact Or.inl ⟨by rfl,fun W' hW'=>by go_simp⟩)
  (by simp only [Act.put,sa1,sa2,sa3]; rfl) (by exact Or.inl ⟨by rfl,fun W' hW'=>by go_simp⟩)
  (by simp only [Act.put,sa1,sa2,sa3]; rfl) (by exact Or.inl ⟨by rfl,fun W' hW'=>by go_simp⟩)
  (by simp only [Act.put,sa1,sa2,sa3]; rfl) (by exact Or.inl ⟨by rfl,fun W' hW'=>by go_simp⟩)
  (Kept.refl [] w).drew
  ⟨fun w' h=>uh HC0 w' h,fun u5 w' h=>uh HC0 w' h.2,fun u5 u7 w' h=>h.1⟩
  (by
   intro w' k K hK
   refine xa0e rfl Tryz.call89 [.pointer (some ⟨l,0,none⟩)] rfl (xa2o l (s.num) w' (uh HC1 w' k) (uh HNU) ((uh HV).old k)) ?_
   rintro e w2 ⟨rfl,k2⟩
   exact ⟨_,rfl,hK _ _ ⟨rfl,k.trans k2 (by simp)⟩⟩)
  (by
   rintro u5 w' ⟨rfl,k⟩ K hK
   refine xa0e rfl Tryz.call90 [.pointer (some ⟨d,0,none⟩),.string (nmB (s.num)),.slice pa ps.length pc] rfl (xb0v d nb ob bb B σ (nmB s.num) (.slice pa ps.length pc) ps w' ((uh H).dk.old k) (by rw [xa3d]; omega) (by omega) (by omega) ((uh HP).old k (by simp)) (uh HPD) (by omega)) ?_
   rintro e w2 ⟨B',rfl,h9,ev⟩
   exact ⟨_,rfl,hK _ _ ⟨ev.1.cell (uh HC0 w' k) ((uh H).nl),B',rfl,h9,Ev.pre k ev⟩⟩)
  (by
   rintro u5 u7 w' ⟨_,B',rfl,_⟩
   exact Or.inl ⟨by rfl,fun W' hW'=>by go_simp⟩)
  ?_
 rintro u5 u7 w3 ⟨_,B3,rfl,h9,ev⟩
 simp only [Act.put,sa1,sa2,sa3]
 rw [uh HR1] at h9 ⊢
 have HE3:=hide ev
 have HD3:=hide h9
 have HR3:=hide (ev.1.heap (uh H).row (uh H).nl)
 clear h9 ev HC0 HC1 HV HP HPD
 obtain ⟨c0,c1,c2,c3,c4,c5,c6,c7,c8,c9⟩:=xa0j (uh HR3)
 obtain ⟨f0,f1,f2,f3,f4,f5,f6,f8,f9⟩:=lfroz (uh HR3)
 by_cases he1:E1 = 0
 ·obtain rfl:=uh HY he1
  subst he1
  have hw1:IntKind.i64.wrap ((s.byt:Int) + (ps.length:Int)) = ((s.byt + ps.length:Nat):Int):=by
   have:=(uh H).byt
   rw [IntKind.wrap_i64]; omega
  have hw2:IntKind.i64.wrap ((s.bt:Int) + 1) = ((s.bt + 1:Nat):Int):=by
   have:=(uh H).bt
   rw [IntKind.wrap_i64]; omega
  clear HY HN
  go_wp2_with fail
  all_goals go_ret
  all_goals have hz:=xb8a (uh HR3) (s.byt + ps.length) (s.bt + 1)
  all_goals have kz:Kept [l] w3 ((w3.setCell ⟨l,5,none⟩ (.int .i64 ((s.byt + ps.length:Nat):Int))).setCell ⟨l,6,none⟩ (.int .i64 ((s.bt + 1:Nat):Int))):=((Kept.refl [l] w3).setCell (p:=⟨l,5,none⟩) (.inl (by simp)) _).setCell (p:=⟨l,6,none⟩) (.inl (by simp)) _
  all_goals have hfin:=(uh H).turn (uh HE3) (uh HD3) kz hz (uh H).num rfl (uh H).nx rfl (by have:=(uh H).bt; simp only; omega) (by have:=(uh H).byt; simp only; omega) rfl (uh H).st
  all_goals push_cast at hfin
  all_goals first | exact ⟨B3,rfl,hfin.1,hfin.2⟩ | exact ⟨rfl,B3,hfin.1,hfin.2⟩
 ·have hq:((E1:Int) == 0) = false:=by simp; omega
  obtain rfl:=uh HN he1
  clear HY HN
  go_wp2_with fail
  go_ret
  have hfin:=(uh H).turn (uh HE3) (uh HD3) (Kept.refl [l] w3) (uh HR3) (uh H).num rfl (uh H).nx rfl (by have:=(uh H).bt; omega) (by have:=(uh H).byt; omega) rfl (uh H).st
  first | exact ⟨B3,rfl,hfin.1,hfin.2⟩ | exact ⟨rfl,B3,hfin.1,hfin.2⟩
set_option maxHeartbeats 2000000 in
theorem xb6g {w:World} {l d:Nat} {s:LSt} {t:TypeId} (h:w.heap[l]? = some (.cells (lgC d s) t (0,0))) (n ep fs:Nat) (wd:Int) (b q:Nat) :
  (((((((w.setCell ⟨l,0,none⟩ (.pointer (some ⟨d,0,none⟩))).setCell ⟨l,1,none⟩ (.int .u64 (n:Int))).setCell ⟨l,2,none⟩ (.int .u64 (ep:Int))).setCell ⟨l,3,none⟩ (.int .u64 (fs:Int))).setCell ⟨l,4,none⟩ (.int .i64 wd)).setCell ⟨l,5,none⟩ (.int .i64 (b:Int))).setCell ⟨l,6,none⟩ (.int .i64 (q:Int))).heap[l]? = some (.cells (lgC d { s with num:=n,ep:=ep,fst:=fs,wd:=wd,byt:=b,bt:=q }) t (0,0)):=by
 rw [heap_setCell_same _ l 6 _ t _ (heap_setCell_same _ l 5 _ t _ (heap_setCell_same _ l 4 _ t _ (heap_setCell_same _ l 3 _ t _ (heap_setCell_same _ l 2 _ t _ (heap_setCell_same _ l 1 _ t _ (heap_setCell_same w l 0 _ t _ h))))))]
 rfl
theorem xa3u {o:Oper} {a:Act} {w:World} {K:Act→World→Prop} {Q:Exit→Act→World→Prop} (ho:o.op = .alloc 115) (h:K (a.put o.dst (.pointer (some ⟨w.heap.size,0,none⟩))) (w.alloc (.cells #[.pointer none,.int .u64 0,.int .u64 0,.int .u64 0,.int .i64 0,.int .i64 0,.int .i64 0] 115))):o.wp Tryz.prog a w K Q:=by
 unfold Oper.wp execOp
 simp only [ho]
 go_simp
 exact h
def Alc (W:World) (u:Value) (cs:Array Value) (w:World):Prop:=∃ g,u = .pointer (some ⟨g,0,none⟩)∧W.heap.size≤g∧w.heap[g]? = some (.cells cs 115 (0,0))
abbrev zCur:Array Value:=#[.pointer none,.int .u64 0,.int .u64 0,.int .u64 0,.int .i64 0,.int .i64 0,.int .i64 0]
theorem Alc.pass {W w w':World} {u:Value} {cs:Array Value} (h:Alc W u cs w) (k:Kept [] w w'):Alc W u cs w':=by
 obtain ⟨g,h1,h2,h3⟩:=h; exact ⟨g,h1,h2,k.heap h3 (by simp)⟩
theorem xb4d {W w:World} (k:Kept [] W w):Alc W (.pointer (some ⟨w.heap.size,0,none⟩)) zCur (w.alloc (.cells zCur 115)):=⟨_,rfl,k.size,heap_alloc_new _ _⟩
set_option maxHeartbeats 4000000 in
theorem xb5f (l d nb ob bb g0:Nat) (B:List Nat) (σ:DSt) (s:LSt) (w:World) (h:LK w l d B nb ob bb σ s) (hv:VarsG g0 w) (hB:∀ x∈B,g0≤x) (hg0:g0≤w.heap.size) (h1:nb≤800000000) (h2:ob≤800000000) (h3:bb≤140737488200000) :
  Calls Tryz.prog 107 #[.pointer (some ⟨l,0,none⟩)] w fun e w'=>∃ B',e = .returned (.int .i64 ((lgRot σ s).1:Nat))∧LK w' l d B' (nb + 1) (ob + 5) (bb + 48) (lgRot σ s).2.1 (lgRot σ s).2.2∧EvL w w' l B B':=by
 have H:=hide h
 have HVG:=hide hv
 have HB:=hide hB
 obtain ⟨⟨E1,τ1⟩,hR1⟩:∃ R1,stSync σ (nmB s.num) = R1:=⟨_,rfl⟩
 obtain ⟨⟨E2,τ2⟩,hR2⟩:∃ R2,stBegin τ1 (s.num + 1) s.ep s.nx s.wd = R2:=⟨_,rfl⟩
 obtain ⟨⟨E,τ,s'⟩,hL⟩:∃ R,lgRot σ s = R:=⟨_,rfl⟩
 have HA:=hide (fun (h0:E1≠0)=>(by rw [← hL]; unfold lgRot; rw [hR1]; simp only [ne_eq,h0,not_false_eq_true,if_true]:(E,τ,s') = (E1,τ1,s)))
 have HBB:=hide (fun (h0:E1 = 0) (h8:s.num = 18446744073709551615)=>(by rw [← hL]; unfold lgRot; rw [hR1]; simp only [ne_eq,h0,not_true_eq_false,if_false,h8,if_true]:(E,τ,s') = (7,τ1,s)))
 have HCC:=hide (fun (h0:E1 = 0) (h8:s.num≠18446744073709551615) (h7:E2≠0)=>(by rw [← hL]; unfold lgRot; rw [hR1]; dsimp only; rw [hR2]; simp only [ne_eq,h0,not_true_eq_false,if_false,h8,h7,not_false_eq_true,if_true]:(E,τ,s') = (E2,τ2,s)))
 have HDD:=hide (fun (h0:E1 = 0) (h8:s.num≠18446744073709551615) (h7:E2 = 0)=>(by rw [← hL]; unfold lgRot; rw [hR1]; dsimp only; rw [hR2]; simp only [ne_eq,h0,not_true_eq_false,if_false,h8,h7]:(E,τ,s') = (0,τ2,{ s with num:=s.num + 1,fst:=s.nx,byt:=48,bt:=0 })))
 rw [hL]
 have HR1:=hide hR1
 have HR2:=hide hR2
 obtain ⟨c0,c1,_⟩:=xa0j h.row
 have HFL:=hide (xa2z l s.num d nb ob bb B σ w c0 c1 h.num hv.now h.dk h.nl (by omega) (by omega))
 rw [hR1] at HFL
 clear h hv hB hL hR1 hR2 c0 c1
 dsimp only at *
 go_enter Tryz.func107,Tryz.ntmps107
 go_wp2_with fail
 refine Calls.mono (uh HFL) ?_
 rintro e w1 ⟨B1,rfl,hd1,ev1⟩
 have HD1:=hide hd1
 have HE1:=hide ev1
 have HR:=hide (ev1.1.heap (uh H).row (uh H).nl)
 clear hd1 ev1 HFL
 by_cases he1:E1 = 0
 ·subst he1
  obtain ⟨c0,c1,c2,c3,c4,c5,c6,c7,c8,c9⟩:=xa0j (uh HR)
  by_cases hm:s.num = 18446744073709551615
  ·have hz:=uh HBB (by simp) hm
   cases hz
   have hq:((s.num:Int) == 18446744073709551615) = true:=by simp; omega
   go_wp2_with fail
   go_ret
   have hfin:=(uh H).turn (uh HE1) (uh HD1) (Kept.refl [l] w1) (uh HR) (uh H).num rfl (uh H).nx rfl (by have:=(uh H).bt; omega) (by have:=(uh H).byt; omega) rfl (uh H).st
   have hf1:=hfin.1.more (nb':=nb + 1) (ob':=ob + 5) (bb':=bb + 48) (by omega) (by omega) (by omega)
   first | exact ⟨B1,rfl,hf1,hfin.2⟩ | exact ⟨rfl,B1,hf1,hfin.2⟩
  ·have hq:((s.num:Int) == 18446744073709551615) = false:=by simp; omega
   have HCX:=hide c8
   have HNM:=hide (by have:=(uh H).num; omega:s.num + 1 < 18446744073709551616)
   clear c0 c2 c3 c4 c5 c6 c7 c9
   go_upto_region 6 with fail
   clear c1 c8
   refine wp_w10 (by kernel_rfl) (by kernel_rfl) (by kernel_rfl) (by kernel_rfl) (by kernel_rfl) (by kernel_rfl) (by kernel_rfl) (by kernel_rfl) (by kernel_rfl) (by kernel_rfl) (by kernel_rfl) (by kernel_rfl) (by kernel_rfl) (by kernel_rfl) (by kernel_rfl) (by kernel_rfl) (by kernel_rfl) (by kernel_rfl) (by kernel_rfl) (by kernel_rfl) (by kernel_rfl) rfl rfl rfl (by intro x hx; cases hx; decide)
    (.pointer (some ⟨l,0,none⟩)) (.pointer (some ⟨l,0,none⟩)) (.pointer (some ⟨l,0,none⟩)) (.pointer (some ⟨l,0,none⟩)) (.pointer (some ⟨l,0,none⟩)) (.pointer (some ⟨l,8,none⟩)) (.int .u64 (s.nx:Int)) _ _ _ _ _ _ _
    (fun w'=>w'.cell? ⟨l,8,none⟩ = some (.int .u64 (s.nx:Int)))
    (fun w'=>Kept [] w1 w')
    (fun u7 w'=>u7 = .agg (curC d (s.num + 1) s.ep s.nx s.wd 0 0)∧Kept [] w1 w')
    (fun u8 w'=>Alc w1 u8 zCur w'∧Kept [] w1 w')
    (fun u7 u8 w'=>u7 = .agg (curC d (s.num + 1) s.ep s.nx s.wd 0 0)∧Alc w1 u8 zCur w'∧Kept [] w1 w')
    (fun u7 u8 u9 w'=>u7 = .agg (curC d (s.num + 1) s.ep s.nx s.wd 0 0)∧Alc w1 u8 (curC d (s.num + 1) s.ep s.nx s.wd 0 0) w'∧Kept [] w1 w')
    (by simp only [Act.put,sa1,sa2,sa3]; rfl) (by exact Or.inl ⟨by rfl,fun W' hW'=>by go_simp⟩)
    (by simp only [Act.put,sa1,sa2,sa3]; rfl) (by exact Or.inl ⟨by rfl,fun W' hW'=>by go_simp⟩)
    (by simp only [Act.put,sa1,sa2,sa3]; rfl) (by exact Or.inl ⟨by rfl,fun W' hW'=>by go_simp⟩)
    (by simp only [Act.put,sa1,sa2,sa3]; rfl) (by exact Or.inl ⟨by rfl,fun W' hW'=>by go_simp⟩)
    (by simp only [Act.put,sa1,sa2,sa3]; rfl) (by exact Or.inl ⟨by rfl,fun W' hW'=>by go_simp⟩)
    (by simp only [Act.put,sa1,sa2,sa3]; rfl) (by exact Or.inl ⟨by rfl,fun W' hW'=>by go_simp⟩)
    (by simp only [Act.put,sa1,sa2,sa3]; rfl) (by exact Or.inl ⟨by rfl,fun W' hW'=>by go_simp⟩)
    (Kept.refl [] w1).drew
    ⟨fun w' h=>h.cell (uh HCX) (by simp),fun _ w' h=>h.2.cell (uh HCX) (by simp),fun _ w' h=>h.2.cell (uh HCX) (by simp),fun _ _ w' h=>h.2.2.cell (uh HCX) (by simp),fun _ _ _ w' h=>h.2.2.cell (uh HCX) (by simp)⟩
    (by
     intro w' k K hK
     refine xa0e rfl Tryz.call153 [.pointer (some ⟨l,0,none⟩),.int .u64 (s.nx:Int)] rfl (xa3n l d s.nx s w' (k.heap (uh HR) (by simp)) (uh HNM)) ?_
     rintro e w2 ⟨rfl,k2⟩
     exact ⟨_,rfl,hK _ _ ⟨rfl,k.trans k2 (by simp)⟩⟩)
    (by
     intro w' k K hK
     exact xa3u rfl (hK _ _ ⟨xb4d k,k.alloc _⟩))
    (by
     rintro u7 w' ⟨rfl,k⟩ K hK
     exact xa3u rfl (hK _ _ ⟨rfl,xb4d k,k.alloc _⟩))
    (by
     rintro u8 w' ⟨a8,k⟩ K hK
     refine xa0e rfl Tryz.call153 [.pointer (some ⟨l,0,none⟩),.int .u64 (s.nx:Int)] rfl (xa3n l d s.nx s w' (k.heap (uh HR) (by simp)) (uh HNM)) ?_
     rintro e w2 ⟨rfl,k2⟩
     exact ⟨_,rfl,hK _ _ ⟨rfl,a8.pass k2,k.trans k2 (by simp)⟩⟩)
    (by
     rintro u7 u8 w' ⟨rfl,⟨g,rfl,hg,hh⟩,k⟩ K hK
     have hk2:=hK undef _ ⟨rfl,⟨g,rfl,hg,setRow_heap _ _ _ (curC d (s.num + 1) s.ep s.nx s.wd 0 0) _ _ hh⟩,Kept.setRow k (Or.inr hg) _⟩
     clear hK
     simp only [Act.put,sa1,sa2,sa3] at hk2 ⊢
     exact wp_store_row 115 (.tmp 4) (.tmp 27) rfl g (curC d (s.num + 1) s.ep s.nx s.wd 0 0) rfl rfl 115 zCur hh Tryz.size_cur rfl (by simp [curC,Value.oneCell']) hk2)
    ?_
   rintro u7 u8 u9 w3 ⟨rfl,⟨g,rfl,hg,hh⟩,k3⟩
   simp only [Act.put,sa1,sa2,sa3]
   have HG:=hide hg
   have HH:=hide hh
   have HK3:=hide k3
   have HE3:=hide (Ev.trans (uh HE1) ((⟨k3.mono (by simp),fun x hx=>.inl hx⟩:Ev w1 w3 B1 B1)))
   have HGB:=hide (fun hx=>by have:=(uh HD1).lt g hx; omega:g∉B1)
   have HGL:=hide (by have:=lt_of_block (uh HR); omega:l≠g)
   have HBG:=hide (xa5a g (s.num + 1) s.ep s.nx d nb (ob + 1) bb g0 s.wd B1 τ1 w3 hh (uh H).wd (uh HNM) (((uh HVG).on (uh HE1).1 (uh HB)).old k3) (Ev.ge (uh HE1) (uh HB) hg0) (by have:=(uh HE1).1.size; have:=k3.size; omega) ((uh HD1).old k3) (uh HGB) (by omega) (by omega) (by omega))
   rw [uh HR2] at HBG
   clear hg hh k3
   go_wp2_with fail
   refine Calls.mono (uh HBG) ?_
   rintro e w4 ⟨B4,rfl,hd4,kk4,nw4,hh4⟩
   have HD4:=hide hd4
   have HH4:=hide hh4
   have HE4:=hide (⟨((uh HE3).1.mono (M:=B) (fun x hx=>hx)).trans kk4 (fun x hx=>by
     rcases List.mem_cons.1 hx with rfl | hx
     ·exact .inr (by have:=uh HG; have:=(uh HE1).1.size; omega)
     ·exact (uh HE1).2 x hx),fun x hx=>by
     rcases nw4 x hx with h9 | h9
     ·exact (uh HE1).2 x h9
     ·exact .inr (by have:=(uh HE3).1.size; omega)⟩:Ev w w4 B B4)
   have HR4:=hide ((uh HE4).1.heap (uh H).row (uh H).nl)
   clear hd4 kk4 nw4 hh4 HBG
   dsimp only at *
   by_cases he2:E2 = 0
   ·have hz:=uh HDD (by simp) hm he2
    cases hz
    subst he2
    obtain ⟨c0,c1,c2,c3,c4,c5,c6⟩:=xa1f (uh HH4)
    obtain ⟨f0,f1,f2,f3,f4,f5,f6,f8,f9⟩:=lfroz (uh HR4)
    obtain ⟨x0,x1,x2,x3,x4,x5,x6,x7,x8,x9⟩:=xa0j (uh HR4)
    have hz:=xb6g (uh HR4) (s.num + 1) s.ep s.nx s.wd 48 0
    have kz:=((((((((Kept.refl [l] w4).setCell (p:=⟨l,0,none⟩) (.inl (by simp)) (.pointer (some ⟨d,0,none⟩))).setCell (p:=⟨l,1,none⟩) (.inl (by simp)) (.int .u64 ((s.num + 1:Nat):Int))).setCell (p:=⟨l,2,none⟩) (.inl (by simp)) (.int .u64 (s.ep:Int))).setCell (p:=⟨l,3,none⟩) (.inl (by simp)) (.int .u64 (s.nx:Int))).setCell (p:=⟨l,4,none⟩) (.inl (by simp)) (.int .i64 s.wd)).setCell (p:=⟨l,5,none⟩) (.inl (by simp)) (.int .i64 ((48:Nat):Int))).setCell (p:=⟨l,6,none⟩) (.inl (by simp)) (.int .i64 ((0:Nat):Int)))
    have HFIN:=hide ((uh H).turn (s':={ s with num:=s.num + 1,fst:=s.nx,byt:=48,bt:=0 }) (uh HE4) (uh HD4) kz hz (uh HNM) rfl (uh H).nx rfl (by simp) (by simp only; omega) rfl (uh H).st)
    clear hz kz
    go_wp2_with fail
    go_ret
    have hfin:=uh HFIN
    push_cast at hfin
    first | exact ⟨B4,rfl,hfin.1,hfin.2⟩ | exact ⟨rfl,B4,hfin.1,hfin.2⟩
   ·have hz:=uh HCC (by simp) hm he2
    cases hz
    have hq2:((E2:Int) == 0) = false:=by simp; omega
    go_wp2_with fail
    go_ret
    have hfin:=(uh H).turn (uh HE4) (uh HD4) (Kept.refl [l] w4) (uh HR4) (uh H).num rfl (uh H).nx rfl (by have:=(uh H).bt; omega) (by have:=(uh H).byt; omega) rfl (uh H).st
    first | exact ⟨B4,rfl,hfin.1,hfin.2⟩ | exact ⟨rfl,B4,hfin.1,hfin.2⟩
 ·have hz:=uh HA he1
  cases hz
  have hq:((E1:Int) == 0) = false:=by simp; omega
  go_wp2_with fail
  go_ret
  have hfin:=(uh H).turn (uh HE1) (uh HD1) (Kept.refl [l] w1) (uh HR) (uh H).num rfl (uh H).nx rfl (by have:=(uh H).bt; omega) (by have:=(uh H).byt; omega) rfl (uh H).st
  have hf1:=hfin.1.more (nb':=nb + 1) (ob':=ob + 5) (bb':=bb + 48) (by omega) (by omega) (by omega)
  first | exact ⟨B1,rfl,hf1,hfin.2⟩ | exact ⟨rfl,B1,hf1,hfin.2⟩
theorem EvL.ge {w w':World} {l:Nat} {B B':List Nat} {g:Nat} (h:EvL w w' l B B') (hB:∀ x∈B,g≤x) (hg:g≤w.heap.size):∀ x∈B',g≤x:=by
 intro x hx
 rcases h.2 x hx with h1 | h1
 ·exact hB x h1
 ·omega
theorem xa8s (σ:DSt) (s:LSt):(lgRot σ s).2.2.st = s.st∧(lgRot σ s).2.2.nx = s.nx:=by
 unfold lgRot
 (repeat' split) <;> exact ⟨rfl,rfl⟩
theorem xb1x (σ:DSt) (s:LSt) (p:List Nat):(lgLay σ s p).2.2.st = s.st∧(lgLay σ s p).2.2.nx = s.nx:=by
 unfold lgLay
 dsimp only
 split <;> exact ⟨rfl,rfl⟩
theorem xb0q (σ:DSt) (s:LSt) (p:List Nat):(lgWrite σ s p).2.2.st = s.st∧(lgWrite σ s p).2.2.nx = s.nx:=by
 unfold lgWrite
 split
 ·split
  ·exact xa8s σ s
  ·have h1:=xa8s σ s
   have h2:=xb1x (lgRot σ s).2.1 (lgRot σ s).2.2 p
   exact ⟨h2.1.trans h1.1,h2.2.trans h1.2⟩
 ·exact xb1x σ s p
set_option maxHeartbeats 4000000 in
theorem xa9k (l d nb ob bb g0:Nat) (B:List Nat) (σ:DSt) (s:LSt) (pv:Value) (ps:List Nat) (w:World) (h:LK w l d B nb ob bb σ s) (hv:VarsG g0 w) (hB:∀ x∈B,g0≤x) (hl0:g0≤l) (hg0:g0≤w.heap.size) (hp:Rd w pv ps) (hpd:∀ x∈zblk pv ps,x∉l :: B) (hpl:ps.length≤40000) (h1:nb≤800000000) (h2:ob≤800000000) (h3:bb≤140737488200000) :
  Calls Tryz.prog 58 #[.pointer (some ⟨l,0,none⟩),pv] w fun e w'=>∃ B',e = .returned (.int .i64 ((lgWrite σ s ps).1:Nat))∧LK w' l d B' (nb + 1) (ob + 6) (bb + 48 + ps.length) (lgWrite σ s ps).2.1 (lgWrite σ s ps).2.2∧EvL w w' l B B':=by
 have H:=hide h
 have HVG:=hide hv
 have HB:=hide hB
 have HP:=hide hp
 have HPD:=hide hpd
 obtain ⟨pa,pn,pc,rfl,hpn,_⟩:=id hp
 subst hpn
 have HFU:=hide (fun j=>xb2v l d s (w.drewN j) (((Kept.refl [] w).drewN j).heap h.row (by simp)))
 have HROT:=hide (fun w' (k:Kept [] w w')=>xb5f l d nb ob bb g0 B σ s w' (h.old k) (hv.old k) hB (Nat.le_trans hg0 k.size) h1 h2 h3)
 have HLAY:=hide (fun w' (k:Kept [] w w')=>xa9u l d nb ob bb g0 B σ s (.slice pa ps.length pc) ps w' (h.old k) (hv.old k) (hp.old k (by simp)) (fun x hx hm=>hpd x hx (by simp [hm])) hpl (by omega) (by omega) (by omega))
 obtain ⟨⟨E1,τ1,s1⟩,hR1⟩:∃ R1,lgRot σ s = R1:=⟨_,rfl⟩
 obtain ⟨⟨E,τ,s'⟩,hL⟩:∃ R,lgWrite σ s ps = R:=⟨_,rfl⟩
 rw [hR1] at HROT
 have HA:=hide (fun (h0:lgFull s = false)=>(by rw [← hL]; unfold lgWrite; rw [h0]; rfl:(E,τ,s') = lgLay σ s ps))
 have HBB:=hide (fun (h0:lgFull s = true) (h9:E1≠0)=>(by rw [← hL]; unfold lgWrite; rw [h0,hR1]; simp only [if_true,ne_eq,h9,not_false_eq_true]:(E,τ,s') = (E1,τ1,s1)))
 have HCC:=hide (fun (h0:lgFull s = true) (h9:E1 = 0)=>(by rw [← hL]; unfold lgWrite; rw [h0,hR1]; simp only [if_true,ne_eq,h9,not_true_eq_false,if_false]:(E,τ,s') = lgLay τ1 s1 ps))
 rw [hL]
 have c7:=(xa0j h.row).2.2.2.2.2.2.2.1
 clear h hv hB hp hpd hL hR1
 dsimp only at *
 go_enter Tryz.func58,Tryz.ntmps58
 go_upto_region 1 with fail
 refine wp_region_quiet_lit (by kernel_rfl) (by kernel_rfl) ?_
 repeat (go_big_quiet_step (exact Calls.mono (uh HFU _) (fun e x h=>⟨h.1,_,h.2⟩)))
 refine wpQuiet_nil ?_
 rintro _ ⟨m5,rfl⟩
 have HK0:=hide ((Kept.refl [] w).drewN m5)
 generalize w.drewN m5 = w0 at HK0 ⊢
 clear c7 HFU
 have HLAY0:=hide (uh HLAY w0 (uh HK0))
 have HROT0:=hide (uh HROT w0 (uh HK0))
 clear HLAY HROT
 by_cases hf:lgFull s = true
 ·rw [hf]
  go_wp2_with fail
  refine Calls.mono (uh HROT0) ?_
  rintro e w1 ⟨B1,rfl,hl1,ev1⟩
  have HL1:=hide hl1
  have HE1:=hide (EvL.pre (uh HK0) ev1)
  clear hl1 ev1 HLAY0
  by_cases he1:E1 = 0
  ·have hz:=uh HCC hf he1
   subst he1
   have HPR:=hide ((uh HP).keptZ (uh HE1).1 (uh HPD))
   have HLAY2:=hide (xa9u l d (nb + 1) (ob + 5) (bb + 48) g0 B1 τ1 s1 (.slice pa ps.length pc) ps w1 (uh HL1) ((uh HVG).on (uh HE1).1 (fun x hx=>by
     rcases List.mem_cons.1 hx with rfl | hx
     ·exact hl0
     ·exact uh HB x hx)) (uh HPR) (fun x hx hm=>by
     rcases (uh HE1).2 x hm with h9 | h9
     ·exact uh HPD x hx (by simp [h9])
     ·have:=(uh HP).ltZ x hx; omega) hpl (by omega) (by omega) (by omega))
   rw [← hz] at HLAY2
   dsimp only at *
   go_wp2_with fail
   refine Calls.mono (uh HLAY2) ?_
   rintro e w2 ⟨B2,rfl,hl2,ev2⟩
   have HL2:=hide hl2
   have HE2:=hide ((uh HE1).trans ev2)
   clear hl2 ev2
   go_wp2_with fail
   go_ret
   exact ⟨B2,rfl,(uh HL2).more (by omega) (by omega) (by omega),uh HE2⟩
  ·have hz:=uh HBB hf he1
   cases hz
   have hq:((E1:Int) == 0) = false:=by simp; omega
   go_wp2_with fail
   go_ret
   exact ⟨B1,rfl,(uh HL1).more (by omega) (by omega) (by omega),uh HE1⟩
 ·rw [Bool.not_eq_true] at hf
  have hz:=uh HA hf
  rw [hf]
  rw [← hz] at HLAY0
  dsimp only at *
  go_wp2_with fail
  refine Calls.mono (uh HLAY0) ?_
  rintro e w2 ⟨B2,rfl,hl2,ev2⟩
  have HL2:=hide hl2
  have HE2:=hide (EvL.pre (uh HK0) ev2)
  clear hl2 ev2
  go_wp2_with fail
  go_ret
  exact ⟨B2,rfl,(uh HL2).more (by omega) (by omega) (by omega),uh HE2⟩
end
end Go.Proofs.YtejchncdimcdbaaGreatDoor
