import Derived.Test.YtkolfhgbojenjaaGreatDoorTopA
namespace Go.Proofs.YtkolfhgbojenjaaGreatDoor
set_option linter.unusedVariables false
set_option linter.unusedSimpArgs false
set_option maxRecDepth 100000
section
open Go.RowKit
def rBlob (p:List Nat) (i e:Nat) (m:Int):List Nat × Nat × Nat :=
 if e≠0 then ([],i,e) else if m < 0 then ([],i,1) else if (fuv (p.drop i) 0 0).2 = 0 then ([],i,3) else if m < (fuv (p.drop i) 0 0).1 then ([],i,2)
 else if (p.drop i).length - (fuv (p.drop i) 0 0).2 < (fuv (p.drop i) 0 0).1 then ([],i,3)
 else (((p.drop i).drop (fuv (p.drop i) 0 0).2).take (fuv (p.drop i) 0 0).1,i + ((fuv (p.drop i) 0 0).2 + (fuv (p.drop i) 0 0).1),0)
theorem fuv_lt (q:List Nat):∀ k a,a < 128 ^ k→k≤9→(fuv q k a).1 < 18446744073709551616:=by
 induction q with
 | nil=>intro k a _ _; simp [fuv]
 | cons c r ih =>
  intro k a ha hk
  have hn:=xa5w k c a ha
  rw [fuv]
  split
  ·simp
  ·rename_i h9
   split
   ·rename_i hb
    exact ih (k + 1) _ hn (by omega)
   ·split
    ·simp
    ·simp only
     rcases Nat.lt_or_ge k 9 with h | h
     ·have h1:128 ^ (k + 1)≤128 ^ 9:=Nat.pow_le_pow_right (by omega) (by omega)
      have h3:(128:Nat) ^ 9 = 9223372036854775808:=(by decide)
      omega
     ·have hk9:k = 9:=by omega
      subst hk9
      have hc:c = 1:=by omega
      subst hc
      have h3:(128:Nat) ^ 9 = 9223372036854775808:=(by decide)
      omega
theorem Rd.sub0 {w:World} {ao:Option Addr} {cap s x:Nat} {q:List Nat} (h:Rd w (.slice ao q.length cap) q) (hc:cap = s) (hs:s + x≤q.length):Rd w (.slice ao x 0) ((q.drop s).take x):=by
 have h1:=h.drop0 hc (by omega)
 obtain ⟨_,_,_,he,_,h2,_⟩:=h
 cases he
 have hx:x = 0:=by omega
 subst hx
 have h3:(q.drop s).length = q.length - s:=by simp
 rw [← h3] at h1
 exact h1.take (by omega)
theorem Rd.sub {w:World} {ao:Option Addr} {cap s x:Nat} {q:List Nat} (h:Rd w (.slice ao q.length cap) q) (hs:s + x≤q.length):Rd w (.slice (Option.map (fun x=>x.add s) ao) x (cap - s)) ((q.drop s).take x):=by
 have h1:=h.drop (i:=s) (by omega)
 have h3:(q.drop s).length = q.length - s:=by simp
 rw [← h3] at h1
 exact h1.take (by omega)
set_option maxHeartbeats 4000000 in
theorem xa9b (b:Nat) (gv:Value) (p:List Nat) (i e:Nat) (n:Int) (w:World) (h:ReAt w b gv p i e) (hn:-9223372036854775808≤n∧n≤9223372036854775807) :
  Calls Tryz.prog 233 #[.pointer (some ⟨b,0,none⟩),.int .i64 n] w fun r w'=>∃ rv,r = .returned rv∧Rd w' rv (rBlob p i e n).1∧ReAt w' b gv p (rBlob p i e n).2.1 (rBlob p i e n).2.2∧Kept [b] w w'∧∀ x∈blk rv,w.heap.size≤x:=by
 have HR:=hide h
 have c1:=h.c1
 have c2:=h.c2
 have f1:=h.free 1
 have f2:=h.free 2
 have hl:p.length≤140737488355328:=h.rd.len
 have hle:=h.le
 have hne:=hide h.ne
 have hblt:=h.lt
 clear h
 by_cases he:e = 0
 ·subst he
  obtain ⟨q,hq⟩:∃ q,p.drop i = q:=⟨_,rfl⟩
  have hql:q.length = p.length - i:=by rw [← hq]; simp
  have HVdef:=hide (by simp only [rBlob,hq,ne_eq,not_true_eq_false,if_false]:rBlob p i 0 n = if n < 0 then ([],i,1) else if (fuv q 0 0).2 = 0 then ([],i,3) else if n < (fuv q 0 0).1 then ([],i,2) else if q.length - (fuv q 0 0).2 < (fuv q 0 0).1 then ([],i,3) else ((q.drop (fuv q 0 0).2).take (fuv q 0 0).1,i + ((fuv q 0 0).2 + (fuv q 0 0).1),0))
  have hfl:=fuv_le q 0 0
  have hfx:=fuv_lt q 0 0 (by decide) (by decide)
  have Hq:=hide hq
  have hq47:q.length≤140737488355328:=by omega
  have hqp:i + q.length≤p.length:=by omega
  clear hq hql
  obtain ⟨x,s,hx⟩:∃ x s,fuv q 0 0 = (x,s):=⟨_,_,rfl⟩
  rw [hx] at HVdef hfl hfx
  simp only [Nat.zero_add] at HVdef hfl hfx
  have HX:=hide hx
  clear hx
  have hx':(x:Int)≤18446744073709551615:=by omega
  by_cases hn0:n < 0
  ·have HV:=hide (by rw [uh HVdef,if_pos hn0]:rBlob p i 0 n = ([],i,1))
   go_enter Tryz.func233,Tryz.ntmps233
   go_wp2_with (first
    | (go_at_call 194; go_must (refine (xa0k b gv p i 0 _ (uh HR)).mono ?_; rintro r w1 ⟨rfl,hw1⟩; subst w1))
    | (go_at_call 197; go_must (refine (xa0r b gv p i 0 _ (uh HR)).mono ?_; rintro r w1 ⟨lv,rfl,⟨m,hw1⟩,hq,hb⟩; subst w1; rw [uh Hq] at hq; have HQ:=hide hq; have HB:=hide hb; obtain ⟨ao,len,cap,rfl,rfl,h2,⟨h3,h3'⟩,_⟩:=hq; clear hb))
    | (go_at_call 231; go_must (refine (xa3j _ q _ (by exact (uh HQ).drewN _)).mono ?_; rintro r w1 ⟨rfl,hw1⟩; subst w1; rw [uh HX])))
   go_ret
   rw [uh HV]
   exact ⟨_,rfl,Rd.nil _,((uh HR).drewN _).setFault 1,((Kept.refl [b] w).drewN _).setCell (by simp) _,by simp [blk]⟩
  ·obtain ⟨mo,rfl⟩:∃ mo:Nat,n = mo:=⟨n.toNat,by omega⟩
   have HV2:=hide (by rw [uh HVdef,if_neg hn0]:rBlob p i 0 mo = if s = 0 then ([],i,3) else if (mo:Int) < x then ([],i,2) else if q.length - s < x then ([],i,3) else ((q.drop s).take x,i + (s + x),0))
   have hmo:(0:Int)≤mo:=by omega
   have hmo2:(mo:Int)≤9223372036854775807:=hn.2
   clear HVdef
   by_cases hs0:s = 0
   ·have HV:=hide (by rw [uh HV2,if_pos hs0]:rBlob p i 0 mo = ([],i,3))
    subst hs0
    go_enter Tryz.func233,Tryz.ntmps233
    go_wp2_with (first
     | (go_at_call 194; go_must (refine (xa0k b gv p i 0 _ (uh HR)).mono ?_; rintro r w1 ⟨rfl,hw1⟩; subst w1))
     | (go_at_call 197; go_must (refine (xa0r b gv p i 0 _ (uh HR)).mono ?_; rintro r w1 ⟨lv,rfl,⟨m,hw1⟩,hq,hb⟩; subst w1; rw [uh Hq] at hq; have HQ:=hide hq; have HB:=hide hb; obtain ⟨ao,len,cap,rfl,rfl,h2,⟨h3,h3'⟩,_⟩:=hq; clear hb))
     | (go_at_call 231; go_must (refine (xa3j _ q _ (by exact (uh HQ).drewN _)).mono ?_; rintro r w1 ⟨rfl,hw1⟩; subst w1; rw [uh HX])))
    go_ret
    rw [uh HV]
    exact ⟨_,rfl,Rd.nil _,((uh HR).drewN _).setFault 3,((Kept.refl [b] w).drewN _).setCell (by simp) _,by simp [blk]⟩
   ·have ts:((s:Int) == 0) = false:=by simp; omega
    by_cases hm:(mo:Int) < x
    ·have HV:=hide (by rw [uh HV2,if_neg hs0,if_pos hm]:rBlob p i 0 mo = ([],i,2))
     go_enter Tryz.func233,Tryz.ntmps233
     go_wp2_with (first
      | (go_at_call 194; go_must (refine (xa0k b gv p i 0 _ (uh HR)).mono ?_; rintro r w1 ⟨rfl,hw1⟩; subst w1))
      | (go_at_call 197; go_must (refine (xa0r b gv p i 0 _ (uh HR)).mono ?_; rintro r w1 ⟨lv,rfl,⟨m,hw1⟩,hq,hb⟩; subst w1; rw [uh Hq] at hq; have HQ:=hide hq; have HB:=hide hb; obtain ⟨ao,len,cap,rfl,rfl,h2,⟨h3,h3'⟩,_⟩:=hq; clear hb))
      | (go_at_call 231; go_must (refine (xa3j _ q _ (by exact (uh HQ).drewN _)).mono ?_; rintro r w1 ⟨rfl,hw1⟩; subst w1; rw [uh HX])))
     go_ret
     rw [uh HV]
     exact ⟨_,rfl,Rd.nil _,((uh HR).drewN _).setFault 2,((Kept.refl [b] w).drewN _).setCell (by simp) _,by simp [blk]⟩
    ·by_cases hlt:q.length - s < x
     ·have HV:=hide (by rw [uh HV2,if_neg hs0,if_neg hm,if_pos hlt]:rBlob p i 0 mo = ([],i,3))
      have hlt':(q.length:Int) - s < x:=by omega
      go_enter Tryz.func233,Tryz.ntmps233
      go_wp2_with (first
       | (go_at_call 194; go_must (refine (xa0k b gv p i 0 _ (uh HR)).mono ?_; rintro r w1 ⟨rfl,hw1⟩; subst w1))
       | (go_at_call 197; go_must (refine (xa0r b gv p i 0 _ (uh HR)).mono ?_; rintro r w1 ⟨lv,rfl,⟨m,hw1⟩,hq,hb⟩; subst w1; rw [uh Hq] at hq; have HQ:=hide hq; have HB:=hide hb; obtain ⟨ao,len,cap,rfl,rfl,h2,⟨h3,h3'⟩,_⟩:=hq; clear hb))
       | (go_at_call 231; go_must (refine (xa3j _ q _ (by exact (uh HQ).drewN _)).mono ?_; rintro r w1 ⟨rfl,hw1⟩; subst w1; rw [uh HX])))
      go_ret
      rw [uh HV]
      exact ⟨_,rfl,Rd.nil _,((uh HR).drewN _).setFault 3,((Kept.refl [b] w).drewN _).setCell (by simp) _,by simp [blk]⟩
     ·have HV:=hide (by rw [uh HV2,if_neg hs0,if_neg hm,if_neg hlt]:rBlob p i 0 mo = ((q.drop s).take x,i + (s + x),0))
      have hlt':¬ (q.length:Int) - s < x:=by omega
      have hxq:(s:Int) + x≤q.length:=by omega
      have hx47:(x:Int)≤140737488355328:=by omega
      go_enter Tryz.func233,Tryz.ntmps233
      go_wp2_with (first
       | (go_at_call 194; go_must (refine (xa0k b gv p i 0 _ (uh HR)).mono ?_; rintro r w1 ⟨rfl,hw1⟩; subst w1))
       | (go_at_call 197; go_must (refine (xa0r b gv p i 0 _ (uh HR)).mono ?_; rintro r w1 ⟨lv,rfl,⟨m,hw1⟩,hq,hb⟩; subst w1; rw [uh Hq] at hq; have HQ:=hide hq; have HB:=hide hb; obtain ⟨ao,len,cap,rfl,rfl,h2,⟨h3,h3'⟩,_⟩:=hq; clear hb))
       | (go_at_call 231; go_must (refine (xa3j _ q _ (by exact (uh HQ).drewN _)).mono ?_; rintro r w1 ⟨rfl,hw1⟩; subst w1; rw [uh HX])))
      all_goals
       have hrd0:=(uh HQ).kept (((Kept.refl [b] w).drewN m).setCell (p:=⟨b,1,none⟩) (by simp) (.int .i64 ((i:Int) + ((s:Int) + x)))) (by intro y hy; simp; rintro rfl; exact uh hne (uh HB _ hy))
       have HFin:=hide (((uh HR).drewN m).setAt (i + (s + x)) (by omega))
       have HK:=hide (((Kept.refl [b] w).drewN m).setCell (p:=⟨b,1,none⟩) (by simp) (.int .i64 ((i:Int) + ((s:Int) + x))))
       rw [show (((i + (s + x):Nat):Int)) = (i:Int) + ((s:Int) + x) from by omega] at HFin
       have hsz:((w.drewN m).setCell ⟨b,1,none⟩ (.int .i64 ((i:Int) + ((s:Int) + x)))).heap.size = w.heap.size:=by simp [World.setCell,World.drewN]
       obtain ⟨W,hW⟩:∃ W,(w.drewN m).setCell ⟨b,1,none⟩ (.int .i64 ((i:Int) + ((s:Int) + x))) = W:=⟨_,rfl⟩
       rw [hW] at hrd0 HFin HK hsz ⊢
       have hlt2:((q.drop s).take x).length = x:=by simp; omega
       have hby:∀ y∈(q.drop s).take x,y < 256:=fun y hy=>hrd0.byte y (List.mem_of_mem_drop (List.mem_of_mem_take hy))
       refine (xa3h _ ((q.drop s).take x) _ (by first | exact hrd0.sub0 (by assumption) (by omega) | exact hrd0.sub (by omega))).mono ?_
       rintro r w2 ⟨rfl,hk2,hg2⟩
       have HG2:=hide hg2
       have HK2:=hide hk2
       have HB2:=hide hby
       clear hrd0 hg2 hk2 hW hby
       rw [hlt2,hsz]
       rw [hsz] at HG2
       have Hlt:=hide hlt2
       have Hsz:=hide hsz
       clear hlt2 hsz
       go_wp2
       go_ret
       rw [uh HV]
       refine ⟨_,rfl,?_,(uh HFin).kept (uh HK2) (by simp) (by simp),(uh HK).trans (uh HK2) (by simp),by simp [blk]⟩
       have hfin:=xa3i (uh HG2) (uh HB2) (by rw [uh Hlt]; omega)
       rw [uh Hlt] at hfin; exact hfin
 ·have he':((e:Int) != 0) = true:=by rw [bne_iff_ne]; omega
  have HV:=hide (by simp [rBlob,he]:rBlob p i e n = ([],i,e))
  clear he
  go_enter Tryz.func233,Tryz.ntmps233
  go_wp2_with (go_at_call 194; go_must (refine (xa0k b gv p i e _ (uh HR)).mono ?_; rintro r w1 ⟨rfl,hw1⟩; subst w1))
  go_ret
  rw [uh HV]
  exact ⟨_,rfl,Rd.nil _,uh HR,Kept.refl _ _,by simp [blk]⟩
end
section
open Go.RowKit Go.BigFrame
structure En where
 k:Nat
 key:List Nat
 val:List Nat
deriving DecidableEq
def enC (e:En) (kv vv:Value):Array Value:=#[.int .u8 (e.k:Int),kv,vv]
structure OkE (w:World) (e:En) (kv vv:Value):Prop where
 k:e.k < 256
 key:Rd w kv e.key
 val:Rd w vv e.val
theorem OkE.old {w w':World} {e:En} {kv vv:Value} (h:OkE w e kv vv) (k:Kept [] w w'):OkE w' e kv vv:=⟨h.k,h.key.old k (by simp),h.val.old k (by simp)⟩
def chkE (e:En):Nat:=if 64 < e.key.length∨256 < e.val.length then 2 else if (e.k≠1∧e.k≠2)∨(e.k = 2∧0 < e.val.length) then 3 else 0
def enB (e:En):List Nat:=e.k :: (uv e.key.length++e.key++(if e.k = 1 then uv e.val.length++e.val else []))
set_option maxHeartbeats 1000000 in
theorem xa6c (k:Nat) (w:World) :
  Calls Tryz.prog 232 #[.int .u8 k] w fun e w'=>e = .returned (.bool (decide (k = 1∨k = 2)))∧w' = w:=by
 by_cases h1:k = 1
 ·have HD:=hide (decide_eq_true (Or.inl h1:k = 1∨k = 2))
  have e1:((k:Int) == 1) = true:=by rw [h1]; rfl
  clear h1
  go_enter Tryz.func232,Tryz.ntmps232
  go_wp2
  go_ret
  exact ⟨by rw [uh HD]; rfl,rfl⟩
 ·have e1:((k:Int) == 1) = false:=by rw [beq_eq_false_iff_ne]; omega
  by_cases h2:k = 2
  ·have HD:=hide (decide_eq_true (Or.inr h2:k = 1∨k = 2))
   have e2:((k:Int) == 2) = true:=by rw [h2]; rfl
   clear h1 h2
   go_enter Tryz.func232,Tryz.ntmps232
   go_wp2
   go_ret
   exact ⟨by rw [uh HD]; rfl,rfl⟩
  ·have HD:=hide (decide_eq_false (by omega:¬ (k = 1∨k = 2)))
   have e2:((k:Int) == 2) = false:=by rw [beq_eq_false_iff_ne]; omega
   clear h1 h2
   go_enter Tryz.func232,Tryz.ntmps232
   go_wp2
   go_ret
   exact ⟨by rw [uh HD]; rfl,rfl⟩
set_option maxHeartbeats 1000000 in
theorem xb6n (e:En) (kv vv:Value) (w:World) (h:OkE w e kv vv) :
  Calls Tryz.prog 208 #[.agg (enC e kv vv)] w fun r w'=>r = .returned (.int .i64 (chkE e))∧Kept [] w w':=by
 obtain ⟨E,hE⟩:∃ E,chkE e = E:=⟨_,rfl⟩
 rw [hE]
 have HE:=hide hE
 clear hE
 obtain ⟨a1,n1,c1,rfl,hn1,_⟩:=id h.key
 obtain ⟨a2,n2,c2,rfl,hn2,_⟩:=id h.val
 obtain ⟨k,key,val⟩:=e
 simp only at hn1 hn2
 subst hn1
 subst hn2
 unfold enC
 have HK0:=hide ((Kept.refl [] w).alloc (.cells #[.int .u8 (k:Int),.slice a1 key.length c1,.slice a2 val.length c2] 71))
 go_enter Tryz.func208,Tryz.ntmps208
 by_cases h1:64 < key.length
 ·have h1':(64:Int) < key.length:=by omega
  have HE2:=hide (by rw [← uh HE]; simp [chkE,h1]:E = 2)
  go_wp2
  go_ret
  exact ⟨by rw [uh HE2]; rfl,uh HK0⟩
 ·have h1':¬ (64:Int) < key.length:=by omega
  by_cases h2:256 < val.length
  ·have h2':(256:Int) < val.length:=by omega
   have HE2:=hide (by rw [← uh HE]; simp [chkE,h2]:E = 2)
   go_wp2
   go_ret
   exact ⟨by rw [uh HE2]; rfl,uh HK0⟩
  ·have h2':¬ (256:Int) < val.length:=by omega
   go_wp2_with fail
   refine Calls.mono (xa6c k _) ?_
   rintro r w1 ⟨rfl,rfl⟩
   by_cases hk:k = 1∨k = 2
   ·rw [decide_eq_true hk]
    by_cases hk2:k = 2
    ·have e2:((k:Int) == 2) = true:=by rw [hk2]; rfl
     by_cases hv:0 < val.length
     ·have hv':(0:Int) < val.length:=by omega
      have HE2:=hide (by rw [← uh HE]; simp [chkE,h1,h2,hk2,hv]:E = 3)
      clear hk hk2
      go_wp2
      go_ret
      exact ⟨by rw [uh HE2]; rfl,uh HK0⟩
     ·have hv':¬ (0:Int) < val.length:=by omega
      have HE2:=hide (by rw [← uh HE]; simp [chkE,h1,h2,hk2,hv]:E = 0)
      clear hk hk2
      go_wp2
      go_ret
      exact ⟨by rw [uh HE2]; rfl,uh HK0⟩
    ·have e2:((k:Int) == 2) = false:=by rw [beq_eq_false_iff_ne]; omega
     have HE2:=hide (by rw [← uh HE]; have hk1:k = 1:=(by omega); simp [chkE,h1,h2,hk1]:E = 0)
     clear hk hk2
     go_wp2
     go_ret
     exact ⟨by rw [uh HE2]; rfl,uh HK0⟩
   ·rw [decide_eq_false hk]
    have HE2:=hide (by rw [← uh HE]; have hk1:k≠1∧k≠2:=(by omega); simp [chkE,h1,h2,hk1]:E = 3)
    clear hk
    go_wp2
    go_ret
    exact ⟨by rw [uh HE2]; rfl,uh HK0⟩
theorem Wn.notNew {w0 w:World} {b:Nat} {v:Value} {bs:List Nat} (h:Wn w0 w b v bs):w.heap.size∉b :: v.ownBlock.toList:=by
 intro hx
 rcases List.mem_cons.1 hx with hx | hx
 ·have:=h.at_.lt; omega
 ·have:=h.at_.ownlt (g:=w.heap.size) (by simpa [Option.mem_toList] using hx); omega
theorem xa3w (w:World) (a:Obj) (b:Obj):((w.alloc a).alloc b).heap[w.heap.size + 1]? = some b:=by
 have h9:=heap_alloc_new (w.alloc a) b
 have e:(w.alloc a).heap.size = w.heap.size + 1:=Array.size_push _
 rw [e] at h9
 exact h9
set_option maxHeartbeats 1000000 in
theorem xa7j {w0 w:World} {b:Nat} {v:Value} {bs:List Nat} (e:En) (kv vv:Value) (h:Wn w0 w b v bs) (he:OkE w0 e kv vv) (hl:bs.length + e.key.length + e.val.length≤1000000000000) :
  Calls Tryz.prog 155 #[.pointer (some ⟨b,0,none⟩),.agg (enC e kv vv)] w fun r w'=>r = .returned (.tuple #[])∧∃ v',Wn w0 w' b v' (bs++enB e):=by
 have HW:=hide h
 have HE:=hide he
 have hk:=he.k
 obtain ⟨a1,n1,c1,rfl,hn1,_⟩:=id he.key
 obtain ⟨a2,n2,c2,rfl,hn2,_⟩:=id he.val
 obtain ⟨k,key,val⟩:=e
 simp only at hn1 hn2 hk hl
 subst hn1
 subst hn2
 clear h he
 unfold enC
 have HG:=hide (heap_alloc_new w (.cells #[.int .u8 (k:Int),.slice a1 key.length c1,.slice a2 val.length c2] 71))
 have HWW:=hide ((uh HW).pass ((Kept.refl [] w).alloc (.cells #[.int .u8 (k:Int),.slice a1 key.length c1,.slice a2 val.length c2] 71)))
 have HNN:=hide (uh HW).notNew
 go_enter Tryz.func155,Tryz.ntmps155
 go_wp2_with fail
 obtain ⟨W,hW⟩:∃ W,w.alloc (.cells #[.int .u8 (k:Int),.slice a1 key.length c1,.slice a2 val.length c2] 71) = W:=⟨_,rfl⟩
 rw [hW] at HG HWW ⊢
 clear hW
 have HC0:=hide (by rw [cell_of_row _ _ _ _ _ _ (uh HG)]; rfl:W.cell? ⟨w.heap.size,0,none⟩ = some (.int .u8 (k:Int)))
 have HC1:=hide (by rw [cell_of_row _ _ _ _ _ _ (uh HG)]; rfl:W.cell? ⟨w.heap.size,1,none⟩ = some (.slice a1 key.length c1))
 have HC2:=hide (by rw [cell_of_row _ _ _ _ _ _ (uh HG)]; rfl:W.cell? ⟨w.heap.size,2,none⟩ = some (.slice a2 val.length c2))
 refine Calls.mono (xb7p b v bs k W (uh HWW).at_ hk (by omega)) ?_
 rintro r w1 ⟨rfl,v1,h1,g1⟩
 have d0:=g1.kept.cell (uh HC0) (uh HNN)
 have d1:=g1.kept.cell (uh HC1) (uh HNN)
 have HW1:=hide ((uh HWW).grew h1 g1)
 have HG1:=hide g1
 rw [show bs++wide k 1 = bs++[k] by simp [wide,Nat.mod_eq_of_lt hk]] at HW1
 clear h1 g1
 have HU1:=hide (uv_len key.length (by omega))
 have HU2:=hide (uv_len val.length (by omega))
 go_wp2_with fail
 refine Calls.mono (xa8j b v1 _ (bs++[k]) key w1 (uh HW1).at_ (fun w' kk=>(uh HW1).rd (uh HE).key kk) (by simp only [List.length_append,List.length_cons,List.length_nil]; omega)) ?_
 rintro r w2 ⟨rfl,v2,h2,g2⟩
 have g12:=(uh HG1).trans g2
 have q0:=g12.kept.cell (uh HC0) (uh HNN)
 have q2:=g12.kept.cell (uh HC2) (uh HNN)
 have HW2:=hide ((uh HW1).grew h2 g2)
 clear h2 g2 g12 d0 d1
 by_cases hk1:k = 1
 ·have e1:((k:Int) == 1) = true:=by rw [hk1]; rfl
  have HB:=hide (by simp [enB,hk1]:enB ⟨k,key,val⟩ = k :: (uv key.length++key++(uv val.length++val)))
  clear hk1
  go_wp2_with fail
  refine Calls.mono (xc1l (uh HW2) (uh HE).val (by have:=uh HU1; have:=uh HU2; simp only [List.length_append,List.length_cons,List.length_nil]; omega)) ?_
  rintro r w3 ⟨rfl,v3,h3⟩
  have HW3:=hide h3
  clear h3
  go_wp2
  go_end0
  refine ⟨rfl,v3,?_⟩
  rw [uh HB]
  have h9:=uh HW3
  simpa only [List.append_assoc,List.cons_append,List.nil_append] using h9
 ·have e1:((k:Int) == 1) = false:=by rw [beq_eq_false_iff_ne]; omega
  have HB:=hide (by simp [enB,hk1]:enB ⟨k,key,val⟩ = k :: (uv key.length++key))
  clear hk1
  go_wp2
  go_end0
  refine ⟨rfl,v2,?_⟩
  rw [uh HB]
  have h9:=uh HW2
  simpa only [List.append_assoc,List.cons_append,List.nil_append] using h9

theorem en_eq (a b:En):decide (a = b) = (decide (a.k = b.k) && (decide (a.key = b.key) && decide (a.val = b.val))):=by
 cases a; cases b; simp
set_option maxHeartbeats 1000000 in
theorem xa6i (a b:En) (ka va kb vb:Value) (w:World) (ha:OkE w a ka va) (hb:OkE w b kb vb) :
  Calls Tryz.prog 152 #[.agg (enC a ka va),.agg (enC b kb vb)] w fun r w'=>r = .returned (.bool (decide (a = b)))∧Kept [] w w':=by
 rw [en_eq]
 obtain ⟨k,key,val⟩:=a
 obtain ⟨k',key',val'⟩:=b
 have HA:=hide ha
 have HB:=hide hb
 clear ha hb
 simp only
 obtain ⟨X,hX⟩:∃ X,decide (key = key') = X:=⟨_,rfl⟩
 obtain ⟨Y,hY⟩:∃ X,decide (val = val') = X:=⟨_,rfl⟩
 rw [hX,hY]
 have HX:=hide hX
 have HY:=hide hY
 clear hX hY
 unfold enC
 simp only
 have HG:=hide (((Kept.refl [] (w.alloc (.cells #[.int .u8 (k:Int),ka,va] 71))).alloc (.cells #[.int .u8 (k':Int),kb,vb] 71)).heap (heap_alloc_new w (.cells #[.int .u8 (k:Int),ka,va] 71)) (by simp))
 have HH:=hide (xa3w w (.cells #[.int .u8 (k:Int),ka,va] 71) (.cells #[.int .u8 (k':Int),kb,vb] 71))
 have HK0:=hide (((Kept.refl [] w).alloc (.cells #[.int .u8 (k:Int),ka,va] 71)).alloc (.cells #[.int .u8 (k':Int),kb,vb] 71))
 go_enter Tryz.func152,Tryz.ntmps152
 by_cases hk:k = k'
 ·have e1:((k:Int) == (k':Int)) = true:=by rw [hk]; simp
  rw [decide_eq_true hk]
  have HKE:=hide hk
  clear hk
  go_wp2_with fail
  refine Calls.mono (xb0v _ _ key key' _ ((uh HA).key.old (uh HK0) (by simp)) ((uh HB).key.old (uh HK0) (by simp))) ?_
  rintro r w1 ⟨rfl,n1,rfl⟩
  rw [uh HX]
  clear HX
  have HK1:=hide ((uh HK0).drewN n1)
  have HA1:=hide ((uh HA).val.old (uh HK1) (by simp))
  have HB1:=hide ((uh HB).val.old (uh HK1) (by simp))
  cases X with
  | true =>
   go_wp2_with fail
   refine Calls.mono (xb0v _ _ val val' _ (uh HA1) (uh HB1)) ?_
   rintro r w2 ⟨rfl,n2,rfl⟩
   rw [uh HY]
   clear HY
   go_wp2
   go_ret
   exact ⟨by simp,(uh HK0).drewN _⟩
  | false =>
   go_wp2
   go_ret
   exact ⟨by simp,uh HK1⟩
 ·have e1:((k:Int) == (k':Int)) = false:=by rw [beq_eq_false_iff_ne]; omega
  rw [decide_eq_false hk]
  clear hk
  go_wp2
  go_ret
  exact ⟨by simp,uh HK0⟩
theorem xb4h {w:World} {g:Nat} {a b c:Value} {t:TypeId} (h:w.heap[g]? = some (.cells #[a,b,c] t (0,0))) (x y z:Value):(((w.setCell ⟨g,0,none⟩ x).setCell ⟨g,1,none⟩ y).setCell ⟨g,2,none⟩ z).heap[g]? = some (.cells #[x,y,z] t (0,0)):=by
 rw [heap_setCell_same _ g 2 _ t _ (heap_setCell_same _ g 1 _ t _ (heap_setCell_same w g 0 _ t _ h))]; rfl
theorem xa3g {L:List Nat} {w0 w:World} (k:Kept L w0 w) (g:Nat) (hg:g∈L∨w0.heap.size≤g) (x y z:Value):Kept L w0 (((w.setCell ⟨g,0,none⟩ x).setCell ⟨g,1,none⟩ y).setCell ⟨g,2,none⟩ z):=((k.setCell hg x).setCell hg y).setCell hg z
theorem Tryz.size_entry:(Tryz.prog.info? 71).map (·.size) = some 3:=by kernel_rfl
theorem xb7g (v:Value) (bs:List Nat) (w:World) (h:Rd w v bs) :
  Calls Tryz.prog 113 #[v] w fun e w'=>∃ v',e = .returned v'∧Rd w' v' bs∧(∀ x∈blk v',w.heap.size≤x)∧Kept [] w w' :=
 (xb9s v bs w h).mono fun e w' ⟨h1,h2,h3⟩=>⟨_,h1,xa3i h3 h.byte h.len,by simp [blk],h2⟩
set_option maxHeartbeats 1000000 in
theorem xa6g (e:En) (kv vv:Value) (w:World) (h:OkE w e kv vv) :
  Calls Tryz.prog 104 #[.agg (enC e kv vv)] w fun r w'=>∃ kv' vv',r = .returned (.agg (enC e kv' vv'))∧OkE w' e kv' vv'∧Kept [] w w'∧∀ y,y∈blk kv'∨y∈blk vv'→w.heap.size≤y:=by
 have H:=hide h
 obtain ⟨k,key,val⟩:=e
 clear h
 unfold enC
 simp only
 have HG:=hide (((Kept.refl [] (w.alloc (.cells #[.int .u8 (k:Int),kv,vv] 71))).alloc (.cells #[.int .u8 0,.slice none 0 0,.slice none 0 0] 71)).heap (heap_alloc_new w (.cells #[.int .u8 (k:Int),kv,vv] 71)) (by simp))
 have HZ:=hide (xa3w w (.cells #[.int .u8 (k:Int),kv,vv] 71) (.cells #[.int .u8 0,.slice none 0 0,.slice none 0 0] 71))
 have HK0:=hide (((Kept.refl [] w).alloc (.cells #[.int .u8 (k:Int),kv,vv] 71)).alloc (.cells #[.int .u8 0,.slice none 0 0,.slice none 0 0] 71))
 have HSZ:=hide (show ((w.alloc (.cells #[.int .u8 (k:Int),kv,vv] 71)).alloc (.cells #[.int .u8 0,.slice none 0 0,.slice none 0 0] 71)).heap.size = w.heap.size + 2 by simp)
 go_enter Tryz.func104,Tryz.ntmps104
 go_wp2_with fail
 obtain ⟨W,hW⟩:∃ W,(w.alloc (.cells #[.int .u8 (k:Int),kv,vv] 71)).alloc (.cells #[.int .u8 0,.slice none 0 0,.slice none 0 0] 71) = W:=⟨_,rfl⟩
 rw [hW] at HG HZ HK0 HSZ ⊢
 clear hW
 have x0:W.cell? ⟨w.heap.size,0,none⟩ = some (.int .u8 (k:Int)):=by rw [cell_of_row _ _ _ _ _ _ (uh HG)]; rfl
 have x1:W.cell? ⟨w.heap.size,1,none⟩ = some kv:=by rw [cell_of_row _ _ _ _ _ _ (uh HG)]; rfl
 have x2:W.cell? ⟨w.heap.size,2,none⟩ = some vv:=by rw [cell_of_row _ _ _ _ _ _ (uh HG)]; rfl
 have HX0:=hide x0
 have HX1:=hide x1
 have HX2:=hide x2
 have HKW:=hide (((uh H).key.old (uh HK0) (by simp)).old (Kept.refl [] W).drew (by simp))
 have HVW:=hide ((uh H).val.old (uh HK0) (by simp))
 have hne:w.heap.size≠w.heap.size + 1:=by omega
 go_region_held3 (fun w'=>w'.cell? ⟨w.heap.size,0,none⟩ = some (.int .u8 (k:Int))∧w'.cell? ⟨w.heap.size,1,none⟩ = some kv∧w'.cell? ⟨w.heap.size,2,none⟩ = some vv) (go_keep) (first
  | (go_at_call 113; refine (xb7g _ key _ (by exact uh HKW)).mono ?_; rintro e w3 ⟨v3,rfl,r3,n3,k3⟩; obtain ⟨a3,m3,c3,hu3,_⟩:=id r3; subst hu3; have HR3:=hide r3; have HN3:=hide (show ∀ x∈blk (.slice a3 m3 c3),W.heap.size≤x from n3); have K3:=(Kept.refl [] W).drew.trans k3 (by simp); have HK3:=hide K3; have HV3:=hide ((uh HVW).old K3 (by simp)); have y0:=K3.cell (uh HX0) (by simp); have y1:=K3.cell (uh HX1) (by simp); have y2:=K3.cell (uh HX2) (by simp); clear K3 k3 r3 n3)
  | (go_at_call 113; refine (xb7g _ val _ (by exact uh HV3)).mono ?_; rintro e w4 ⟨v4,rfl,r4,n4,k4⟩; obtain ⟨a4,m4,c4,hu4,_⟩:=id r4; subst hu4; have HR4:=hide r4; have HN4:=hide n4; have HS4:=hide (uh HK3).size; have HQ4:=hide ((uh HR3).old k4 (by simp)); have K4:=(uh HK3).trans k4 (by simp); have HK4:=hide K4; have z0:=K4.cell (uh HX0) (by simp); have z1:=K4.cell (uh HX1) (by simp); have z2:=K4.cell (uh HX2) (by simp); have HZ4:=hide (K4.heap (uh HZ) (by simp)); have t0:=cell_of_row _ _ 0 _ _ _ (uh HZ4); have t1:=cell_of_row _ _ 1 _ _ _ (uh HZ4); have t2:=cell_of_row _ _ 2 _ _ _ (uh HZ4); have f0:=frozen_of_row _ _ 0 _ _ (uh HZ4); have f1:=frozen_of_row _ _ 1 _ _ (uh HZ4); have f2:=frozen_of_row _ _ 2 _ _ (uh HZ4); clear K4 k4 r4 n4))
 all_goals go_wp2
 all_goals
  refine bodyPost_ret (v:=.agg #[.int .u8 (k:Int),.slice a3 m3 c3,.slice a4 m4 c4]) ?_ rfl ⟨.slice a3 m3 c3,.slice a4 m4 c4,rfl,⟨(uh H).k,?_,?_⟩,?_,?_⟩
  ·exact results_cell_row rfl _ _ (w.heap.size + 1) _ #[.int .u8 (k:Int),.slice a3 m3 c3,.slice a4 m4 c4] (0,0) _ rfl (by exact xb4h (uh HZ4) _ _ _) Tryz.underlying71 rfl Tryz.size_entry
  ·refine (uh HQ4).kept (xa3g (Kept.refl [w.heap.size + 1] w4) (w.heap.size + 1) (Or.inl (by simp)) _ _ _) ?_
   intro x hx hm
   have h9:=uh HN3 x hx
   have h8:x = w.heap.size + 1:=by simpa using hm
   have h7:=uh HSZ
   omega
  ·refine (uh HR4).kept (xa3g (Kept.refl [w.heap.size + 1] w4) (w.heap.size + 1) (Or.inl (by simp)) _ _ _) ?_
   intro x hx hm
   have h9:=uh HN4 x hx
   have h8:x = w.heap.size + 1:=by simpa using hm
   have h7:=uh HSZ
   have h6:=uh HS4
   omega
  ·exact xa3g ((uh HK0).trans (uh HK4) (by simp)) (w.heap.size + 1) (Or.inr (by omega)) _ _ _
  ·intro y hy
   have h7:=uh HSZ
   have h6:=uh HS4
   rcases hy with hy | hy
   ·have h9:=uh HN3 y hy; omega
   ·have h9:=uh HN4 y hy; omega
theorem Kept.setRowE {L:List Nat} {a w:World} (h:Kept L a w) {g:Nat} (hg:g∈L∨a.heap.size≤g) (cs:Array Value):Kept L a (w.setRow g cs) :=
 h.trans (M:=[g]) ⟨rfl,rfl,rfl,by simp [World.setRow],fun k _ hn=>setRow_other w g k _ (by simpa using hn)⟩ (by simpa using hg)
theorem xb1g {a b c:Value} (ha:a.oneCell' = true) (hb:b.oneCell' = true) (hc:c.oneCell' = true):(#[a,b,c]:Array Value).all (·.oneCell') = true:=by simp [ha,hb,hc]
def gave (f:Nat):List PanicEntry:=[{ v:=.iface 286 (.agg #[.int .i64 (f:Int)]),recovered:=false }]
set_option maxHeartbeats 1000000 in
theorem xa2c (w:World):Calls Tryz.prog 137 #[.int .i64 0] w fun r w'=>r = .returned (.tuple #[])∧w' = w:=by
 go_enter Tryz.func137,Tryz.ntmps137
 go_wp2
 go_end0
 exact ⟨rfl,rfl⟩
set_option maxHeartbeats 1000000 in
theorem xa1c (f:Nat) (w:World) (hf:f≠0):Calls Tryz.prog 137 #[.int .i64 f] w fun r w'=>r = .panicked (gave f)∧w' = w:=by
 have hb:((f:Int) != 0) = true:=by rw [bne_iff_ne]; omega
 go_enter Tryz.func137,Tryz.ntmps137
 go_wp2
 exact ⟨rfl,rfl,rfl⟩
def takeE (p:List Nat) (i:Nat):En × Nat × Nat :=
 if (rNum p i 0 1).1 % 256 = 1∨(rNum p i 0 1).1 % 256 = 2 then
  if (rNum p i 0 1).1 % 256 = 1 then
   (⟨1,(rBlob p (rNum p i 0 1).2.1 (rNum p i 0 1).2.2 64).1,(rBlob p (rBlob p (rNum p i 0 1).2.1 (rNum p i 0 1).2.2 64).2.1 (rBlob p (rNum p i 0 1).2.1 (rNum p i 0 1).2.2 64).2.2 256).1⟩,
    (rBlob p (rBlob p (rNum p i 0 1).2.1 (rNum p i 0 1).2.2 64).2.1 (rBlob p (rNum p i 0 1).2.1 (rNum p i 0 1).2.2 64).2.2 256).2)
  else (⟨2,(rBlob p (rNum p i 0 1).2.1 (rNum p i 0 1).2.2 64).1,[]⟩,(rBlob p (rNum p i 0 1).2.1 (rNum p i 0 1).2.2 64).2)
 else (⟨0,[],[]⟩,(rNum p i 0 1).2.1,3)
def TookE (w w':World) (b:Nat) (gv:Value) (p:List Nat) (x:En × Nat × Nat) (r:Ending):Prop :=
 (x.2.2 = 0→∃ kv vv,r = .returned (.agg (enC x.1 kv vv))∧OkE w' x.1 kv vv∧ReAt w' b gv p x.2.1 0∧∀ y,y∈blk kv∨y∈blk vv→w.heap.size≤y)∧(x.2.2≠0→r = .panicked (gave x.2.2))∧Kept [b] w w'
set_option maxHeartbeats 2000000 in
theorem xa6l (b:Nat) (gv:Value) (p:List Nat) (i:Nat) (w:World) (h:ReAt w b gv p i 0) (hgv:∀ x∈blk gv,x < w.heap.size) :
  Calls Tryz.prog 196 #[.pointer (some ⟨b,0,none⟩)] w fun r w'=>TookE w w' b gv p (takeE p i) r:=by
 have H:=hide h
 have hlt:=h.lt
 obtain ⟨T,hT⟩:∃ T,takeE p i = T:=⟨_,rfl⟩
 rw [hT]
 have HT:=hide hT
 unfold takeE at HT
 clear hT h
 have HZ:=hide (heap_alloc_new w (.cells #[.int .u8 0,.slice none 0 0,.slice none 0 0] 71))
 have HK0:=hide ((Kept.refl [b] w).alloc (.cells #[.int .u8 0,.slice none 0 0,.slice none 0 0] 71))
 have HR0:=hide ((uh H).kept ((Kept.refl [] w).alloc (.cells #[.int .u8 0,.slice none 0 0,.slice none 0 0] 71)) (by simp) (by simp))
 go_enter Tryz.func196,Tryz.ntmps196
 go_wp2_with fail
 refine Calls.mono (xb7i b gv p i 0 _ (uh HR0)) ?_
 rintro r w1 ⟨rfl,r1,k1⟩
 have hne0:w.heap.size≠b:=by omega
 have HZ1:=hide (k1.heap (uh HZ) (by simpa using hne0))
 have HK1:=hide ((uh HK0).trans k1 (by simp))
 obtain ⟨x,hx⟩:∃ x,rNum p i 0 1 = x:=⟨_,rfl⟩
 rw [hx] at HT r1 ⊢
 clear hx
 obtain ⟨x,i1,e1⟩:=x
 simp only at HT r1 ⊢
 have HR1:=hide r1
 clear r1 k1
 obtain ⟨k,hk⟩:∃ k,x % 256 = k:=⟨_,rfl⟩
 have hkl:k < 256:=by rw [← hk]; exact Nat.mod_lt _ (by decide)
 rw [hk] at HT ⊢
 clear hk
 have hs1:=(uh HK1).size
 have hs1':w.heap.size < w1.heap.size:=by have:=(uh HK1).size; have h9:=lt_of_block (uh HZ1); exact h9
 have HG1:=hide (heap_alloc_new w1 (.cells #[.int .u8 (k:Int),.slice none 0 0,.slice none 0 0] 71))
 go_wp2_with fail
 refine Calls.mono (xa6c k _) ?_
 rintro r w2 ⟨rfl,rfl⟩
 have HK1a:=hide ((uh HK1).alloc (.cells #[.int .u8 (k:Int),.slice none 0 0,.slice none 0 0] 71))
 have HRW:=hide ((uh HR1).kept ((Kept.refl [] w1).alloc (.cells #[.int .u8 (k:Int),.slice none 0 0,.slice none 0 0] 71)) (by simp) (by simp))
 by_cases hk12:¬ (k = 1∨k = 2)
 ·rw [decide_eq_false hk12]
  have HT2:=hide (by rw [← uh HT,if_neg hk12]:T = (⟨0,[],[]⟩,i1,3))
  clear hk12
  go_wp2_with fail
  refine Calls.mono (xa1c 3 _ (by decide)) ?_
  rintro r w3 ⟨rfl,rfl⟩
  exact ⟨rfl,fun h=>absurd h (by rw [uh HT2]; simp),fun _=>by rw [uh HT2],uh HK1a⟩
 replace hk12:=Decidable.not_not.1 hk12
 rw [decide_eq_true hk12]
 have HT1:=hide (by have h9:=uh HT; rw [if_pos hk12] at h9; exact h9)
 have HK12:=hide hk12
 clear hk12 HT
 go_wp2_with fail
 refine Calls.mono (xa9b b gv p i1 e1 64 _ (uh HRW) (by decide)) ?_
 rintro r w3 ⟨kv,rfl,rd3,r3,k3,n3⟩
 obtain ⟨y,hy⟩:∃ y,rBlob p i1 e1 64 = y:=⟨_,rfl⟩
 rw [hy] at HT1 rd3 r3
 clear hy
 obtain ⟨key,i2,e2⟩:=y
 simp only at HT1 rd3 r3
 have hneg:w1.heap.size≠b:=by omega
 have HG3:=hide (k3.heap (uh HG1) (by simpa using hneg))
 have HZ3:=hide (k3.heap ((Kept.refl [] w1).alloc (.cells #[.int .u8 (k:Int),.slice none 0 0,.slice none 0 0] 71) |>.heap (uh HZ1) (by simp)) (by simpa using hne0))
 have HK3:=hide ((uh HK1a).trans k3 (by simp))
 have HN3:=hide (show ∀ x∈blk kv,w1.heap.size + 1≤x from fun x hx=>by have h9:=n3 x hx; rw [show (w1.alloc (.cells #[.int .u8 (k:Int),.slice none 0 0,.slice none 0 0] 71)).heap.size = w1.heap.size + 1 from Array.size_push _] at h9; exact h9)
 obtain ⟨a3,m3,c3,hu3,_⟩:=id rd3
 subst hu3
 have HD3:=hide rd3
 have HR3:=hide r3
 clear rd3 r3 k3 n3
 have s0:=cell_of_row _ _ 0 _ _ _ (uh HG3)
 have s1:=cell_of_row _ _ 1 _ _ _ (uh HG3)
 have f1:=frozen_of_row _ _ 1 _ _ (uh HG3)
 have HG4:=hide (by have h9:=heap_setCell_same _ w1.heap.size 1 _ 71 (.slice a3 m3 c3) (uh HG3); exact h9:(w3.setCell ⟨w1.heap.size,1,none⟩ (.slice a3 m3 c3)).heap[w1.heap.size]? = some (.cells #[.int .u8 (k:Int),.slice a3 m3 c3,.slice none 0 0] 71 (0,0)))
 have kst:=(Kept.refl [w1.heap.size] w3).setCell (p:=⟨w1.heap.size,1,none⟩) (Or.inl (by simp)) (.slice a3 m3 c3)
 have HZ4:=hide (kst.heap (uh HZ3) (by simp; omega))
 have HK4:=hide ((uh HK3).setCell (p:=⟨w1.heap.size,1,none⟩) (Or.inr (by show w.heap.size≤w1.heap.size; omega)) (.slice a3 m3 c3))
 have HR4:=hide ((uh HR3).kept kst (by simp; omega) (fun x hx=>by simp; have h9:=hgv x hx; omega))
 have HD4:=hide ((uh HD3).kept kst (fun x hx=>by simp; have h9:=uh HN3 x hx; omega))
 clear kst
 have t0:=cell_of_row _ _ 0 _ _ _ (uh HG4)
 by_cases hk1:k = 1
 ·have hb1:((k:Int) == 1) = true:=by rw [hk1]; rfl
  have HT2:=hide (by have h9:=uh HT1; rw [if_pos hk1] at h9; exact h9.symm)
  have HKK:=hide hk1
  clear hk1 HT1
  go_wp2_with fail
  obtain ⟨W4,hW4⟩:∃ W,w3.setCell ⟨w1.heap.size,1,none⟩ (.slice a3 m3 c3) = W:=⟨_,rfl⟩
  rw [hW4] at HG4 HZ4 HK4 HR4 HD4 t0 ⊢
  clear hW4 s0 s1 f1 HG3 HR3 HD3
  refine Calls.mono (xa9b b gv p i2 e2 256 W4 (uh HR4) (by decide)) ?_
  rintro r w5 ⟨vv,rfl,rd5,r5,k5,n5⟩
  obtain ⟨y,hy⟩:∃ y,rBlob p i2 e2 256 = y:=⟨_,rfl⟩
  rw [hy] at HT2 rd5 r5
  clear hy
  obtain ⟨val,iF,eF⟩:=y
  simp only at HT2 rd5 r5
  have HG5:=hide (k5.heap (uh HG4) (by simpa using hneg))
  have HZ5:=hide (k5.heap (uh HZ4) (by simpa using hne0))
  have HK5:=hide ((uh HK4).trans k5 (by simp))
  have hsz4:w1.heap.size < W4.heap.size:=lt_of_block (uh HG4)
  have HN5:=hide (show ∀ x∈blk vv,w1.heap.size + 1≤x from fun x hx=>by have h9:=n5 x hx; omega)
  have HD5:=hide ((uh HD4).kept k5 (fun x hx=>by simp; have h9:=uh HN3 x hx; omega))
  obtain ⟨a5,m5,c5,hu5,_⟩:=id rd5
  subst hu5
  have HV5:=hide rd5
  have HR5:=hide r5
  clear rd5 r5 k5 n5
  have s2:=cell_of_row _ _ 2 _ _ _ (uh HG5)
  have f2:=frozen_of_row _ _ 2 _ _ (uh HG5)
  have kst:=(Kept.refl [w1.heap.size] w5).setCell (p:=⟨w1.heap.size,2,none⟩) (Or.inl (by simp)) (.slice a5 m5 c5)
  have HGF:=hide (by have h9:=heap_setCell_same _ w1.heap.size 2 _ 71 (.slice a5 m5 c5) (uh HG5); exact h9:(w5.setCell ⟨w1.heap.size,2,none⟩ (.slice a5 m5 c5)).heap[w1.heap.size]? = some (.cells #[.int .u8 (k:Int),.slice a3 m3 c3,.slice a5 m5 c5] 71 (0,0)))
  have HZF:=hide (kst.heap (uh HZ5) (by simp; omega))
  have HKF:=hide ((uh HK5).setCell (p:=⟨w1.heap.size,2,none⟩) (Or.inr (by show w.heap.size≤w1.heap.size; omega)) (.slice a5 m5 c5))
  have HRF:=hide ((uh HR5).kept kst (by simp; omega) (fun x hx=>by simp; have h9:=hgv x hx; omega))
  have HDF:=hide ((uh HD5).kept kst (fun x hx=>by simp; have h9:=uh HN3 x hx; omega))
  have HVF:=hide ((uh HV5).kept kst (fun x hx=>by simp; have h9:=uh HN5 x hx; omega))
  clear kst
  go_wp2_with fail
  obtain ⟨WF,hWF⟩:∃ W,w5.setCell ⟨w1.heap.size,2,none⟩ (.slice a5 m5 c5) = W:=⟨_,rfl⟩
  rw [hWF] at HGF HZF HKF HRF HDF HVF ⊢
  clear hWF s2 f2
  have krow:=(Kept.refl [w.heap.size] WF).setRowE (g:=w.heap.size) (Or.inl (by simp)) #[.int .u8 (k:Int),.slice a3 m3 c3,.slice a5 m5 c5]
  have HRR:=hide ((uh HRF).kept krow (by simp; omega) (fun x hx=>by simp; have h9:=hgv x hx; omega))
  have HOKF:=hide (⟨by show (1:Nat) < 256; omega,(uh HDF).kept krow (fun x hx=>by simp; have h9:=uh HN3 x hx; omega),(uh HVF).kept krow (fun x hx=>by simp; have h9:=uh HN5 x hx; omega)⟩:OkE (WF.setRow w.heap.size #[.int .u8 (k:Int),.slice a3 m3 c3,.slice a5 m5 c5]) ⟨1,key,val⟩ (.slice a3 m3 c3) (.slice a5 m5 c5))
  have HNEW:=hide (show ∀ y,y∈blk (.slice a3 m3 c3)∨y∈blk (.slice a5 m5 c5)→w.heap.size≤y from fun y hy=>by rcases hy with h | h; have h9:=uh HN3 y h; omega; have h9:=uh HN5 y h; omega)
  clear krow
  go_wp2_with fail
  refine Calls.mono (xa0k b gv p iF eF WF (uh HRF)) ?_
  rintro r w5 ⟨rfl,rfl⟩
  by_cases hE:eF = 0
  ·subst hE
   go_wp2_with fail
   refine Calls.mono (xa2c _) ?_
   rintro r w6 ⟨rfl,rfl⟩
   go_wp2_with (first
    | (refine wpList_load_row rfl 71 _ rfl w1.heap.size rfl _ #[.int .u8 (k:Int),.slice a3 m3 c3,.slice a5 m5 c5] (0,0) _ (uh HGF) Tryz.underlying71 rfl Tryz.size_entry ?_)
    | (refine wpList_store_row rfl 71 _ _ rfl w.heap.size #[.int .u8 (k:Int),.slice a3 m3 c3,.slice a5 m5 c5] rfl rfl _ #[.int .u8 0,.slice none 0 0,.slice none 0 0] (uh HZF) Tryz.size_entry rfl (xb1g rfl rfl rfl) ?_))
   refine bodyPost_ret (v:=.agg #[.int .u8 (k:Int),.slice a3 m3 c3,.slice a5 m5 c5]) ?_ rfl ⟨fun _=>⟨.slice a3 m3 c3,.slice a5 m5 c5,by rw [uh HT2,uh HKK]; rfl,?_,?_,?_⟩,fun h=>absurd (by rw [uh HT2]) h,(uh HKF).setRowE (Or.inr (Nat.le_refl _)) _⟩
   ·exact results_cell_row rfl _ _ w.heap.size _ #[.int .u8 (k:Int),.slice a3 m3 c3,.slice a5 m5 c5] (0,0) _ rfl (setRow_heap _ _ _ _ _ _ (uh HZF)) Tryz.underlying71 rfl Tryz.size_entry
   ·rw [uh HT2]; exact uh HOKF
   ·rw [uh HT2]; exact uh HRR
   ·exact uh HNEW
  ·have HT3:=hide (by rw [uh HT2]; exact hE:T.2.2≠0)
   have HE:=hide hE
   go_wp2_with fail
   refine Calls.mono (xa1c eF _ hE) ?_
   rintro r w6 ⟨rfl,rfl⟩
   exact ⟨rfl,fun h=>absurd h (uh HT3),fun _=>by rw [uh HT2],uh HKF⟩
 ·have hb1:((k:Int) == 1) = false:=by rw [beq_eq_false_iff_ne]; omega
  have hk2:k = 2:=by have h9:=uh HK12; omega
  have HT2:=hide (by have h9:=uh HT1; rw [if_neg hk1] at h9; exact h9.symm)
  have HKK:=hide hk2
  clear hk1 hk2 HT1
  go_wp2_with fail
  obtain ⟨WF,hWF⟩:∃ W,w3.setCell ⟨w1.heap.size,1,none⟩ (.slice a3 m3 c3) = W:=⟨_,rfl⟩
  rw [hWF] at HG4 HZ4 HK4 HR4 HD4 t0 ⊢
  clear hWF s0 s1 f1 HG3 HR3 HD3
  have HGF:=HG4
  have HZF:=HZ4
  have HKF:=HK4
  have HRF:=HR4
  have krow:=(Kept.refl [w.heap.size] WF).setRowE (g:=w.heap.size) (Or.inl (by simp)) #[.int .u8 (k:Int),.slice a3 m3 c3,.slice none 0 0]
  have HRR:=hide ((uh HRF).kept krow (by simp; omega) (fun x hx=>by simp; have h9:=hgv x hx; omega))
  have HOKF:=hide (⟨by show (2:Nat) < 256; omega,(uh HD4).kept krow (fun x hx=>by simp; have h9:=uh HN3 x hx; omega),Rd.nil _⟩:OkE (WF.setRow w.heap.size #[.int .u8 (k:Int),.slice a3 m3 c3,.slice none 0 0]) ⟨2,key,[]⟩ (.slice a3 m3 c3) (.slice none 0 0))
  have HNEW:=hide (show ∀ y,y∈blk (.slice a3 m3 c3)∨y∈blk (.slice none 0 0)→w.heap.size≤y from fun y hy=>by rcases hy with h | h; have h9:=uh HN3 y h; omega; simp [blk] at h)
  clear krow
  go_wp2_with fail
  refine Calls.mono (xa0k b gv p i2 e2 WF (uh HRF)) ?_
  rintro r w5 ⟨rfl,rfl⟩
  by_cases hE:e2 = 0
  ·subst hE
   go_wp2_with fail
   refine Calls.mono (xa2c _) ?_
   rintro r w6 ⟨rfl,rfl⟩
   go_wp2_with (first
    | (refine wpList_load_row rfl 71 _ rfl w1.heap.size rfl _ #[.int .u8 (k:Int),.slice a3 m3 c3,.slice none 0 0] (0,0) _ (uh HGF) Tryz.underlying71 rfl Tryz.size_entry ?_)
    | (refine wpList_store_row rfl 71 _ _ rfl w.heap.size #[.int .u8 (k:Int),.slice a3 m3 c3,.slice none 0 0] rfl rfl _ #[.int .u8 0,.slice none 0 0,.slice none 0 0] (uh HZF) Tryz.size_entry rfl (xb1g rfl rfl rfl) ?_))
   refine bodyPost_ret (v:=.agg #[.int .u8 (k:Int),.slice a3 m3 c3,.slice none 0 0]) ?_ rfl ⟨fun _=>⟨.slice a3 m3 c3,.slice none 0 0,by rw [uh HT2,uh HKK]; rfl,?_,?_,?_⟩,fun h=>absurd (by rw [uh HT2]) h,(uh HKF).setRowE (Or.inr (Nat.le_refl _)) _⟩
   ·exact results_cell_row rfl _ _ w.heap.size _ #[.int .u8 (k:Int),.slice a3 m3 c3,.slice none 0 0] (0,0) _ rfl (setRow_heap _ _ _ _ _ _ (uh HZF)) Tryz.underlying71 rfl Tryz.size_entry
   ·rw [uh HT2]; exact uh HOKF
   ·rw [uh HT2]; exact uh HRR
   ·exact uh HNEW
  ·have HT3:=hide (by rw [uh HT2]; exact hE:T.2.2≠0)
   have HE:=hide hE
   go_wp2_with fail
   refine Calls.mono (xa1c e2 _ hE) ?_
   rintro r w6 ⟨rfl,rfl⟩
   exact ⟨rfl,fun h=>absurd h (uh HT3),fun _=>by rw [uh HT2],uh HKF⟩
theorem xa9y (t:TypeId) (v:Value) (w:World):(Instr.typeAssert (.iface 286 v) t 286 true).run Tryz.prog w = .ok (.tuple #[v,.bool true]) w:=by
 unfold Instr.typeAssert
 simp [run_underlying Tryz.underlying286]
set_option maxHeartbeats 1000000 in
theorem xb0q (f:Nat) (w:World):Calls Tryz.prog 134 #[.iface 286 (.agg #[.int .i64 (f:Int)])] w fun r w'=>r = .returned (.int .i64 f)∧Kept [] w w':=by
 have HK:=hide ((Kept.refl [] w).alloc (.cells #[.int .i64 (f:Int)] 286))
 have HK2:=hide (((Kept.refl [] w).alloc (.cells #[.int .i64 0] 286)).setCell (p:=⟨w.heap.size,0,none⟩) (by simp) (.int .i64 (f:Int)))
 have ha:=xa9y
 go_enter Tryz.func134,Tryz.ntmps134
 go_wp2
 go_ret
 first | exact ⟨rfl,uh HK⟩ | exact ⟨rfl,uh HK2⟩
theorem xa0w {P:Program} {fn:Func} {p q:Tmp} {ty ty2:TypeId} (h:fn.results = #[.cell p ty,.cell q ty2]) (tmps:Array Value) (w:World) (g g2:Nat) (t t2:TypeId) (cs:Array Value) (fr fr2:Nat × Nat) (d:TypeDesc) (k:IntKind) (x:Value)
  (hp:tmps.getD p undef = .pointer (some ⟨g,0,none⟩)) (hg:w.heap[g]? = some (.cells cs t fr)) (hq:tmps.getD q undef = .pointer (some ⟨g2,0,none⟩)) (hg2:w.heap[g2]? = some (.cells #[x] t2 fr2))
  (hu:P.underlying ty = some d) (hd:(match d with | .struct _ | .array _ _=>true | _=>false) = true) (hi:(P.info? ty).map (·.size) = some cs.size) (hu2:P.underlying ty2 = some (.int k)) :
  (results fn tmps).run P w = .ok (.tuple #[.agg cs,x]) w:=by
 have hp':tmps[p]?.getD undef = .pointer (some ⟨g,0,none⟩):=by simpa using hp
 have hq':tmps[q]?.getD undef = .pointer (some ⟨g2,0,none⟩):=by simpa using hq
 have hc:w.cell? ⟨g2,0,none⟩ = some x:=by rw [cell_of_row _ _ _ _ _ _ hg2]; rfl
 have h2:(isAgg ty2).run P w = .ok false w:=by
  unfold isAgg
  rw [Sem.run_bind,run_underlying hu2 w]; simp
 have h3:(loadVar ty2 ⟨g2,0,none⟩).run P w = .ok x w:=by
  unfold loadVar
  simp only [Sem.run_bind,h2,Result.andThen_ok]
  simp [go_sem,hc]
 simp [results,h,hp',hq',asAddr,run_loadVar_row w g t ty cs fr d hg hu hd hi,h3]
theorem xb3y (e:En) (kv vv:Value):(enC e kv vv).size = 3:=rfl
def cntE (f n:Nat):Nat:=if 64 < n then 2 else if n = 0∨18446744073709551615 - f < n then 3 else 0
def leastE (a b:Nat):Nat:=if a = 0∨(b≠0∧b < a) then b else a
def chkB (f:Nat) (es:List En):Nat:=es.foldl (fun a e=>leastE a (chkE e)) (cntE f es.length)
def entB (es:List En):List Nat:=(es.map enB).flatten
def batB (f:Nat) (es:List En):List Nat:=uv f++(uv es.length++entB es)
def RdN (w:World) (v:Value) (es:List En):Prop :=
 ∃ (ao:Option Addr) (len cap:Nat) (kv vv:Nat→Value),v = .slice ao len cap∧es.length = len∧len≤cap∧cap≤9223372036854775807∧(∀ i (h:i < es.length),OkE w es[i] (kv i) (vv i)) ∧
  (0 < len→∃ b off,ao = some ⟨b,off,none⟩∧∀ i (h:i < es.length),w.rangeAt b (off + i * 3) (enC es[i] (kv i) (vv i)).toList)
theorem xa0u {L:List Nat} {w w':World} {b o:Nat} {cs:List Value} (h:w.rangeAt b o cs) (k:Kept L w w') (hb:b∉L):w'.rangeAt b o cs:=fun j v hv=>k.cell (h j v hv) hb
theorem RdN.old {w w':World} {v:Value} {es:List En} (h:RdN w v es) (k:Kept [] w w'):RdN w' v es:=by
 obtain ⟨ao,len,cap,kv,vv,h1,h2,h3,h4,h5,h6⟩:=h
 refine ⟨ao,len,cap,kv,vv,h1,h2,h3,h4,fun i hi=>(h5 i hi).old k,fun hp=>?_⟩
 obtain ⟨b,off,e,hc⟩:=h6 hp
 exact ⟨b,off,e,fun i hi=>xa0u (hc i hi) k (by simp)⟩
theorem RdN.nil (w:World):RdN w (.slice none 0 0) []:=⟨none,0,0,fun _=>undef,fun _=>undef,rfl,rfl,Nat.le_refl _,by omega,fun i h=>by simp at h,fun h=>by omega⟩
set_option maxHeartbeats 1000000 in
theorem xa2d (f n:Nat) (w:World) (hf:f < 18446744073709551616) (hn:n < 18446744073709551616) :
  Calls Tryz.prog 195 #[.int .u64 f,.int .u64 n] w fun r w'=>r = .returned (.int .i64 (cntE f n))∧w' = w:=by
 obtain ⟨E,hE⟩:∃ E,cntE f n = E:=⟨_,rfl⟩
 rw [hE]
 have HE:=hide hE
 clear hE
 have hw:IntKind.u64.wrap (18446744073709551615 - (f:Int)) = 18446744073709551615 - (f:Int):=by
  simp [IntKind.wrap,IntKind.signed,IntKind.bits]; omega
 have hw':(18446744073709551615 - (f:Int)) % 18446744073709551616 = 18446744073709551615 - (f:Int):=by omega
 go_enter Tryz.func195,Tryz.ntmps195
 by_cases h1:64 < n
 ·have h1':(64:Int) < n:=by omega
  have HE2:=hide (by rw [← uh HE]; simp [cntE,h1]:E = 2)
  go_wp2
  go_ret
  exact ⟨by rw [uh HE2]; rfl,rfl⟩
 ·have h1':¬ (64:Int) < n:=by omega
  by_cases h2:n = 0
  ·have h2':((n:Int) == 0) = true:=by rw [h2]; rfl
   have HE2:=hide (by rw [← uh HE]; simp [cntE,h2]:E = 3)
   clear h2
   go_wp2
   go_ret
   exact ⟨by rw [uh HE2]; rfl,rfl⟩
  ·have h2':((n:Int) == 0) = false:=by rw [beq_eq_false_iff_ne]; omega
   by_cases h3:18446744073709551615 - f < n
   ·have h3':18446744073709551615 - (f:Int) < n:=by omega
    have HE2:=hide (by rw [← uh HE]; simp [cntE,h1,h2,h3]:E = 3)
    go_wp2
    go_ret
    exact ⟨by rw [uh HE2]; rfl,rfl⟩
   ·have h3':¬ 18446744073709551615 - (f:Int) < n:=by omega
    have HE2:=hide (by rw [← uh HE]; simp [cntE,h1,h2,h3]:E = 0)
    go_wp2
    go_ret
    exact ⟨by rw [uh HE2]; rfl,rfl⟩
set_option maxHeartbeats 1000000 in
theorem xb6q (a b:Nat) (w:World) :
  Calls Tryz.prog 207 #[.int .i64 a,.int .i64 b] w fun r w'=>r = .returned (.int .i64 (leastE a b))∧w' = w:=by
 obtain ⟨E,hE⟩:∃ E,leastE a b = E:=⟨_,rfl⟩
 rw [hE]
 have HE:=hide hE
 clear hE
 go_enter Tryz.func207,Tryz.ntmps207
 by_cases h1:a = 0
 ·have h1':((a:Int) == 0) = true:=by rw [h1]; rfl
  have HE2:=hide (by rw [← uh HE]; simp [leastE,h1]:E = b)
  clear h1
  go_wp2
  go_ret
  exact ⟨by rw [uh HE2]; rfl,rfl⟩
 ·have h1':((a:Int) == 0) = false:=by rw [beq_eq_false_iff_ne]; omega
  by_cases h2:b = 0
  ·have h2':((b:Int) != 0) = false:=by rw [h2]; rfl
   have HE2:=hide (by rw [← uh HE]; simp [leastE,h1,h2]:E = a)
   clear h1 h2
   go_wp2
   go_ret
   exact ⟨by rw [uh HE2]; rfl,rfl⟩
  ·have h2':((b:Int) != 0) = true:=by rw [bne_iff_ne]; omega
   by_cases h3:b < a
   ·have h3':(b:Int) < a:=by omega
    have HE2:=hide (by rw [← uh HE]; simp [leastE,h1,h2,h3]:E = b)
    clear h1 h2
    go_wp2
    go_ret
    exact ⟨by rw [uh HE2]; rfl,rfl⟩
   ·have h3':¬ (b:Int) < a:=by omega
    have HE2:=hide (by rw [← uh HE]; simp [leastE,h1,h2,h3]:E = a)
    clear h1 h2
    go_wp2
    go_ret
    exact ⟨by rw [uh HE2]; rfl,rfl⟩
theorem xb0t {α β:Type} (g:β→α→β) (z:β) (l:List α) (i:Nat) (h:i < l.length):(l.take (i + 1)).foldl g z = g ((l.take i).foldl g z) l[i]:=by
 rw [List.take_succ_eq_append_getElem h,List.foldl_append]; rfl
set_option maxHeartbeats 1000000 in
theorem xa4r (f:Nat) (v:Value) (es:List En) (w:World) (hf:f < 18446744073709551616) (h:RdN w v es) :
  Calls Tryz.prog 153 #[.agg #[.int .u64 f,v]] w fun r w'=>r = .returned (.int .i64 (chkB f es))∧Kept [] w w':=by
 obtain ⟨ao,len,cap,kv,vv,rfl,h1,h2,h3,h4,h5⟩:=h
 have H4:=hide h4
 have H5:=hide h5
 clear h4 h5
 subst h1
 have HK0:=hide ((Kept.refl [] w).alloc (.cells #[.int .u64 (f:Int),.slice ao es.length cap] 75))
 go_enter Tryz.func153,Tryz.ntmps153
 go_wp2_with fail
 refine Calls.mono (xa2d f es.length _ hf (by omega)) ?_
 rintro r w1 ⟨rfl,rfl⟩
 go_wp2_with fail
 go_loopw [16,3] (fun t12 t4 wr=>∃ (i:Nat),i≤es.length∧t12 = .int .i64 i∧t4 = .int .i64 ((es.take i).foldl (fun a e=>leastE a (chkE e)) (cntE f es.length):Nat)∧Hid (Kept [] w wr)) (fun t _ _=>es.length - (intOf t).toNat)
 case atStart=>exact ⟨0,Nat.zero_le _,rfl,rfl,HK0⟩
 case round =>
  obtain ⟨i,hi,rfl,rfl,HK⟩:=hrel
  by_cases hlt:i < es.length
  ·have hlt':(i:Int) < es.length:=by omega
   obtain ⟨b,off,rfl,hcc⟩:=uh H5 (by omega)
   have hr:=hcc i hlt
   have q0:=(uh HK).cell (hr 0 _ rfl) (by simp)
   have q1:=(uh HK).cell (hr 1 _ rfl) (by simp)
   have q2:=(uh HK).cell (hr 2 _ rfl) (by simp)
   rw [Nat.add_zero] at q0
   have HO:=hide ((uh H4 i hlt).old (uh HK))
   have HSN:=hide (xb0t (fun a e=>leastE a (chkE e)) (cntE f es.length) es i hlt)
   clear hcc hr
   generalize kv i = kvi at q1 HO
   generalize vv i = vvi at q2 HO
   generalize es[i] = e at q0 HO HSN
   obtain ⟨a8,m8,c8,rfl,_⟩:=id (uh HO).key
   obtain ⟨a9,m9,c9,rfl,_⟩:=id (uh HO).val
   generalize (es.take i).foldl (fun a e=>leastE a (chkE e)) (cntE f es.length) = acc at HSN
   go_wp2_with fail
   have HK1:=hide ((uh HK).alloc (.cells #[.int .u8 (e.k:Int),.slice a8 m8 c8,.slice a9 m9 c9] 71))
   refine Calls.mono (xb6n e _ _ _ ((uh HO).old ((Kept.refl [] wr).alloc _))) ?_
   rintro r w2 ⟨rfl,k2⟩
   have HK2:=hide ((uh HK1).trans k2 (by simp))
   clear k2
   go_wp2_with fail
   refine Calls.mono (xb6q acc (chkE e) _) ?_
   rintro r w3 ⟨rfl,rfl⟩
   rw [← uh HSN]
   go_wp2
   refine ⟨⟨i + 1,by omega,by go_num,rfl,HK2⟩,?_⟩
   simp [intOf]; omega
  ·have hlt':¬ (i:Int) < es.length:=by omega
   have hie:i = es.length:=by omega
   subst hie
   rw [List.take_length]
   go_wp2
   go_ret
   exact ⟨rfl,uh HK⟩
theorem xb0a {a b:Nat} (h:leastE a b = 0):a = 0∧b = 0:=by
 unfold leastE at h
 split at h
 ·rename_i h1; rcases h1 with h1 | h1
  ·exact ⟨h1,h⟩
  ·omega
 ·rename_i h1; omega
theorem xa6e (es:List En):∀ z,es.foldl (fun a e=>leastE a (chkE e)) z = 0→z = 0∧∀ e∈es,chkE e = 0:=by
 induction es with
 | nil=>intro z h; exact ⟨h,by simp⟩
 | cons x xs ih =>
  intro z h
  obtain ⟨h1,h2⟩:=ih _ h
  obtain ⟨h3,h4⟩:=xb0a h1
  refine ⟨h3,fun e he=>?_⟩
  rcases List.mem_cons.1 he with rfl | he
  ·exact h4
  ·exact h2 e he
theorem xa2v {f:Nat} {es:List En} (h:chkB f es = 0):es.length≤64∧0 < es.length∧f + es.length≤18446744073709551615∧∀ e∈es,chkE e = 0:=by
 obtain ⟨h1,h2⟩:=xa6e es _ h
 unfold cntE at h1
 split at h1
 ·omega
 ·split at h1
  ·omega
  ·rename_i h3 h4; exact ⟨by omega,by omega,by omega,h2⟩
theorem xa8z {e:En} (h:chkE e = 0):e.key.length≤64∧e.val.length≤256∧(e.k = 1∨e.k = 2)∧(e.k = 2→e.val = []):=by
 unfold chkE at h
 split at h
 ·omega
 ·split at h
  ·omega
  ·rename_i h1 h2
   refine ⟨by omega,by omega,by omega,fun h3=>List.eq_nil_of_length_eq_zero (by omega)⟩
theorem xc1h {e:En} (h:chkE e = 0):(enB e).length≤400:=by
 obtain ⟨h1,h2,_⟩:=xa8z h
 have:=uv_len e.key.length (by omega)
 have:=uv_len e.val.length (by omega)
 unfold enB
 split <;> simp only [List.length_append,List.length_cons,List.length_nil] <;> omega
theorem xb5c (es:List En) (i:Nat) (h:i < es.length):entB (es.take (i + 1)) = entB (es.take i)++enB es[i]:=by
 unfold entB
 rw [List.take_succ_eq_append_getElem h,List.map_append,List.flatten_append]; simp
theorem xb4m (es:List En) (h:∀ e∈es,chkE e = 0):(entB es).length≤400 * es.length:=by
 induction es with
 | nil=>simp [entB]
 | cons x xs ih =>
  have h1:=xc1h (h x (by simp))
  have h2:=ih (fun e he=>h e (by simp [he]))
  have e:entB (x :: xs) = enB x++entB xs:=by simp [entB]
  rw [e,List.length_append,List.length_cons]; omega
set_option maxHeartbeats 2000000 in
theorem xa4a (f:Nat) (v:Value) (es:List En) (w:World) (hf:f < 18446744073709551616) (h:RdN w v es) :
  Calls Tryz.prog 106 #[.agg #[.int .u64 f,v]] w fun r w'=>∃ v',r = .returned (.tuple #[v',.int .i64 (chkB f es)])∧NewB w w' v' (if chkB f es = 0 then batB f es else [])∧Kept [] w w':=by
 have H:=hide h
 have HLE:=hide (fun h0:chkB f es = 0=>xa2v h0)
 obtain ⟨E,hE⟩:∃ E,chkB f es = E:=⟨_,rfl⟩
 rw [hE] at HLE ⊢
 have HE:=hide hE
 clear hE
 obtain ⟨B,hB⟩:∃ B,(if E = 0 then batB f es else []) = B:=⟨_,rfl⟩
 rw [hB]
 have HB:=hide hB
 clear hB
 obtain ⟨ao,len,cap,kv,vv,rfl,h1,h2,h3,h4,h5⟩:=h
 have H4:=hide h4
 have H5:=hide h5
 clear h4 h5
 subst h1
 have HK0:=hide ((Kept.refl [] w).alloc (.cells #[.int .u64 (f:Int),.slice ao es.length cap] 75))
 have HG0:=hide (heap_alloc_new w (.cells #[.int .u64 (f:Int),.slice ao es.length cap] 75))
 go_enter Tryz.func106,Tryz.ntmps106
 go_wp2_with fail
 have hc:=xa4r f (.slice ao es.length cap) es _ hf ((uh H).old (uh HK0))
 rw [uh HE] at hc
 refine Calls.mono hc ?_
 clear hc
 rintro r w1 ⟨rfl,k1⟩
 have HG1:=hide (k1.heap (uh HG0) (by simp))
 have HK1:=hide ((uh HK0).trans k1 (by simp))
 clear k1
 by_cases h0:E = 0
 ·have hb0:((E:Int) != 0) = false:=by rw [h0]; rfl
  obtain ⟨hl1,hl2,hl3,hl4⟩:=uh HLE h0
  have HL4:=hide hl4
  have HB2:=hide (by rw [← uh HB,if_pos h0]:B = batB f es)
  have H0:=hide h0
  clear h0 hl4
  have HW0:=hide (Wn.start (Kept.refl [] w1))
  have q0:∀ ob,(w1.alloc ob).cell? ⟨w.heap.size,0,none⟩ = some (.int .u64 (f:Int)):=fun ob=>((Kept.refl [] w1).alloc ob).cell (by rw [cell_of_row _ _ _ _ _ _ (uh HG1)]; rfl) (by simp)
  go_wp2_with fail
  refine Calls.mono (xb6y f (uh HW0) hf (by simp)) ?_
  rintro r w2 ⟨rfl,v2,h2'⟩
  rw [List.nil_append] at h2'
  have q1:=h2'.kept.cell (by rw [cell_of_row _ _ _ _ _ _ (uh HG1)]; rfl:w1.cell? ⟨w.heap.size,1,none⟩ = some (.slice ao es.length cap)) (by simp)
  have HW2:=hide h2'
  clear h2' HW0 q0
  have HU1:=hide (uv_len f hf)
  have HU2:=hide (uv_len es.length (by omega))
  go_wp2_with fail
  refine Calls.mono (xb6y es.length (uh HW2) (by omega) (by have:=uh HU1; omega)) ?_
  rintro r w3 ⟨rfl,v3,h3'⟩
  have q2:=h3'.kept.cell (by rw [cell_of_row _ _ _ _ _ _ (uh HG1)]; rfl:w1.cell? ⟨w.heap.size,1,none⟩ = some (.slice ao es.length cap)) (by simp)
  have HW3:=hide h3'
  clear h3' HW2 q1
  go_wp2_with fail
  go_loopw [24] (fun t12 wr=>∃ (i:Nat) (vw:Value),i≤es.length∧t12 = .int .i64 i∧Hid (Wn w1 wr w1.heap.size vw (uv f++uv es.length++entB (es.take i)))) (fun t _=>es.length - (intOf t).toNat)
  case atStart=>exact ⟨0,v3,Nat.zero_le _,rfl,by simpa [entB] using HW3⟩
  case round =>
   obtain ⟨i,vw,hi,rfl,HW⟩:=hrel
   have HLI:=hide (by have h9:=xb4m (es.take i) (fun e he=>uh HL4 e (List.mem_of_mem_take he)); rw [List.length_take] at h9; omega:(entB (es.take i)).length≤25600)
   by_cases hlt:i < es.length
   ·have hlt':(i:Int) < es.length:=by omega
    obtain ⟨b,off,rfl,hcc⟩:=uh H5 (by omega)
    have hr:=hcc i hlt
    have kw:=(uh HK1).trans (uh HW).kept (by simp)
    have p0:=kw.cell (hr 0 _ rfl) (by simp)
    have p1:=kw.cell (hr 1 _ rfl) (by simp)
    have p2:=kw.cell (hr 2 _ rfl) (by simp)
    rw [Nat.add_zero] at p0
    have HO:=hide ((uh H4 i hlt).old (uh HK1))
    have HSN:=hide (xb5c es i hlt)
    have HCE:=hide (xa8z (uh HL4 es[i] (List.getElem_mem hlt)))
    clear hcc hr kw
    generalize kv i = kvi at p1 HO
    generalize vv i = vvi at p2 HO
    generalize es[i] = e at p0 HO HSN HCE
    obtain ⟨a8,m8,c8,rfl,_⟩:=id (uh HO).key
    obtain ⟨a9,m9,c9,rfl,_⟩:=id (uh HO).val
    go_wp2_with fail
    refine Calls.mono (xa7j e _ _ ((uh HW).pass ((Kept.refl [] wr).alloc _)) (uh HO) (by have:=uh HLI; have:=uh HU1; have:=uh HU2; have:=uh HCE; simp only [List.length_append]; omega)) ?_
    rintro r w4 ⟨rfl,v4,h4'⟩
    rw [List.append_assoc,← uh HSN] at h4'
    have HW4:=hide h4'
    clear h4'
    go_wp2
    refine ⟨⟨i + 1,v4,by omega,by go_num,HW4⟩,?_⟩
    simp [intOf]; omega
   ·have hlt':¬ (i:Int) < es.length:=by omega
    have hie:i = es.length:=by omega
    subst hie
    rw [List.take_length] at HW HLI
    go_wp2_with fail
    refine Calls.mono (xa6r (uh HW) (by have:=uh HLI; have:=uh HU1; have:=uh HU2; simp only [List.length_append]; omega)) ?_
    rintro r w6 ⟨v6,rfl,h6,k6⟩
    have H6:=hide h6
    have HK6:=hide ((uh HK1).trans k6 (by simp))
    clear h6 k6
    go_wp2
    go_ret2
    refine ⟨_,by rw [uh H0]; rfl,?_,uh HK6⟩
    rw [uh HB2]
    have h9:=(uh H6).weak (uh HK1).size
    rw [List.append_assoc] at h9
    exact h9
 ·have hb0:((E:Int) != 0) = true:=by rw [bne_iff_ne]; omega
  have HB2:=hide (by rw [← uh HB,if_neg h0]:B = [])
  clear h0
  go_wp2
  go_ret2
  exact ⟨_,rfl,by rw [uh HB2]; exact NewB.nil _ _,uh HK1⟩
def cellsN (ts:List (En × Value × Value)):List Value:=ts.flatMap fun t=>[.int .u8 (t.1.k:Int),t.2.1,t.2.2]
theorem xb0s (ts:List (En × Value × Value)) (t:En × Value × Value):cellsN (ts++[t]) = cellsN ts++[.int .u8 (t.1.k:Int),t.2.1,t.2.2]:=by simp [cellsN]
theorem xa5x:∀ (ts:List (En × Value × Value)) (i:Nat) (h:i < ts.length),(cellsN ts)[3 * i]? = some (.int .u8 (ts[i].1.k:Int))∧(cellsN ts)[3 * i + 1]? = some ts[i].2.1∧(cellsN ts)[3 * i + 2]? = some ts[i].2.2
 | t :: r,0,_=>by simp [cellsN]
 | t :: r,i + 1,h=>by
  have h':i < r.length:=by simpa using h
  have:=xa5x r i h'
  have e:cellsN (t :: r) = (.int .u8 (t.1.k:Int)) :: t.2.1 :: t.2.2 :: cellsN r:=by simp [cellsN]
  rw [e,show 3 * (i + 1) = 3 * i + 1 + 1 + 1 by omega]
  simpa using this
theorem Tryz.infoN:(Tryz.prog.info? 71).map (fun i=>(i.zero,i.size,i.bytes)) = some (some (.agg #[.int .u8 0,.slice none 0 0,.slice none 0 0]),3,56):=by kernel_rfl
def nblk (v:Value) (bs:List Nat):List Nat:=if bs = [] then [] else blk v
theorem xa3f {v:Value} {bs:List Nat} {x:Nat} (h:x∈nblk v bs):x∈blk v∧bs≠[]:=by
 unfold nblk at h
 split at h
 ·simp at h
 ·rename_i h1; exact ⟨h,h1⟩
theorem Rd.keptN {L:List Nat} {w w':World} {v:Value} {bs:List Nat} (h:Rd w v bs) (k:Kept L w w') (hn:∀ x∈nblk v bs,x∉L):Rd w' v bs:=by
 by_cases he:bs = []
 ·subst he
  obtain ⟨ao,len,cap,rfl,h1,h2,h3,h4,h5,h6⟩:=h
  exact ⟨ao,len,cap,rfl,h1,h2,h3,h4,h5,fun hp=>by simp at h1; omega⟩
 ·exact h.kept k (by unfold nblk at hn; rw [if_neg he] at hn; exact hn)
theorem Rd.ltN {w:World} {v:Value} {bs:List Nat} (h:Rd w v bs):∀ x∈nblk v bs,x < w.heap.size:=by
 intro x hx
 obtain ⟨h1,h2⟩:=xa3f hx
 obtain ⟨ao,len,cap,rfl,h3,_,_,_,_,h6⟩:=h
 obtain ⟨b,off,rfl,hc⟩:=h6 (by rw [← h3]; exact List.length_pos_iff.2 h2)
 have h9:=block_lt_of_cell (hc 0 (by rw [← h3]; exact List.length_pos_iff.2 h2))
 simp only [blk,List.mem_singleton] at h1
 subst h1
 exact h9
structure OwnN (L:List Nat) (w0 w:World) (v:Value) (ts:List (En × Value × Value)):Prop where
 own:w.ownsRow w0.heap.size 71 3 v ts.length (cellsN ts)
 ok:∀ t∈ts,OkE w t.1 t.2.1 t.2.2
 apart:∀ t∈ts,∀ b,b∈nblk t.2.1 t.1.key∨b∈nblk t.2.2 t.1.val→v.ownBlock≠some b∧w0.heap.size≤b
 kept:Kept L w0 w
theorem OwnN.rdN {L:List Nat} {w0 w:World} {v:Value} {ts:List (En × Value × Value)} (h:OwnN L w0 w v ts):RdN w v (ts.map (·.1)):=by
 rcases h.own.2 with ⟨rfl,h0⟩ | ⟨g,cap,cur,rfl,_,hg,hc,hm',hs,ht⟩
 ·have:ts = []:=List.eq_nil_of_length_eq_zero h0
  subst this
  exact RdN.nil w
 ·refine ⟨some ⟨g,0,none⟩,ts.length,cap,fun i=>(ts.getD i (⟨0,[],[]⟩,undef,undef)).2.1,fun i=>(ts.getD i (⟨0,[],[]⟩,undef,undef)).2.2,rfl,by simp,hc,by unfold maxLen at hm'; omega,fun i hi=>?_,fun _=>⟨g,0,rfl,fun i hi=>?_⟩⟩
  ·have hi':i < ts.length:=by simpa using hi
   have h9:=h.ok ts[i] (List.getElem_mem hi')
   rw [List.getElem_map]
   simp only [List.getD_eq_getElem?_getD,List.getElem?_eq_getElem hi',Option.getD_some]
   exact h9
  ·have hi':i < ts.length:=by simpa using hi
   have hx:=xa5x ts i hi'
   have c0:=h.own.cells (g:=g) rfl (3 * i) _ hx.1
   have c1:=h.own.cells (g:=g) rfl (3 * i + 1) _ hx.2.1
   have c2:=h.own.cells (g:=g) rfl (3 * i + 2) _ hx.2.2
   rw [Addr.add_mid] at c0 c1 c2
   rw [List.getElem_map]
   simp only [List.getD_eq_getElem?_getD,List.getElem?_eq_getElem hi',Option.getD_some]
   intro j v hv
   have hj:j < 3:=(List.getElem?_eq_some_iff.1 hv).1
   rcases (by omega:j = 0∨j = 1∨j = 2) with rfl | rfl | rfl
   ·rw [show 0 + i * 3 + 0 = 0 + 3 * i by omega,c0]; exact hv
   ·rw [show 0 + i * 3 + 1 = 0 + (3 * i + 1) by omega,c1]; exact hv
   ·rw [show 0 + i * 3 + 2 = 0 + (3 * i + 2) by omega,c2]; exact hv
theorem pushN (w:World) (base:Nat) (v:Value) (ts:List (En × Value × Value)) (e:En) (x y:Value) (H:Nat) (h:w.ownsRow base 71 3 v ts.length (cellsN ts)) (hnew:w.heap[H]? = some (.cells #[.int .u8 (e.k:Int),x,y] 71 (0,0))) (hx:x.oneCell' = true) (hy:y.oneCell' = true) (hl:ts.length + 1≤1000000000) (hb:base≤w.heap.size) :
  ∃ g cap w1,(Builtin.append_ #[73,73] 73 #[v,.slice (some ⟨H,0,none⟩) 1 1]).run Tryz.prog w = .ok (.slice (some ⟨g,0,none⟩) (ts.length + 1) cap) w1 ∧
   w1.ownsRow base 71 3 (.slice (some ⟨g,0,none⟩) (ts.length + 1) cap) (ts.length + 1) (cellsN ts++[.int .u8 (e.k:Int),x,y])∧w.grownBy w1 v.ownBlock∧(v.ownBlock = some g∨g = w.heap.size):=by
 obtain ⟨i0,hi,hz0,hz1,hz2⟩:=info_parts Tryz.infoN
 obtain ⟨g,cap,w1,hr,hown,hgrow,hat,hlt⟩:=run_append_lies (P:=Tryz.prog) w 73 73 base 71 i0 (.agg #[.int .u8 0,.slice none 0 0,.slice none 0 0]) 3 56 Tryz.underlying73 hi hz0 hz1 hz2 rfl (by decide)
  v ts.length (cellsN ts) h ⟨H,0,none⟩ 1 1 [.int .u8 (e.k:Int),x,y] rfl (World.news_of_block hnew) (by intro u hu; simp at hu; rcases hu with rfl | rfl | rfl; rfl; exact hx; exact hy) (by decide) (by unfold maxLen; omega) (by omega) hb _ rfl
 exact ⟨g,cap,w1,hr,hown,hgrow,hat⟩
theorem xa6s {ops:Array Oper} {rest:List Oper} {o:Oper} {a:Act} {Q:Exit→Act→World→Prop} (hgd:o.guard = none) (s x:Operand)
  (ho:o.op = .call { callee:=.builtin .append,args:=#[s,x],argTypes:=#[73,73] }) (hty:o.type = 73)
  (w:World) (base:Nat) (v:Value) (ts:List (En × Value × Value)) (e:En) (y z:Value) (H:Nat) (h:w.ownsRow base 71 3 v ts.length (cellsN ts)) (hnew:w.heap[H]? = some (.cells #[.int .u8 (e.k:Int),y,z] 71 (0,0))) (hy:y.oneCell' = true) (hz:z.oneCell' = true) (hl:ts.length + 1≤1000000000) (hb:base≤w.heap.size)
  (hs:a.eval s = v) (hx:a.eval x = .slice (some ⟨H,0,none⟩) 1 1)
  (hK:∀ g cap w1,Hid (w1.ownsRow base 71 3 (.slice (some ⟨g,0,none⟩) (ts.length + 1) cap) (ts.length + 1) (cellsN ts++[.int .u8 (e.k:Int),y,z]))→Hid (w.grownBy w1 v.ownBlock)→Hid (v.ownBlock = some g∨g = w.heap.size) →
   wpList Tryz.prog ops Q rest (a.put o.dst (.slice (some ⟨g,0,none⟩) (ts.length + 1) cap)) w1) :
  wpList Tryz.prog ops Q (o :: rest) a w:=by
 obtain ⟨g,cap,w1,hrun,h2,h3,h4⟩:=pushN w base v ts e y z H h hnew hy hz hl hb
 refine wpList_plain hgd fun K hK'=>?_
 unfold Oper.wp execOp
 simp only [ho,hty,resolve,invoke,builtin,Sem.run_bind,Sem.run_pure,Result.andThen_ok,List.map_toArray,List.map_cons,List.map_nil,hs,hx,hrun]
 exact hK' _ _ (hK g cap w1 h2 h3 h4)
theorem OwnN.start {L:List Nat} {w0 w:World} (k:Kept L w0 w):OwnN L w0 w (.slice none 0 0) []:=⟨World.ownsRow_nil _ _ _ _,by simp,by simp,k⟩
theorem OwnN.mono {L M:List Nat} {w0 w:World} {v:Value} {ts:List (En × Value × Value)} (h:OwnN L w0 w v ts) (hM:∀ x∈L,x∈M):OwnN M w0 w v ts:=⟨h.own,h.ok,h.apart,h.kept.mono hM⟩
theorem OwnN.pass {L M:List Nat} {w0 w w':World} {v:Value} {ts:List (En × Value × Value)} (h:OwnN L w0 w v ts) (k:Kept M w w') (hM:∀ x∈M,x∈L∨w0.heap.size≤x) (ho:∀ x∈M,v.ownBlock≠some x) (he:∀ x∈M,∀ t∈ts,x∉nblk t.2.1 t.1.key∧x∉nblk t.2.2 t.1.val):OwnN L w0 w' v ts :=
 ⟨k.owns h.own (fun g hg hm=>ho g hm hg),fun t ht=>⟨(h.ok t ht).k,(h.ok t ht).key.keptN k (fun x hx hm=>(he x hm t ht).1 hx),(h.ok t ht).val.keptN k (fun x hx hm=>(he x hm t ht).2 hx)⟩,h.apart,h.kept.trans k hM⟩
theorem OwnN.old {L M:List Nat} {w0 w w':World} {v:Value} {ts:List (En × Value × Value)} (h:OwnN L w0 w v ts) (k:Kept M w w') (hM:∀ x∈M,x∈L∧x < w0.heap.size):OwnN L w0 w' v ts :=
 h.pass k (fun x hx=>Or.inl (hM x hx).1) (fun x hx e=>by have:=(h.own.lt x e).1; have:=(hM x hx).2; omega)
  (fun x hx t ht=>⟨fun hb=>by have:=(h.apart t ht x (Or.inl hb)).2; have:=(hM x hx).2; omega,fun hb=>by have:=(h.apart t ht x (Or.inr hb)).2; have:=(hM x hx).2; omega⟩)
theorem OwnN.push {L:List Nat} {w0 w W:World} {v:Value} {ts:List (En × Value × Value)} (h:OwnN L w0 w v ts) {e:En} {y z:Value} (hy:OkE w e y z) (hn:∀ b,b∈nblk y e.key∨b∈nblk z e.val→v.ownBlock≠some b∧w0.heap.size≤b) {g cap:Nat}
  (o:W.ownsRow w0.heap.size 71 3 (.slice (some ⟨g,0,none⟩) (ts.length + 1) cap) (ts.length + 1) (cellsN ts++[.int .u8 (e.k:Int),y,z])) (gr:w.grownBy W v.ownBlock) (hg:v.ownBlock = some g∨g = w.heap.size) :
  OwnN L w0 W (.slice (some ⟨g,0,none⟩) (ts.length + 1) cap) (ts++[(e,y,z)]):=by
 have kW:Kept v.ownBlock.toList w W:=((Kept.refl _ w)).grown gr (by intro k hk; left; simp [hk])
 have kW0:Kept L w0 W:=h.kept.grown gr (by intro k hk; right; exact (h.own.lt k hk).1)
 have key:∀ t∈ts++[(e,y,z)],OkE w t.1 t.2.1 t.2.2∧∀ b,b∈nblk t.2.1 t.1.key∨b∈nblk t.2.2 t.1.val→v.ownBlock≠some b∧w0.heap.size≤b:=by
  intro t ht
  rcases List.mem_append.1 ht with ht | ht
  ·exact ⟨h.ok t ht,h.apart t ht⟩
  ·rw [List.mem_singleton] at ht; subst ht; exact ⟨hy,hn⟩
 refine ⟨?_,fun t ht=>?_,fun t ht b hb=>⟨fun e'=>?_,((key t ht).2 b hb).2⟩,kW0⟩
 ·rw [xb0s,List.length_append]; exact o
 ·exact ⟨(key t ht).1.k,(key t ht).1.key.keptN kW (fun b hb hm=>((key t ht).2 b (Or.inl hb)).1 (by simpa using hm)),(key t ht).1.val.keptN kW (fun b hb hm=>((key t ht).2 b (Or.inr hb)).1 (by simpa using hm))⟩
 ·simp only [Value.ownBlock,Option.some.injEq] at e'
  subst e'
  rcases hg with hg | hg
  ·exact ((key t ht).2 _ hb).1 hg
  ·have h9:g < w.heap.size:=by
    rcases hb with hb | hb
    ·exact (key t ht).1.key.ltN g hb
    ·exact (key t ht).1.val.ltN g hb
   omega
def NewN (B:Nat) (w:World) (v:Value) (es:List En):Prop:=∃ (L:List Nat) (w0:World) (ts:List (En × Value × Value)),es = ts.map (·.1)∧OwnN L w0 w v ts∧B≤w0.heap.size
theorem NewN.rdN {B:Nat} {w:World} {v:Value} {es:List En} (h:NewN B w v es):RdN w v es:=by
 obtain ⟨L,w0,ts,rfl,h1,_⟩:=h; exact h1.rdN
theorem NewN.nil (B:Nat) (w:World) (h:B≤w.heap.size):NewN B w (.slice none 0 0) []:=⟨[],w,[],rfl,OwnN.start (Kept.refl [] w),h⟩
theorem NewN.weak {B C:Nat} {w:World} {v:Value} {es:List En} (h:NewN B w v es) (hc:C≤B):NewN C w v es:=by
 obtain ⟨L,w0,ts,h1,h2,h3⟩:=h; exact ⟨L,w0,ts,h1,h2,Nat.le_trans hc h3⟩
theorem NewN.kept {B:Nat} {M:List Nat} {w w':World} {v:Value} {es:List En} (h:NewN B w v es) (k:Kept M w w') (hM:∀ x∈M,x < B):NewN B w' v es:=by
 obtain ⟨L,w0,ts,h1,h2,h3⟩:=h
 refine ⟨L++M,w0,ts,h1,(h2.mono (M:=L++M) (fun x hx=>by simp [hx])).old k (fun x hx=>⟨by simp [hx],by have:=hM x hx; omega⟩),h3⟩
def takeN (p:List Nat):Nat→Nat→List En × Nat × Nat
 | i,0=>([],i,0)
 | i,n + 1=>if (takeE p i).2.2≠0 then ([],0,(takeE p i).2.2) else ((takeE p i).1 :: (takeN p (takeE p i).2.1 n).1,(takeN p (takeE p i).2.1 n).2)
def takeB (p:List Nat) (i:Nat):Nat × List En × Nat × Nat :=
 if (rUvar p (rUvar p i 0).2.1 (rUvar p i 0).2.2).2.2≠0 then (0,[],0,(rUvar p (rUvar p i 0).2.1 (rUvar p i 0).2.2).2.2)
 else if cntE (rUvar p i 0).1 (rUvar p (rUvar p i 0).2.1 (rUvar p i 0).2.2).1≠0 then (0,[],0,cntE (rUvar p i 0).1 (rUvar p (rUvar p i 0).2.1 (rUvar p i 0).2.2).1)
 else ((rUvar p i 0).1,takeN p (rUvar p (rUvar p i 0).2.1 (rUvar p i 0).2.2).2.1 (rUvar p (rUvar p i 0).2.1 (rUvar p i 0).2.2).1)
theorem xb3h (p:List Nat) (i e:Nat):(rUvar p i e).1 < 18446744073709551616:=by
 unfold rUvar
 split
 ·show (0:Nat) < _; omega
 ·split
  ·show (0:Nat) < _; omega
  ·exact fuv_lt _ 0 0 (by decide) (by decide)
theorem xb3u {ops:Array Oper} {o:Oper} {a:Act} {K:Act→World→Prop} {Q:Exit→Act→World→Prop} {F:Prop} (hgd:o.guard = none) (s x:Operand)
  (ho:o.op = .call { callee:=.builtin .append,args:=#[s,x],argTypes:=#[73,73] }) (hty:o.type = 73)
  (w:World) (base:Nat) (v:Value) (ts:List (En × Value × Value)) (e:En) (y z:Value) (H:Nat) (h:w.ownsRow base 71 3 v ts.length (cellsN ts)) (hnew:w.heap[H]? = some (.cells #[.int .u8 (e.k:Int),y,z] 71 (0,0))) (hy:y.oneCell' = true) (hz:z.oneCell' = true) (hl:ts.length + 1≤1000000000) (hb:base≤w.heap.size)
  (hs:a.eval s = v) (hx:a.eval x = .slice (some ⟨H,0,none⟩) 1 1)
  (hK:∀ g cap w1,Hid (w1.ownsRow base 71 3 (.slice (some ⟨g,0,none⟩) (ts.length + 1) cap) (ts.length + 1) (cellsN ts++[.int .u8 (e.k:Int),y,z]))→Hid (w.grownBy w1 v.ownBlock)→Hid (v.ownBlock = some g∨g = w.heap.size) →
   K (a.put o.dst (.slice (some ⟨g,0,none⟩) (ts.length + 1) cap)) w1) :
  if Region.wanted o (yielded ops a.tmps) = true then Oper.wp Tryz.prog o a w K Q else F:=by
 obtain ⟨g,cap,w1,hrun,h2,h3,h4⟩:=pushN w base v ts e y z H h hnew hy hz hl hb
 have hw:Region.wanted o (yielded ops a.tmps) = true:=by simp [Region.wanted,hgd]
 rw [if_pos hw]
 unfold Oper.wp execOp
 simp only [ho,hty,resolve,invoke,builtin,Sem.run_bind,Sem.run_pure,Result.andThen_ok,List.map_toArray,List.map_cons,List.map_nil,hs,hx,hrun]
 exact hK g cap w1 h2 h3 h4
def TookB (w w':World) (b:Nat) (gv:Value) (p:List Nat) (x:Nat × List En × Nat × Nat) (r:Ending):Prop :=
 (x.2.2.2 = 0→∃ v,r = .returned (.agg #[.int .u64 (x.1:Int),v])∧NewN w.heap.size w' v x.2.1∧ReAt w' b gv p x.2.2.1 0)∧(x.2.2.2≠0→r = .panicked (gave x.2.2.2))∧Kept [b] w w'
theorem Tryz.size_batch:(Tryz.prog.info? 75).map (·.size) = some 2:=by kernel_rfl
set_option maxHeartbeats 2000000 in
theorem xa5p (b:Nat) (gv:Value) (p:List Nat) (i:Nat) (w:World) (h:ReAt w b gv p i 0) (hgv:∀ x∈blk gv,x < w.heap.size) :
  Calls Tryz.prog 136 #[.pointer (some ⟨b,0,none⟩)] w fun r w'=>TookB w w' b gv p (takeB p i) r:=by
 have H:=hide h
 have hblt:=h.lt
 obtain ⟨T,hT⟩:∃ T,takeB p i = T:=⟨_,rfl⟩
 rw [hT]
 have HT:=hide hT
 unfold takeB at HT
 clear hT h
 have HZ:=hide (heap_alloc_new w (.cells #[.int .u64 0,.slice none 0 0] 75))
 have HK0:=hide ((Kept.refl [b] w).alloc (.cells #[.int .u64 0,.slice none 0 0] 75))
 have HR0:=hide ((uh H).kept ((Kept.refl [] w).alloc (.cells #[.int .u64 0,.slice none 0 0] 75)) (by simp) (by simp))
 have hfl:=xb3h p i 0
 go_enter Tryz.func136,Tryz.ntmps136
 go_wp2_with fail
 refine Calls.mono (xa8q b gv p i 0 _ (uh HR0)) ?_
 rintro r w1 ⟨rfl,r1,k1⟩
 have hne0:w.heap.size≠b:=by omega
 have HZ1:=hide (k1.heap (uh HZ) (by simpa using hne0))
 have HK1:=hide ((uh HK0).trans k1 (by simp))
 obtain ⟨x,hx⟩:∃ x,rUvar p i 0 = x:=⟨_,rfl⟩
 rw [hx] at HT r1 hfl ⊢
 clear hx
 obtain ⟨f,i1,e1⟩:=x
 simp only at HT r1 hfl ⊢
 have HR1:=hide r1
 clear r1 k1
 have hs1':w.heap.size < w1.heap.size:=lt_of_block (uh HZ1)
 have hcl:=xb3h p i1 e1
 have HKA:=hide ((uh HK1).alloc (.cells #[.int .u64 (f:Int),.slice none 0 0] 75))
 have HRA:=hide ((uh HR1).kept ((Kept.refl [] w1).alloc (.cells #[.int .u64 (f:Int),.slice none 0 0] 75)) (by simp) (by simp))
 have HGA:=hide (heap_alloc_new w1 (.cells #[.int .u64 (f:Int),.slice none 0 0] 75))
 have HZA:=hide (((Kept.refl [] w1).alloc (.cells #[.int .u64 (f:Int),.slice none 0 0] 75)).heap (uh HZ1) (by simp))
 have HSA:=hide (show (w1.alloc (.cells #[.int .u64 (f:Int),.slice none 0 0] 75)).heap.size = w1.heap.size + 1 by simp)
 go_wp2_with fail
 obtain ⟨WA,hWA⟩:∃ W,w1.alloc (.cells #[.int .u64 (f:Int),.slice none 0 0] 75) = W:=⟨_,rfl⟩
 rw [hWA] at HKA HRA HGA HZA HSA ⊢
 clear hWA
 have hneg:w1.heap.size≠b:=by omega
 refine Calls.mono (xa8q b gv p i1 e1 WA (uh HRA)) ?_
 rintro r w2 ⟨rfl,r2,k2⟩
 obtain ⟨x,hx⟩:∃ x,rUvar p i1 e1 = x:=⟨_,rfl⟩
 rw [hx] at HT r2 hcl ⊢
 clear hx
 obtain ⟨n,i2,e2⟩:=x
 simp only at HT r2 hcl ⊢
 have HR2:=hide r2
 have HG2:=hide (k2.heap (uh HGA) (by simpa using hneg))
 have HZ2:=hide (k2.heap (uh HZA) (by simpa using hne0))
 have HK2:=hide ((uh HKA).trans k2 (by simp))
 have HKW2:=hide k2
 clear r2 k2
 go_wp2_with fail
 refine Calls.mono (xa0k b gv p i2 e2 w2 (uh HR2)) ?_
 rintro r w3 ⟨rfl,rfl⟩
 by_cases hE:e2≠0
 ·have HT2:=hide (by rw [← uh HT,if_pos hE]:T = (0,[],0,e2))
  go_wp2_with fail
  refine Calls.mono (xa1c e2 _ hE) ?_
  rintro r w6 ⟨rfl,rfl⟩
  exact ⟨rfl,fun h=>absurd h (by rw [uh HT2]; exact hE),fun _=>by rw [uh HT2],uh HK2⟩
 have HT1:=hide (by have h9:=uh HT; rw [if_neg hE] at h9; exact h9)
 replace hE:e2 = 0:=Decidable.not_not.1 hE
 subst hE
 clear HT
 go_wp2_with fail
 refine Calls.mono (xa2c _) ?_
 rintro r w4 ⟨rfl,rfl⟩
 have q0:=cell_of_row _ _ 0 _ _ _ (uh HG2)
 go_wp2_with fail
 refine Calls.mono (xa2d f n _ hfl hcl) ?_
 rintro r w5 ⟨rfl,rfl⟩
 by_cases hE:cntE f n≠0
 ·have HT2:=hide (by rw [← uh HT1,if_pos hE]:T = (0,[],0,cntE f n))
  go_wp2_with fail
  refine Calls.mono (xa1c (cntE f n) _ hE) ?_
  rintro r w6 ⟨rfl,rfl⟩
  exact ⟨rfl,fun h=>absurd h (by rw [uh HT2]; exact hE),fun _=>by rw [uh HT2],uh HK2⟩
 have HT2:=hide (by have h9:=uh HT1; rw [if_neg hE] at h9; exact h9.symm)
 replace hE:cntE f n = 0:=Decidable.not_not.1 hE
 have hn64:n≤64:=by
  unfold cntE at hE
  split at hE
  ·omega
  ·omega
 rw [hE]
 clear HT1 hE
 go_wp2_with fail
 refine Calls.mono (xa2c _) ?_
 rintro r w6 ⟨rfl,rfl⟩
 go_wp2_with fail
 have HW6:=hide (Kept.refl [b,w1.heap.size] w6)
 have hgb6:w1.heap.size < w6.heap.size:=lt_of_block (uh HG2)
 have hb6:b < w6.heap.size:=by omega
 go_loopw [19] (fun t19 wr=>∃ (j ij:Nat) (vE:Value) (ts:List (En × Value × Value)),j≤n∧t19 = .int .u64 j∧Hid (ts.length = j)∧Hid (takeN p i2 n = (ts.map (·.1)++(takeN p ij (n - j)).1,(takeN p ij (n - j)).2))∧Hid (ReAt wr b gv p ij 0)∧Hid (wr.heap[w1.heap.size]? = some (.cells #[.int .u64 (f:Int),vE] 75 (0,0))) ∧
  Hid (wr.heap[w.heap.size]? = some (.cells #[.int .u64 0,.slice none 0 0] 75 (0,0)))∧Hid (OwnN [b,w1.heap.size] w6 wr vE ts)) (fun t _=>n - (intOf t).toNat)
 case atStart=>exact ⟨0,i2,.slice none 0 0,[],Nat.zero_le _,rfl,hide rfl,hide (by simp),HR2,HG2,HZ2,hide (OwnN.start (uh HW6))⟩
 case round =>
  obtain ⟨j,ij,vE,ts,hj,rfl,HJ,HTN,HR,HG,HZR,HO⟩:=hrel
  by_cases hlt:j < n
  ·have hlt':(j:Int) < n:=by omega
   obtain ⟨m,hm⟩:∃ m,n - j = m + 1:=⟨n - j - 1,by omega⟩
   have hmm:n - (j + 1) = m:=by omega
   rw [hm] at HTN
   have HHS:=hide (by have h9:=lt_of_block (uh HZR); have h8:=(uh HO).kept.size; omega:w6.heap.size≤wr.heap.size)
   have HRD:=hide ((uh HR).kept (Kept.refl [] wr).drew (by simp) (by simp))
   have HGV:=hide (fun x hx=>by have h9:=hgv x hx; have h8:=uh HHS; show x < wr.heap.size; omega:∀ x∈blk gv,x < wr.drew.heap.size)
   have HCT:=hide (xa6l b gv p ij wr.drew (uh HRD) (uh HGV))
   have HTU:=hide (show takeN p ij (m + 1) = if (takeE p ij).2.2≠0 then ([],0,(takeE p ij).2.2) else ((takeE p ij).1 :: (takeN p (takeE p ij).2.1 m).1,(takeN p (takeE p ij).2.1 m).2) from rfl)
   obtain ⟨X,hX⟩:∃ X,takeE p ij = X:=⟨_,rfl⟩
   rw [hX] at HCT HTU
   clear hX
   obtain ⟨en,i3,e3⟩:=X
   simp only at HTU
   have c1:wr.cell? ⟨w1.heap.size,1,none⟩ = some vE:=by rw [cell_of_row _ _ _ _ _ _ (uh HG)]; rfl
   have HC1:=hide c1
   have HTB:=hide (fun he:e3≠0=>by rw [uh HT2]; show (takeN p i2 n).2.2 = e3; rw [uh HTN,uh HTU,if_pos he]:e3≠0→T.2.2.2 = e3)
   have HKR:=hide ((uh HK2).trans (uh HO).kept (by intro x hx; simp at hx; rcases hx with rfl | rfl; left; simp; right; omega))
   go_wp2_with fail
   go_region_law (first
    | (refine xb3u rfl _ _ rfl rfl _ w6.heap.size vE ts en (.slice a8 m8 c8) (.slice a9 m9 c9) w3.heap.size (by exact (uh HO3).own) (by exact heap_alloc_new w3 _) rfl rfl (by have:=uh HJ; omega) (by exact uh HB3) rfl rfl ?_; intro g cap w5 HO5 HG5 HA5; have hrow5:=(uh HK45 w5 HG5).heap (uh HGR4) (uh HNG4); have s5:=cell_of_row _ _ 1 _ _ _ hrow5; have z5:=frozen_of_row _ _ 1 _ _ hrow5; have HGR5:=hide hrow5; clear hrow5)
    | (go_simp; go_at_call 196; refine (uh HCT).mono ?_; rintro r w3 ⟨t1,t2,t3⟩; by_cases he3:e3≠0; exact (by have hr:=t2 he3; subst hr; exact ⟨rfl,fun h=>absurd ((uh HTB he3).symm.trans h) he3,fun _=>by rw [uh HTB he3],(uh HKR).trans ((Kept.refl [b] wr).drew.trans t3 (by simp)) (by simp)⟩); replace he3:e3 = 0:=Decidable.not_not.1 he3; subst he3; obtain ⟨kv,vv,hr,ok3,re3,nw3⟩:=t1 rfl; subst hr; obtain ⟨a8,m8,c8,hu8,_⟩:=id ok3.key; subst hu8; obtain ⟨a9,m9,c9,hu9,_⟩:=id ok3.val; subst hu9; have HT3:=hide t3; have HOK3:=hide ok3; have HRE3:=hide re3; have HNW3:=hide nw3; have HO3:=hide (((uh HO).old ((Kept.refl [b] wr).drew.trans t3 (by simp):Kept [b] wr w3) (by intro x hx; rw [List.mem_singleton] at hx; subst hx; exact ⟨by simp,hb6⟩)).pass (M:=[]) ((Kept.refl [] w3).alloc (.cells #[.int .u8 (en.k:Int),.slice a8 m8 c8,.slice a9 m9 c9] 71)) (by simp) (by simp) (by simp)); have HB3:=hide (uh HO3).kept.size; have HGR4:=hide (((Kept.refl [] w3).alloc (.cells #[.int .u8 (en.k:Int),.slice a8 m8 c8,.slice a9 m9 c9] 71)).heap (t3.heap (show wr.drew.heap[w1.heap.size]? = _ from uh HG) (by simpa using hneg)) (by simp)); have HNG4:=hide (by intro hm9; have h9:=(uh HO3).own.lt w1.heap.size (by simpa using hm9); omega:w1.heap.size∉vE.ownBlock.toList); have HK45:=hide (fun w5 (hg:Hid ((w3.alloc (.cells #[.int .u8 (en.k:Int),.slice a8 m8 c8,.slice a9 m9 c9] 71)).grownBy w5 vE.ownBlock))=>(Kept.refl vE.ownBlock.toList _).grown (uh hg) (by intro k hk; left; simp [hk])); have d1:=t3.cell (uh HC1) (by simpa using hneg); have d2:∀ ob,(w3.alloc ob).cell? ⟨w1.heap.size,1,none⟩ = some vE:=fun ob=>((Kept.refl [] w3).alloc ob).cell d1 (by simp); clear t1 t2 t3 ok3 re3 nw3; simp only [enC]))
   all_goals
    go_wp2
    refine ⟨⟨j + 1,i3,.slice (some ⟨g,0,none⟩) (ts.length + 1) cap,ts++[(en,.slice a8 m8 c8,.slice a9 m9 c9)],by omega,by go_num,hide (by rw [List.length_append,uh HJ]; rfl),hide ?_,hide ?_,hide ?_,hide ?_,hide ?_⟩,?_⟩
    ·rw [hmm,uh HTN,uh HTU,if_neg (by simp)]; simp
    ·have k1:=((Kept.refl [] w3).alloc (.cells #[.int .u8 (en.k:Int),.slice a8 m8 c8,.slice a9 m9 c9] 71))
     have k2:=uh HK45 w5 HG5
     have r1:=(uh HRE3).kept k1 (by simp) (by simp)
     have r2:=r1.kept k2 (fun hm9=>by have h9:=(uh HO3).own.lt b (by simpa using hm9); omega) (fun x hx hm9=>by have h9:=(uh HO3).own.lt x (by simpa using hm9); have h8:=hgv x hx; omega)
     exact r2.kept ((Kept.refl [w1.heap.size] w5).setCell (p:=⟨w1.heap.size,1,none⟩) (Or.inl (by simp)) _) (by simp; omega) (fun x hx=>by simp; have h8:=hgv x hx; omega)
    ·exact heap_setCell_same w5 w1.heap.size 1 _ 75 _ (uh HGR5)
    ·have k1:=((Kept.refl [] w3).alloc (.cells #[.int .u8 (en.k:Int),.slice a8 m8 c8,.slice a9 m9 c9] 71))
     have z1:=(uh HT3).heap (show wr.drew.heap[w.heap.size]? = _ from uh HZR) (by simpa using hne0)
     have z2:=k1.heap z1 (by simp)
     have z3:=(uh HK45 w5 HG5).heap z2 (fun hm9=>by have h9:=(uh HO3).own.lt w.heap.size (by simpa using hm9); omega)
     exact ((Kept.refl [w1.heap.size] w5).setCell (p:=⟨w1.heap.size,1,none⟩) (Or.inl (by simp)) _).heap z3 (by simp; omega)
    ·have o5:=(uh HO3).push ((uh HOK3).old ((Kept.refl [] w3).alloc _)) (fun b' hb'=>by
      have h9:wr.heap.size≤b':=by
       rcases hb' with hb' | hb'
       ·exact uh HNW3 b' (Or.inl (xa3f hb').1)
       ·exact uh HNW3 b' (Or.inr (xa3f hb').1)
      have h8:=uh HHS
      exact ⟨fun e=>by have h7:=((uh HO).own.lt b' e).2; omega,by omega⟩) (uh HO5) (uh HG5) (uh HA5)
     refine o5.pass ((Kept.refl [w1.heap.size] w5).setCell (p:=⟨w1.heap.size,1,none⟩) (Or.inl (by simp)) _) (by simp) (fun x hx e=>?_) (fun x hx t ht=>⟨fun hb'=>?_,fun hb'=>?_⟩)
     ·have h9:=(o5.own.lt x e).1; rw [List.mem_singleton] at hx; omega
     ·have h9:=(o5.apart t ht x (Or.inl hb')).2; rw [List.mem_singleton] at hx; omega
     ·have h9:=(o5.apart t ht x (Or.inr hb')).2; rw [List.mem_singleton] at hx; omega
    ·simp [intOf]; omega
  ·have hlt':¬ (j:Int) < n:=by omega
   have hjn:j = n:=by omega
   subst hjn
   rw [Nat.sub_self] at HTN
   have HT3:=hide (by rw [uh HT2,uh HTN]; simp [takeN]:T = (f,ts.map (·.1),ij,0))
   have HK9:=hide ((uh HK2).trans (uh HO).kept (by intro x hx; simp at hx; rcases hx with rfl | rfl; left; simp; right; omega))
   obtain ⟨aE,mE,cE,hvE⟩:∃ aE mE cE,vE = .slice aE mE cE:=by
    rcases (uh HO).own.2 with ⟨rfl,_⟩ | ⟨g,cap,cur,rfl,_⟩
    ·exact ⟨_,_,_,rfl⟩
    ·exact ⟨_,_,_,rfl⟩
   subst hvE
   have krow:=(Kept.refl [w.heap.size] wr).setRowE (g:=w.heap.size) (Or.inl (by simp)) #[.int .u64 (f:Int),.slice aE mE cE]
   have HOR:=hide (((uh HO).mono (M:=[b,w1.heap.size,w.heap.size]) (by intro x hx; simp at hx; rcases hx with rfl | rfl <;> simp)).pass krow (by simp) (fun x hx e=>by have h9:=((uh HO).own.lt x e).1; rw [List.mem_singleton] at hx; omega) (fun x hx t ht=>⟨fun hb'=>by have h9:=((uh HO).apart t ht x (Or.inl hb')).2; rw [List.mem_singleton] at hx; omega,fun hb'=>by have h9:=((uh HO).apart t ht x (Or.inr hb')).2; rw [List.mem_singleton] at hx; omega⟩))
   have HRR:=hide ((uh HR).kept krow (by simp; omega) (fun x hx=>by simp; have h9:=hgv x hx; omega))
   clear krow
   go_wp2_with (first
    | (refine wpList_load_row rfl 75 _ rfl w1.heap.size rfl _ #[.int .u64 (f:Int),.slice aE mE cE] (0,0) _ (uh HG) Tryz.underlying75 rfl Tryz.size_batch ?_)
    | (refine wpList_store_row rfl 75 _ _ rfl w.heap.size #[.int .u64 (f:Int),.slice aE mE cE] rfl rfl _ #[.int .u64 0,.slice none 0 0] (uh HZR) Tryz.size_batch rfl (by simp [Value.oneCell']) ?_))
   refine bodyPost_ret (v:=.agg #[.int .u64 (f:Int),.slice aE mE cE]) ?_ rfl ⟨fun _=>⟨.slice aE mE cE,by rw [uh HT3],?_,?_⟩,fun h=>absurd (by rw [uh HT3]) h,(uh HK9).setRowE (Or.inr (Nat.le_refl _)) _⟩
   ·exact results_cell_row rfl _ _ w.heap.size _ #[.int .u64 (f:Int),.slice aE mE cE] (0,0) _ rfl (setRow_heap _ _ _ _ _ _ (uh HZR)) Tryz.underlying75 rfl Tryz.size_batch
   ·rw [uh HT3]; exact ⟨_,w6,ts,rfl,uh HOR,by omega⟩
   ·rw [uh HT3]; exact uh HRR
theorem xb0m {w:World} {g:Nat} {a b:Value} {t:TypeId} (h:w.heap[g]? = some (.cells #[a,b] t (0,0))) (x y:Value):((w.setCell ⟨g,0,none⟩ x).setCell ⟨g,1,none⟩ y).heap[g]? = some (.cells #[x,y] t (0,0)):=by
 rw [heap_setCell_same _ g 1 _ t _ (heap_setCell_same w g 0 _ t _ h)]; rfl
theorem xa5t {L:List Nat} {w0 w:World} (k:Kept L w0 w) (g:Nat) (hg:g∈L∨w0.heap.size≤g) (x y:Value):Kept L w0 ((w.setCell ⟨g,0,none⟩ x).setCell ⟨g,1,none⟩ y):=(k.setCell hg x).setCell hg y
theorem xa9m (ge gf:Nat) (w:World) :
  CallsD Tryz.prog 133 #[.pointer (some ⟨ge,0,none⟩),.pointer (some ⟨gf,0,none⟩)] .returning w fun e u' w'=>e = .returned (.tuple #[])∧u' = .returning∧w' = w:=by
 refine callsD_of_wpS Tryz.func133 rfl fun c₀ cs hu=>?_
 apply wpS_seq
 apply wpS_region
 simp [wpOpsS,go_sem,recoverD,hu,Tryz.ntmps133,Exit.thenS]
 refine wpS_of_wp ?_
 go_wp2
 cases c₀
 simp_all [bodyPostS,results,Tryz.results133]
theorem xa4g (f ge gf:Nat) (w:World) (a b x:Value) (he:w.heap[ge]? = some (.cells #[a,b] 75 (0,0))) (hf:w.heap[gf]? = some (.cells #[x] 27 (0,0))) (hne:ge≠gf) :
  CallsD Tryz.prog 133 #[.pointer (some ⟨ge,0,none⟩),.pointer (some ⟨gf,0,none⟩)] (.panicking (gave f)) w fun e u' w'=>e = .returned (.tuple #[])∧u' = .panicking [{ v:=.iface 286 (.agg #[.int .i64 (f:Int)]),recovered:=true }] ∧
   (w'.heap[ge]? = some (.cells #[.int .u64 0,.slice none 0 0] 75 (0,0))∧w'.heap[gf]? = some (.cells #[.int .i64 (f:Int)] 27 (0,0))∧Kept [ge,gf] w w'):=by
 have HE:=hide he
 have HF:=hide hf
 clear he hf
 unfold gave
 refine callsD_of_wpS Tryz.func133 rfl fun c₀ cs hu=>?_
 apply wpS_seq
 apply wpS_region
 simp [wpOpsS,go_sem,recoverD,hu,Tryz.ntmps133,Exit.thenS]
 refine wpS_of_wp ?_
 go_wp2_with fail
 refine Calls.mono (xb0q f w) ?_
 rintro r w1 ⟨rfl,k1⟩
 have HE1:=hide (k1.heap (uh HE) (by simp))
 have HF1:=hide (k1.heap (uh HF) (by simp))
 have HK1:=hide k1
 clear k1
 have s0:=cell_of_row _ _ 0 _ _ _ (uh HE1)
 have s1:=cell_of_row _ _ 1 _ _ _ (uh HE1)
 have t0:=cell_of_row _ _ 0 _ _ _ (uh HF1)
 have f0:=frozen_of_row _ _ 0 _ _ (uh HE1)
 have f1:=frozen_of_row _ _ 1 _ _ (uh HE1)
 have g0:=frozen_of_row _ _ 0 _ _ (uh HF1)
 have hne':gf≠ge:=fun h=>hne h.symm
 have HG1:=hide (xb0m (uh HE1) (.int .u64 0) (.slice none 0 0))
 have kp:=xa5t (Kept.refl [ge] w1) ge (Or.inl (by simp)) (.int .u64 0) (.slice none 0 0)
 have HG2:=hide (heap_setCell_same _ gf 0 _ 27 (.int .i64 (f:Int)) (kp.heap (uh HF1) (by simpa using hne')))
 have HG3:=hide (((Kept.refl [gf] _).setCell (p:=⟨gf,0,none⟩) (Or.inl (by simp)) (.int .i64 (f:Int))).heap (uh HG1) (by simpa using hne))
 have HK2:=hide ((xa5t ((uh HK1).mono (M:=[ge,gf]) (by simp)) ge (Or.inl (by simp)) (.int .u64 0) (.slice none 0 0)).setCell (p:=⟨gf,0,none⟩) (Or.inl (by simp)) (.int .i64 (f:Int)))
 clear kp
 go_wp2
 cases c₀
 simp_all [bodyPostS,results,Tryz.results133]
 exact ⟨uh HG3,uh HG2,uh HK2⟩
def decB (p:List Nat):Nat × List En × Nat :=
 if (takeB p 0).2.2.2≠0 then (0,[],(takeB p 0).2.2.2) else if doneE p (takeB p 0).2.2.1 0≠0 then (0,[],doneE p (takeB p 0).2.2.1 0) else ((takeB p 0).1,(takeB p 0).2.1,0)
set_option maxHeartbeats 2000000 in
theorem xa3y (v:Value) (p:List Nat) (w:World) (h:Rd w v p) :
  Calls Tryz.prog 87 #[v] w fun r w'=>∃ bv,r = .returned (.tuple #[.agg #[.int .u64 ((decB p).1:Int),bv],.int .i64 (decB p).2.2])∧NewN w.heap.size w' bv (decB p).2.1∧Kept [] w w':=by
 have H:=hide h
 clear h
 obtain ⟨D,hD⟩:∃ D,decB p = D:=⟨_,rfl⟩
 rw [hD]
 have HD:=hide hD
 unfold decB at HD
 clear hD
 have hmf:∀ (fn:Fn) (first cap:Array Value) (w:World),(Instr.makeFunc fn first cap).run Tryz.prog w = .ok (.func fn first cap) w:=fun _ _ _ _=>rfl
 have HE:=hide (((Kept.refl [] (w.alloc (.cells #[.int .u64 0,.slice none 0 0] 75))).alloc (.cells #[.int .i64 0] 27)).heap (heap_alloc_new w (.cells #[.int .u64 0,.slice none 0 0] 75)) (by simp))
 have HF:=hide (xa3w w (.cells #[.int .u64 0,.slice none 0 0] 75) (.cells #[.int .i64 0] 27))
 have HK0:=hide (((Kept.refl [] w).alloc (.cells #[.int .u64 0,.slice none 0 0] 75)).alloc (.cells #[.int .i64 0] 27))
 have HS0:=hide (show ((w.alloc (.cells #[.int .u64 0,.slice none 0 0] 75)).alloc (.cells #[.int .i64 0] 27)).heap.size = w.heap.size + 2 by simp)
 go_enter_defers Tryz.func87,Tryz.ntmps87
 go_wp2_with fail
 refine Calls.mono (xa2s v p _ ((uh H).old (uh HK0) (by simp))) ?_
 rintro r w1 ⟨b,gv,rfl,hb,r1,g1,k1⟩
 rw [uh HS0] at hb
 have HG1:=hide (fun x hx=>by have h9:=g1 x hx; rw [uh HS0] at h9; exact h9:∀ x∈blk gv,w.heap.size + 2≤x∧x < w1.heap.size)
 have HE1:=hide (k1.heap (uh HE) (by simp))
 have HF1:=hide (k1.heap (uh HF) (by simp))
 have HK1:=hide ((uh HK0).trans k1 (by simp))
 have HR1:=hide r1
 clear r1 g1 k1
 go_wp2_with fail
 refine Calls.mono (xa5p b gv p 0 w1 (uh HR1) (fun x hx=>(uh HG1 x hx).2)) ?_
 rintro r w2 ht
 obtain ⟨T,hT⟩:∃ T,takeB p 0 = T:=⟨_,rfl⟩
 rw [hT] at HD ht
 clear hT
 obtain ⟨ff,es,i2,f2⟩:=T
 simp only at HD
 obtain ⟨t1,t2,t3⟩:=ht
 simp only at t1 t2
 have HE2:=hide (t3.heap (uh HE1) (by simp; omega))
 have HF2:=hide (t3.heap (uh HF1) (by simp; omega))
 have HK2:=hide ((uh HK1).trans t3 (by simp; omega))
 clear t3
 by_cases hf2:f2≠0
 ·have hr:=t2 hf2
  subst hr
  have HD2:=hide (by rw [← uh HD,if_pos hf2]:D = (0,[],f2))
  clear t1 t2 HD
  go_wp2
  refine leaves_cons (f:=133) (args:=#[.pointer (some ⟨w.heap.size,0,none⟩),.pointer (some ⟨w.heap.size + 1,0,none⟩)]) (by simp) (by simp [go_sem]) ?_
  refine (xa4g f2 w.heap.size (w.heap.size + 1) w2 _ _ _ (uh HE2) (uh HF2) (by omega)).mono ?_
  rintro e u' w3 ⟨rfl,rfl,h1,h2,k3⟩
  have HE3:=hide h1
  have HF3:=hide h2
  clear h1 h2
  show Leaves _ _ _ _ [] .returning w3
  refine ⟨.tuple #[.agg #[.int .u64 0,.slice none 0 0],.int .i64 (f2:Int)],?_,?_⟩
  ·exact xa0w rfl _ _ w.heap.size (w.heap.size + 1) _ _ _ _ _ _ .i64 _ rfl (uh HE3) rfl (uh HF3) Tryz.underlying75 rfl Tryz.size_batch Tryz.underlying27
  ·refine ⟨.slice none 0 0,by rw [uh HD2]; rfl,by rw [uh HD2]; exact NewN.nil _ _ ((uh HK2).trans k3 (by simp)).size,(uh HK2).trans k3 (by simp)⟩
 replace hf2:f2 = 0:=Decidable.not_not.1 hf2
 obtain ⟨bv,hr,ok2,re2⟩:=t1 hf2
 subst hr
 have HD1:=hide (by have h9:=uh HD; rw [if_neg (by simpa using hf2)] at h9; exact h9)
 clear t1 t2 HD hf2
 obtain ⟨a3,m3,c3,kf,vf,hu3,_⟩:=id ok2.rdN
 subst hu3
 have HO2:=hide ok2
 have HR2:=hide re2
 clear ok2 re2
 have hw1:w.heap.size + 2≤w1.heap.size:=by have h9:=lt_of_block (uh HF1); omega
 have kst:=(Kept.refl [w.heap.size] w2).setRowE (g:=w.heap.size) (Or.inl (by simp)) #[.int .u64 (ff:Int),.slice a3 m3 c3]
 have HE3:=hide (setRow_heap w2 w.heap.size _ #[.int .u64 (ff:Int),.slice a3 m3 c3] 75 (0,0) (uh HE2))
 have HF3:=hide (kst.heap (uh HF2) (by simp))
 have HK3:=hide ((uh HK2).setRowE (g:=w.heap.size) (Or.inr (Nat.le_refl _)) #[.int .u64 (ff:Int),.slice a3 m3 c3])
 have HR3:=hide ((uh HR2).kept kst (by simp; omega) (fun x hx=>by simp; have h9:=uh HG1 x hx; omega))
 have HO3:=hide ((uh HO2).kept kst (by simp; omega))
 clear kst
 obtain ⟨A,hA⟩:∃ A:Array Value,#[.int .u64 (ff:Int),.slice a3 m3 c3] = A:=⟨_,rfl⟩
 have HA:=hide hA
 have HSZ:=hide (by rw [← hA]; exact Tryz.size_batch:(Tryz.prog.info? 75).map (·.size) = some A.size)
 have HS3:=hide (by rw [← hA]; rfl:A.size = 2)
 have HON:=hide (by rw [← hA]; simp [Value.oneCell']:A.all (·.oneCell') = true)
 rw [hA] at HE3 HF3 HK3 HR3 HO3 ⊢
 clear hA
 go_wp2_with (refine wpList_store_row rfl 75 _ _ rfl w.heap.size A rfl rfl _ _ (uh HE2) (uh HSZ) (uh HS3).symm (uh HON) ?_)
 obtain ⟨W3,hW3⟩:∃ W,w2.setRow w.heap.size A = W:=⟨_,rfl⟩
 rw [hW3] at HE3 HF3 HK3 HR3 HO3 ⊢
 clear hW3
 refine Calls.mono (xb5l b gv p i2 0 W3 (uh HR3)) ?_
 rintro r w4 ⟨rfl,n4,rfl⟩
 obtain ⟨d,hd⟩:∃ d,doneE p i2 0 = d:=⟨_,rfl⟩
 rw [hd] at HD1 ⊢
 clear hd
 have k4:=(Kept.refl [] W3).drewN n4
 have HE4:=hide (k4.heap (uh HE3) (by simp))
 have HF4:=hide (k4.heap (uh HF3) (by simp))
 have HK4:=hide ((uh HK3).trans k4 (by simp))
 have HO4:=hide ((uh HO3).kept k4 (by simp))
 clear k4
 by_cases hd0:d≠0
 ·have HD2:=hide (by rw [← uh HD1,if_pos hd0]:D = (0,[],d))
  clear HD1
  go_wp2_with fail
  refine Calls.mono (xa1c d _ hd0) ?_
  rintro r w5 ⟨rfl,rfl⟩
  clear hd0
  refine leaves_cons (f:=133) (args:=#[.pointer (some ⟨w.heap.size,0,none⟩),.pointer (some ⟨w.heap.size + 1,0,none⟩)]) (by simp) (by simp [go_sem]) ?_
  refine (xa4g d w.heap.size (w.heap.size + 1) _ _ _ _ (by have h9:=uh HE4; rw [← uh HA] at h9; exact h9) (uh HF4) (by omega)).mono ?_
  rintro e u' w6 ⟨rfl,rfl,h1,h2,k3⟩
  show Leaves _ _ _ _ [] .returning w6
  refine ⟨.tuple #[.agg #[.int .u64 0,.slice none 0 0],.int .i64 (d:Int)],?_,?_⟩
  ·exact xa0w rfl _ _ w.heap.size (w.heap.size + 1) _ _ _ _ _ _ .i64 _ rfl h1 rfl h2 Tryz.underlying75 rfl Tryz.size_batch Tryz.underlying27
  ·refine ⟨.slice none 0 0,by rw [uh HD2]; rfl,by rw [uh HD2]; exact NewN.nil _ _ ((uh HK4).trans k3 (by simp)).size,(uh HK4).trans k3 (by simp)⟩
 replace hd0:d = 0:=Decidable.not_not.1 hd0
 have HD2:=hide (by rw [← uh HD1,if_neg (by simpa using hd0)]:D = (ff,es,0))
 clear HD1
 subst hd0
 go_wp2_with fail
 refine Calls.mono (xa2c _) ?_
 rintro r w5 ⟨rfl,rfl⟩
 obtain ⟨W4,hW4⟩:∃ W,W3.drewN n4 = W:=⟨_,rfl⟩
 rw [hW4] at HE4 HF4 HK4 HO4 ⊢
 clear hW4
 have kst:=(Kept.refl [w.heap.size] W4).setRowE (g:=w.heap.size) (Or.inl (by simp)) A
 have HE5:=hide (setRow_heap W4 w.heap.size _ A 75 (0,0) (uh HE4))
 have HF5:=hide (kst.heap (uh HF4) (by simp))
 have HK5:=hide ((uh HK4).setRowE (g:=w.heap.size) (Or.inr (Nat.le_refl _)) A)
 have HO5:=hide ((uh HO4).kept kst (by simp; omega))
 clear kst
 have z0:=cell_of_row _ _ 0 _ _ _ (uh HF5)
 have zf:=frozen_of_row _ _ 0 _ _ (uh HF5)
 go_wp2_with (first
  | (refine wpList_load_row rfl 75 _ rfl w.heap.size rfl _ A (0,0) _ (uh HE4) Tryz.underlying75 rfl (uh HSZ) ?_)
  | (refine wpList_store_row rfl 75 _ _ rfl w.heap.size A rfl rfl _ _ (uh HE4) (uh HSZ) rfl (uh HON) ?_))
 have kc:=(Kept.refl [w.heap.size + 1] (W4.setRow w.heap.size A)).setCell (p:=⟨w.heap.size + 1,0,none⟩) (Or.inl (by simp)) (.int .i64 0)
 refine leaves_cons (f:=133) (args:=#[.pointer (some ⟨w.heap.size,0,none⟩),.pointer (some ⟨w.heap.size + 1,0,none⟩)]) (by simp) (by simp [go_sem]) ?_
 refine (xa9m w.heap.size (w.heap.size + 1) _).mono ?_
 rintro e u' w6 ⟨rfl,rfl,rfl⟩
 refine ⟨.tuple #[.agg A,.int .i64 0],?_,?_⟩
 ·exact xa0w rfl _ _ w.heap.size (w.heap.size + 1) _ _ _ _ _ _ .i64 _ rfl (kc.heap (uh HE5) (by simp)) rfl (heap_setCell_same _ (w.heap.size + 1) 0 _ 27 (.int .i64 0) (uh HF5)) Tryz.underlying75 rfl (uh HSZ) Tryz.underlying27
 ·refine ⟨.slice a3 m3 c3,by rw [uh HD2,← uh HA]; rfl,?_,(uh HK5).setCell (p:=⟨w.heap.size + 1,0,none⟩) (Or.inr (by show w.heap.size≤w.heap.size + 1; omega)) _⟩
  rw [uh HD2]
  exact ((uh HO5).kept kc (by simp; omega)).weak (by omega)
end
section
open Go Go.RowKit Go.BigFrame

theorem xa2g {P:Program} {id:Nat} {Q:Exit→Act→World→Prop} {a:Act} {W:World} {l:List Oper} (hm:P.follows .mixedOrders = true) (hB:Region.lexB .any l.toArray = true)
  (h:wpQuiet P l.toArray (fun w'=>Kept [] W w') (fun a'=>∀ w',Kept [] W w'→Q .normal a' w') l a):(Code.region id l.toArray true).wp P Q a W :=
 wp_region_quiet (C:=fun w'=>Kept [] W w') hm hB ((Kept.refl [] W).drew) (by simpa using h)
theorem xb4w {P:Program} {o:Oper} {a:Act} (ty:TypeId) (x:Operand) (ho:o.op = .load ty x) (ad:Addr) (hx:a.eval x = .pointer (some ad)) (w:World) (v:Value) (k:IntKind) (hu:P.underlying ty = some (.int k)) (hc:w.cell? ad = some v) :
  (execOp a.eval o).run P w = .ok (.value v) w:=by
 have h2:(isAgg ty).run P w = .ok false w:=by
  unfold isAgg
  rw [Sem.run_bind,run_underlying hu w]; simp
 unfold execOp
 simp only [ho,hx,Instr.loadAt,Instr.sureAddr,Sem.run_bind,Sem.run_pure,Result.andThen_ok,loadVar,h2]
 simp [go_sem,hc]
theorem xa1q {P:Program} {ops:Array Oper} {C:World→Prop} {Q:Act→Prop} {a:Act} {o:Oper} {rest:List Oper} (hw:Region.wanted o (yielded ops a.tmps) = true) (ty:TypeId) (x:Operand) (ho:o.op = .load ty x)
  (b off:Nat) (hx:a.eval x = .pointer (some ⟨b,off,none⟩)) (cs:List Value) (d:TypeDesc) (hg:∀ w,C w→w.rangeAt b off cs)
  (hu:P.underlying ty = some d) (hd:d.isRow = true) (hi:(P.info? ty).map (·.size) = some cs.length)
  (h:wpQuiet P ops C Q rest (a.put o.dst (.agg cs.toArray))):wpQuiet P ops C Q (o :: rest) a:=by
 refine wpQuiet_want hw fun K hK=>⟨.agg cs.toArray,fun w hw=>?_,hK _ h⟩
 unfold Oper.quietAt execOp
 simp only [ho]
 have:=run_loadVar_mid (P:=P) w b off ty cs d (hg w hw) hu hd hi
 simp only [hx,Instr.loadAt,Instr.sureAddr,Sem.run_bind,Sem.run_pure,Result.andThen_ok,this,Oper.quietUpon,and_self]
end
section
open Go.RowKit Go.BigFrame
theorem xb5h {α:Type} (a b:List α) (i:Nat) (ha:i < a.length) (hb:i < b.length) (h:a.take i = b.take i) (x:a[i] = b[i]):a.take (i + 1) = b.take (i + 1):=by
 rw [List.take_succ_eq_append_getElem ha,List.take_succ_eq_append_getElem hb,h,x]
set_option maxHeartbeats 1000000 in
theorem xa3z (u v:Value) (es fs:List En) (w:World) (hu:RdN w u es) (hv:RdN w v fs) :
  Calls Tryz.prog 103 #[u,v] w fun r w'=>r = .returned (.bool (decide (es = fs)))∧Kept [] w w':=by
 obtain ⟨ao,len,cap,kv,vv,rfl,h1,h2,h3,h4,h5⟩:=hu
 obtain ⟨ao',len',cap',kv',vv',rfl,g1,g2,g3,g4,g5⟩:=hv
 have H4:=hide h4
 have H5:=hide h5
 have G4:=hide g4
 have G5:=hide g5
 clear h4 h5 g4 g5
 subst h1
 subst g1
 go_enter Tryz.func103,Tryz.ntmps103
 by_cases hl:es.length = fs.length
 ·have hb:((es.length:Int) != (fs.length:Int)) = false:=by rw [hl]; simp
  have HL:=hide hl
  clear hl
  go_wp2_with fail
  go_loopw [5] (fun t12 wr=>∃ (i:Nat),i≤es.length∧t12 = .int .i64 i∧Hid (es.take i = fs.take i)∧Hid (Kept [] w wr)) (fun t _=>es.length - (intOf t).toNat)
  case atStart=>exact ⟨0,Nat.zero_le _,rfl,hide (by simp),hide (Kept.refl _ _)⟩
  case round =>
   obtain ⟨i,hi,rfl,HA,HK⟩:=hrel
   by_cases hlt:i < es.length
   ·have hlt':(i:Int) < es.length:=by omega
    have hle:i < fs.length:=by rw [← uh HL]; exact hlt
    have hle':(i:Int) < fs.length:=by omega
    obtain ⟨b,o,rfl,hcell⟩:=uh H5 (by omega)
    obtain ⟨b',o',rfl,gcell⟩:=uh G5 (by omega)
    have HRG:=hide (xa0u (hcell i hlt) (uh HK) (by simp))
    have GRG:=hide (xa0u (gcell i hle) (uh HK) (by simp))
    have HO:=hide ((uh H4 i hlt).old (uh HK))
    have GO:=hide ((uh G4 i hle).old (uh HK))
    have HN:=hide (fun (h:es[i] = fs[i])=>xb5h es fs i hlt hle (uh HA) h)
    have HM:=hide (fun (h:¬ es[i] = fs[i])=>decide_eq_false (fun e=>h (by simp [e]):¬ es = fs))
    clear hcell gcell
    generalize kv i = k1 at HRG HO
    generalize vv i = v1 at HRG HO
    generalize kv' i = k2 at GRG GO
    generalize vv' i = v2 at GRG GO
    generalize es[i] = x at HRG HO HN HM
    generalize fs[i] = y at GRG GO HN HM
    have HS1:=hide (by rw [Array.length_toList,xb3y]; exact Tryz.size_entry:(Tryz.prog.info? 71).map (·.size) = some (enC x k1 v1).toList.length)
    have HS2:=hide (by rw [Array.length_toList,xb3y]; exact Tryz.size_entry:(Tryz.prog.info? 71).map (·.size) = some (enC y k2 v2).toList.length)
    have HC1:=hide (fun w' (hw':Kept [] wr w')=>(xa6i x y k1 v1 k2 v2 w' ((uh HO).old hw') ((uh GO).old hw')).mono (fun e w2 (h2:_∧_)=>(⟨h2.1,hw'.trans h2.2 (by simp)⟩:_∧Kept [] wr w2)))
    by_cases hdd:x = y
    ·rw [decide_eq_true hdd] at HC1
     have HDD:=hide hdd
     clear hdd
     have hne:∀ p:Prop,(∀ w',Kept [] wr w'→p) = p:=fun p=>propext ⟨fun h=>h wr (Kept.refl [] wr),fun h _ _=>h⟩
     go_wp2_with fail
     refine xa2g (by kernel_rfl) (by kernel_rfl) ?_
     iterate 3 (go_big_quiet_step (fail))
     refine xa1q rfl 71 _ rfl b (o + i * 3) rfl (enC x k1 v1).toList _ (fun w' hw'=>xa0u (uh HRG) hw' (by simp)) Tryz.underlying71 rfl (uh HS1) ?_
     simp only [Act.put,List.setIfInBounds_toArray,List.set_cons_succ,List.set_cons_zero]
     iterate 3 (go_big_quiet_step (fail))
     refine xa1q rfl 71 _ rfl b' (o' + i * 3) rfl (enC y k2 v2).toList _ (fun w' hw'=>xa0u (uh GRG) hw' (by simp)) Tryz.underlying71 rfl (uh HS2) ?_
     simp only [Act.put,List.setIfInBounds_toArray,List.set_cons_succ,List.set_cons_zero]
     go_big_quiet_want
     go_big_quiet_op
     apply Exists.intro
     refine ⟨fun w' hw'=>?_,?_⟩
     ·exact uh HC1 w' hw'
     go_big_quiet_on
     repeat (go_big_quiet_step (fail))
     refine wpQuiet_nil ?_
     intro w6 hw6
     have HK6:=hide ((uh HK).trans hw6 (by simp))
     clear hw6 hne
     go_wp2
     refine ⟨⟨i + 1,by omega,by go_num,hide (uh HN (uh HDD)),HK6⟩,?_⟩
     simp [intOf]; omega
    ·rw [decide_eq_false hdd] at HC1
     have HDD:=hide hdd
     clear hdd
     have hne:∀ p:Prop,(∀ w',Kept [] wr w'→p) = p:=fun p=>propext ⟨fun h=>h wr (Kept.refl [] wr),fun h _ _=>h⟩
     go_wp2_with fail
     refine xa2g (by kernel_rfl) (by kernel_rfl) ?_
     iterate 3 (go_big_quiet_step (fail))
     refine xa1q rfl 71 _ rfl b (o + i * 3) rfl (enC x k1 v1).toList _ (fun w' hw'=>xa0u (uh HRG) hw' (by simp)) Tryz.underlying71 rfl (uh HS1) ?_
     simp only [Act.put,List.setIfInBounds_toArray,List.set_cons_succ,List.set_cons_zero]
     iterate 3 (go_big_quiet_step (fail))
     refine xa1q rfl 71 _ rfl b' (o' + i * 3) rfl (enC y k2 v2).toList _ (fun w' hw'=>xa0u (uh GRG) hw' (by simp)) Tryz.underlying71 rfl (uh HS2) ?_
     simp only [Act.put,List.setIfInBounds_toArray,List.set_cons_succ,List.set_cons_zero]
     go_big_quiet_want
     go_big_quiet_op
     apply Exists.intro
     refine ⟨fun w' hw'=>?_,?_⟩
     ·exact uh HC1 w' hw'
     go_big_quiet_on
     repeat (go_big_quiet_step (fail))
     refine wpQuiet_nil ?_
     intro w6 hw6
     have HK6:=hide ((uh HK).trans hw6 (by simp))
     clear hw6 hne
     go_wp2
     go_ret
     exact ⟨by rw [uh HM (uh HDD)]; rfl,uh HK6⟩
   ·have hlt':¬ (i:Int) < es.length:=by omega
    have hie:i = es.length:=by omega
    subst hie
    have HE:=hide (decide_eq_true (by have h9:=uh HA; rw [List.take_length,uh HL,List.take_length] at h9; exact h9:es = fs))
    go_wp2
    go_ret
    exact ⟨by rw [uh HE]; rfl,uh HK⟩
 ·have hb:((es.length:Int) != (fs.length:Int)) = true:=by rw [bne_iff_ne]; omega
  have HE:=hide (decide_eq_false (fun e=>hl (by rw [e]):¬ es = fs))
  clear hl
  go_wp2
  go_ret
  exact ⟨by rw [uh HE]; rfl,Kept.refl _ _⟩
set_option maxHeartbeats 1000000 in
theorem xa5i (f g:Nat) (u v:Value) (es fs:List En) (w:World) (hu:RdN w u es) (hv:RdN w v fs) :
  Calls Tryz.prog 54 #[.agg #[.int .u64 f,u],.agg #[.int .u64 g,v]] w fun r w'=>r = .returned (.bool (decide (f = g) && decide (es = fs)))∧Kept [] w w':=by
 have HU:=hide hu
 have HV:=hide hv
 obtain ⟨X,hX⟩:∃ X,decide (es = fs) = X:=⟨_,rfl⟩
 rw [hX]
 have HX:=hide hX
 clear hX
 obtain ⟨a1,m1,c1,_,_,rfl,_⟩:=hu
 obtain ⟨a2,m2,c2,_,_,rfl,_⟩:=hv
 have HK0:=hide (((Kept.refl [] w).alloc (.cells #[.int .u64 (f:Int),.slice a1 m1 c1] 75)).alloc (.cells #[.int .u64 (g:Int),.slice a2 m2 c2] 75))
 go_enter Tryz.func54,Tryz.ntmps54
 by_cases hk:f = g
 ·have e1:((f:Int) == (g:Int)) = true:=by rw [hk]; simp
  rw [decide_eq_true hk]
  have HKE:=hide hk
  clear hk
  go_wp2_with fail
  refine Calls.mono (xa3z _ _ es fs _ ((uh HU).old (uh HK0)) ((uh HV).old (uh HK0))) ?_
  rintro r w1 ⟨rfl,k1⟩
  rw [uh HX]
  have HK1:=hide ((uh HK0).trans k1 (by simp))
  clear k1
  go_wp2
  go_ret
  exact ⟨by simp,uh HK1⟩
 ·have e1:((f:Int) == (g:Int)) = false:=by rw [beq_eq_false_iff_ne]; omega
  rw [decide_eq_false hk]
  clear hk
  go_wp2
  go_ret
  exact ⟨by simp,uh HK0⟩

theorem rd_row {w:World} {g:Nat} (bs:List Nat) {cs:Array Value} {fr:Nat × Nat} (h:w.heap[g]? = some (.cells cs 5 fr)) (hc:cs = (bs.map u8).toArray) (hb:∀ x∈bs,x < 256) (n:Nat) (hn:bs.length = n) (hl:n≤140737488355328):Rd w (.slice (some ⟨g,0,none⟩) n n) bs:=by
 refine ⟨_,n,n,rfl,hn,Nat.le_refl _,⟨by omega,hl⟩,fun h=>by simp at h,hb,fun hp=>⟨g,0,rfl,fun i hi=>?_⟩⟩
 subst hc
 have hi':i < bs.length:=by omega
 rw [cell_of_row _ _ _ _ _ _ h,Nat.zero_add,List.getElem?_toArray,List.getElem?_map,List.getElem?_eq_getElem hi',List.getD_eq_getElem?_getD,List.getElem?_eq_getElem hi']
 rfl
theorem RdN.one {w:World} {g:Nat} {e:En} {kv vv:Value} {t:TypeId} {fr:Nat × Nat} (h:w.heap[g]? = some (.cells (enC e kv vv) t fr)) (ho:OkE w e kv vv):RdN w (.slice (some ⟨g,0,none⟩) 1 1) [e]:=by
 refine ⟨_,1,1,fun _=>kv,fun _=>vv,rfl,rfl,Nat.le_refl _,by omega,fun i hi=>?_,fun _=>⟨g,0,rfl,fun i hi=>?_⟩⟩
 ·have:i = 0:=by simpa using hi
  subst this; exact ho
 ·have:i = 0:=by simpa using hi
  subst this
  intro j v hv
  rw [cell_of_row _ _ _ _ _ _ h,Nat.zero_mul,Nat.add_zero,Nat.zero_add,← Array.getElem?_toList]
  exact hv
theorem xa3v (w:World) (a b c:Obj):(((w.alloc a).alloc b).alloc c).heap[w.heap.size]? = some a∧(((w.alloc a).alloc b).alloc c).heap[w.heap.size + 1]? = some b∧(((w.alloc a).alloc b).alloc c).heap[w.heap.size + 1 + 1]? = some c:=by
 refine ⟨?_,?_,?_⟩
 ·exact (((Kept.refl [] (w.alloc a)).alloc b).alloc c).heap (heap_alloc_new w a) (by simp)
 ·exact ((Kept.refl [] ((w.alloc a).alloc b)).alloc c).heap (xa3w w a b) (by simp)
 ·have h9:=xa3w (w.alloc a) b c
  rw [show (w.alloc a).heap.size = w.heap.size + 1 from Array.size_push _] at h9
  exact h9
def wideB (z:Int):Bool:=decide (1≤z∧z≤32)
theorem xa2k (z:Int) (w:World):Calls Tryz.prog 86 #[.int .i64 z] w fun e w'=>e = .returned (.bool (wideB z))∧w' = w:=by
 by_cases h1:1≤z
 ·by_cases h2:z≤32
  ·have hb:wideB z = true:=by simp [wideB,h1,h2]
   rw [hb]
   clear hb
   go_enter Tryz.func86,Tryz.ntmps86
   go_wp2
   go_ret
   exact ⟨rfl,rfl⟩
  ·have hb:wideB z = false:=by simp [wideB,h1]; omega
   have h2':decide (z≤32) = false:=by simpa using h2
   rw [hb]
   clear hb
   go_enter Tryz.func86,Tryz.ntmps86
   go_wp2
   go_ret
   exact ⟨rfl,rfl⟩
 ·have hb:wideB z = false:=by simp [wideB]; omega
  have h1':decide (1≤z) = false:=by simpa using h1
  rw [hb]
  clear hb
  go_enter Tryz.func86,Tryz.ntmps86
  go_wp2
  go_ret
  exact ⟨rfl,rfl⟩
def AppOk (base:Nat) (w:World) (v:Value) (bs:List Nat):Prop:=w.ownsRow base 5 1 v bs.length (bs.map u8)∨∃ g,v = .slice (some ⟨g,0,none⟩) bs.length bs.length∧Rd w v bs
theorem AppOk.pass {base:Nat} {w w':World} {v:Value} {bs:List Nat} (h:AppOk base w v bs) (k:Kept [] w w'):AppOk base w' v bs:=by
 rcases h with h | ⟨g,h1,h2⟩
 ·exact .inl (k.owns h (by simp))
 ·exact .inr ⟨g,h1,h2.old k (by simp)⟩
theorem pushA (w0 w:World) (v:Value) (bs:List Nat) (z:Nat) (H:Nat) (k:Kept [] w0 w) (h:AppOk w0.heap.size w v bs) (hnew:w.heap[H]? = some (.cells #[.int .u8 (z:Int)] 5 (0,0))) (hz:z < 256) (hl:bs.length + 1≤1000000000) :
  ∃ ao cap w1,(Builtin.append_ #[49,49] 49 #[v,.slice (some ⟨H,0,none⟩) 1 1]).run Tryz.prog w = .ok (.slice ao (bs.length + 1) cap) w1 ∧
   w1.ownsRow w0.heap.size 5 1 (.slice ao (bs.length + 1) cap) (bs++[z]).length ((bs++[z]).map u8)∧Kept [] w0 w1:=by
 have hr:Rd w (.slice (some ⟨H,0,none⟩) 1 1) [z]:=rd_lit hnew rfl (by simpa using hz) 1 rfl (by omega)
 rcases h with h | ⟨g,rfl,h2⟩
 ·obtain ⟨ao,cap,w1,hrun,ho,hg,_⟩:=appendAll w w0.heap.size v bs [z] _ 1 1 h hr (by simp; omega) k.size
  exact ⟨ao,cap,w1,hrun,ho,k.grown hg (fun j hj=>.inr (h.lt j hj).1)⟩
 ·obtain ⟨i0,hi,hz0,hz1,hz2⟩:=info_parts Tryz.info5
  have hold:∀ j u,(bs.map u8)[j]? = some u→w.cell? (Addr.add ⟨g,0,none⟩ j) = some u:=by
   intro j u hj
   by_cases h0:0 < (bs.map u8).length
   ·obtain ⟨ad',e,hc⟩:=h2.src h0
    cases e
    exact hc j u hj
   ·have:bs.map u8 = []:=List.eq_nil_of_length_eq_zero (by omega)
    rw [this] at hj; simp at hj
  have hnews:∀ j u,([z].map u8)[j]? = some u→w.cell? (Addr.add ⟨H,0,none⟩ j) = some u:=by
   intro j u hj
   obtain ⟨ad',e,hc⟩:=hr.src (by simp)
   cases e
   exact hc j u hj
  obtain ⟨v',w1,hrun,hown,hgrow⟩:=run_append_arg_grows (P:=Tryz.prog) w 49 49 5 i0 (.int .u8 0) 1 1 Tryz.underlying49 hi hz0 hz1 hz2 rfl (by decide)
   ⟨g,0,none⟩ bs.length bs.length (bs.map u8) (by simp) hold ⟨H,0,none⟩ 1 1 ([z].map u8) (by simp) hnews (by omega) (by unfold maxLen; omega) (by omega)
  obtain ⟨ao',cap',rfl⟩:=xa1l hown
  exact ⟨ao',cap',w1,hrun,by rw [List.length_append,List.map_append]; exact xa2u hown k.size,k.trans ((Kept.refl [] w).grown hgrow (by simp)) (by simp)⟩
theorem xa3l {ops:Array Oper} {rest:List Oper} {o:Oper} {a:Act} {Q:Exit→Act→World→Prop} (hgd:o.guard = none) (s x:Operand)
  (ho:o.op = .call { callee:=.builtin .append,args:=#[s,x],argTypes:=#[49,49] }) (hty:o.type = 49)
  (w0 w:World) (v:Value) (bs:List Nat) (z:Nat) (H:Nat) (k:Kept [] w0 w) (h:AppOk w0.heap.size w v bs) (hnew:w.heap[H]? = some (.cells #[.int .u8 (z:Int)] 5 (0,0))) (hz:z < 256) (hl:bs.length + 1≤1000000000)
  (hs:a.eval s = v) (hx:a.eval x = .slice (some ⟨H,0,none⟩) 1 1)
  (hK:∀ ao cap w1,Hid (w1.ownsRow w0.heap.size 5 1 (.slice ao (bs.length + 1) cap) (bs++[z]).length ((bs++[z]).map u8))→Hid (Kept [] w0 w1)→wpList Tryz.prog ops Q rest (a.put o.dst (.slice ao (bs.length + 1) cap)) w1) :
  wpList Tryz.prog ops Q (o :: rest) a w:=by
 obtain ⟨ao,cap,w1,hrun,h2,h3⟩:=pushA w0 w v bs z H k h hnew hz hl
 refine wpList_plain hgd fun K hK'=>?_
 unfold Oper.wp execOp
 simp only [ho,hty,resolve,invoke,builtin,Sem.run_bind,Sem.run_pure,Result.andThen_ok,List.map_toArray,List.map_cons,List.map_nil,hs,hx,hrun]
 exact hK' _ _ (hK ao cap w1 h2 h3)
theorem AppOk.shape {base:Nat} {w:World} {v:Value} {bs:List Nat} (h:AppOk base w v bs):∃ ao cap,v = .slice ao bs.length cap:=by
 rcases h with h | ⟨g,h1,h2⟩
 ·exact xa1l h
 ·exact ⟨_,_,h1⟩
set_option maxHeartbeats 2000000 in
theorem xa0x (w0 w:World) (v:Value) (bs:List Nat) (x:Nat) (k:Kept [] w0 w) (h:AppOk w0.heap.size w v bs) (hl:bs.length≤1000000) :
  Calls Tryz.prog 141 #[v,.int .u64 x] w fun e w'=>∃ v',e = .returned v'∧AppOk w0.heap.size w' v' (bs++wide x 8)∧Kept [] w0 w':=by
 have HH:=hide h
 have HK:=hide k
 clear h k
 go_enter Tryz.func141,Tryz.ntmps141
 go_wp2_with fail
 go_loopw [0,5] (fun t0 t5 wr=>∃ (k:Nat) (cur:List Nat),t5 = .int .i64 ((k:Int) - 1)∧k≤8∧Hid (cur++wide x k = bs++wide x 8)∧Hid (AppOk w0.heap.size wr t0 cur)∧Hid (Kept [] w0 wr)) (fun _ t _=>(intOf t + 1).toNat)
 case atStart=>exact ⟨8,bs,rfl,Nat.le_refl _,rfl,HH,HK⟩
 case round =>
  obtain ⟨k,cur,rfl,hk,Hp,HA,HK1⟩:=hrel
  have hlen:cur.length + k≤1000008:=by have h1:=congrArg List.length (uh Hp); simp [xa0d] at h1; omega
  by_cases h0:k = 0
  ·subst h0
   go_wp2
   go_ret
   have h1:cur = bs++wide x 8:=by have h2:=uh Hp; rw [show wide x 0 = [] from rfl,List.append_nil] at h2; exact h2
   exact ⟨_,rfl,by rw [← h1]; exact uh HA,uh HK1⟩
  ·obtain ⟨j,rfl⟩:∃ j,k = j + 1:=⟨k - 1,by omega⟩
   have e1:(((j + 1:Nat):Int) - 1) = (j:Int):=by omega
   rw [e1]
   have hj0:(0:Int)≤(j:Int):=by omega
   have hj8:(j:Int)≤7:=by omega
   obtain ⟨q,hq⟩:∃ q,q = x / 256 ^ j:=⟨_,rfl⟩
   have hsh:=shr8 x j (by omega)
   rw [← hq] at hsh
   have Hq:=hide hq
   clear hq
   have hz1:IntKind.u8.wrap (q:Int) = ((q % 256:Nat):Int):=by rw [IntKind.wrap_u8']; omega
   have hz2:(q:Int) % 256 = ((q % 256:Nat):Int):=by omega
   have HZ:=hide (Nat.mod_lt q (by decide:0 < 256))
   obtain ⟨y,hy⟩:∃ y,q % 256 = y:=⟨_,rfl⟩
   rw [hy] at hz1 hz2 HZ
   have HY:=hide hy
   have hval:(x:Int) / 2 ^ (8 * j) % 256 = (y:Int):=by
    have h1:(x:Int) / 2 ^ (8 * j) = (q:Int):=by rw [uh Hq,Int.pow_mul]; simp
    rw [h1,hz2]
   clear hy
   obtain ⟨ao,cap,he⟩:=(uh HA).shape
   subst he
   go_wp2_with (at_builtin; go_must (refine xa3l rfl (.tmp 10) (.tmp 16) rfl rfl w0 _ (.slice ao cur.length cap) cur y wr.heap.size ((uh HK1).alloc _) ((uh HA).pass ((Kept.refl [] wr).alloc _)) (heap_alloc_new _ _) (uh HZ) (by omega) rfl rfl ?_; intro ao2 cap2 w2 HO2 HK2))
   go_roundw
   case rel=>exact ⟨j,cur++[y],rfl,by omega,hide (by rw [← uh Hp,← uh HY,uh Hq]; simp [wide]),hide (.inl (uh HO2)),HK2⟩
   case measure=>simp [intOf]
theorem hcells {w:World} {b:Nat} {x0 x1 x2 x3:Value} {t:TypeId} (h:w.heap[b]? = some (.cells #[x0,x1,x2,x3] t (0,0))):w.cell? ⟨b,0,none⟩ = some x0∧w.cell? ⟨b,1,none⟩ = some x1∧w.cell? ⟨b,2,none⟩ = some x2∧w.cell? ⟨b,3,none⟩ = some x3:=by
 refine ⟨?_,?_,?_,?_⟩ <;> rw [cell_of_row _ _ _ _ _ _ h] <;> rfl
def headB (a b c:Nat) (z:Int):List Nat:=[78,84,82,89,49]++wide a 8++wide b 8++wide c 8++[(z % 256).toNat]
theorem xb9u (a b c:Nat) (z:Int):headB a b c z = [78,84,82,89,49]++wide a 8++wide b 8++wide c 8++[(z % 256).toNat]:=rfl
theorem xa1d (a b c:Nat) (z:Int):(headB a b c z).length = 30:=by simp [headB,xa0d]
def ehE (z:Int):Nat:=if wideB z then 0 else 1
def ehB (a b c:Nat) (z:Int):List Nat:=if wideB z then frB a (headB a b c z) else []
set_option maxHeartbeats 2000000 in
theorem xa4m (a b c:Nat) (z:Int) (w:World) (ha:a < 18446744073709551616) (hz:-9223372036854775808≤z∧z≤9223372036854775807) :
  Calls Tryz.prog 92 #[.agg #[.int .u64 a,.int .u64 b,.int .u64 c,.int .i64 z]] w fun e w'=>∃ v',e = .returned (.tuple #[v',.int .i64 (ehE z)])∧NewB w w' v' (ehB a b c z)∧Kept [] w w':=by
 have HK0:=hide ((Kept.refl [] w).alloc (.cells #[.int .u64 a,.int .u64 b,.int .u64 c,.int .i64 z] 53))
 have HB0:=hide (heap_alloc_new w (.cells #[.int .u64 a,.int .u64 b,.int .u64 c,.int .i64 z] 53))
 by_cases hw:wideB z = true
 ·have hE:ehE z = 0:=by simp [ehE,hw]
  have hB:ehB a b c z = frB a (headB a b c z):=by simp [ehB,hw]
  rw [hE,hB]
  clear hE hB
  have hzz:1≤z∧z≤32:=by simpa [wideB] using hw
  have kc:(convert 49 49 (.slice (some ⟨w.heap.size + 1,0,none⟩) 5 5)).run Tryz.prog ((w.alloc (.cells #[.int .u64 a,.int .u64 b,.int .u64 c,.int .i64 z] 53)).alloc (.cells #[.int .u8 78,.int .u8 84,.int .u8 82,.int .u8 89,.int .u8 49] 5)) = .ok (.slice (some ⟨w.heap.size + 1,0,none⟩) 5 5) ((w.alloc (.cells #[.int .u64 a,.int .u64 b,.int .u64 c,.int .i64 z] 53)).alloc (.cells #[.int .u8 78,.int .u8 84,.int .u8 82,.int .u8 89,.int .u8 49] 5 (5,6))):=by
   have h9:=Lib.run_convert_bytes_const (P:=Tryz.prog) (w.alloc (.cells #[.int .u64 a,.int .u64 b,.int .u64 c,.int .i64 z] 53)) 49 5 #[.int .u8 78,.int .u8 84,.int .u8 82,.int .u8 89,.int .u8 49] 5 5 Tryz.underlying49 Tryz.underlying5
   rw [show (w.alloc (.cells #[.int .u64 a,.int .u64 b,.int .u64 c,.int .i64 z] 53)).heap.size = w.heap.size + 1 by simp] at h9
   exact h9
  go_enter Tryz.func92,Tryz.ntmps92
  go_wp2_with fail
  refine Calls.mono (xa2k z _) ?_
  rintro e w1 ⟨rfl,rfl⟩
  rw [hw]
  go_wp2_with fail
  obtain ⟨W1,hW1⟩:∃ W,w.alloc (.cells #[.int .u64 a,.int .u64 b,.int .u64 c,.int .i64 z] 53) = W:=⟨_,rfl⟩
  have hs1:W1.heap.size = w.heap.size + 1:=by rw [← hW1]; simp
  rw [hW1] at HK0 HB0 ⊢
  have HS1:=hide hs1
  clear hW1 hs1 kc
  obtain ⟨W2,hW2⟩:∃ W,W1.alloc (.cells #[.int .u8 78,.int .u8 84,.int .u8 82,.int .u8 89,.int .u8 49] 5 (5,6)) = W:=⟨_,rfl⟩
  have HK2:=hide (by rw [← hW2]; exact (Kept.refl [] W1).alloc _:Kept [] W1 W2)
  have HR2:=hide (by rw [← hW2,← uh HS1]; exact rd_row [78,84,82,89,49] (heap_alloc_new W1 _) rfl (by decide) 5 rfl (by decide):Rd W2 (.slice (some ⟨w.heap.size + 1,0,none⟩) 5 5) [78,84,82,89,49])
  rw [hW2]
  clear hW2
  obtain ⟨d0,d1,d2,d3⟩:=hcells ((uh HK2).heap (uh HB0) (by simp))
  refine Calls.mono (xa0x W1 W2 _ [78,84,82,89,49] a (uh HK2) (.inr ⟨_,rfl,uh HR2⟩) (by decide)) ?_
  rintro e w3 ⟨v3,rfl,o3,k3⟩
  obtain ⟨a3,c3,rfl⟩:=o3.shape
  have HO3:=hide o3
  have HK3:=hide k3
  clear o3 k3 d0 d1 d2 d3 HR2 HK2
  obtain ⟨d0,d1,d2,d3⟩:=hcells ((uh HK3).heap (uh HB0) (by simp))
  go_wp2_with fail
  refine Calls.mono (xa0x W1 w3 _ _ b (uh HK3) (uh HO3) (by simp [xa0d])) ?_
  rintro e w4 ⟨v4,rfl,o4,k4⟩
  obtain ⟨a4,c4,rfl⟩:=o4.shape
  have HO4:=hide o4
  have HK4:=hide k4
  clear o4 k4 d0 d1 d2 d3 HO3 HK3
  obtain ⟨d0,d1,d2,d3⟩:=hcells ((uh HK4).heap (uh HB0) (by simp))
  go_wp2_with fail
  refine Calls.mono (xa0x W1 w4 _ _ c (uh HK4) (uh HO4) (by simp [xa0d])) ?_
  rintro e w5 ⟨v5,rfl,o5,k5⟩
  obtain ⟨a5,c5,rfl⟩:=o5.shape
  have HO5:=hide o5
  have HK5:=hide k5
  clear o5 k5 d0 d1 d2 d3 HO4 HK4
  have hbl:([78,84,82,89,49]++wide a 8++wide b 8++wide c 8).length = 29:=by simp [xa0d]
  have HHB:=hide (xb9u a b c z)
  generalize [78,84,82,89,49]++wide a 8++wide b 8++wide c 8 = bs at HO5 HHB hbl
  obtain ⟨y,hy⟩:∃ y:Nat,z = (y:Int):=⟨z.toNat,by omega⟩
  subst hy
  have hy2:((y:Int) % 256).toNat = y:=by omega
  rw [hy2] at HHB
  have hval:(y:Int) % 256 = (y:Int):=by omega
  have HLB:=hide hbl
  have hyl:y < 256:=by omega
  have HYL:=hide hyl
  obtain ⟨d0,d1,d2,d3⟩:=hcells ((uh HK5).heap (uh HB0) (by simp))
  clear hbl hy2 hyl
  go_wp2_with (at_builtin; go_must (refine xa3l rfl (.tmp 23) (.tmp 27) rfl rfl W1 _ _ bs y w5.heap.size ((uh HK5).alloc _) (by exact (uh HO5).pass ((Kept.refl [] w5).alloc _)) (heap_alloc_new _ _) (uh HYL) (by rw [uh HLB]; omega) rfl rfl ?_; intro a6 c6 w6 HO6 HK6; obtain ⟨x0,x1,x2,x3⟩:=hcells ((uh HK6).heap (uh HB0) (by simp))))
  have HK0w:=hide (uh HK6)
  have hby:∀ x∈bs++[y],x < 256:=by
   have h9:∀ x∈headB a b c (y:Int),x < 256:=by
    intro x hx
    unfold headB at hx
    simp only [List.mem_append,List.mem_cons,List.not_mem_nil,or_false] at hx
    rcases hx with ((((h | h | h | h | h) | h) | h) | h) | h
    ·omega
    ·omega
    ·omega
    ·omega
    ·omega
    ·exact xa0p _ _ x h
    ·exact xa0p _ _ x h
    ·exact xa0p _ _ x h
    ·omega
   rw [uh HHB] at h9; exact h9
  have HR6:=hide (xa6h (uh HO6) hby (by rw [List.length_append,uh HLB]; simp))
  clear hby d0 d1 d2 d3
  refine Calls.mono (xa6n a _ (bs++[y]) w6 (uh HR6) ha) ?_
  rintro e w7 ⟨v7,rfl,n7,k7⟩
  have hel:(bs++[y]).length = 30:=by rw [List.length_append,uh HLB]; rfl
  have hee:encE (bs++[y]) = 0:=by unfold encE; rw [hel]; rfl
  have heb:encB a (bs++[y]) = frB a (bs++[y]):=by unfold encB; rw [hee]; rfl
  rw [heb] at n7
  rw [hee]
  have HN7:=hide (n7.weak (w0:=w) (Nat.le_trans (uh HK0).size (uh HK6).size))
  have HK7:=hide (((uh HK0).trans (uh HK6) (by simp)).trans k7 (by simp))
  clear n7 k7 hel hee heb
  go_wp2
  go_ret2
  exact ⟨_,rfl,by rw [uh HHB]; exact uh HN7,uh HK7⟩
 ·have hw':wideB z = false:=by simpa using hw
  have hE:ehE z = 1:=by simp [ehE,hw']
  have hB:ehB a b c z = []:=by simp [ehB,hw']
  rw [hE,hB]
  clear hE hB hw
  go_enter Tryz.func92,Tryz.ntmps92
  go_wp2_with fail
  refine Calls.mono (xa2k z _) ?_
  rintro e w1 ⟨rfl,rfl⟩
  rw [hw']
  go_wp2
  go_ret2
  exact ⟨_,rfl,NewB.nil _ _,uh HK0⟩
set_option maxHeartbeats 1000000 in
theorem xc0a (u:Nat) (w:World) (hu:u < 18446744073709551616) (hv:VarsS w) :
  Calls Tryz.prog 52 #[.int .u64 u,.int .i64 10] w fun e w'=>e = .returned (.string (strB (dgs (Lib.nDigits u) u)))∧Kept [] w w':=by
 go_enter Tryz.func52,Tryz.ntmps52
 go_wp2_with fail
 refine Calls.mono (xb5g u _ hu hv) ?_
 rintro e w1 ⟨rfl,k1⟩
 have HK:=hide k1
 clear k1
 go_wp2
 go_ret
 exact ⟨rfl,uh HK⟩
set_option maxHeartbeats 1000000 in
theorem xb9c (k:Nat) (w:World) (hk:k≤20):Calls Tryz.prog 53 #[.string ⟨#[48]⟩,.int .i64 k] w fun e w'=>e = .returned (.string (strB (List.replicate k 48)))∧w' = w:=by
 by_cases h0:k = 0
 ·subst h0
  go_enter Tryz.func53,Tryz.ntmps53
  go_wp2
  go_ret
  exact ⟨rfl,rfl⟩
 by_cases h1:k = 1
 ·subst h1
  go_enter Tryz.func53,Tryz.ntmps53
  go_wp2
  go_ret
  exact ⟨rfl,rfl⟩
 refine (xb4n k w (by omega) hk).mono fun e w' h=>⟨?_,h.2⟩
 rw [h.1,xc1n ⟨k,by omega⟩]
set_option maxHeartbeats 2000000 in
theorem xa5a (u:Nat) (w:World) (hu:u < 18446744073709551616) (hv:VarsS w) :
  Calls Tryz.prog 17 #[.int .u64 u] w fun e w'=>e = .returned (.string (strB (nmL u)))∧Kept [] w w':=by
 have HP:=hide (Lib.lt_pow_nDigits u)
 have HN:=hide (by
  by_cases h0:u = 0
  ·subst h0; rw [Lib.nDigits_small (by omega)]; omega
  ·have:=Lib.numDigits_eq u (by omega) hu; split at this <;> omega:Lib.nDigits u≤20)
 have HF:=hide (xc0a u w hu hv)
 obtain ⟨nd,hnd⟩:∃ nd,Lib.nDigits u = nd:=⟨_,rfl⟩
 rw [hnd] at HP HN HF
 clear hnd hv
 have HS:=hide (xa0n (dgs nd u))
 rw [xa5q] at HS
 have HE:=hide (by
  have h1:=xb7u nd u (uh HP) (20 - nd)
  rw [Nat.sub_add_cancel (uh HN)] at h1
  unfold nmL
  rw [h1,xb1x,xb1x,← ByteArray.append_assoc]
  rfl:strB (nmL u) = (⟨#[115,101,103,45]⟩:ByteArray)++strB (List.replicate (20 - nd) 48)++strB (dgs nd u))
 obtain ⟨D,hD⟩:∃ D,strB (dgs nd u) = D:=⟨_,rfl⟩
 rw [hD] at HF HS HE
 clear hD
 have hsz:(D.size:Int) = nd:=by rw [uh HS]
 have hz0:(strB (List.replicate (20 - nd) 48)).size = 20 - nd:=by rw [xa0n,List.length_replicate]
 have hz1:¬ 9223372036854775807 < 4 + (strB (List.replicate (20 - nd) 48)).size:=by omega
 have hz2:¬ 9223372036854775807 < 4 + (strB (List.replicate (20 - nd) 48)).size + D.size:=by have:=uh HS; have:=uh HN; omega
 clear hz0
 have hsub:(20:Int) - (nd:Int) = ((20 - nd:Nat):Int):=by have:=uh HN; omega
 go_enter Tryz.func17,Tryz.ntmps17
 go_wp2_with fail
 refine Calls.mono (uh HF) ?_
 rintro e w1 ⟨rfl,k1⟩
 have HK:=hide k1
 clear k1
 go_wp2_with fail
 refine Calls.mono (xb9c (20 - nd) _ (by omega)) ?_
 rintro e w2 ⟨rfl,rfl⟩
 go_wp2
 go_ret
 exact ⟨by rw [uh HE]; rfl,uh HK⟩
theorem pre_is (l:List Nat):(strB ([115,101,103,45]++l)).data.toList.take 4 = [115,101,103,45]:=by simp [strB]
theorem xc1m (l:List Nat):(strB ([115,101,103,45]++l)).extract 4 (strB ([115,101,103,45]++l)).size = strB l:=by
 apply ByteArray.ext
 rw [ByteArray.data_extract,xa0n]
 simp [strB]
 rw [List.take_of_length_le (by simp)]
set_option maxHeartbeats 1000000 in
theorem xb2y (s:ByteArray) (w:World) (hs:s.size≤140737488355328) :
  Calls Tryz.prog 149 #[.string s,.string ⟨#[115,101,103,45]⟩] w fun e w'=>e = .returned (.bool (decide (4≤s.size∧s.data.toList.take 4 = [115,101,103,45])))∧w' = w:=by
 by_cases h4:4≤s.size
 ·have h1:(4:Int)≤s.size:=by omega
  have HE:=hide (by
   rw [xa1b,xb1j]
   by_cases h:s.data.toList.take 4 = [115,101,103,45]
   ·rw [decide_eq_true ⟨h4,h⟩,h]; decide
   ·rw [decide_eq_false (fun x=>h x.2)]; exact beq_eq_false_iff_ne.2 h:((s.extract 0 4).toList == [115,101,103,45]) = decide (4≤s.size∧s.data.toList.take 4 = [115,101,103,45]))
  go_enter Tryz.func149,Tryz.ntmps149
  go_wp2
  go_ret
  exact ⟨by rw [← uh HE]; rfl,rfl⟩
 ·have h1:¬ (4:Int)≤s.size:=by omega
  rw [decide_eq_false (fun x=>h4 x.1)]
  go_enter Tryz.func149,Tryz.ntmps149
  go_wp2
  go_ret
  exact ⟨rfl,rfl⟩
set_option maxHeartbeats 1000000 in
theorem xb6k (s:ByteArray) (w:World) (hs:s.size≤140737488355328) :
  Calls Tryz.prog 200 #[.string s,.string ⟨#[115,101,103,45]⟩] w fun e w'=>∃ t,e = .returned (.string t)∧t.size≤s.size∧(∀ l,s = strB ([115,101,103,45]++l)→t = strB l)∧w' = w:=by
 have HS:=hide (xb2y s w hs)
 by_cases hc:4≤s.size∧s.data.toList.take 4 = [115,101,103,45]
 ·rw [decide_eq_true hc] at HS
  have h1:(4:Int)≤s.size:=by have:=hc.1; omega
  clear hc
  go_enter Tryz.func200,Tryz.ntmps200
  go_wp2_with fail
  refine Calls.mono (uh HS) ?_
  rintro e w1 ⟨rfl,rfl⟩
  go_wp2
  go_ret
  exact ⟨_,rfl,by simp,fun l hl=>by subst hl; exact xc1m l,rfl⟩
 ·rw [decide_eq_false hc] at HS
  have HC:=hide hc
  clear hc
  go_enter Tryz.func200,Tryz.ntmps200
  go_wp2_with fail
  refine Calls.mono (uh HS) ?_
  rintro e w1 ⟨rfl,rfl⟩
  go_wp2
  go_ret
  exact ⟨_,rfl,Nat.le_refl _,fun l hl=>absurd ⟨by rw [hl,xa0n]; simp,by rw [hl]; exact pre_is l⟩ (uh HC),rfl⟩
set_option maxHeartbeats 1000000 in
theorem xb0r (s:ByteArray) (w:World) (hs:s.size≤140737488355328) :
  Calls Tryz.prog 140 #[.string s,.string ⟨#[115,101,103,45]⟩] w fun e w'=>∃ t,e = .returned (.string t)∧t.size≤s.size∧(∀ l,s = strB ([115,101,103,45]++l)→t = strB l)∧w' = w:=by
 go_enter Tryz.func140,Tryz.ntmps140
 go_wp2_with fail
 refine Calls.mono (xb6k s _ hs) ?_
 rintro e w1 ⟨t,rfl,h1,h2,rfl⟩
 have H1:=hide h1
 have H2:=hide h2
 clear h1 h2
 go_wp2
 go_ret
 exact ⟨t,rfl,uh H1,uh H2,rfl⟩
theorem xb3p (s:ByteArray) (w:World) (hs:s.size≤140737488355328) (hv:VarsS w) :
  Calls Tryz.prog 139 #[.string s,.int .i64 10,.int .i64 64] w fun e w'=>∃ (u:Nat) (er:Value),e = .returned (.tuple #[.int .u64 u,er])∧u < 18446744073709551616∧(er = .nilIface∨∃ t N,er = .iface t (.pointer (some ⟨N,0,none⟩)))∧Kept [] w w':=by
 obtain ⟨_,⟨t1,p1,h1⟩,t2,p2,h2⟩:=hv
 cases h:Lib.parseUintB 64 s.data.toList with
 | ok u =>
  refine (Tryz.strconv_ParseUint_10_at64_ok s (by omega) u h w).mono fun e w' hh=>⟨u,.nilIface,hh.1,by have:=Lib.parseUintB_le h; omega,Or.inl rfl,?_⟩
  rcases hh.2 with rfl | rfl
  ·exact Kept.refl _ _
  ·exact xb2i _ _ _
 | «syntax» =>
  refine (Tryz.strconv_ParseUint_10_at64_syntax_var s (by omega) h t1 p1 w h1).mono fun e w' hh=>?_
  obtain ⟨N,h3,_,_,h4⟩:=hh
  exact ⟨0,_,h3,by omega,Or.inr ⟨_,_,rfl⟩,Kept.ofBelow h4 (Nat.le_refl _)⟩
 | range =>
  refine (Tryz.strconv_ParseUint_10_at64_range_var s (by omega) h t2 p2 w h2).mono fun e w' hh=>?_
  obtain ⟨N,h3,_,_,h4⟩:=hh
  exact ⟨18446744073709551615,_,h3,by omega,Or.inr ⟨_,_,rfl⟩,Kept.ofBelow h4 (Nat.le_refl _)⟩
theorem str_ne {s t:ByteArray} (h:s≠t):(s.toList == t.toList) = false:=by
 rw [xa1b,xa1b]
 refine beq_eq_false_iff_ne.2 fun e=>h ?_
 apply ByteArray.ext
 exact Array.toList_inj.1 e
set_option maxHeartbeats 1000000 in
theorem xb2w (u:Nat) (w:World) (hu:u < 18446744073709551616) (hv:VarsS w) :
  Calls Tryz.prog 88 #[.string (strB (nmL u))] w fun e w'=>e = .returned (.tuple #[.int .u64 u,.int .i64 0])∧Kept [] w w':=by
 have HV:=hide hv
 have HSZ:=hide (by rw [xa0n,xb2m]; omega:(strB (nmL u)).size≤140737488355328)
 have HT:=hide (fun t (h:∀ l,strB (nmL u) = strB ([115,101,103,45]++l)→t = strB l)=>h (dgs 20 u) rfl:∀ t:ByteArray,(∀ l,strB (nmL u) = strB ([115,101,103,45]++l)→t = strB l)→t = strB (dgs 20 u))
 have HP:=hide (fun W=>xb6v (dgs 20 u) W (by rw [xa5q]; omega) (by rw [xa5q]; omega) (xa7x 20 u) (by rw [xa2h,Nat.mod_eq_of_lt (by omega)]; exact hu))
 simp only [xa2h,Nat.mod_eq_of_lt (show u < 10 ^ 20 by omega)] at HP
 have HN:=hide (fun W (h:VarsS W)=>xa5a u W hu h)
 obtain ⟨S,hS⟩:∃ S,strB (nmL u) = S:=⟨_,rfl⟩
 rw [hS] at HSZ HT HN ⊢
 have heq:(S.toList == S.toList) = true:=by simp
 clear hS hv
 go_enter Tryz.func88,Tryz.ntmps88
 go_wp2_with fail
 refine Calls.mono (xb0r S _ (uh HSZ)) ?_
 rintro e w1 ⟨t,rfl,_,h2,rfl⟩
 obtain rfl:=uh HT t h2
 clear h2
 go_wp2_with fail
 refine Calls.mono (uh HP _) ?_
 rintro e w2 ⟨rfl,k2⟩
 have HK2:=hide k2
 clear k2
 go_wp2_with fail
 refine Calls.mono (uh HN _ ((uh HV).old (uh HK2))) ?_
 rintro e w3 ⟨rfl,k3⟩
 have HK3:=hide ((uh HK2).trans k3 (by simp))
 clear k3
 go_wp2
 go_ret2
 exact ⟨rfl,uh HK3⟩
set_option maxHeartbeats 1000000 in
theorem xb5d (s:ByteArray) (w:World) (hs:s.size≤140737488355328) (h:∀ u,u < 18446744073709551616→s≠strB (nmL u)) (hv:VarsS w) :
  Calls Tryz.prog 88 #[.string s] w fun e w'=>e = .returned (.tuple #[.int .u64 0,.int .i64 3])∧Kept [] w w':=by
 have HV:=hide hv
 have HH:=hide h
 clear h hv
 go_enter Tryz.func88,Tryz.ntmps88
 go_wp2_with fail
 refine Calls.mono (xb0r s _ hs) ?_
 rintro e w1 ⟨t,rfl,h1,_,rfl⟩
 have H1:=hide h1
 clear h1
 go_wp2_with fail
 refine Calls.mono (xb3p t _ (by have:=uh H1; omega) (uh HV)) ?_
 rintro e w2 ⟨u,er,rfl,hu,her,k2⟩
 have HK2:=hide k2
 clear k2
 rcases her with rfl | ⟨t9,N9,rfl⟩
 ·go_wp2_with fail
  refine Calls.mono (xa5a u _ hu ((uh HV).old (uh HK2))) ?_
  rintro e w3 ⟨rfl,k3⟩
  have HK3:=hide ((uh HK2).trans k3 (by simp))
  clear k3
  have hne:=str_ne (fun e=>uh HH u hu e.symm)
  generalize strB (nmL u) = S at hne ⊢
  go_wp2
  go_ret2
  exact ⟨rfl,uh HK3⟩
 ·go_wp2
  go_ret2
  exact ⟨rfl,uh HK2⟩
def stp (v c:Nat):Nat:=(10 * v + c + 18446744073709551568) % 18446744073709551616
theorem stp_lt (v c:Nat):stp v c < 18446744073709551616:=by unfold stp; exact Nat.mod_lt _ (Nat.zero_lt_succ _)
theorem xc1q {v c:Nat} (h:48≤c) (hl:v * 10 + (c - 48) < 18446744073709551616):stp v c = v * 10 + (c - 48):=by unfold stp; omega
def dv (a:Nat) (m:List Nat):Nat:=m.foldl stp a
theorem xb7c (a x:Nat) (r:List Nat):dv a (x :: r) = dv (stp a x) r:=by unfold dv; rw [List.foldl_cons]
theorem dv_lt (m:List Nat):∀ a,a < 18446744073709551616→dv a m < 18446744073709551616:=by
 induction m with
 | nil=>intro a h; exact h
 | cons x r ih=>intro a h; rw [xb7c]; exact ih _ (stp_lt _ _)
def fd (a:Nat) (m:List Nat):Nat:=m.foldl (fun a d=>a * 10 + (d - 48)) a
theorem xb7f (a x:Nat) (r:List Nat):fd a (x :: r) = fd (a * 10 + (x - 48)) r:=by unfold fd; rw [List.foldl_cons]
theorem fd_ge (m:List Nat):∀ a,a≤fd a m:=by
 induction m with
 | nil=>intro a; exact Nat.le_refl _
 | cons x r ih=>intro a; rw [xb7f]; exact Nat.le_trans (by omega) (ih _)
theorem xc0j (m:List Nat):∀ a,(∀ x∈m,48≤x)→fd a m < 18446744073709551616→dv a m = fd a m:=by
 induction m with
 | nil=>intro a _ _; unfold dv fd; rw [List.foldl_nil,List.foldl_nil]
 | cons x r ih =>
  intro a hx hl
  rw [xb7f] at hl ⊢
  have h1:=fd_ge r (a * 10 + (x - 48))
  rw [xb7c,xc1q (hx x (by simp)) (Nat.lt_of_le_of_lt h1 hl)]
  exact ih _ (fun y hy=>hx y (by simp [hy])) hl
theorem xb7y {u:Nat} (hu:u < 18446744073709551616):dv 0 ((nmL u).drop 4) = u:=by
 have h0:(nmL u).drop 4 = dgs 20 u:=by unfold nmL; simp
 have h1:fd 0 (dgs 20 u) = u:=by
  have h2:=xa2h 20 u
  rw [Nat.mod_eq_of_lt (Nat.lt_of_lt_of_le hu (by decide))] at h2
  exact h2
 rw [h0,xc0j _ 0 (fun x hx=>(xa7x 20 u x hx).1) (by rw [h1]; exact hu)]
 exact h1
theorem xa0a {P:Program} {fn:Func} {p q r:Tmp} {ty:TypeId} (h:fn.results = #[.cell p ty,.tmp q,.tmp r]) (tmps:Array Value) (w:World) (g:Nat) (t:TypeId) (cs:Array Value) (fr:Nat × Nat) (d:TypeDesc)
  (hp:tmps.getD p undef = .pointer (some ⟨g,0,none⟩)) (hg:w.heap[g]? = some (.cells cs t fr))
  (hu:P.underlying ty = some d) (hd:(match d with | .struct _ | .array _ _=>true | _=>false) = true) (hi:(P.info? ty).map (·.size) = some cs.size) (v u:Value) (hq:tmps.getD q undef = v) (hr:tmps.getD r undef = u) :
  (results fn tmps).run P w = .ok (.tuple #[.agg cs,v,u]) w:=by
 have hp':tmps[p]?.getD undef = .pointer (some ⟨g,0,none⟩):=by simpa using hp
 have hq':tmps[q]?.getD undef = v:=by simpa using hq
 have hr':tmps[r]?.getD undef = u:=by simpa using hr
 simp [results,h,hp',hq',hr',asAddr,run_loadVar_row w g t ty cs fr d hg hu hd hi]
structure NxR where
 pl:Nat
 pay:List Nat
 next:Int
 kind:Nat
def nextF (p:List Nat) (z:Int):NxR :=
 if z = p.length then ⟨0,[],z,0⟩ else if z < 0∨(p.length:Int) < z then ⟨0,[],z,2⟩ else
 match firstF (p.drop z.toNat) with
 | none=>⟨0,[],z,2⟩
 | some x=>⟨x.1,x.2,z + 18 + x.2.length,1⟩
theorem Rd.dropN {w:World} {b off cap:Nat} {p:List Nat} (h:Rd w (.slice (some ⟨b,off,none⟩) p.length cap) p) (n:Nat) (hn:n≤p.length):Rd w (.slice (some ⟨b,off + n,none⟩) (p.length - n) (cap - n)) (p.drop n):=by
 obtain ⟨ao',len',cap',he,_,h2,⟨h3,h3'⟩,h4,h5,h6⟩:=h
 cases he
 refine ⟨_,_,_,rfl,by rw [List.length_drop],by omega,⟨by omega,by omega⟩,fun h=>by simp at h,fun x hx=>h5 x (List.mem_of_mem_drop hx),fun hp=>?_⟩
 obtain ⟨b',off',e,hc⟩:=h6 (by omega)
 cases e
 refine ⟨b,off + n,rfl,fun i hi=>?_⟩
 have:=hc (n + i) (by omega)
 rw [Nat.add_assoc,this,List.getD_eq_getElem?_getD,List.getD_eq_getElem?_getD,List.getElem?_drop]
set_option maxHeartbeats 2000000 in
theorem xb4u (v:Value) (p:List Nat) (z:Int) (w:World) (h:Rd w v p) (hz:-9223372036854775808≤z∧z≤9223372036854775807) :
  Calls Tryz.prog 83 #[v,.int .i64 z] w fun e w'=>∃ v',e = .returned (.tuple #[.agg #[.int .u64 (nextF p z).pl,v'],.int .i64 (nextF p z).next,.int .i64 (nextF p z).kind])∧NewP w w' v' (nextF p z).pay∧Kept [] w w':=by
 have H:=hide h
 obtain ⟨a1,n1,c1,rfl,hn1,hc1,⟨hc2,hc3⟩,_,_,hcell⟩:=id h
 subst hn1
 clear h
 have HZ0:=hide (heap_alloc_new w (.cells #[.int .u64 0,.slice none 0 0] 173))
 have HK0:=hide ((Kept.refl [] w).alloc (.cells #[.int .u64 0,.slice none 0 0] 173))
 have HQ0:=hide (xa0s (uh HZ0) (.int .u64 0) (.slice none 0 0))
 have HKQ:=hide (xa0i (uh HK0) w.heap.size (Nat.le_refl _) (.int .u64 0) (.slice none 0 0))
 by_cases h1:z = p.length
 ·have hN:nextF p z = ⟨0,[],z,0⟩:=by unfold nextF; rw [if_pos h1]
  rw [hN]
  clear hN hcell
  subst h1
  go_enter Tryz.func83,Tryz.ntmps83
  go_wp2
  refine bodyPost_ret (v:=.tuple #[.agg #[.int .u64 0,.slice none 0 0],.int .i64 p.length,.int .i64 0]) ?_ rfl ⟨_,rfl,NewP.nil _ _,uh HK0⟩
  exact xa0a rfl _ _ w.heap.size _ #[.int .u64 0,.slice none 0 0] (0,0) _ rfl (uh HZ0) Tryz.underlying173 rfl Tryz.size_frame _ _ rfl rfl
 have h1':(z == (p.length:Int)) = false:=by rw [beq_eq_false_iff_ne]; exact h1
 by_cases h2:z < 0
 ·have hN:nextF p z = ⟨0,[],z,2⟩:=by unfold nextF; rw [if_neg h1,if_pos (Or.inl h2)]
  rw [hN]
  clear hN hcell
  go_enter Tryz.func83,Tryz.ntmps83
  go_wp2
  refine bodyPost_ret (v:=.tuple #[.agg #[.int .u64 0,.slice none 0 0],.int .i64 z,.int .i64 2]) ?_ rfl ⟨_,rfl,NewP.nil _ _,uh HK0⟩
  exact xa0a rfl _ _ w.heap.size _ #[.int .u64 0,.slice none 0 0] (0,0) _ rfl (uh HZ0) Tryz.underlying173 rfl Tryz.size_frame _ _ rfl rfl
 by_cases h3:(p.length:Int) < z
 ·have hN:nextF p z = ⟨0,[],z,2⟩:=by unfold nextF; rw [if_neg h1,if_pos (Or.inr h3)]
  rw [hN]
  clear hN hcell
  go_enter Tryz.func83,Tryz.ntmps83
  go_wp2
  refine bodyPost_ret (v:=.tuple #[.agg #[.int .u64 0,.slice none 0 0],.int .i64 z,.int .i64 2]) ?_ rfl ⟨_,rfl,NewP.nil _ _,uh HK0⟩
  exact xa0a rfl _ _ w.heap.size _ #[.int .u64 0,.slice none 0 0] (0,0) _ rfl (uh HZ0) Tryz.underlying173 rfl Tryz.size_frame _ _ rfl rfl
 obtain ⟨n,rfl⟩:∃ n:Nat,z = n:=⟨z.toNat,by omega⟩
 have hn:n < p.length:=by omega
 obtain ⟨bb,off,rfl,hcl⟩:=hcell (by omega)
 clear hcell hcl
 have HD:=hide ((uh H).dropN n (by omega))
 have HNF:=hide (by unfold nextF; rw [if_neg h1,if_neg (by omega),Int.toNat_natCast]:nextF p n = match firstF (p.drop n) with
  | none=>⟨0,[],n,2⟩
  | some x=>⟨x.1,x.2,(n:Int) + 18 + x.2.length,1⟩)
 cases hf:firstF (p.drop n) with
 | none =>
  rw [hf] at HNF
  rw [uh HNF]
  have HF:=hide hf
  clear hf
  have h3':¬ (p.length:Int) < n:=by omega
  go_enter Tryz.func83,Tryz.ntmps83
  go_wp2_with fail
  refine Calls.mono (xa7t _ (p.drop n) _ ((uh HD).old (uh HK0) (by simp))) ?_
  rintro e w1 ⟨v1,rfl,n1,k1⟩
  rw [uh HF]
  have HZ1:=hide (k1.heap (uh HZ0) (by simp))
  have HK1:=hide ((uh HK0).trans k1 (by simp))
  obtain ⟨a2,n2,c2,hv1,_⟩:=id n1.1
  subst hv1
  clear k1 n1
  have k2:=(Kept.refl [] w1).alloc (.cells #[.int .u64 (fstPl (p.drop n):Int),.slice a2 n2 c2] 173)
  have HZ2:=hide (k2.heap (uh HZ1) (by simp))
  have HK2:=hide ((uh HK1).alloc (.cells #[.int .u64 (fstPl (p.drop n):Int),.slice a2 n2 c2] 173))
  have d0:(w1.alloc (.cells #[.int .u64 (fstPl (p.drop n):Int),.slice a2 n2 c2] 173)).cell? ⟨w.heap.size,0,none⟩ = some (.int .u64 0):=by rw [cell_of_row _ _ _ _ _ _ (uh HZ2)]; rfl
  have d1:(w1.alloc (.cells #[.int .u64 (fstPl (p.drop n):Int),.slice a2 n2 c2] 173)).cell? ⟨w.heap.size,1,none⟩ = some (.slice none 0 0):=by rw [cell_of_row _ _ _ _ _ _ (uh HZ2)]; rfl
  have f0:(w1.alloc (.cells #[.int .u64 (fstPl (p.drop n):Int),.slice a2 n2 c2] 173)).frozen? ⟨w.heap.size,0,none⟩ = false:=frozen_of_row _ _ _ _ _ (uh HZ2)
  have f1:(w1.alloc (.cells #[.int .u64 (fstPl (p.drop n):Int),.slice a2 n2 c2] 173)).frozen? ⟨w.heap.size,1,none⟩ = false:=frozen_of_row _ _ _ _ _ (uh HZ2)
  clear k2
  go_wp2
  refine bodyPost_ret (v:=.tuple #[.agg #[.int .u64 0,.slice none 0 0],.int .i64 n,.int .i64 2]) ?_ rfl ⟨_,rfl,NewP.nil _ _,xa0i (uh HK2) w.heap.size (Nat.le_refl _) (.int .u64 0) (.slice none 0 0)⟩
  exact xa0a rfl _ _ w.heap.size _ #[.int .u64 0,.slice none 0 0] (0,0) _ rfl (xa0s (uh HZ2) (.int .u64 0) (.slice none 0 0)) Tryz.underlying173 rfl Tryz.size_frame _ _ rfl rfl
 | some x =>
  obtain ⟨pl,pay⟩:=x
  rw [hf] at HNF
  rw [uh HNF]
  have hfm:=xa2i hf (fun x hx=>(uh H).byte x (List.mem_of_mem_drop hx))
  have hlen:n + 18 + pay.length≤p.length:=by
   have:=congrArg List.length hfm.2.2.2.2
   rw [List.length_append,xa1k,List.length_drop] at this
   omega
  have HF:=hide hf
  have e1:fstPl (p.drop n) = pl:=by simp [fstPl,hf]
  have e2:fstPay (p.drop n) = pay:=by simp [fstPay,hf]
  clear hf
  have h3':¬ (p.length:Int) < n:=by omega
  go_enter Tryz.func83,Tryz.ntmps83
  go_wp2_with fail
  refine Calls.mono (xa7t _ (p.drop n) _ ((uh HD).old (uh HK0) (by simp))) ?_
  rintro e w1 ⟨v1,rfl,n1,k1⟩
  rw [e2] at n1
  rw [uh HF,e1]
  have HZ1:=hide (k1.heap (uh HZ0) (by simp))
  have HK1:=hide ((uh HK0).trans k1 (by simp))
  have HN1:=hide n1
  obtain ⟨a2,n2,c2,hv1,hn2,_⟩:=id n1.1
  subst hv1
  subst hn2
  clear k1 n1 e1 e2 hfm
  have k2:=(Kept.refl [] w1).alloc (.cells #[.int .u64 (pl:Int),.slice a2 pay.length c2] 173)
  have HZ2:=hide (k2.heap (uh HZ1) (by simp))
  have HK2:=hide ((uh HK1).alloc (.cells #[.int .u64 (pl:Int),.slice a2 pay.length c2] 173))
  have d0:(w1.alloc (.cells #[.int .u64 (pl:Int),.slice a2 pay.length c2] 173)).cell? ⟨w.heap.size,0,none⟩ = some (.int .u64 0):=by rw [cell_of_row _ _ _ _ _ _ (uh HZ2)]; rfl
  have d1:(w1.alloc (.cells #[.int .u64 (pl:Int),.slice a2 pay.length c2] 173)).cell? ⟨w.heap.size,1,none⟩ = some (.slice none 0 0):=by rw [cell_of_row _ _ _ _ _ _ (uh HZ2)]; rfl
  have f0:(w1.alloc (.cells #[.int .u64 (pl:Int),.slice a2 pay.length c2] 173)).frozen? ⟨w.heap.size,0,none⟩ = false:=frozen_of_row _ _ _ _ _ (uh HZ2)
  have f1:(w1.alloc (.cells #[.int .u64 (pl:Int),.slice a2 pay.length c2] 173)).frozen? ⟨w.heap.size,1,none⟩ = false:=frozen_of_row _ _ _ _ _ (uh HZ2)
  clear k2
  go_wp2
  obtain ⟨W,hW⟩:∃ W,w1.alloc (.cells #[.int .u64 (pl:Int),.slice a2 pay.length c2] 173) = W:=⟨_,rfl⟩
  have HC:=hide (heap_alloc_new w1 (.cells #[.int .u64 (pl:Int),.slice a2 pay.length c2] 173))
  have hlt1:w.heap.size < w1.heap.size:=lt_of_block (uh HZ1)
  have HNW:=hide ((uh HN1).1.old ((Kept.refl [] w1).alloc (.cells #[.int .u64 (pl:Int),.slice a2 pay.length c2] 173)) (by simp))
  rw [hW] at HC d0 d1 f0 f1 HZ2 HK2 HNW ⊢
  clear hW
  have e0:W.cell? ⟨w1.heap.size,0,none⟩ = some (.int .u64 pl):=by rw [cell_of_row _ _ _ _ _ _ (uh HC)]; rfl
  have e1:W.cell? ⟨w1.heap.size,1,none⟩ = some (.slice a2 pay.length c2):=by rw [cell_of_row _ _ _ _ _ _ (uh HC)]; rfl
  have hne:w.heap.size≠w1.heap.size:=by omega
  have HB1:=hide (fun x hx=>by have h9:=(uh HN1).2 x hx; have h8:(w.alloc (.cells #[.int .u64 0,.slice none 0 0] 173)).heap.size = w.heap.size + 1:=(by simp); omega:∀ x∈blk (.slice a2 pay.length c2),w.heap.size + 1≤x)
  have HRQ:=hide ((uh HNW).kept (xa6d W w.heap.size (.int .u64 pl) (.slice a2 pay.length c2)) (by
   intro x hx hm
   have h9:=uh HB1 x hx
   have h8:x = w.heap.size:=by simpa using hm
   omega))
  go_region_held3 (fun w'=>w'.cell? ⟨w1.heap.size,0,none⟩ = some (.int .u64 pl)∧w'.cell? ⟨w1.heap.size,1,none⟩ = some (.slice a2 pay.length c2)) (go_keep) (fail)
  have hww:IntKind.i64.wrap (IntKind.i64.wrap ((n:Int) + 18) + pay.length) = (n:Int) + 18 + pay.length:=by rw [IntKind.wrap_i64,IntKind.wrap_i64]; omega
  all_goals go_wp2
  all_goals
   refine bodyPost_ret (v:=.tuple #[.agg #[.int .u64 pl,.slice a2 pay.length c2],.int .i64 ((n:Int) + 18 + pay.length),.int .i64 1]) ?_ rfl ⟨.slice a2 pay.length c2,rfl,⟨uh HRQ,fun x hx=>by have h9:=uh HB1 x hx; omega⟩,(xa0i (uh HK2) w.heap.size (Nat.le_refl _) (.int .u64 pl) (.slice a2 pay.length c2)).drew⟩
   refine xa0a rfl _ _ w.heap.size 173 #[.int .u64 pl,.slice a2 pay.length c2] (0,0) _ rfl (by exact xa0s (uh HZ2) (.int .u64 pl) (.slice a2 pay.length c2)) Tryz.underlying173 rfl Tryz.size_frame _ _ ?_ rfl
   simp [hww]

theorem xa4k (p:List Nat) (z:Int) (hb:∀ x∈p,x < 256) :
  (z = p.length∧nextF p z = ⟨0,[],z,0⟩)∨(z≠p.length∧nextF p z = ⟨0,[],z,2⟩) ∨
  ∃ (n pl:Nat) (pay:List Nat),z = n∧nextF p z = ⟨pl,pay,((n + 18 + pay.length:Nat):Int),1⟩∧pl < 18446744073709551616∧1≤pay.length∧pay.length≤65535∧(∀ x∈pay,x < 256)∧n + 18 + pay.length≤p.length∧(p.drop n).take (18 + pay.length) = frB pl pay∧firstF (p.drop n) = some (pl,pay):=by
 by_cases h1:z = p.length
 ·exact Or.inl ⟨h1,by unfold nextF; rw [if_pos h1]⟩
 refine Or.inr ?_
 by_cases h2:z < 0∨(p.length:Int) < z
 ·exact Or.inl ⟨h1,by unfold nextF; rw [if_neg h1,if_pos h2]⟩
 obtain ⟨n,rfl⟩:∃ n:Nat,z = n:=⟨z.toNat,by omega⟩
 have hN:nextF p n = match firstF (p.drop n) with
  | none=>⟨0,[],n,2⟩
  | some x=>⟨x.1,x.2,(n:Int) + 18 + x.2.length,1⟩:=by
  unfold nextF; rw [if_neg h1,if_neg h2,Int.toNat_natCast]; try (cases firstF (p.drop n) <;> rfl)
 cases hf:firstF (p.drop n) with
 | none=>exact Or.inl ⟨h1,by rw [hN,hf]⟩
 | some x =>
  obtain ⟨pl,pay⟩:=x
  have hfm:=xa2i hf (fun x hx=>hb x (List.mem_of_mem_drop hx))
  have hlen:n + 18 + pay.length≤p.length:=by
   have:=congrArg List.length hfm.2.2.2.2
   rw [List.length_append,xa1k,List.length_drop] at this
   omega
  refine Or.inr ⟨n,pl,pay,rfl,?_,hfm.1,hfm.2.1,hfm.2.2.1,hfm.2.2.2.1,hlen,?_,hf⟩
  ·rw [hN,hf]; simp
  ·conv=>lhs; rw [hfm.2.2.2.2]
   rw [List.take_append_of_le_length (by rw [xa1k]; omega),List.take_of_length_le (by rw [xa1k]; omega)]
theorem Rd.cutN {w:World} {b off cap:Nat} {p:List Nat} (h:Rd w (.slice (some ⟨b,off,none⟩) p.length cap) p) (n N:Nat) (hn:n≤N) (hN:N≤p.length):Rd w (.slice (some ⟨b,off + n,none⟩) (N - n) (cap - n)) ((p.drop n).take (N - n)):=by
 obtain ⟨ao',len',cap',he,_,h2,⟨h3,h3'⟩,h4,h5,h6⟩:=h
 cases he
 refine ⟨_,_,_,rfl,by rw [List.length_take,List.length_drop]; omega,by omega,⟨by omega,by omega⟩,fun h=>by simp at h,fun x hx=>h5 x (List.mem_of_mem_drop (List.mem_of_mem_take hx)),fun hp=>?_⟩
 obtain ⟨b',off',e,hc⟩:=h6 (by omega)
 cases e
 refine ⟨b,off + n,rfl,fun i hi=>?_⟩
 have:=hc (n + i) (by omega)
 rw [Nat.add_assoc,this,List.getD_eq_getElem?_getD,List.getD_eq_getElem?_getD,List.getElem?_take,if_pos hi,List.getElem?_drop]
theorem xa7z {p:List Nat} (h1:1≤p.length) (h2:p.length≤65535):encE p = 0:=by unfold encE; rw [if_neg (by omega),if_neg (by omega)]
theorem xb5w {pl:Nat} {p:List Nat} (h1:1≤p.length) (h2:p.length≤65535):encB pl p = frB pl p:=by unfold encB; rw [xa7z h1 h2]; rfl
set_option maxHeartbeats 2000000 in
theorem xb1h (u v:Value) (p q:List Nat) (w:World) (hu:Rd w u p) (hv:Rd w v q) :
  Calls Tryz.prog 191 #[u,v] w fun e w'=>e = .returned (.bool (decide (p = q)))∧w' = w:=by
 have hu5:Tryz.prog.underlying 5 = some (.int .u8):=by kernel_rfl
 have hu9:Tryz.prog.underlying 9 = some .string:=by kernel_rfl
 have c1:=xa7e u p w hu hu5 hu9
 have c2:=xa7e v q w hv hu5 hu9
 have hd:((strOf p).toList == (strOf q).toList) = decide (p = q):=by
  rw [xa8k,xa8k]
  by_cases h:p = q
  ·subst h; simp
  ·have h2:¬ (strOf p).data.toList = (strOf q).data.toList:=fun e=>h (xb5y hu.byte hv.byte (by
    have e2:=congrArg List.toArray e
    simp only [Array.toArray_toList] at e2
    cases hp:strOf p; cases hq:strOf q
    rw [hp,hq] at e2
    simp only at e2
    rw [e2]))
   rw [decide_eq_false h]
   exact beq_eq_false_iff_ne.2 h2
 have Hd:=hide hd
 generalize strOf p = s1 at *
 generalize strOf q = s2 at *
 clear hu hv hu5 hu9 hd
 go_enter Tryz.func191,Tryz.ntmps191
 go_wp2
 go_ret
 exact ⟨by rw [uh Hd]; rfl,rfl⟩
set_option maxHeartbeats 1000000 in
theorem xa8a (u v:Value) (p q:List Nat) (w:World) (hu:Rd w u p) (hv:Rd w v q) (hl:q.length≤p.length) :
  Calls Tryz.prog 132 #[u,v] w fun e w'=>e = .returned (.bool (decide (p.take q.length = q)))∧w' = w:=by
 have HU:=hide hu
 have HV:=hide hv
 obtain ⟨a1,n1,c1,rfl,hn1,hc1,⟨hc2,hc3⟩,_⟩:=id hu
 obtain ⟨a2,n2,c2,rfl,hn2,_⟩:=id hv
 subst hn1
 subst hn2
 have hl':(q.length:Int)≤p.length:=by omega
 have hc9:(q.length:Int)≤c1:=by omega
 have HC:=hide ((uh HU).take0 hl)
 clear hu hv
 go_enter Tryz.func132,Tryz.ntmps132
 go_wp2_with fail
 refine Calls.mono (xb1h _ _ (p.take q.length) q w (uh HC) (uh HV)) ?_
 rintro e w1 ⟨rfl,rfl⟩
 go_wp2
 go_ret
 exact ⟨rfl,rfl⟩
set_option maxHeartbeats 1000000 in
theorem xb9j (b off cap:Nat) (v:Value) (p q:List Nat) (w:World) (hu:Rd w (.slice (some ⟨b,off,none⟩) p.length cap) p) (hv:Rd w v q) (hlt:q.length < p.length) :
  Calls Tryz.prog 84 #[.slice (some ⟨b,off,none⟩) p.length cap,v] w fun e w'=>e = .returned (.tuple #[if p.take q.length = q then .slice (some ⟨b,off + q.length,none⟩) (p.length - q.length) (cap - q.length) else .slice (some ⟨b,off,none⟩) p.length cap,.bool (decide (p.take q.length = q))])∧w' = w:=by
 have HU:=hide hu
 have HV:=hide hv
 obtain ⟨_,_,_,he,_,hc1,⟨hc2,hc3⟩,_⟩:=id hu
 cases he
 obtain ⟨a2,n2,c2,rfl,hn2,_⟩:=id hv
 subst hn2
 have hl:q.length≤p.length:=by omega
 have hl':(q.length:Int)≤p.length:=by omega
 have hcq:¬ cap = q.length:=by omega
 have hc9:(q.length:Int)≤cap:=by omega
 clear hu hv
 by_cases he:p.take q.length = q
 ·rw [if_pos he,decide_eq_true he]
  have HE:=hide (decide_eq_true he)
  clear he
  go_enter Tryz.func84,Tryz.ntmps84
  go_wp2_with fail
  refine Calls.mono (xa8a _ _ p q w (uh HU) (uh HV) hl) ?_
  rintro e w1 ⟨rfl,rfl⟩
  rw [uh HE]
  go_wp2
  go_ret2
  exact ⟨by simp,rfl⟩
 ·rw [if_neg he,decide_eq_false he]
  have HE:=hide (decide_eq_false he)
  clear he
  go_enter Tryz.func84,Tryz.ntmps84
  go_wp2_with fail
  refine Calls.mono (xa8a _ _ p q w (uh HU) (uh HV) hl) ?_
  rintro e w1 ⟨rfl,rfl⟩
  rw [uh HE]
  go_wp2
  go_ret2
  exact ⟨by simp,rfl⟩
set_option maxHeartbeats 2000000 in
theorem xa6u (b off cap i:Nat) (p:List Nat) (w:World) (hu:Rd w (.slice (some ⟨b,off,none⟩) p.length cap) p) (hi:i < 3) (hl:p.length = 25) :
  Calls Tryz.prog 85 #[.slice (some ⟨b,off,none⟩) p.length cap,.int .i64 i] w fun e w'=>e = .returned (.int .u64 (beL ((p.drop (i * 8)).take 8)))∧w' = w:=by
 obtain ⟨_,_,_,he,_,hc1,⟨hc2,hc3⟩,_,hby,hcl⟩:=id hu
 cases he
 obtain ⟨b9,o9,e9,hcell⟩:=hcl (by omega)
 cases e9
 obtain ⟨q,hq⟩:∃ q,(p.drop (i * 8)).take 8 = q:=⟨_,rfl⟩
 have hql:q.length = 8:=by rw [← hq,List.length_take,List.length_drop]; omega
 have HC:=hide (fun k (hk:k < 8)=>by
  have h9:=hcell (i * 8 + k) (by omega)
  have e9:p.getD (i * 8 + k) 0 = q.getD k 0:=by
   rw [← hq,List.getD_eq_getElem?_getD,List.getD_eq_getElem?_getD,List.getElem?_take,if_pos hk,List.getElem?_drop]
  rw [e9] at h9
  exact h9:∀ k,k < 8→w.cell? ⟨b,off + (i * 8 + k),none⟩ = some (u8 (q.getD k 0)))
 have HB:=hide (fun k (hk:k < 8)=>by
  have hm:∀ x∈q,x < 256:=fun x hx=>by rw [← hq] at hx; exact hby _ (List.mem_of_mem_drop (List.mem_of_mem_take hx))
  rw [List.getD_eq_getElem?_getD,List.getElem?_eq_getElem (by omega)]
  exact hm _ (List.getElem_mem _):∀ k,k < 8→q.getD k 0 < 256)
 have HQL:=hide hql
 rw [hq]
 rw [hl] at hc1 ⊢
 clear hu hby hcl hcell hq hql
 have hc4:(25:Int)≤cap:=by omega
 have hi3:i = 0∨i = 1∨i = 2:=by omega
 clear hi
 rcases hi3 with rfl | rfl | rfl
 all_goals
  have hc5:¬ cap = 8:=by omega
  have hc6:¬ cap = 16:=by omega
  have hc7:¬ cap = 0:=by omega
  go_enter Tryz.func85,Tryz.ntmps85
  go_wp2_with fail
  go_loopw [5,16] (fun t5 t16 wr=>∃ k:Nat,k≤8∧t16 = .int .i64 k∧t5 = .int .u64 (beL (q.take k))∧wr = w) (fun _ i _=>8 - (intOf i).toNat)
  case atStart=>exact ⟨0,Nat.zero_le _,rfl,by simp [beL],rfl⟩
  case round =>
   obtain ⟨k,hk,rfl,rfl,rfl⟩:=hrel
   by_cases hlt:k < 8
   ·have hck:=uh HC k hlt
    have hcb:=uh HB k hlt
    have hsn:=xb3d q k (by rw [uh HQL]; exact hlt)
    have hval:=xb7r (beL (q.take k)) (q.getD k 0) hcb
    rw [← hsn] at hval
    obtain ⟨c,hcc⟩:∃ c,q.getD k 0 = c:=⟨_,rfl⟩
    have ha1:=beL_lt (q.take k)
    obtain ⟨a,ha⟩:∃ a,beL (q.take k) = a:=⟨_,rfl⟩
    obtain ⟨a',ha'⟩:∃ a',beL (q.take (k + 1)) = a':=⟨_,rfl⟩
    rw [hcc] at hck hcb hval
    rw [ha] at hval ha1 ⊢
    rw [ha'] at hval
    have Ha':=hide ha'
    have hlt':(k:Int) < 8:=by omega
    clear hcc ha ha' hsn
    simp only [Nat.zero_mul,Nat.zero_add,Nat.one_mul,Nat.reduceMul,← Nat.add_assoc] at hck
    go_wp2
    go_roundw
    case rel=>exact ⟨k + 1,by omega,by go_num,by rw [uh Ha'],trivial⟩
    case measure=>simp [intOf]; omega
   ·have hlt':¬ (k:Int) < 8:=by omega
    obtain rfl:k = 8:=by omega
    have HT:=hide (List.take_of_length_le (by rw [uh HQL]; exact Nat.le_refl _):q.take 8 = q)
    rw [uh HT]
    go_wp2
    go_ret
    exact ⟨rfl,rfl⟩
end
section
open Go Go.RowKit Go.BigFrame
section
variable {P:Program} {Q:Exit→Act→World→Prop}
theorem xc1o {id:Nat} {o0 o1 o2 o3 o4 o5 o6 o7 o8 o9 o10 o11 o12:Oper} {a:Act} {w:World} (hm:P.follows .mixedOrders = true) (hs:Region.noSelect #[o0,o1,o2,o3,o4,o5,o6,o7,o8,o9,o10,o11,o12] = true)
  (f0:Region.free .any #[o0,o1,o2,o3,o4,o5,o6,o7,o8,o9,o10,o11,o12] #[false,false,false,false,false,false,false,false,false,false,false,false,false] 0 = true) (r0:(Region.ready .any #[o0,o1,o2,o3,o4,o5,o6,o7,o8,o9,o10,o11,o12] #[false,false,false,false,false,false,false,false,false,false,false,false,false]).contains 0 = true)
  (f2:Region.free .any #[o0,o1,o2,o3,o4,o5,o6,o7,o8,o9,o10,o11,o12] #[true,false,false,false,false,false,false,false,false,false,false,false,false] 2 = true) (r2:(Region.ready .any #[o0,o1,o2,o3,o4,o5,o6,o7,o8,o9,o10,o11,o12] #[true,false,false,false,false,false,false,false,false,false,false,false,false]).contains 2 = true)
  (f4:Region.free .any #[o0,o1,o2,o3,o4,o5,o6,o7,o8,o9,o10,o11,o12] #[true,false,true,false,false,false,false,false,false,false,false,false,false] 4 = true) (r4:(Region.ready .any #[o0,o1,o2,o3,o4,o5,o6,o7,o8,o9,o10,o11,o12] #[true,false,true,false,false,false,false,false,false,false,false,false,false]).contains 4 = true)
  (f6:Region.free .any #[o0,o1,o2,o3,o4,o5,o6,o7,o8,o9,o10,o11,o12] #[true,false,true,false,true,false,false,false,false,false,false,false,false] 6 = true) (r6:(Region.ready .any #[o0,o1,o2,o3,o4,o5,o6,o7,o8,o9,o10,o11,o12] #[true,false,true,false,true,false,false,false,false,false,false,false,false]).contains 6 = true)
  (f7:Region.free .any #[o0,o1,o2,o3,o4,o5,o6,o7,o8,o9,o10,o11,o12] #[true,false,true,false,true,false,true,false,false,false,false,false,false] 7 = true) (r7:(Region.ready .any #[o0,o1,o2,o3,o4,o5,o6,o7,o8,o9,o10,o11,o12] #[true,false,true,false,true,false,true,false,false,false,false,false,false]).contains 7 = true)
  (f8:Region.free .any #[o0,o1,o2,o3,o4,o5,o6,o7,o8,o9,o10,o11,o12] #[true,false,true,false,true,false,true,true,false,false,false,false,false] 8 = true) (r8:(Region.ready .any #[o0,o1,o2,o3,o4,o5,o6,o7,o8,o9,o10,o11,o12] #[true,false,true,false,true,false,true,true,false,false,false,false,false]).contains 8 = true)
  (f9:Region.free .any #[o0,o1,o2,o3,o4,o5,o6,o7,o8,o9,o10,o11,o12] #[true,false,true,false,true,false,true,true,true,false,false,false,false] 9 = true) (r9:(Region.ready .any #[o0,o1,o2,o3,o4,o5,o6,o7,o8,o9,o10,o11,o12] #[true,false,true,false,true,false,true,true,true,false,false,false,false]).contains 9 = true)
  (q_:Region.ready .any #[o0,o1,o2,o3,o4,o5,o6,o7,o8,o9,o10,o11,o12] #[true,false,true,false,true,false,true,true,true,true,false,false,false] = [1,11])
  (q1_:Region.ready .any #[o0,o1,o2,o3,o4,o5,o6,o7,o8,o9,o10,o11,o12] #[true,true,true,false,true,false,true,true,true,true,false,false,false] = [3,11])
  (q11_:Region.ready .any #[o0,o1,o2,o3,o4,o5,o6,o7,o8,o9,o10,o11,o12] #[true,false,true,false,true,false,true,true,true,true,false,true,false] = [1])
  (q1_3_:Region.ready .any #[o0,o1,o2,o3,o4,o5,o6,o7,o8,o9,o10,o11,o12] #[true,true,true,true,true,false,true,true,true,true,false,false,false] = [5,11])
  (f1_3_5_10:Region.free .any #[o0,o1,o2,o3,o4,o5,o6,o7,o8,o9,o10,o11,o12] #[true,true,true,true,true,true,true,true,true,true,false,false,false] 10 = true) (r1_3_5_10:(Region.ready .any #[o0,o1,o2,o3,o4,o5,o6,o7,o8,o9,o10,o11,o12] #[true,true,true,true,true,true,true,true,true,true,false,false,false]).contains 10 = true)
  (q1_11_:Region.ready .any #[o0,o1,o2,o3,o4,o5,o6,o7,o8,o9,o10,o11,o12] #[true,true,true,false,true,false,true,true,true,true,false,true,false] = [3])
  (q1_3_5_:Region.ready .any #[o0,o1,o2,o3,o4,o5,o6,o7,o8,o9,o10,o11,o12] #[true,true,true,true,true,true,true,true,true,true,true,false,false] = [11])
  (q1_3_11_:Region.ready .any #[o0,o1,o2,o3,o4,o5,o6,o7,o8,o9,o10,o11,o12] #[true,true,true,true,true,false,true,true,true,true,false,true,false] = [5])
  (f1_3_11_5_10:Region.free .any #[o0,o1,o2,o3,o4,o5,o6,o7,o8,o9,o10,o11,o12] #[true,true,true,true,true,true,true,true,true,true,false,true,false] 10 = true) (r1_3_11_5_10:(Region.ready .any #[o0,o1,o2,o3,o4,o5,o6,o7,o8,o9,o10,o11,o12] #[true,true,true,true,true,true,true,true,true,true,false,true,false]).contains 10 = true)
  (q1_3_5_11_:Region.ready .any #[o0,o1,o2,o3,o4,o5,o6,o7,o8,o9,o10,o11,o12] #[true,true,true,true,true,true,true,true,true,true,true,true,false] = [12])
  (q1_3_5_11_12_:Region.ready .any #[o0,o1,o2,o3,o4,o5,o6,o7,o8,o9,o10,o11,o12] #[true,true,true,true,true,true,true,true,true,true,true,true,true] = [])
  (g1:o1.guard = none)    (g3:o3.guard = none)    (g5:o5.guard = none)    (g11:o11.guard = none)    (g12:o12.guard = none)
  (ne11_1:∀ d,o11.dst = some d→o1.dst≠some d)
  (ne11_3:∀ d,o11.dst = some d→o3.dst≠some d)
  (ne11_5:∀ d,o11.dst = some d→o5.dst≠some d)
  (ne11_10:∀ d,o11.dst = some d→o10.dst≠some d)
  (v0 v2 v4 v6 v7 v8 v9:Value) (A0 A1 A2 A3 A4 A5 A6:Act)
  (S:World→Prop)
  (I_:World→Prop)
  (I1_:Value→World→Prop)
  (I11_:Value→World→Prop)
  (I1_3_:Value→Value→World→Prop)
  (I1_11_:Value→Value→World→Prop)
  (I1_3_5_:Value→Value→Value→World→Prop)
  (I1_3_11_:Value→Value→Value→World→Prop)
  (I1_3_5_11_:Value→Value→Value→Value→World→Prop)
  (I1_3_5_11_12_:Value→Value→Value→Value→Value→World→Prop)
  (v10:Value→Value→Value→Value)
  (p0:a.put o0.dst v0 = A0) (hy0:YieldsIf P #[o0,o1,o2,o3,o4,o5,o6,o7,o8,o9,o10,o11,o12] S o0 v0 a)
  (p2:A0.put o2.dst v2 = A1) (hy2:YieldsIf P #[o0,o1,o2,o3,o4,o5,o6,o7,o8,o9,o10,o11,o12] S o2 v2 A0)
  (p4:A1.put o4.dst v4 = A2) (hy4:YieldsIf P #[o0,o1,o2,o3,o4,o5,o6,o7,o8,o9,o10,o11,o12] S o4 v4 A1)
  (p6:A2.put o6.dst v6 = A3) (hy6:YieldsIf P #[o0,o1,o2,o3,o4,o5,o6,o7,o8,o9,o10,o11,o12] S o6 v6 A2)
  (p7:A3.put o7.dst v7 = A4) (hy7:YieldsIf P #[o0,o1,o2,o3,o4,o5,o6,o7,o8,o9,o10,o11,o12] S o7 v7 A3)
  (p8:A4.put o8.dst v8 = A5) (hy8:YieldsIf P #[o0,o1,o2,o3,o4,o5,o6,o7,o8,o9,o10,o11,o12] S o8 v8 A4)
  (p9:A5.put o9.dst v9 = A6) (hy9:YieldsIf P #[o0,o1,o2,o3,o4,o5,o6,o7,o8,o9,o10,o11,o12] S o9 v9 A5)
  (i0:I_ w.drew)
  (hIS:(∀ w',I_  w'→S w')∧(∀ (u1:Value) w',I1_ u1 w'→S w')∧(∀ (u11:Value) w',I11_ u11 w'→S w')∧(∀ (u1 u3:Value) w',I1_3_ u1 u3 w'→S w')∧(∀ (u1 u11:Value) w',I1_11_ u1 u11 w'→S w')∧(∀ (u1 u3 u5:Value) w',I1_3_5_ u1 u3 u5 w'→S w')∧(∀ (u1 u3 u11:Value) w',I1_3_11_ u1 u3 u11 w'→S w')∧(∀ (u1 u3 u5 u11:Value) w',I1_3_5_11_ u1 u3 u5 u11 w'→S w')∧(∀ (u1 u3 u5 u11 u12:Value) w',I1_3_5_11_12_ u1 u3 u5 u11 u12 w'→S w'))
  (s_1:∀ w',I_  w'→∀ K:Act→World→Prop,(∀ (u1:Value) w2,I1_ u1 w2→K (A6.put o1.dst u1) w2)→o1.wp P A6 w' K (NoPanic Q))
  (s_11:∀ w',I_  w'→∀ K:Act→World→Prop,(∀ (u11:Value) w2,I11_ u11 w2→K (A6.put o11.dst u11) w2)→o11.wp P A6 w' K (NoPanic Q))
  (s1_3:∀ (u1:Value) w',I1_ u1 w'→∀ K:Act→World→Prop,(∀ (u3:Value) w2,I1_3_ u1 u3 w2→K ((A6.put o1.dst u1).put o3.dst u3) w2)→o3.wp P (A6.put o1.dst u1) w' K (NoPanic Q))
  (s1_11:∀ (u1:Value) w',I1_ u1 w'→∀ K:Act→World→Prop,(∀ (u11:Value) w2,I1_11_ u1 u11 w2→K ((A6.put o1.dst u1).put o11.dst u11) w2)→o11.wp P (A6.put o1.dst u1) w' K (NoPanic Q))
  (s11_1:∀ (u11:Value) w',I11_ u11 w'→∀ K:Act→World→Prop,(∀ (u1:Value) w2,I1_11_ u1 u11 w2→K ((A6.put o11.dst u11).put o1.dst u1) w2)→o1.wp P (A6.put o11.dst u11) w' K (NoPanic Q))
  (s1_3_5:∀ (u1 u3:Value) w',I1_3_ u1 u3 w'→∀ K:Act→World→Prop,(∀ (u5:Value) w2,I1_3_5_ u1 u3 u5 w2→K (((A6.put o1.dst u1).put o3.dst u3).put o5.dst u5) w2)→o5.wp P ((A6.put o1.dst u1).put o3.dst u3) w' K (NoPanic Q))
  (s1_3_11:∀ (u1 u3:Value) w',I1_3_ u1 u3 w'→∀ K:Act→World→Prop,(∀ (u11:Value) w2,I1_3_11_ u1 u3 u11 w2→K (((A6.put o1.dst u1).put o3.dst u3).put o11.dst u11) w2)→o11.wp P ((A6.put o1.dst u1).put o3.dst u3) w' K (NoPanic Q))
  (s1_11_3:∀ (u1 u11:Value) w',I1_11_ u1 u11 w'→∀ K:Act→World→Prop,(∀ (u3:Value) w2,I1_3_11_ u1 u3 u11 w2→K (((A6.put o1.dst u1).put o11.dst u11).put o3.dst u3) w2)→o3.wp P ((A6.put o1.dst u1).put o11.dst u11) w' K (NoPanic Q))
  (s1_3_5_11:∀ (u1 u3 u5:Value) w',I1_3_5_ u1 u3 u5 w'→∀ K:Act→World→Prop,(∀ (u11:Value) w2,I1_3_5_11_ u1 u3 u5 u11 w2→K (((((A6.put o1.dst u1).put o3.dst u3).put o5.dst u5).put o10.dst (v10 u1 u3 u5)).put o11.dst u11) w2)→o11.wp P ((((A6.put o1.dst u1).put o3.dst u3).put o5.dst u5).put o10.dst (v10 u1 u3 u5)) w' K (NoPanic Q))
  (s1_3_11_5:∀ (u1 u3 u11:Value) w',I1_3_11_ u1 u3 u11 w'→∀ K:Act→World→Prop,(∀ (u5:Value) w2,I1_3_5_11_ u1 u3 u5 u11 w2→K ((((A6.put o1.dst u1).put o3.dst u3).put o11.dst u11).put o5.dst u5) w2)→o5.wp P (((A6.put o1.dst u1).put o3.dst u3).put o11.dst u11) w' K (NoPanic Q))
  (s1_3_5_11_12:∀ (u1 u3 u5 u11:Value) w',I1_3_5_11_ u1 u3 u5 u11 w'→∀ K:Act→World→Prop,(∀ (u12:Value) w2,I1_3_5_11_12_ u1 u3 u5 u11 u12 w2→K ((((((A6.put o1.dst u1).put o3.dst u3).put o5.dst u5).put o10.dst (v10 u1 u3 u5)).put o11.dst u11).put o12.dst u12) w2)→o12.wp P (((((A6.put o1.dst u1).put o3.dst u3).put o5.dst u5).put o10.dst (v10 u1 u3 u5)).put o11.dst u11) w' K (NoPanic Q))
  (y1_3_5_10:∀ (u1 u3 u5:Value) w',I1_3_5_ u1 u3 u5 w'→YieldsIf P #[o0,o1,o2,o3,o4,o5,o6,o7,o8,o9,o10,o11,o12] S o10 (v10 u1 u3 u5) (((A6.put o1.dst u1).put o3.dst u3).put o5.dst u5))
  (y1_3_11_5_10:∀ (u1 u3 u5 u11:Value) w',I1_3_5_11_ u1 u3 u5 u11 w'→YieldsIf P #[o0,o1,o2,o3,o4,o5,o6,o7,o8,o9,o10,o11,o12] S o10 (v10 u1 u3 u5) ((((A6.put o1.dst u1).put o3.dst u3).put o5.dst u5).put o11.dst u11))
  (h:∀ (u1 u3 u5 u11 u12:Value) w',I1_3_5_11_12_ u1 u3 u5 u11 u12 w'→Q .normal ((((((A6.put o1.dst u1).put o3.dst u3).put o5.dst u5).put o10.dst (v10 u1 u3 u5)).put o11.dst u11).put o12.dst u12) w') :
  (Code.region id #[o0,o1,o2,o3,o4,o5,o6,o7,o8,o9,o10,o11,o12] true).wp P Q a w:=by
 subst p0 p2 p4 p6 p7 p8 p9
 obtain ⟨z_,z1_,z11_,z1_3_,z1_11_,z1_3_5_,z1_3_11_,z1_3_5_11_,z1_3_5_11_12_⟩:=hIS
 refine wp_region_noPanic ?_
 refine wp_region_held_drew (S:=S) hm (z_ _ i0) (fun hH=>?_)
 show wpAnyH P .any #[o0,o1,o2,o3,o4,o5,o6,o7,o8,o9,o10,o11,o12] (NoPanic Q) S 13 #[false,false,false,false,false,false,false,false,false,false,false,false,false] a w.drew
 refine wpAnyH_take (i:=0) (oi:=o0) rfl hs f0 r0 (fun _ _ _ h=>h) hy0 hH ?_
 refine wpAnyH_take (i:=2) (oi:=o2) rfl hs f2 r2 (fun _ _ _ h=>h) hy2 hH ?_
 refine wpAnyH_take (i:=4) (oi:=o4) rfl hs f4 r4 (fun _ _ _ h=>h) hy4 hH ?_
 refine wpAnyH_take (i:=6) (oi:=o6) rfl hs f6 r6 (fun _ _ _ h=>h) hy6 hH ?_
 refine wpAnyH_take (i:=7) (oi:=o7) rfl hs f7 r7 (fun _ _ _ h=>h) hy7 hH ?_
 refine wpAnyH_take (i:=8) (oi:=o8) rfl hs f8 r8 (fun _ _ _ h=>h) hy8 hH ?_
 refine wpAnyH_take (i:=9) (oi:=o9) rfl hs f9 r9 (fun _ _ _ h=>h) hy9 hH ?_
 generalize (((((((a.put o0.dst v0).put o2.dst v2).put o4.dst v4).put o6.dst v6).put o7.dst v7).put o8.dst v8).put o9.dst v9) = B at *
 have wa1:∀ y,Region.wanted o1 y = true:=fun y=>by unfold Region.wanted; rw [g1]
 have wa3:∀ y,Region.wanted o3 y = true:=fun y=>by unfold Region.wanted; rw [g3]
 have wa5:∀ y,Region.wanted o5 y = true:=fun y=>by unfold Region.wanted; rw [g5]
 have wa11:∀ y,Region.wanted o11 y = true:=fun y=>by unfold Region.wanted; rw [g11]
 have wa12:∀ y,Region.wanted o12 y = true:=fun y=>by unfold Region.wanted; rw [g12]
 have t1_3_5_11_12_:∀ (u1 u3 u5 u11 u12:Value) w',I1_3_5_11_12_ u1 u3 u5 u11 u12 w'→wpAnyH P .any #[o0,o1,o2,o3,o4,o5,o6,o7,o8,o9,o10,o11,o12] (NoPanic Q) S 0 #[true,true,true,true,true,true,true,true,true,true,true,true,true] ((((((B.put o1.dst u1).put o3.dst u3).put o5.dst u5).put o10.dst (v10 u1 u3 u5)).put o11.dst u11).put o12.dst u12) w':=by
  intro u1 u3 u5 u11 u12 w0 i0
  exact ⟨q1_3_5_11_12_,NoPanic.normal (h u1 u3 u5 u11 u12 w0 i0)⟩
 have t1_3_5_11_:∀ (u1 u3 u5 u11:Value) w',I1_3_5_11_ u1 u3 u5 u11 w'→wpAnyH P .any #[o0,o1,o2,o3,o4,o5,o6,o7,o8,o9,o10,o11,o12] (NoPanic Q) S 1 #[true,true,true,true,true,true,true,true,true,true,true,true,false] (((((B.put o1.dst u1).put o3.dst u3).put o5.dst u5).put o10.dst (v10 u1 u3 u5)).put o11.dst u11) w':=by
  intro u1 u3 u5 u11 w0 i0
  refine wpAnyH_ready (rs:=[12]) q1_3_5_11_ (by simp) (AllReadyH.cons (o:=o12) rfl (fun K hK=>?_) AllReadyH.nil)
  ·rw [if_pos (wa12 _)]
   refine s1_3_5_11_12 u1 u3 u5 u11 w0 i0 K (fun u12 w1 i1=>hK.out _ _ (z1_3_5_11_12_ u1 u3 u5 u11 u12 w1 i1) (fun _=>?_))
   clear hK
   exact t1_3_5_11_12_ u1 u3 u5 u11 u12 w1 i1
 have t1_3_11_:∀ (u1 u3 u11:Value) w',I1_3_11_ u1 u3 u11 w'→wpAnyH P .any #[o0,o1,o2,o3,o4,o5,o6,o7,o8,o9,o10,o11,o12] (NoPanic Q) S 3 #[true,true,true,true,true,false,true,true,true,true,false,true,false] (((B.put o1.dst u1).put o3.dst u3).put o11.dst u11) w':=by
  intro u1 u3 u11 w0 i0
  refine wpAnyH_ready (rs:=[5]) q1_3_11_ (by simp) (AllReadyH.cons (o:=o5) rfl (fun K hK=>?_) AllReadyH.nil)
  ·rw [if_pos (wa5 _)]
   refine s1_3_11_5 u1 u3 u11 w0 i0 K (fun u5 w1 i1=>hK.out _ _ (z1_3_5_11_ u1 u3 u5 u11 w1 i1) (fun _=>?_))
   clear hK
   rw [Act.put_comm _ _ _ ne11_5]
   refine wpAnyH_take (i:=10) (oi:=o10) rfl hs f1_3_11_5_10 r1_3_11_5_10 (fun _ _ _ h=>h) (y1_3_11_5_10 u1 u3 u5 u11 w1 i1) (z1_3_5_11_ u1 u3 u5 u11 w1 i1) ?_
   rw [Act.put_comm _ _ _ ne11_10]
   exact t1_3_5_11_ u1 u3 u5 u11 w1 i1
 have t1_3_5_:∀ (u1 u3 u5:Value) w',I1_3_5_ u1 u3 u5 w'→wpAnyH P .any #[o0,o1,o2,o3,o4,o5,o6,o7,o8,o9,o10,o11,o12] (NoPanic Q) S 2 #[true,true,true,true,true,true,true,true,true,true,true,false,false] ((((B.put o1.dst u1).put o3.dst u3).put o5.dst u5).put o10.dst (v10 u1 u3 u5)) w':=by
  intro u1 u3 u5 w0 i0
  refine wpAnyH_ready (rs:=[11]) q1_3_5_ (by simp) (AllReadyH.cons (o:=o11) rfl (fun K hK=>?_) AllReadyH.nil)
  ·rw [if_pos (wa11 _)]
   refine s1_3_5_11 u1 u3 u5 w0 i0 K (fun u11 w1 i1=>hK.out _ _ (z1_3_5_11_ u1 u3 u5 u11 w1 i1) (fun _=>?_))
   clear hK
   exact t1_3_5_11_ u1 u3 u5 u11 w1 i1
 have t1_11_:∀ (u1 u11:Value) w',I1_11_ u1 u11 w'→wpAnyH P .any #[o0,o1,o2,o3,o4,o5,o6,o7,o8,o9,o10,o11,o12] (NoPanic Q) S 4 #[true,true,true,false,true,false,true,true,true,true,false,true,false] ((B.put o1.dst u1).put o11.dst u11) w':=by
  intro u1 u11 w0 i0
  refine wpAnyH_ready (rs:=[3]) q1_11_ (by simp) (AllReadyH.cons (o:=o3) rfl (fun K hK=>?_) AllReadyH.nil)
  ·rw [if_pos (wa3 _)]
   refine s1_11_3 u1 u11 w0 i0 K (fun u3 w1 i1=>hK.out _ _ (z1_3_11_ u1 u3 u11 w1 i1) (fun _=>?_))
   clear hK
   rw [Act.put_comm _ _ _ ne11_3]
   exact t1_3_11_ u1 u3 u11 w1 i1
 have t1_3_:∀ (u1 u3:Value) w',I1_3_ u1 u3 w'→wpAnyH P .any #[o0,o1,o2,o3,o4,o5,o6,o7,o8,o9,o10,o11,o12] (NoPanic Q) S 4 #[true,true,true,true,true,false,true,true,true,true,false,false,false] ((B.put o1.dst u1).put o3.dst u3) w':=by
  intro u1 u3 w0 i0
  refine wpAnyH_ready (rs:=[5,11]) q1_3_ (by simp) (AllReadyH.cons (o:=o5) rfl (fun K hK=>?_) (AllReadyH.cons (o:=o11) rfl (fun K hK=>?_) AllReadyH.nil))
  ·rw [if_pos (wa5 _)]
   refine s1_3_5 u1 u3 w0 i0 K (fun u5 w1 i1=>hK.out _ _ (z1_3_5_ u1 u3 u5 w1 i1) (fun _=>?_))
   clear hK
   refine wpAnyH_take (i:=10) (oi:=o10) rfl hs f1_3_5_10 r1_3_5_10 (fun _ _ _ h=>h) (y1_3_5_10 u1 u3 u5 w1 i1) (z1_3_5_ u1 u3 u5 w1 i1) ?_
   exact t1_3_5_ u1 u3 u5 w1 i1
  ·rw [if_pos (wa11 _)]
   refine s1_3_11 u1 u3 w0 i0 K (fun u11 w1 i1=>hK.out _ _ (z1_3_11_ u1 u3 u11 w1 i1) (fun _=>?_))
   clear hK
   exact t1_3_11_ u1 u3 u11 w1 i1
 have t11_:∀ (u11:Value) w',I11_ u11 w'→wpAnyH P .any #[o0,o1,o2,o3,o4,o5,o6,o7,o8,o9,o10,o11,o12] (NoPanic Q) S 5 #[true,false,true,false,true,false,true,true,true,true,false,true,false] (B.put o11.dst u11) w':=by
  intro u11 w0 i0
  refine wpAnyH_ready (rs:=[1]) q11_ (by simp) (AllReadyH.cons (o:=o1) rfl (fun K hK=>?_) AllReadyH.nil)
  ·rw [if_pos (wa1 _)]
   refine s11_1 u11 w0 i0 K (fun u1 w1 i1=>hK.out _ _ (z1_11_ u1 u11 w1 i1) (fun _=>?_))
   clear hK
   rw [Act.put_comm _ _ _ ne11_1]
   exact t1_11_ u1 u11 w1 i1
 have t1_:∀ (u1:Value) w',I1_ u1 w'→wpAnyH P .any #[o0,o1,o2,o3,o4,o5,o6,o7,o8,o9,o10,o11,o12] (NoPanic Q) S 5 #[true,true,true,false,true,false,true,true,true,true,false,false,false] (B.put o1.dst u1) w':=by
  intro u1 w0 i0
  refine wpAnyH_ready (rs:=[3,11]) q1_ (by simp) (AllReadyH.cons (o:=o3) rfl (fun K hK=>?_) (AllReadyH.cons (o:=o11) rfl (fun K hK=>?_) AllReadyH.nil))
  ·rw [if_pos (wa3 _)]
   refine s1_3 u1 w0 i0 K (fun u3 w1 i1=>hK.out _ _ (z1_3_ u1 u3 w1 i1) (fun _=>?_))
   clear hK
   exact t1_3_ u1 u3 w1 i1
  ·rw [if_pos (wa11 _)]
   refine s1_11 u1 w0 i0 K (fun u11 w1 i1=>hK.out _ _ (z1_11_ u1 u11 w1 i1) (fun _=>?_))
   clear hK
   exact t1_11_ u1 u11 w1 i1
 have t_:∀ w',I_  w'→wpAnyH P .any #[o0,o1,o2,o3,o4,o5,o6,o7,o8,o9,o10,o11,o12] (NoPanic Q) S 6 #[true,false,true,false,true,false,true,true,true,true,false,false,false] B w':=by
  intro w0 i0
  refine wpAnyH_ready (rs:=[1,11]) q_ (by simp) (AllReadyH.cons (o:=o1) rfl (fun K hK=>?_) (AllReadyH.cons (o:=o11) rfl (fun K hK=>?_) AllReadyH.nil))
  ·rw [if_pos (wa1 _)]
   refine s_1  w0 i0 K (fun u1 w1 i1=>hK.out _ _ (z1_ u1 w1 i1) (fun _=>?_))
   clear hK
   exact t1_ u1 w1 i1
  ·rw [if_pos (wa11 _)]
   refine s_11  w0 i0 K (fun u11 w1 i1=>hK.out _ _ (z11_ u11 w1 i1) (fun _=>?_))
   clear hK
   exact t11_ u11 w1 i1
 exact t_ w.drew i0
end
end
section
open Go.RowKit Go.BigFrame
theorem xa1r {w:World} {g:Nat} {a b c d:Value} {t:TypeId} (h:w.heap[g]? = some (.cells #[a,b,c,d] t (0,0))) (x y z u:Value):((((w.setCell ⟨g,0,none⟩ x).setCell ⟨g,1,none⟩ y).setCell ⟨g,2,none⟩ z).setCell ⟨g,3,none⟩ u).heap[g]? = some (.cells #[x,y,z,u] t (0,0)):=by
 rw [heap_setCell_same _ g 3 _ t _ (heap_setCell_same _ g 2 _ t _ (heap_setCell_same _ g 1 _ t _ (heap_setCell_same w g 0 _ t _ h)))]; rfl
theorem xa1t {w0 w:World} (k:Kept [] w0 w) (g:Nat) (hg:w0.heap.size≤g) (x y z u:Value):Kept [] w0 ((((w.setCell ⟨g,0,none⟩ x).setCell ⟨g,1,none⟩ y).setCell ⟨g,2,none⟩ z).setCell ⟨g,3,none⟩ u):=(((k.setCell (Or.inr hg) x).setCell (Or.inr hg) y).setCell (Or.inr hg) z).setCell (Or.inr hg) u
theorem Tryz.size_head:(Tryz.prog.info? 53).map (·.size) = some 4:=by kernel_rfl
theorem hfroz {w:World} {b:Nat} {cs:Array Value} {t:TypeId} (h:w.heap[b]? = some (.cells cs t (0,0))):w.frozen? ⟨b,0,none⟩ = false∧w.frozen? ⟨b,1,none⟩ = false∧w.frozen? ⟨b,2,none⟩ = false∧w.frozen? ⟨b,3,none⟩ = false :=
 ⟨frozen_of_row _ _ _ _ _ h,frozen_of_row _ _ _ _ _ h,frozen_of_row _ _ _ _ _ h,frozen_of_row _ _ _ _ _ h⟩
theorem xa1f {o:Oper} {a:Act} {w:World} {K:Act→World→Prop} {Q:Exit→Act→World→Prop} (ho:o.op = .alloc 53) (h:K (a.put o.dst (.pointer (some ⟨w.heap.size,0,none⟩))) (w.alloc (.cells #[.int .u64 0,.int .u64 0,.int .u64 0,.int .i64 0] 53))):o.wp Tryz.prog a w K Q:=by
 unfold Oper.wp execOp
 simp only [ho]
 go_simp
 exact h
theorem xb2x {n:Nat} (h:n < 256):IntKind.i64.wrap (n:Int) = (n:Int):=by
 simp [IntKind.wrap,IntKind.bits,IntKind.signed]; omega
def Ald (W:World) (u:Value) (cs:Array Value) (w:World):Prop:=∃ g,u = .pointer (some ⟨g,0,none⟩)∧W.heap.size≤g∧w.heap[g]? = some (.cells cs 53 (0,0))
theorem xa8n {W w:World} (k:Kept [] W w):Ald W (.pointer (some ⟨w.heap.size,0,none⟩)) #[.int .u64 0,.int .u64 0,.int .u64 0,.int .i64 0] (w.alloc (.cells #[.int .u64 0,.int .u64 0,.int .u64 0,.int .i64 0] 53)):=⟨_,rfl,k.size,heap_alloc_new _ _⟩
structure HdR where
 a:Nat
 b:Nat
 c:Nat
 d:Nat
def payH (pl:Nat) (pay:List Nat):Bool:=decide (pay.length = 30∧pay.take 5 = [78,84,82,89,49]∧beL ((pay.drop 5).take 8) = pl∧1≤pay.getD 29 0∧pay.getD 29 0≤32)
def hdF (p:List Nat):Option HdR:=match firstF p with
 | none=>none
 | some x=>if payH x.1 x.2 then some ⟨beL ((x.2.drop 5).take 8),beL ((x.2.drop 13).take 8),beL ((x.2.drop 21).take 8),x.2.getD 29 0⟩ else none
def hdC (p:List Nat):HdR:=(hdF p).getD ⟨0,0,0,0⟩
def hdN (p:List Nat):Nat:=if (hdF p).isSome then 48 else 0
theorem xb1o {p:List Nat} (h:(nextF p 0).kind≠1):hdF p = none:=by
 cases hf:firstF p with
 | none=>unfold hdF; rw [hf]
 | some x =>
  exfalso
  apply h
  unfold nextF
  have hp:0 < p.length:=by
   rcases Nat.eq_zero_or_pos p.length with h0 | h0
   ·rw [xa3t (by omega)] at hf; cases hf
   ·exact h0
  rw [if_neg (by omega),if_neg (by omega)]
  simp [hf]
set_option maxHeartbeats 4000000 in
theorem xa7i (v:Value) (p:List Nat) (w:World) (h:Rd w v p) :
  Calls Tryz.prog 47 #[v] w fun e w'=>e = .returned (.tuple #[.agg #[.int .u64 (hdC p).a,.int .u64 (hdC p).b,.int .u64 (hdC p).c,.int .i64 (hdC p).d],.int .i64 (hdN p),.bool (hdF p).isSome])∧Kept [] w w':=by
 have H:=hide h
 obtain ⟨a1,n1,c1,rfl,hn1,_⟩:=id h
 subst hn1
 clear h
 have HZ0:=hide (heap_alloc_new w (.cells #[.int .u64 0,.int .u64 0,.int .u64 0,.int .i64 0] 53))
 have HK0:=hide ((Kept.refl [] w).alloc (.cells #[.int .u64 0,.int .u64 0,.int .u64 0,.int .i64 0] 53))
 obtain ⟨X,hX⟩:∃ X,hdC p = X:=⟨_,rfl⟩
 obtain ⟨Y,hY⟩:∃ Y,hdN p = Y:=⟨_,rfl⟩
 obtain ⟨Z,hZ⟩:∃ Z,(hdF p).isSome = Z:=⟨_,rfl⟩
 rw [hX,hY,hZ]
 have HNO:=hide (fun (h0:hdF p = none)=>by
  rw [← hX,← hY,← hZ]
  exact ⟨by simp [hdC,h0],by simp [hdN,h0],by simp [h0]⟩:hdF p = none→X = ⟨0,0,0,0⟩∧Y = 0∧Z = false)
 have HYE:=hide (fun (x:HdR) (h0:hdF p = some x)=>by
  rw [← hX,← hY,← hZ]
  exact ⟨by simp [hdC,h0],by simp [hdN,h0],by simp [h0]⟩:∀ x,hdF p = some x→X = x∧Y = 48∧Z = true)
 clear hX hY hZ
 go_enter Tryz.func47,Tryz.ntmps47
 go_wp2_with fail
 refine Calls.mono (xb4u _ p 0 _ ((uh H).old (uh HK0) (by simp)) (by omega)) ?_
 rintro e w1 ⟨v1,rfl,n1,k1⟩
 obtain ⟨av,nv,cv,rfl,hnv,_⟩:=id n1.1
 have HN1:=hide n1
 have HZ1:=hide (k1.heap (uh HZ0) (by simp))
 have HK1:=hide ((uh HK0).trans k1 (by simp))
 have HLT1:=hide (lt_of_block (uh HZ1):w.heap.size < w1.heap.size)
 clear n1 k1 hnv
 have HZW:=hide (((Kept.refl [] w1).alloc (.cells #[.int .u64 ((nextF p 0).pl:Int),.slice av nv cv] 173)).heap (uh HZ1) (by simp))
 have HKW:=hide ((uh HK1).alloc (.cells #[.int .u64 ((nextF p 0).pl:Int),.slice av nv cv] 173))
 have HFW:=hide (heap_alloc_new w1 (.cells #[.int .u64 ((nextF p 0).pl:Int),.slice av nv cv] 173))
 have HNW:=hide ((uh HN1).1.old ((Kept.refl [] w1).alloc (.cells #[.int .u64 ((nextF p 0).pl:Int),.slice av nv cv] 173)) (by simp))
 obtain ⟨W1,hW1⟩:∃ W,w1.alloc (.cells #[.int .u64 ((nextF p 0).pl:Int),.slice av nv cv] 173) = W:=⟨_,rfl⟩
 have HS1:=hide (by rw [← hW1]; simp:w1.heap.size < W1.heap.size)
 rw [hW1] at HZW HKW HFW HNW
 have HW1:=hide hW1
 clear hW1
 obtain ⟨d0,d1,d2,d3⟩:=hcells (uh HZW)
 obtain ⟨f0,f1,f2,f3⟩:=hfroz (uh HZW)
 have g0:W1.cell? ⟨w1.heap.size,0,none⟩ = some (.int .u64 ((nextF p 0).pl:Int)):=by rw [cell_of_row _ _ _ _ _ _ (uh HFW)]; rfl
 have g1:W1.cell? ⟨w1.heap.size,1,none⟩ = some (.slice av nv cv):=by rw [cell_of_row _ _ _ _ _ _ (uh HFW)]; rfl
 have HNK:=hide (fun h=>xb1o (p:=p) h)
 have hcase:=xa4k p 0 (uh H).byte
 by_cases hkd:(nextF p 0).kind = 1
 ·rcases hcase with ⟨_,hN⟩ | ⟨_,hN⟩ | ⟨m,pl,pay,hzn,hN,b1,b2,b3,b4,b5,b6,b7⟩
  ·rw [hN] at hkd; simp at hkd
  ·rw [hN] at hkd; simp at hkd
  ·obtain rfl:m = 0:=by omega
   rw [List.drop_zero] at b7
   rw [hN] at HN1 HFW HNW HW1 g0 ⊢
   simp only at HN1 HFW HNW HW1 g0 ⊢
   have hnv:nv = pay.length:=by obtain ⟨_,_,_,e,h9,_⟩:=(uh HN1).1; cases e; exact h9.symm
   subst hnv
   have HHF:=hide (by unfold hdF; rw [b7]:hdF p = if payH pl pay then some ⟨beL ((pay.drop 5).take 8),beL ((pay.drop 13).take 8),beL ((pay.drop 21).take 8),pay.getD 29 0⟩ else none)
   have hpl:(pl:Int)≤18446744073709551615:=by omega
   clear hN hkd hzn b5 b6 b7 HNK
   by_cases hl30:pay.length = 30
   ·have HPL:=hide hl30
    obtain ⟨_,_,_,he9,_,hcap9,⟨hcm9,_⟩,_,_,hcl9⟩:=id (uh HNW)
    cases he9
    obtain ⟨bq,oq,e9,_⟩:=hcl9 (by omega)
    cases e9
    clear hcl9
    have hcv:30≤cv:=by omega
    clear hcap9
    rw [hl30] at HNW HN1 HFW HW1 g1 ⊢
    clear hl30
    obtain ⟨HHF30,hhf⟩:∃ q,q = pay:=⟨_,rfl⟩
    clear HHF30 hhf
    have kc:=fun (w:World) (C:Array Value) (n c:Nat)=>Lib.run_convert_bytes_const (P:=Tryz.prog) w 49 5 C n c Tryz.underlying49 Tryz.underlying5
    have hsz1:(w1.alloc (.cells #[.int .u64 (pl:Int),.slice (some ⟨bq,oq,none⟩) 30 cv] 173)).heap.size = w1.heap.size + 1:=by simp
    have kc1:=kc (w1.alloc (.cells #[.int .u64 (pl:Int),.slice (some ⟨bq,oq,none⟩) 30 cv] 173)) #[.int .u8 78,.int .u8 84,.int .u8 82,.int .u8 89,.int .u8 49] 5 5
    rw [hsz1] at kc1
    clear kc hsz1
    rw [← uh HW1] at g0 g1
    go_wp2_with fail
    clear kc1 d0 d1 d2 d3 f0 f1 f2 f3 g0 g1
    rw [uh HW1]
    have HK3:=hide ((Kept.refl [] W1).alloc (.cells #[.int .u8 78,.int .u8 84,.int .u8 82,.int .u8 89,.int .u8 49] 5 (5,6)))
    have HR3:=hide (rd_row [78,84,82,89,49] (heap_alloc_new W1 (.cells #[.int .u8 78,.int .u8 84,.int .u8 82,.int .u8 89,.int .u8 49] 5 (5,6))) rfl (by decide) 5 rfl (by decide))
    rw [show W1.heap.size = w1.heap.size + 1 by rw [← uh HW1]; simp] at HR3
    obtain ⟨W3,hW3⟩:∃ W,W1.alloc (.cells #[.int .u8 78,.int .u8 84,.int .u8 82,.int .u8 89,.int .u8 49] 5 (5,6)) = W:=⟨_,rfl⟩
    rw [hW3] at HK3 HR3 ⊢
    clear hW3
    have HZ3:=hide ((uh HK3).heap (uh HZW) (by simp))
    have HF3:=hide ((uh HK3).heap (uh HFW) (by simp))
    have HKW3:=hide ((uh HKW).trans (uh HK3) (by simp))
    have HNW3:=hide ((uh HNW).old (uh HK3) (by simp))
    have hcut:=xb9j bq oq cv _ pay [78,84,82,89,49] W3 (by rw [uh HPL]; exact uh HNW3) (uh HR3) (by rw [uh HPL]; decide)
    rw [uh HPL] at hcut
    refine Calls.mono hcut ?_
    clear hcut
    rintro e w4 ⟨rfl,hw4⟩
    subst w4
    obtain ⟨d0,d1,d2,d3⟩:=hcells (uh HZ3)
    obtain ⟨f0,f1,f2,f3⟩:=hfroz (uh HZ3)
    by_cases hpre:pay.take 5 = [78,84,82,89,49]
    ·simp only [List.length_cons,List.length_nil,Nat.zero_add,Nat.reduceAdd,hpre,if_true,decide_true,Nat.reduceSub]
     have hfl:(pay.drop 5).length = 25:=by rw [List.length_drop,uh HPL]
     have HFP:=hide (by
      have h9:=Rd.cutN (n:=5) (N:=30) (p:=pay) (by rw [uh HPL]; exact uh HNW3) (by decide) (by rw [uh HPL]; exact Nat.le_refl _)
      rw [List.take_of_length_le (by rw [List.length_drop,uh HPL]; exact Nat.le_refl _)] at h9
      exact h9:Rd W3 (.slice (some ⟨bq,oq + 5,none⟩) 25 (cv - 5)) (pay.drop 5))
     obtain ⟨m0,hm0⟩:∃ m,beL ((pay.drop 5).take 8) = m:=⟨_,rfl⟩
     obtain ⟨m1,hm1⟩:∃ m,beL ((pay.drop 13).take 8) = m:=⟨_,rfl⟩
     obtain ⟨m2,hm2⟩:∃ m,beL ((pay.drop 21).take 8) = m:=⟨_,rfl⟩
     obtain ⟨wz,hwz⟩:∃ m,pay.getD 29 0 = m:=⟨_,rfl⟩
     have hwl:wz < 256:=by
      rw [← hwz,List.getD_eq_getElem?_getD,List.getElem?_eq_getElem (by rw [uh HPL]; decide)]
      exact (uh HNW3).byte _ (List.getElem_mem _)
     have HC24:=hide (by
      obtain ⟨_,_,_,e9,_,_,_,_,_,hcl⟩:=uh HFP
      cases e9
      obtain ⟨b9,o9,e9,hc⟩:=hcl (by decide)
      cases e9
      have h9:=hc 24 (by decide)
      rw [← hwz]
      have e9:(pay.drop 5).getD 24 0 = pay.getD 29 0:=by simp [List.getD_eq_getElem?_getD]
      rw [e9] at h9
      exact h9:W3.cell? ⟨bq,oq + 5 + 24,none⟩ = some (.int .u8 (wz:Int)))
     have hnum:∀ w',Kept [] W3 w'→∀ i:Nat,i < 3→Calls Tryz.prog 85 #[.slice (some ⟨bq,oq + 5,none⟩) 25 (cv - 5),.int .i64 i] w' fun e w2=>e = .returned (.int .u64 (beL (((pay.drop 5).drop (i * 8)).take 8):Nat))∧w2 = w':=by
      intro w' k i hi
      have h9:=xa6u bq (oq + 5) (cv - 5) i (pay.drop 5) w' (by rw [hfl]; exact (uh HFP).old k (by simp)) hi hfl
      rw [hfl] at h9
      exact h9
     have HHF2:=hide (uh HHF)
     rw [hm0,hm1,hm2,hwz] at HHF2
     have Hm0:=hide (by rw [← hm0]; rfl:m0 = beL (((pay.drop 5).drop (0 * 8)).take 8))
     have Hm1:=hide (by rw [← hm1,List.drop_drop]:m1 = beL (((pay.drop 5).drop (1 * 8)).take 8))
     have Hm2:=hide (by rw [← hm2,List.drop_drop]:m2 = beL (((pay.drop 5).drop (2 * 8)).take 8))
     have HPH:=hide (by unfold payH; rw [hm0,hwz,uh HPL]; simp [hpre]:payH pl pay = decide (m0 = pl∧1≤wz∧wz≤32))
     clear hm0 hm1 hm2 hwz hfl HHF
     go_upto_region 7 with fail
     refine xc1o (by kernel_rfl) (by kernel_rfl) (by kernel_rfl) (by kernel_rfl) (by kernel_rfl) (by kernel_rfl) (by kernel_rfl) (by kernel_rfl) (by kernel_rfl) (by kernel_rfl) (by kernel_rfl) (by kernel_rfl) (by kernel_rfl) (by kernel_rfl) (by kernel_rfl) (by kernel_rfl) (by kernel_rfl) (by kernel_rfl) (by kernel_rfl) (by kernel_rfl) (by kernel_rfl) (by kernel_rfl) (by kernel_rfl) (by kernel_rfl) (by kernel_rfl) (by kernel_rfl) (by kernel_rfl) (by kernel_rfl) (by kernel_rfl) rfl rfl rfl rfl rfl (by simp) (by simp) (by simp) (by simp)
      (.slice (some ⟨bq,oq + 5,none⟩) 25 (cv - 5)) (.slice (some ⟨bq,oq + 5,none⟩) 25 (cv - 5)) (.slice (some ⟨bq,oq + 5,none⟩) 25 (cv - 5)) (.slice (some ⟨bq,oq + 5,none⟩) 25 (cv - 5)) (.pointer (some ⟨bq,oq + 5 + 24,none⟩)) (.int .u8 (wz:Int)) (.int .i64 (wz:Int)) _ _ _ _ _ _ _
      (fun w'=>w'.cell? ⟨bq,oq + 5 + 24,none⟩ = some (.int .u8 (wz:Int)))
      (fun  w'=>Kept [] W3 w') (fun u1 w'=>u1 = .int .u64 (m0:Int)∧Kept [] W3 w') (fun u11 w'=>Kept [] W3 w'∧Ald W3 u11 #[.int .u64 0,.int .u64 0,.int .u64 0,.int .i64 0] w') (fun u1 u3 w'=>u1 = .int .u64 (m0:Int)∧u3 = .int .u64 (m1:Int)∧Kept [] W3 w') (fun u1 u11 w'=>u1 = .int .u64 (m0:Int)∧Kept [] W3 w'∧Ald W3 u11 #[.int .u64 0,.int .u64 0,.int .u64 0,.int .i64 0] w') (fun u1 u3 u5 w'=>u1 = .int .u64 (m0:Int)∧u3 = .int .u64 (m1:Int)∧u5 = .int .u64 (m2:Int)∧Kept [] W3 w') (fun u1 u3 u11 w'=>u1 = .int .u64 (m0:Int)∧u3 = .int .u64 (m1:Int)∧Kept [] W3 w'∧Ald W3 u11 #[.int .u64 0,.int .u64 0,.int .u64 0,.int .i64 0] w') (fun u1 u3 u5 u11 w'=>u1 = .int .u64 (m0:Int)∧u3 = .int .u64 (m1:Int)∧u5 = .int .u64 (m2:Int)∧Kept [] W3 w'∧Ald W3 u11 #[.int .u64 0,.int .u64 0,.int .u64 0,.int .i64 0] w') (fun u1 u3 u5 u11 u12 w'=>u1 = .int .u64 (m0:Int)∧u3 = .int .u64 (m1:Int)∧u5 = .int .u64 (m2:Int)∧Kept [] W3 w'∧Ald W3 u11 #[.int .u64 (m0:Int),.int .u64 (m1:Int),.int .u64 (m2:Int),.int .i64 (wz:Int)] w')
      (fun u1 u3 u5=>.agg #[u1,u3,u5,.int .i64 (wz:Int)])
      (by simp only [Act.put,sa1,sa2,sa3]; rfl) (by exact Or.inl ⟨by rfl,fun W' hW'=>by go_simp⟩)
      (by simp only [Act.put,sa1,sa2,sa3]; rfl) (by exact Or.inl ⟨by rfl,fun W' hW'=>by go_simp⟩)
      (by simp only [Act.put,sa1,sa2,sa3]; rfl) (by exact Or.inl ⟨by rfl,fun W' hW'=>by go_simp⟩)
      (by simp only [Act.put,sa1,sa2,sa3]; rfl) (by exact Or.inl ⟨by rfl,fun W' hW'=>by go_simp⟩)
      (by simp only [Act.put,sa1,sa2,sa3]; rfl) (by exact Or.inl ⟨by rfl,fun W' hW'=>by go_simp⟩)
      (by simp only [Act.put,sa1,sa2,sa3]; rfl) (by exact Or.inl ⟨by rfl,fun W' hW'=>xb4w 5 _ rfl ⟨bq,oq + 5 + 24,none⟩ rfl W' _ .u8 Tryz.underlying5 hW'⟩)
      (by simp only [Act.put,sa1,sa2,sa3]; rfl) (by exact Or.inl ⟨by rfl,fun W' hW'=>by go_simp; exact xb2x hwl⟩)
      ((Kept.refl [] W3).drew)
      ⟨fun  w' h=>(h).cell (uh HC24) (by simp),fun u1 w' h=>(h.2).cell (uh HC24) (by simp),fun u11 w' h=>(h.1).cell (uh HC24) (by simp),fun u1 u3 w' h=>(h.2.2).cell (uh HC24) (by simp),fun u1 u11 w' h=>(h.2.1).cell (uh HC24) (by simp),fun u1 u3 u5 w' h=>(h.2.2.2).cell (uh HC24) (by simp),fun u1 u3 u11 w' h=>(h.2.2.1).cell (uh HC24) (by simp),fun u1 u3 u5 u11 w' h=>(h.2.2.2.1).cell (uh HC24) (by simp),fun u1 u3 u5 u11 u12 w' h=>(h.2.2.2.1).cell (uh HC24) (by simp)⟩
      (by
       rintro w' k K hK
       refine xa0f rfl Tryz.call85 [.slice (some ⟨bq,oq + 5,none⟩) 25 (cv - 5),.int .i64 0] rfl (hnum w' k 0 (by decide)) ?_
       rintro e w2 ⟨rfl,rfl⟩
       exact ⟨_,rfl,hK _ _ (⟨by rw [← uh Hm0],k⟩)⟩) (by
       rintro w' k K hK
       exact xa1f rfl (hK _ _ ⟨k.alloc _,xa8n k⟩)) (by
       rintro u1 w' ⟨rfl,k⟩ K hK
       refine xa0f rfl Tryz.call85 [.slice (some ⟨bq,oq + 5,none⟩) 25 (cv - 5),.int .i64 1] rfl (hnum w' k 1 (by decide)) ?_
       rintro e w2 ⟨rfl,rfl⟩
       exact ⟨_,rfl,hK _ _ (⟨rfl,by rw [← uh Hm1],k⟩)⟩) (by
       rintro u1 w' ⟨rfl,k⟩ K hK
       exact xa1f rfl (hK _ _ ⟨rfl,k.alloc _,xa8n k⟩)) (by
       rintro u11 w' ⟨k,al⟩ K hK
       refine xa0f rfl Tryz.call85 [.slice (some ⟨bq,oq + 5,none⟩) 25 (cv - 5),.int .i64 0] rfl (hnum w' k 0 (by decide)) ?_
       rintro e w2 ⟨rfl,rfl⟩
       exact ⟨_,rfl,hK _ _ (⟨by rw [← uh Hm0],k,al⟩)⟩) (by
       rintro u1 u3 w' ⟨rfl,rfl,k⟩ K hK
       refine xa0f rfl Tryz.call85 [.slice (some ⟨bq,oq + 5,none⟩) 25 (cv - 5),.int .i64 2] rfl (hnum w' k 2 (by decide)) ?_
       rintro e w2 ⟨rfl,rfl⟩
       exact ⟨_,rfl,hK _ _ (⟨rfl,rfl,by rw [← uh Hm2],k⟩)⟩) (by
       rintro u1 u3 w' ⟨rfl,rfl,k⟩ K hK
       exact xa1f rfl (hK _ _ ⟨rfl,rfl,k.alloc _,xa8n k⟩)) (by
       rintro u1 u11 w' ⟨rfl,k,al⟩ K hK
       refine xa0f rfl Tryz.call85 [.slice (some ⟨bq,oq + 5,none⟩) 25 (cv - 5),.int .i64 1] rfl (hnum w' k 1 (by decide)) ?_
       rintro e w2 ⟨rfl,rfl⟩
       exact ⟨_,rfl,hK _ _ (⟨rfl,by rw [← uh Hm1],k,al⟩)⟩) (by
       rintro u1 u3 u5 w' ⟨rfl,rfl,rfl,k⟩ K hK
       exact xa1f rfl (hK _ _ ⟨rfl,rfl,rfl,k.alloc _,xa8n k⟩)) (by
       rintro u1 u3 u11 w' ⟨rfl,rfl,k,al⟩ K hK
       refine xa0f rfl Tryz.call85 [.slice (some ⟨bq,oq + 5,none⟩) 25 (cv - 5),.int .i64 2] rfl (hnum w' k 2 (by decide)) ?_
       rintro e w2 ⟨rfl,rfl⟩
       exact ⟨_,rfl,hK _ _ (⟨rfl,rfl,by rw [← uh Hm2],k,al⟩)⟩)
      (by
       rintro u1 u3 u5 u11 w' ⟨rfl,rfl,rfl,k,g,rfl,hg,hh⟩ K hK
       simp only [Act.put,sa1,sa2,sa3] at hK ⊢
       have hk2:=hK undef _ ⟨trivial,trivial,trivial,Kept.setRow k (Or.inr hg) #[.int .u64 (m0:Int),.int .u64 (m1:Int),.int .u64 (m2:Int),.int .i64 (wz:Int)],g,rfl,hg,setRow_heap _ _ _ _ _ _ hh⟩
       clear hK
       exact wp_store_row 53 (.tmp 10) (.tmp 47) rfl g #[.int .u64 (m0:Int),.int .u64 (m1:Int),.int .u64 (m2:Int),.int .i64 (wz:Int)] rfl rfl 53 #[.int .u64 0,.int .u64 0,.int .u64 0,.int .i64 0] hh Tryz.size_head rfl (by simp [Value.oneCell']) hk2)
      (by rintro u1 u3 u5 w' ⟨rfl,rfl,rfl,k⟩; exact Or.inl ⟨by rfl,fun W' hW'=>by go_simp⟩)
      (by rintro u1 u3 u5 u11 w' ⟨rfl,rfl,rfl,k,al⟩; exact Or.inl ⟨by rfl,fun W' hW'=>by go_simp⟩)
      ?_
     rintro u1 u3 u5 u11 u12 w5 ⟨rfl,rfl,rfl,k5,g,rfl,hg,hh⟩
     simp only [Act.put,sa1,sa2,sa3]
     have HGK:=hide (k5.heap (uh HF3) (by simp))
     have HZ5:=hide (k5.heap (uh HZ3) (by simp))
     have HK5:=hide ((uh HKW3).trans k5 (by simp))
     have HG5:=hide hh
     have hgn:w.heap.size≠g:=by
      have:=(uh HKW3).size; have:=lt_of_block (uh HZ3); omega
     have HGN:=hide hgn
     clear k5 hh hgn hg d0 d1 d2 d3 f0 f1 f2 f3 hnum HK3 HR3 HZ3 HF3 HKW3 HNW3
     obtain ⟨d0,d1,d2,d3⟩:=hcells (uh HZ5)
     obtain ⟨f0,f1,f2,f3⟩:=hfroz (uh HZ5)
     obtain ⟨x0,x1,x2,x3⟩:=hcells (uh HG5)
     have g0:w5.cell? ⟨w1.heap.size,0,none⟩ = some (.int .u64 (pl:Int)):=by rw [cell_of_row _ _ _ _ _ _ (uh HGK)]; rfl
     by_cases hpm:m0 = pl
     ·have hne:((m0:Int) != (pl:Int)) = false:=by simp [hpm]
      go_wp2_with fail
      refine Calls.mono (xa2k (wz:Int) _) ?_
      rintro e w6 ⟨rfl,hw6⟩
      subst w6
      have HWD:=hide (by unfold wideB; simp only [decide_eq_decide]; omega:wideB (wz:Int) = decide (1≤wz∧wz≤32))
      by_cases hwd:wideB (wz:Int) = true
      ·rw [hwd]
       have HV:=hide (uh HYE _ (by rw [uh HHF2,if_pos (by rw [uh HPH]; rw [uh HWD] at hwd; simpa [hpm] using hwd)]))
       go_wp2
       refine bodyPost_ret (v:=.tuple #[.agg #[.int .u64 (pl:Int),.int .u64 (m1:Int),.int .u64 (m2:Int),.int .i64 (wz:Int)],.int .i64 48,.bool true]) ?_ rfl ⟨by rw [(uh HV).1,(uh HV).2.1,(uh HV).2.2,hpm]; rfl,xa1t (uh HK5) w.heap.size (Nat.le_refl _) _ _ _ _⟩
       exact xa0a rfl _ _ w.heap.size _ #[.int .u64 (pl:Int),.int .u64 (m1:Int),.int .u64 (m2:Int),.int .i64 (wz:Int)] (0,0) _ rfl (xa1r (uh HZ5) _ _ _ _) Tryz.underlying53 rfl Tryz.size_head _ _ rfl rfl
      ·rw [Bool.not_eq_true] at hwd
       rw [hwd]
       have HV:=hide (uh HNO (by rw [uh HHF2,if_neg (by rw [uh HPH]; rw [uh HWD] at hwd; simpa [hpm] using hwd)]))
       go_wp2
       refine bodyPost_ret (v:=.tuple #[.agg #[.int .u64 0,.int .u64 0,.int .u64 0,.int .i64 0],.int .i64 0,.bool false]) ?_ rfl ⟨by rw [(uh HV).1,(uh HV).2.1,(uh HV).2.2]; rfl,xa1t (uh HK5) w.heap.size (Nat.le_refl _) _ _ _ _⟩
       exact xa0a rfl _ _ w.heap.size _ #[.int .u64 0,.int .u64 0,.int .u64 0,.int .i64 0] (0,0) _ rfl (xa1r (uh HZ5) _ _ _ _) Tryz.underlying53 rfl Tryz.size_head _ _ rfl rfl
     ·have hne:((m0:Int) != (pl:Int)) = true:=by rw [bne_iff_ne]; omega
      have HV:=hide (uh HNO (by rw [uh HHF2,if_neg (by rw [uh HPH]; simp [hpm])]))
      go_wp2
      refine bodyPost_ret (v:=.tuple #[.agg #[.int .u64 0,.int .u64 0,.int .u64 0,.int .i64 0],.int .i64 0,.bool false]) ?_ rfl ⟨by rw [(uh HV).1,(uh HV).2.1,(uh HV).2.2]; rfl,xa1t (uh HK5) w.heap.size (Nat.le_refl _) _ _ _ _⟩
      exact xa0a rfl _ _ w.heap.size _ #[.int .u64 0,.int .u64 0,.int .u64 0,.int .i64 0] (0,0) _ rfl (xa1r (uh HZ5) _ _ _ _) Tryz.underlying53 rfl Tryz.size_head _ _ rfl rfl
    ·simp only [List.length_cons,List.length_nil,Nat.zero_add,Nat.reduceAdd,hpre,if_false,decide_false]
     have HV:=hide (uh HNO (by rw [uh HHF,if_neg]; simp [payH,hpre]))
     go_wp2
     refine bodyPost_ret (v:=.tuple #[.agg #[.int .u64 0,.int .u64 0,.int .u64 0,.int .i64 0],.int .i64 0,.bool false]) ?_ rfl ⟨by rw [(uh HV).1,(uh HV).2.1,(uh HV).2.2]; rfl,xa1t (uh HKW3) w.heap.size (Nat.le_refl _) _ _ _ _⟩
     exact xa0a rfl _ _ w.heap.size _ #[.int .u64 0,.int .u64 0,.int .u64 0,.int .i64 0] (0,0) _ rfl (xa1r (uh HZ3) _ _ _ _) Tryz.underlying53 rfl Tryz.size_head _ _ rfl rfl
   ·have hl30':((pay.length:Int) != 30) = true:=by rw [bne_iff_ne]; omega
    have HV:=hide (uh HNO (by rw [uh HHF,if_neg]; simp [payH,hl30]))
    rw [← uh HW1] at d0 d1 d2 d3 f0 f1 f2 f3 g0 g1
    go_wp2
    rw [uh HW1]
    refine bodyPost_ret (v:=.tuple #[.agg #[.int .u64 0,.int .u64 0,.int .u64 0,.int .i64 0],.int .i64 0,.bool false]) ?_ rfl ⟨by rw [(uh HV).1,(uh HV).2.1,(uh HV).2.2]; rfl,xa1t (uh HKW) w.heap.size (Nat.le_refl _) _ _ _ _⟩
    exact xa0a rfl _ _ w.heap.size _ #[.int .u64 0,.int .u64 0,.int .u64 0,.int .i64 0] (0,0) _ rfl (xa1r (uh HZW) _ _ _ _) Tryz.underlying53 rfl Tryz.size_head _ _ rfl rfl
 ·have hkd':(((nextF p 0).kind:Int) != 1) = true:=by rw [bne_iff_ne]; omega
  have HV:=hide (uh HNO (uh HNK hkd))
  clear hcase
  rw [← uh HW1] at d0 d1 d2 d3 f0 f1 f2 f3 g0 g1
  go_wp2
  rw [uh HW1]
  refine bodyPost_ret (v:=.tuple #[.agg #[.int .u64 0,.int .u64 0,.int .u64 0,.int .i64 0],.int .i64 0,.bool false]) ?_ rfl ⟨by rw [(uh HV).1,(uh HV).2.1,(uh HV).2.2]; rfl,xa1t (uh HKW) w.heap.size (Nat.le_refl _) _ _ _ _⟩
  exact xa0a rfl _ _ w.heap.size _ #[.int .u64 0,.int .u64 0,.int .u64 0,.int .i64 0] (0,0) _ rfl (xa1r (uh HZW) _ _ _ _) Tryz.underlying53 rfl Tryz.size_head _ _ rfl rfl
def rbOk (p:List Nat) (z:Int) (i:Nat):Bool:=decide ((nextF p z).kind = 1∧(nextF p z).pl = i∧(decB (nextF p z).pay).2.2 = 0∧(decB (nextF p z).pay).1 = i)
def rbF (p:List Nat) (z:Int) (i:Nat):Nat:=if rbOk p z i then i else 0
def rbN (p:List Nat) (z:Int) (i:Nat):Int:=if rbOk p z i then (nextF p z).next else 0
def rbE (p:List Nat) (z:Int) (i:Nat):List En:=if rbOk p z i then (decB (nextF p z).pay).2.1 else []
theorem bcells {w:World} {b:Nat} {x0 x1:Value} {t:TypeId} (h:w.heap[b]? = some (.cells #[x0,x1] t (0,0))):w.cell? ⟨b,0,none⟩ = some x0∧w.cell? ⟨b,1,none⟩ = some x1:=by
 refine ⟨?_,?_⟩ <;> rw [cell_of_row _ _ _ _ _ _ h] <;> rfl
theorem bfroz {w:World} {b:Nat} {cs:Array Value} {t:TypeId} (h:w.heap[b]? = some (.cells cs t (0,0))):w.frozen? ⟨b,0,none⟩ = false∧w.frozen? ⟨b,1,none⟩ = false :=
 ⟨frozen_of_row _ _ _ _ _ h,frozen_of_row _ _ _ _ _ h⟩
theorem Tryz.size_batch9:(Tryz.prog.info? 75).map (·.size) = some 2:=by kernel_rfl
set_option maxHeartbeats 4000000 in
theorem xa5o (v:Value) (p:List Nat) (z:Int) (i:Nat) (w:World) (h:Rd w v p) (hz:-9223372036854775808≤z∧z≤9223372036854775807) :
  Calls Tryz.prog 48 #[v,.int .i64 z,.int .u64 i] w fun e w'=>∃ bv,e = .returned (.tuple #[.agg #[.int .u64 (rbF p z i),bv],.int .i64 (rbN p z i),.bool (rbOk p z i)])∧NewN w.heap.size w' bv (rbE p z i)∧Kept [] w w':=by
 have H:=hide h
 obtain ⟨a1,n1,c1,rfl,hn1,_⟩:=id h
 subst hn1
 clear h
 have HZ0:=hide (heap_alloc_new w (.cells #[.int .u64 0,.slice none 0 0] 75))
 have HK0:=hide ((Kept.refl [] w).alloc (.cells #[.int .u64 0,.slice none 0 0] 75))
 obtain ⟨X,hX⟩:∃ X,rbF p z i = X:=⟨_,rfl⟩
 obtain ⟨Y,hY⟩:∃ Y,rbN p z i = Y:=⟨_,rfl⟩
 obtain ⟨E,hE⟩:∃ E,rbE p z i = E:=⟨_,rfl⟩
 obtain ⟨Z,hZ⟩:∃ Z,rbOk p z i = Z:=⟨_,rfl⟩
 rw [hX,hY,hZ,hE]
 have HNO:=hide (fun (h0:rbOk p z i = false)=>by
  rw [← hX,← hY,← hZ,← hE]
  exact ⟨by simp [rbF,h0],by simp [rbN,h0],by simp [rbE,h0],h0⟩:rbOk p z i = false→X = 0∧Y = 0∧E = []∧Z = false)
 have HYE:=hide (fun (h0:rbOk p z i = true)=>by
  rw [← hX,← hY,← hZ,← hE]
  exact ⟨by simp [rbF,h0],by simp [rbN,h0],by simp [rbE,h0],h0⟩:rbOk p z i = true→X = i∧Y = (nextF p z).next∧E = (decB (nextF p z).pay).2.1∧Z = true)
 have HOK:=hide (by unfold rbOk; rfl:rbOk p z i = decide ((nextF p z).kind = 1∧(nextF p z).pl = i∧(decB (nextF p z).pay).2.2 = 0∧(decB (nextF p z).pay).1 = i))
 clear hX hY hZ hE
 go_enter Tryz.func48,Tryz.ntmps48
 go_wp2_with fail
 refine Calls.mono (xb4u _ p z _ ((uh H).old (uh HK0) (by simp)) hz) ?_
 rintro e w1 ⟨v1,rfl,n1,k1⟩
 obtain ⟨av,nv,cv,rfl,hnv,_⟩:=id n1.1
 obtain ⟨N,hN⟩:∃ N,nextF p z = N:=⟨_,rfl⟩
 rw [hN] at n1 HYE HOK hnv ⊢
 clear hN
 have HN1:=hide n1.1
 have HZ1:=hide (k1.heap (uh HZ0) (by simp))
 have HK1:=hide ((uh HK0).trans k1 (by simp))
 clear n1 k1 hnv
 have HZW:=hide (((Kept.refl [] w1).alloc (.cells #[.int .u64 (N.pl:Int),.slice av nv cv] 173)).heap (uh HZ1) (by simp))
 have HKW:=hide ((uh HK1).alloc (.cells #[.int .u64 (N.pl:Int),.slice av nv cv] 173))
 have HFW:=hide (heap_alloc_new w1 (.cells #[.int .u64 (N.pl:Int),.slice av nv cv] 173))
 have HNW:=hide ((uh HN1).old ((Kept.refl [] w1).alloc (.cells #[.int .u64 (N.pl:Int),.slice av nv cv] 173)) (by simp))
 obtain ⟨W1,hW1⟩:∃ W,w1.alloc (.cells #[.int .u64 (N.pl:Int),.slice av nv cv] 173) = W:=⟨_,rfl⟩
 rw [hW1] at HZW HKW HFW HNW
 have HW1:=hide hW1
 clear hW1
 obtain ⟨d0,d1⟩:=bcells (uh HZW)
 obtain ⟨f0,f1⟩:=bfroz (uh HZW)
 obtain ⟨g0,g1⟩:=bcells (uh HFW)
 rw [← uh HW1] at d0 d1 f0 f1 g0 g1
 by_cases hkd:N.kind = 1
 ·by_cases hpl:N.pl = i
  ·have hkd':((N.kind:Int) != 1) = false:=by simp [hkd]
   have hpl':((N.pl:Int) != (i:Int)) = false:=by simp [hpl]
   have HPL:=hide hpl
   have HKD:=hide hkd
   clear hpl hkd
   go_wp2_with fail
   rw [uh HW1]
   clear d0 d1 f0 f1 g0 g1
   refine Calls.mono (xa3y _ N.pay W1 (uh HNW)) ?_
   rintro e w2 ⟨bv,rfl,nb,k2⟩
   obtain ⟨D,hD⟩:∃ D,decB N.pay = D:=⟨_,rfl⟩
   rw [hD] at nb HYE HOK ⊢
   clear hD
   obtain ⟨ab,nbl,cb,_,_,hbv,_⟩:=id nb.rdN
   subst hbv
   have HNB:=hide nb
   have HZ2:=hide (k2.heap (uh HZW) (by simp))
   have HK2:=hide ((uh HKW).trans k2 (by simp))
   have HL2:=hide (Nat.le_trans (uh HKW).size (Nat.le_refl _):w.heap.size≤W1.heap.size)
   clear nb k2
   have HZX:=hide (((Kept.refl [] w2).alloc (.cells #[.int .u64 (D.1:Int),.slice ab nbl cb] 75)).heap (uh HZ2) (by simp))
   have HKX:=hide ((uh HK2).alloc (.cells #[.int .u64 (D.1:Int),.slice ab nbl cb] 75))
   have HBX:=hide (heap_alloc_new w2 (.cells #[.int .u64 (D.1:Int),.slice ab nbl cb] 75))
   have HNX:=hide (((uh HNB).kept ((Kept.refl [] w2).alloc (.cells #[.int .u64 (D.1:Int),.slice ab nbl cb] 75)) (by simp)).weak (uh HL2))
   obtain ⟨W2,hW2⟩:∃ W,w2.alloc (.cells #[.int .u64 (D.1:Int),.slice ab nbl cb] 75) = W:=⟨_,rfl⟩
   rw [hW2] at HZX HKX HBX HNX
   have HW2:=hide hW2
   clear hW2
   obtain ⟨d0,d1⟩:=bcells (uh HZX)
   obtain ⟨f0,f1⟩:=bfroz (uh HZX)
   obtain ⟨g0,g1⟩:=bcells (uh HBX)
   rw [← uh HW2] at d0 d1 f0 f1 g0 g1
   by_cases he:D.2.2 = 0
   ·by_cases hfi:D.1 = i
    ·have he':((D.2.2:Int) != 0) = false:=by simp [he]
     have hfi':((D.1:Int) != (i:Int)) = false:=by simp [hfi]
     have HV:=hide (uh HYE (by rw [uh HOK]; simp [uh HKD,uh HPL,he,hfi]))
     have HFI:=hide hfi
     clear hfi he
     go_wp2
     rw [uh HW2]
     refine bodyPost_ret (v:=.tuple #[.agg #[.int .u64 (D.1:Int),.slice ab nbl cb],.int .i64 N.next,.bool true]) ?_ rfl ⟨.slice ab nbl cb,by rw [(uh HV).1,(uh HV).2.1,(uh HV).2.2.2,uh HFI],?_,xa0i (uh HKX) w.heap.size (Nat.le_refl _) _ _⟩
     ·exact xa0a rfl _ _ w.heap.size _ #[.int .u64 (D.1:Int),.slice ab nbl cb] (0,0) _ rfl (xa0s (uh HZX) _ _) Tryz.underlying75 rfl Tryz.size_batch9 _ _ rfl rfl
     ·rw [(uh HV).2.2.1]
      refine (uh HNB).kept (M:=[w.heap.size]) ?_ ?_ |>.weak (uh HL2)
      ·rw [← uh HW2]
       exact (((Kept.refl [w.heap.size] w2).alloc _).setCell (Or.inl (by simp)) _).setCell (Or.inl (by simp)) _
      ·have:=lt_of_block (uh HZW); simpa using this
    ·have he':((D.2.2:Int) != 0) = false:=by simp [he]
     have hfi':((D.1:Int) != (i:Int)) = true:=by rw [bne_iff_ne]; omega
     have HV:=hide (uh HNO (by rw [uh HOK]; simp [hfi]))
     clear hfi he
     go_wp2
     rw [uh HW2]
     refine bodyPost_ret (v:=.tuple #[.agg #[.int .u64 0,.slice none 0 0],.int .i64 0,.bool false]) ?_ rfl ⟨.slice none 0 0,by rw [(uh HV).1,(uh HV).2.1,(uh HV).2.2.2]; rfl,by rw [(uh HV).2.2.1]; exact (NewN.nil _ _ (xa0i (uh HKX) w.heap.size (Nat.le_refl _) _ _).size),xa0i (uh HKX) w.heap.size (Nat.le_refl _) _ _⟩
     exact xa0a rfl _ _ w.heap.size _ #[.int .u64 0,.slice none 0 0] (0,0) _ rfl (xa0s (uh HZX) _ _) Tryz.underlying75 rfl Tryz.size_batch9 _ _ rfl rfl
   ·have he':((D.2.2:Int) != 0) = true:=by rw [bne_iff_ne]; omega
    have HV:=hide (uh HNO (by rw [uh HOK]; simp [he]))
    clear he
    go_wp2
    rw [uh HW2]
    refine bodyPost_ret (v:=.tuple #[.agg #[.int .u64 0,.slice none 0 0],.int .i64 0,.bool false]) ?_ rfl ⟨.slice none 0 0,by rw [(uh HV).1,(uh HV).2.1,(uh HV).2.2.2]; rfl,by rw [(uh HV).2.2.1]; exact (NewN.nil _ _ (xa0i (uh HKX) w.heap.size (Nat.le_refl _) _ _).size),xa0i (uh HKX) w.heap.size (Nat.le_refl _) _ _⟩
    exact xa0a rfl _ _ w.heap.size _ #[.int .u64 0,.slice none 0 0] (0,0) _ rfl (xa0s (uh HZX) _ _) Tryz.underlying75 rfl Tryz.size_batch9 _ _ rfl rfl
  ·have hkd':((N.kind:Int) != 1) = false:=by simp [hkd]
   have hpl':((N.pl:Int) != (i:Int)) = true:=by rw [bne_iff_ne]; omega
   have HV:=hide (uh HNO (by rw [uh HOK]; simp [hpl]))
   clear hpl hkd
   go_wp2
   rw [uh HW1]
   refine bodyPost_ret (v:=.tuple #[.agg #[.int .u64 0,.slice none 0 0],.int .i64 0,.bool false]) ?_ rfl ⟨.slice none 0 0,by rw [(uh HV).1,(uh HV).2.1,(uh HV).2.2.2]; rfl,by rw [(uh HV).2.2.1]; exact (NewN.nil _ _ (xa0i (uh HKW) w.heap.size (Nat.le_refl _) _ _).size),xa0i (uh HKW) w.heap.size (Nat.le_refl _) _ _⟩
   exact xa0a rfl _ _ w.heap.size _ #[.int .u64 0,.slice none 0 0] (0,0) _ rfl (xa0s (uh HZW) _ _) Tryz.underlying75 rfl Tryz.size_batch9 _ _ rfl rfl
 ·have hkd':((N.kind:Int) != 1) = true:=by rw [bne_iff_ne]; omega
  have HV:=hide (uh HNO (by rw [uh HOK]; simp [hkd]))
  clear hkd
  go_wp2
  rw [uh HW1]
  refine bodyPost_ret (v:=.tuple #[.agg #[.int .u64 0,.slice none 0 0],.int .i64 0,.bool false]) ?_ rfl ⟨.slice none 0 0,by rw [(uh HV).1,(uh HV).2.1,(uh HV).2.2.2]; rfl,by rw [(uh HV).2.2.1]; exact (NewN.nil _ _ (xa0i (uh HKW) w.heap.size (Nat.le_refl _) _ _).size),xa0i (uh HKW) w.heap.size (Nat.le_refl _) _ _⟩
  exact xa0a rfl _ _ w.heap.size _ #[.int .u64 0,.slice none 0 0] (0,0) _ rfl (xa0s (uh HZW) _ _) Tryz.underlying75 rfl Tryz.size_batch9 _ _ rfl rfl
end
theorem xc1y (x:Nat):∀ k a n,n < (uv x).length→(fuv ((uv x).take n) k a).2 = 0:=by
 induction x using uv.induct with
 | case1 x h=>intro k a n hn; rw [uv_lt h] at hn ⊢; simp at hn; subst hn; simp [fuv]
 | case2 x h ih =>
  intro k a n hn
  rw [uv_ge (by omega)] at hn ⊢
  cases n with
  | zero=>simp [fuv]
  | succ n =>
   simp only [List.take_succ_cons,List.length_cons] at hn ⊢
   rw [fuv]
   split
   ·rfl
   ·rw [if_pos (by omega)]
    exact ih _ _ n (by omega)
theorem xb0u (x:Nat):∀ k a r,x * 128 ^ k < 18446744073709551616→k≤9→(0 < k→0 < x)→fuv (uv x++r) k a = (a + x * 128 ^ k,k + (uv x).length):=by
 have h9:(128:Nat) ^ 9 = 9223372036854775808:=(by decide)
 induction x using uv.induct with
 | case1 x h =>
  intro k a r hx hk h0
  rw [uv_lt h]
  simp only [List.cons_append,List.nil_append,List.length_cons,List.length_nil]
  rw [fuv,if_neg,if_neg (by omega),if_neg (by omega),Nat.mod_eq_of_lt h]
  rintro ⟨rfl,h1⟩
  rw [h9] at hx
  have:=h0 (by omega); omega
 | case2 x h ih =>
  intro k a r hx hk h0
  rw [uv_ge (by omega)]
  simp only [List.cons_append,List.length_cons]
  have hk9:k≠9:=by
   rintro rfl
   rw [h9] at hx
   omega
  have hpow:128 ^ (k + 1) = 128 ^ k * 128:=Nat.pow_succ ..
  have hsum:x % 128 * 128 ^ k + x / 128 * 128 ^ (k + 1) = x * 128 ^ k:=by
   rw [hpow,show x / 128 * (128 ^ k * 128) = (x / 128 * 128) * 128 ^ k from by rw [Nat.mul_comm (128 ^ k) 128,Nat.mul_assoc],← Nat.add_mul]
   congr 1; omega
  rw [fuv,if_neg (by omega),if_pos (by omega),ih (k + 1) _ r (by omega) (by omega) (by omega)]
  have hm:(x % 128 + 128) % 128 = x % 128:=by omega
  rw [hm]
  simp only [Prod.mk.injEq]
  omega
theorem xb8n (v:Nat):∀ n a,n≤8→a * 256 ^ n + v % 256 ^ n < 18446744073709551616→(wide v n).foldl (fun a c=>(a * 256 + c) % 18446744073709551616) a = a * 256 ^ n + v % 256 ^ n:=by
 intro n
 induction n with
 | zero=>intro a _ _; simp [wide,Nat.mod_one]
 | succ n ih =>
  intro a hn h
  have hpow:256 ^ (n + 1) = 256 ^ n * 256:=Nat.pow_succ ..
  have hv:v % 256 ^ (n + 1) = v / 256 ^ n % 256 * 256 ^ n + v % 256 ^ n:=by
   rw [hpow,Nat.mod_mul]
   rw [Nat.mul_comm (256 ^ n)]; omega
  have hpos:0 < 256 ^ n:=Nat.pow_pos (by omega)
  have e1:a * 256 ^ (n + 1) = a * 256 * 256 ^ n:=by rw [hpow,Nat.mul_comm (256 ^ n) 256,Nat.mul_assoc]
  have e2:(a * 256 + v / 256 ^ n % 256) * 256 ^ n = a * 256 * 256 ^ n + v / 256 ^ n % 256 * 256 ^ n:=Nat.add_mul ..
  have hle:a * 256 + v / 256 ^ n % 256≤(a * 256 + v / 256 ^ n % 256) * 256 ^ n:=Nat.le_mul_of_pos_right _ hpos
  simp only [wide,List.foldl_cons]
  rw [Nat.mod_eq_of_lt (by omega),ih _ (by omega) (by omega)]
  omega
theorem xa9d {P:List Nat} {i v n:Nat} {r:List Nat} (hd:P.drop i = wide v n++r) (hn:n≤8) (hv:v < 256 ^ n):rNum P i 0 n = (v,i + n,0):=by
 have h1:=congrArg List.length hd
 simp [xa0d] at h1
 have h2:(P.drop i).take n = wide v n:=by rw [hd]; simp [xa0d,List.take_append]
 have h3:256 ^ n≤256 ^ 8:=Nat.pow_le_pow_right (by omega) hn
 have h4:(256:Nat) ^ 8 = 18446744073709551616:=(by decide)
 have h5:=xb8n v n 0 hn (by rw [Nat.mod_eq_of_lt hv]; omega)
 simp only [Nat.zero_mul,Nat.zero_add,Nat.mod_eq_of_lt hv] at h5
 simp only [rNum,ne_eq,not_true_eq_false,if_false]
 rw [if_neg (by omega),h2]
 simp only [beL,h5]
theorem xa6a {P:List Nat} {i x:Nat} {r:List Nat} (hd:P.drop i = uv x++r) (hx:x < 18446744073709551616):rUvar P i 0 = (x,i + (uv x).length,0):=by
 have h:=xb0u x 0 0 r (by omega) (by omega) (by omega)
 have hp:=uv_pos x
 simp only [rUvar,hd,h,ne_eq,not_true_eq_false,if_false]
 rw [if_neg (by omega)]; simp
theorem xa3o {P:List Nat} {i:Nat} {p r:List Nat} {m:Int} (hd:P.drop i = uv p.length++p++r) (hm:(p.length:Int)≤m) (hp:p.length < 18446744073709551616):rBlob P i 0 m = (p,i + ((uv p.length).length + p.length),0):=by
 have h:=xb0u p.length 0 0 (p++r) (by omega) (by omega) (by omega)
 rw [← List.append_assoc] at h
 have hq:=uv_pos p.length
 simp only [rBlob,hd,h,ne_eq,not_true_eq_false,if_false,Nat.zero_add,Nat.pow_zero,Nat.mul_one]
 rw [if_neg (by omega),if_neg (by omega),if_neg (by omega),if_neg (by simp)]
 simp
section
open Go.RowKit
theorem xa1p {P:List Nat} {i:Nat} {a r:List Nat} (h:P.drop i = a++r):P.drop (i + a.length) = r:=by
 rw [← List.drop_drop,h,List.drop_left]
theorem wide1 (k:Nat) (h:k < 256):wide k 1 = [k]:=by simp [wide,Nat.mod_eq_of_lt h]
theorem xb2q {P:List Nat} {i:Nat} {e:En} {r:List Nat} (hd:P.drop i = enB e++r) (hc:chkE e = 0):takeE P i = (e,i + (enB e).length,0):=by
 obtain ⟨k,key,val⟩:=e
 unfold chkE at hc
 simp only at hc
 split at hc
 ·omega
 rename_i hl
 split at hc
 ·omega
 rename_i hk
 have hk':k = 1∨(k = 2∧val = []):=by
  rcases (by omega:k = 1∨(k = 2∧val.length = 0)) with h | ⟨h,h0⟩
  ·exact Or.inl h
  ·exact Or.inr ⟨h,List.eq_nil_of_length_eq_zero h0⟩
 rcases hk' with rfl | ⟨rfl,rfl⟩
 ·simp only [enB,if_true] at hd ⊢
  have n1:rNum P i 0 1 = (1,i + 1,0):=xa9d (v:=1) (n:=1) (r:=uv key.length++key++(uv val.length++val)++r) (by rw [hd]; simp [wide1]) (by decide) (by decide)
  have hd1:P.drop (i + 1) = uv key.length++key++(uv val.length++val++r):=by
   have:=xa1p (a:=[1]) (r:=uv key.length++key++(uv val.length++val)++r) (P:=P) (i:=i) (by rw [hd]; simp)
   rw [show i + 1 = i + [1].length from rfl,this]; simp
  have n2:rBlob P (i + 1) 0 64 = (key,i + 1 + ((uv key.length).length + key.length),0):=xa3o hd1 (by omega) (by omega)
  have hd2:P.drop (i + 1 + ((uv key.length).length + key.length)) = uv val.length++val++r:=by
   have:=xa1p hd1
   rw [List.length_append] at this
   exact this
  have n3:rBlob P (i + 1 + ((uv key.length).length + key.length)) 0 256 = (val,i + 1 + ((uv key.length).length + key.length) + ((uv val.length).length + val.length),0):=xa3o hd2 (by omega) (by omega)
  unfold takeE
  simp only [n1,n2,n3]
  simp only [Nat.reduceMod,true_or,if_true,List.length_cons,List.length_append,Prod.mk.injEq,true_and,and_true]
  omega
 ·simp only [enB] at hd ⊢
  rw [if_neg (by decide)] at hd ⊢
  have n1:rNum P i 0 1 = (2,i + 1,0):=xa9d (v:=2) (n:=1) (r:=uv key.length++key++r) (by rw [hd]; simp [wide1]) (by decide) (by decide)
  have hd1:P.drop (i + 1) = uv key.length++key++r:=by
   have:=xa1p (a:=[2]) (r:=uv key.length++key++r) (P:=P) (i:=i) (by rw [hd]; simp)
   rw [show i + 1 = i + [2].length from rfl,this]
  have n2:rBlob P (i + 1) 0 64 = (key,i + 1 + ((uv key.length).length + key.length),0):=xa3o hd1 (by omega) (by omega)
  unfold takeE
  simp only [n1,n2]
  simp only [Nat.reduceMod,List.length_cons,List.length_append,List.length_nil]
  simp
  omega
theorem xa6b {P:List Nat}:∀ (es:List En) (i:Nat) (r:List Nat),P.drop i = entB es++r→(∀ e∈es,chkE e = 0)→takeN P i es.length = (es,i + (entB es).length,0)
 | [],i,r,_,_=>by simp [takeN,entB]
 | e :: es,i,r,hd,hc=>by
  have hd1:P.drop i = enB e++(entB es++r):=by rw [hd]; simp [entB]
  have h1:=xb2q hd1 (hc e (by simp))
  have h2:=xa6b es _ r (xa1p hd1) (fun x hx=>hc x (by simp [hx]))
  simp only [List.length_cons,takeN,h1,h2]
  simp [entB]
  omega
theorem xa7w:∀ es:List En,(∀ e∈es,chkE e = 0)→es.foldl (fun a e=>leastE a (chkE e)) 0 = 0
 | [],_=>rfl
 | x :: xs,h=>by
  rw [List.foldl_cons,h x (by simp)]
  exact xa7w xs (fun e he=>h e (by simp [he]))
theorem xb8k {f:Nat} {es:List En}:chkB f es = 0↔cntE f es.length = 0∧∀ e∈es,chkE e = 0:=by
 refine ⟨fun h=>xa6e es _ h,fun ⟨h1,h2⟩=>?_⟩
 unfold chkB
 rw [h1]
 exact xa7w es h2
theorem xb1y {P:List Nat} {f:Nat} {es:List En} {r:List Nat} (hd:P = batB f es++r) (hc:chkB f es = 0) (hf:f < 18446744073709551616):takeB P 0 = (f,es,(batB f es).length,0):=by
 obtain ⟨c1,c2⟩:=xb8k.1 hc
 have hn:es.length≤64:=by unfold cntE at c1; split at c1 <;> omega
 have hd0:P.drop 0 = uv f++(uv es.length++(entB es++r)):=by rw [List.drop_zero,hd]; simp [batB]
 have n1:=xa6a hd0 hf
 have hd1:=xa1p hd0
 have n2:=xa6a hd1 (by omega)
 have n3:=xa6b es _ r (xa1p hd1) c2
 unfold takeB
 simp only [n1,n2,n3,c1]
 simp [batB]
 omega
theorem xa8o {f:Nat} {es:List En} (hc:chkB f es = 0) (hf:f < 18446744073709551616):decB (batB f es) = (f,es,0):=by
 have h:=xb1y (P:=batB f es) (r:=[]) (by simp) hc hf
 unfold decB
 rw [h]
 simp [doneE]
end
section
open Go.RowKit Go.BigFrame
theorem xa3b {f:Nat} {es:List En} (h:chkB f es = 0) (hf:f < 18446744073709551616):0 < (batB f es).length∧(batB f es).length≤30000:=by
 obtain ⟨h1,h2,_,h4⟩:=xa2v h
 have h5:=xb4m es h4
 have h6:=uv_len f hf
 have h7:=uv_len es.length (by omega)
 have h8:0 < (uv f).length:=uv_pos f
 unfold batB
 simp only [List.length_append]
 omega
def sbB (f:Nat) (es:List En):List Nat:=if chkB f es = 0 then frB f (batB f es) else []
set_option maxHeartbeats 2000000 in
theorem xa7m (f:Nat) (v:Value) (es:List En) (w:World) (hf:f < 18446744073709551616) (h:RdN w v es) :
  Calls Tryz.prog 61 #[.agg #[.int .u64 f,v]] w fun r w'=>∃ v',r = .returned (.tuple #[v',.int .i64 (chkB f es)])∧NewB w w' v' (sbB f es)∧Kept [] w w':=by
 have H:=hide h
 obtain ⟨a1,n1,c1,_,_,rfl,_⟩:=id h
 clear h
 obtain ⟨B,hB⟩:∃ B,sbB f es = B:=⟨_,rfl⟩
 have HBB:=hide hB.symm
 rw [hB]
 clear hB
 have HK0:=hide ((Kept.refl [] w).alloc (.cells #[.int .u64 f,.slice a1 n1 c1] 75))
 have HB0:=hide (heap_alloc_new w (.cells #[.int .u64 f,.slice a1 n1 c1] 75))
 obtain ⟨W1,hW1⟩:∃ W,w.alloc (.cells #[.int .u64 f,.slice a1 n1 c1] 75) = W:=⟨_,rfl⟩
 rw [hW1] at HK0 HB0
 have HW1:=hide hW1
 clear hW1
 obtain ⟨d0,d1⟩:=bcells (uh HB0)
 rw [← uh HW1] at d0 d1
 go_enter Tryz.func61,Tryz.ntmps61
 go_wp2_with fail
 rw [uh HW1]
 clear d0 d1
 refine Calls.mono (xa4a f _ es W1 hf ((uh H).old (uh HK0))) ?_
 rintro e w2 ⟨v2,rfl,n2,k2⟩
 obtain ⟨a2,l2,c2,rfl,_⟩:=id n2.1
 have HN2:=hide n2
 have HK2:=hide ((uh HK0).trans k2 (by simp))
 have HB2:=hide (k2.heap (uh HB0) (by simp))
 clear n2 k2
 by_cases hc:chkB f es = 0
 ·have HB:=hide (by simp [sbB,hc]:sbB f es = frB f (batB f es))
  have HL:=hide (xa3b hc hf)
  rw [if_pos hc] at HN2
  rw [hc]
  obtain ⟨d0,d1⟩:=bcells (uh HB2)
  go_wp2_with fail
  refine Calls.mono (xa6n f _ (batB f es) w2 (uh HN2).1 hf) ?_
  rintro e w3 ⟨v3,rfl,n3,k3⟩
  rw [xa7z (by have:=(uh HL).1; omega) (by have:=(uh HL).2; omega)]
  rw [xb5w (by have:=(uh HL).1; omega) (by have:=(uh HL).2; omega)] at n3
  have HN3:=hide n3
  have HK3:=hide ((uh HK2).trans k3 (by simp))
  obtain ⟨a3,l3,c3,rfl,_⟩:=id n3.1
  clear n3 k3 d0 d1
  go_wp2
  go_ret2
  exact ⟨_,by rw [hc]; rfl,by rw [uh HBB,uh HB]; exact (uh HN3).weak (uh HK2).size,uh HK3⟩
 ·have HB:=hide (by simp [sbB,hc]:sbB f es = [])
  have hc':((chkB f es:Int) != 0) = true:=by rw [bne_iff_ne]; omega
  go_wp2
  go_ret2
  exact ⟨_,rfl,by rw [uh HBB,uh HB]; exact NewB.nil _ _,uh HK2⟩
theorem xa0e {P:Program} {fn:Func} {p q:Tmp} {ty:TypeId} (h:fn.results = #[.cell p ty,.tmp q]) (tmps:Array Value) (w:World) (g:Nat) (t:TypeId) (cs:Array Value) (fr:Nat × Nat) (d:TypeDesc)
  (hp:tmps.getD p undef = .pointer (some ⟨g,0,none⟩)) (hg:w.heap[g]? = some (.cells cs t fr))
  (hu:P.underlying ty = some d) (hd:(match d with | .struct _ | .array _ _=>true | _=>false) = true) (hi:(P.info? ty).map (·.size) = some cs.size) (v:Value) (hq:tmps.getD q undef = v) :
  (results fn tmps).run P w = .ok (.tuple #[.agg cs,v]) w:=by
 have hp':tmps[p]?.getD undef = .pointer (some ⟨g,0,none⟩):=by simpa using hp
 have hq':tmps[q]?.getD undef = v:=by simpa using hq
 simp [results,h,hp',hq',asAddr,run_loadVar_row w g t ty cs fr d hg hu hd hi]
theorem NewN.stay {B:Nat} {M:List Nat} {w w':World} {v:Value} {es:List En} (h:NewN B w v es) (k:Kept M w w') (hM:∀ x∈M,x < B∨w.heap.size≤x):RdN w' v es:=by
 have k2:Kept (M.filter (· < B)) w w':=⟨k.os,k.tape,k.output,k.size,fun j hj hn=>k.block j hj (fun hm=>hn (by
  rw [List.mem_filter]
  refine ⟨hm,?_⟩
  have:=hM j hm
  simp; omega))⟩
 exact (h.kept k2 (fun x hx=>by rw [List.mem_filter] at hx; simpa using hx.2)).rdN
def cellsB (ts:List (Nat × Value × List En)):List Value:=ts.flatMap fun t=>[.int .u64 (t.1:Int),t.2.1]
theorem xb4g (ts:List (Nat × Value × List En)) (t:Nat × Value × List En):cellsB (ts++[t]) = cellsB ts++[.int .u64 (t.1:Int),t.2.1]:=by simp [cellsB]
theorem xa5z:∀ (ts:List (Nat × Value × List En)) (i:Nat) (h:i < ts.length),(cellsB ts)[2 * i]? = some (.int .u64 (ts[i].1:Int))∧(cellsB ts)[2 * i + 1]? = some ts[i].2.1
 | t :: r,0,_=>by simp [cellsB]
 | t :: r,i + 1,h=>by
  have h':i < r.length:=by simpa using h
  have:=xa5z r i h'
  have e:cellsB (t :: r) = (.int .u64 (t.1:Int)) :: t.2.1 :: cellsB r:=by simp [cellsB]
  rw [e,show 2 * (i + 1) = 2 * i + 1 + 1 by omega]
  simpa using this
theorem Tryz.infoBt:(Tryz.prog.info? 75).map (fun i=>(i.zero,i.size,i.bytes)) = some (some (.agg #[.int .u64 0,.slice none 0 0]),2,32):=by kernel_rfl
structure OwnB (w0 w:World) (v:Value) (ts:List (Nat × Value × List En)):Prop where
 own:w.ownsRow w0.heap.size 75 2 v ts.length (cellsB ts)
 rd:∀ t∈ts,∃ B C,C≤w.heap.size∧w0.heap.size≤B∧(∀ b,v.ownBlock = some b→b < B∨C≤b)∧∀ M w',Kept M w w'→(∀ x∈M,x < B∨C≤x)→RdN w' t.2.1 t.2.2
 sz:w0.heap.size≤w.heap.size
def RdB (w:World) (v:Value) (bs:List (Nat × List En)):Prop :=
 ∃ (ao:Option Addr) (cap:Nat) (ts:List (Nat × Value × List En)),v = .slice ao ts.length cap∧bs = ts.map (fun t=>(t.1,t.2.2))∧ts.length≤cap∧cap≤9223372036854775807∧(∀ t∈ts,RdN w t.2.1 t.2.2) ∧
  (0 < ts.length→∃ b off,ao = some ⟨b,off,none⟩∧∀ i (h:i < ts.length),w.cell? ⟨b,off + i * 2,none⟩ = some (.int .u64 (ts[i].1:Int))∧w.cell? ⟨b,off + i * 2 + 1,none⟩ = some ts[i].2.1)
theorem RdB.old {w w':World} {v:Value} {fs:List (Nat × List En)} (h:RdB w v fs) (k:Kept [] w w'):RdB w' v fs:=by
 obtain ⟨ao,cap,ts,h1,h2,h3,h4,h5,h6⟩:=h
 refine ⟨ao,cap,ts,h1,h2,h3,h4,fun t ht=>(h5 t ht).old k,fun hp=>?_⟩
 obtain ⟨b,off,e,hc⟩:=h6 hp
 exact ⟨b,off,e,fun i hi=>⟨k.cell (hc i hi).1 (by simp),k.cell (hc i hi).2 (by simp)⟩⟩
theorem RdB.nil (w:World):RdB w (.slice none 0 0) []:=⟨none,0,[],rfl,rfl,Nat.le_refl _,by omega,by simp,fun h=>by simp at h⟩
theorem OwnB.start (w:World):OwnB w w (.slice none 0 0) []:=⟨World.ownsRow_nil _ _ _ _,by simp,Nat.le_refl _⟩
theorem OwnB.rdB {w0 w:World} {v:Value} {ts:List (Nat × Value × List En)} (h:OwnB w0 w v ts):RdB w v (ts.map fun t=>(t.1,t.2.2)):=by
 have hr:∀ t∈ts,RdN w t.2.1 t.2.2:=fun t ht=>by obtain ⟨B,C,_,_,_,h5⟩:=h.rd t ht; exact h5 [] w (Kept.refl _ _) (by simp)
 rcases h.own.2 with ⟨rfl,h0⟩ | ⟨g,cap,cur,rfl,_,hg,hc,hm',hs,ht⟩
 ·have:ts = []:=List.eq_nil_of_length_eq_zero h0
  subst this
  exact RdB.nil _
 ·refine ⟨some ⟨g,0,none⟩,cap,ts,rfl,rfl,hc,by unfold maxLen at hm'; omega,hr,fun _=>⟨g,0,rfl,fun i hi=>?_⟩⟩
  have hx:=xa5z ts i hi
  have c1:=h.own.cells (g:=g) rfl (2 * i) _ hx.1
  have c2:=h.own.cells (g:=g) rfl (2 * i + 1) _ hx.2
  rw [Addr.add_mid] at c1 c2
  refine ⟨?_,?_⟩
  ·rw [show 0 + i * 2 = 0 + 2 * i by omega]; exact c1
  ·rw [show 0 + i * 2 + 1 = 0 + (2 * i + 1) by omega]; exact c2
theorem OwnB.pass {w0 w w':World} {M:List Nat} {v:Value} {ts:List (Nat × Value × List En)} (h:OwnB w0 w v ts) (k:Kept M w w') (hM:∀ x∈M,x < w0.heap.size):OwnB w0 w' v ts:=by
 refine ⟨k.owns h.own (fun b hb hm=>by have:=(h.own.lt b hb).1; have:=hM b hm; omega),fun t ht=>?_,Nat.le_trans h.sz k.size⟩
 obtain ⟨B,C,h1,h2,h3,h4⟩:=h.rd t ht
 refine ⟨B,C,Nat.le_trans h1 k.size,h2,h3,fun N w2 kN hN=>h4 (M++N) w2 ((k.mono (M:=M++N) (fun x hx=>by simp [hx])).trans kN (fun x hx=>Or.inl (by simp [hx]))) (fun x hx=>?_)⟩
 rcases List.mem_append.1 hx with hx | hx
 ·have:=hM x hx; omega
 ·exact hN x hx
theorem OwnB.push {w0 w W:World} {v:Value} {ts:List (Nat × Value × List En)} (h:OwnB w0 w v ts) {pl B:Nat} {y:Value} {es:List En} (hy:NewN B w y es) (hB:w0.heap.size≤B) (hBv:∀ b,v.ownBlock = some b→b < B) {g cap:Nat}
  (o:W.ownsRow w0.heap.size 75 2 (.slice (some ⟨g,0,none⟩) (ts.length + 1) cap) (ts.length + 1) (cellsB ts++[.int .u64 (pl:Int),y])) (gr:w.grownBy W v.ownBlock) (hg:v.ownBlock = some g∨g = w.heap.size) :
  OwnB w0 W (.slice (some ⟨g,0,none⟩) (ts.length + 1) cap) (ts++[(pl,y,es)]):=by
 have kW:Kept v.ownBlock.toList w W:=((Kept.refl _ w)).grown gr (by intro k hk; left; simp [hk])
 refine ⟨by rw [xb4g,List.length_append]; exact o,fun t ht=>?_,Nat.le_trans h.sz kW.size⟩
 rcases List.mem_append.1 ht with ht | ht
 ·obtain ⟨B1,C,h1,h2,h3,h4⟩:=h.rd t ht
  refine ⟨B1,C,Nat.le_trans h1 kW.size,h2,fun b hb=>?_,fun N w2 kN hN=>h4 (v.ownBlock.toList++N) w2 ((kW.mono (M:=v.ownBlock.toList++N) (fun x hx=>List.mem_append_left _ hx)).trans kN (fun x hx=>Or.inl (by simp [hx]))) (fun x hx=>?_)⟩
  ·simp only [Value.ownBlock,Option.some.injEq] at hb
   subst hb
   rcases hg with hg | hg
   ·exact h3 _ hg
   ·omega
  ·rcases List.mem_append.1 hx with hx | hx
   ·exact h3 x (by simpa using hx)
   ·exact hN x hx
 ·rw [List.mem_singleton] at ht
  subst ht
  refine ⟨B,w.heap.size,kW.size,hB,fun b hb=>?_,fun N w2 kN hN=>hy.stay (M:=v.ownBlock.toList++N) ((kW.mono (M:=v.ownBlock.toList++N) (fun x hx=>List.mem_append_left _ hx)).trans kN (fun x hx=>Or.inl (by simp [hx]))) (fun x hx=>?_)⟩
  ·simp only [Value.ownBlock,Option.some.injEq] at hb
   subst hb
   rcases hg with hg | hg
   ·exact Or.inl (hBv _ hg)
   ·omega
  ·rcases List.mem_append.1 hx with hx | hx
   ·exact Or.inl (hBv x (by simpa using hx))
   ·exact hN x hx
theorem pushB (w:World) (base:Nat) (v:Value) (ts:List (Nat × Value × List En)) (pl:Nat) (x:Value) (H:Nat) (h:w.ownsRow base 75 2 v ts.length (cellsB ts)) (hnew:w.heap[H]? = some (.cells #[.int .u64 (pl:Int),x] 75 (0,0))) (hx:x.oneCell' = true) (hl:ts.length + 1≤1000000000000) (hb:base≤w.heap.size) :
  ∃ g cap w1,(Builtin.append_ #[42,42] 42 #[v,.slice (some ⟨H,0,none⟩) 1 1]).run Tryz.prog w = .ok (.slice (some ⟨g,0,none⟩) (ts.length + 1) cap) w1 ∧
   w1.ownsRow base 75 2 (.slice (some ⟨g,0,none⟩) (ts.length + 1) cap) (ts.length + 1) (cellsB ts++[.int .u64 (pl:Int),x])∧w.grownBy w1 v.ownBlock∧(v.ownBlock = some g∨g = w.heap.size):=by
 obtain ⟨i0,hi,hz0,hz1,hz2⟩:=info_parts Tryz.infoBt
 obtain ⟨g,cap,w1,hr,hown,hgrow,hat,hlt⟩:=run_append_lies (P:=Tryz.prog) w 42 42 base 75 i0 (.agg #[.int .u64 0,.slice none 0 0]) 2 32 Tryz.underlying42 hi hz0 hz1 hz2 rfl (by decide)
  v ts.length (cellsB ts) h ⟨H,0,none⟩ 1 1 [.int .u64 (pl:Int),x] rfl (World.news_of_block hnew) (by intro u hu; simp at hu; rcases hu with rfl | rfl; rfl; exact hx) (by decide) (by unfold maxLen; omega) (by omega) hb _ rfl
 exact ⟨g,cap,w1,hr,hown,hgrow,hat⟩
theorem xa6p {ops:Array Oper} {rest:List Oper} {o:Oper} {a:Act} {Q:Exit→Act→World→Prop} (hgd:o.guard = none) (s x:Operand)
  (ho:o.op = .call { callee:=.builtin .append,args:=#[s,x],argTypes:=#[42,42] }) (hty:o.type = 42)
  (w:World) (base:Nat) (v:Value) (ts:List (Nat × Value × List En)) (pl:Nat) (y:Value) (H:Nat) (h:w.ownsRow base 75 2 v ts.length (cellsB ts)) (hnew:w.heap[H]? = some (.cells #[.int .u64 (pl:Int),y] 75 (0,0))) (hy:y.oneCell' = true) (hl:ts.length + 1≤1000000000000) (hb:base≤w.heap.size)
  (hs:a.eval s = v) (hx:a.eval x = .slice (some ⟨H,0,none⟩) 1 1)
  (hK:∀ g cap w1,Hid (w1.ownsRow base 75 2 (.slice (some ⟨g,0,none⟩) (ts.length + 1) cap) (ts.length + 1) (cellsB ts++[.int .u64 (pl:Int),y]))→Hid (w.grownBy w1 v.ownBlock)→Hid (v.ownBlock = some g∨g = w.heap.size) →
   wpList Tryz.prog ops Q rest (a.put o.dst (.slice (some ⟨g,0,none⟩) (ts.length + 1) cap)) w1) :
  wpList Tryz.prog ops Q (o :: rest) a w:=by
 obtain ⟨g,cap,w1,hrun,h2,h3,h4⟩:=pushB w base v ts pl y H h hnew hy hl hb
 refine wpList_plain hgd fun K hK'=>?_
 unfold Oper.wp execOp
 simp only [ho,hty,resolve,invoke,builtin,Sem.run_bind,Sem.run_pure,Result.andThen_ok,List.map_toArray,List.map_cons,List.map_nil,hs,hx,hrun]
 exact hK' _ _ (hK g cap w1 h2 h3 h4)
theorem scells {w:World} {b:Nat} {x0 x1 x2 x3 x4 x5:Value} {t:TypeId} (h:w.heap[b]? = some (.cells #[x0,x1,x2,x3,x4,x5] t (0,0))):w.cell? ⟨b,0,none⟩ = some x0∧w.cell? ⟨b,1,none⟩ = some x1∧w.cell? ⟨b,2,none⟩ = some x2∧w.cell? ⟨b,3,none⟩ = some x3∧w.cell? ⟨b,4,none⟩ = some x4∧w.cell? ⟨b,5,none⟩ = some x5:=by
 refine ⟨?_,?_,?_,?_,?_,?_⟩ <;> rw [cell_of_row _ _ _ _ _ _ h] <;> rfl
theorem sfroz {w:World} {b:Nat} {cs:Array Value} {t:TypeId} (h:w.heap[b]? = some (.cells cs t (0,0))):w.frozen? ⟨b,0,none⟩ = false∧w.frozen? ⟨b,1,none⟩ = false∧w.frozen? ⟨b,2,none⟩ = false∧w.frozen? ⟨b,3,none⟩ = false∧w.frozen? ⟨b,4,none⟩ = false∧w.frozen? ⟨b,5,none⟩ = false :=
 ⟨frozen_of_row _ _ _ _ _ h,frozen_of_row _ _ _ _ _ h,frozen_of_row _ _ _ _ _ h,frozen_of_row _ _ _ _ _ h,frozen_of_row _ _ _ _ _ h,frozen_of_row _ _ _ _ _ h⟩
theorem xa8l {w:World} {g:Nat} {a b c d e f:Value} {t:TypeId} (h:w.heap[g]? = some (.cells #[a,b,c,d,e,f] t (0,0))) (x y z u r s:Value):((((((w.setCell ⟨g,0,none⟩ x).setCell ⟨g,1,none⟩ y).setCell ⟨g,2,none⟩ z).setCell ⟨g,3,none⟩ u).setCell ⟨g,4,none⟩ r).setCell ⟨g,5,none⟩ s).heap[g]? = some (.cells #[x,y,z,u,r,s] t (0,0)):=by
 rw [heap_setCell_same _ g 5 _ t _ (heap_setCell_same _ g 4 _ t _ (heap_setCell_same _ g 3 _ t _ (heap_setCell_same _ g 2 _ t _ (heap_setCell_same _ g 1 _ t _ (heap_setCell_same w g 0 _ t _ h)))))]; rfl
theorem xa2w {L:List Nat} {w0 w:World} (k:Kept L w0 w) (g:Nat) (hg:g∈L∨w0.heap.size≤g) (x y z u r s:Value):Kept L w0 ((((((w.setCell ⟨g,0,none⟩ x).setCell ⟨g,1,none⟩ y).setCell ⟨g,2,none⟩ z).setCell ⟨g,3,none⟩ u).setCell ⟨g,4,none⟩ r).setCell ⟨g,5,none⟩ s):=(((((k.setCell hg x).setCell hg y).setCell hg z).setCell hg u).setCell hg r).setCell hg s
theorem Tryz.size_seg:(Tryz.prog.info? 55).map (·.size) = some 6:=by kernel_rfl
theorem xb3l {w:World} {g:Nat} {a b c d e f:Value} {t:TypeId} (h:w.heap[g]? = some (.cells #[a,b,c,d,e,f] t (0,0))) (r s:Value):((w.setCell ⟨g,4,none⟩ r).setCell ⟨g,5,none⟩ s).heap[g]? = some (.cells #[a,b,c,d,r,s] t (0,0)):=by
 rw [heap_setCell_same _ g 5 _ t _ (heap_setCell_same _ g 4 _ t _ h)]; rfl
def rdL:Nat→List Nat→Nat→Nat→List (Nat × List En) × Nat
 | 0,_,z,_=>([],z)
 | k + 1,p,z,i=>if rbOk p z i then ((i,rbE p z i) :: (rdL k p (rbN p z i).toNat ((i + (rbE p z i).length) % 18446744073709551616)).1,(rdL k p (rbN p z i).toNat ((i + (rbE p z i).length) % 18446744073709551616)).2) else ([],z)
theorem rdL_no {k z i:Nat} {p:List Nat} (h:rbOk p z i = false):rdL k p z i = ([],z):=by
 cases k with
 | zero=>rfl
 | succ k=>rw [rdL,h]; rfl
theorem xb7n {k z i:Nat} {p:List Nat} (h:rbOk p z i = true):rdL (k + 1) p z i = ((i,rbE p z i) :: (rdL k p (rbN p z i).toNat ((i + (rbE p z i).length) % 18446744073709551616)).1,(rdL k p (rbN p z i).toNat ((i + (rbE p z i).length) % 18446744073709551616)).2):=by
 rw [rdL,if_pos h]
def sgB (p:List Nat):List (Nat × List En):=if (hdF p).isSome then (rdL p.length p 48 (hdC p).c).1 else []
def sgU (p:List Nat):Nat:=if (hdF p).isSome then (rdL p.length p 48 (hdC p).c).2 else 0
def sgE (p:List Nat):Nat:=if (hdF p).isSome then 0 else 3
theorem xc0x {p:List Nat} {z i:Nat} (hb:∀ x∈p,x < 256) (h:rbOk p z i = true):∃ n:Nat,rbN p z i = (n:Int)∧z + 18 < n∧n≤p.length:=by
 have hn:rbN p z i = (nextF p z).next:=by simp [rbN,h]
 have hk:(nextF p z).kind = 1:=by unfold rbOk at h; simp at h; exact h.1
 rcases xa4k p z hb with ⟨_,hN⟩ | ⟨_,hN⟩ | ⟨m,pl,pay,hzn,hN,b1,b2,b3,b4,b5,b6,b7⟩
 ·rw [hN] at hk; simp at hk
 ·rw [hN] at hk; simp at hk
 ·rw [hN] at hn
  refine ⟨m + 18 + pay.length,hn,by omega,b5⟩

def byN (es:List En):Prop:=∀ e∈es,e.k < 256∧(∀ x∈e.key,x < 256)∧∀ x∈e.val,x < 256
theorem RdN.byN {w:World} {v:Value} {es:List En} (h:RdN w v es):byN es:=by
 obtain ⟨ao,len,cap,kv,vv,h1,h2,h3,h4,h5,h6⟩:=h
 intro e he
 obtain ⟨i,hi,rfl⟩:=List.mem_iff_getElem.1 he
 exact ⟨(h5 i hi).k,(h5 i hi).key.byte,(h5 i hi).val.byte⟩
theorem xb8t {e:En} (h9:e.k < 256∧(∀ x∈e.key,x < 256)∧∀ x∈e.val,x < 256):∀ x∈enB e,x < 256:=by
 intro x hx
 unfold enB at hx
 rw [List.mem_cons,List.mem_append,List.mem_append] at hx
 rcases hx with rfl | (hx | hx) | hx
 ·exact h9.1
 ·exact xa9f _ x hx
 ·exact h9.2.1 x hx
 ·split at hx
  ·rw [List.mem_append] at hx
   rcases hx with hx | hx
   ·exact xa9f _ x hx
   ·exact h9.2.2 x hx
  ·simp at hx
theorem xb5r {es:List En} (h:byN es):∀ x∈entB es,x < 256:=by
 induction es with
 | nil=>simp [entB]
 | cons e r ih =>
  intro x hx
  rw [entB,List.map_cons,List.flatten_cons,List.mem_append] at hx
  rcases hx with hx | hx
  ·exact xb8t (h e (by simp)) x hx
  ·exact ih (fun y hy=>h y (by simp [hy])) x hx
theorem xa8h {f:Nat} {es:List En} (h:byN es):∀ x∈batB f es,x < 256:=by
 intro x hx
 unfold batB at hx
 rw [List.mem_append,List.mem_append] at hx
 rcases hx with hx | hx | hx
 ·exact xa9f _ x hx
 ·exact xa9f _ x hx
 ·exact xb5r h x hx
theorem xa5k (a b c:Nat) (z:Int):∀ x∈headB a b c z,x < 256:=by
 intro x hx
 unfold headB at hx
 simp only [List.mem_append,List.mem_cons,List.not_mem_nil,or_false] at hx
 rcases hx with ((((h | h | h | h | h) | h) | h) | h) | h
 ·omega
 ·omega
 ·omega
 ·omega
 ·omega
 ·exact xa0p _ _ x h
 ·exact xa0p _ _ x h
 ·exact xa0p _ _ x h
 ·omega
theorem xa9t (a b c:Nat) (z:Int):(headB a b c z).take 5 = [78,84,82,89,49]∧((headB a b c z).drop 5).take 8 = wide a 8∧((headB a b c z).drop 13).take 8 = wide b 8∧((headB a b c z).drop 21).take 8 = wide c 8∧(headB a b c z).getD 29 0 = (z % 256).toNat:=by
 have ha:=xa0d a 8
 have hb:=xa0d b 8
 have hc:=xa0d c 8
 unfold headB
 generalize wide a 8 = A at *
 generalize wide b 8 = B at *
 generalize wide c 8 = C at *
 match A,ha,B,hb,C,hc with
 | [_,_,_,_,_,_,_,_],_,[_,_,_,_,_,_,_,_],_,[_,_,_,_,_,_,_,_],_=>exact ⟨rfl,rfl,rfl,rfl,rfl⟩
theorem xb3q {a b c:Nat} {z:Int} (ha:a < 18446744073709551616) (hb:b < 18446744073709551616) (hc:c < 18446744073709551616) (hz:wideB z = true) (r:List Nat):hdF (ehB a b c z++r) = some ⟨a,b,c,z.toNat⟩:=by
 have hB:ehB a b c z = frB a (headB a b c z):=by simp [ehB,hz]
 have hzz:1≤z∧z≤32:=by simpa [wideB] using hz
 obtain ⟨p1,p2,p3,p4,p5⟩:=xa9t a b c z
 have hz2:(z % 256).toNat = z.toNat:=by omega
 unfold hdF
 rw [hB,xa4j a (headB a b c z) r ha (by rw [xa1d]; decide) (by rw [xa1d]; decide) (xa5k a b c z)]
 have hpay:payH a (headB a b c z) = true:=by
  unfold payH
  rw [p1,p2,p5,xa1d,xa0o (by decide) (by omega),hz2]
  simp; omega
 simp only
 rw [if_pos hpay,p2,p3,p4,p5,hz2,xa0o (by decide) (by omega),xa0o (by decide) (by omega),xa0o (by decide) (by omega)]
theorem xb8b (A:List Nat) (pl:Nat) (pay t:List Nat) (hpl:pl < 18446744073709551616) (h1:1≤pay.length) (hl:pay.length≤65535) (hb:∀ x∈pay,x < 256):nextF (A++(frB pl pay++t)) (A.length:Nat) = ⟨pl,pay,((A.length + 18 + pay.length:Nat):Int),1⟩:=by
 have h:=xa4j pl pay t hpl h1 hl hb
 have hlen:(A++(frB pl pay++t)).length = A.length + (pay.length + 18 + t.length):=by rw [List.length_append,List.length_append,xa1k]
 unfold nextF
 rw [if_neg (by rw [hlen]; omega),if_neg (by rw [hlen]; omega),Int.toNat_natCast,List.drop_left,h]
 simp
theorem xa8g {f:Nat} {es:List En} (hc:chkB f es = 0):(sbB f es).length = (batB f es).length + 18:=by
 unfold sbB; rw [if_pos hc,xa1k]
theorem xc1i (A:List Nat) {f:Nat} {es:List En} (t:List Nat) (hc:chkB f es = 0) (hf:f < 18446744073709551616) (hb:byN es) :
  rbOk (A++(sbB f es++t)) (A.length:Nat) f = true∧rbE (A++(sbB f es++t)) (A.length:Nat) f = es∧rbN (A++(sbB f es++t)) (A.length:Nat) f = ((A.length + (sbB f es).length:Nat):Int):=by
 have hl:=xa3b hc hf
 have hn:=xb8b A f (batB f es) t hf (by omega) (by omega) (xa8h hb)
 have hs:sbB f es = frB f (batB f es):=by unfold sbB; rw [if_pos hc]
 rw [← hs] at hn
 have hok:rbOk (A++(sbB f es++t)) (A.length:Nat) f = true:=by
  unfold rbOk
  rw [hn,xa8o hc hf]
  simp
 refine ⟨hok,?_,?_⟩
 ·unfold rbE; rw [if_pos hok,hn,xa8o hc hf]
 ·unfold rbN; rw [if_pos hok,hn,xa8g hc]; simp only; omega
theorem rb_end (A:List Nat) (i:Nat):rbOk A (A.length:Nat) i = false:=by
 unfold rbOk
 have:nextF A (A.length:Nat) = ⟨0,[],(A.length:Nat),0⟩:=by unfold nextF; rw [if_pos rfl]
 rw [this]; simp
theorem xa8e {f:Nat} {es:List En} (h:chkB f es = 0):f + es.length≤18446744073709551615:=(xa2v h).2.2.1
theorem xa1z {a b c:Nat} {z:Int} (h:wideB z = true):(ehB a b c z).length = 48:=by unfold ehB; rw [if_pos h,xa1k,xa1d]

def nbU (l:List Nat):Nat:=if l = nmL (dv 0 (l.drop 4)) then dv 0 (l.drop 4) else 0
def nbE (l:List Nat):Nat:=if l = nmL (dv 0 (l.drop 4)) then 0 else 3
theorem xb2b (l:List Nat) (w:World) (hb:∀ x∈l,x < 256) (hl:l.length≤140737488355328) (hv:VarsS w) :
  Calls Tryz.prog 88 #[.string (strB l)] w fun e w'=>e = .returned (.tuple #[.int .u64 (nbU l),.int .i64 (nbE l)])∧Kept [] w w':=by
 by_cases h:l = nmL (dv 0 (l.drop 4))
 ·have h1:nbU l = dv 0 (l.drop 4):=if_pos h
  have h2:nbE l = 0:=if_pos h
  have h3:=xb2w (dv 0 (l.drop 4)) w (dv_lt _ 0 (by omega)) hv
  rw [← h] at h3
  rw [h1,h2]
  exact h3
 ·have h1:nbU l = 0:=if_neg h
  have h2:nbE l = 3:=if_neg h
  rw [h1,h2]
  refine xb5d (strB l) w (by rw [xa0n]; exact hl) (fun u hu e=>h ?_) hv
  have e2:=xb1i hb (xa4t u) e
  have e3:dv 0 (l.drop 4) = u:=by rw [e2]; exact xb7y hu
  rw [e3]
  exact e2
theorem OwnB.base {w0 w1 w:World} {v:Value} {ts:List (Nat × Value × List En)} (h:OwnB w1 w v ts) (hb:w0.heap.size≤w1.heap.size):OwnB w0 w v ts:=by
 refine ⟨xa2u h.own hb,fun t ht=>?_,Nat.le_trans hb h.sz⟩
 obtain ⟨B,C,h1,h2,h3,h4⟩:=h.rd t ht
 exact ⟨B,C,h1,Nat.le_trans hb h2,h3,h4⟩
theorem OwnB.empty {w0 w:World} (h:w0.heap.size≤w.heap.size):OwnB w0 w (.slice none 0 0) []:=⟨World.ownsRow_nil _ _ _ _,by simp,h⟩
set_option maxHeartbeats 4000000 in
theorem xb5b (v:Value) (p:List Nat) (w:World) (h:Rd w v p) (hl:p.length≤100000000000) :
  Calls Tryz.prog 15 #[v] w fun e w'=>∃ bv,e = .returned (.tuple #[.agg #[.int .u64 (hdC p).a,.int .u64 (hdC p).b,.int .u64 (hdC p).c,.int .i64 (hdC p).d,bv,.int .i64 (sgU p)],.int .i64 (sgE p)])∧(∃ ts,sgB p = ts.map (fun t=>(t.1,t.2.2))∧OwnB w w' bv ts)∧Kept [] w w':=by
 have H:=hide h
 obtain ⟨a1,n1,c1,rfl,hn1,_⟩:=id h
 subst hn1
 clear h
 have HZ0:=hide (heap_alloc_new w (.cells #[.int .u64 0,.int .u64 0,.int .u64 0,.int .i64 0,.slice none 0 0,.int .i64 0] 55))
 have HK0:=hide ((Kept.refl [] w).alloc (.cells #[.int .u64 0,.int .u64 0,.int .u64 0,.int .i64 0,.slice none 0 0,.int .i64 0] 55))
 have HLP:=hide hl
 obtain ⟨X,hX⟩:∃ X,hdC p = X:=⟨_,rfl⟩
 obtain ⟨T,hT⟩:∃ T,rdL p.length p 48 X.c = T:=⟨_,rfl⟩
 obtain ⟨U,hU⟩:∃ U,sgU p = U:=⟨_,rfl⟩
 obtain ⟨S,hS⟩:∃ S,sgB p = S:=⟨_,rfl⟩
 obtain ⟨E,hE⟩:∃ E,sgE p = E:=⟨_,rfl⟩
 rw [hX,hU,hS,hE]
 have HNO:=hide (fun (h0:(hdF p).isSome = false)=>by
  rw [← hU,← hS,← hE]
  exact ⟨by rw [← hX]; rw [Option.isSome_eq_false_iff,Option.isNone_iff_eq_none] at h0; simp [hdC,h0],by simp [sgU,h0],by simp [sgB,h0],by simp [sgE,h0]⟩:(hdF p).isSome = false→X = ⟨0,0,0,0⟩∧U = 0∧S = []∧E = 3)
 have HYE:=hide (fun (h0:(hdF p).isSome = true)=>by
  rw [← hU,← hS,← hE,← hT,← hX]
  exact ⟨by simp [sgU,h0],by simp [sgB,h0],by simp [sgE,h0]⟩:(hdF p).isSome = true→U = T.2∧S = T.1∧E = 0)
 have HT:=hide hT
 have HN48:=hide (by simp [hdN]:hdN p = if (hdF p).isSome then 48 else 0)
 clear hT hU hS hE hl
 go_enter Tryz.func15,Tryz.ntmps15
 go_wp2_with fail
 refine Calls.mono (xa7i _ p _ ((uh H).old (uh HK0) (by simp))) ?_
 rintro e w1 ⟨rfl,k1⟩
 rw [hX,uh HN48]
 clear hX
 have HZ1:=hide (k1.heap (uh HZ0) (by simp))
 have HK1:=hide ((uh HK0).trans k1 (by simp))
 clear k1
 have HHW:=hide (heap_alloc_new w1 (.cells #[.int .u64 (X.a:Int),.int .u64 (X.b:Int),.int .u64 (X.c:Int),.int .i64 (X.d:Int)] 53))
 have HKW:=hide ((uh HK1).alloc (.cells #[.int .u64 (X.a:Int),.int .u64 (X.b:Int),.int .u64 (X.c:Int),.int .i64 (X.d:Int)] 53))
 have HZW:=hide (((Kept.refl [] w1).alloc (.cells #[.int .u64 (X.a:Int),.int .u64 (X.b:Int),.int .u64 (X.c:Int),.int .i64 (X.d:Int)] 53)).heap (uh HZ1) (by simp))
 obtain ⟨W1,hW1⟩:∃ W,w1.alloc (.cells #[.int .u64 (X.a:Int),.int .u64 (X.b:Int),.int .u64 (X.c:Int),.int .i64 (X.d:Int)] 53) = W:=⟨_,rfl⟩
 rw [hW1] at HHW HKW HZW
 have HW1:=hide hW1
 clear hW1
 obtain ⟨d0,d1,d2,d3,d4,d5⟩:=scells (uh HZW)
 obtain ⟨f0,f1,f2,f3,f4,f5⟩:=sfroz (uh HZW)
 obtain ⟨g0,g1,g2,g3⟩:=hcells (uh HHW)
 rw [← uh HW1] at d0 d1 d2 d3 d4 d5 f0 f1 f2 f3 f4 f5 g0 g1 g2 g3
 by_cases hok:(hdF p).isSome = true
 ·rw [hok]
  simp only [if_true]
  rw [show ((48:Nat):Int) = 48 from rfl]
  have HV:=hide (uh HYE hok)
  clear hok HYE HNO HN48
  have HS0:=hide (heap_alloc_new W1 (.cells #[.int .u64 (X.a:Int),.int .u64 (X.b:Int),.int .u64 (X.c:Int),.int .i64 (X.d:Int),.slice none 0 0,.int .i64 48] 55))
  have HKS:=hide ((Kept.refl [] W1).alloc (.cells #[.int .u64 (X.a:Int),.int .u64 (X.b:Int),.int .u64 (X.c:Int),.int .i64 (X.d:Int),.slice none 0 0,.int .i64 48] 55))
  have HSZ:=hide (by rw [← uh HW1]; simp:W1.heap.size = w1.heap.size + 1)
  rw [uh HSZ] at HS0
  go_wp2_with fail
  rw [uh HW1]
  have HZS:=hide ((uh HKS).heap (uh HZW) (by simp))
  have HKw:=hide ((uh HKW).trans (uh HKS) (by simp))
  have HLT:=hide (by have:=lt_of_block (uh HZ1); omega:w.heap.size < w1.heap.size + 1)
  obtain ⟨W2,hW2⟩:∃ W,W1.alloc (.cells #[.int .u64 (X.a:Int),.int .u64 (X.b:Int),.int .u64 (X.c:Int),.int .i64 (X.d:Int),.slice none 0 0,.int .i64 48] 55) = W:=⟨_,rfl⟩
  have HS2:=hide (by rw [← hW2]; simp [uh HSZ]:W2.heap.size = w1.heap.size + 1 + 1)
  rw [hW2] at HS0 HKS HZS HKw ⊢
  clear hW2 d0 d1 d2 d3 d4 d5 f0 f1 f2 f3 f4 f5 g0 g1 g2 g3 HKS
  go_loopw [8] (fun t8 wr=>∃ (n f i:Nat) (bv:Value) (ts:List (Nat × Value × List En)),t8 = .int .u64 (i:Int)∧Hid (n≤p.length + 48∧p.length≤n + f∧ts.length≤n)∧Hid (T = (ts.map (fun t=>(t.1,t.2.2))++(rdL f p n i).1,(rdL f p n i).2))∧Hid (wr.heap[w1.heap.size + 1]? = some (.cells #[.int .u64 (X.a:Int),.int .u64 (X.b:Int),.int .u64 (X.c:Int),.int .i64 (X.d:Int),bv,.int .i64 (n:Int)] 55 (0,0)))∧Hid (OwnB W2 wr bv ts)∧Hid (Kept [] w wr)∧Hid (wr.heap[w.heap.size]? = some (.cells #[.int .u64 0,.int .u64 0,.int .u64 0,.int .i64 0,.slice none 0 0,.int .i64 0] 55 (0,0)))) (fun _ wr=>p.length - (intOf ((wr.cell? ⟨w1.heap.size + 1,5,none⟩).getD undef)).toNat)
  case atStart=>exact ⟨48,p.length,X.c,.slice none 0 0,[],rfl,hide ⟨by omega,by omega,by simp⟩,hide (by rw [uh HT]; simp),HS0,hide (OwnB.start _),HKw,HZS⟩
  case round =>
   obtain ⟨n,f,i,bv,ts,rfl,HN,HR,HS,HO,HK,HZ⟩:=hrel
   obtain ⟨s0,s1,s2,s3,s4,s5⟩:=scells (uh HS)
   have HC5:=hide s5
   go_wp2_with fail
   refine Calls.mono (xa5o _ p (n:Int) i wr ((uh H).old (uh HK) (by simp)) (by have:=(uh HN).1; have:=uh HLP; omega)) ?_
   rintro e w3 ⟨b3,rfl,nb,k3⟩
   obtain ⟨a3,n3,c3,_,_,hb3,hl3,_⟩:=id nb.rdN
   subst hb3
   have HL3:=hide hl3
   have HNB:=hide nb
   have HSB:=hide (k3.size)
   have HO3:=hide ((uh HO).pass k3 (by simp))
   have HS3:=hide (k3.heap (uh HS) (by simp))
   have HZ3:=hide (k3.heap (uh HZ) (by simp))
   have HK3:=hide ((uh HK).trans k3 (by simp))
   have HBB:=hide (fun b hb=>((uh HO).own.lt b hb).2:∀ b,bv.ownBlock = some b→b < wr.heap.size)
   have HWB:=hide ((uh HO).sz)
   clear k3 nb s0 s1 s2 s3 s4 s5 hl3 HS HO HK HZ
   obtain ⟨R,hRR⟩:∃ R,rbF p (n:Int) i = R:=⟨_,rfl⟩
   obtain ⟨V,hVV⟩:∃ V,rbN p (n:Int) i = V:=⟨_,rfl⟩
   rw [hRR,hVV]
   have HBW:=hide (heap_alloc_new w3 (.cells #[.int .u64 (R:Int),.slice a3 n3 c3] 75))
   have KA:=hide ((Kept.refl [] w3).alloc (.cells #[.int .u64 (R:Int),.slice a3 n3 c3] 75))
   obtain ⟨W4,hW4⟩:∃ W,w3.alloc (.cells #[.int .u64 (R:Int),.slice a3 n3 c3] 75) = W:=⟨_,rfl⟩
   rw [hW4] at HBW KA
   have HW4:=hide hW4
   clear hW4
   have HS4:=hide ((uh KA).heap (uh HS3) (by simp))
   have HZ4:=hide ((uh KA).heap (uh HZ3) (by simp))
   obtain ⟨s0,s1,s2,s3,s4,s5⟩:=scells (uh HS4)
   obtain ⟨g0,g1⟩:=bcells (uh HBW)
   obtain ⟨z0,z1,z2,z3,z4,z5⟩:=scells (uh HZ4)
   obtain ⟨f0,f1,f2,f3,f4,f5⟩:=sfroz (uh HZ4)
   rw [← uh HW4] at s0 s1 s2 s3 s4 s5 g0 g1 z0 z1 z2 z3 z4 z5 f0 f1 f2 f3 f4 f5
   by_cases hrb:rbOk p (n:Int) i = true
   ·rw [hrb]
    obtain ⟨m,hm,hm1,hm2⟩:=xc0x (uh H).byte hrb
    have HRI:=hide (by rw [← hRR]; simp [rbF,hrb]:R = i)
    obtain ⟨f',rfl⟩:∃ f',f = f' + 1:=⟨f - 1,by have:=(uh HN).2.1; omega⟩
    have HE:=hide (xb7n (k:=f') hrb)
    rw [hm,Int.toNat_natCast] at HE
    obtain rfl:V = (m:Int):=by rw [← hVV,hm]
    obtain ⟨es,hes⟩:∃ es,rbE p (n:Int) i = es:=⟨_,rfl⟩
    rw [hes] at HE HNB HL3
    have HM:=hide (⟨hm1,hm2⟩:n + 18 < m∧m≤p.length)
    clear hrb hm hm1 hm2 hVV hRR hes
    have HO4:=hide (((uh HO3).pass (uh KA) (by simp)).pass ((Kept.refl [] W4).alloc (.cells #[.int .u64 (R:Int),.slice a3 n3 c3] 75)) (by simp))
    have HX4:=hide (((Kept.refl [] W4).alloc (.cells #[.int .u64 (R:Int),.slice a3 n3 c3] 75)).heap (uh HS4) (by simp))
    have HY4:=hide (((Kept.refl [] W4).alloc (.cells #[.int .u64 (R:Int),.slice a3 n3 c3] 75)).heap (uh HZ4) (by simp))
    have HG4:=hide (((Kept.refl [] W4).alloc (.cells #[.int .u64 (R:Int),.slice a3 n3 c3] 75)).heap (uh HBW) (by simp))
    have HK4:=hide (((uh HK3).trans (uh KA) (by simp)).alloc (.cells #[.int .u64 (R:Int),.slice a3 n3 c3] 75))
    have HN4:=hide (((uh HNB).kept (uh KA) (by simp)).kept ((Kept.refl [] W4).alloc (.cells #[.int .u64 (R:Int),.slice a3 n3 c3] 75)) (by simp))
    have HH4:=hide (by rw [← uh HW4]; exact heap_alloc2_new _ _ _:(W4.alloc (.cells #[.int .u64 (R:Int),.slice a3 n3 c3] 75)).heap[w3.heap.size + 1]? = some (.cells #[.int .u64 (R:Int),.slice a3 n3 c3] 75 (0,0)))
    rw [← uh HW4] at HO4 HX4 HY4 HG4 HK4 HN4 HH4
    have HNB4:=hide (fun b hb=>by have:=uh HBB b hb; have:=uh HSB; exact Nat.ne_of_lt (by omega):∀ b,bv.ownBlock = some b→b≠w3.heap.size)
    have HNS4:=hide (fun b hb=>by have:=((uh HO3).own.lt b hb).1; have:=uh HS2; omega:∀ b,bv.ownBlock = some b→b≠w1.heap.size + 1)
    have HNZ4:=hide (fun b hb=>by have:=((uh HO3).own.lt b hb).1; have:=uh HS2; have:=uh HLT; omega:∀ b,bv.ownBlock = some b→b≠w.heap.size)
    go_upto_region 10 with (at_builtin; refine xa6p rfl (.tmp 39) (.tmp 41) rfl rfl _ W2.heap.size bv ts R (.slice a3 n3 c3) (w3.heap.size + 1) (uh HO4).own (uh HH4) rfl (by have:=uh HN; have:=uh HLP; omega) (uh HO4).sz rfl rfl ?_; intro g cap w5 HO5 HG5 HA5; (have HX5:=hide (((Kept.refl (bv.ownBlock.toList) _).grown (uh HG5) (by intro k hk; left; simp [hk])).heap (uh HX4) (by intro hm; exact uh HNS4 _ (by simpa using hm) rfl))); (obtain ⟨x0,x1,x2,x3,x4,x5⟩:=scells (uh HX5)); (obtain ⟨q0,q1,q2,q3,q4,q5⟩:=sfroz (uh HX5)))
    have HK5:=hide ((Kept.refl (bv.ownBlock.toList) _).grown (uh HG5) (by intro k hk; left; simp [hk]))
    have HB5:=hide ((uh HK5).heap (uh HG4) (by intro hm; exact uh HNB4 _ (by simpa using hm) rfl))
    have HZ5:=hide ((uh HK5).heap (uh HY4) (by intro hm; exact uh HNZ4 _ (by simpa using hm) rfl))
    have HP5:=hide ((uh HO4).push (uh HN4) (uh HWB) (uh HBB) (uh HO5) (uh HG5) (uh HA5))
    have HKW5:=hide ((uh HK4).grown (uh HG5) (fun k hk=>Or.inr (by have:=((uh HO3).own.lt k hk).1; have:=uh HS2; have:=uh HLT; omega)))
    have HSS:=hide (by have:=lt_of_block (uh HX5); have:=(uh HO3).sz; have:=uh HS2; have:=uh HWB; have:=uh HSB; omega:w1.heap.size + 1≠w3.heap.size)
    clear x0 x1 x2 x3 x4 x5 q0 q1 q2 q3 q4 q5 HO5 HG5 HA5 HO4 HX4 HY4 HG4 HK4 HN4 HH4 HNB4 HNS4 HNZ4 HK5 s0 s1 s2 s3 s4 s5 g0 g1 z0 z1 z2 z3 z4 z5 f0 f1 f2 f3 f4 f5 HW4 HBW KA HS4 HZ4
    have HX6:=hide (xb3l (uh HX5) (.slice (some ⟨g,0,none⟩) (ts.length + 1) cap) (.int .i64 (m:Int)))
    have HK6:=hide (((Kept.refl [w1.heap.size + 1] w5).setCell (p:=⟨w1.heap.size + 1,4,none⟩) (Or.inl (by simp)) (.slice (some ⟨g,0,none⟩) (ts.length + 1) cap)).setCell (p:=⟨w1.heap.size + 1,5,none⟩) (Or.inl (by simp)) (.int .i64 (m:Int)))
    have HKW6:=hide (((uh HKW5).setCell (p:=⟨w1.heap.size + 1,4,none⟩) (Or.inr (by have:=uh HLT; simp only; omega)) (.slice (some ⟨g,0,none⟩) (ts.length + 1) cap)).setCell (p:=⟨w1.heap.size + 1,5,none⟩) (Or.inr (by have:=uh HLT; simp only; omega)) (.int .i64 (m:Int)))
    generalize (w5.setCell ⟨w1.heap.size + 1,4,none⟩ (.slice (some ⟨g,0,none⟩) (ts.length + 1) cap)).setCell ⟨w1.heap.size + 1,5,none⟩ (.int .i64 (m:Int)) = W6 at HX6 HK6 HKW6 ⊢
    have HB6:=hide ((uh HK6).heap (uh HB5) (by intro hm; exact uh HSS (by simpa using (List.mem_singleton.1 hm).symm)))
    have HZ6:=hide ((uh HK6).heap (uh HZ5) (by intro hm; have:=List.mem_singleton.1 hm; have:=uh HLT; omega))
    have HP6:=hide ((uh HP5).pass (uh HK6) (by have:=uh HS2; simp; omega))
    obtain ⟨g0,g1⟩:=bcells (uh HB6)
    go_wp2_with fail
    go_roundw
    case rel =>
     refine ⟨m,f',(i + es.length) % 18446744073709551616,.slice (some ⟨g,0,none⟩) (ts.length + 1) cap,ts++[(R,.slice a3 n3 c3,es)],?_,hide ⟨by have:=(uh HM).2; omega,by have:=(uh HN).2.1; have:=(uh HM).1; omega,by have:=(uh HN).2.2; have:=(uh HM).1; rw [List.length_append]; simp; omega⟩,hide ?_,HX6,HP6,HKW6,HZ6⟩
     ·have h9:=uh HL3
      rw [h9,IntKind.wrap_u64]
      simp
     ·rw [uh HR,uh HE,uh HRI]
      simp
    case measure =>
     rw [(scells (uh HX6)).2.2.2.2.2,uh HC5]
     have:=uh HM
     simp [intOf]
     omega
   ·rw [Bool.not_eq_true] at hrb
    rw [hrb]
    have HE:=hide (rdL_no (k:=f) hrb)
    have HBS:=hide (by
     have h9:=(uh HO3).own.2
     rcases h9 with ⟨rfl,_⟩ | ⟨g,cap,cur,rfl,_⟩
     ·exact ⟨_,_,_,rfl⟩
     ·exact ⟨_,_,_,rfl⟩:∃ a n c,bv = .slice a n c)
    obtain ⟨ab,nb,cb,rfl⟩:=uh HBS
    clear hrb
    go_wp2
    rw [uh HW4]
    refine bodyPost_ret (v:=.tuple #[.agg #[.int .u64 (X.a:Int),.int .u64 (X.b:Int),.int .u64 (X.c:Int),.int .i64 (X.d:Int),.slice ab nb cb,.int .i64 (n:Int)],.int .i64 0]) ?_ rfl ⟨.slice ab nb cb,by rw [(uh HV).1,(uh HV).2.2,uh HR,uh HE]; rfl,?_,xa2w ((uh HK3).trans (uh KA) (by simp)) w.heap.size (Or.inr (Nat.le_refl _)) _ _ _ _ _ _⟩
    ·exact xa0e rfl _ _ w.heap.size _ #[.int .u64 (X.a:Int),.int .u64 (X.b:Int),.int .u64 (X.c:Int),.int .i64 (X.d:Int),.slice ab nb cb,.int .i64 (n:Int)] (0,0) _ rfl (xa8l (uh HZ4) _ _ _ _ _ _) Tryz.underlying55 rfl Tryz.size_seg _ rfl
    ·rw [(uh HV).2.1,uh HR,uh HE,List.append_nil]
     exact ⟨ts,rfl,(((uh HO3).pass (uh KA) (by simp)).pass (xa2w (L:=[w.heap.size]) (Kept.refl _ W4) w.heap.size (Or.inl (by simp)) _ _ _ _ _ _) (by have:=uh HLT; have:=uh HS2; simp; omega)).base (by have:=uh HLT; have:=uh HS2; omega)⟩
 ·rw [Bool.not_eq_true] at hok
  rw [hok]
  simp only [Bool.false_eq_true,if_false]
  have HV:=hide (uh HNO hok)
  go_wp2
  rw [uh HW1]
  refine bodyPost_ret (v:=.tuple #[.agg #[.int .u64 0,.int .u64 0,.int .u64 0,.int .i64 0,.slice none 0 0,.int .i64 0],.int .i64 3]) ?_ rfl ⟨.slice none 0 0,by rw [(uh HV).1,(uh HV).2.1,(uh HV).2.2.2]; rfl,by rw [(uh HV).2.2.1]; exact ⟨[],rfl,OwnB.empty (xa2w (uh HKW) w.heap.size (Or.inr (Nat.le_refl _)) _ _ _ _ _ _).size⟩,xa2w (uh HKW) w.heap.size (Or.inr (Nat.le_refl _)) _ _ _ _ _ _⟩
  exact xa0e rfl _ _ w.heap.size _ #[.int .u64 0,.int .u64 0,.int .u64 0,.int .i64 0,.slice none 0 0,.int .i64 0] (0,0) _ rfl (xa8l (uh HZW) _ _ _ _ _ _) Tryz.underlying55 rfl Tryz.size_seg _ rfl
def thn (r:Nat × DSt) (f:DSt→Nat × DSt):Nat × DSt:=if r.1 = 0 then f r.2 else r
def nmB (u:Nat):ByteArray:=strB (nmL u)
def stBegin (σ:DSt) (n ep fs:Nat) (wd:Int):Nat × DSt :=
 thn (thn (thn (stCreate σ (nmB n)) (fun τ=>stAppend τ (nmB n) (ehB n ep fs wd))) (fun τ=>stSync τ (nmB n))) stNames
structure LSt where
 num:Nat
 ep:Nat
 fst:Nat
 wd:Int
 byt:Nat
 bt:Nat
 lim:Int
 nx:Nat
 st:Nat
def lgRot (σ:DSt) (l:LSt):Nat × DSt × LSt :=
 if (stSync σ (nmB l.num)).1≠0 then ((stSync σ (nmB l.num)).1,(stSync σ (nmB l.num)).2,l)
 else if l.num = 18446744073709551615 then (7,(stSync σ (nmB l.num)).2,l)
 else if (stBegin (stSync σ (nmB l.num)).2 (l.num + 1) l.ep l.nx l.wd).1≠0 then ((stBegin (stSync σ (nmB l.num)).2 (l.num + 1) l.ep l.nx l.wd).1,(stBegin (stSync σ (nmB l.num)).2 (l.num + 1) l.ep l.nx l.wd).2,l)
 else (0,(stBegin (stSync σ (nmB l.num)).2 (l.num + 1) l.ep l.nx l.wd).2,{ l with num:=l.num + 1,fst:=l.nx,byt:=48,bt:=0 })
def lgLay (σ:DSt) (l:LSt) (p:List Nat):Nat × DSt × LSt :=
 ((stAppend σ (nmB l.num) p).1,(stAppend σ (nmB l.num) p).2,if (stAppend σ (nmB l.num) p).1 = 0 then { l with byt:=l.byt + p.length,bt:=l.bt + 1 } else l)
def lgFull (l:LSt):Bool:=decide (0 < l.bt) && decide (l.lim≤(l.byt:Int))
def lgWrite (σ:DSt) (l:LSt) (p:List Nat):Nat × DSt × LSt :=
 if lgFull l then (if (lgRot σ l).1≠0 then lgRot σ l else lgLay (lgRot σ l).2.1 (lgRot σ l).2.2 p) else lgLay σ l p
def lgFail (l:LSt):Nat:=if l.st = 0∨l.st = 12 then l.st else 8
def lgAppend (σ:DSt) (l:LSt) (es:List En):Nat × DSt × LSt :=
 if chkB l.nx es≠0 then (chkB l.nx es,σ,l)
 else if lgFail l≠0 then (lgFail l,σ,l)
 else ((lgWrite σ l (sbB l.nx es)).1,(lgWrite σ l (sbB l.nx es)).2.1,{ (lgWrite σ l (sbB l.nx es)).2.2 with st:=(lgWrite σ l (sbB l.nx es)).1,nx:=if (lgWrite σ l (sbB l.nx es)).1 = 0 then (l.nx + es.length) % 18446744073709551616 else l.nx })
def lgSync (σ:DSt) (l:LSt):Nat × DSt × LSt :=
 if lgFail l≠0 then (lgFail l,σ,l)
 else ((stSync σ (nmB l.num)).1,(stSync σ (nmB l.num)).2,{ l with st:=(stSync σ (nmB l.num)).1 })
structure FSt where
 last:Nat
 ep:Nat
 sz:Nat
 sg:List (List UInt8)
 bs:List (Nat × List En)
def natL (s:List UInt8):List Nat:=s.map UInt8.toNat
def strU (s:List UInt8):ByteArray:=⟨s.toArray⟩
theorem xb9q (s:List UInt8):strB (natL s) = strU s:=by
 unfold strB natL strU
 rw [List.map_map]
 congr 1
 congr 1
 conv=>rhs; rw [← List.map_id s]
 apply List.map_congr_left
 intro x _
 simp
theorem xb5a (s:List UInt8):∀ x∈natL s,x < 256:=by
 intro x hx
 simp only [natL,List.mem_map] at hx
 obtain ⟨y,_,rfl⟩:=hx
 exact y.toNat_lt
def cntB (bs:List (Nat × List En)):Nat:=(bs.map fun b=>b.2.length).sum
def goOnF (f:FSt) (p:List Nat):Bool:=decide ((hdC p).c = f.sz) && decide (f.ep≤(hdC p).b) && decide ((hdC p).b < 18446744073709551615)
def stepF (σ:DSt) (wd:Int) (f:FSt) (s:List UInt8):Option FSt :=
 if nbE (natL s)≠0 then some f
 else if nbU (natL s) = 18446744073709551615 then none
 else if sgE (stRead σ (strU s)).1≠0 then some { f with last:=nbU (natL s) }
 else if (hdC (stRead σ (strU s)).1).a = nbU (natL s)∧((hdC (stRead σ (strU s)).1).d:Int) = wd∧goOnF f (stRead σ (strU s)).1 = true then
  some ⟨nbU (natL s),(hdC (stRead σ (strU s)).1).b,(f.sz + cntB (sgB (stRead σ (strU s)).1)) % 18446744073709551616,f.sg++[s],f.bs++sgB (stRead σ (strU s)).1⟩
 else none
def findF (σ:DSt) (wd:Int):FSt→List (List UInt8)→Option FSt
 | f,[]=>some f
 | f,s :: r=>match stepF σ wd f s with
  | none=>none
  | some g=>findF σ wd g r
def stSyncs:DSt→List (List UInt8)→Nat × DSt
 | σ,[]=>(0,σ)
 | σ,s :: r=>if (stSync σ (strU s)).1≠0 then stSync σ (strU s) else stSyncs (stSync σ (strU s)).2 r
def argOk (wd lim:Int):Bool:=decide (1≤wd∧wd≤32∧1≤lim∧lim≤1048576)
def fst0:FSt:=⟨0,0,0,[],[]⟩
structure OpA where
 e:Nat
 σ:DSt
 l:Option LSt
 bs:List (Nat × List En)
def opOf (σ:DSt) (wd lim:Int) (f:FSt):OpA :=
 if (stSyncs σ f.sg).1≠0 then ⟨(stSyncs σ f.sg).1,(stSyncs σ f.sg).2,none,[]⟩
 else if (stBegin (stSyncs σ f.sg).2 (f.last + 1) (f.ep + 1) f.sz wd).1≠0 then ⟨(stBegin (stSyncs σ f.sg).2 (f.last + 1) (f.ep + 1) f.sz wd).1,(stBegin (stSyncs σ f.sg).2 (f.last + 1) (f.ep + 1) f.sz wd).2,none,[]⟩
 else ⟨0,(stBegin (stSyncs σ f.sg).2 (f.last + 1) (f.ep + 1) f.sz wd).2,some ⟨f.last + 1,f.ep + 1,f.sz,wd,48,0,lim,f.sz,0⟩,f.bs⟩
def opD (σ:DSt) (wd lim:Int):OpA :=
 if argOk wd lim = false then ⟨1,σ,none,[]⟩
 else if σ.off then ⟨12,σ,none,[]⟩
 else match findF σ wd fst0 (nmsOf σ) with
  | none=>⟨11,σ,none,[]⟩
  | some f=>opOf σ wd lim f
def VarsG (g:Nat) (w:World):Prop:=∀ L w',Kept L w w'→(∀ x∈L,g≤x)→VarsS w'
theorem VarsG.now {g:Nat} {w:World} (h:VarsG g w):VarsS w:=h [] w (Kept.refl _ _) (by simp)
theorem VarsG.on {g:Nat} {L:List Nat} {w w':World} (h:VarsG g w) (k:Kept L w w') (hL:∀ x∈L,g≤x):VarsG g w':=by
 intro M w2 k2 hM
 exact h (L++M) w2 ((k.mono (M:=L++M) (fun x hx=>by simp [hx])).trans (k2.mono (M:=L++M) (fun x hx=>by simp [hx])) (fun x hx=>Or.inl hx)) (fun x hx=>by
  rcases List.mem_append.1 hx with hx | hx
  ·exact hL x hx
  ·exact hM x hx)
theorem VarsG.old {g:Nat} {w w':World} (h:VarsG g w) (k:Kept [] w w'):VarsG g w':=h.on k (by simp)
theorem VarsG.start {w:World} (h:VarsS w):VarsG w.heap.size w:=by
 intro L w' k hL
 exact h.old ⟨k.os,k.tape,k.output,k.size,fun j hj _=>k.block j hj (fun hm=>by have:=hL j hm; omega)⟩
theorem Ev.ge {w w':World} {B B':List Nat} {g:Nat} (h:Ev w w' B B') (hB:∀ x∈B,g≤x) (hg:g≤w.heap.size):∀ x∈B',g≤x:=by
 intro x hx
 rcases h.2 x hx with h1 | h1
 ·exact hB x h1
 ·omega
end
section
open Go Go.RowKit Go.BigFrame
section
variable {P:Program} {Q:Exit→Act→World→Prop}
theorem wp_w8 {id:Nat} {o0 o1 o2 o3 o4 o5 o6 o7:Oper} {a:Act} {w:World} (hm:P.follows .mixedOrders = true) (hs:Region.noSelect #[o0,o1,o2,o3,o4,o5,o6,o7] = true)
  (f0:Region.free .any #[o0,o1,o2,o3,o4,o5,o6,o7] #[false,false,false,false,false,false,false,false] 0 = true) (r0:(Region.ready .any #[o0,o1,o2,o3,o4,o5,o6,o7] #[false,false,false,false,false,false,false,false]).contains 0 = true)
  (f1:Region.free .any #[o0,o1,o2,o3,o4,o5,o6,o7] #[true,false,false,false,false,false,false,false] 1 = true) (r1:(Region.ready .any #[o0,o1,o2,o3,o4,o5,o6,o7] #[true,false,false,false,false,false,false,false]).contains 1 = true)
  (f2:Region.free .any #[o0,o1,o2,o3,o4,o5,o6,o7] #[true,true,false,false,false,false,false,false] 2 = true) (r2:(Region.ready .any #[o0,o1,o2,o3,o4,o5,o6,o7] #[true,true,false,false,false,false,false,false]).contains 2 = true)
  (f3:Region.free .any #[o0,o1,o2,o3,o4,o5,o6,o7] #[true,true,true,false,false,false,false,false] 3 = true) (r3:(Region.ready .any #[o0,o1,o2,o3,o4,o5,o6,o7] #[true,true,true,false,false,false,false,false]).contains 3 = true)
  (f4:Region.free .any #[o0,o1,o2,o3,o4,o5,o6,o7] #[true,true,true,true,false,false,false,false] 4 = true) (r4:(Region.ready .any #[o0,o1,o2,o3,o4,o5,o6,o7] #[true,true,true,true,false,false,false,false]).contains 4 = true)
  (q_:Region.ready .any #[o0,o1,o2,o3,o4,o5,o6,o7] #[true,true,true,true,true,false,false,false] = [5])
  (q5_:Region.ready .any #[o0,o1,o2,o3,o4,o5,o6,o7] #[true,true,true,true,true,true,false,false] = [6])
  (f5_6_7:Region.free .any #[o0,o1,o2,o3,o4,o5,o6,o7] #[true,true,true,true,true,true,true,false] 7 = true) (r5_6_7:(Region.ready .any #[o0,o1,o2,o3,o4,o5,o6,o7] #[true,true,true,true,true,true,true,false]).contains 7 = true)
  (q5_6_:Region.ready .any #[o0,o1,o2,o3,o4,o5,o6,o7] #[true,true,true,true,true,true,true,true] = [])
  (g5:o5.guard = none)    (g6:o6.guard = none)
  (v0 v1 v2 v3 v4:Value) (A0 A1 A2 A3 A4:Act)
  (S:World→Prop)
  (I_:World→Prop)
  (I5_:Value→World→Prop)
  (I5_6_:Value→Value→World→Prop)
  (v7:Value→Value)
  (p0:a.put o0.dst v0 = A0) (hy0:YieldsIf P #[o0,o1,o2,o3,o4,o5,o6,o7] S o0 v0 a)
  (p1:A0.put o1.dst v1 = A1) (hy1:YieldsIf P #[o0,o1,o2,o3,o4,o5,o6,o7] S o1 v1 A0)
  (p2:A1.put o2.dst v2 = A2) (hy2:YieldsIf P #[o0,o1,o2,o3,o4,o5,o6,o7] S o2 v2 A1)
  (p3:A2.put o3.dst v3 = A3) (hy3:YieldsIf P #[o0,o1,o2,o3,o4,o5,o6,o7] S o3 v3 A2)
  (p4:A3.put o4.dst v4 = A4) (hy4:YieldsIf P #[o0,o1,o2,o3,o4,o5,o6,o7] S o4 v4 A3)
  (i0:I_ w.drew)
  (hIS:(∀ w',I_  w'→S w')∧(∀ (u5:Value) w',I5_ u5 w'→S w')∧(∀ (u5 u6:Value) w',I5_6_ u5 u6 w'→S w'))
  (s_5:∀ w',I_  w'→∀ K:Act→World→Prop,(∀ (u5:Value) w2,I5_ u5 w2→K (A4.put o5.dst u5) w2)→o5.wp P A4 w' K (NoPanic Q))
  (s5_6:∀ (u5:Value) w',I5_ u5 w'→∀ K:Act→World→Prop,(∀ (u6:Value) w2,I5_6_ u5 u6 w2→K ((A4.put o5.dst u5).put o6.dst u6) w2)→o6.wp P (A4.put o5.dst u5) w' K (NoPanic Q))
  (y5_6_7:∀ (u5 u6:Value) w',I5_6_ u5 u6 w'→YieldsIf P #[o0,o1,o2,o3,o4,o5,o6,o7] S o7 (v7 u6) ((A4.put o5.dst u5).put o6.dst u6))
  (h:∀ (u5 u6:Value) w',I5_6_ u5 u6 w'→Q .normal (((A4.put o5.dst u5).put o6.dst u6).put o7.dst (v7 u6)) w') :
  (Code.region id #[o0,o1,o2,o3,o4,o5,o6,o7] true).wp P Q a w:=by
 subst p0 p1 p2 p3 p4
 obtain ⟨z_,z5_,z5_6_⟩:=hIS
 refine wp_region_noPanic ?_
 refine wp_region_held_drew (S:=S) hm (z_ _ i0) (fun hH=>?_)
 show wpAnyH P .any #[o0,o1,o2,o3,o4,o5,o6,o7] (NoPanic Q) S 8 #[false,false,false,false,false,false,false,false] a w.drew
 refine wpAnyH_take (i:=0) (oi:=o0) rfl hs f0 r0 (fun _ _ _ h=>h) hy0 hH ?_
 refine wpAnyH_take (i:=1) (oi:=o1) rfl hs f1 r1 (fun _ _ _ h=>h) hy1 hH ?_
 refine wpAnyH_take (i:=2) (oi:=o2) rfl hs f2 r2 (fun _ _ _ h=>h) hy2 hH ?_
 refine wpAnyH_take (i:=3) (oi:=o3) rfl hs f3 r3 (fun _ _ _ h=>h) hy3 hH ?_
 refine wpAnyH_take (i:=4) (oi:=o4) rfl hs f4 r4 (fun _ _ _ h=>h) hy4 hH ?_
 generalize (((((a.put o0.dst v0).put o1.dst v1).put o2.dst v2).put o3.dst v3).put o4.dst v4) = B at *
 have wa5:∀ y,Region.wanted o5 y = true:=fun y=>by unfold Region.wanted; rw [g5]
 have wa6:∀ y,Region.wanted o6 y = true:=fun y=>by unfold Region.wanted; rw [g6]
 have t5_6_:∀ (u5 u6:Value) w',I5_6_ u5 u6 w'→wpAnyH P .any #[o0,o1,o2,o3,o4,o5,o6,o7] (NoPanic Q) S 0 #[true,true,true,true,true,true,true,true] (((B.put o5.dst u5).put o6.dst u6).put o7.dst (v7 u6)) w':=by
  intro u5 u6 w0 i0
  exact ⟨q5_6_,NoPanic.normal (h u5 u6 w0 i0)⟩
 have t5_:∀ (u5:Value) w',I5_ u5 w'→wpAnyH P .any #[o0,o1,o2,o3,o4,o5,o6,o7] (NoPanic Q) S 2 #[true,true,true,true,true,true,false,false] (B.put o5.dst u5) w':=by
  intro u5 w0 i0
  refine wpAnyH_ready (rs:=[6]) q5_ (by simp) (AllReadyH.cons (o:=o6) rfl (fun K hK=>?_) AllReadyH.nil)
  ·rw [if_pos (wa6 _)]
   refine s5_6 u5 w0 i0 K (fun u6 w1 i1=>hK.out _ _ (z5_6_ u5 u6 w1 i1) (fun _=>?_))
   clear hK
   refine wpAnyH_take (i:=7) (oi:=o7) rfl hs f5_6_7 r5_6_7 (fun _ _ _ h=>h) (y5_6_7 u5 u6 w1 i1) (z5_6_ u5 u6 w1 i1) ?_
   exact t5_6_ u5 u6 w1 i1
 have t_:∀ w',I_  w'→wpAnyH P .any #[o0,o1,o2,o3,o4,o5,o6,o7] (NoPanic Q) S 3 #[true,true,true,true,true,false,false,false] B w':=by
  intro w0 i0
  refine wpAnyH_ready (rs:=[5]) q_ (by simp) (AllReadyH.cons (o:=o5) rfl (fun K hK=>?_) AllReadyH.nil)
  ·rw [if_pos (wa5 _)]
   refine s_5  w0 i0 K (fun u5 w1 i1=>hK.out _ _ (z5_ u5 w1 i1) (fun _=>?_))
   clear hK
   exact t5_ u5 w1 i1
 exact t_ w.drew i0
theorem wp_w9 {id:Nat} {o0 o1 o2 o3 o4 o5 o6 o7 o8:Oper} {a:Act} {w:World} (hm:P.follows .mixedOrders = true) (hs:Region.noSelect #[o0,o1,o2,o3,o4,o5,o6,o7,o8] = true)
  (f0:Region.free .any #[o0,o1,o2,o3,o4,o5,o6,o7,o8] #[false,false,false,false,false,false,false,false,false] 0 = true) (r0:(Region.ready .any #[o0,o1,o2,o3,o4,o5,o6,o7,o8] #[false,false,false,false,false,false,false,false,false]).contains 0 = true)
  (f1:Region.free .any #[o0,o1,o2,o3,o4,o5,o6,o7,o8] #[true,false,false,false,false,false,false,false,false] 1 = true) (r1:(Region.ready .any #[o0,o1,o2,o3,o4,o5,o6,o7,o8] #[true,false,false,false,false,false,false,false,false]).contains 1 = true)
  (f2:Region.free .any #[o0,o1,o2,o3,o4,o5,o6,o7,o8] #[true,true,false,false,false,false,false,false,false] 2 = true) (r2:(Region.ready .any #[o0,o1,o2,o3,o4,o5,o6,o7,o8] #[true,true,false,false,false,false,false,false,false]).contains 2 = true)
  (f3:Region.free .any #[o0,o1,o2,o3,o4,o5,o6,o7,o8] #[true,true,true,false,false,false,false,false,false] 3 = true) (r3:(Region.ready .any #[o0,o1,o2,o3,o4,o5,o6,o7,o8] #[true,true,true,false,false,false,false,false,false]).contains 3 = true)
  (f4:Region.free .any #[o0,o1,o2,o3,o4,o5,o6,o7,o8] #[true,true,true,true,false,false,false,false,false] 4 = true) (r4:(Region.ready .any #[o0,o1,o2,o3,o4,o5,o6,o7,o8] #[true,true,true,true,false,false,false,false,false]).contains 4 = true)
  (f6:Region.free .any #[o0,o1,o2,o3,o4,o5,o6,o7,o8] #[true,true,true,true,true,false,false,false,false] 6 = true) (r6:(Region.ready .any #[o0,o1,o2,o3,o4,o5,o6,o7,o8] #[true,true,true,true,true,false,false,false,false]).contains 6 = true)
  (q_:Region.ready .any #[o0,o1,o2,o3,o4,o5,o6,o7,o8] #[true,true,true,true,true,false,true,false,false] = [5])
  (q5_:Region.ready .any #[o0,o1,o2,o3,o4,o5,o6,o7,o8] #[true,true,true,true,true,true,true,false,false] = [7])
  (f5_7_8:Region.free .any #[o0,o1,o2,o3,o4,o5,o6,o7,o8] #[true,true,true,true,true,true,true,true,false] 8 = true) (r5_7_8:(Region.ready .any #[o0,o1,o2,o3,o4,o5,o6,o7,o8] #[true,true,true,true,true,true,true,true,false]).contains 8 = true)
  (q5_7_:Region.ready .any #[o0,o1,o2,o3,o4,o5,o6,o7,o8] #[true,true,true,true,true,true,true,true,true] = [])
  (g5:o5.guard = none)    (g7:o7.guard = none)
  (v0 v1 v2 v3 v4 v6:Value) (A0 A1 A2 A3 A4 A5:Act)
  (S:World→Prop)
  (I_:World→Prop)
  (I5_:Value→World→Prop)
  (I5_7_:Value→Value→World→Prop)
  (v8:Value→Value)
  (p0:a.put o0.dst v0 = A0) (hy0:YieldsIf P #[o0,o1,o2,o3,o4,o5,o6,o7,o8] S o0 v0 a)
  (p1:A0.put o1.dst v1 = A1) (hy1:YieldsIf P #[o0,o1,o2,o3,o4,o5,o6,o7,o8] S o1 v1 A0)
  (p2:A1.put o2.dst v2 = A2) (hy2:YieldsIf P #[o0,o1,o2,o3,o4,o5,o6,o7,o8] S o2 v2 A1)
  (p3:A2.put o3.dst v3 = A3) (hy3:YieldsIf P #[o0,o1,o2,o3,o4,o5,o6,o7,o8] S o3 v3 A2)
  (p4:A3.put o4.dst v4 = A4) (hy4:YieldsIf P #[o0,o1,o2,o3,o4,o5,o6,o7,o8] S o4 v4 A3)
  (p6:A4.put o6.dst v6 = A5) (hy6:YieldsIf P #[o0,o1,o2,o3,o4,o5,o6,o7,o8] S o6 v6 A4)
  (i0:I_ w.drew)
  (hIS:(∀ w',I_  w'→S w')∧(∀ (u5:Value) w',I5_ u5 w'→S w')∧(∀ (u5 u7:Value) w',I5_7_ u5 u7 w'→S w'))
  (s_5:∀ w',I_  w'→∀ K:Act→World→Prop,(∀ (u5:Value) w2,I5_ u5 w2→K (A5.put o5.dst u5) w2)→o5.wp P A5 w' K (NoPanic Q))
  (s5_7:∀ (u5:Value) w',I5_ u5 w'→∀ K:Act→World→Prop,(∀ (u7:Value) w2,I5_7_ u5 u7 w2→K ((A5.put o5.dst u5).put o7.dst u7) w2)→o7.wp P (A5.put o5.dst u5) w' K (NoPanic Q))
  (y5_7_8:∀ (u5 u7:Value) w',I5_7_ u5 u7 w'→YieldsIf P #[o0,o1,o2,o3,o4,o5,o6,o7,o8] S o8 (v8 u7) ((A5.put o5.dst u5).put o7.dst u7))
  (h:∀ (u5 u7:Value) w',I5_7_ u5 u7 w'→Q .normal (((A5.put o5.dst u5).put o7.dst u7).put o8.dst (v8 u7)) w') :
  (Code.region id #[o0,o1,o2,o3,o4,o5,o6,o7,o8] true).wp P Q a w:=by
 subst p0 p1 p2 p3 p4 p6
 obtain ⟨z_,z5_,z5_7_⟩:=hIS
 refine wp_region_noPanic ?_
 refine wp_region_held_drew (S:=S) hm (z_ _ i0) (fun hH=>?_)
 show wpAnyH P .any #[o0,o1,o2,o3,o4,o5,o6,o7,o8] (NoPanic Q) S 9 #[false,false,false,false,false,false,false,false,false] a w.drew
 refine wpAnyH_take (i:=0) (oi:=o0) rfl hs f0 r0 (fun _ _ _ h=>h) hy0 hH ?_
 refine wpAnyH_take (i:=1) (oi:=o1) rfl hs f1 r1 (fun _ _ _ h=>h) hy1 hH ?_
 refine wpAnyH_take (i:=2) (oi:=o2) rfl hs f2 r2 (fun _ _ _ h=>h) hy2 hH ?_
 refine wpAnyH_take (i:=3) (oi:=o3) rfl hs f3 r3 (fun _ _ _ h=>h) hy3 hH ?_
 refine wpAnyH_take (i:=4) (oi:=o4) rfl hs f4 r4 (fun _ _ _ h=>h) hy4 hH ?_
 refine wpAnyH_take (i:=6) (oi:=o6) rfl hs f6 r6 (fun _ _ _ h=>h) hy6 hH ?_
 generalize ((((((a.put o0.dst v0).put o1.dst v1).put o2.dst v2).put o3.dst v3).put o4.dst v4).put o6.dst v6) = B at *
 have wa5:∀ y,Region.wanted o5 y = true:=fun y=>by unfold Region.wanted; rw [g5]
 have wa7:∀ y,Region.wanted o7 y = true:=fun y=>by unfold Region.wanted; rw [g7]
 have t5_7_:∀ (u5 u7:Value) w',I5_7_ u5 u7 w'→wpAnyH P .any #[o0,o1,o2,o3,o4,o5,o6,o7,o8] (NoPanic Q) S 0 #[true,true,true,true,true,true,true,true,true] (((B.put o5.dst u5).put o7.dst u7).put o8.dst (v8 u7)) w':=by
  intro u5 u7 w0 i0
  exact ⟨q5_7_,NoPanic.normal (h u5 u7 w0 i0)⟩
 have t5_:∀ (u5:Value) w',I5_ u5 w'→wpAnyH P .any #[o0,o1,o2,o3,o4,o5,o6,o7,o8] (NoPanic Q) S 2 #[true,true,true,true,true,true,true,false,false] (B.put o5.dst u5) w':=by
  intro u5 w0 i0
  refine wpAnyH_ready (rs:=[7]) q5_ (by simp) (AllReadyH.cons (o:=o7) rfl (fun K hK=>?_) AllReadyH.nil)
  ·rw [if_pos (wa7 _)]
   refine s5_7 u5 w0 i0 K (fun u7 w1 i1=>hK.out _ _ (z5_7_ u5 u7 w1 i1) (fun _=>?_))
   clear hK
   refine wpAnyH_take (i:=8) (oi:=o8) rfl hs f5_7_8 r5_7_8 (fun _ _ _ h=>h) (y5_7_8 u5 u7 w1 i1) (z5_7_ u5 u7 w1 i1) ?_
   exact t5_7_ u5 u7 w1 i1
 have t_:∀ w',I_  w'→wpAnyH P .any #[o0,o1,o2,o3,o4,o5,o6,o7,o8] (NoPanic Q) S 3 #[true,true,true,true,true,false,true,false,false] B w':=by
  intro w0 i0
  refine wpAnyH_ready (rs:=[5]) q_ (by simp) (AllReadyH.cons (o:=o5) rfl (fun K hK=>?_) AllReadyH.nil)
  ·rw [if_pos (wa5 _)]
   refine s_5  w0 i0 K (fun u5 w1 i1=>hK.out _ _ (z5_ u5 w1 i1) (fun _=>?_))
   clear hK
   exact t5_ u5 w1 i1
 exact t_ w.drew i0
theorem wp_w10 {id:Nat} {o0 o1 o2 o3 o4 o5 o6 o7 o8 o9:Oper} {a:Act} {w:World} (hm:P.follows .mixedOrders = true) (hs:Region.noSelect #[o0,o1,o2,o3,o4,o5,o6,o7,o8,o9] = true)
  (f0:Region.free .any #[o0,o1,o2,o3,o4,o5,o6,o7,o8,o9] #[false,false,false,false,false,false,false,false,false,false] 0 = true) (r0:(Region.ready .any #[o0,o1,o2,o3,o4,o5,o6,o7,o8,o9] #[false,false,false,false,false,false,false,false,false,false]).contains 0 = true)
  (f1:Region.free .any #[o0,o1,o2,o3,o4,o5,o6,o7,o8,o9] #[true,false,false,false,false,false,false,false,false,false] 1 = true) (r1:(Region.ready .any #[o0,o1,o2,o3,o4,o5,o6,o7,o8,o9] #[true,false,false,false,false,false,false,false,false,false]).contains 1 = true)
  (f2:Region.free .any #[o0,o1,o2,o3,o4,o5,o6,o7,o8,o9] #[true,true,false,false,false,false,false,false,false,false] 2 = true) (r2:(Region.ready .any #[o0,o1,o2,o3,o4,o5,o6,o7,o8,o9] #[true,true,false,false,false,false,false,false,false,false]).contains 2 = true)
  (f3:Region.free .any #[o0,o1,o2,o3,o4,o5,o6,o7,o8,o9] #[true,true,true,false,false,false,false,false,false,false] 3 = true) (r3:(Region.ready .any #[o0,o1,o2,o3,o4,o5,o6,o7,o8,o9] #[true,true,true,false,false,false,false,false,false,false]).contains 3 = true)
  (f4:Region.free .any #[o0,o1,o2,o3,o4,o5,o6,o7,o8,o9] #[true,true,true,true,false,false,false,false,false,false] 4 = true) (r4:(Region.ready .any #[o0,o1,o2,o3,o4,o5,o6,o7,o8,o9] #[true,true,true,true,false,false,false,false,false,false]).contains 4 = true)
  (f5:Region.free .any #[o0,o1,o2,o3,o4,o5,o6,o7,o8,o9] #[true,true,true,true,true,false,false,false,false,false] 5 = true) (r5:(Region.ready .any #[o0,o1,o2,o3,o4,o5,o6,o7,o8,o9] #[true,true,true,true,true,false,false,false,false,false]).contains 5 = true)
  (f6:Region.free .any #[o0,o1,o2,o3,o4,o5,o6,o7,o8,o9] #[true,true,true,true,true,true,false,false,false,false] 6 = true) (r6:(Region.ready .any #[o0,o1,o2,o3,o4,o5,o6,o7,o8,o9] #[true,true,true,true,true,true,false,false,false,false]).contains 6 = true)
  (q_:Region.ready .any #[o0,o1,o2,o3,o4,o5,o6,o7,o8,o9] #[true,true,true,true,true,true,true,false,false,false] = [7,8])
  (q7_:Region.ready .any #[o0,o1,o2,o3,o4,o5,o6,o7,o8,o9] #[true,true,true,true,true,true,true,true,false,false] = [8])
  (q8_:Region.ready .any #[o0,o1,o2,o3,o4,o5,o6,o7,o8,o9] #[true,true,true,true,true,true,true,false,true,false] = [7])
  (q7_8_:Region.ready .any #[o0,o1,o2,o3,o4,o5,o6,o7,o8,o9] #[true,true,true,true,true,true,true,true,true,false] = [9])
  (q7_8_9_:Region.ready .any #[o0,o1,o2,o3,o4,o5,o6,o7,o8,o9] #[true,true,true,true,true,true,true,true,true,true] = [])
  (g7:o7.guard = none)    (g8:o8.guard = none)    (g9:o9.guard = none)
  (ne8_7:∀ d,o8.dst = some d→o7.dst≠some d)
  (v0 v1 v2 v3 v4 v5 v6:Value) (A0 A1 A2 A3 A4 A5 A6:Act)
  (S:World→Prop)
  (I_:World→Prop)
  (I7_:Value→World→Prop)
  (I8_:Value→World→Prop)
  (I7_8_:Value→Value→World→Prop)
  (I7_8_9_:Value→Value→Value→World→Prop)
  (p0:a.put o0.dst v0 = A0) (hy0:YieldsIf P #[o0,o1,o2,o3,o4,o5,o6,o7,o8,o9] S o0 v0 a)
  (p1:A0.put o1.dst v1 = A1) (hy1:YieldsIf P #[o0,o1,o2,o3,o4,o5,o6,o7,o8,o9] S o1 v1 A0)
  (p2:A1.put o2.dst v2 = A2) (hy2:YieldsIf P #[o0,o1,o2,o3,o4,o5,o6,o7,o8,o9] S o2 v2 A1)
  (p3:A2.put o3.dst v3 = A3) (hy3:YieldsIf P #[o0,o1,o2,o3,o4,o5,o6,o7,o8,o9] S o3 v3 A2)
  (p4:A3.put o4.dst v4 = A4) (hy4:YieldsIf P #[o0,o1,o2,o3,o4,o5,o6,o7,o8,o9] S o4 v4 A3)
  (p5:A4.put o5.dst v5 = A5) (hy5:YieldsIf P #[o0,o1,o2,o3,o4,o5,o6,o7,o8,o9] S o5 v5 A4)
  (p6:A5.put o6.dst v6 = A6) (hy6:YieldsIf P #[o0,o1,o2,o3,o4,o5,o6,o7,o8,o9] S o6 v6 A5)
  (i0:I_ w.drew)
  (hIS:(∀ w',I_  w'→S w')∧(∀ (u7:Value) w',I7_ u7 w'→S w')∧(∀ (u8:Value) w',I8_ u8 w'→S w')∧(∀ (u7 u8:Value) w',I7_8_ u7 u8 w'→S w')∧(∀ (u7 u8 u9:Value) w',I7_8_9_ u7 u8 u9 w'→S w'))
  (s_7:∀ w',I_  w'→∀ K:Act→World→Prop,(∀ (u7:Value) w2,I7_ u7 w2→K (A6.put o7.dst u7) w2)→o7.wp P A6 w' K (NoPanic Q))
  (s_8:∀ w',I_  w'→∀ K:Act→World→Prop,(∀ (u8:Value) w2,I8_ u8 w2→K (A6.put o8.dst u8) w2)→o8.wp P A6 w' K (NoPanic Q))
  (s7_8:∀ (u7:Value) w',I7_ u7 w'→∀ K:Act→World→Prop,(∀ (u8:Value) w2,I7_8_ u7 u8 w2→K ((A6.put o7.dst u7).put o8.dst u8) w2)→o8.wp P (A6.put o7.dst u7) w' K (NoPanic Q))
  (s8_7:∀ (u8:Value) w',I8_ u8 w'→∀ K:Act→World→Prop,(∀ (u7:Value) w2,I7_8_ u7 u8 w2→K ((A6.put o8.dst u8).put o7.dst u7) w2)→o7.wp P (A6.put o8.dst u8) w' K (NoPanic Q))
  (s7_8_9:∀ (u7 u8:Value) w',I7_8_ u7 u8 w'→∀ K:Act→World→Prop,(∀ (u9:Value) w2,I7_8_9_ u7 u8 u9 w2→K (((A6.put o7.dst u7).put o8.dst u8).put o9.dst u9) w2)→o9.wp P ((A6.put o7.dst u7).put o8.dst u8) w' K (NoPanic Q))
  (h:∀ (u7 u8 u9:Value) w',I7_8_9_ u7 u8 u9 w'→Q .normal (((A6.put o7.dst u7).put o8.dst u8).put o9.dst u9) w') :
  (Code.region id #[o0,o1,o2,o3,o4,o5,o6,o7,o8,o9] true).wp P Q a w:=by
 subst p0 p1 p2 p3 p4 p5 p6
 obtain ⟨z_,z7_,z8_,z7_8_,z7_8_9_⟩:=hIS
 refine wp_region_noPanic ?_
 refine wp_region_held_drew (S:=S) hm (z_ _ i0) (fun hH=>?_)
 show wpAnyH P .any #[o0,o1,o2,o3,o4,o5,o6,o7,o8,o9] (NoPanic Q) S 10 #[false,false,false,false,false,false,false,false,false,false] a w.drew
 refine wpAnyH_take (i:=0) (oi:=o0) rfl hs f0 r0 (fun _ _ _ h=>h) hy0 hH ?_
 refine wpAnyH_take (i:=1) (oi:=o1) rfl hs f1 r1 (fun _ _ _ h=>h) hy1 hH ?_
 refine wpAnyH_take (i:=2) (oi:=o2) rfl hs f2 r2 (fun _ _ _ h=>h) hy2 hH ?_
 refine wpAnyH_take (i:=3) (oi:=o3) rfl hs f3 r3 (fun _ _ _ h=>h) hy3 hH ?_
 refine wpAnyH_take (i:=4) (oi:=o4) rfl hs f4 r4 (fun _ _ _ h=>h) hy4 hH ?_
 refine wpAnyH_take (i:=5) (oi:=o5) rfl hs f5 r5 (fun _ _ _ h=>h) hy5 hH ?_
 refine wpAnyH_take (i:=6) (oi:=o6) rfl hs f6 r6 (fun _ _ _ h=>h) hy6 hH ?_
 generalize (((((((a.put o0.dst v0).put o1.dst v1).put o2.dst v2).put o3.dst v3).put o4.dst v4).put o5.dst v5).put o6.dst v6) = B at *
 have wa7:∀ y,Region.wanted o7 y = true:=fun y=>by unfold Region.wanted; rw [g7]
 have wa8:∀ y,Region.wanted o8 y = true:=fun y=>by unfold Region.wanted; rw [g8]
 have wa9:∀ y,Region.wanted o9 y = true:=fun y=>by unfold Region.wanted; rw [g9]
 have t7_8_9_:∀ (u7 u8 u9:Value) w',I7_8_9_ u7 u8 u9 w'→wpAnyH P .any #[o0,o1,o2,o3,o4,o5,o6,o7,o8,o9] (NoPanic Q) S 0 #[true,true,true,true,true,true,true,true,true,true] (((B.put o7.dst u7).put o8.dst u8).put o9.dst u9) w':=by
  intro u7 u8 u9 w0 i0
  exact ⟨q7_8_9_,NoPanic.normal (h u7 u8 u9 w0 i0)⟩
 have t7_8_:∀ (u7 u8:Value) w',I7_8_ u7 u8 w'→wpAnyH P .any #[o0,o1,o2,o3,o4,o5,o6,o7,o8,o9] (NoPanic Q) S 1 #[true,true,true,true,true,true,true,true,true,false] ((B.put o7.dst u7).put o8.dst u8) w':=by
  intro u7 u8 w0 i0
  refine wpAnyH_ready (rs:=[9]) q7_8_ (by simp) (AllReadyH.cons (o:=o9) rfl (fun K hK=>?_) AllReadyH.nil)
  ·rw [if_pos (wa9 _)]
   refine s7_8_9 u7 u8 w0 i0 K (fun u9 w1 i1=>hK.out _ _ (z7_8_9_ u7 u8 u9 w1 i1) (fun _=>?_))
   clear hK
   exact t7_8_9_ u7 u8 u9 w1 i1
 have t8_:∀ (u8:Value) w',I8_ u8 w'→wpAnyH P .any #[o0,o1,o2,o3,o4,o5,o6,o7,o8,o9] (NoPanic Q) S 2 #[true,true,true,true,true,true,true,false,true,false] (B.put o8.dst u8) w':=by
  intro u8 w0 i0
  refine wpAnyH_ready (rs:=[7]) q8_ (by simp) (AllReadyH.cons (o:=o7) rfl (fun K hK=>?_) AllReadyH.nil)
  ·rw [if_pos (wa7 _)]
   refine s8_7 u8 w0 i0 K (fun u7 w1 i1=>hK.out _ _ (z7_8_ u7 u8 w1 i1) (fun _=>?_))
   clear hK
   rw [Act.put_comm _ _ _ ne8_7]
   exact t7_8_ u7 u8 w1 i1
 have t7_:∀ (u7:Value) w',I7_ u7 w'→wpAnyH P .any #[o0,o1,o2,o3,o4,o5,o6,o7,o8,o9] (NoPanic Q) S 2 #[true,true,true,true,true,true,true,true,false,false] (B.put o7.dst u7) w':=by
  intro u7 w0 i0
  refine wpAnyH_ready (rs:=[8]) q7_ (by simp) (AllReadyH.cons (o:=o8) rfl (fun K hK=>?_) AllReadyH.nil)
  ·rw [if_pos (wa8 _)]
   refine s7_8 u7 w0 i0 K (fun u8 w1 i1=>hK.out _ _ (z7_8_ u7 u8 w1 i1) (fun _=>?_))
   clear hK
   exact t7_8_ u7 u8 w1 i1
 have t_:∀ w',I_  w'→wpAnyH P .any #[o0,o1,o2,o3,o4,o5,o6,o7,o8,o9] (NoPanic Q) S 3 #[true,true,true,true,true,true,true,false,false,false] B w':=by
  intro w0 i0
  refine wpAnyH_ready (rs:=[7,8]) q_ (by simp) (AllReadyH.cons (o:=o7) rfl (fun K hK=>?_) (AllReadyH.cons (o:=o8) rfl (fun K hK=>?_) AllReadyH.nil))
  ·rw [if_pos (wa7 _)]
   refine s_7  w0 i0 K (fun u7 w1 i1=>hK.out _ _ (z7_ u7 w1 i1) (fun _=>?_))
   clear hK
   exact t7_ u7 w1 i1
  ·rw [if_pos (wa8 _)]
   refine s_8  w0 i0 K (fun u8 w1 i1=>hK.out _ _ (z8_ u8 w1 i1) (fun _=>?_))
   clear hK
   exact t8_ u8 w1 i1
 exact t_ w.drew i0
end
end
section
open Go.RowKit Go.BigFrame
theorem xa3n (u:Nat):(nmB u).size = 24:=by unfold nmB; rw [xa0n,xb2m]
theorem Ev.pre {w0 w w':World} {B B':List Nat} (k:Kept [] w0 w) (h:Ev w w' B B'):Ev w0 w' B B' :=
 ⟨(k.mono (M:=B) (by simp)).trans h.1 (fun x hx=>Or.inl hx),fun x hx=>(h.2 x hx).imp id (fun h1=>Nat.le_trans k.size h1)⟩
set_option maxHeartbeats 1000000 in
theorem xa3a (g u:Nat) (w:World) (hc:w.cell? ⟨g,1,none⟩ = some (.int .u64 (u:Int))) (hu:u < 18446744073709551616) (hv:VarsS w) :
  Calls Tryz.prog 94 #[.pointer (some ⟨g,0,none⟩)] w fun e w'=>e = .returned (.string (nmB u))∧Kept [] w w':=by
 have HV:=hide hv
 clear hv
 go_enter Tryz.func94,Tryz.ntmps94
 go_wp2_with fail
 refine Calls.mono (xa5a u w hu (uh HV)) ?_
 rintro e w1 ⟨rfl,k1⟩
 have HK:=hide k1
 clear k1
 go_wp2_with fail
 go_ret
 exact ⟨rfl,uh HK⟩
set_option maxHeartbeats 1000000 in
theorem xa3s (g u d nb ob bb:Nat) (B:List Nat) (σ:DSt) (w:World) (h0:w.cell? ⟨g,0,none⟩ = some (.pointer (some ⟨d,0,none⟩))) (h1:w.cell? ⟨g,1,none⟩ = some (.int .u64 (u:Int))) (hu:u < 18446744073709551616) (hv:VarsS w) (hD:DKf w d B nb ob bb σ) (hg:g∉B) (hn:nb≤1000000000) (hob:ob≤1000000000) :
  Calls Tryz.prog 65 #[.pointer (some ⟨g,0,none⟩)] w fun e w'=>∃ B',e = .returned (.int .i64 ((stSync σ (nmB u)).1:Nat))∧DKf w' d B' nb (ob + 1) bb (stSync σ (nmB u)).2∧Ev w w' B B':=by
 have HV:=hide hv
 have HDK:=hide hD
 have HC0:=hide (fun w' (k:Kept [] w w')=>k.cell h0 (by simp))
 have HC1:=hide (fun w' (k:Kept [] w w')=>k.cell h1 (by simp))
 clear hv hD h0 h1
 go_enter Tryz.func65,Tryz.ntmps65
 go_upto_region 1 with fail
 refine wp_w8 (by kernel_rfl) (by kernel_rfl) (by kernel_rfl) (by kernel_rfl) (by kernel_rfl) (by kernel_rfl) (by kernel_rfl) (by kernel_rfl) (by kernel_rfl) (by kernel_rfl) (by kernel_rfl) (by kernel_rfl) (by kernel_rfl) (by kernel_rfl) (by kernel_rfl) (by kernel_rfl) (by kernel_rfl) rfl rfl
  (.pointer (some ⟨g,0,none⟩)) (.pointer (some ⟨g,0,none⟩)) (.pointer (some ⟨g,0,none⟩)) (.pointer (some ⟨d,0,none⟩)) (.pointer (some ⟨g,0,none⟩)) _ _ _ _ _
  (fun w'=>w'.cell? ⟨g,0,none⟩ = some (.pointer (some ⟨d,0,none⟩)))
  (fun w'=>Kept [] w w')
  (fun u5 w'=>u5 = .string (nmB u)∧Kept [] w w')
  (fun u5 u6 w'=>w'.cell? ⟨g,0,none⟩ = some (.pointer (some ⟨d,0,none⟩))∧∃ B',u6 = .int .i64 ((stSync σ (nmB u)).1:Nat)∧DKf w' d B' nb (ob + 1) bb (stSync σ (nmB u)).2∧Ev w w' B B')
  (fun u6=>u6)
  (by simp only [Act.put,sa1,sa2,sa3]; rfl) (by exact Or.inl ⟨by rfl,fun W' hW'=>by go_simp⟩)
  (by simp only [Act.put,sa1,sa2,sa3]; rfl) (by exact Or.inl ⟨by rfl,fun W' hW'=>by go_simp⟩)
  (by simp only [Act.put,sa1,sa2,sa3]; rfl) (by exact Or.inl ⟨by rfl,fun W' hW'=>by go_simp⟩)
  (by simp only [Act.put,sa1,sa2,sa3]; rfl) (by exact Or.inl ⟨by rfl,fun W' hW'=>by go_simp⟩)
  (by simp only [Act.put,sa1,sa2,sa3]; rfl) (by exact Or.inl ⟨by rfl,fun W' hW'=>by go_simp⟩)
  (Kept.refl [] w).drew
  ⟨fun w' h=>uh HC0 w' h,fun u5 w' h=>uh HC0 w' h.2,fun u5 u6 w' h=>h.1⟩
  (by
   intro w' k K hK
   refine xa0f rfl Tryz.call94 [.pointer (some ⟨g,0,none⟩)] rfl (xa3a g u w' (uh HC1 w' k) hu ((uh HV).old k)) ?_
   rintro e w2 ⟨rfl,k2⟩
   exact ⟨_,rfl,hK _ _ ⟨rfl,k.trans k2 (by simp)⟩⟩)
  (by
   rintro u5 w' ⟨rfl,k⟩ K hK
   refine xa0f rfl Tryz.call91 [.pointer (some ⟨d,0,none⟩),.string (nmB u)] rfl (sync_F d nb ob bb B σ (nmB u) w' ((uh HDK).old k) (by rw [xa3n]; omega) hn hob) ?_
   rintro e w2 ⟨B',rfl,h9,ev⟩
   exact ⟨_,rfl,hK _ _ ⟨ev.1.cell (uh HC0 w' k) hg,B',rfl,h9,Ev.pre k ev⟩⟩)
  (by
   rintro u5 u6 w' ⟨_,B',rfl,_⟩
   exact Or.inl ⟨by rfl,fun W' hW'=>by go_simp⟩)
  ?_
 rintro u5 u6 w3 ⟨_,B',rfl,h9,ev⟩
 simp only [Act.put,sa1,sa2,sa3]
 have H9:=hide h9
 have HE:=hide ev
 clear h9 ev
 go_wp2_with fail
 go_ret
 exact ⟨B',rfl,uh H9,uh HE⟩
theorem xb2f {a b c:Nat} {z:Int} (h:wideB z = true):(ehB a b c z).length = 48:=by
 unfold ehB
 rw [if_pos h,xa1k,xa1d]
theorem thn_no {r:Nat × DSt} {f:DSt→Nat × DSt} (h:r.1≠0):thn r f = r:=by unfold thn; rw [if_neg h]
theorem xb3a {r:Nat × DSt} {f:DSt→Nat × DSt} (h:r.1 = 0):thn r f = f r.2:=by unfold thn; rw [if_pos h]
theorem xa4s {w w':World} {B B':List Nat} {g:Nat} (ev:Ev w w' B B') (h:g∉B) (hl:g < w.heap.size):g∉B':=by
 intro hm
 rcases ev.2 g hm with h1 | h1
 ·exact h h1
 ·omega
def curC (d n ep fs:Nat) (wd:Int) (b t:Int):Array Value:=#[.pointer (some ⟨d,0,none⟩),.int .u64 (n:Int),.int .u64 (ep:Int),.int .u64 (fs:Int),.int .i64 wd,.int .i64 b,.int .i64 t]
theorem xa1g {w:World} {g d n ep fs:Nat} {wd b t:Int} {ty:TypeId} (h:w.heap[g]? = some (.cells (curC d n ep fs wd b t) ty (0,0))) :
  w.cell? ⟨g,0,none⟩ = some (.pointer (some ⟨d,0,none⟩))∧w.cell? ⟨g,1,none⟩ = some (.int .u64 (n:Int))∧w.cell? ⟨g,2,none⟩ = some (.int .u64 (ep:Int))∧w.cell? ⟨g,3,none⟩ = some (.int .u64 (fs:Int))∧w.cell? ⟨g,4,none⟩ = some (.int .i64 wd)∧w.cell? ⟨g,5,none⟩ = some (.int .i64 b)∧w.cell? ⟨g,6,none⟩ = some (.int .i64 t):=by
 refine ⟨?_,?_,?_,?_,?_,?_,?_⟩ <;> rw [cell_of_row _ _ _ _ _ _ h] <;> rfl
def BegR (w w':World) (g d n ep fs:Nat) (wd:Int) (B:List Nat) (nb ob bb:Nat) (r:Nat × DSt) (B':List Nat):Prop :=
 DKf w' d B' (nb + 1) (ob + 4) (bb + 48) r.2∧Kept (g :: B) w w'∧(∀ x∈B',x∈B∨w.heap.size≤x)∧w'.heap[g]? = some (.cells (curC d n ep fs wd 48 0) 130 (0,0))
theorem BegR.mk {w w3:World} {g d n ep fs:Nat} {wd:Int} {B B3:List Nat} {nb ob bb nb3 ob3 bb3:Nat} {r:Nat × DSt} (hD:DKf w3 d B3 nb3 ob3 bb3 r.2) (h1:nb3≤nb + 1) (h2:ob3≤ob + 4) (h3:bb3≤bb + 48) (ev:Ev w w3 B B3) (hg:w.heap[g]? = some (.cells (curC d n ep fs wd 0 0) 130 (0,0))) (hgB:g∉B) :
  BegR w (w3.setCell ⟨g,5,none⟩ (.int .i64 48)) g d n ep fs wd B nb ob bb r B3:=by
 have hlt:=lt_of_block hg
 have hg3:g∉B3:=xa4s ev hgB hlt
 have k9:Kept [g] w3 (w3.setCell ⟨g,5,none⟩ (.int .i64 48)):=(Kept.refl [g] w3).setCell (p:=⟨g,5,none⟩) (.inl (by simp)) _
 refine ⟨(hD.more h1 h2 h3).kept k9 (fun x hx hm=>?_),(ev.1.mono (M:=g :: B) (fun x hx=>by simp [hx])).setCell (p:=⟨g,5,none⟩) (.inl (by simp)) _,ev.2,?_⟩
 ·simp only [List.mem_singleton] at hm
  subst hm
  exact hg3 hx
 ·rw [heap_setCell_same _ g 5 _ _ _ (ev.1.heap hg hgB)]
  rfl
set_option maxHeartbeats 4000000 in
theorem xa5n (g n ep fs d nb ob bb g0:Nat) (wd:Int) (B:List Nat) (σ:DSt) (w:World) (hg:w.heap[g]? = some (.cells (curC d n ep fs wd 0 0) 130 (0,0))) (hwd:wideB wd = true) (hn:n < 18446744073709551616) (hv:VarsG g0 w) (hB:∀ x∈B,g0≤x) (hg0:g0≤w.heap.size) (hD:DKf w d B nb ob bb σ) (hgB:g∉B) (h1:nb≤900000000) (h2:ob≤900000000) (h3:bb≤140737488340000) :
  Calls Tryz.prog 51 #[.pointer (some ⟨g,0,none⟩)] w fun e w'=>∃ B',e = .returned (.int .i64 ((stBegin σ n ep fs wd).1:Nat))∧BegR w w' g d n ep fs wd B nb ob bb (stBegin σ n ep fs wd) B':=by
 have HG:=hide hg
 have HVG:=hide hv
 have HDK:=hide hD
 have HNU:=hide hn
 have HGB:=hide hgB
 have HLT:=hide (lt_of_block hg)
 have HB:=hide hB
 have HEH:=hide (xa4m n ep fs wd w hn (by simp [wideB] at hwd; omega))
 have HPL:=hide (xb2f (a:=n) (b:=ep) (c:=fs) hwd)
 have hE:ehE wd = 0:=by simp [ehE,hwd]
 rw [hE] at HEH
 have hst0:stBegin σ n ep fs wd = thn (thn (thn (stCreate σ (nmB n)) (fun τ=>stAppend τ (nmB n) (ehB n ep fs wd))) (fun τ=>stSync τ (nmB n))) stNames:=rfl
 obtain ⟨ST,hST⟩:∃ ST,stBegin σ n ep fs wd = ST:=⟨_,rfl⟩
 rw [hST] at hst0 ⊢
 have HST:=hide hst0
 generalize hPS:ehB n ep fs wd = ps at HEH HPL HST
 clear hPS hST hst0
 obtain ⟨c0,c1,c2,c3,c4,c5,c6⟩:=xa1g hg
 clear hg hv hD hn hgB hB hE hwd
 go_enter Tryz.func51,Tryz.ntmps51
 go_wp2_with fail
 refine Calls.mono (uh HEH) ?_
 rintro e w1 ⟨pv,rfl,nw,k1⟩
 obtain ⟨pg,hpv,hpg,hpc⟩:∃ pg,pv = .slice (some ⟨pg,0,none⟩) 48 48∧w.heap.size≤pg∧w1.heap[pg]? = some (.cells (ps.map u8).toArray 5 (0,0)):=by
  rcases nw.2 with ⟨h9,_⟩ | ⟨pg,h9,h8,h7⟩
  ·have:=uh HPL; rw [h9] at this; cases this
  ·rw [uh HPL] at h9; exact ⟨pg,h9,h8,h7⟩
 subst hpv
 have HPR:=hide nw.1
 have HPG:=hide hpg
 have HPL1:=hide (lt_of_block hpc)
 have HK1:=hide k1
 have HG1:=hide (k1.heap (uh HG) (by simp))
 have HV1:=hide ((uh HVG).old k1)
 have HD1:=hide ((uh HDK).old k1)
 have HC0:=hide (fun w' (k:Kept [] w1 w')=>k.cell (k1.cell c0 (by simp)) (by simp))
 have HC1:=hide (fun w' (k:Kept [] w1 w')=>k.cell (k1.cell c1 (by simp)) (by simp))
 have HV:=hide ((uh HVG).old k1).now
 clear c0 c1 c2 c3 c4 c5 c6 nw k1 hpg hpc HEH
 go_upto_region 2 with fail
 refine wp_w8 (by kernel_rfl) (by kernel_rfl) (by kernel_rfl) (by kernel_rfl) (by kernel_rfl) (by kernel_rfl) (by kernel_rfl) (by kernel_rfl) (by kernel_rfl) (by kernel_rfl) (by kernel_rfl) (by kernel_rfl) (by kernel_rfl) (by kernel_rfl) (by kernel_rfl) (by kernel_rfl) (by kernel_rfl) rfl rfl
  (.pointer (some ⟨g,0,none⟩)) (.pointer (some ⟨g,0,none⟩)) (.pointer (some ⟨g,0,none⟩)) (.pointer (some ⟨d,0,none⟩)) (.pointer (some ⟨g,0,none⟩)) _ _ _ _ _
  (fun w'=>w'.cell? ⟨g,0,none⟩ = some (.pointer (some ⟨d,0,none⟩)))
  (fun w'=>Kept [] w1 w')
  (fun u5 w'=>u5 = .string (nmB (n))∧Kept [] w1 w')
  (fun u5 u6 w'=>w'.cell? ⟨g,0,none⟩ = some (.pointer (some ⟨d,0,none⟩))∧∃ B',u6 = .int .i64 ((stCreate σ (nmB n)).1:Nat)∧DKf w' d B' (nb + 1) (ob + 1) bb (stCreate σ (nmB n)).2∧Ev w1 w' B B')
  (fun x=>x)
  (by simp only [Act.put,sa1,sa2,sa3]; rfl) (by exact Or.inl ⟨by rfl,fun W' hW'=>by go_simp⟩)
  (by simp only [Act.put,sa1,sa2,sa3]; rfl) (by exact Or.inl ⟨by rfl,fun W' hW'=>by go_simp⟩)
  (by simp only [Act.put,sa1,sa2,sa3]; rfl) (by exact Or.inl ⟨by rfl,fun W' hW'=>by go_simp⟩)
  (by simp only [Act.put,sa1,sa2,sa3]; rfl) (by exact Or.inl ⟨by rfl,fun W' hW'=>by go_simp⟩)
  (by simp only [Act.put,sa1,sa2,sa3]; rfl) (by exact Or.inl ⟨by rfl,fun W' hW'=>by go_simp⟩)
  (Kept.refl [] w1).drew
  ⟨fun w' h=>uh HC0 w' h,fun u5 w' h=>uh HC0 w' h.2,fun u5 u6 w' h=>h.1⟩
  (by
   intro w' k K hK
   refine xa0f rfl Tryz.call94 [.pointer (some ⟨g,0,none⟩)] rfl (xa3a g (n) w' (uh HC1 w' k) (uh HNU) ((uh HV).old k)) ?_
   rintro e w2 ⟨rfl,k2⟩
   exact ⟨_,rfl,hK _ _ ⟨rfl,k.trans k2 (by simp)⟩⟩)
  (by
   rintro u5 w' ⟨rfl,k⟩ K hK
   refine xa0f rfl Tryz.call93 [.pointer (some ⟨d,0,none⟩),.string (nmB (n))] rfl (xb8w d nb ob bb B σ (nmB n) w' ((uh HD1).old k) (by rw [xa3n]; omega) (by omega) (by omega)) ?_
   rintro e w2 ⟨B',rfl,h9,ev⟩
   exact ⟨_,rfl,hK _ _ ⟨ev.1.cell (uh HC0 w' k) (uh HGB),B',rfl,h9,Ev.pre k ev⟩⟩)
  (by
   rintro u5 u6 w' ⟨_,B',rfl,_⟩
   exact Or.inl ⟨by rfl,fun W' hW'=>by go_simp⟩)
  ?_
 rintro u5 u6 w3 ⟨_,B3,rfl,h9,ev⟩
 simp only [Act.put,sa1,sa2,sa3]
 have HE3:=hide (Ev.pre (uh HK1) ev)
 have HD3:=hide h9
 have HK3:=hide ev.1
 have HN3:=hide ev.2
 clear h9 ev HC0 HC1 HV
 have HG3:=hide ((uh HK3).heap (uh HG1) (uh HGB))
 obtain ⟨R1,hR1⟩:∃ R1,stCreate σ (nmB n) = R1:=⟨_,rfl⟩
 rw [hR1] at HD3 HST ⊢
 obtain ⟨E1,τ1⟩:=R1
 dsimp only at *
 obtain ⟨c0,c1,c2,c3,c4,c5,c6⟩:=xa1g (uh HG3)
 have hfz:=frozen_of_row _ _ 5 _ _ (uh HG3)
 by_cases he1:E1 = 0
 ·subst he1
  have HV:=hide ((uh HV1).on (uh HK3) (uh HB)).now
  have HGB3:=hide (xa4s (uh HE3) (uh HGB) (uh HLT))
  have HC0:=hide (fun w' (k:Kept [] w3 w')=>k.cell c0 (by simp))
  have HC1:=hide (fun w' (k:Kept [] w3 w')=>k.cell c1 (by simp))
  have HPR3:=hide ((uh HPR).kept (uh HK3) (fun x hx hm=>by simp only [blk,List.mem_singleton] at hx; subst hx; have:=(uh HDK).lt _ hm; have:=uh HPG; omega))
  have HPB:=hide (fun x hx hm=>by
   have hx2:=(xa4n hx).1
   simp only [blk,List.mem_singleton] at hx2
   subst hx2
   rcases uh HN3 _ hm with h7 | h7
   ·have:=(uh HDK).lt _ h7; have:=uh HPG; omega
   ·have:=uh HPL1; omega:∀ x∈zblk (.slice (some ⟨pg,0,none⟩) 48 48) ps,x∉B3)
  clear c0 c1 c2 c3 c4 c5 c6 hfz
  go_upto_region 4 with fail
  refine wp_w9 (by kernel_rfl) (by kernel_rfl) (by kernel_rfl) (by kernel_rfl) (by kernel_rfl) (by kernel_rfl) (by kernel_rfl) (by kernel_rfl) (by kernel_rfl) (by kernel_rfl) (by kernel_rfl) (by kernel_rfl) (by kernel_rfl) (by kernel_rfl) (by kernel_rfl) (by kernel_rfl) (by kernel_rfl) (by kernel_rfl) (by kernel_rfl) rfl rfl
   (.pointer (some ⟨g,0,none⟩)) (.pointer (some ⟨g,0,none⟩)) (.pointer (some ⟨g,0,none⟩)) (.pointer (some ⟨d,0,none⟩)) (.pointer (some ⟨g,0,none⟩)) (.slice (some ⟨pg,0,none⟩) 48 48) _ _ _ _ _ _
   (fun w'=>w'.cell? ⟨g,0,none⟩ = some (.pointer (some ⟨d,0,none⟩)))
   (fun w'=>Kept [] w3 w')
   (fun u5 w'=>u5 = .string (nmB (n))∧Kept [] w3 w')
   (fun u5 u7 w'=>w'.cell? ⟨g,0,none⟩ = some (.pointer (some ⟨d,0,none⟩))∧∃ B',u7 = .int .i64 ((stAppend τ1 (nmB n) ps).1:Nat)∧DKf w' d B' (nb + 1) (ob + 1 + 1) (bb + ps.length) (stAppend τ1 (nmB n) ps).2∧Ev w3 w' B3 B')
   (fun x=>x)
   (by simp only [Act.put,sa1,sa2,sa3]; rfl) (by exact Or.inl ⟨by rfl,fun W' hW'=>by go_simp⟩)
   (by simp only [Act.put,sa1,sa2,sa3]; rfl) (by exact Or.inl ⟨by rfl,fun W' hW'=>by go_simp⟩)
   (by simp only [Act.put,sa1,sa2,sa3]; rfl) (by exact Or.inl ⟨by rfl,fun W' hW'=>by go_simp⟩)
   (by simp only [Act.put,sa1,sa2,sa3]; rfl) (by exact Or.inl ⟨by rfl,fun W' hW'=>by go_simp⟩)
   (by simp only [Act.put,sa1,sa2,sa3]; rfl) (by exact Or.inl ⟨by rfl,fun W' hW'=>by go_simp⟩)
   (by simp only [Act.put,sa1,sa2,sa3]; rfl) (by exact Or.inl ⟨by rfl,fun W' hW'=>by go_simp⟩)
   (Kept.refl [] w3).drew
   ⟨fun w' h=>uh HC0 w' h,fun u5 w' h=>uh HC0 w' h.2,fun u5 u7 w' h=>h.1⟩
   (by
    intro w' k K hK
    refine xa0f rfl Tryz.call94 [.pointer (some ⟨g,0,none⟩)] rfl (xa3a g (n) w' (uh HC1 w' k) (uh HNU) ((uh HV).old k)) ?_
    rintro e w2 ⟨rfl,k2⟩
    exact ⟨_,rfl,hK _ _ ⟨rfl,k.trans k2 (by simp)⟩⟩)
   (by
    rintro u5 w' ⟨rfl,k⟩ K hK
    refine xa0f rfl Tryz.call25 [.pointer (some ⟨d,0,none⟩),.string (nmB (n)),.slice (some ⟨pg,0,none⟩) 48 48] rfl (xa7f d (nb + 1) (ob + 1) bb B3 τ1 (nmB n) (.slice (some ⟨pg,0,none⟩) 48 48) ps w' ((uh HD3).old k) (by rw [xa3n]; omega) (by omega) (by omega) ((uh HPR3).old k (by simp)) (uh HPB) (by have:=uh HPL; omega)) ?_
    rintro e w2 ⟨B',rfl,h9,ev⟩
    exact ⟨_,rfl,hK _ _ ⟨ev.1.cell (uh HC0 w' k) (uh HGB3),B',rfl,h9,Ev.pre k ev⟩⟩)
   (by
    rintro u5 u7 w' ⟨_,B',rfl,_⟩
    exact Or.inl ⟨by rfl,fun W' hW'=>by go_simp⟩)
   ?_
  rintro u5 u7 w4 ⟨_,B4,rfl,h9,ev⟩
  simp only [Act.put,sa1,sa2,sa3]
  have HE4:=hide ((uh HE3).trans ev)
  have HD4:=hide h9
  clear h9 ev HC0 HC1 HV HPR3 HPB
  have HG4:=hide ((uh HE4).1.heap (uh HG) (uh HGB))
  rw [uh HPL] at HD4
  have HST2:=hide (show ST = thn (thn (stAppend τ1 (nmB n) ps) (fun τ=>stSync τ (nmB n))) stNames from (uh HST))
  clear HST
  obtain ⟨R2,hR2⟩:∃ R2,stAppend τ1 (nmB n) ps = R2:=⟨_,rfl⟩
  rw [hR2] at HD4 HST2 ⊢
  obtain ⟨E2,τ2⟩:=R2
  dsimp only at *
  obtain ⟨c0,c1,c2,c3,c4,c5,c6⟩:=xa1g (uh HG4)
  have hfz:=frozen_of_row _ _ 5 _ _ (uh HG4)
  by_cases he2:E2 = 0
  ·subst he2
   have HST3:=hide (show ST = thn (stSync τ2 (nmB n)) stNames from (uh HST2))
   clear HST2
   have HV:=hide ((uh HVG).on (uh HE4).1 (uh HB)).now
   have HGB4:=hide (xa4s (uh HE4) (uh HGB) (uh HLT))
   go_wp2_with fail
   refine Calls.mono (xa3s g n d (nb + 1) (ob + 1 + 1) (bb + 48) B4 τ2 w4 c0 c1 (uh HNU) (uh HV) (uh HD4) (uh HGB4) (by omega) (by omega)) ?_
   rintro e w5 ⟨B5,rfl,h9,ev⟩
   have HE5:=hide ((uh HE4).trans ev)
   have HD5:=hide h9
   clear h9 ev
   have HG5:=hide ((uh HE5).1.heap (uh HG) (uh HGB))
   obtain ⟨R3,hR3⟩:∃ R3,stSync τ2 (nmB n) = R3:=⟨_,rfl⟩
   rw [hR3] at HD5 HST3 ⊢
   obtain ⟨E3,τ3⟩:=R3
   dsimp only at *
   clear c0 c1 c2 c3 c4 c5 c6 hfz
   obtain ⟨c0,c1,c2,c3,c4,c5,c6⟩:=xa1g (uh HG5)
   have hfz:=frozen_of_row _ _ 5 _ _ (uh HG5)
   by_cases he3:E3 = 0
   ·subst he3
    have HST4:=hide (show ST = stNames τ3 from (uh HST3))
    clear HST3
    go_wp2_with fail
    refine Calls.mono (xc0l d (nb + 1) (ob + 1 + 1 + 1) (bb + 48) B5 τ3 w5 (uh HD5) (by omega) (by omega)) ?_
    rintro e w6 ⟨B6,rfl,h9,ev⟩
    have HE6:=hide ((uh HE5).trans ev)
    have HD6:=hide h9
    clear h9 ev
    have HG6:=hide ((uh HE6).1.heap (uh HG) (uh HGB))
    rw [← uh HST4] at HD6 ⊢
    clear c0 c1 c2 c3 c4 c5 c6 hfz
    have hfz:=frozen_of_row _ _ 5 _ _ (uh HG6)
    obtain ⟨c0,c1,c2,c3,c4,c5,c6⟩:=xa1g (uh HG6)
    go_wp2_with fail
    go_ret
    first | exact ⟨B6,rfl,BegR.mk (uh HD6) (by omega) (by omega) (by omega) (uh HE6) (uh HG) (uh HGB)⟩ | exact ⟨rfl,B6,BegR.mk (uh HD6) (by omega) (by omega) (by omega) (uh HE6) (uh HG) (uh HGB)⟩
   ·have hs:ST = (E3,τ3):=by rw [uh HST3]; exact thn_no he3
    subst hs
    have hq:((E3:Int) == 0) = false:=by simp; omega
    go_wp2_with fail
    go_ret
    first | exact ⟨B5,rfl,BegR.mk (uh HD5) (by omega) (by omega) (by omega) (uh HE5) (uh HG) (uh HGB)⟩ | exact ⟨rfl,B5,BegR.mk (uh HD5) (by omega) (by omega) (by omega) (uh HE5) (uh HG) (uh HGB)⟩
  ·have hs:ST = (E2,τ2):=by rw [uh HST2,thn_no (r:=(E2,τ2)) he2,thn_no (r:=(E2,τ2)) he2]
   subst hs
   have hq:((E2:Int) == 0) = false:=by simp; omega
   go_wp2_with fail
   go_ret
   first | exact ⟨B4,rfl,BegR.mk (uh HD4) (by omega) (by omega) (by omega) (uh HE4) (uh HG) (uh HGB)⟩ | exact ⟨rfl,B4,BegR.mk (uh HD4) (by omega) (by omega) (by omega) (uh HE4) (uh HG) (uh HGB)⟩
 ·have hs:ST = (E1,τ1):=by rw [uh HST,thn_no (r:=(E1,τ1)) he1,thn_no (r:=(E1,τ1)) he1,thn_no (r:=(E1,τ1)) he1]
  subst hs
  have hq:((E1:Int) == 0) = false:=by simp; omega
  go_wp2_with fail
  go_ret
  first | exact ⟨B3,rfl,BegR.mk (uh HD3) (by omega) (by omega) (by omega) (uh HE3) (uh HG) (uh HGB)⟩ | exact ⟨rfl,B3,BegR.mk (uh HD3) (by omega) (by omega) (by omega) (uh HE3) (uh HG) (uh HGB)⟩
end
end Go.Proofs.YtkolfhgbojenjaaGreatDoor
