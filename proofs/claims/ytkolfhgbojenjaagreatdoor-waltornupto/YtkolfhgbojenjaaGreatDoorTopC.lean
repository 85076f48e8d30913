import Derived.Test.YtkolfhgbojenjaaGreatDoorTopB
namespace Go.Proofs.YtkolfhgbojenjaaGreatDoor
set_option linter.unusedVariables false
set_option linter.unusedSimpArgs false
set_option maxRecDepth 100000
section
open Go.RowKit Go.BigFrame
def lgC (d:Nat) (s:LSt):Array Value:=#[.pointer (some ⟨d,0,none⟩),.int .u64 (s.num:Int),.int .u64 (s.ep:Int),.int .u64 (s.fst:Int),.int .i64 s.wd,.int .i64 (s.byt:Int),.int .i64 (s.bt:Int),.int .i64 s.lim,.int .u64 (s.nx:Int),.int .i64 (s.st:Int)]
theorem xa0j {w:World} {l d:Nat} {s:LSt} {ty:TypeId} (h:w.heap[l]? = some (.cells (lgC d s) ty (0,0))) :
  w.cell? ⟨l,0,none⟩ = some (.pointer (some ⟨d,0,none⟩))∧w.cell? ⟨l,1,none⟩ = some (.int .u64 (s.num:Int))∧w.cell? ⟨l,2,none⟩ = some (.int .u64 (s.ep:Int))∧w.cell? ⟨l,3,none⟩ = some (.int .u64 (s.fst:Int))∧w.cell? ⟨l,4,none⟩ = some (.int .i64 s.wd)∧w.cell? ⟨l,5,none⟩ = some (.int .i64 (s.byt:Int))∧w.cell? ⟨l,6,none⟩ = some (.int .i64 (s.bt:Int))∧w.cell? ⟨l,7,none⟩ = some (.int .i64 s.lim)∧w.cell? ⟨l,8,none⟩ = some (.int .u64 (s.nx:Int))∧w.cell? ⟨l,9,none⟩ = some (.int .i64 (s.st:Int)):=by
 refine ⟨?_,?_,?_,?_,?_,?_,?_,?_,?_,?_⟩ <;> rw [cell_of_row _ _ _ _ _ _ h] <;> rfl
structure LK (w:World) (l d:Nat) (B:List Nat) (nb ob bb:Nat) (σ:DSt) (s:LSt):Prop where
 row:w.heap[l]? = some (.cells (lgC d s) 132 (0,0))
 dk:DKf w d B nb ob bb σ
 nl:l∉B
 num:s.num < 18446744073709551616
 ep:s.ep < 18446744073709551616
 nx:s.nx < 18446744073709551616
 wd:wideB s.wd = true
 bt:s.bt≤ob
 byt:s.byt≤48 + 40000 * ob
 lim:1≤s.lim∧s.lim≤1048576
 st:s.st < 100
def EvL (w w':World) (l:Nat) (B B':List Nat):Prop:=Kept (l :: B) w w'∧∀ x∈B',x∈B∨w.heap.size≤x
theorem EvL.refl (w:World) (l:Nat) (B:List Nat):EvL w w l B B:=⟨Kept.refl _ _,fun x hx=>.inl hx⟩
theorem EvL.trans {a b c:World} {l:Nat} {A B C:List Nat} (h:EvL a b l A B) (k:EvL b c l B C):EvL a c l A C:=by
 refine ⟨h.1.trans k.1 (fun x hx=>?_),?_⟩
 ·rcases List.mem_cons.1 hx with rfl | hx
  ·exact .inl (by simp)
  ·exact (h.2 x hx).imp (fun h1=>by simp [h1]) id
 ·intro x hx
  rcases k.2 x hx with h1 | h1
  ·exact h.2 x h1
  ·exact .inr (Nat.le_trans h.1.size h1)
theorem EvL.pre {w0 w w':World} {l:Nat} {B B':List Nat} (k:Kept [] w0 w) (h:EvL w w' l B B'):EvL w0 w' l B B' :=
 ⟨(k.mono (M:=l :: B) (by simp)).trans h.1 (fun x hx=>Or.inl hx),fun x hx=>(h.2 x hx).imp id (fun h1=>Nat.le_trans k.size h1)⟩
theorem LK.lt {w:World} {l d nb ob bb:Nat} {B:List Nat} {σ:DSt} {s:LSt} (h:LK w l d B nb ob bb σ s):l < w.heap.size:=lt_of_block h.row
theorem LK.old {w w':World} {l d nb ob bb:Nat} {B:List Nat} {σ:DSt} {s:LSt} (h:LK w l d B nb ob bb σ s) (k:Kept [] w w'):LK w' l d B nb ob bb σ s :=
 { h with row:=k.heap h.row (by simp),dk:=h.dk.old k }
theorem LK.kept {L:List Nat} {w w':World} {l d nb ob bb:Nat} {B:List Nat} {σ:DSt} {s:LSt} (h:LK w l d B nb ob bb σ s) (k:Kept L w w') (hl:l∉L) (hn:∀ x∈B,x∉L):LK w' l d B nb ob bb σ s :=
 { h with row:=k.heap h.row hl,dk:=h.dk.kept k hn }
theorem LK.more {w:World} {l d nb ob bb:Nat} {B:List Nat} {σ:DSt} {s:LSt} (h:LK w l d B nb ob bb σ s) {nb' ob' bb':Nat} (h1:nb≤nb') (h0:ob≤ob') (h2:bb≤bb'):LK w l d B nb' ob' bb' σ s :=
 { h with dk:=h.dk.more h1 h0 h2,bt:=Nat.le_trans h.bt h0,byt:=by have:=h.byt; omega }
set_option maxHeartbeats 1000000 in
theorem xb6m (l d:Nat) (s:LSt) (w:World) (hr:w.heap[l]? = some (.cells (lgC d s) 132 (0,0))) :
  Calls Tryz.prog 108 #[.pointer (some ⟨l,0,none⟩),.int .i64 s.lim] w fun e w'=>e = .returned (.bool (lgFull s))∧w' = w:=by
 obtain ⟨c0,c1,c2,c3,c4,c5,c6,c7,c8,c9⟩:=xa0j hr
 clear hr
 unfold lgFull
 by_cases hb:0 < s.bt
 ·have hb':(0:Int) < (s.bt:Int):=by omega
  rw [decide_eq_true hb,Bool.true_and]
  by_cases hy:s.lim≤(s.byt:Int)
  ·rw [decide_eq_true hy]
   go_enter Tryz.func108,Tryz.ntmps108
   go_wp2
   go_ret
   exact ⟨rfl,rfl⟩
  ·rw [decide_eq_false hy]
   go_enter Tryz.func108,Tryz.ntmps108
   go_wp2
   go_ret
   exact ⟨rfl,rfl⟩
 ·have hb':¬ (0:Int) < (s.bt:Int):=by omega
  rw [decide_eq_false hb,Bool.false_and]
  go_enter Tryz.func108,Tryz.ntmps108
  go_wp2
  go_ret
  exact ⟨rfl,rfl⟩
set_option maxHeartbeats 1000000 in
theorem xa9i (l d:Nat) (s:LSt) (w:World) (hr:w.heap[l]? = some (.cells (lgC d s) 132 (0,0))) :
  Calls Tryz.prog 62 #[.pointer (some ⟨l,0,none⟩)] w fun e w'=>e = .returned (.int .i64 ((lgFail s:Nat):Int))∧w' = w:=by
 obtain ⟨c0,c1,c2,c3,c4,c5,c6,c7,c8,c9⟩:=xa0j hr
 clear hr
 unfold lgFail
 by_cases h0:s.st = 0
 ·rw [if_pos (Or.inl h0)]
  have g0:((s.st:Int) == 0) = true:=by simp; omega
  go_enter Tryz.func62,Tryz.ntmps62
  go_wp2
  go_ret
  exact ⟨by rw [h0]; rfl,rfl⟩
 ·have g0:((s.st:Int) == 0) = false:=by simp; omega
  by_cases h1:s.st = 12
  ·rw [if_pos (Or.inr h1)]
   have g1:((s.st:Int) == 12) = true:=by simp; omega
   go_enter Tryz.func62,Tryz.ntmps62
   go_wp2
   go_ret
   exact ⟨by rw [h1]; rfl,rfl⟩
  ·rw [if_neg (by omega)]
   have g1:((s.st:Int) == 12) = false:=by simp; omega
   go_enter Tryz.func62,Tryz.ntmps62
   go_wp2
   go_ret
   exact ⟨rfl,rfl⟩
set_option maxHeartbeats 1000000 in
theorem xa2t (l d:Nat) (s:LSt) (w:World) (hr:w.heap[l]? = some (.cells (lgC d s) 132 (0,0))) :
  Calls Tryz.prog 20 #[.pointer (some ⟨l,0,none⟩)] w fun e w'=>e = .returned (.int .u64 (s.nx:Int))∧w' = w:=by
 obtain ⟨c0,c1,c2,c3,c4,c5,c6,c7,c8,c9⟩:=xa0j hr
 clear hr
 go_enter Tryz.func20,Tryz.ntmps20
 go_wp2
 go_ret
 exact ⟨rfl,rfl⟩
set_option maxHeartbeats 1000000 in
theorem xb3m (l d:Nat) (s:LSt) (w:World) (hr:w.heap[l]? = some (.cells (lgC d s) 132 (0,0))) :
  Calls Tryz.prog 19 #[.pointer (some ⟨l,0,none⟩)] w fun e w'=>e = .returned (.int .u64 (s.ep:Int))∧w' = w:=by
 obtain ⟨c0,c1,c2,c3,c4,c5,c6,c7,c8,c9⟩:=xa0j hr
 clear hr
 go_enter Tryz.func19,Tryz.ntmps19
 go_wp2
 go_ret
 exact ⟨rfl,rfl⟩
set_option maxHeartbeats 1000000 in
theorem xa5u (l d:Nat) (s:LSt) (w:World) (hr:w.heap[l]? = some (.cells (lgC d s) 132 (0,0))) :
  Calls Tryz.prog 18 #[.pointer (some ⟨l,0,none⟩)] w fun e w'=>e = .returned (.int .u64 (s.num:Int))∧w' = w:=by
 obtain ⟨c0,c1,c2,c3,c4,c5,c6,c7,c8,c9⟩:=xa0j hr
 clear hr
 go_enter Tryz.func18,Tryz.ntmps18
 go_wp2
 go_ret
 exact ⟨rfl,rfl⟩
set_option maxHeartbeats 1000000 in
theorem xa3e (l d:Nat) (s:LSt) (w:World) (hr:w.heap[l]? = some (.cells (lgC d s) 132 (0,0))) :
  Calls Tryz.prog 30 #[.pointer (some ⟨l,0,none⟩)] w fun e w'=>e = .returned (.int .i64 (s.st:Int))∧w' = w:=by
 obtain ⟨c0,c1,c2,c3,c4,c5,c6,c7,c8,c9⟩:=xa0j hr
 clear hr
 go_enter Tryz.func30,Tryz.ntmps30
 go_wp2
 go_ret
 exact ⟨rfl,rfl⟩
theorem Tryz.size_cur:(Tryz.prog.info? 130).map (·.size) = some 7:=by kernel_rfl
theorem xa1m {P:Program} {fn:Func} {p:Tmp} {ty:TypeId} (h:fn.results = #[.cell p ty]) (tmps:Array Value) (w:World) (g:Nat) (t:TypeId) (cs:Array Value) (fr:Nat × Nat) (d:TypeDesc)
  (hp:tmps.getD p undef = .pointer (some ⟨g,0,none⟩)) (hg:w.heap[g]? = some (.cells cs t fr))
  (hu:P.underlying ty = some d) (hd:(match d with | .struct _ | .array _ _=>true | _=>false) = true) (hi:(P.info? ty).map (·.size) = some cs.size) :
  (results fn tmps).run P w = .ok (.agg cs) w:=by
 have hp':tmps[p]?.getD undef = .pointer (some ⟨g,0,none⟩):=by simpa using hp
 simp [results,h,hp',asAddr,run_loadVar_row w g t ty cs fr d hg hu hd hi]
set_option maxHeartbeats 2000000 in
theorem xa4h (l d f:Nat) (s:LSt) (w:World) (hr:w.heap[l]? = some (.cells (lgC d s) 132 (0,0))) (hn:s.num + 1 < 18446744073709551616) :
  Calls Tryz.prog 162 #[.pointer (some ⟨l,0,none⟩),.int .u64 (f:Int)] w fun e w'=>e = .returned (.agg (curC d (s.num + 1) s.ep f s.wd 0 0))∧Kept [] w w':=by
 have hk0:=(Kept.refl [] w).alloc (.cells #[.pointer none,.int .u64 0,.int .u64 0,.int .u64 0,.int .i64 0,.int .i64 0,.int .i64 0] 130)
 obtain ⟨c0,c1,c2,c3,c4,c5,c6,c7,c8,c9⟩:=xa0j (hk0.heap hr (by simp))
 have HK0:=hide hk0
 clear hk0
 have hwr:IntKind.u64.wrap ((s.num:Int) + 1) = ((s.num + 1:Nat):Int):=by rw [IntKind.wrap_u64]; omega
 have hlt:l≠w.heap.size:=by have:=lt_of_block hr; omega
 go_enter Tryz.func162,Tryz.ntmps162
 go_upto_region 3 with fail
 have hk2:=(uh HK0).alloc (.cells #[.int .u64 ((s.num:Int) + 1),.int .u64 (s.ep:Int),.int .u64 (f:Int),.int .i64 s.wd] 53)
 have hh2:=heap_alloc_new (w.alloc (.cells #[.pointer none,.int .u64 0,.int .u64 0,.int .u64 0,.int .i64 0,.int .i64 0,.int .i64 0] 130)) (.cells #[.int .u64 ((s.num:Int) + 1),.int .u64 (s.ep:Int),.int .u64 (f:Int),.int .i64 s.wd] 53)
 have hz2:=((Kept.refl [] _).alloc (.cells #[.int .u64 ((s.num:Int) + 1),.int .u64 (s.ep:Int),.int .u64 (f:Int),.int .i64 s.wd] 53)).heap (heap_alloc_new w (.cells #[.pointer none,.int .u64 0,.int .u64 0,.int .u64 0,.int .i64 0,.int .i64 0,.int .i64 0] 130)) (by simp)
 obtain ⟨W2,hW2⟩:∃ W,(w.alloc (.cells #[.pointer none,.int .u64 0,.int .u64 0,.int .u64 0,.int .i64 0,.int .i64 0,.int .i64 0] 130)).alloc (.cells #[.int .u64 ((s.num:Int) + 1),.int .u64 (s.ep:Int),.int .u64 (f:Int),.int .i64 s.wd] 53) = W:=⟨_,rfl⟩
 rw [hW2] at hk2 hh2 hz2 ⊢
 rw [show (w.alloc (.cells #[.pointer none,.int .u64 0,.int .u64 0,.int .u64 0,.int .i64 0,.int .i64 0,.int .i64 0] 130)).heap.size = w.heap.size + 1 by simp] at hh2
 have HK2:=hide hk2
 have HZ2:=hide hz2
 obtain ⟨q0,q1,q2,q3⟩:=hcells hh2
 clear c0 c1 c2 c3 c4 c5 c6 c7 c8 c9 hW2
 have c0:=(xa0j (hk2.heap hr (by simp))).1
 clear hk2 hz2 hh2 hr
 refine xa0z 6 (by kernel_rfl) (by kernel_rfl) ?_
 simp only [List.take_succ_cons,List.take_zero,List.drop_succ_cons,List.drop_zero]
 repeat (go_big_quiet_step (fail))
 refine wpQuiet_nil ?_
 rintro _ ⟨n5,rfl⟩
 have HK5:=hide ((uh HK2).drewN n5)
 have HZ5:=hide (((Kept.refl [] W2).drewN n5).heap (uh HZ2) (by simp))
 generalize W2.drewN n5 = W5 at HK5 HZ5 ⊢
 clear c0 q0 q1 q2 q3 HK2 HZ2
 refine wpList_plain rfl fun K hK=>?_
 refine wp_store_row 130 (.tmp 4) (.tmp 21) rfl w.heap.size (curC d (s.num + 1) s.ep f s.wd 0 0) rfl (by unfold curC; simp [Act.eval]) 130 _ (uh HZ5) Tryz.size_cur rfl (by simp [curC,Value.oneCell']) (hK _ _ ?_)
 have HK6:=hide (Kept.setRow (uh HK5) (Or.inr (Nat.le_refl _)) (curC d (s.num + 1) s.ep f s.wd 0 0):Kept [] w (W5.setRow w.heap.size (curC d (s.num + 1) s.ep f s.wd 0 0)))
 have HZ6:=hide (setRow_heap W5 w.heap.size _ (curC d (s.num + 1) s.ep f s.wd 0 0) _ _ (uh HZ5))
 generalize W5.setRow w.heap.size (curC d (s.num + 1) s.ep f s.wd 0 0) = W6 at HK6 HZ6 ⊢
 go_wp2_with fail
 refine bodyPost_ret (v:=.agg (curC d (s.num + 1) s.ep f s.wd 0 0)) ?_ rfl ⟨rfl,uh HK6⟩
 exact xa1m rfl _ _ w.heap.size _ (curC d (s.num + 1) s.ep f s.wd 0 0) (0,0) _ rfl (uh HZ6) Tryz.underlying130 rfl Tryz.size_cur
theorem xc1c {w:World} {l d:Nat} {s:LSt} {t:TypeId} (h:w.heap[l]? = some (.cells (lgC d s) t (0,0))) (x y:Nat):((w.setCell ⟨l,5,none⟩ (.int .i64 (x:Int))).setCell ⟨l,6,none⟩ (.int .i64 (y:Int))).heap[l]? = some (.cells (lgC d { s with byt:=x,bt:=y }) t (0,0)):=by
 rw [heap_setCell_same _ l 6 _ t _ (heap_setCell_same w l 5 _ t _ h)]
 rfl
theorem lfroz {w:World} {b:Nat} {cs:Array Value} {t:TypeId} (h:w.heap[b]? = some (.cells cs t (0,0))):w.frozen? ⟨b,0,none⟩ = false∧w.frozen? ⟨b,1,none⟩ = false∧w.frozen? ⟨b,2,none⟩ = false∧w.frozen? ⟨b,3,none⟩ = false∧w.frozen? ⟨b,4,none⟩ = false∧w.frozen? ⟨b,5,none⟩ = false∧w.frozen? ⟨b,6,none⟩ = false∧w.frozen? ⟨b,8,none⟩ = false∧w.frozen? ⟨b,9,none⟩ = false :=
 ⟨frozen_of_row _ _ _ _ _ h,frozen_of_row _ _ _ _ _ h,frozen_of_row _ _ _ _ _ h,frozen_of_row _ _ _ _ _ h,frozen_of_row _ _ _ _ _ h,frozen_of_row _ _ _ _ _ h,frozen_of_row _ _ _ _ _ h,frozen_of_row _ _ _ _ _ h,frozen_of_row _ _ _ _ _ h⟩
theorem LK.turn {w w3 w':World} {l d nb ob bb nb3 ob3 bb3:Nat} {B B3:List Nat} {σ τ:DSt} {s s':LSt} (h:LK w l d B nb ob bb σ s) (ev:Ev w w3 B B3) (hD:DKf w3 d B3 nb3 ob3 bb3 τ) (k:Kept [l] w3 w') (hr:w'.heap[l]? = some (.cells (lgC d s') 132 (0,0)))
  (h1:s'.num < 18446744073709551616) (h2:s'.ep = s.ep) (h3:s'.nx < 18446744073709551616) (h4:s'.wd = s.wd) (h5:s'.bt≤ob3) (h6:s'.byt≤48 + 40000 * ob3) (h7:s'.lim = s.lim) (h8:s'.st < 100) :
  LK w' l d B3 nb3 ob3 bb3 τ s'∧EvL w w' l B B3:=by
 have hn:=xa4s ev h.nl h.lt
 refine ⟨⟨hr,hD.kept k (fun x hx hm=>hn (by rw [← List.mem_singleton.1 hm]; exact hx)),hn,h1,by rw [h2]; exact h.ep,h3,by rw [h4]; exact h.wd,h5,h6,by rw [h7]; exact h.lim,h8⟩,?_⟩
 exact ⟨(ev.1.mono (M:=l :: B) (fun x hx=>by simp [hx])).trans k (fun x hx=>Or.inl (by rw [List.mem_singleton.1 hx]; simp)),ev.2⟩
set_option maxHeartbeats 2000000 in
theorem xb1v (l d nb ob bb g0:Nat) (B:List Nat) (σ:DSt) (s:LSt) (pv:Value) (ps:List Nat) (w:World) (h:LK w l d B nb ob bb σ s) (hv:VarsG g0 w) (hp:Rd w pv ps) (hpd:∀ x∈zblk pv ps,x∉B) (hpl:ps.length≤40000) (h1:nb≤900000000) (h2:ob≤900000000) (h3:bb≤140737488300000) :
  Calls Tryz.prog 110 #[.pointer (some ⟨l,0,none⟩),pv] w fun e w'=>∃ B',e = .returned (.int .i64 ((lgLay σ s ps).1:Nat))∧LK w' l d B' nb (ob + 1) (bb + ps.length) (lgLay σ s ps).2.1 (lgLay σ s ps).2.2∧EvL w w' l B B':=by
 have H:=hide h
 have HNU:=hide h.num
 have HV:=hide hv.now
 have HP:=hide hp
 have HPD:=hide hpd
 obtain ⟨pa,pn,pc,rfl,hpn,_⟩:=id hp
 subst hpn
 obtain ⟨c0,c1,_⟩:=xa0j h.row
 have HC0:=hide (fun w' (k:Kept [] w w')=>k.cell c0 (by simp))
 have HC1:=hide (fun w' (k:Kept [] w w')=>k.cell c1 (by simp))
 obtain ⟨LS,hLS⟩:∃ LS,lgLay σ s ps = ((stAppend σ (nmB s.num) ps).1,(stAppend σ (nmB s.num) ps).2,LS):=⟨_,rfl⟩
 have hLS2:LS = (lgLay σ s ps).2.2:=by rw [hLS]
 have HY:=hide (fun (h0:(stAppend σ (nmB s.num) ps).1 = 0)=>(by rw [hLS2]; unfold lgLay; simp only [h0,if_true]:LS = { s with byt:=s.byt + ps.length,bt:=s.bt + 1 }))
 have HN:=hide (fun (h0:(stAppend σ (nmB s.num) ps).1≠0)=>(by rw [hLS2]; unfold lgLay; simp only [h0,if_false]:LS = s))
 rw [hLS]
 clear h hv hp hpd c0 c1 hLS hLS2
 obtain ⟨R1,hR1⟩:∃ R1,stAppend σ (nmB s.num) ps = R1:=⟨_,rfl⟩
 rw [hR1] at HY HN ⊢
 have HR1:=hide hR1
 clear hR1
 obtain ⟨E1,τ1⟩:=R1
 dsimp only at *
 go_enter Tryz.func110,Tryz.ntmps110
 go_upto_region 1 with fail
 refine wp_w9 (by kernel_rfl) (by kernel_rfl) (by kernel_rfl) (by kernel_rfl) (by kernel_rfl) (by kernel_rfl) (by kernel_rfl) (by kernel_rfl) (by kernel_rfl) (by kernel_rfl) (by kernel_rfl) (by kernel_rfl) (by kernel_rfl) (by kernel_rfl) (by kernel_rfl) (by kernel_rfl) (by kernel_rfl) (by kernel_rfl) (by kernel_rfl) rfl rfl
  (.pointer (some ⟨l,0,none⟩)) (.pointer (some ⟨l,0,none⟩)) (.pointer (some ⟨l,0,none⟩)) (.pointer (some ⟨d,0,none⟩)) (.pointer (some ⟨l,0,none⟩)) (.slice pa ps.length pc) _ _ _ _ _ _
  (fun w'=>w'.cell? ⟨l,0,none⟩ = some (.pointer (some ⟨d,0,none⟩)))
  (fun w'=>Kept [] w w')
  (fun u5 w'=>u5 = .string (nmB (s.num))∧Kept [] w w')
  (fun u5 u7 w'=>w'.cell? ⟨l,0,none⟩ = some (.pointer (some ⟨d,0,none⟩))∧∃ B',u7 = .int .i64 ((stAppend σ (nmB s.num) ps).1:Nat)∧DKf w' d B' nb (ob + 1) (bb + ps.length) (stAppend σ (nmB s.num) ps).2∧Ev w w' B B')
  (fun x=>x)
  (by simp only [Act.put,sa1,sa2,sa3]; rfl) (by exact Or.inl ⟨by rfl,fun W' hW'=>by go_simp⟩)
  (by simp only [Act.put,sa1,sa2,sa3]; rfl) (by exact Or.inl ⟨by rfl,fun W' hW'=>by go_simp⟩)
  (by simp only [Act.put,sa1,sa2,sa3]; rfl) (by exact Or.inl ⟨by rfl,fun W' hW'=>by go_simp⟩)
  (by simp only [Act.put,sa1,sa2,sa3]; rfl) (by exact Or.inl ⟨by rfl,fun W' hW'=>by go_simp⟩)
  (by simp only [Act.put,sa1,sa2,sa3]; rfl) (by exact Or.inl ⟨by rfl,fun W' hW'=>by go_simp⟩)
  (by simp only [Act.put,sa1,sa2,sa3]; rfl) (by exact Or.inl ⟨by rfl,fun W' hW'=>by go_simp⟩)
  (Kept.refl [] w).drew
  ⟨fun w' h=>uh HC0 w' h,fun u5 w' h=>uh HC0 w' h.2,fun u5 u7 w' h=>h.1⟩
  (by
   intro w' k K hK
   refine xa0f rfl Tryz.call94 [.pointer (some ⟨l,0,none⟩)] rfl (xa3a l (s.num) w' (uh HC1 w' k) (uh HNU) ((uh HV).old k)) ?_
   rintro e w2 ⟨rfl,k2⟩
   exact ⟨_,rfl,hK _ _ ⟨rfl,k.trans k2 (by simp)⟩⟩)
  (by
   rintro u5 w' ⟨rfl,k⟩ K hK
   refine xa0f rfl Tryz.call25 [.pointer (some ⟨d,0,none⟩),.string (nmB (s.num)),.slice pa ps.length pc] rfl (xa7f d nb ob bb B σ (nmB s.num) (.slice pa ps.length pc) ps w' ((uh H).dk.old k) (by rw [xa3n]; omega) (by omega) (by omega) ((uh HP).old k (by simp)) (uh HPD) (by omega)) ?_
   rintro e w2 ⟨B',rfl,h9,ev⟩
   exact ⟨_,rfl,hK _ _ ⟨ev.1.cell (uh HC0 w' k) ((uh H).nl),B',rfl,h9,Ev.pre k ev⟩⟩)
  (by
   rintro u5 u7 w' ⟨_,B',rfl,_⟩
   exact Or.inl ⟨by rfl,fun W' hW'=>by go_simp⟩)
  ?_
 rintro u5 u7 w3 ⟨_,B3,rfl,h9,ev⟩
 simp only [Act.put,sa1,sa2,sa3]
 rw [uh HR1] at h9 ⊢
 have HE3:=hide ev
 have HD3:=hide h9
 have HR3:=hide (ev.1.heap (uh H).row (uh H).nl)
 clear h9 ev HC0 HC1 HV HP HPD
 obtain ⟨c0,c1,c2,c3,c4,c5,c6,c7,c8,c9⟩:=xa0j (uh HR3)
 obtain ⟨f0,f1,f2,f3,f4,f5,f6,f8,f9⟩:=lfroz (uh HR3)
 by_cases he1:E1 = 0
 ·obtain rfl:=uh HY he1
  subst he1
  have hw1:IntKind.i64.wrap ((s.byt:Int) + (ps.length:Int)) = ((s.byt + ps.length:Nat):Int):=by
   have:=(uh H).byt
   rw [IntKind.wrap_i64]; omega
  have hw2:IntKind.i64.wrap ((s.bt:Int) + 1) = ((s.bt + 1:Nat):Int):=by
   have:=(uh H).bt
   rw [IntKind.wrap_i64]; omega
  clear HY HN
  go_wp2_with fail
  all_goals go_ret
  all_goals have hz:=xc1c (uh HR3) (s.byt + ps.length) (s.bt + 1)
  all_goals have kz:Kept [l] w3 ((w3.setCell ⟨l,5,none⟩ (.int .i64 ((s.byt + ps.length:Nat):Int))).setCell ⟨l,6,none⟩ (.int .i64 ((s.bt + 1:Nat):Int))):=((Kept.refl [l] w3).setCell (p:=⟨l,5,none⟩) (.inl (by simp)) _).setCell (p:=⟨l,6,none⟩) (.inl (by simp)) _
  all_goals have hfin:=(uh H).turn (uh HE3) (uh HD3) kz hz (uh H).num rfl (uh H).nx rfl (by have:=(uh H).bt; simp only; omega) (by have:=(uh H).byt; simp only; omega) rfl (uh H).st
  all_goals push_cast at hfin
  all_goals first | exact ⟨B3,rfl,hfin.1,hfin.2⟩ | exact ⟨rfl,B3,hfin.1,hfin.2⟩
 ·have hq:((E1:Int) == 0) = false:=by simp; omega
  obtain rfl:=uh HN he1
  clear HY HN
  go_wp2_with fail
  go_ret
  have hfin:=(uh H).turn (uh HE3) (uh HD3) (Kept.refl [l] w3) (uh HR3) (uh H).num rfl (uh H).nx rfl (by have:=(uh H).bt; omega) (by have:=(uh H).byt; omega) rfl (uh H).st
  first | exact ⟨B3,rfl,hfin.1,hfin.2⟩ | exact ⟨rfl,B3,hfin.1,hfin.2⟩
set_option maxHeartbeats 2000000 in
theorem xb8i {w:World} {l d:Nat} {s:LSt} {t:TypeId} (h:w.heap[l]? = some (.cells (lgC d s) t (0,0))) (n ep fs:Nat) (wd:Int) (b q:Nat) :
  (((((((w.setCell ⟨l,0,none⟩ (.pointer (some ⟨d,0,none⟩))).setCell ⟨l,1,none⟩ (.int .u64 (n:Int))).setCell ⟨l,2,none⟩ (.int .u64 (ep:Int))).setCell ⟨l,3,none⟩ (.int .u64 (fs:Int))).setCell ⟨l,4,none⟩ (.int .i64 wd)).setCell ⟨l,5,none⟩ (.int .i64 (b:Int))).setCell ⟨l,6,none⟩ (.int .i64 (q:Int))).heap[l]? = some (.cells (lgC d { s with num:=n,ep:=ep,fst:=fs,wd:=wd,byt:=b,bt:=q }) t (0,0)):=by
 rw [heap_setCell_same _ l 6 _ t _ (heap_setCell_same _ l 5 _ t _ (heap_setCell_same _ l 4 _ t _ (heap_setCell_same _ l 3 _ t _ (heap_setCell_same _ l 2 _ t _ (heap_setCell_same _ l 1 _ t _ (heap_setCell_same w l 0 _ t _ h))))))]
 rfl
theorem xa4f {o:Oper} {a:Act} {w:World} {K:Act→World→Prop} {Q:Exit→Act→World→Prop} (ho:o.op = .alloc 130) (h:K (a.put o.dst (.pointer (some ⟨w.heap.size,0,none⟩))) (w.alloc (.cells #[.pointer none,.int .u64 0,.int .u64 0,.int .u64 0,.int .i64 0,.int .i64 0,.int .i64 0] 130))):o.wp Tryz.prog a w K Q:=by
 unfold Oper.wp execOp
 simp only [ho]
 go_simp
 exact h
def Alc (W:World) (u:Value) (cs:Array Value) (w:World):Prop:=∃ g,u = .pointer (some ⟨g,0,none⟩)∧W.heap.size≤g∧w.heap[g]? = some (.cells cs 130 (0,0))
abbrev zCur:Array Value:=#[.pointer none,.int .u64 0,.int .u64 0,.int .u64 0,.int .i64 0,.int .i64 0,.int .i64 0]
theorem Alc.pass {W w w':World} {u:Value} {cs:Array Value} (h:Alc W u cs w) (k:Kept [] w w'):Alc W u cs w':=by
 obtain ⟨g,h1,h2,h3⟩:=h; exact ⟨g,h1,h2,k.heap h3 (by simp)⟩
theorem xb7m {W w:World} (k:Kept [] W w):Alc W (.pointer (some ⟨w.heap.size,0,none⟩)) zCur (w.alloc (.cells zCur 130)):=⟨_,rfl,k.size,heap_alloc_new _ _⟩
set_option maxHeartbeats 4000000 in
theorem xb8s (l d nb ob bb g0:Nat) (B:List Nat) (σ:DSt) (s:LSt) (w:World) (h:LK w l d B nb ob bb σ s) (hv:VarsG g0 w) (hB:∀ x∈B,g0≤x) (hg0:g0≤w.heap.size) (h1:nb≤800000000) (h2:ob≤800000000) (h3:bb≤140737488200000) :
  Calls Tryz.prog 109 #[.pointer (some ⟨l,0,none⟩)] w fun e w'=>∃ B',e = .returned (.int .i64 ((lgRot σ s).1:Nat))∧LK w' l d B' (nb + 1) (ob + 5) (bb + 48) (lgRot σ s).2.1 (lgRot σ s).2.2∧EvL w w' l B B':=by
 have H:=hide h
 have HVG:=hide hv
 have HB:=hide hB
 obtain ⟨⟨E1,τ1⟩,hR1⟩:∃ R1,stSync σ (nmB s.num) = R1:=⟨_,rfl⟩
 obtain ⟨⟨E2,τ2⟩,hR2⟩:∃ R2,stBegin τ1 (s.num + 1) s.ep s.nx s.wd = R2:=⟨_,rfl⟩
 obtain ⟨⟨E,τ,s'⟩,hL⟩:∃ R,lgRot σ s = R:=⟨_,rfl⟩
 have HA:=hide (fun (h0:E1≠0)=>(by rw [← hL]; unfold lgRot; rw [hR1]; simp only [ne_eq,h0,not_false_eq_true,if_true]:(E,τ,s') = (E1,τ1,s)))
 have HBB:=hide (fun (h0:E1 = 0) (h8:s.num = 18446744073709551615)=>(by rw [← hL]; unfold lgRot; rw [hR1]; simp only [ne_eq,h0,not_true_eq_false,if_false,h8,if_true]:(E,τ,s') = (7,τ1,s)))
 have HCC:=hide (fun (h0:E1 = 0) (h8:s.num≠18446744073709551615) (h7:E2≠0)=>(by rw [← hL]; unfold lgRot; rw [hR1]; dsimp only; rw [hR2]; simp only [ne_eq,h0,not_true_eq_false,if_false,h8,h7,not_false_eq_true,if_true]:(E,τ,s') = (E2,τ2,s)))
 have HDD:=hide (fun (h0:E1 = 0) (h8:s.num≠18446744073709551615) (h7:E2 = 0)=>(by rw [← hL]; unfold lgRot; rw [hR1]; dsimp only; rw [hR2]; simp only [ne_eq,h0,not_true_eq_false,if_false,h8,h7]:(E,τ,s') = (0,τ2,{ s with num:=s.num + 1,fst:=s.nx,byt:=48,bt:=0 })))
 rw [hL]
 have HR1:=hide hR1
 have HR2:=hide hR2
 obtain ⟨c0,c1,_⟩:=xa0j h.row
 have HFL:=hide (xa3s l s.num d nb ob bb B σ w c0 c1 h.num hv.now h.dk h.nl (by omega) (by omega))
 rw [hR1] at HFL
 clear h hv hB hL hR1 hR2 c0 c1
 dsimp only at *
 go_enter Tryz.func109,Tryz.ntmps109
 go_wp2_with fail
 refine Calls.mono (uh HFL) ?_
 rintro e w1 ⟨B1,rfl,hd1,ev1⟩
 have HD1:=hide hd1
 have HE1:=hide ev1
 have HR:=hide (ev1.1.heap (uh H).row (uh H).nl)
 clear hd1 ev1 HFL
 by_cases he1:E1 = 0
 ·subst he1
  obtain ⟨c0,c1,c2,c3,c4,c5,c6,c7,c8,c9⟩:=xa0j (uh HR)
  by_cases hm:s.num = 18446744073709551615
  ·have hz:=uh HBB (by simp) hm
   cases hz
   have hq:((s.num:Int) == 18446744073709551615) = true:=by simp; omega
   go_wp2_with fail
   go_ret
   have hfin:=(uh H).turn (uh HE1) (uh HD1) (Kept.refl [l] w1) (uh HR) (uh H).num rfl (uh H).nx rfl (by have:=(uh H).bt; omega) (by have:=(uh H).byt; omega) rfl (uh H).st
   have hf1:=hfin.1.more (nb':=nb + 1) (ob':=ob + 5) (bb':=bb + 48) (by omega) (by omega) (by omega)
   first | exact ⟨B1,rfl,hf1,hfin.2⟩ | exact ⟨rfl,B1,hf1,hfin.2⟩
  ·have hq:((s.num:Int) == 18446744073709551615) = false:=by simp; omega
   have HCX:=hide c8
   have HNM:=hide (by have:=(uh H).num; omega:s.num + 1 < 18446744073709551616)
   clear c0 c2 c3 c4 c5 c6 c7 c9
   go_upto_region 6 with fail
   clear c1 c8
   refine wp_w10 (by kernel_rfl) (by kernel_rfl) (by kernel_rfl) (by kernel_rfl) (by kernel_rfl) (by kernel_rfl) (by kernel_rfl) (by kernel_rfl) (by kernel_rfl) (by kernel_rfl) (by kernel_rfl) (by kernel_rfl) (by kernel_rfl) (by kernel_rfl) (by kernel_rfl) (by kernel_rfl) (by kernel_rfl) (by kernel_rfl) (by kernel_rfl) (by kernel_rfl) (by kernel_rfl) rfl rfl rfl (by intro x hx; cases hx; decide)
    (.pointer (some ⟨l,0,none⟩)) (.pointer (some ⟨l,0,none⟩)) (.pointer (some ⟨l,0,none⟩)) (.pointer (some ⟨l,0,none⟩)) (.pointer (some ⟨l,0,none⟩)) (.pointer (some ⟨l,8,none⟩)) (.int .u64 (s.nx:Int)) _ _ _ _ _ _ _
    (fun w'=>w'.cell? ⟨l,8,none⟩ = some (.int .u64 (s.nx:Int)))
    (fun w'=>Kept [] w1 w')
    (fun u7 w'=>u7 = .agg (curC d (s.num + 1) s.ep s.nx s.wd 0 0)∧Kept [] w1 w')
    (fun u8 w'=>Alc w1 u8 zCur w'∧Kept [] w1 w')
    (fun u7 u8 w'=>u7 = .agg (curC d (s.num + 1) s.ep s.nx s.wd 0 0)∧Alc w1 u8 zCur w'∧Kept [] w1 w')
    (fun u7 u8 u9 w'=>u7 = .agg (curC d (s.num + 1) s.ep s.nx s.wd 0 0)∧Alc w1 u8 (curC d (s.num + 1) s.ep s.nx s.wd 0 0) w'∧Kept [] w1 w')
    (by simp only [Act.put,sa1,sa2,sa3]; rfl) (by exact Or.inl ⟨by rfl,fun W' hW'=>by go_simp⟩)
    (by simp only [Act.put,sa1,sa2,sa3]; rfl) (by exact Or.inl ⟨by rfl,fun W' hW'=>by go_simp⟩)
    (by simp only [Act.put,sa1,sa2,sa3]; rfl) (by exact Or.inl ⟨by rfl,fun W' hW'=>by go_simp⟩)
    (by simp only [Act.put,sa1,sa2,sa3]; rfl) (by exact Or.inl ⟨by rfl,fun W' hW'=>by go_simp⟩)
    (by simp only [Act.put,sa1,sa2,sa3]; rfl) (by exact Or.inl ⟨by rfl,fun W' hW'=>by go_simp⟩)
    (by simp only [Act.put,sa1,sa2,sa3]; rfl) (by exact Or.inl ⟨by rfl,fun W' hW'=>by go_simp⟩)
    (by simp only [Act.put,sa1,sa2,sa3]; rfl) (by exact Or.inl ⟨by rfl,fun W' hW'=>by go_simp⟩)
    (Kept.refl [] w1).drew
    ⟨fun w' h=>h.cell (uh HCX) (by simp),fun _ w' h=>h.2.cell (uh HCX) (by simp),fun _ w' h=>h.2.cell (uh HCX) (by simp),fun _ _ w' h=>h.2.2.cell (uh HCX) (by simp),fun _ _ _ w' h=>h.2.2.cell (uh HCX) (by simp)⟩
    (by
     intro w' k K hK
     refine xa0f rfl Tryz.call162 [.pointer (some ⟨l,0,none⟩),.int .u64 (s.nx:Int)] rfl (xa4h l d s.nx s w' (k.heap (uh HR) (by simp)) (uh HNM)) ?_
     rintro e w2 ⟨rfl,k2⟩
     exact ⟨_,rfl,hK _ _ ⟨rfl,k.trans k2 (by simp)⟩⟩)
    (by
     intro w' k K hK
     exact xa4f rfl (hK _ _ ⟨xb7m k,k.alloc _⟩))
    (by
     rintro u7 w' ⟨rfl,k⟩ K hK
     exact xa4f rfl (hK _ _ ⟨rfl,xb7m k,k.alloc _⟩))
    (by
     rintro u8 w' ⟨a8,k⟩ K hK
     refine xa0f rfl Tryz.call162 [.pointer (some ⟨l,0,none⟩),.int .u64 (s.nx:Int)] rfl (xa4h l d s.nx s w' (k.heap (uh HR) (by simp)) (uh HNM)) ?_
     rintro e w2 ⟨rfl,k2⟩
     exact ⟨_,rfl,hK _ _ ⟨rfl,a8.pass k2,k.trans k2 (by simp)⟩⟩)
    (by
     rintro u7 u8 w' ⟨rfl,⟨g,rfl,hg,hh⟩,k⟩ K hK
     have hk2:=hK undef _ ⟨rfl,⟨g,rfl,hg,setRow_heap _ _ _ (curC d (s.num + 1) s.ep s.nx s.wd 0 0) _ _ hh⟩,Kept.setRow k (Or.inr hg) _⟩
     clear hK
     simp only [Act.put,sa1,sa2,sa3] at hk2 ⊢
     exact wp_store_row 130 (.tmp 4) (.tmp 27) rfl g (curC d (s.num + 1) s.ep s.nx s.wd 0 0) rfl rfl 130 zCur hh Tryz.size_cur rfl (by simp [curC,Value.oneCell']) hk2)
    ?_
   rintro u7 u8 u9 w3 ⟨rfl,⟨g,rfl,hg,hh⟩,k3⟩
   simp only [Act.put,sa1,sa2,sa3]
   have HG:=hide hg
   have HH:=hide hh
   have HK3:=hide k3
   have HE3:=hide (Ev.trans (uh HE1) ((⟨k3.mono (by simp),fun x hx=>.inl hx⟩:Ev w1 w3 B1 B1)))
   have HGB:=hide (fun hx=>by have:=(uh HD1).lt g hx; omega:g∉B1)
   have HGL:=hide (by have:=lt_of_block (uh HR); omega:l≠g)
   have HBG:=hide (xa5n g (s.num + 1) s.ep s.nx d nb (ob + 1) bb g0 s.wd B1 τ1 w3 hh (uh H).wd (uh HNM) (((uh HVG).on (uh HE1).1 (uh HB)).old k3) (Ev.ge (uh HE1) (uh HB) hg0) (by have:=(uh HE1).1.size; have:=k3.size; omega) ((uh HD1).old k3) (uh HGB) (by omega) (by omega) (by omega))
   rw [uh HR2] at HBG
   clear hg hh k3
   go_wp2_with fail
   refine Calls.mono (uh HBG) ?_
   rintro e w4 ⟨B4,rfl,hd4,kk4,nw4,hh4⟩
   have HD4:=hide hd4
   have HH4:=hide hh4
   have HE4:=hide (⟨((uh HE3).1.mono (M:=B) (fun x hx=>hx)).trans kk4 (fun x hx=>by
     rcases List.mem_cons.1 hx with rfl | hx
     ·exact .inr (by have:=uh HG; have:=(uh HE1).1.size; omega)
     ·exact (uh HE1).2 x hx),fun x hx=>by
     rcases nw4 x hx with h9 | h9
     ·exact (uh HE1).2 x h9
     ·exact .inr (by have:=(uh HE3).1.size; omega)⟩:Ev w w4 B B4)
   have HR4:=hide ((uh HE4).1.heap (uh H).row (uh H).nl)
   clear hd4 kk4 nw4 hh4 HBG
   dsimp only at *
   by_cases he2:E2 = 0
   ·have hz:=uh HDD (by simp) hm he2
    cases hz
    subst he2
    obtain ⟨c0,c1,c2,c3,c4,c5,c6⟩:=xa1g (uh HH4)
    obtain ⟨f0,f1,f2,f3,f4,f5,f6,f8,f9⟩:=lfroz (uh HR4)
    obtain ⟨x0,x1,x2,x3,x4,x5,x6,x7,x8,x9⟩:=xa0j (uh HR4)
    have hz:=xb8i (uh HR4) (s.num + 1) s.ep s.nx s.wd 48 0
    have kz:=((((((((Kept.refl [l] w4).setCell (p:=⟨l,0,none⟩) (.inl (by simp)) (.pointer (some ⟨d,0,none⟩))).setCell (p:=⟨l,1,none⟩) (.inl (by simp)) (.int .u64 ((s.num + 1:Nat):Int))).setCell (p:=⟨l,2,none⟩) (.inl (by simp)) (.int .u64 (s.ep:Int))).setCell (p:=⟨l,3,none⟩) (.inl (by simp)) (.int .u64 (s.nx:Int))).setCell (p:=⟨l,4,none⟩) (.inl (by simp)) (.int .i64 s.wd)).setCell (p:=⟨l,5,none⟩) (.inl (by simp)) (.int .i64 ((48:Nat):Int))).setCell (p:=⟨l,6,none⟩) (.inl (by simp)) (.int .i64 ((0:Nat):Int)))
    have HFIN:=hide ((uh H).turn (s':={ s with num:=s.num + 1,fst:=s.nx,byt:=48,bt:=0 }) (uh HE4) (uh HD4) kz hz (uh HNM) rfl (uh H).nx rfl (by simp) (by simp only; omega) rfl (uh H).st)
    clear hz kz
    go_wp2_with fail
    go_ret
    have hfin:=uh HFIN
    push_cast at hfin
    first | exact ⟨B4,rfl,hfin.1,hfin.2⟩ | exact ⟨rfl,B4,hfin.1,hfin.2⟩
   ·have hz:=uh HCC (by simp) hm he2
    cases hz
    have hq2:((E2:Int) == 0) = false:=by simp; omega
    go_wp2_with fail
    go_ret
    have hfin:=(uh H).turn (uh HE4) (uh HD4) (Kept.refl [l] w4) (uh HR4) (uh H).num rfl (uh H).nx rfl (by have:=(uh H).bt; omega) (by have:=(uh H).byt; omega) rfl (uh H).st
    first | exact ⟨B4,rfl,hfin.1,hfin.2⟩ | exact ⟨rfl,B4,hfin.1,hfin.2⟩
 ·have hz:=uh HA he1
  cases hz
  have hq:((E1:Int) == 0) = false:=by simp; omega
  go_wp2_with fail
  go_ret
  have hfin:=(uh H).turn (uh HE1) (uh HD1) (Kept.refl [l] w1) (uh HR) (uh H).num rfl (uh H).nx rfl (by have:=(uh H).bt; omega) (by have:=(uh H).byt; omega) rfl (uh H).st
  have hf1:=hfin.1.more (nb':=nb + 1) (ob':=ob + 5) (bb':=bb + 48) (by omega) (by omega) (by omega)
  first | exact ⟨B1,rfl,hf1,hfin.2⟩ | exact ⟨rfl,B1,hf1,hfin.2⟩
theorem EvL.ge {w w':World} {l:Nat} {B B':List Nat} {g:Nat} (h:EvL w w' l B B') (hB:∀ x∈B,g≤x) (hg:g≤w.heap.size):∀ x∈B',g≤x:=by
 intro x hx
 rcases h.2 x hx with h1 | h1
 ·exact hB x h1
 ·omega
theorem xb1s (σ:DSt) (s:LSt):(lgRot σ s).2.2.st = s.st∧(lgRot σ s).2.2.nx = s.nx:=by
 unfold lgRot
 (repeat' split) <;> exact ⟨rfl,rfl⟩
theorem xb2g (σ:DSt) (s:LSt) (p:List Nat):(lgLay σ s p).2.2.st = s.st∧(lgLay σ s p).2.2.nx = s.nx:=by
 unfold lgLay
 dsimp only
 split <;> exact ⟨rfl,rfl⟩
theorem xb1e (σ:DSt) (s:LSt) (p:List Nat):(lgWrite σ s p).2.2.st = s.st∧(lgWrite σ s p).2.2.nx = s.nx:=by
 unfold lgWrite
 split
 ·split
  ·exact xb1s σ s
  ·have h1:=xb1s σ s
   have h2:=xb2g (lgRot σ s).2.1 (lgRot σ s).2.2 p
   exact ⟨h2.1.trans h1.1,h2.2.trans h1.2⟩
 ·exact xb2g σ s p
set_option maxHeartbeats 4000000 in
theorem xb1b (l d nb ob bb g0:Nat) (B:List Nat) (σ:DSt) (s:LSt) (pv:Value) (ps:List Nat) (w:World) (h:LK w l d B nb ob bb σ s) (hv:VarsG g0 w) (hB:∀ x∈B,g0≤x) (hl0:g0≤l) (hg0:g0≤w.heap.size) (hp:Rd w pv ps) (hpd:∀ x∈zblk pv ps,x∉l :: B) (hpl:ps.length≤40000) (h1:nb≤800000000) (h2:ob≤800000000) (h3:bb≤140737488200000) :
  Calls Tryz.prog 63 #[.pointer (some ⟨l,0,none⟩),pv] w fun e w'=>∃ B',e = .returned (.int .i64 ((lgWrite σ s ps).1:Nat))∧LK w' l d B' (nb + 1) (ob + 6) (bb + 48 + ps.length) (lgWrite σ s ps).2.1 (lgWrite σ s ps).2.2∧EvL w w' l B B':=by
 have H:=hide h
 have HVG:=hide hv
 have HB:=hide hB
 have HP:=hide hp
 have HPD:=hide hpd
 obtain ⟨pa,pn,pc,rfl,hpn,_⟩:=id hp
 subst hpn
 have HFU:=hide (fun j=>xb6m l d s (w.drewN j) (((Kept.refl [] w).drewN j).heap h.row (by simp)))
 have HROT:=hide (fun w' (k:Kept [] w w')=>xb8s l d nb ob bb g0 B σ s w' (h.old k) (hv.old k) hB (Nat.le_trans hg0 k.size) h1 h2 h3)
 have HLAY:=hide (fun w' (k:Kept [] w w')=>xb1v l d nb ob bb g0 B σ s (.slice pa ps.length pc) ps w' (h.old k) (hv.old k) (hp.old k (by simp)) (fun x hx hm=>hpd x hx (by simp [hm])) hpl (by omega) (by omega) (by omega))
 obtain ⟨⟨E1,τ1,s1⟩,hR1⟩:∃ R1,lgRot σ s = R1:=⟨_,rfl⟩
 obtain ⟨⟨E,τ,s'⟩,hL⟩:∃ R,lgWrite σ s ps = R:=⟨_,rfl⟩
 rw [hR1] at HROT
 have HA:=hide (fun (h0:lgFull s = false)=>(by rw [← hL]; unfold lgWrite; rw [h0]; rfl:(E,τ,s') = lgLay σ s ps))
 have HBB:=hide (fun (h0:lgFull s = true) (h9:E1≠0)=>(by rw [← hL]; unfold lgWrite; rw [h0,hR1]; simp only [if_true,ne_eq,h9,not_false_eq_true]:(E,τ,s') = (E1,τ1,s1)))
 have HCC:=hide (fun (h0:lgFull s = true) (h9:E1 = 0)=>(by rw [← hL]; unfold lgWrite; rw [h0,hR1]; simp only [if_true,ne_eq,h9,not_true_eq_false,if_false]:(E,τ,s') = lgLay τ1 s1 ps))
 rw [hL]
 have c7:=(xa0j h.row).2.2.2.2.2.2.2.1
 clear h hv hB hp hpd hL hR1
 dsimp only at *
 go_enter Tryz.func63,Tryz.ntmps63
 go_upto_region 1 with fail
 refine wp_region_quiet_lit (by kernel_rfl) (by kernel_rfl) ?_
 repeat (go_big_quiet_step (exact Calls.mono (uh HFU _) (fun e x h=>⟨h.1,_,h.2⟩)))
 refine wpQuiet_nil ?_
 rintro _ ⟨m5,rfl⟩
 have HK0:=hide ((Kept.refl [] w).drewN m5)
 generalize w.drewN m5 = w0 at HK0 ⊢
 clear c7 HFU
 have HLAY0:=hide (uh HLAY w0 (uh HK0))
 have HROT0:=hide (uh HROT w0 (uh HK0))
 clear HLAY HROT
 by_cases hf:lgFull s = true
 ·rw [hf]
  go_wp2_with fail
  refine Calls.mono (uh HROT0) ?_
  rintro e w1 ⟨B1,rfl,hl1,ev1⟩
  have HL1:=hide hl1
  have HE1:=hide (EvL.pre (uh HK0) ev1)
  clear hl1 ev1 HLAY0
  by_cases he1:E1 = 0
  ·have hz:=uh HCC hf he1
   subst he1
   have HPR:=hide ((uh HP).keptZ (uh HE1).1 (uh HPD))
   have HLAY2:=hide (xb1v l d (nb + 1) (ob + 5) (bb + 48) g0 B1 τ1 s1 (.slice pa ps.length pc) ps w1 (uh HL1) ((uh HVG).on (uh HE1).1 (fun x hx=>by
     rcases List.mem_cons.1 hx with rfl | hx
     ·exact hl0
     ·exact uh HB x hx)) (uh HPR) (fun x hx hm=>by
     rcases (uh HE1).2 x hm with h9 | h9
     ·exact uh HPD x hx (by simp [h9])
     ·have:=(uh HP).ltZ x hx; omega) hpl (by omega) (by omega) (by omega))
   rw [← hz] at HLAY2
   dsimp only at *
   go_wp2_with fail
   refine Calls.mono (uh HLAY2) ?_
   rintro e w2 ⟨B2,rfl,hl2,ev2⟩
   have HL2:=hide hl2
   have HE2:=hide ((uh HE1).trans ev2)
   clear hl2 ev2
   go_wp2_with fail
   go_ret
   exact ⟨B2,rfl,(uh HL2).more (by omega) (by omega) (by omega),uh HE2⟩
  ·have hz:=uh HBB hf he1
   cases hz
   have hq:((E1:Int) == 0) = false:=by simp; omega
   go_wp2_with fail
   go_ret
   exact ⟨B1,rfl,(uh HL1).more (by omega) (by omega) (by omega),uh HE1⟩
 ·rw [Bool.not_eq_true] at hf
  have hz:=uh HA hf
  rw [hf]
  rw [← hz] at HLAY0
  dsimp only at *
  go_wp2_with fail
  refine Calls.mono (uh HLAY0) ?_
  rintro e w2 ⟨B2,rfl,hl2,ev2⟩
  have HL2:=hide hl2
  have HE2:=hide (EvL.pre (uh HK0) ev2)
  clear hl2 ev2
  go_wp2_with fail
  go_ret
  exact ⟨B2,rfl,(uh HL2).more (by omega) (by omega) (by omega),uh HE2⟩
theorem xa9n (σ:DSt) (n:ByteArray):(stCreate σ n).1 < 100:=by
 unfold stCreate
 split
 ·simp
 ·exact opE_le _ _ _ _ (by unfold ownA; (repeat' split) <;> omega)
theorem xa2p (σ:DSt) (n:ByteArray) (p:List Nat):(stAppend σ n p).1 < 100:=by
 unfold stAppend
 split
 ·simp
 ·split <;> exact opE_le _ _ _ _ (by omega)
theorem xa2z (σ:DSt) (n:ByteArray):(stSync σ n).1 < 100:=by
 unfold stSync
 split
 ·simp
 ·split <;> exact opE_le _ _ _ _ (by omega)
theorem xb3c (σ:DSt):(stNames σ).1 < 100:=by
 unfold stNames
 split
 ·simp
 ·exact opE_le _ _ _ _ (by omega)
theorem thn_lt {r:Nat × DSt} {f:DSt→Nat × DSt} (h:r.1 < 100) (hf:∀ τ,(f τ).1 < 100):(thn r f).1 < 100:=by
 unfold thn
 split
 ·exact hf _
 ·exact h
theorem xb0k (σ:DSt) (n ep fs:Nat) (wd:Int):(stBegin σ n ep fs wd).1 < 100 :=
 thn_lt (thn_lt (thn_lt (xa9n _ _) (fun τ=>xa2p _ _ _)) (fun τ=>xa2z _ _)) (fun τ=>xb3c _)
theorem xb8p (σ:DSt) (s:LSt):(lgRot σ s).1 < 100:=by
 unfold lgRot
 split
 ·exact xa2z _ _
 ·split
  ·simp
  ·split
   ·exact xb0k _ _ _ _ _
   ·simp
theorem xb1q (σ:DSt) (s:LSt) (p:List Nat):(lgWrite σ s p).1 < 100:=by
 unfold lgWrite
 split
 ·split
  ·exact xb8p _ _
  ·exact xa2p _ _ _
 ·exact xa2p _ _ _
theorem xb7h {f:Nat} {es:List En} (h:chkB f es = 0) (hf:f < 18446744073709551616):(sbB f es).length≤40000:=by
 unfold sbB
 rw [if_pos h,xa1k]
 have:=(xa3b h hf).2
 omega
theorem st_row {w:World} {l d:Nat} {s:LSt} {t:TypeId} (h:w.heap[l]? = some (.cells (lgC d s) t (0,0))) (x:Nat):(w.setCell ⟨l,9,none⟩ (.int .i64 (x:Int))).heap[l]? = some (.cells (lgC d { s with st:=x }) t (0,0)):=by
 rw [heap_setCell_same w l 9 _ t _ h]
 rfl
theorem nx_row {w:World} {l d:Nat} {s:LSt} {t:TypeId} (h:w.heap[l]? = some (.cells (lgC d s) t (0,0))) (x:Nat):(w.setCell ⟨l,8,none⟩ (.int .u64 (x:Int))).heap[l]? = some (.cells (lgC d { s with nx:=x }) t (0,0)):=by
 rw [heap_setCell_same w l 8 _ t _ h]
 rfl
theorem LK.set {w w':World} {l d nb ob bb:Nat} {B:List Nat} {σ:DSt} {s:LSt} (h:LK w l d B nb ob bb σ s) (x y:Nat) (hx:x < 100) (hy:y < 18446744073709551616) (k:Kept [l] w w') (hr:w'.heap[l]? = some (.cells (lgC d { s with st:=x,nx:=y }) 132 (0,0))):LK w' l d B nb ob bb σ { s with st:=x,nx:=y } :=
 ⟨hr,h.dk.kept k (fun z hz hm=>h.nl (by rw [← List.mem_singleton.1 hm]; exact hz)),h.nl,h.num,h.ep,hy,h.wd,h.bt,h.byt,h.lim,hx⟩
theorem EvL.on {w w3 w':World} {l:Nat} {B B':List Nat} (h:EvL w w3 l B B') (k:Kept [l] w3 w'):EvL w w' l B B' :=
 ⟨h.1.trans k (fun x hx=>Or.inl (by rw [List.mem_singleton.1 hx]; simp)),h.2⟩
set_option maxHeartbeats 4000000 in
theorem xa1o (l d nb ob bb g0:Nat) (B:List Nat) (σ:DSt) (s:LSt) (v:Value) (es:List En) (w:World) (h:LK w l d B nb ob bb σ s) (hv:VarsG g0 w) (hB:∀ x∈B,g0≤x) (hl0:g0≤l) (hg0:g0≤w.heap.size) (hr:RdN w v es) (h1:nb≤800000000) (h2:ob≤800000000) (h3:bb≤140737488200000) :
  Calls Tryz.prog 26 #[.pointer (some ⟨l,0,none⟩),v] w fun e w'=>∃ B',e = .returned (.int .i64 ((lgAppend σ s es).1:Nat))∧LK w' l d B' (nb + 1) (ob + 6) (bb + 40048) (lgAppend σ s es).2.1 (lgAppend σ s es).2.2∧EvL w w' l B B':=by
 have H:=hide h
 have HVG:=hide hv
 have HB:=hide hB
 have HSB:=hide (xa7m s.nx v es w h.nx hr)
 obtain ⟨va,n,vc,kv,vv,rfl,hlen,hcap,hmx,_⟩:=id hr
 subst hlen
 have HLE:=hide (by omega:es.length≤9223372036854775807)
 obtain ⟨C,hC⟩:∃ C,chkB s.nx es = C:=⟨_,rfl⟩
 obtain ⟨ps,hps⟩:∃ ps,sbB s.nx es = ps:=⟨_,rfl⟩
 obtain ⟨⟨E1,τ1,s1⟩,hW⟩:∃ R,lgWrite σ s ps = R:=⟨_,rfl⟩
 have HE1:=hide (by have:=xb1q σ s ps; rw [hW] at this; exact this:E1 < 100)
 have HS1:=hide (by have:=xb1e σ s ps; rw [hW] at this; exact this.2:s1.nx = s.nx)
 obtain ⟨⟨E,τ,s'⟩,hL⟩:∃ R,lgAppend σ s es = R:=⟨_,rfl⟩
 have HA:=hide (fun (h0:C≠0)=>(by rw [← hL]; unfold lgAppend; rw [hC]; simp only [ne_eq,h0,not_false_eq_true,if_true]:(E,τ,s') = (C,σ,s)))
 have HBB:=hide (fun (h0:C = 0) (h9:lgFail s≠0)=>(by rw [← hL]; unfold lgAppend; rw [hC]; simp only [ne_eq,h0,not_true_eq_false,if_false,h9,not_false_eq_true,if_true]:(E,τ,s') = (lgFail s,σ,s)))
 have HC0:=hide (fun (h0:C = 0) (h9:lgFail s = 0) (h8:E1 = 0)=>(by rw [← hL]; unfold lgAppend; rw [hC,hps]; simp only [ne_eq,h0,not_true_eq_false,if_false,h9]; rw [hW]; simp only [h8,if_true]:(E,τ,s') = (E1,τ1,{ s1 with st:=E1,nx:=(s.nx + es.length) % 18446744073709551616 })))
 have HC1:=hide (fun (h0:C = 0) (h9:lgFail s = 0) (h8:E1≠0)=>(by rw [← hL]; unfold lgAppend; rw [hC,hps]; simp only [ne_eq,h0,not_true_eq_false,if_false,h9]; rw [hW]; simp only [h8,if_false]:(E,τ,s') = (E1,τ1,{ s1 with st:=E1,nx:=s.nx })))
 rw [hL]
 have HPL:=hide (fun (h0:C = 0)=>(by rw [← hps]; exact xb7h (by rw [hC]; exact h0) h.nx:ps.length≤40000))
 rw [hC,hps] at HSB
 have c8:=(xa0j h.row).2.2.2.2.2.2.2.2.1
 have HWW:=hide hW
 clear h hv hB hr hL hC hps hW hcap hmx
 dsimp only at *
 go_enter Tryz.func26,Tryz.ntmps26
 go_wp2_with fail
 refine Calls.mono (uh HSB) ?_
 rintro e w1 ⟨pv,rfl,nw,k1⟩
 have HK1:=hide k1
 have HNW:=hide nw
 obtain ⟨pa,pn,pc,rfl,hpn,_⟩:=id nw.1
 clear k1 nw HSB c8
 by_cases hc:C = 0
 ·subst hc
  have HFA:=hide (xa9i l d s w1 ((uh HK1).heap (uh H).row (by simp)))
  go_wp2_with fail
  refine Calls.mono (uh HFA) ?_
  rintro e w2 ⟨rfl,rfl⟩
  by_cases hf:lgFail s = 0
  ·rw [hf]
   have HWR:=hide (xb1b l d nb ob bb g0 B σ s (.slice pa pn pc) ps w2 ((uh H).old (uh HK1)) ((uh HVG).old (uh HK1)) (uh HB) hl0 (Nat.le_trans hg0 (uh HK1).size) (uh HNW).1 (fun x hx hm=>by
     have h9:w.heap.size≤x:=by
      have hx2:=(xa4n hx).1
      rcases (uh HNW).2 with ⟨h8,h7⟩ | ⟨g,h8,h7,_⟩
      ·exact absurd h8 (xa4n hx).2
      ·rw [h8] at hx2; simp only [blk,List.mem_singleton] at hx2; subst hx2; exact h7
     rcases List.mem_cons.1 hm with rfl | hm
     ·have:=(uh H).lt; omega
     ·have:=(uh H).dk.lt _ hm; omega) (uh HPL (by simp)) h1 h2 h3)
   rw [uh HWW] at HWR
   dsimp only at *
   go_wp2_with fail
   refine Calls.mono (uh HWR) ?_
   rintro e w3 ⟨B3,rfl,hl3,ev3⟩
   have HL3:=hide hl3
   have HE3:=hide (EvL.pre (uh HK1) ev3)
   obtain ⟨c0,c1,c2,c3,c4,c5,c6,c7,c8,c9⟩:=xa0j hl3.row
   obtain ⟨f0,f1,f2,f3,f4,f5,f6,f8,f9⟩:=lfroz hl3.row
   rw [uh HS1] at c8
   clear hl3 ev3 HWR
   have hle3:bb + 48 + ps.length≤bb + 40048:=by have:=uh HPL (by simp); omega
   by_cases he:E1 = 0
   ·have hw:IntKind.u64.wrap ((s.nx:Int) + (es.length:Int)) = (((s.nx + es.length) % 18446744073709551616:Nat):Int):=by rw [IntKind.wrap_u64]; simp
    have hw2:IntKind.u64.wrap (es.length:Int) = (es.length:Int):=by rw [IntKind.wrap_u64]; have:=uh HLE; omega
    have hst:=st_row (uh HL3).row E1
    have kst:Kept [l] w3 (w3.setCell ⟨l,9,none⟩ (.int .i64 (E1:Int))):=(Kept.refl [l] w3).setCell (p:=⟨l,9,none⟩) (.inl (by simp)) _
    have hnx:=nx_row hst ((s.nx + es.length) % 18446744073709551616)
    have knx:=kst.setCell (p:=⟨l,8,none⟩) (.inl (by simp)) (.int .u64 (((s.nx + es.length) % 18446744073709551616:Nat):Int))
    have HFIN:=hide ((uh HL3).set E1 ((s.nx + es.length) % 18446744073709551616) (uh HE1) (Nat.mod_lt _ (by omega)) knx hnx)
    have HEV:=hide ((uh HE3).on knx)
    clear hst kst hnx knx
    have hz:=uh HC0 (by simp) hf he
    cases hz
    subst he
    go_wp2_with fail
    go_ret
    have hfin:=((uh HFIN).more (nb':=nb + 1) (ob':=ob + 6) (bb':=bb + 40048) (by omega) (by omega) hle3)
    have hev:=uh HEV
    simp only [Int.natCast_emod,Int.natCast_add,Int.cast_ofNat_Int] at hfin hev
    first | exact ⟨B3,rfl,hfin,hev⟩ | exact ⟨rfl,B3,hfin,hev⟩
   ·have hq:((E1:Int) == 0) = false:=by simp; omega
    have hst:=st_row (uh HL3).row E1
    have kst:Kept [l] w3 (w3.setCell ⟨l,9,none⟩ (.int .i64 (E1:Int))):=(Kept.refl [l] w3).setCell (p:=⟨l,9,none⟩) (.inl (by simp)) _
    have HFIN:=hide ((uh HL3).set E1 s.nx (uh HE1) (uh H).nx kst (by rw [hst,← uh HS1]))
    have HEV:=hide ((uh HE3).on kst)
    clear hst kst
    have hz:=uh HC1 (by simp) hf he
    cases hz
    go_wp2_with fail
    go_ret
    have hfin:=((uh HFIN).more (nb':=nb + 1) (ob':=ob + 6) (bb':=bb + 40048) (by omega) (by omega) hle3)
    first | exact ⟨B3,rfl,hfin,uh HEV⟩ | exact ⟨rfl,B3,hfin,uh HEV⟩
  ·have hz:=uh HBB (by simp) hf
   cases hz
   have hq:((lgFail s:Int) == 0) = false:=by simp; omega
   go_wp2_with fail
   go_ret
   have hfin:=((uh H).old (uh HK1)).more (nb':=nb + 1) (ob':=ob + 6) (bb':=bb + 40048) (by omega) (by omega) (by omega)
   have hev:=EvL.pre (uh HK1) (EvL.refl w2 l B)
   first | exact ⟨B,rfl,hfin,hev⟩ | exact ⟨rfl,B,hfin,hev⟩
 ·have hz:=uh HA hc
  cases hz
  have hq:((C:Int) == 0) = false:=by simp; omega
  go_wp2_with fail
  go_ret
  have hfin:=((uh H).old (uh HK1)).more (nb':=nb + 1) (ob':=ob + 6) (bb':=bb + 40048) (by omega) (by omega) (by omega)
  have hev:=EvL.pre (uh HK1) (EvL.refl w1 l B)
  first | exact ⟨B,rfl,hfin,hev⟩ | exact ⟨rfl,B,hfin,hev⟩
set_option maxHeartbeats 4000000 in
theorem xa8t (l d nb ob bb g0:Nat) (B:List Nat) (σ:DSt) (s:LSt) (w:World) (h:LK w l d B nb ob bb σ s) (hv:VarsG g0 w) (h1:nb≤800000000) (h2:ob≤800000000) :
  Calls Tryz.prog 31 #[.pointer (some ⟨l,0,none⟩)] w fun e w'=>∃ B',e = .returned (.int .i64 ((lgSync σ s).1:Nat))∧LK w' l d B' nb (ob + 1) bb (lgSync σ s).2.1 (lgSync σ s).2.2∧EvL w w' l B B':=by
 have H:=hide h
 obtain ⟨c0,c1,_⟩:=xa0j h.row
 have HFL:=hide (xa3s l s.num d nb ob bb B σ w c0 c1 h.num hv.now h.dk h.nl (by omega) (by omega))
 have HFA:=hide (xa9i l d s w h.row)
 obtain ⟨⟨E1,τ1⟩,hW⟩:∃ R,stSync σ (nmB s.num) = R:=⟨_,rfl⟩
 have HE1:=hide (by have:=xa2z σ (nmB s.num); rw [hW] at this; exact this:E1 < 100)
 obtain ⟨⟨E,τ,s'⟩,hL⟩:∃ R,lgSync σ s = R:=⟨_,rfl⟩
 have HBB:=hide (fun (h9:lgFail s≠0)=>(by rw [← hL]; unfold lgSync; simp only [ne_eq,h9,not_false_eq_true,if_true]:(E,τ,s') = (lgFail s,σ,s)))
 have HCC:=hide (fun (h9:lgFail s = 0)=>(by rw [← hL]; unfold lgSync; simp only [ne_eq,not_true_eq_false,if_false,h9]; rw [hW]:(E,τ,s') = (E1,τ1,{ s with st:=E1 })))
 rw [hL]
 rw [hW] at HFL
 clear h hv hL hW c0 c1
 dsimp only at *
 go_enter Tryz.func31,Tryz.ntmps31
 go_wp2_with fail
 refine Calls.mono (uh HFA) ?_
 rintro e w2 ⟨rfl,rfl⟩
 by_cases hf:lgFail s = 0
 ·have hz:=uh HCC hf
  cases hz
  rw [hf]
  go_wp2_with fail
  refine Calls.mono (uh HFL) ?_
  rintro e w3 ⟨B3,rfl,hd3,ev3⟩
  have hr3:=ev3.1.heap (uh H).row (uh H).nl
  obtain ⟨c0,c1,c2,c3,c4,c5,c6,c7,c8,c9⟩:=xa0j hr3
  obtain ⟨f0,f1,f2,f3,f4,f5,f6,f8,f9⟩:=lfroz hr3
  have hst:=st_row hr3 E1
  have kst:Kept [l] w3 (w3.setCell ⟨l,9,none⟩ (.int .i64 (E1:Int))):=(Kept.refl [l] w3).setCell (p:=⟨l,9,none⟩) (.inl (by simp)) _
  have HFIN:=hide ((uh H).turn ev3 hd3 kst hst (uh H).num rfl (uh H).nx rfl (by have:=(uh H).bt; simp only; omega) (by have:=(uh H).byt; simp only; omega) rfl (uh HE1))
  clear hst kst hr3 hd3 ev3
  go_wp2_with fail
  go_ret
  first | exact ⟨B3,rfl,(uh HFIN).1,(uh HFIN).2⟩ | exact ⟨rfl,B3,(uh HFIN).1,(uh HFIN).2⟩
 ·have hz:=uh HBB hf
  cases hz
  have hq:((lgFail s:Int) == 0) = false:=by simp; omega
  go_wp2_with fail
  go_ret
  have hfin:=(uh H).more (nb':=nb) (ob':=ob + 1) (bb':=bb) (by omega) (by omega) (by omega)
  have hev:=EvL.refl w2 l B
  first | exact ⟨B,rfl,hfin,hev⟩ | exact ⟨rfl,B,hfin,hev⟩
end
section
open Go.RowKit Go.BigFrame Go.Maps Go.Sort
theorem xa9c {w:World} {b s:Nat}:∀ {rows:List (List Value)} {off:Nat} (hc:∀ i (h:i < rows.length),w.rangeAt b (off + i * s) rows[i]) (hs:∀ r∈rows,r.length = s) (j:Nat) (u:Value),rows.flatten[j]? = some u→w.cell? ⟨b,off + j,none⟩ = some u
 | [],off,hc,hs,j,u,hj=>by simp at hj
 | r :: rs,off,hc,hs,j,u,hj=>by
  have hr:r.length = s:=hs r (by simp)
  rw [List.flatten_cons] at hj
  by_cases h:j < s
  ·rw [List.getElem?_append_left (by omega)] at hj
   have h9:=hc 0 (by simp) j u (by simpa using hj)
   simpa using h9
  ·rw [List.getElem?_append_right (by omega),hr] at hj
   have ih:=xa9c (rows:=rs) (off:=off + s) (fun i hi=>by
    have h9:=hc (i + 1) (by simpa using hi)
    simp only [List.getElem_cons_succ] at h9
    rw [show off + s + i * s = off + (i + 1) * s by rw [Nat.add_mul]; omega]
    exact h9) (fun r hr=>hs r (by simp [hr])) (j - s) u hj
   rw [show off + j = off + s + (j - s) by omega]
   exact ih
theorem xa0v {w:World} {base e s n:Nat} {v:Value} {xs:List Value} (h:w.ownsRow base e s v n xs):∃ ao cap,v = .slice ao n cap:=by
 rcases h.2 with ⟨rfl,rfl⟩ | ⟨g,cap,cur,rfl,_⟩
 ·exact ⟨_,_,rfl⟩
 ·exact ⟨_,_,rfl⟩
theorem xb2c {s:Nat}:∀ {rows:List (List Value)},(∀ r∈rows,r.length = s)→rows.flatten.length = rows.length * s
 | [],_=>by simp
 | r :: rs,h=>by
  have ih:=xb2c (rows:=rs) (fun r hr=>h r (by simp [hr]))
  rw [List.flatten_cons,List.length_append,ih,h r (by simp),List.length_cons,Nat.add_mul]
  omega
theorem xb3x {s:Nat}:∀ {rows:List (List Value)} (hs:∀ r∈rows,r.length = s) {i j:Nat} (hi:i < rows.length) {u:Value},rows[i][j]? = some u→rows.flatten[i * s + j]? = some u
 | r :: rs,hs,0,j,hi,u,hu=>by
  have hj:=(List.getElem?_eq_some_iff.1 hu).1
  rw [List.flatten_cons,Nat.zero_mul,Nat.zero_add,List.getElem?_append_left (by simpa using hj)]
  simpa using hu
 | r :: rs,hs,i + 1,j,hi,u,hu=>by
  have hr:r.length = s:=hs r (by simp)
  have ih:=xb3x (rows:=rs) (fun r hr=>hs r (by simp [hr])) (i:=i) (j:=j) (by simpa using hi) (u:=u) (by simpa using hu)
  rw [List.flatten_cons,List.getElem?_append_right (by rw [hr,Nat.add_mul]; omega),hr,show (i + 1) * s + j - s = i * s + j by rw [Nat.add_mul]; omega]
  exact ih
theorem xb9z {w:World} {base e s:Nat} {v:Value} {rows:List (List Value)} (h:w.ownsRow base e s v rows.length rows.flatten) (hs:∀ r∈rows,r.length = s):RdC s w v rows:=by
 rcases h.2 with ⟨rfl,h0⟩ | ⟨g,cap,cur,rfl,_,hg,hc,hm,hsz,ht⟩
 ·have:rows = []:=List.eq_nil_of_length_eq_zero h0
  subst this
  exact RdC.nil s w
 ·refine ⟨_,_,_,rfl,rfl,hc,by unfold maxLen at hm; omega,fun _=>⟨g,0,rfl,fun i hi j u hu=>?_⟩⟩
  have h9:=h.cells (g:=g) rfl (i * s + j) u (xb3x hs hi hu)
  rw [Addr.add_lit,Nat.zero_add] at h9
  rw [Nat.zero_add]
  exact h9
theorem xa6o {P:Program} {w:World} (base:Nat) (t ty e:TypeId) (i:TypeInfo) (size c:Nat) (ht:P.underlying t = some (.slice e)) (hi:P.info? e = some i)
  (v:Value) (n:Nat) (xs:List Value) (hown:w.ownsRow base e size v n xs) :
  (Builtin.append_ #[t,t] ty #[v,.slice none 0 c]).run P w = .ok v w:=by
 rcases hown.2 with ⟨rfl,rfl⟩ | ⟨g,cap,cur,rfl,_,_,hnc,_⟩
 ·simp [Builtin.append_,run_underlying ht,sizeOf,typeInfo,hi,Builtin.lenOf,Builtin.firstCells]
 ·simp [Builtin.append_,run_underlying ht,sizeOf,typeInfo,hi,Builtin.lenOf,Builtin.firstCells,hnc,storeCells]
theorem appendC (w:World) (base T e:Nat) (z:Value) (s bytes:Nat) (hu:Tryz.prog.underlying T = some (.slice e)) (hinf:(Tryz.prog.info? e).map (fun i=>(i.zero,i.size,i.bytes)) = some (some z,s,bytes)) (hzs:z.cells.size = s) (hs0:0 < s)
  (v:Value) (n:Nat) (xs:List Value) (h:w.ownsRow base e s v n xs) (ao:Option Addr) (m c:Nat) (rows:List (List Value)) (hr:RdC s w (.slice ao m c) rows) (hs:∀ r∈rows,r.length = s) (hone:∀ r∈rows,∀ u∈r,u.oneCell' = true)
  (hl:(n + m) * bytes≤140737488355328) (hl2:n + m≤1000000000000) (hb:base≤w.heap.size) :
  ∃ ao' cap' w1,(Builtin.append_ #[T,T] T #[v,.slice ao m c]).run Tryz.prog w = .ok (.slice ao' (n + m) cap') w1∧w1.ownsRow base e s (.slice ao' (n + m) cap') (n + m) (xs++rows.flatten)∧w.grownBy w1 v.ownBlock∧((Value.slice ao' (n + m) cap').ownBlock = v.ownBlock∨(Value.slice ao' (n + m) cap').ownBlock = some w.heap.size):=by
 obtain ⟨i0,hi,hz0,hz1,hz2⟩:=info_parts hinf
 obtain ⟨ao1,n1,c1,he,h1,h2,h3,h4⟩:=hr
 cases he
 have hf1:∀ u∈rows.flatten,u.oneCell' = true:=by
  intro u hu
  obtain ⟨r,hr,hur⟩:=List.mem_flatten.1 hu
  exact hone r hr u hur
 have hfl:rows.flatten.length = m * s:=by rw [xb2c hs,h1]
 cases ao with
 | none =>
  have hm:m = 0:=by
   rcases Nat.eq_zero_or_pos m with h9 | h9
   ·exact h9
   ·obtain ⟨b,off,e9,_⟩:=h4 h9; cases e9
  subst hm
  have hp:rows = []:=List.eq_nil_of_length_eq_zero h1
  subst hp
  have hrun:=xa6o (P:=Tryz.prog) (w:=w) base T T e i0 s c hu hi v n xs h
  obtain ⟨ao',cap',rfl⟩:=xa0v h
  exact ⟨ao',cap',w,hrun,by simpa using h,World.grownBy.refl _ _,.inl rfl⟩
 | some ad =>
  have hnews:∀ j u,rows.flatten[j]? = some u→w.cell? (ad.add j) = some u:=by
   intro j u hj
   have hm:0 < m:=by
    have:=(List.getElem?_eq_some_iff.1 hj).1
    rw [hfl] at this
    rcases Nat.eq_zero_or_pos m with h9 | h9
    ·subst h9; omega
    ·exact h9
   obtain ⟨b,off,e9,hc⟩:=h4 hm
   cases e9
   rw [Addr.add_mid]
   exact xa9c hc hs j u hj
  obtain ⟨v',w1,hrun,hown,hgrow,_,hat⟩:=run_append_own_at (P:=Tryz.prog) w base T T e i0 z s bytes hu hi hz0 hz1 hz2 hzs hs0 v n xs h ad m c rows.flatten hfl hnews hf1 (by unfold maxLen; omega) hl hb
  obtain ⟨ao',cap',rfl⟩:=xa0v hown
  exact ⟨ao',cap',w1,hrun,hown,hgrow,hat⟩
theorem xa4w {ops:Array Oper} {rest:List Oper} {o:Oper} {a:Act} {Q:Exit→Act→World→Prop} (hgd:o.guard = none) (T e:Nat) (s x:Operand)
  (ho:o.op = .call { callee:=.builtin .append,args:=#[s,x],argTypes:=#[T,T] }) (hty:o.type = T)
  (w:World) (base:Nat) (z:Value) (sz bytes:Nat) (hu:Tryz.prog.underlying T = some (.slice e)) (hinf:(Tryz.prog.info? e).map (fun i=>(i.zero,i.size,i.bytes)) = some (some z,sz,bytes)) (hzs:z.cells.size = sz) (hs0:0 < sz)
  (v:Value) (n:Nat) (xs:List Value) (h:w.ownsRow base e sz v n xs) (ao:Option Addr) (m c:Nat) (rows:List (List Value)) (hr:RdC sz w (.slice ao m c) rows) (hs:∀ r∈rows,r.length = sz) (hone:∀ r∈rows,∀ u∈r,u.oneCell' = true)
  (hl:(n + m) * bytes≤140737488355328) (hl2:n + m≤1000000000000) (hb:base≤w.heap.size) (he:a.eval s = v) (hx:a.eval x = .slice ao m c)
  (hK:∀ ao' cap' w1,Hid (w1.ownsRow base e sz (.slice ao' (n + m) cap') (n + m) (xs++rows.flatten))→Hid (w.grownBy w1 v.ownBlock)→Hid ((Value.slice ao' (n + m) cap').ownBlock = v.ownBlock∨(Value.slice ao' (n + m) cap').ownBlock = some w.heap.size) →
   wpList Tryz.prog ops Q rest (a.put o.dst (.slice ao' (n + m) cap')) w1) :
  wpList Tryz.prog ops Q (o :: rest) a w:=by
 obtain ⟨ao',cap',w1,hrun,h2,h3,h4⟩:=appendC w base T e z sz bytes hu hinf hzs hs0 v n xs h ao m c rows hr hs hone hl hl2 hb
 refine wpList_plain hgd fun K hK'=>?_
 unfold Oper.wp execOp
 simp only [ho,hty,resolve,invoke,builtin,Sem.run_bind,Sem.run_pure,Result.andThen_ok,List.map_toArray,List.map_cons,List.map_nil,he,hx,hrun]
 exact hK' _ _ (hK ao' cap' w1 h2 h3 h4)
end
section
open Go.RowKit Go.BigFrame
def rowB (t:Nat × Value × List En):List Value:=[.int .u64 (t.1:Int),t.2.1]
theorem xa4i (ts:List (Nat × Value × List En)):(ts.map rowB).flatten = cellsB ts:=by
 unfold cellsB
 rw [List.flatMap_def]
 rfl
theorem xb2v (ts:List (Nat × Value × List En)):∀ r∈ts.map rowB,r.length = 2:=by
 intro r hr
 obtain ⟨a,_,rfl⟩:=List.mem_map.1 hr
 rfl
theorem RdN.oneV {w:World} {v:Value} {es:List En} (h:RdN w v es):v.oneCell' = true:=by
 obtain ⟨a,n,c,_,_,rfl,_⟩:=h
 rfl
theorem OwnB.rdC {w0 w:World} {v:Value} {ts:List (Nat × Value × List En)} (h:OwnB w0 w v ts):RdC 2 w v (ts.map rowB) :=
 xb9z (e:=75) (base:=w0.heap.size) (by rw [xa4i,List.length_map]; exact h.own) (xb2v ts)
theorem OwnB.rdN {w0 w:World} {v:Value} {ts:List (Nat × Value × List En)} (h:OwnB w0 w v ts):∀ t∈ts,RdN w t.2.1 t.2.2:=by
 intro t ht
 obtain ⟨B,C,_,_,_,h5⟩:=h.rd t ht
 exact h5 [] w (Kept.refl _ _) (by simp)
theorem OwnB.oneC {w0 w:World} {v:Value} {ts:List (Nat × Value × List En)} (h:OwnB w0 w v ts):∀ r∈ts.map rowB,∀ u∈r,u.oneCell' = true:=by
 intro r hr u hu
 obtain ⟨a,ha,rfl⟩:=List.mem_map.1 hr
 simp only [rowB,List.mem_cons,List.not_mem_nil,or_false] at hu
 rcases hu with rfl | rfl
 ·rfl
 ·exact (h.rdN a ha).oneV
theorem xa6m (ts ss:List (Nat × Value × List En)):cellsB (ts++ss) = cellsB ts++cellsB ss:=by simp [cellsB]
theorem OwnB.stay {w0 w w':World} {M:List Nat} {v:Value} {ts:List (Nat × Value × List En)} (h:OwnB w0 w v ts) (k:Kept M w w') (hM:∀ x∈M,x < w0.heap.size∨w.heap.size≤x):OwnB w0 w' v ts:=by
 have k2:Kept (M.filter (· < w0.heap.size)) w w':=⟨k.os,k.tape,k.output,k.size,fun j hj hn=>k.block j hj (fun hm=>hn (by
  rw [List.mem_filter]
  refine ⟨hm,?_⟩
  rcases hM j hm with h1 | h1
  ·simpa using h1
  ·omega))⟩
 exact h.pass k2 (fun x hx=>by rw [List.mem_filter] at hx; simpa using hx.2)
end
section
open Go.RowKit Go.BigFrame Go.Maps Go.Sort
structure OwnX (X:List Nat) (w0 w:World) (v:Value) (ts:List (Nat × Value × List En)):Prop where
 own:w.ownsRow w0.heap.size 75 2 v ts.length (cellsB ts)
 rd:∀ t∈ts,∃ B C,C≤w.heap.size∧w0.heap.size≤B∧(∀ b,v.ownBlock = some b→b < B∨C≤b)∧(∀ b∈X,b < B∨C≤b)∧∀ M w',Kept M w w'→(∀ x∈M,x < B∨C≤x)→RdN w' t.2.1 t.2.2
 sz:w0.heap.size≤w.heap.size
 ap:∀ b,v.ownBlock = some b→b∉X
theorem OwnX.toB {X:List Nat} {w0 w:World} {v:Value} {ts:List (Nat × Value × List En)} (h:OwnX X w0 w v ts):OwnB w0 w v ts :=
 ⟨h.own,fun t ht=>by obtain ⟨B,C,h1,h2,h3,h4,h5⟩:=h.rd t ht; exact ⟨B,C,h1,h2,h3,h5⟩,h.sz⟩
theorem OwnX.start (w:World):OwnX [] w w (.slice none 0 0) []:=⟨World.ownsRow_nil _ _ _ _,by simp,Nat.le_refl _,by simp⟩
theorem OwnX.pass {X:List Nat} {w0 w w':World} {M:List Nat} {v:Value} {ts:List (Nat × Value × List En)} (h:OwnX X w0 w v ts) (k:Kept M w w') (hM:∀ x∈M,x < w0.heap.size∨x∈X):OwnX X w0 w' v ts:=by
 refine ⟨k.owns h.own (fun b hb hm=>?_),fun t ht=>?_,Nat.le_trans h.sz k.size,h.ap⟩
 ·rcases hM b hm with h1 | h1
  ·have:=(h.own.lt b hb).1; omega
  ·exact h.ap b hb h1
 ·obtain ⟨B,C,h1,h2,h3,h4,h5⟩:=h.rd t ht
  refine ⟨B,C,Nat.le_trans h1 k.size,h2,h3,h4,fun N w2 kN hN=>h5 (M++N) w2 ((k.mono (M:=M++N) (fun x hx=>by simp [hx])).trans kN (fun x hx=>Or.inl (by simp [hx]))) (fun x hx=>?_)⟩
  rcases List.mem_append.1 hx with hx | hx
  ·rcases hM x hx with h6 | h6
   ·omega
   ·exact h4 x h6
  ·exact hN x hx
theorem OwnX.turn {X Y:List Nat} {w0 w:World} {v:Value} {ts:List (Nat × Value × List En)} (h:OwnX X w0 w v ts) {n:Nat} (hY:∀ b∈Y,b∈X∨n≤b) {wo:World} (hn:wo.heap.size = n) (ho:OwnX X w0 wo v ts) (k:Kept X wo w):OwnX Y w0 w v ts:=by
 refine ⟨h.own,fun t ht=>?_,h.sz,fun b hb hm=>?_⟩
 ·obtain ⟨B,C,h1,h2,h3,h4,h5⟩:=ho.rd t ht
  refine ⟨B,C,Nat.le_trans h1 k.size,h2,h3,fun b hb=>?_,fun N w2 kN hN=>h5 (X++N) w2 ((k.mono (M:=X++N) (fun x hx=>by simp [hx])).trans kN (fun x hx=>Or.inl (by simp [hx]))) (fun x hx=>?_)⟩
  ·rcases hY b hb with h6 | h6
   ·exact h4 b h6
   ·omega
  ·rcases List.mem_append.1 hx with hx | hx
   ·exact h4 x hx
   ·exact hN x hx
 ·rcases hY b hm with h6 | h6
  ·exact h.ap b hb h6
  ·have:=(ho.own.lt b hb).2; omega
theorem OwnX.cat {X M:List Nat} {w0 w1 wr w W:World} {v v2 v':Value} {ts ss:List (Nat × Value × List En)} (h:OwnX X w0 w v ts) (h2:OwnB w1 wr v2 ss) (k:Kept M wr w) (hM:∀ x∈M,x < w1.heap.size∨wr.heap.size≤x) (h01:w0.heap.size≤w1.heap.size) (hv:∀ b,v.ownBlock = some b→b < w1.heap.size) (hX:∀ b∈X,b < w1.heap.size∨wr.heap.size≤b) (hXl:∀ b∈X,b < w.heap.size)
  (o:W.ownsRow w0.heap.size 75 2 v' (ts.length + ss.length) (cellsB ts++cellsB ss)) (gr:w.grownBy W v.ownBlock) (hg:v'.ownBlock = v.ownBlock∨v'.ownBlock = some w.heap.size) :
  OwnX X w0 W v' (ts++ss):=by
 have kW:Kept v.ownBlock.toList w W:=((Kept.refl _ w)).grown gr (by intro k hk; left; simp [hk])
 refine ⟨by rw [xa6m,List.length_append]; exact o,fun t ht=>?_,Nat.le_trans h.sz kW.size,fun b hb hm=>?_⟩
 ·rcases List.mem_append.1 ht with ht | ht
  ·obtain ⟨B1,C,h1,h2,h3,h4,h5⟩:=h.rd t ht
   refine ⟨B1,C,Nat.le_trans h1 kW.size,h2,fun b hb=>?_,h4,fun N w2 kN hN=>h5 (v.ownBlock.toList++N) w2 ((kW.mono (M:=v.ownBlock.toList++N) (fun x hx=>List.mem_append_left _ hx)).trans kN (fun x hx=>Or.inl (by simp [hx]))) (fun x hx=>?_)⟩
   ·rcases hg with hg | hg
    ·rw [hg] at hb; exact h3 _ hb
    ·rw [hg] at hb; simp only [Option.some.injEq] at hb; omega
   ·rcases List.mem_append.1 hx with hx | hx
    ·exact h3 x (by simpa using hx)
    ·exact hN x hx
  ·obtain ⟨B1,C,h1,h5,h3,h4⟩:=h2.rd t ht
   refine ⟨B1,C,Nat.le_trans h1 (Nat.le_trans k.size kW.size),Nat.le_trans h01 h5,fun b hb=>?_,fun b hb=>?_,fun N w2 kN hN=>h4 ((M++v.ownBlock.toList)++N) w2 (((k.mono (M:=(M++v.ownBlock.toList)++N) (fun x hx=>by simp [hx])).trans (kW.mono (M:=(M++v.ownBlock.toList)++N) (fun x hx=>by simp at hx; simp [hx])) (fun x hx=>Or.inl hx)).trans kN (fun x hx=>Or.inl (by simp [hx]))) (fun x hx=>?_)⟩
   ·have hks:=k.size
    rcases hg with hg | hg
    ·rw [hg] at hb; have:=hv _ hb; exact Or.inl (by omega)
    ·rw [hg] at hb; simp only [Option.some.injEq] at hb; omega
   ·rcases hX b hb with h6 | h6
    ·exact Or.inl (by omega)
    ·exact Or.inr (by omega)
   ·rcases List.mem_append.1 hx with hx | hx
    ·rcases List.mem_append.1 hx with hx | hx
     ·rcases hM x hx with h6 | h6
      ·exact Or.inl (by omega)
      ·exact Or.inr (by omega)
     ·have:=hv x (by simpa using hx); exact Or.inl (by omega)
    ·exact hN x hx
 ·rcases hg with hg | hg
  ·rw [hg] at hb; exact h.ap b hb hm
  ·rw [hg] at hb; simp only [Option.some.injEq] at hb; have:=hXl b hm; omega
def fdC (f:FSt) (sv bv:Value):Array Value:=#[.int .u64 (f.last:Int),.int .u64 (f.ep:Int),.int .u64 (f.sz:Int),sv,bv]
theorem xa0t {w:World} {g:Nat} {f:FSt} {sv bv:Value} {ty:TypeId} (h:w.heap[g]? = some (.cells (fdC f sv bv) ty (0,0))):w.cell? ⟨g,0,none⟩ = some (.int .u64 (f.last:Int))∧w.cell? ⟨g,1,none⟩ = some (.int .u64 (f.ep:Int))∧w.cell? ⟨g,2,none⟩ = some (.int .u64 (f.sz:Int))∧w.cell? ⟨g,3,none⟩ = some sv∧w.cell? ⟨g,4,none⟩ = some bv:=by
 refine ⟨?_,?_,?_,?_,?_⟩ <;> rw [cell_of_row _ _ _ _ _ _ h] <;> rfl
theorem ffroz {w:World} {b:Nat} {cs:Array Value} {t:TypeId} (h:w.heap[b]? = some (.cells cs t (0,0))):w.frozen? ⟨b,0,none⟩ = false∧w.frozen? ⟨b,1,none⟩ = false∧w.frozen? ⟨b,2,none⟩ = false∧w.frozen? ⟨b,3,none⟩ = false∧w.frozen? ⟨b,4,none⟩ = false :=
 ⟨frozen_of_row _ _ _ _ _ h,frozen_of_row _ _ _ _ _ h,frozen_of_row _ _ _ _ _ h,frozen_of_row _ _ _ _ _ h,frozen_of_row _ _ _ _ _ h⟩
structure FK (w0 w:World) (g:Nat) (f:FSt) (sv bv:Value) (ts:List (Nat × Value × List En)):Prop where
 row:w.heap[g]? = some (.cells (fdC f sv bv) 125 (0,0))
 gl:g < w0.heap.size
 sg:w.ownsRow w0.heap.size 9 1 sv f.sg.length (f.sg.map encStr)
 bs:OwnX sv.ownBlock.toList w0 w bv ts
 eq:f.bs = ts.map fun t=>(t.1,t.2.2)
 last:f.last < 18446744073709551616
 ep:f.ep < 18446744073709551616
 szb:f.sz < 18446744073709551616
theorem FK.pass {w0 w w':World} {g:Nat} {f:FSt} {sv bv:Value} {ts:List (Nat × Value × List En)} (h:FK w0 w g f sv bv ts) (k:Kept [] w w'):FK w0 w' g f sv bv ts :=
 { h with row:=k.heap h.row (by simp),sg:=k.owns h.sg (by simp),bs:=h.bs.pass k (by simp) }
set_option maxHeartbeats 2000000 in
theorem xb6f (g a b c:Nat) (z:Int) (f:FSt) (sv bv:Value) (w:World) (hr:w.heap[g]? = some (.cells (fdC f sv bv) 125 (0,0))) (p:List Nat) (hc:(hdC p).c = c) (hb:(hdC p).b = b) :
  Calls Tryz.prog 89 #[.pointer (some ⟨g,0,none⟩),.agg #[.int .u64 (a:Int),.int .u64 (b:Int),.int .u64 (c:Int),.int .i64 z]] w fun e w'=>e = .returned (.bool (goOnF f p))∧Kept [] w w':=by
 have hk:=(Kept.refl [] w).alloc (.cells #[.int .u64 (a:Int),.int .u64 (b:Int),.int .u64 (c:Int),.int .i64 z] 53)
 have hh:=heap_alloc_new w (.cells #[.int .u64 (a:Int),.int .u64 (b:Int),.int .u64 (c:Int),.int .i64 z] 53)
 obtain ⟨c0,c1,c2,c3,c4⟩:=xa0t (hk.heap hr (by simp))
 obtain ⟨q0,q1,q2,q3⟩:=hcells hh
 have HK:=hide hk
 unfold goOnF
 rw [hc,hb]
 clear hk hh hr hc hb c0 c3 c4 q0 q3
 by_cases h1:c = f.sz
 ·rw [decide_eq_true h1,Bool.true_and]
  subst h1
  by_cases h2:f.ep≤b
  ·have g2:(f.ep:Int)≤(b:Int):=by omega
   rw [decide_eq_true h2,Bool.true_and]
   by_cases h3:b < 18446744073709551615
   ·have g3:(b:Int) < 18446744073709551615:=by omega
    rw [decide_eq_true h3]
    go_enter Tryz.func89,Tryz.ntmps89
    go_upto_region 1 with fail
    refine wp_region_quiet_lit (by kernel_rfl) (by kernel_rfl) ?_
    repeat (go_big_quiet_step (fail))
    refine wpQuiet_nil ?_
    rintro _ ⟨m5,rfl⟩
    go_wp2_with fail
    go_ret
    exact ⟨rfl,(uh HK).drewN m5⟩
   ·have g3:¬ (b:Int) < 18446744073709551615:=by omega
    rw [decide_eq_false h3]
    go_enter Tryz.func89,Tryz.ntmps89
    go_upto_region 1 with fail
    refine wp_region_quiet_lit (by kernel_rfl) (by kernel_rfl) ?_
    repeat (go_big_quiet_step (fail))
    refine wpQuiet_nil ?_
    rintro _ ⟨m5,rfl⟩
    go_wp2_with fail
    go_ret
    exact ⟨rfl,(uh HK).drewN m5⟩
  ·have g2:¬ (f.ep:Int)≤(b:Int):=by omega
   rw [decide_eq_false h2,Bool.false_and]
   go_enter Tryz.func89,Tryz.ntmps89
   go_upto_region 1 with fail
   refine wp_region_quiet_lit (by kernel_rfl) (by kernel_rfl) ?_
   repeat (go_big_quiet_step (fail))
   refine wpQuiet_nil ?_
   rintro _ ⟨m5,rfl⟩
   go_wp2_with fail
   go_ret
   exact ⟨rfl,(uh HK).drewN m5⟩
 ·have g1:((c:Int) == (f.sz:Int)) = false:=by simp; omega
  rw [decide_eq_false h1,Bool.false_and,Bool.false_and]
  go_enter Tryz.func89,Tryz.ntmps89
  go_upto_region 1 with fail
  refine wp_region_quiet_lit (by kernel_rfl) (by kernel_rfl) ?_
  repeat (go_big_quiet_step (fail))
  refine wpQuiet_nil ?_
  rintro _ ⟨m5,rfl⟩
  go_wp2_with fail
  go_ret
  exact ⟨rfl,(uh HK).drewN m5⟩
def RdS (w:World) (v:Value) (ss:List (List UInt8)):Prop :=
 ∃ (ao:Option Addr) (len cap:Nat),v = .slice ao len cap∧ss.length = len∧len≤cap∧cap≤9223372036854775807∧(0 < len→∃ b off,ao = some ⟨b,off,none⟩∧∀ i (h:i < ss.length),w.cell? ⟨b,off + i,none⟩ = some (encStr ss[i]))
theorem RdS.kept {L:List Nat} {w w':World} {v:Value} {ss:List (List UInt8)} (h:RdS w v ss) (k:Kept L w w') (hn:∀ x∈blk v,x∉L):RdS w' v ss:=by
 obtain ⟨ao,len,cap,rfl,h1,h2,h3,h4⟩:=h
 refine ⟨ao,len,cap,rfl,h1,h2,h3,fun hp=>?_⟩
 obtain ⟨b,off,rfl,hc⟩:=h4 hp
 exact ⟨b,off,rfl,fun i hi=>k.cell (hc i hi) (hn b (by simp [blk]))⟩
theorem xb2k {w:World} {base:Nat} {v:Value} {ss:List (List UInt8)} (h:w.ownsRow base 9 1 v ss.length (ss.map encStr)):RdS w v ss:=by
 rcases h.2 with ⟨rfl,h0⟩ | ⟨g,cap,cur,rfl,hb,hg,hc,hm,hs,ht⟩
 ·exact ⟨none,0,0,rfl,h0,Nat.le_refl _,by omega,fun h=>by omega⟩
 ·refine ⟨some ⟨g,0,none⟩,ss.length,cap,rfl,rfl,hc,by unfold maxLen at hm; omega,fun hp=>⟨g,0,rfl,fun i hi=>?_⟩⟩
  have h9:=h.cells (g:=g) rfl i (encStr ss[i]) (by rw [List.getElem?_map,List.getElem?_eq_getElem hi]; rfl)
  rw [Addr.add_lit] at h9
  exact h9
end
section
open Go Go.RowKit Go.BigFrame
section
variable {P:Program} {Q:Exit→Act→World→Prop}
theorem wp_c11 {id:Nat} {o0 o1 o2 o3 o4 o5 o6 o7 o8 o9 o10:Oper} {a:Act} {w:World} (hm:P.follows .mixedOrders = true) (hs:Region.noSelect #[o0,o1,o2,o3,o4,o5,o6,o7,o8,o9,o10] = true)
  (f0:Region.free .any #[o0,o1,o2,o3,o4,o5,o6,o7,o8,o9,o10] #[false,false,false,false,false,false,false,false,false,false,false] 0 = true) (r0:(Region.ready .any #[o0,o1,o2,o3,o4,o5,o6,o7,o8,o9,o10] #[false,false,false,false,false,false,false,false,false,false,false]).contains 0 = true) (e0:o10.after.any (fun e=>Region.binds .any e && e.on == 0) = true)
  (f1:Region.free .any #[o0,o1,o2,o3,o4,o5,o6,o7,o8,o9,o10] #[true,false,false,false,false,false,false,false,false,false,false] 1 = true) (r1:(Region.ready .any #[o0,o1,o2,o3,o4,o5,o6,o7,o8,o9,o10] #[true,false,false,false,false,false,false,false,false,false,false]).contains 1 = true) (e1:o10.after.any (fun e=>Region.binds .any e && e.on == 1) = true)
  (f2:Region.free .any #[o0,o1,o2,o3,o4,o5,o6,o7,o8,o9,o10] #[true,true,false,false,false,false,false,false,false,false,false] 2 = true) (r2:(Region.ready .any #[o0,o1,o2,o3,o4,o5,o6,o7,o8,o9,o10] #[true,true,false,false,false,false,false,false,false,false,false]).contains 2 = true) (e2:o10.after.any (fun e=>Region.binds .any e && e.on == 2) = true)
  (f3:Region.free .any #[o0,o1,o2,o3,o4,o5,o6,o7,o8,o9,o10] #[true,true,true,false,false,false,false,false,false,false,false] 3 = true) (r3:(Region.ready .any #[o0,o1,o2,o3,o4,o5,o6,o7,o8,o9,o10] #[true,true,true,false,false,false,false,false,false,false,false]).contains 3 = true) (e3:o10.after.any (fun e=>Region.binds .any e && e.on == 3) = true)
  (f4:Region.free .any #[o0,o1,o2,o3,o4,o5,o6,o7,o8,o9,o10] #[true,true,true,true,false,false,false,false,false,false,false] 4 = true) (r4:(Region.ready .any #[o0,o1,o2,o3,o4,o5,o6,o7,o8,o9,o10] #[true,true,true,true,false,false,false,false,false,false,false]).contains 4 = true) (e4:o10.after.any (fun e=>Region.binds .any e && e.on == 4) = true)
  (f5:Region.free .any #[o0,o1,o2,o3,o4,o5,o6,o7,o8,o9,o10] #[true,true,true,true,true,false,false,false,false,false,false] 5 = true) (r5:(Region.ready .any #[o0,o1,o2,o3,o4,o5,o6,o7,o8,o9,o10] #[true,true,true,true,true,false,false,false,false,false,false]).contains 5 = true) (e5:o10.after.any (fun e=>Region.binds .any e && e.on == 5) = true)
  (f6:Region.free .any #[o0,o1,o2,o3,o4,o5,o6,o7,o8,o9,o10] #[true,true,true,true,true,true,false,false,false,false,false] 6 = true) (r6:(Region.ready .any #[o0,o1,o2,o3,o4,o5,o6,o7,o8,o9,o10] #[true,true,true,true,true,true,false,false,false,false,false]).contains 6 = true) (e6:o10.after.any (fun e=>Region.binds .any e && e.on == 6) = true)
  (q7:Region.ready .any #[o0,o1,o2,o3,o4,o5,o6,o7,o8,o9,o10] #[true,true,true,true,true,true,true,false,false,false,false] = [7]) (g7:o7.guard = none)
  (q8:Region.ready .any #[o0,o1,o2,o3,o4,o5,o6,o7,o8,o9,o10] #[true,true,true,true,true,true,true,true,false,false,false] = [8]) (g8:o8.guard = none)
  (q9:Region.ready .any #[o0,o1,o2,o3,o4,o5,o6,o7,o8,o9,o10] #[true,true,true,true,true,true,true,true,true,false,false] = [9]) (g9:o9.guard = none)
  (q10:Region.ready .any #[o0,o1,o2,o3,o4,o5,o6,o7,o8,o9,o10] #[true,true,true,true,true,true,true,true,true,true,false] = [10]) (g10:o10.guard = none)
  (rr:Region.ready .any #[o0,o1,o2,o3,o4,o5,o6,o7,o8,o9,o10] #[true,true,true,true,true,true,true,true,true,true,true] = [])
  (v0 v1 v2 v3 v4 v5 v6:Value) (A0 A1 A2 A3 A4 A5 A6:Act) (T:World→Prop)
  (I0:World→Prop)
  (I1:Value→World→Prop)
  (I2:Value→Value→World→Prop)
  (I3:Value→Value→Value→World→Prop)
  (IE:Value→Value→Value→World→Prop)
  (p0:a.put o0.dst v0 = A0) (hy0:YieldsIf P #[o0,o1,o2,o3,o4,o5,o6,o7,o8,o9,o10] T o0 v0 a)
  (p1:A0.put o1.dst v1 = A1) (hy1:YieldsIf P #[o0,o1,o2,o3,o4,o5,o6,o7,o8,o9,o10] T o1 v1 A0)
  (p2:A1.put o2.dst v2 = A2) (hy2:YieldsIf P #[o0,o1,o2,o3,o4,o5,o6,o7,o8,o9,o10] T o2 v2 A1)
  (p3:A2.put o3.dst v3 = A3) (hy3:YieldsIf P #[o0,o1,o2,o3,o4,o5,o6,o7,o8,o9,o10] T o3 v3 A2)
  (p4:A3.put o4.dst v4 = A4) (hy4:YieldsIf P #[o0,o1,o2,o3,o4,o5,o6,o7,o8,o9,o10] T o4 v4 A3)
  (p5:A4.put o5.dst v5 = A5) (hy5:YieldsIf P #[o0,o1,o2,o3,o4,o5,o6,o7,o8,o9,o10] T o5 v5 A4)
  (p6:A5.put o6.dst v6 = A6) (hy6:YieldsIf P #[o0,o1,o2,o3,o4,o5,o6,o7,o8,o9,o10] T o6 v6 A5)
  (i0:I0 w.drew)
  (hIT:(∀ w',I0  w'→T w')∧(∀ (u0:Value) w',I1 u0 w'→T w')∧(∀ (u0 u1:Value) w',I2 u0 u1 w'→T w')∧(∀ (u0 u1 u2:Value) w',I3 u0 u1 u2 w'→T w'))
  (s0:∀ w',I0  w'→∀ K:Act→World→Prop,(∀ (u0:Value) w2,I1 u0 w2→K (A6.put o7.dst u0) w2)→o7.wp P A6 w' K (NoPanic Q))
  (s1:∀ (u0:Value) w',I1 u0 w'→∀ K:Act→World→Prop,(∀ (u1:Value) w2,I2 u0 u1 w2→K ((A6.put o7.dst u0).put o8.dst u1) w2)→o8.wp P (A6.put o7.dst u0) w' K (NoPanic Q))
  (s2:∀ (u0 u1:Value) w',I2 u0 u1 w'→∀ K:Act→World→Prop,(∀ (u2:Value) w2,I3 u0 u1 u2 w2→K (((A6.put o7.dst u0).put o8.dst u1).put o9.dst u2) w2)→o9.wp P ((A6.put o7.dst u0).put o8.dst u1) w' K (NoPanic Q))
  (se:∀ (u0 u1 u2:Value) w',I3 u0 u1 u2 w'→∀ K:Act→World→Prop,(∀ w2,IE u0 u1 u2 w2→K (((A6.put o7.dst u0).put o8.dst u1).put o9.dst u2) w2)→o10.wp P (((A6.put o7.dst u0).put o8.dst u1).put o9.dst u2) w' K (NoPanic Q))
  (h:∀ (u0 u1 u2:Value) w',IE u0 u1 u2 w'→Q .normal (((A6.put o7.dst u0).put o8.dst u1).put o9.dst u2) w') :
  (Code.region id #[o0,o1,o2,o3,o4,o5,o6,o7,o8,o9,o10] true).wp P Q a w:=by
 subst p0 p1 p2 p3 p4 p5 p6
 obtain ⟨z0,z1,z2,z3⟩:=hIT
 refine wp_region_noPanic ?_
 refine wp_region_any hm ?_
 refine AnyL.any (S:=fun d w'=>d.getD 10 true = false→T w') _ _ _ _ ?_
 show AnyL P .any #[o0,o1,o2,o3,o4,o5,o6,o7,o8,o9,o10] (NoPanic Q) _ 11 #[false,false,false,false,false,false,false,false,false,false,false] a w.drew
 have hSi:∀ i,i≠10→∀ (d:Array Bool) (w':World),((d.setIfInBounds i true).getD 10 true = false→T w')↔(d.getD 10 true = false→T w'):=by
  intro i h4 d w'
  rw [getD_set_ne true h4]
 refine AnyL.take (i:=0) (t:=10) (oi:=o0) (ot:=o10) (T:=T) rfl rfl (by decide) hs f0 r0 e0 (fun _ _ _ h=>h) (fun d w' h9 hd=>h9 hd) (hSi 0 (by decide)) hy0 rfl (fun _=>z0 _ i0) ?_
 refine AnyL.take (i:=1) (t:=10) (oi:=o1) (ot:=o10) (T:=T) rfl rfl (by decide) hs f1 r1 e1 (fun _ _ _ h=>h) (fun d w' h9 hd=>h9 hd) (hSi 1 (by decide)) hy1 rfl (fun _=>z0 _ i0) ?_
 refine AnyL.take (i:=2) (t:=10) (oi:=o2) (ot:=o10) (T:=T) rfl rfl (by decide) hs f2 r2 e2 (fun _ _ _ h=>h) (fun d w' h9 hd=>h9 hd) (hSi 2 (by decide)) hy2 rfl (fun _=>z0 _ i0) ?_
 refine AnyL.take (i:=3) (t:=10) (oi:=o3) (ot:=o10) (T:=T) rfl rfl (by decide) hs f3 r3 e3 (fun _ _ _ h=>h) (fun d w' h9 hd=>h9 hd) (hSi 3 (by decide)) hy3 rfl (fun _=>z0 _ i0) ?_
 refine AnyL.take (i:=4) (t:=10) (oi:=o4) (ot:=o10) (T:=T) rfl rfl (by decide) hs f4 r4 e4 (fun _ _ _ h=>h) (fun d w' h9 hd=>h9 hd) (hSi 4 (by decide)) hy4 rfl (fun _=>z0 _ i0) ?_
 refine AnyL.take (i:=5) (t:=10) (oi:=o5) (ot:=o10) (T:=T) rfl rfl (by decide) hs f5 r5 e5 (fun _ _ _ h=>h) (fun d w' h9 hd=>h9 hd) (hSi 5 (by decide)) hy5 rfl (fun _=>z0 _ i0) ?_
 refine AnyL.take (i:=6) (t:=10) (oi:=o6) (ot:=o10) (T:=T) rfl rfl (by decide) hs f6 r6 e6 (fun _ _ _ h=>h) (fun d w' h9 hd=>h9 hd) (hSi 6 (by decide)) hy6 rfl (fun _=>z0 _ i0) ?_
 refine AnyL.forced q7 rfl g7 (fun K hK=>s0  w.drew i0 K (fun u0 w1 i1=>hK _ _ (fun _=>z1 u0 w1 i1) ?_))
 refine AnyL.forced q8 rfl g8 (fun K hK=>s1 u0 w1 i1 K (fun u1 w2 i2=>hK _ _ (fun _=>z2 u0 u1 w2 i2) ?_))
 refine AnyL.forced q9 rfl g9 (fun K hK=>s2 u0 u1 w2 i2 K (fun u2 w3 i3=>hK _ _ (fun _=>z3 u0 u1 u2 w3 i3) ?_))
 refine AnyL.forced q10 rfl g10 (fun K hK=>se u0 u1 u2 w3 i3 K (fun we ie=>hK _ _ (fun h9=>(by cases h9)) ?_))
 exact ⟨rr,NoPanic.normal (h u0 u1 u2 we ie)⟩
end
end
section
open Go.RowKit Go.BigFrame Go.Maps Go.Sort
theorem Tryz.infoStr:(Tryz.prog.info? 9).map (fun i=>(i.zero,i.size,i.bytes)) = some (some (.string ⟨#[]⟩),1,16):=by kernel_rfl
theorem xc0e {w:World} {H:Nat} {x:Value} {t:TypeId} (h:w.heap[H]? = some (.cells #[x] t (0,0))):RdC 1 w (.slice (some ⟨H,0,none⟩) 1 1) [[x]]:=by
 refine ⟨_,_,_,rfl,rfl,Nat.le_refl _,by omega,fun _=>⟨H,0,rfl,fun i hi j u hu=>?_⟩⟩
 have hi0:i = 0:=by simp at hi; omega
 subst hi0
 simp only [List.getElem_cons_zero] at hu
 match j with
 | 0 =>
  simp only [List.getElem?_cons_zero,Option.some.injEq] at hu
  subst hu
  have h9:=cell_of_row _ _ 0 _ _ _ h
  simpa using h9
 | j + 1=>simp at hu
theorem xa7y (s:List UInt8):encStr s = .string (strU s):=rfl
theorem OwnX.shape {X:List Nat} {w0 w:World} {v:Value} {ts:List (Nat × Value × List En)} (h:OwnX X w0 w v ts):∃ a c,v = .slice a ts.length c:=xa0v h.own
theorem FK.turn {w0 w w':World} {g:Nat} {f f':FSt} {sv bv:Value} {ts:List (Nat × Value × List En)} (h:FK w0 w g f sv bv ts) (k:Kept [g] w w') (hr:w'.heap[g]? = some (.cells (fdC f' sv bv) 125 (0,0))) (h1:f'.sg = f.sg) (h2:f'.bs = f.bs) (h3:f'.last < 18446744073709551616) (h4:f'.ep < 18446744073709551616) (h5:f'.sz < 18446744073709551616):FK w0 w' g f' sv bv ts:=by
 have hg:∀ x∈[g],x < w0.heap.size:=fun x hx=>by rw [List.mem_singleton.1 hx]; exact h.gl
 exact ⟨hr,h.gl,by rw [h1]; exact k.owns h.sg (fun b hb hm=>by have:=(h.sg.lt b hb).1; have:=hg b hm; omega),h.bs.pass k (fun x hx=>Or.inl (hg x hx)),by rw [h2]; exact h.eq,h3,h4,h5⟩
theorem xb6h (l:List (Nat × List En)) (i:Nat) (h:i < l.length):cntB (l.take (i + 1)) = cntB (l.take i) + l[i].2.length:=by
 unfold cntB
 rw [List.take_succ_eq_append_getElem h,List.map_append,List.sum_append]
 simp only [List.map_cons,List.map_nil,List.sum_cons,List.sum_nil,Nat.add_zero]
theorem xa8f {o:Oper} {a:Act} {w:World} {K:Act→World→Prop} {Q:Exit→Act→World→Prop} (T:Nat) (s x:Operand)
  (ho:o.op = .call { callee:=.builtin .append,args:=#[s,x],argTypes:=#[T,T] }) (hty:o.type = T) (v y:Value) (he:a.eval s = v) (hx:a.eval x = y) (u:Value) (w2:World) (hrun:(Builtin.append_ #[T,T] T #[v,y]).run Tryz.prog w = .ok u w2) (hK:K (a.put o.dst u) w2):o.wp Tryz.prog a w K Q:=by
 unfold Oper.wp execOp
 simp only [ho,hty,resolve,invoke,builtin,Sem.run_bind,Sem.run_pure,Result.andThen_ok,List.map_toArray,List.map_cons,List.map_nil,he,hx,hrun]
 exact hK
set_option maxHeartbeats 8000000 in
theorem xb8g (g a b c u:Nat) (z:Int) (s:List UInt8) (f:FSt) (sv bv v2:Value) (ts ss:List (Nat × Value × List En)) (w0 w1 wR w:World) (M:List Nat) (h:FK w0 w g f sv bv ts) (hk:Kept [g] w0 w) (h2:OwnB w1 wR v2 ss) (k:Kept M wR w) (hM:∀ x∈M,x < w1.heap.size∨wR.heap.size≤x) (h01:w0.heap.size≤w1.heap.size) (hv:∀ x,bv.ownBlock = some x→x < w1.heap.size) (hX:∀ x,sv.ownBlock = some x→x < w1.heap.size)
  (hb:b < 18446744073709551616) (hl:ts.length + ss.length≤1000000000000) (hl2:f.sg.length≤1000000000) :
  Calls Tryz.prog 90 #[.pointer (some ⟨g,0,none⟩),.string (strU s),.agg #[.int .u64 (a:Int),.int .u64 (b:Int),.int .u64 (c:Int),.int .i64 z,v2,.int .i64 (u:Int)]] w fun e w'=>∃ sv' bv',e = .returned (.tuple #[])∧FK w0 w' g ⟨f.last,b,(f.sz + cntB (ss.map fun t=>(t.1,t.2.2))) % 18446744073709551616,f.sg++[s],f.bs++ss.map fun t=>(t.1,t.2.2)⟩ sv' bv' (ts++ss)∧Kept [g] w0 w':=by
 obtain ⟨a2,c2,rfl⟩:=xa0v h2.own
 obtain ⟨sa,sc,rfl⟩:=xa0v h.sg
 obtain ⟨ba,bc,rfl⟩:=h.bs.shape
 have hgw:g < w.heap.size:=lt_of_block h.row
 have k1:=(Kept.refl [] w).alloc (.cells #[.int .u64 (a:Int),.int .u64 (b:Int),.int .u64 (c:Int),.int .i64 z,.slice a2 ss.length c2,.int .i64 (u:Int)] 55)
 have hq:=heap_alloc_new w (.cells #[.int .u64 (a:Int),.int .u64 (b:Int),.int .u64 (c:Int),.int .i64 z,.slice a2 ss.length c2,.int .i64 (u:Int)] 55)
 have hr1:=k1.heap h.row (by simp)
 obtain ⟨s0,s1,s2,s3,s4,s5⟩:=scells hq
 obtain ⟨d0,d1,d2,d3,d4⟩:=xa0t hr1
 obtain ⟨z0,z1,z2,z3,z4⟩:=ffroz hr1
 have H:=hide h
 have HK:=hide hk
 have H2:=hide h2
 have HKR:=hide k
 have HM:=hide hM
 have HV:=hide hv
 have HX:=hide hX
 have HK1:=hide k1
 have HQ:=hide hq
 have HR1:=hide hr1
 have HGW:=hide hgw
 have HSZ:=hide k.size
 clear h hk h2 k hM hv hX k1 hq hr1 hgw
 go_enter Tryz.func90,Tryz.ntmps90
 go_upto_region 2 with fail
 have hS:=heap_setCell_same _ g 1 _ _ (.int .u64 (b:Int)) (uh HR1)
 have kS:=(Kept.refl [g] (w.alloc (.cells #[.int .u64 (a:Int),.int .u64 (b:Int),.int .u64 (c:Int),.int .i64 z,.slice a2 ss.length c2,.int .i64 (u:Int)] 55))).setCell (p:=⟨g,1,none⟩) (.inl (by simp)) (.int .u64 (b:Int))
 have hS2:((w.alloc (.cells #[.int .u64 (a:Int),.int .u64 (b:Int),.int .u64 (c:Int),.int .i64 z,.slice a2 ss.length c2,.int .i64 (u:Int)] 55)).setCell ⟨g,1,none⟩ (.int .u64 (b:Int))).heap[g]? = some (.cells (fdC ⟨f.last,b,f.sz,f.sg,f.bs⟩ (.slice sa f.sg.length sc) (.slice ba ts.length bc)) 125 (0,0)):=by rw [hS]; rfl
 have HF2:=hide (((uh H).pass (uh HK1)).turn kS hS2 rfl rfl (uh H).last hb (uh H).szb)
 have HQ2:=hide (kS.heap (uh HQ) (by intro hm; have:=List.mem_singleton.1 hm; have:=uh HGW; omega))
 have HK2:=hide (((uh HK1).mono (M:=[g]) (by simp)).trans kS (by simp))
 clear hS hS2 kS s0 s1 s2 s3 s4 s5 d0 d1 d2 d3 d4 z0 z1 z2 z3 z4
 generalize (w.alloc (.cells #[.int .u64 (a:Int),.int .u64 (b:Int),.int .u64 (c:Int),.int .i64 z,.slice a2 ss.length c2,.int .i64 (u:Int)] 55)).setCell ⟨g,1,none⟩ (.int .u64 (b:Int)) = W2 at HF2 HQ2 HK2 ⊢
 obtain ⟨d0,d1,d2,d3,d4⟩:=xa0t (uh HF2).row
 have HK3:=hide ((Kept.refl [] W2).alloc (.cells #[.string (strU s)] 9))
 have HN3:=hide (xc0e (heap_alloc_new W2 (.cells #[.string (strU s)] 9)))
 have HF3:=hide ((uh HF2).pass (uh HK3))
 have HZ3:=hide (by have:=lt_of_block (uh HF2).row; exact (uh HF3).gl:g < w0.heap.size)
 go_upto_region 3 with (at_builtin; refine xa4w rfl 47 9 (.tmp 18) (.tmp 20) rfl rfl _ w0.heap.size (.string ⟨#[]⟩) 1 16 Tryz.underlying47 Tryz.infoStr rfl (by decide) (.slice sa f.sg.length sc) f.sg.length (f.sg.map encStr) (uh HF3).sg (some ⟨W2.heap.size,0,none⟩) 1 1 [[.string (strU s)]] (uh HN3) (by simp) (by simp [Value.oneCell']) (by omega) (by omega) (uh HF3).bs.sz rfl rfl ?_; intro a5 cap5 w5 HO5 HGR5 HA5; (have HKA:=hide ((Kept.refl ((Value.slice sa f.sg.length sc).ownBlock.toList) _).grown (uh HGR5) (by intro k hk; left; simp [hk]))); (have HR5:=hide ((uh HKA).heap (uh HF3).row (by intro hm; have h9:=((uh HF3).sg.lt g (by simpa using hm)).1; have:=uh HZ3; omega))); (obtain ⟨e0,e1,e2,e3,e4⟩:=xa0t (uh HR5)); (obtain ⟨z0,z1,z2,z3,z4⟩:=ffroz (uh HR5)))
 have hS:=heap_setCell_same _ g 3 _ _ (.slice a5 (f.sg.length + 1) cap5) (uh HR5)
 have kS:=(Kept.refl [g] w5).setCell (p:=⟨g,3,none⟩) (.inl (by simp)) (.slice a5 (f.sg.length + 1) cap5)
 have hS2:(w5.setCell ⟨g,3,none⟩ (.slice a5 (f.sg.length + 1) cap5)).heap[g]? = some (.cells (fdC ⟨f.last,b,f.sz,f.sg++[s],f.bs⟩ (.slice a5 (f.sg.length + 1) cap5) (.slice ba ts.length bc)) 125 (0,0)):=by rw [hS]; rfl
 have hoX:=(uh HF3).bs.pass (uh HKA) (fun x hx=>Or.inr hx)
 have hoY:OwnX (Value.slice a5 (f.sg.length + 1) cap5).ownBlock.toList w0 w5 (.slice ba ts.length bc) ts:=hoX.turn (n:=(W2.alloc (.cells #[.string (strU s)] 9)).heap.size) (fun x hx=>by
  rcases uh HA5 with h9 | h9
  ·rw [h9] at hx; exact Or.inl hx
  ·rw [h9] at hx; simp only [Option.toList_some,List.mem_singleton] at hx; exact Or.inr (by omega)) rfl (uh HF3).bs (uh HKA)
 have hgl:=(uh HF3).gl
 have HF6:=hide (⟨hS2,hgl,by
   have h9:=uh HO5
   rw [List.length_append,List.map_append]
   refine kS.owns h9 (fun x hx hm=>?_)
   have:=(h9.lt x hx).1
   have:=List.mem_singleton.1 hm
   omega,hoY.pass kS (fun x hx=>Or.inl (by rw [List.mem_singleton.1 hx]; exact hgl)),(uh H).eq,(uh H).last,hb,(uh H).szb⟩:FK w0 (w5.setCell ⟨g,3,none⟩ (.slice a5 (f.sg.length + 1) cap5)) g ⟨f.last,b,f.sz,f.sg++[s],f.bs⟩ (.slice a5 (f.sg.length + 1) cap5) (.slice ba ts.length bc) ts)
 have HX6:=hide (fun x hx=>by
   rcases uh HA5 with h9 | h9
   ·rw [h9] at hx; exact Or.inl (uh HX x hx)
   ·rw [h9] at hx
    have h8:=(uh HK2).size
    have h7:=(uh HKR).size
    simp only [Option.some.injEq] at hx
    have h6:(W2.alloc (.cells #[.string (strU s)] 9)).heap.size = W2.heap.size + 1:=by simp
    exact Or.inr (by omega):∀ x,(Value.slice a5 (f.sg.length + 1) cap5).ownBlock = some x→x < w1.heap.size∨wR.heap.size≤x)
 have kA5:Kept (Value.slice sa f.sg.length sc).ownBlock.toList W2 w5:=((uh HK3).mono (by simp)).trans (uh HKA) (fun x hx=>Or.inl hx)
 have HQ6:=hide (kS.heap (kA5.heap (uh HQ2) (by
   intro hm
   have h9:=((uh HF2).sg.lt w.heap.size (by simpa using hm)).2
   have h8:=uh HX w.heap.size (by simpa using hm)
   have h7:=(uh HKR).size
   have h6:=(uh H2).sz
   omega)) (by intro hm; have:=List.mem_singleton.1 hm; have:=uh HGW; omega))
 have HK6:=hide (by
   have h9:Kept (g :: (Value.slice sa f.sg.length sc).ownBlock.toList) w (w5.setCell ⟨g,3,none⟩ (.slice a5 (f.sg.length + 1) cap5)):=(((uh HK2).mono (M:=g :: (Value.slice sa f.sg.length sc).ownBlock.toList) (by simp)).trans kA5 (fun x hx=>Or.inl (by simp [hx]))).trans kS (fun x hx=>Or.inl (by simp at hx; simp [hx]))
   exact h9)
 have HKW6:=hide ((uh HK).trans (uh HK6) (fun x hx=>by
   rcases List.mem_cons.1 hx with rfl | hx
   ·exact Or.inl (by simp)
   ·exact Or.inr ((uh HF2).sg.lt x (by simpa using hx)).1):Kept [g] w0 (w5.setCell ⟨g,3,none⟩ (.slice a5 (f.sg.length + 1) cap5)))
 have HR6:=hide ((uh HKR).mono (M:=M++(g :: (Value.slice sa f.sg.length sc).ownBlock.toList)) (fun x hx=>by simp [hx]) |>.trans (uh HK6) (fun x hx=>Or.inl (by simp at hx; simp [hx])))
 have HM6:=hide (fun x hx=>by
   rcases List.mem_append.1 hx with hx | hx
   ·exact uh HM x hx
   ·rcases List.mem_cons.1 hx with rfl | hx
    ·exact Or.inl (by omega)
    ·exact Or.inl (uh HX x (by simpa using hx)):∀ x∈M++(g :: (Value.slice sa f.sg.length sc).ownBlock.toList),x < w1.heap.size∨wR.heap.size≤x)
 clear hS hS2 kS hoX hoY kA5 d0 d1 d2 d3 d4 e0 e1 e2 e3 e4 z0 z1 z2 z3 z4 HF2 HF3 HO5 HGR5 HKA HR5 HK3 HN3 HQ2 HK2 HA5 HKR HM HX HK HQ HR1 HK1
 generalize (M++(g :: (Value.slice sa f.sg.length sc).ownBlock.toList)) = M6 at HR6 HM6
 generalize w5.setCell ⟨g,3,none⟩ (.slice a5 (f.sg.length + 1) cap5) = W6 at HF6 HQ6 HK6 HKW6 HR6 ⊢
 obtain ⟨d0,d1,d2,d3,d4⟩:=xa0t (uh HF6).row
 obtain ⟨s0,s1,s2,s3,s4,s5⟩:=scells (uh HQ6)
 have HQL:=hide (by intro x hx; have h9:=uh HV x hx; have h8:=(uh H2).sz; have h7:=uh HSZ; omega:∀ x,(Value.slice ba ts.length bc).ownBlock = some x→x≠w.heap.size)
 have HGB:=hide (by intro hm; have h9:=((uh HF6).bs.own.lt g (by simpa using hm)).1; have:=(uh HF6).gl; omega:g∉(Value.slice ba ts.length bc).ownBlock.toList)
 refine wp_c11 (by kernel_rfl) (by kernel_rfl) (by kernel_rfl) (by kernel_rfl) (by kernel_rfl) (by kernel_rfl) (by kernel_rfl) (by kernel_rfl) (by kernel_rfl) (by kernel_rfl) (by kernel_rfl) (by kernel_rfl) (by kernel_rfl) (by kernel_rfl) (by kernel_rfl) (by kernel_rfl) (by kernel_rfl) (by kernel_rfl) (by kernel_rfl) (by kernel_rfl) (by kernel_rfl) (by kernel_rfl) (by kernel_rfl) (by kernel_rfl) rfl (by kernel_rfl) rfl (by kernel_rfl) rfl (by kernel_rfl) rfl (by kernel_rfl)
  (.pointer (some ⟨g,0,none⟩)) (.pointer (some ⟨g,0,none⟩)) (.pointer (some ⟨g,0,none⟩)) (.pointer (some ⟨g,4,none⟩)) (.slice ba ts.length bc) (.pointer (some ⟨w.heap.size,4,none⟩)) (.slice a2 ss.length c2) _ _ _ _ _ _ _
  (fun w'=>Kept (Value.slice ba ts.length bc).ownBlock.toList W6 w')
  (fun w'=>Kept [] W6 w')
  (fun u0 w'=>∃ a8 cap8 wq,u0 = .slice a8 (ts.length + ss.length) cap8∧Kept [] W6 wq∧w'.ownsRow w0.heap.size 75 2 u0 (ts.length + ss.length) (cellsB ts++cellsB ss)∧wq.grownBy w' (Value.slice ba ts.length bc).ownBlock∧(u0.ownBlock = (Value.slice ba ts.length bc).ownBlock∨u0.ownBlock = some wq.heap.size))
  (fun u0 u1 w'=>u1 = .pointer (some ⟨g,0,none⟩)∧∃ a8 cap8 wq,u0 = .slice a8 (ts.length + ss.length) cap8∧Kept [] W6 wq∧w'.ownsRow w0.heap.size 75 2 u0 (ts.length + ss.length) (cellsB ts++cellsB ss)∧wq.grownBy w' (Value.slice ba ts.length bc).ownBlock∧(u0.ownBlock = (Value.slice ba ts.length bc).ownBlock∨u0.ownBlock = some wq.heap.size))
  (fun u0 u1 u2 w'=>u2 = .pointer (some ⟨g,4,none⟩)∧∃ a8 cap8 wq,u0 = .slice a8 (ts.length + ss.length) cap8∧Kept [] W6 wq∧w'.ownsRow w0.heap.size 75 2 u0 (ts.length + ss.length) (cellsB ts++cellsB ss)∧wq.grownBy w' (Value.slice ba ts.length bc).ownBlock∧(u0.ownBlock = (Value.slice ba ts.length bc).ownBlock∨u0.ownBlock = some wq.heap.size))
  (fun u0 u1 u2 w'=>∃ a8 cap8 wq w8,u0 = .slice a8 (ts.length + ss.length) cap8∧Kept [] W6 wq∧w8.ownsRow w0.heap.size 75 2 u0 (ts.length + ss.length) (cellsB ts++cellsB ss)∧wq.grownBy w8 (Value.slice ba ts.length bc).ownBlock∧(u0.ownBlock = (Value.slice ba ts.length bc).ownBlock∨u0.ownBlock = some wq.heap.size)∧w' = w8.setCell ⟨g,4,none⟩ u0)
  (by simp only [Act.put,sa1,sa2,sa3]; rfl) (by exact Or.inl ⟨by rfl,fun W' hW'=>by go_simp⟩)
  (by simp only [Act.put,sa1,sa2,sa3]; rfl) (by exact Or.inl ⟨by rfl,fun W' hW'=>by go_simp⟩)
  (by simp only [Act.put,sa1,sa2,sa3]; rfl) (by exact Or.inl ⟨by rfl,fun W' hW'=>by go_simp⟩)
  (by simp only [Act.put,sa1,sa2,sa3]; rfl) (by exact Or.inl ⟨by rfl,fun W' hW'=>by go_simp⟩)
  (by simp only [Act.put,sa1,sa2,sa3]; rfl) (by exact Or.inl ⟨by rfl,fun W' hW'=>by have h90:=hW'.cell d4 (uh HGB); go_simp⟩)
  (by simp only [Act.put,sa1,sa2,sa3]; rfl) (by exact Or.inl ⟨by rfl,fun W' hW'=>by go_simp⟩)
  (by simp only [Act.put,sa1,sa2,sa3]; rfl) (by exact Or.inl ⟨by rfl,fun W' hW'=>by have h90:=hW'.cell s4 (by intro hm; exact uh HQL _ (by simpa using hm) rfl); go_simp⟩)
  (Kept.refl [] W6).drew
  ⟨fun w' h=>h.mono (by simp),fun u0 w' h=>by obtain ⟨a8,cap8,wq,_,h1,_,h2,_⟩:=h; exact (h1.mono (by simp)).grown h2 (by intro k hk; left; simp [hk]),fun u0 u1 w' h=>by obtain ⟨_,a8,cap8,wq,_,h1,_,h2,_⟩:=h; exact (h1.mono (by simp)).grown h2 (by intro k hk; left; simp [hk]),fun u0 u1 u2 w' h=>by obtain ⟨_,a8,cap8,wq,_,h1,_,h2,_⟩:=h; exact (h1.mono (by simp)).grown h2 (by intro k hk; left; simp [hk])⟩
  (by
   intro w' k K hK
   have hB7:=(uh H2).stay ((uh HR6).trans k (by simp)) (uh HM6)
   have hF7:=(uh HF6).pass k
   obtain ⟨a8,cap8,w8,hrun,h8,hg8,ha8⟩:=appendC w' w0.heap.size 42 75 (.agg #[.int .u64 0,.slice none 0 0]) 2 32 Tryz.underlying42 Tryz.infoBt rfl (by decide) (.slice ba ts.length bc) ts.length (cellsB ts) hF7.bs.own a2 ss.length c2 (ss.map rowB) hB7.rdC (xb2v ss) hB7.oneC (by omega) (by omega) hF7.bs.sz
   rw [xa4i] at h8
   have hK2:=hK _ _ ⟨a8,cap8,w',rfl,k,h8,hg8,ha8⟩
   clear hK
   simp only [Act.put,sa1,sa2,sa3] at hK2 ⊢
   exact xa8f 42 (.tmp 28) (.tmp 30) rfl rfl (.slice ba ts.length bc) (.slice a2 ss.length c2) rfl rfl _ _ hrun hK2)
  (by rintro u0 w' ⟨a8,cap8,wq,rfl,h1,h2,h3,h4⟩ K hK; unfold Oper.wp execOp; go_simp; exact hK _ _ ⟨rfl,a8,cap8,wq,rfl,h1,h2,h3,h4⟩)
  (by rintro u0 u1 w' ⟨rfl,a8,cap8,wq,rfl,h1,h2,h3,h4⟩ K hK; unfold Oper.wp execOp; go_simp; exact hK _ _ ⟨rfl,a8,cap8,wq,rfl,h1,h2,h3,h4⟩)
  (by
   rintro u0 u1 u2 w' ⟨rfl,a8,cap8,wq,rfl,h1,h2,h3,h4⟩ K hK
   have kk:Kept (Value.slice ba ts.length bc).ownBlock.toList W6 w':=(h1.mono (by simp)).grown h3 (by intro k hk; left; simp [hk])
   have hr9:=kk.heap (uh HF6).row (uh HGB)
   have hw9:=(xa0t hr9).2.2.2.2
   have hz9:=(ffroz hr9).2.2.2.2
   unfold Oper.wp execOp
   go_simp
   exact hK _ ⟨a8,cap8,wq,w',rfl,h1,h2,h3,h4,rfl⟩)
  ?_
 rintro u0 u1 u2 w9 ⟨a8,cap8,wq,w8,rfl,kq,ho8,gr8,ha8,rfl⟩
 simp only [Act.put,sa1,sa2,sa3]
 have kk:Kept (Value.slice ba ts.length bc).ownBlock.toList W6 w8:=(kq.mono (by simp)).grown gr8 (by intro k hk; left; simp [hk])
 have hr8:=kk.heap (uh HF6).row (uh HGB)
 have kS:=(Kept.refl [g] w8).setCell (p:=⟨g,4,none⟩) (.inl (by simp)) (.slice a8 (ts.length + ss.length) cap8)
 have hS2:(w8.setCell ⟨g,4,none⟩ (.slice a8 (ts.length + ss.length) cap8)).heap[g]? = some (.cells (fdC ⟨f.last,b,f.sz,f.sg++[s],f.bs++ss.map fun t=>(t.1,t.2.2)⟩ (.slice a5 (f.sg.length + 1) cap5) (.slice a8 (ts.length + ss.length) cap8)) 125 (0,0)):=by rw [heap_setCell_same _ g 4 _ _ _ hr8]; rfl
 have hgl:=(uh HF6).gl
 have hFq:=(uh HF6).pass kq
 have hcat:=hFq.bs.cat (uh H2) ((uh HR6).trans kq (by simp)) (uh HM6) h01 (uh HV) (fun x hx=>uh HX6 x (by simpa using hx)) (fun x hx=>(hFq.sg.lt x (by simpa using hx)).2) ho8 gr8 ha8
 have kA:Kept (Value.slice ba ts.length bc).ownBlock.toList wq w8:=(Kept.refl _ wq).grown gr8 (by intro k hk; left; simp [hk])
 have hsg8:=kA.owns hFq.sg (fun x hx hm=>hFq.bs.ap x (by simpa using hm) (by simpa using hx))
 have HF9:=hide (⟨hS2,hgl,kS.owns hsg8 (fun x hx hm=>by have:=(hsg8.lt x hx).1; have:=List.mem_singleton.1 hm; omega),hcat.pass kS (fun x hx=>Or.inl (by rw [List.mem_singleton.1 hx]; exact hgl)),by rw [(uh H).eq,List.map_append],(uh H).last,hb,(uh H).szb⟩:FK w0 (w8.setCell ⟨g,4,none⟩ (.slice a8 (ts.length + ss.length) cap8)) g ⟨f.last,b,f.sz,f.sg++[s],f.bs++ss.map fun t=>(t.1,t.2.2)⟩ (.slice a5 (f.sg.length + 1) cap5) (.slice a8 (ts.length + ss.length) cap8) (ts++ss))
 have k69:Kept (g :: (Value.slice ba ts.length bc).ownBlock.toList) W6 (w8.setCell ⟨g,4,none⟩ (.slice a8 (ts.length + ss.length) cap8)):=(kk.mono (fun x hx=>by simp [hx])).trans kS (fun x hx=>Or.inl (by simp at hx; simp [hx]))
 have HKW9:=hide ((uh HKW6).trans k69 (fun x hx=>by
   rcases List.mem_cons.1 hx with rfl | hx
   ·exact Or.inl (by simp)
   ·exact Or.inr (hFq.bs.own.lt x (by simpa using hx)).1))
 have HQ9:=hide (k69.heap (uh HQ6) (by
   intro hm
   rcases List.mem_cons.1 hm with h9 | h9
   ·have:=uh HGW; omega
   ·exact uh HQL _ (by simpa using h9) rfl))
 have HB9:=hide ((uh H2).stay (((uh HR6).mono (M:=M6++(g :: (Value.slice ba ts.length bc).ownBlock.toList)) (fun x hx=>by simp [hx])).trans k69 (fun x hx=>Or.inl (by simp at hx; simp [hx]))) (fun x hx=>by
   rcases List.mem_append.1 hx with hx | hx
   ·exact uh HM6 x hx
   ·rcases List.mem_cons.1 hx with rfl | hx
    ·exact Or.inl (by omega)
    ·exact Or.inl (uh HV x (by simpa using hx))))
 clear kk hr8 kS hS2 hFq hcat kA hsg8 k69 d0 d1 d2 d3 d4 s0 s1 s2 s3 s4 s5 kq ho8 gr8 ha8 HF6 HQ6 HK6 HKW6 HR6 HM6 HX6 HQL HGB H2 HV
 generalize w8.setCell ⟨g,4,none⟩ (.slice a8 (ts.length + ss.length) cap8) = W9 at HF9 HKW9 HQ9 HB9 ⊢
 obtain ⟨s0,s1,s2,s3,s4,s5⟩:=scells (uh HQ9)
 go_wp2_with fail
 clear s0 s1 s2 s3 s4 s5
 go_loopw [37] (fun t37 wr=>∃ i:Nat,i≤ss.length∧t37 = .int .i64 (i:Int)∧Hid (FK w0 wr g ⟨f.last,b,(f.sz + cntB ((ss.map fun t=>(t.1,t.2.2)).take i)) % 18446744073709551616,f.sg++[s],f.bs++ss.map fun t=>(t.1,t.2.2)⟩ (.slice a5 (f.sg.length + 1) cap5) (.slice a8 (ts.length + ss.length) cap8) (ts++ss))∧Hid (Kept [g] w0 wr)∧Hid (OwnB w1 wr (.slice a2 ss.length c2) ss)) (fun t _=>ss.length - (intOf t).toNat)
 case atStart=>exact ⟨0,Nat.zero_le _,rfl,hide (by have h9:=uh HF9; rw [List.take_zero,show cntB [] = 0 from rfl,Nat.add_zero,Nat.mod_eq_of_lt (uh H).szb]; exact h9),HKW9,HB9⟩
 case round =>
  obtain ⟨i,hi,rfl,HF,HK,HB⟩:=hrel
  by_cases hlt:i < ss.length
  ·have hlt':(i:Int) < ss.length:=by omega
   have hmi:i < (ss.map fun t=>(t.1,t.2.2)).length:=by rw [List.length_map]; exact hlt
   have HCN:=hide (xb6h (ss.map fun t=>(t.1,t.2.2)) i hmi)
   rw [List.getElem_map] at HCN
   obtain ⟨qa,ql,qc,hq1,hq2,hq3,hq4,hq5⟩:=(uh HB).rdC
   injection hq1 with e1 e2 e3
   subst e1 e2 e3
   obtain ⟨b2,o2,rfl,hcc⟩:=hq5 (by omega)
   have hri:=hcc i (by rw [List.length_map]; exact hlt)
   rw [List.getElem_map] at hri
   have hrn:=(uh HB).rdN ss[i] (List.getElem_mem hlt)
   generalize ss[i] = X at hri hrn HCN
   obtain ⟨pl,y,es⟩:=X
   dsimp only at hrn HCN
   obtain ⟨ea,en,ec,kv,vv,rfl,hen,hecn,hecm,_⟩:=hrn
   subst hen
   have x0:=hri 0 _ rfl
   have x1:=hri 1 _ rfl
   simp only [Nat.add_zero] at x0
   have HLE:=hide (by omega:es.length≤9223372036854775807)
   clear hcc hri hq2 hq3 hq4 hq5 hmi hecn hecm
   have ha1:IntKind.i64.wrap ((i:Int) + 1) = (i:Int) + 1:=by rw [IntKind.wrap_i64]; omega
   go_upto_region 7 with fail
   have k1:=(Kept.refl [] wr).alloc (.cells #[.int .u64 (pl:Int),.slice ea es.length ec] 75)
   have hh1:=heap_alloc_new wr (.cells #[.int .u64 (pl:Int),.slice ea es.length ec] 75)
   have HF1:=hide ((uh HF).pass k1)
   have HK1:=hide ((uh HK).trans k1 (by simp))
   have HB1:=hide ((uh HB).stay k1 (by simp))
   clear x0 x1
   obtain ⟨W1,hW1⟩:∃ W,wr.alloc (.cells #[.int .u64 (pl:Int),.slice ea es.length ec] 75) = W:=⟨_,rfl⟩
   rw [hW1] at HF1 HK1 HB1 hh1 ⊢
   clear hW1 k1 HF HK HB
   obtain ⟨y0,y1⟩:=bcells hh1
   obtain ⟨d0,d1,d2,d3,d4⟩:=xa0t (uh HF1).row
   dsimp only at d2
   have hw2:IntKind.u64.wrap (es.length:Int) = (es.length:Int):=by rw [IntKind.wrap_u64]; have:=uh HLE; omega
   have hw3:IntKind.u64.wrap ((((f.sz + cntB ((ss.map fun t=>(t.1,t.2.2)).take i)) % 18446744073709551616:Nat):Int) + (es.length:Int)) = (((f.sz + cntB ((ss.map fun t=>(t.1,t.2.2)).take (i + 1))) % 18446744073709551616:Nat):Int):=by
    rw [IntKind.wrap_u64,uh HCN]
    omega
   obtain ⟨SZ,hSZ⟩:∃ SZ,(f.sz + cntB ((ss.map fun t=>(t.1,t.2.2)).take i)) % 18446744073709551616 = SZ:=⟨_,rfl⟩
   obtain ⟨SZ2,hSZ2⟩:∃ SZ2,(f.sz + cntB ((ss.map fun t=>(t.1,t.2.2)).take (i + 1))) % 18446744073709551616 = SZ2:=⟨_,rfl⟩
   rw [hSZ,hSZ2] at hw3
   rw [hSZ] at d2 HF1
   have HSZ2:=hide hSZ2
   have HS2B:=hide (by rw [← hSZ2]; exact Nat.mod_lt _ (by omega):SZ2 < 18446744073709551616)
   clear hSZ hSZ2 hh1 d0 d1 d3 d4 HCN
   refine xa0z 9 (by kernel_rfl) (by kernel_rfl) ?_
   simp only [List.take_succ_cons,List.take_zero,List.drop_succ_cons,List.drop_zero]
   repeat (go_big_quiet_step (fail))
   refine wpQuiet_nil ?_
   rintro _ ⟨n5,rfl⟩
   have kD:Kept [] W1 (W1.drewN n5):=(Kept.refl [] W1).drewN n5
   have HF2:=hide ((uh HF1).pass kD)
   have HK2:=hide ((uh HK1).trans kD (by simp))
   have HB2:=hide ((uh HB1).stay kD (by simp))
   clear kD y0 y1 d2 HF1 HK1 HB1
   generalize W1.drewN n5 = W3 at HF2 HK2 HB2 ⊢
   obtain ⟨d0,d1,d2,d3,d4⟩:=xa0t (uh HF2).row
   obtain ⟨z0,z1,z2,z3,z4⟩:=ffroz (uh HF2).row
   dsimp only at d2
   have hS2:(W3.setCell ⟨g,2,none⟩ (.int .u64 (SZ2:Int))).heap[g]? = some (.cells (fdC ⟨f.last,b,SZ2,f.sg++[s],f.bs++ss.map fun t=>(t.1,t.2.2)⟩ (.slice a5 (f.sg.length + 1) cap5) (.slice a8 (ts.length + ss.length) cap8)) 125 (0,0)):=by rw [heap_setCell_same _ g 2 _ _ _ (uh HF2).row]; rfl
   have kS:=(Kept.refl [g] W3).setCell (p:=⟨g,2,none⟩) (.inl (by simp)) (.int .u64 (SZ2:Int))
   have HF3:=hide ((uh HF2).turn kS hS2 rfl rfl (uh HF2).last (uh HF2).ep (uh HS2B))
   have HK3:=hide ((uh HK2).trans kS (fun x hx=>Or.inl hx))
   have HB3:=hide ((uh HB2).stay kS (fun x hx=>Or.inl (by rw [List.mem_singleton.1 hx]; have:=(uh HF2).gl; omega)))
   clear hS2 kS
   go_wp2_with fail
   go_roundw
   case rel=>exact ⟨i + 1,by omega,by simp,hide (by rw [uh HSZ2]; exact uh HF3),HK3,HB3⟩
   case measure=>simp [intOf]; omega
  ·have hlt':¬ (i:Int) < ss.length:=by omega
   have hie:i = ss.length:=by omega
   subst hie
   have hfin:=uh HF
   rw [List.take_of_length_le (by rw [List.length_map]; exact Nat.le_refl _)] at hfin
   have HFI:=hide hfin
   clear hfin
   go_wp2_with fail
   refine bodyPost_end (v:=.tuple #[]) (results_none rfl _ _ _) rfl ⟨rfl,⟨_,_,uh HFI⟩,uh HK⟩
end
section
open Go.RowKit Go.BigFrame
theorem rdL_le:∀ (k:Nat) (p:List Nat) (z i:Nat),(rdL k p z i).1.length≤k
 | 0,p,z,i=>by simp [rdL]
 | k + 1,p,z,i=>by
  rw [rdL]
  split
  ·have:=rdL_le k p (rbN p z i).toNat ((i + (rbE p z i).length) % 18446744073709551616)
   simp only [List.length_cons]
   omega
  ·simp
theorem sgB_le (p:List Nat):(sgB p).length≤p.length:=by
 unfold sgB
 split
 ·exact rdL_le _ _ _ _
 ·simp
def rdT (σ:DSt) (l:List (List UInt8)):Nat:=(l.map fun s=>(stRead σ (strU s)).1.length).sum
theorem xb8z (σ:DSt) (s:List UInt8) (l:List (List UInt8)):rdT σ (s :: l) = (stRead σ (strU s)).1.length + rdT σ l:=by simp [rdT]
def totA (A:List DF):Nat:=(A.map fun f=>f.bs.length).sum
theorem xa8u {A:List DF} (hd:Dist A) {f:DF} (hf:f∈A):findA A f.nm.data.toList = some f:=by
 unfold findA
 have hd2:A.Pairwise fun a b=>a.nm≠b.nm:=hd
 induction hd2 with
 | nil=>simp at hf
 | @cons y l hy hl ih =>
  rcases List.mem_cons.1 hf with rfl | hf
  ·simp
  ·rw [List.find?_cons]
   have hne:(y.nm.data.toList == f.nm.data.toList) = false:=by
    rw [beq_eq_false_iff_ne]
    intro e
    exact hy f hf (ba_ext e)
   rw [hne]
   exact ih hl hf
theorem rdT_le (σ:DSt) (hd:Dist σ.A):rdT σ (nmsOf σ)≤totA σ.A:=by
 unfold rdT nmsOf
 by_cases ho:σ.off = true
 ·rw [if_pos ho]; simp
 ·rw [if_neg ho]
  have hp:(srtN σ.A).Perm (σ.A.map fun f=>f.nm.data.toList):=List.mergeSort_perm _ _
  rw [(hp.map (fun s=>(stRead σ (strU s)).1.length)).sum_nat,List.map_map]
  unfold totA
  apply Nat.le_of_eq
  congr 1
  apply List.map_congr_left
  intro f hf
  simp only [Function.comp]
  unfold stRead
  rw [if_neg ho]
  have h1:(strU f.nm.data.toList).data.toList = f.nm.data.toList:=by simp [strU]
  rw [h1,xa8u hd hf]
theorem xb7w {σ:DSt} {s:List UInt8} (h:s∈nmsOf σ):∃ f∈σ.A,s = f.nm.data.toList:=by
 unfold nmsOf at h
 by_cases ho:σ.off = true
 ·rw [if_pos ho] at h; simp at h
 ·rw [if_neg ho] at h
  have hp:(srtN σ.A).Perm (σ.A.map fun f=>f.nm.data.toList):=List.mergeSort_perm _ _
  obtain ⟨f,hf,e⟩:=List.mem_map.1 (hp.mem_iff.1 h)
  exact ⟨f,hf,e.symm⟩
theorem xb7k (σ:DSt):(nmsOf σ).length≤σ.A.length:=by
 unfold nmsOf
 split
 ·simp
 ·have hp:(srtN σ.A).Perm (σ.A.map fun f=>f.nm.data.toList):=List.mergeSort_perm _ _
  rw [hp.length_eq,List.length_map]
  exact Nat.le_refl _
theorem hd_lt (p:List Nat):(hdC p).a < 18446744073709551616∧(hdC p).b < 18446744073709551616∧(hdC p).c < 18446744073709551616:=by
 unfold hdC hdF
 split
 ·simp
 ·split
  ·exact ⟨beL_lt _,beL_lt _,beL_lt _⟩
  ·simp
theorem nbU_lt (l:List Nat):nbU l < 18446744073709551616:=by
 unfold nbU
 split
 ·exact dv_lt _ 0 (by omega)
 ·omega
def dH (sec:Nat) (op:Int) (A:List DF):DSt:=⟨sec,0,op,false,fun _=>none,A⟩
theorem opE_h (op:Int) (own:Nat) (h:0≤op):opE (fun _=>none) 0 op own = own:=by
 unfold opE
 rw [if_neg (by omega)]
 by_cases h0:own = 0
 ·simp [h0]
 ·simp [h0]
theorem tick_h (sec:Nat) (op:Int) (A C:List DF) (h:0≤op):tick (dH sec op A) C = dH sec (op + 1) C:=by
 unfold tick dH
 simp only [DSt.mk.injEq,true_and,and_true]
 simp
 omega
theorem xb8j {sec:Nat} {op:Int} {A:List DF} {s:ByteArray} (h:0≤op) (hs:isNm s = true) (hn:findA A s.data.toList = none):stCreate (dH sec op A) s = (0,dH sec (op + 1) (A++[⟨s,[],0,false⟩])):=by
 have ho:ownA A s = 0:=by unfold ownA; rw [hs,hn]; rfl
 unfold stCreate
 rw [tick_h sec op A _ h]
 show (if false = true then _ else (opE (fun _=>none) 0 op (ownA A s),_)) = _
 rw [if_neg (by simp),opE_h op _ h]
 show (ownA A s,dH sec (op + 1) (if ownA A s = 0∧opE (fun _=>none) 0 op (ownA A s)≠7 then A++[⟨s,[],0,false⟩] else A)) = _
 rw [opE_h op _ h,ho]
 simp
theorem xa5c {sec:Nat} {op:Int} {A:List DF} {s:ByteArray} (p:List Nat) (h:0≤op) (hn:(findA A s.data.toList).isSome = true):stAppend (dH sec op A) s p = (0,dH sec (op + 1) (upA A s fun f=>{ f with bs:=f.bs++p })):=by
 have hk:appK (dH sec op A) p = p.length:=by
  unfold appK
  show (if opE (fun _=>none) 0 op 0 = 7 then _ else _) = _
  rw [opE_h op 0 h]; simp
 unfold stAppend
 rw [hk,List.take_length,tick_h sec op A _ h,tick_h sec op A _ h]
 show (if false = true then _ else if (findA A s.data.toList).isSome = true then (opE (fun _=>none) 0 op 0,_) else _) = _
 rw [if_neg (by simp),if_pos hn,opE_h op 0 h]
 rfl
theorem sync_h {sec:Nat} {op:Int} {A:List DF} {s:ByteArray} (h:0≤op) (hn:(findA A s.data.toList).isSome = true):stSync (dH sec op A) s = (0,dH sec (op + 1) (upA A s fun f=>{ f with sy:=f.bs.length })):=by
 unfold stSync
 rw [tick_h sec op A _ h,tick_h sec op A _ h]
 show (if false = true then _ else if (findA A s.data.toList).isSome = true then (opE (fun _=>none) 0 op 0,dH sec (op + 1) (if opE (fun _=>none) 0 op 0 = 0 then _ else _)) else _) = _
 rw [if_neg (by simp),if_pos hn,opE_h op 0 h]
 simp
 rfl
theorem xc1f {sec:Nat} {op:Int} {A:List DF} (h:0≤op):stNames (dH sec op A) = (0,dH sec (op + 1) (ndA A)):=by
 unfold stNames
 rw [tick_h sec op A _ h]
 show (if false = true then _ else (opE (fun _=>none) 0 op 0,dH sec (op + 1) (if opE (fun _=>none) 0 op 0 = 0 then _ else _))) = _
 rw [if_neg (by simp),opE_h op 0 h]
 simp
 rfl
theorem xa5y (A:List DF) (s:ByteArray) (F:DF→DF) (x:DF) (hx:x.nm = s) (hA:∀ f∈A,f.nm≠s):upA (A++[x]) s F = A++[F x]:=by
 unfold upA
 rw [List.map_append]
 congr 1
 ·conv=>rhs; rw [← List.map_id A]
  apply List.map_congr_left
  intro f hf
  rw [if_neg (hA f hf)]
  rfl
 ·simp [hx]
theorem xb1l {A:List DF} {s:ByteArray} (h:∀ f∈A,f.nm≠s):findA A s.data.toList = none:=by
 unfold findA
 rw [List.find?_eq_none]
 intro f hf
 simp only [beq_iff_eq]
 intro e
 exact h f hf (ba_ext e)
theorem xa2e {A:List DF} {s:ByteArray} {x:DF} (hx:x.nm = s):(findA (A++[x]) s.data.toList).isSome = true:=by
 unfold findA
 rw [List.find?_isSome]
 exact ⟨x,by simp,by simp [hx]⟩
theorem nmB_ok (n:Nat):isNm (nmB n) = true:=by
 unfold isNm
 rw [xa3n,Bool.and_eq_true]
 refine ⟨by decide,?_⟩
 rw [List.all_eq_true]
 intro b hb
 unfold nmB strB at hb
 simp only [List.mem_map] at hb
 obtain ⟨x,hx,rfl⟩:=hb
 have hx2:x = 115∨x = 101∨x = 103∨x = 45∨(48≤x∧x≤57):=by
  rcases List.mem_append.1 hx with h | h
  ·simp at h; omega
  ·have:=xa7x 20 n x h; omega
 have hm:(UInt8.ofNat x).toNat = x:=by simp; omega
 rw [hm]
 unfold nameB
 simp only [Bool.or_eq_true,decide_eq_true_eq]
 omega
theorem xa7v {sec:Nat} {op:Int} {A:List DF} (n ep fs:Nat) {wd:Int} (h:0≤op) (hw:wideB wd = true) (hA:∀ f∈A,f.nm≠nmB n) :
  stBegin (dH sec op A) n ep fs wd = (0,dH sec (op + 4) (ndA (A++[⟨nmB n,ehB n ep fs wd,48,false⟩]))):=by
 unfold stBegin
 rw [xb8j h (nmB_ok n) (xb1l hA)]
 rw [xb3a (r:=(0,_)) rfl]
 rw [xa5c _ (by omega) (xa2e rfl),xa5y _ _ _ _ rfl hA]
 rw [xb3a (r:=(0,_)) rfl]
 rw [sync_h (by omega) (xa2e rfl),xa5y _ _ _ _ rfl hA]
 rw [xb3a (r:=(0,_)) rfl]
 rw [xc1f (by omega)]
 simp only [List.nil_append,xb2f hw]
 rw [show op + 1 + 1 + 1 + 1 = op + 4 by omega]
end
section
open Go.RowKit Go.BigFrame Go.Maps Go.Sort


end
section
open Go Go.RowKit Go.BigFrame
section
variable {P:Program} {Q:Exit→Act→World→Prop}
end
end
section
open Go.RowKit Go.BigFrame Go.Maps Go.Sort


end
section
open Go.RowKit Go.BigFrame
theorem xb3g:∀ (s t:List UInt8),natL s < natL t→s < t
 | [],[],h=>absurd h (List.lt_irrefl _)
 | [],y :: t,_=>by simp
 | x :: s,[],h=>absurd h (List.not_lt_nil _)
 | x :: s,y :: t,h=>by
  rw [List.cons_lt_cons_iff]
  simp only [natL,List.map_cons] at h
  rcases List.cons_lt_cons_iff.1 h with h | ⟨h1,h2⟩
  ·exact Or.inl (by rw [UInt8.lt_iff_toNat_lt]; exact h)
  ·exact Or.inr ⟨UInt8.toNat_inj.1 h1,xb3g s t h2⟩
theorem xb1n {l:List Nat} (h:nbE l = 0):l = nmL (nbU l):=by
 unfold nbE at h
 unfold nbU
 split at h
 ·rename_i h1; rw [if_pos h1]; exact h1
 ·cases h
theorem num_le {s t:List UInt8} (h:s≤t) (hs:nbE (natL s) = 0) (ht:nbE (natL t) = 0):nbU (natL s)≤nbU (natL t):=by
 by_cases hc:nbU (natL s)≤nbU (natL t)
 ·exact hc
 ·exfalso
  have h1:=nmL_lt (show nbU (natL t) < nbU (natL s) by omega) (nbU_lt _)
  rw [← xb1n hs,← xb1n ht] at h1
  exact (List.not_lt.2 h) (xb3g _ _ h1)
end
section
open Go.RowKit Go.BigFrame Go.Maps Go.Sort
theorem xa8c (s:List UInt8):(strU s).size = s.length:=by simp [strU,ByteArray.size]
theorem xb9h (σ:DSt) (s:ByteArray):(stSync σ s).1 < 100:=xa2z σ s
set_option maxHeartbeats 4000000 in
theorem xa9r (g d nb ob bb:Nat) (B:List Nat) (σ:DSt) (f:FSt) (sv bv:Value) (w:World) (hr:w.heap[g]? = some (.cells (fdC f sv bv) 125 (0,0))) (hs:RdS w sv f.sg) (hsz:∀ s∈f.sg,s.length≤40) (hD:DKf w d B nb ob bb σ) (hsB:∀ x∈blk sv,x∉B) (hn:nb≤1000000000) (hob:ob + f.sg.length≤1000000000) :
  Calls Tryz.prog 50 #[.pointer (some ⟨g,0,none⟩),.pointer (some ⟨d,0,none⟩)] w fun e w'=>∃ B',e = .returned (.int .i64 ((stSyncs σ f.sg).1:Nat))∧DKf w' d B' nb (ob + f.sg.length) bb (stSyncs σ f.sg).2∧Ev w w' B B':=by
 have HS:=hide hs
 obtain ⟨sa,sl,sc,rfl,h1,h2,h3,h4⟩:=hs
 obtain ⟨c0,c1,c2,c3,c4⟩:=xa0t hr
 have H4:=hide h4
 have HSZ:=hide hsz
 have HDK:=hide hD
 have HSB:=hide hsB
 obtain ⟨L,hL⟩:∃ L,f.sg = L:=⟨_,rfl⟩
 rw [hL] at h1 H4 HSZ hob ⊢
 subst h1
 clear hsz hD hsB h4 c0 c1 c2 c4 hr HS hL
 obtain ⟨⟨E0,τ0⟩,hR0⟩:∃ R,stSyncs σ L = R:=⟨_,rfl⟩
 rw [hR0]
 have HR0:=hide hR0
 clear hR0
 dsimp only at *
 go_enter Tryz.func50,Tryz.ntmps50
 go_wp2_with fail
 clear c3
 go_loopw [13] (fun t13 wr=>∃ (i:Nat) (Bi:List Nat) (τ:DSt),i≤L.length∧t13 = .int .i64 (i:Int)∧Hid (stSyncs τ (L.drop i) = (E0,τ0))∧Hid (DKf wr d Bi nb (ob + i) bb τ)∧Hid (Ev w wr B Bi)) (fun t _=>L.length - (intOf t).toNat)
 case atStart=>exact ⟨0,B,σ,Nat.zero_le _,rfl,by rw [List.drop_zero]; exact HR0,HDK,hide (Ev.refl _ _)⟩
 case round =>
  obtain ⟨i,Bi,τ,hi,rfl,HT,HD,HE⟩:=hrel
  by_cases hlt:i < L.length
  ·have hlt':(i:Int) < L.length:=by omega
   obtain ⟨b,off,rfl,hc⟩:=uh H4 (by omega)
   have q0:=(uh HE).1.cell (hc i hlt) (uh HSB b (by simp [blk]))
   have HSI:=hide (uh HSZ L[i] (List.getElem_mem hlt))
   have HDR:=hide (List.drop_eq_getElem_cons hlt)
   generalize L[i] = s at q0 HSI HDR
   have hic:(i:Int) < sc:=by omega
   rw [xa7y] at q0
   have ha1:IntKind.i64.wrap ((i:Int) + 1) = (i:Int) + 1:=by rw [IntKind.wrap_i64]; omega
   clear hc
   have HSY:=hide (sync_F d nb (ob + i) bb Bi τ (strU s) wr (uh HD) (by rw [xa8c]; have:=uh HSI; omega) hn (by omega))
   have HLT:=hide (xb9h τ (strU s))
   obtain ⟨⟨E1,τ1⟩,hR1⟩:∃ R,stSync τ (strU s) = R:=⟨_,rfl⟩
   have HN:=hide (fun (h0:E1≠0)=>(by have h9:=uh HT; rw [uh HDR] at h9; unfold stSyncs at h9; rw [hR1,if_pos h0] at h9; exact h9:(E1,τ1) = (E0,τ0)))
   have HY:=hide (fun (h0:E1 = 0)=>(by have h9:=uh HT; rw [uh HDR] at h9; unfold stSyncs at h9; rw [hR1,if_neg (by simpa using h0)] at h9; exact h9:stSyncs τ1 (L.drop (i + 1)) = (E0,τ0)))
   rw [hR1] at HSY HLT
   clear hR1 HT HDR
   dsimp only at *
   go_wp2_with fail
   refine Calls.mono (uh HSY) ?_
   rintro e w1 ⟨B1,rfl,hd1,ev1⟩
   have HD1:=hide hd1
   have HE1:=hide ((uh HE).trans ev1)
   clear hd1 ev1 q0 HSY HD HE
   by_cases h0:E1 = 0
   ·subst h0
    have HT1:=hide (uh HY rfl)
    go_wp2_with fail
    go_roundw
    case rel=>exact ⟨i + 1,B1,τ1,by omega,by simp,HT1,HD1,HE1⟩
    case measure=>simp [intOf]; omega
   ·have h0':((E1:Int) != 0) = true:=by rw [bne_iff_ne]; omega
    have hz:=uh HN h0
    cases hz
    go_wp2_with fail
    go_ret
    first | exact ⟨B1,rfl,(uh HD1).more (Nat.le_refl _) (by omega) (Nat.le_refl _),uh HE1⟩ | exact ⟨rfl,B1,(uh HD1).more (Nat.le_refl _) (by omega) (Nat.le_refl _),uh HE1⟩
  ·have hlt':¬ (i:Int) < L.length:=by omega
   have hie:i = L.length:=by omega
   subst hie
   have hz:=uh HT
   rw [List.drop_length] at hz
   unfold stSyncs at hz
   cases hz
   go_wp2_with fail
   go_ret
   first | exact ⟨Bi,rfl,uh HD,uh HE⟩ | exact ⟨rfl,Bi,uh HD,uh HE⟩
theorem Tryz.size_found:(Tryz.prog.info? 125).map (·.size) = some 5:=by kernel_rfl
theorem xa2a {w:World} {g:Nat} {a b c d e:Value} {t:TypeId} (h:w.heap[g]? = some (.cells #[a,b,c,d,e] t (0,0))) (x y z u r:Value):(((((w.setCell ⟨g,0,none⟩ x).setCell ⟨g,1,none⟩ y).setCell ⟨g,2,none⟩ z).setCell ⟨g,3,none⟩ u).setCell ⟨g,4,none⟩ r).heap[g]? = some (.cells #[x,y,z,u,r] t (0,0)):=by
 rw [heap_setCell_same _ g 4 _ t _ (heap_setCell_same _ g 3 _ t _ (heap_setCell_same _ g 2 _ t _ (heap_setCell_same _ g 1 _ t _ (heap_setCell_same w g 0 _ t _ h))))]; rfl
theorem xa1s {L:List Nat} {w0 w:World} (k:Kept L w0 w) (g:Nat) (hg:g∈L∨w0.heap.size≤g) (x y z u r:Value):Kept L w0 (((((w.setCell ⟨g,0,none⟩ x).setCell ⟨g,1,none⟩ y).setCell ⟨g,2,none⟩ z).setCell ⟨g,3,none⟩ u).setCell ⟨g,4,none⟩ r):=((((k.setCell hg x).setCell hg y).setCell hg z).setCell hg u).setCell hg r
theorem cells5 {w:World} {g:Nat} {a b c d e:Value} {t:TypeId} (h:w.heap[g]? = some (.cells #[a,b,c,d,e] t (0,0))):w.cell? ⟨g,0,none⟩ = some a∧w.cell? ⟨g,1,none⟩ = some b∧w.cell? ⟨g,2,none⟩ = some c∧w.cell? ⟨g,3,none⟩ = some d∧w.cell? ⟨g,4,none⟩ = some e:=by
 refine ⟨?_,?_,?_,?_,?_⟩ <;> rw [cell_of_row _ _ _ _ _ _ h] <;> rfl
theorem OwnX.base {X:List Nat} {w0 w1 w:World} {v:Value} {ts:List (Nat × Value × List En)} (h:OwnX X w1 w v ts) (hb:w0.heap.size≤w1.heap.size):OwnX X w0 w v ts:=by
 refine ⟨xa2u h.own hb,fun t ht=>?_,Nat.le_trans hb h.sz,h.ap⟩
 obtain ⟨B,C,h1,h2,h3,h4,h5⟩:=h.rd t ht
 exact ⟨B,C,h1,Nat.le_trans hb h2,h3,h4,h5⟩
abbrev zFd:Array Value:=#[.int .u64 0,.int .u64 0,.int .u64 0,.slice none 0 0,.slice none 0 0]
def FindR (w w':World) (R:Option FSt) (e:Ending):Prop :=
 (R = none∧e = .returned (.tuple #[.agg zFd,.bool false])) ∨
 ∃ f sv bv ts,R = some f∧e = .returned (.tuple #[.agg (fdC f sv bv),.bool true])∧w'.ownsRow w.heap.size 9 1 sv f.sg.length (f.sg.map encStr)∧OwnX sv.ownBlock.toList w w' bv ts∧f.bs = ts.map (fun t=>(t.1,t.2.2))∧f.last < 18446744073709551615∧f.ep < 18446744073709551615∧f.sz < 18446744073709551616
theorem xc0o {σ:DSt} {wd:Int} {f:FSt} {s:List UInt8} (h:nbE (natL s)≠0):stepF σ wd f s = some f:=by unfold stepF; rw [if_pos h]
theorem xc0r {σ:DSt} {wd:Int} {f:FSt} {s:List UInt8} (h:nbE (natL s) = 0) (h2:nbU (natL s) = 18446744073709551615):stepF σ wd f s = none:=by unfold stepF; rw [if_neg (by simpa using h),if_pos h2]
theorem xc1d {σ:DSt} {wd:Int} {f:FSt} {s:List UInt8} {p:List Nat} (hp:(stRead σ (strU s)).1 = p) (h:nbE (natL s) = 0) (h2:nbU (natL s)≠18446744073709551615) (h3:sgE p≠0):stepF σ wd f s = some ⟨nbU (natL s),f.ep,f.sz,f.sg,f.bs⟩:=by unfold stepF; rw [if_neg (by simpa using h),if_neg h2,hp,if_pos h3]
theorem xc1j {σ:DSt} {wd:Int} {f:FSt} {s:List UInt8} {p:List Nat} (hp:(stRead σ (strU s)).1 = p) (h:nbE (natL s) = 0) (h2:nbU (natL s)≠18446744073709551615) (h3:sgE p = 0) (h4:¬ ((hdC p).a = nbU (natL s)∧((hdC p).d:Int) = wd∧goOnF f p = true)):stepF σ wd f s = none:=by unfold stepF; rw [if_neg (by simpa using h),if_neg h2,hp,if_neg (by simpa using h3),if_neg h4]
theorem xc0i {σ:DSt} {wd:Int} {f:FSt} {s:List UInt8} {p:List Nat} (hp:(stRead σ (strU s)).1 = p) (h:nbE (natL s) = 0) (h2:nbU (natL s)≠18446744073709551615) (h3:sgE p = 0) (h4:(hdC p).a = nbU (natL s)∧((hdC p).d:Int) = wd∧goOnF f p = true):stepF σ wd f s = some ⟨nbU (natL s),(hdC p).b,(f.sz + cntB (sgB p)) % 18446744073709551616,f.sg++[s],f.bs++sgB p⟩:=by unfold stepF; rw [if_neg (by simpa using h),if_neg h2,hp,if_neg (by simpa using h3),if_pos h4]
theorem xb3j (f:FSt) (n:Nat) (p:List Nat):goOnF ⟨n,f.ep,f.sz,f.sg,f.bs⟩ p = goOnF f p:=rfl
theorem xa7q {σ:DSt} {wd:Int} {f:FSt} {s:List UInt8} {r:List (List UInt8)} {R:Option FSt} (h:findF σ wd f (s :: r) = R) (h2:stepF σ wd f s = none):R = none:=by
 unfold findF at h; rw [h2] at h; exact h.symm
theorem xa5e {σ:DSt} {wd:Int} {f g:FSt} {s:List UInt8} {r:List (List UInt8)} {R:Option FSt} (h:findF σ wd f (s :: r) = R) (h2:stepF σ wd f s = some g):findF σ wd g r = R:=by
 unfold findF at h; rw [h2] at h; exact h
set_option maxHeartbeats 8000000 in
theorem xb6i (d nb ob bb g0:Nat) (wd:Int) (B:List Nat) (σ:DSt) (w:World) (hD:DKf w d B nb ob bb σ) (hv:VarsG g0 w) (hg0:g0≤w.heap.size) (hn:nb≤1000000000) (hob:ob≤1000000000) (hb:bb≤100000000000) (hT:rdT σ (nmsOf σ)≤1000000000000) :
  Calls Tryz.prog 49 #[.pointer (some ⟨d,0,none⟩),.int .i64 wd] w fun e w'=>FindR w w' (findF σ wd fst0 (nmsOf σ)) e∧Kept [] w w':=by
 have HDK:=hide hD
 have HVG:=hide hv
 have kA:=(Kept.refl [] w).alloc (.cells zFd 125)
 have kB:=kA.alloc (.cells zFd 125)
 have hA:=heap_alloc_new w (.cells zFd 125)
 have hA2:=((Kept.refl [] (w.alloc (.cells zFd 125))).alloc (.cells zFd 125)).heap hA (by simp)
 have hB:=heap_alloc_new (w.alloc (.cells zFd 125)) (.cells zFd 125)
 rw [show (w.alloc (.cells zFd 125)).heap.size = w.heap.size + 1 by simp] at hB
 obtain ⟨L,hL⟩:∃ L,nmsOf σ = L:=⟨_,rfl⟩
 have HNL:=hide (by rw [← hL]; exact Nat.le_trans (xb7k σ) (Nat.le_trans hD.len hn):L.length≤1000000000)
 have HNM:=hide (fun s hs=>by
  rw [← hL] at hs
  obtain ⟨f,hf,rfl⟩:=xb7w hs
  have:=(xa8s (hD.nms f hf)).2
  exact Nat.le_trans (Nat.le_of_eq (Array.length_toList)) this:∀ s∈L,s.length≤40)
 have HNC:=hide (xb6e d (max nb ob) bb B σ _ (hD.toDK.kept kB (by simp)) (by omega))
 rw [hL] at hT HNC ⊢
 obtain ⟨R,hR⟩:∃ R,findF σ wd fst0 L = R:=⟨_,rfl⟩
 rw [hR]
 have HR:=hide hR
 have HKB:=hide kB
 have HA:=hide hA2
 have HB:=hide hB
 have HW:=hide (rfl:w.heap.size = w.heap.size)
 clear hD hv kA kB hA hA2 hB hL hR
 go_enter Tryz.func49,Tryz.ntmps49
 go_wp2_with fail
 refine Calls.mono (uh HNC) ?_
 rintro e w1 ⟨v1,rfl,ho1,k1⟩
 have HRS:=hide (xb2k ho1)
 have HBL:=hide (fun x (hx:x∈blk v1)=>ho1.lt x (xa5m ho1 hx))
 have HK1:=hide ((uh HKB).trans k1 (by simp))
 have HA1:=hide (k1.heap (uh HA) (by simp))
 have HB1:=hide (k1.heap (uh HB) (by simp))
 have HZ1:=hide (by have:=k1.size; simp at this; omega:w.heap.size + 2≤w1.heap.size)
 obtain ⟨va,vl,vc,rfl,g1,g2,g3,g4⟩:=uh HRS
 subst g1
 have H4:=hide g4
 clear k1 ho1 g4 HNC HKB HA HB
 go_wp2_with fail
 have HF0:=hide (⟨uh HB1,by have:=uh HZ1; omega,World.ownsRow_nil _ _ _ _,OwnX.start w1,rfl,by decide,by decide,by decide⟩:FK w1 w1 (w.heap.size + 1) fst0 (.slice none 0 0) (.slice none 0 0) [])
 go_loopw [17] (fun t17 wr=>∃ (i:Nat) (f:FSt) (sv bv:Value) (ts:List (Nat × Value × List En)),i≤L.length∧t17 = .int .i64 (i:Int)∧Hid (findF σ wd f (L.drop i) = R)∧Hid (FK w1 wr (w.heap.size + 1) f sv bv ts)∧Hid (Kept [w.heap.size + 1] w1 wr)∧Hid (f.last < 18446744073709551615∧f.ep < 18446744073709551615∧f.sg.length≤i∧ts.length + rdT σ (L.drop i)≤1000000000000)) (fun t _=>L.length - (intOf t).toNat)
 case atStart=>exact ⟨0,fst0,_,_,[],Nat.zero_le _,rfl,by rw [List.drop_zero]; exact HR,HF0,hide (Kept.refl _ _),hide ⟨by decide,by decide,by decide,by rw [List.drop_zero]; simpa using hT⟩⟩
 case round =>
  obtain ⟨i,f,sv,bv,ts,hi,rfl,HT,HF,HK,HBD⟩:=hrel
  have HAR:=hide ((uh HK).heap (uh HA1) (by intro hm; have:=List.mem_singleton.1 hm; omega))
  by_cases hlt:i < L.length
  ·have hlt':(i:Int) < L.length:=by omega
   obtain ⟨b,off,rfl,hc⟩:=uh H4 (by omega)
   have q0:=(uh HK).cell (hc i hlt) (by intro hm; have h9:=(uh HBL b (by simp [blk])).1; have h8:b = w.heap.size + 1:=List.mem_singleton.1 hm; simp at h9; omega)
   have HSI:=hide (uh HNM L[i] (List.getElem_mem hlt))
   have HDR:=hide (List.drop_eq_getElem_cons hlt)
   generalize L[i] = s at q0 HSI HDR
   have hic:(i:Int) < vc:=by omega
   rw [xa7y] at q0
   have ha1:IntKind.i64.wrap ((i:Int) + 1) = (i:Int) + 1:=by rw [IntKind.wrap_i64]; omega
   have HVR:=hide ((((uh HVG).old (uh HK1)).on (uh HK) (fun x hx=>by rw [List.mem_singleton.1 hx]; omega)))
   have HDR2:=hide (((uh HDK).old (uh HK1)).kept (uh HK) (fun x hx hm=>by have h9:=(uh HDK).lt x hx; have:=List.mem_singleton.1 hm; omega))
   clear hc
   have HT2:=hide (by have h9:=uh HT; rw [uh HDR] at h9; exact h9:findF σ wd f (s :: L.drop (i + 1)) = R)
   have HRT:=hide (by have h9:=(uh HBD).2.2.2; rw [uh HDR,xb8z] at h9; exact h9:ts.length + ((stRead σ (strU s)).1.length + rdT σ (L.drop (i + 1)))≤1000000000000)
   have HNU:=hide (xb2b (natL s) wr (xb5a s) (by have:=uh HSI; simp [natL]; omega) (uh HVR).now)
   rw [xb9q] at HNU
   have HUL:=hide (nbU_lt (natL s))
   obtain ⟨P,hP⟩:∃ x,(stRead σ (strU s)).1 = x:=⟨_,rfl⟩
   obtain ⟨NE,hNE⟩:∃ x,nbE (natL s) = x:=⟨_,rfl⟩
   obtain ⟨NU,hNU⟩:∃ x,nbU (natL s) = x:=⟨_,rfl⟩
   have H1:=hide (fun (h:NE≠0)=>xa5e (uh HT2) (xc0o (by rw [hNE]; exact h)))
   have H2:=hide (fun (h:NE = 0) (h2:NU = 18446744073709551615)=>xa7q (uh HT2) (xc0r (by rw [hNE]; exact h) (by rw [hNU]; exact h2)))
   have H3:=hide (fun (h:NE = 0) (h2:NU≠18446744073709551615) (h3:sgE P≠0)=>(by have h9:=xa5e (uh HT2) (xc1d hP (by rw [hNE]; exact h) (by rw [hNU]; exact h2) h3); rw [hNU] at h9; exact h9:findF σ wd ⟨NU,f.ep,f.sz,f.sg,f.bs⟩ (L.drop (i + 1)) = R))
   have H4':=hide (fun (h:NE = 0) (h2:NU≠18446744073709551615) (h3:sgE P = 0) (h4:¬ ((hdC P).a = NU∧((hdC P).d:Int) = wd∧goOnF f P = true))=>xa7q (uh HT2) (xc1j hP (by rw [hNE]; exact h) (by rw [hNU]; exact h2) h3 (by rw [hNU]; exact h4)))
   have H5:=hide (fun (h:NE = 0) (h2:NU≠18446744073709551615) (h3:sgE P = 0) (h4:(hdC P).a = NU∧((hdC P).d:Int) = wd∧goOnF f P = true)=>(by have h9:=xa5e (uh HT2) (xc0i hP (by rw [hNE]; exact h) (by rw [hNU]; exact h2) h3 (by rw [hNU]; exact h4)); rw [hNU] at h9; exact h9:findF σ wd ⟨NU,(hdC P).b,(f.sz + cntB (sgB P)) % 18446744073709551616,f.sg++[s],f.bs++sgB P⟩ (L.drop (i + 1)) = R))
   have HPL:=hide (by
    rw [← hP]
    unfold stRead
    split
    ·simp
    ·split
     ·simp
     ·rename_i x hx
      exact Nat.le_trans ((uh HDK).byt x (List.mem_of_find?_eq_some hx)) hb:P.length≤100000000000)
   rw [hP] at HRT
   rw [hNE,hNU] at HNU
   rw [hNU] at HUL
   have HPQ:=hide hP
   clear hNE hNU hP HT HT2 HDR
   go_wp2_with fail
   refine Calls.mono (uh HNU) ?_
   rintro e w2 ⟨rfl,k2⟩
   have HF2:=hide ((uh HF).pass k2)
   have HK2:=hide ((uh HK).trans k2 (by simp))
   have HA2:=hide (k2.heap (uh HAR) (by simp))
   have HV2:=hide ((uh HVR).old k2)
   have HD2:=hide ((uh HDR2).old k2)
   clear k2 q0 HNU HF HK HAR HVR HDR2
   by_cases hne:NE = 0
   ·subst hne
    by_cases hnu:NU = 18446744073709551615
    ·have hq:((NU:Int) == 18446744073709551615) = true:=by rw [hnu]; rfl
     have HRN:=hide (uh H2 (by simp) hnu)
     obtain ⟨z0,z1,z2,z3,z4⟩:=cells5 (uh HA2)
     obtain ⟨y0,y1,y2,y3,y4⟩:=ffroz (uh HA2)
     clear hnu H1 H2 H3 H4' H5
     go_wp2_with fail
     refine bodyPost_ret (v:=.tuple #[.agg zFd,.bool false]) ?_ rfl ⟨Or.inl ⟨uh HRN,rfl⟩,?_⟩
     ·exact xa0e rfl _ _ w.heap.size _ zFd (0,0) _ rfl (xa2a (uh HA2) _ _ _ _ _) Tryz.underlying125 rfl Tryz.size_found _ rfl
     ·exact xa1s ((uh HK1).trans (uh HK2) (fun x hx=>Or.inr (by rw [List.mem_singleton.1 hx]; omega))) w.heap.size (Or.inr (Nat.le_refl _)) _ _ _ _ _
    ·have hq:((NU:Int) == 18446744073709551615) = false:=by simp; omega
     obtain ⟨c0,c1,c2,c3,c4⟩:=xa0t (uh HF2).row
     obtain ⟨y0,y1,y2,y3,y4⟩:=ffroz (uh HF2).row
     have kS:=(Kept.refl [w.heap.size + 1] w2).setCell (p:=⟨w.heap.size + 1,0,none⟩) (.inl (by simp)) (.int .u64 (NU:Int))
     have hS2:(w2.setCell ⟨w.heap.size + 1,0,none⟩ (.int .u64 (NU:Int))).heap[w.heap.size + 1]? = some (.cells (fdC ⟨NU,f.ep,f.sz,f.sg,f.bs⟩ sv bv) 125 (0,0)):=by rw [heap_setCell_same _ _ 0 _ _ _ (uh HF2).row]; rfl
     have HF3:=hide ((uh HF2).turn (f':=⟨NU,f.ep,f.sz,f.sg,f.bs⟩) kS hS2 rfl rfl (uh HUL) (uh HF2).ep (uh HF2).szb)
     have HK3:=hide ((uh HK2).trans kS (fun x hx=>Or.inl hx))
     have HA3:=hide (kS.heap (uh HA2) (by intro hm; have:=List.mem_singleton.1 hm; omega))
     have HD3:=hide ((uh HD2).kept kS (fun x hx hm=>by have h9:=(uh HDK).lt x hx; have:=List.mem_singleton.1 hm; omega))
     obtain ⟨W3,hW3⟩:∃ W,w2.setCell ⟨w.heap.size + 1,0,none⟩ (.int .u64 (NU:Int)) = W:=⟨_,rfl⟩
     rw [hW3] at HF3 HK3 HA3 HD3
     have HW3:=hide hW3
     have HRD:=hide (read_D d (max nb ob) bb B σ (strU s) W3 (uh HD3).toDK (by rw [xa8c]; have:=uh HSI; omega) (by omega))
     clear hW3 kS hS2 HF2 HK2 HA2 HV2 HD2
     go_upto_region 10 with fail
     rw [uh HW3]
     clear c0 c1 c2 c3 c4 y0 y1 y2 y3 y4
     go_wp2_with fail
     refine Calls.mono (uh HRD) ?_
     rintro e w4 ⟨v4,rfl,hw4,k4⟩
     rw [uh HPQ] at hw4
     have hr4:=hw4.rd
     obtain ⟨a4,n4,c4,rfl,hn4,_⟩:=id hr4
     have HF4:=hide ((uh HF3).pass k4)
     have HK4:=hide ((uh HK3).trans k4 (by simp))
     have HA4:=hide (k4.heap (uh HA3) (by simp))
     have HRO:=hide (xb5b _ P w4 hr4 (uh HPL))
     clear k4 hw4 hr4 hn4 HRD HF3 HK3 HA3 HD3 HW3
     go_wp2_with fail
     refine Calls.mono (uh HRO) ?_
     rintro e w5 ⟨b5,rfl,⟨ss,hss,ho5⟩,k5⟩
     obtain ⟨a5,c5,rfl⟩:=xa0v ho5.own
     obtain ⟨SE,hSE⟩:∃ x,sgE P = x:=⟨_,rfl⟩
     obtain ⟨⟨xa,xb,xc,xd⟩,hX⟩:∃ x,hdC P = x:=⟨_,rfl⟩
     obtain ⟨SU,hSU⟩:∃ x,sgU P = x:=⟨_,rfl⟩
     have HWG:=hide (fun (V:World) (hr:V.heap[w.heap.size + 1]? = some (.cells (fdC ⟨NU,f.ep,f.sz,f.sg,f.bs⟩ sv bv) 125 (0,0)))=>xb6f (w.heap.size + 1) xa xb xc (xd:Int) ⟨NU,f.ep,f.sz,f.sg,f.bs⟩ sv bv V hr P (by rw [hX]) (by rw [hX]))
     have HXB:=hide (by have h9:=(hd_lt P).2.1; rw [hX] at h9; exact h9:xb < 18446744073709551616)
     rw [hSE] at H3 H4' H5
     rw [hX] at H4' H5
     rw [hSE,hX,hSU]
     dsimp only at H4' H5 ⊢
     rw [hss] at H5
     have HGO:=hide (xb3j f NU P)
     have HGE:=hide (fun (h:goOnF f P = true)=>by unfold goOnF at h; rw [hX] at h; simp only [Bool.and_eq_true,decide_eq_true_eq] at h; exact h.2:goOnF f P = true→xb < 18446744073709551615)
     obtain ⟨GO,hGO⟩:∃ x,goOnF f P = x:=⟨_,rfl⟩
     have HSL:=hide (by rw [← List.length_map (f:=fun t:Nat × Value × List En=>(t.1,t.2.2)),← hss]; exact sgB_le P:ss.length≤P.length)
     rw [hGO] at H4' H5 HGO HGE
     rw [uh HGO] at HWG
     have HF5:=hide ((uh HF4).pass k5)
     have HK5:=hide ((uh HK4).trans k5 (by simp))
     have HA5:=hide (k5.heap (uh HA4) (by simp))
     have HO5:=hide ho5
     have HVB:=hide (fun x hx=>((uh HF4).bs.own.lt x hx).2:∀ x,bv.ownBlock = some x→x < w4.heap.size)
     have HVS:=hide (fun x hx=>((uh HF4).sg.lt x hx).2:∀ x,sv.ownBlock = some x→x < w4.heap.size)
     have H01:=hide (uh HK4).size
     have kN:=(Kept.refl [] w5).alloc (.cells #[.int .u64 (xa:Int),.int .u64 (xb:Int),.int .u64 (xc:Int),.int .i64 (xd:Int),.slice a5 ss.length c5,.int .i64 (SU:Int)] 55)
     have hNw:=heap_alloc_new w5 (.cells #[.int .u64 (xa:Int),.int .u64 (xb:Int),.int .u64 (xc:Int),.int .i64 (xd:Int),.slice a5 ss.length c5,.int .i64 (SU:Int)] 55)
     have HF6:=hide ((uh HF5).pass kN)
     have HK6:=hide ((uh HK5).trans kN (by simp))
     have HA6:=hide (kN.heap (uh HA5) (by simp))
     have HKN:=hide kN
     have HNW:=hide hNw
     clear k5 ho5 hSE hX hSU hss hGO kN hNw HRO HF4 HK4 HA4 HF5 HK5 HA5 HPQ HPL H1 H2 HGO
     by_cases hse:SE = 0
     ·subst hse
      go_upto_region 13 with fail
      obtain ⟨W6,hW6⟩:∃ W,w5.alloc (.cells #[.int .u64 (xa:Int),.int .u64 (xb:Int),.int .u64 (xc:Int),.int .i64 (xd:Int),.slice a5 ss.length c5,.int .i64 (SU:Int)] 55) = W:=⟨_,rfl⟩
      rw [hW6] at HF6 HK6 HA6 HKN HNW ⊢
      clear hW6
      obtain ⟨s0,s1,s2,s3,s4,s5⟩:=scells (uh HNW)
      obtain ⟨z0,z1,z2,z3,z4⟩:=cells5 (uh HA6)
      obtain ⟨y0,y1,y2,y3,y4⟩:=ffroz (uh HA6)
      by_cases ha:xa = NU
      ·have ha':((xa:Int) != (NU:Int)) = false:=by rw [ha]; simp
       by_cases hd:(xd:Int) = wd
       ·have hd':((xd:Int) != wd) = false:=by rw [hd]; simp
        by_cases hgo:GO = true
        ·have HT3:=hide (uh H5 (by simp) hnu rfl ⟨ha,hd,hgo⟩)
         have HNM9:=hide hnu
         have HEB:=hide (uh HGE hgo)
         subst hgo
         clear ha hd hnu H3 H4' H5
         go_wp2_with fail
         refine Calls.mono (uh HWG W6 (uh HF6).row) ?_
         rintro e w7 ⟨rfl,k7⟩
         have HF7:=hide ((uh HF6).pass k7)
         have HK7:=hide ((uh HK6).trans k7 (by simp))
         have HN7:=hide (k7.heap (uh HNW) (by simp))
         have HKN7:=hide ((uh HKN).trans k7 (by simp))
         clear k7 s0 s1 s2 s3 s4 s5 z0 z1 z2 z3 z4 y0 y1 y2 y3 y4 HF6 HK6 HNW HKN HWG HA6
         obtain ⟨s0,s1,s2,s3,s4,s5⟩:=scells (uh HN7)
         go_wp2_with fail
         refine Calls.mono (xb8g (w.heap.size + 1) xa xb xc SU (xd:Int) s ⟨NU,f.ep,f.sz,f.sg,f.bs⟩ sv bv (.slice a5 ss.length c5) ts ss w1 w4 w5 w7 [] (uh HF7) (uh HK7) (uh HO5) (uh HKN7) (by simp) (uh H01) (uh HVB) (uh HVS) (uh HXB) (by have:=uh HRT; have:=uh HSL; omega) (by have:=(uh HBD).2.2.1; have:=uh HNL; dsimp only; omega)) ?_
         rintro e w8 ⟨sv8,bv8,rfl,hf8,hk8⟩
         have HF8:=hide hf8
         have HK8:=hide hk8
         have HBX:=hide (by have h9:=uh HXB; have h8:=hf8.ep; exact h8:xb < 18446744073709551616)
         clear hf8 hk8 s0 s1 s2 s3 s4 s5 HF7 HK7 HN7 HKN7 HO5 HVB HVS H01
         go_wp2_with fail
         go_roundw
         case rel=>exact ⟨i + 1,_,sv8,bv8,ts++ss,by omega,by simp,HT3,HF8,HK8,hide ⟨by show NU < 18446744073709551615; have:=uh HUL; have:=uh HNM9; omega,uh HEB,by have:=(uh HBD).2.2.1; simp only [List.length_append,List.length_cons,List.length_nil]; omega,by rw [List.length_append]; have:=uh HRT; have:=uh HSL; omega⟩⟩
         case measure=>simp [intOf]; omega
        ·have HRN:=hide (uh H4' (by simp) hnu rfl (fun h=>hgo h.2.2))
         have hgo2:GO = false:=by simpa using hgo
         subst hgo2
         clear ha hd hnu hgo H3 H4' H5
         go_wp2_with fail
         refine Calls.mono (uh HWG W6 (uh HF6).row) ?_
         rintro e w7 ⟨rfl,k7⟩
         have HK7:=hide ((uh HK6).trans k7 (by simp))
         have HA7:=hide (k7.heap (uh HA6) (by simp))
         clear k7 s0 s1 s2 s3 s4 s5 z0 z1 z2 z3 z4 y0 y1 y2 y3 y4 HF6 HK6 HNW HKN HWG HA6
         obtain ⟨z0,z1,z2,z3,z4⟩:=cells5 (uh HA7)
         obtain ⟨y0,y1,y2,y3,y4⟩:=ffroz (uh HA7)
         go_wp2_with fail
         refine bodyPost_ret (v:=.tuple #[.agg zFd,.bool false]) ?_ rfl ⟨Or.inl ⟨uh HRN,rfl⟩,?_⟩
         ·exact xa0e rfl _ _ w.heap.size _ zFd (0,0) _ rfl (xa2a (uh HA7) _ _ _ _ _) Tryz.underlying125 rfl Tryz.size_found _ rfl
         ·exact xa1s ((uh HK1).trans (uh HK7) (fun x hx=>Or.inr (by rw [List.mem_singleton.1 hx]; omega))) w.heap.size (Or.inr (Nat.le_refl _)) _ _ _ _ _
       ·have hd':((xd:Int) != wd) = true:=by rw [bne_iff_ne]; exact hd
        have HRN:=hide (uh H4' (by simp) hnu rfl (fun h=>hd h.2.1))
        clear ha hd hnu H3 H4' H5
        go_wp2_with fail
        refine bodyPost_ret (v:=.tuple #[.agg zFd,.bool false]) ?_ rfl ⟨Or.inl ⟨uh HRN,rfl⟩,?_⟩
        ·exact xa0e rfl _ _ w.heap.size _ zFd (0,0) _ rfl (xa2a (uh HA6) _ _ _ _ _) Tryz.underlying125 rfl Tryz.size_found _ rfl
        ·exact xa1s ((uh HK1).trans (uh HK6) (fun x hx=>Or.inr (by rw [List.mem_singleton.1 hx]; omega))) w.heap.size (Or.inr (Nat.le_refl _)) _ _ _ _ _
      ·have ha':((xa:Int) != (NU:Int)) = true:=by rw [bne_iff_ne]; omega
       have HRN:=hide (uh H4' (by simp) hnu rfl (fun h=>ha h.1))
       clear ha hnu H3 H4' H5
       go_wp2_with fail
       refine bodyPost_ret (v:=.tuple #[.agg zFd,.bool false]) ?_ rfl ⟨Or.inl ⟨uh HRN,rfl⟩,?_⟩
       ·exact xa0e rfl _ _ w.heap.size _ zFd (0,0) _ rfl (xa2a (uh HA6) _ _ _ _ _) Tryz.underlying125 rfl Tryz.size_found _ rfl
       ·exact xa1s ((uh HK1).trans (uh HK6) (fun x hx=>Or.inr (by rw [List.mem_singleton.1 hx]; omega))) w.heap.size (Or.inr (Nat.le_refl _)) _ _ _ _ _
     ·have hse':((SE:Int) != 0) = true:=by rw [bne_iff_ne]; omega
      have HT3:=hide (uh H3 (by simp) hnu hse)
      have HNL9:=hide (by have:=uh HUL; omega:NU < 18446744073709551615)
      clear hse hnu H3 H4' H5
      go_wp2_with fail
      go_roundw
      case rel=>exact ⟨i + 1,_,sv,bv,ts,by omega,by simp,HT3,HF6,HK6,hide ⟨uh HNL9,(uh HBD).2.1,by have:=(uh HBD).2.2.1; dsimp only; omega,by have:=uh HRT; omega⟩⟩
      case measure=>simp [intOf]; omega
   ·have hne':((NE:Int) != 0) = true:=by rw [bne_iff_ne]; omega
    have HT3:=hide (uh H1 hne)
    go_wp2_with fail
    go_roundw
    case rel=>exact ⟨i + 1,f,sv,bv,ts,by omega,by simp,HT3,HF2,HK2,hide ⟨(uh HBD).1,(uh HBD).2.1,by have:=(uh HBD).2.2.1; omega,by have:=uh HRT; omega⟩⟩
    case measure=>simp [intOf]; omega
  ·have hlt':¬ (i:Int) < L.length:=by omega
   have hie:i = L.length:=by omega
   subst hie
   have hz:=uh HT
   rw [List.drop_length] at hz
   unfold findF at hz
   have HRN:=hide hz.symm
   obtain ⟨sa,sc,rfl⟩:=xa0v (uh HF).sg
   obtain ⟨ba,bc,rfl⟩:=(uh HF).bs.shape
   obtain ⟨z0,z1,z2,z3,z4⟩:=cells5 (uh HAR)
   obtain ⟨y0,y1,y2,y3,y4⟩:=ffroz (uh HAR)
   obtain ⟨c0,c1,c2,c3,c4⟩:=xa0t (uh HF).row
   clear hz HT
   go_wp2_with fail
   have kF:Kept [w.heap.size] wr _:=xa1s (Kept.refl [w.heap.size] wr) w.heap.size (Or.inl (by simp)) (.int .u64 (f.last:Int)) (.int .u64 (f.ep:Int)) (.int .u64 (f.sz:Int)) (.slice sa f.sg.length sc) (.slice ba ts.length bc)
   refine bodyPost_ret (v:=.tuple #[.agg (fdC f (.slice sa f.sg.length sc) (.slice ba ts.length bc)),.bool true]) ?_ rfl ⟨Or.inr ⟨f,_,_,ts,uh HRN,rfl,?_,?_,(uh HF).eq,(uh HBD).1,(uh HBD).2.1,(uh HF).szb⟩,?_⟩
   ·exact xa0e rfl _ _ w.heap.size _ (fdC f (.slice sa f.sg.length sc) (.slice ba ts.length bc)) (0,0) _ rfl (xa2a (uh HAR) _ _ _ _ _) Tryz.underlying125 rfl Tryz.size_found _ rfl
   ·exact xa2u (kF.owns (uh HF).sg (fun x hx hm=>by have h9:=((uh HF).sg.lt x hx).1; have:=List.mem_singleton.1 hm; have:=uh HZ1; omega)) (by have:=uh HZ1; omega)
   ·exact ((uh HF).bs.pass kF (fun x hx=>Or.inl (by rw [List.mem_singleton.1 hx]; have:=uh HZ1; omega))).base (by have:=uh HZ1; omega)
   ·exact xa1s ((uh HK1).trans (uh HK) (fun x hx=>Or.inr (by rw [List.mem_singleton.1 hx]; omega))) w.heap.size (Or.inr (Nat.le_refl _)) _ _ _ _ _
end
section
open Go Go.RowKit Go.BigFrame
section
variable {P:Program} {Q:Exit→Act→World→Prop}
theorem xc1v {id:Nat} {o0 o1 o2 o3 o4 o5 o6 o7 o8 o9 o10:Oper} {a:Act} {w:World} (hm:P.follows .mixedOrders = true) (hs:Region.noSelect #[o0,o1,o2,o3,o4,o5,o6,o7,o8,o9,o10] = true)
  (f0:Region.free .any #[o0,o1,o2,o3,o4,o5,o6,o7,o8,o9,o10] #[false,false,false,false,false,false,false,false,false,false,false] 0 = true) (r0:(Region.ready .any #[o0,o1,o2,o3,o4,o5,o6,o7,o8,o9,o10] #[false,false,false,false,false,false,false,false,false,false,false]).contains 0 = true)
  (f1:Region.free .any #[o0,o1,o2,o3,o4,o5,o6,o7,o8,o9,o10] #[true,false,false,false,false,false,false,false,false,false,false] 1 = true) (r1:(Region.ready .any #[o0,o1,o2,o3,o4,o5,o6,o7,o8,o9,o10] #[true,false,false,false,false,false,false,false,false,false,false]).contains 1 = true)
  (f2:Region.free .any #[o0,o1,o2,o3,o4,o5,o6,o7,o8,o9,o10] #[true,true,false,false,false,false,false,false,false,false,false] 2 = true) (r2:(Region.ready .any #[o0,o1,o2,o3,o4,o5,o6,o7,o8,o9,o10] #[true,true,false,false,false,false,false,false,false,false,false]).contains 2 = true)
  (f3:Region.free .any #[o0,o1,o2,o3,o4,o5,o6,o7,o8,o9,o10] #[true,true,true,false,false,false,false,false,false,false,false] 3 = true) (r3:(Region.ready .any #[o0,o1,o2,o3,o4,o5,o6,o7,o8,o9,o10] #[true,true,true,false,false,false,false,false,false,false,false]).contains 3 = true)
  (f4:Region.free .any #[o0,o1,o2,o3,o4,o5,o6,o7,o8,o9,o10] #[true,true,true,true,false,false,false,false,false,false,false] 4 = true) (r4:(Region.ready .any #[o0,o1,o2,o3,o4,o5,o6,o7,o8,o9,o10] #[true,true,true,true,false,false,false,false,false,false,false]).contains 4 = true)
  (f6:Region.free .any #[o0,o1,o2,o3,o4,o5,o6,o7,o8,o9,o10] #[true,true,true,true,true,false,false,false,false,false,false] 6 = true) (r6:(Region.ready .any #[o0,o1,o2,o3,o4,o5,o6,o7,o8,o9,o10] #[true,true,true,true,true,false,false,false,false,false,false]).contains 6 = true)
  (f7:Region.free .any #[o0,o1,o2,o3,o4,o5,o6,o7,o8,o9,o10] #[true,true,true,true,true,false,true,false,false,false,false] 7 = true) (r7:(Region.ready .any #[o0,o1,o2,o3,o4,o5,o6,o7,o8,o9,o10] #[true,true,true,true,true,false,true,false,false,false,false]).contains 7 = true)
  (q_:Region.ready .any #[o0,o1,o2,o3,o4,o5,o6,o7,o8,o9,o10] #[true,true,true,true,true,false,true,true,false,false,false] = [5])
  (f_5_8:Region.free .any #[o0,o1,o2,o3,o4,o5,o6,o7,o8,o9,o10] #[true,true,true,true,true,true,true,true,false,false,false] 8 = true) (r_5_8:(Region.ready .any #[o0,o1,o2,o3,o4,o5,o6,o7,o8,o9,o10] #[true,true,true,true,true,true,true,true,false,false,false]).contains 8 = true)
  (f_5_9:Region.free .any #[o0,o1,o2,o3,o4,o5,o6,o7,o8,o9,o10] #[true,true,true,true,true,true,true,true,true,false,false] 9 = true) (r_5_9:(Region.ready .any #[o0,o1,o2,o3,o4,o5,o6,o7,o8,o9,o10] #[true,true,true,true,true,true,true,true,true,false,false]).contains 9 = true)
  (f_5_10:Region.free .any #[o0,o1,o2,o3,o4,o5,o6,o7,o8,o9,o10] #[true,true,true,true,true,true,true,true,true,true,false] 10 = true) (r_5_10:(Region.ready .any #[o0,o1,o2,o3,o4,o5,o6,o7,o8,o9,o10] #[true,true,true,true,true,true,true,true,true,true,false]).contains 10 = true)
  (q5_:Region.ready .any #[o0,o1,o2,o3,o4,o5,o6,o7,o8,o9,o10] #[true,true,true,true,true,true,true,true,true,true,true] = [])
  (g5:o5.guard = none)
  (v0 v1 v2 v3 v4 v6 v7:Value) (A0 A1 A2 A3 A4 A5 A6:Act)
  (S:World→Prop)
  (I_:World→Prop)
  (I5_:Value→World→Prop)
  (v8:Value→Value)
  (v9:Value→Value)
  (v10:Value→Value)
  (p0:a.put o0.dst v0 = A0) (hy0:YieldsIf P #[o0,o1,o2,o3,o4,o5,o6,o7,o8,o9,o10] S o0 v0 a)
  (p1:A0.put o1.dst v1 = A1) (hy1:YieldsIf P #[o0,o1,o2,o3,o4,o5,o6,o7,o8,o9,o10] S o1 v1 A0)
  (p2:A1.put o2.dst v2 = A2) (hy2:YieldsIf P #[o0,o1,o2,o3,o4,o5,o6,o7,o8,o9,o10] S o2 v2 A1)
  (p3:A2.put o3.dst v3 = A3) (hy3:YieldsIf P #[o0,o1,o2,o3,o4,o5,o6,o7,o8,o9,o10] S o3 v3 A2)
  (p4:A3.put o4.dst v4 = A4) (hy4:YieldsIf P #[o0,o1,o2,o3,o4,o5,o6,o7,o8,o9,o10] S o4 v4 A3)
  (p6:A4.put o6.dst v6 = A5) (hy6:YieldsIf P #[o0,o1,o2,o3,o4,o5,o6,o7,o8,o9,o10] S o6 v6 A4)
  (p7:A5.put o7.dst v7 = A6) (hy7:YieldsIf P #[o0,o1,o2,o3,o4,o5,o6,o7,o8,o9,o10] S o7 v7 A5)
  (i0:I_ w.drew)
  (hIS:(∀ w',I_  w'→S w')∧(∀ (u5:Value) w',I5_ u5 w'→S w'))
  (s_5:∀ w',I_  w'→∀ K:Act→World→Prop,(∀ (u5:Value) w2,I5_ u5 w2→K (A6.put o5.dst u5) w2)→o5.wp P A6 w' K (NoPanic Q))
  (y_5_8:∀ (u5:Value) w',I5_ u5 w'→YieldsIf P #[o0,o1,o2,o3,o4,o5,o6,o7,o8,o9,o10] S o8 (v8 u5) (A6.put o5.dst u5))
  (y_5_9:∀ (u5:Value) w',I5_ u5 w'→YieldsIf P #[o0,o1,o2,o3,o4,o5,o6,o7,o8,o9,o10] S o9 (v9 u5) ((A6.put o5.dst u5).put o8.dst (v8 u5)))
  (y_5_10:∀ (u5:Value) w',I5_ u5 w'→YieldsIf P #[o0,o1,o2,o3,o4,o5,o6,o7,o8,o9,o10] S o10 (v10 u5) (((A6.put o5.dst u5).put o8.dst (v8 u5)).put o9.dst (v9 u5)))
  (h:∀ (u5:Value) w',I5_ u5 w'→Q .normal ((((A6.put o5.dst u5).put o8.dst (v8 u5)).put o9.dst (v9 u5)).put o10.dst (v10 u5)) w') :
  (Code.region id #[o0,o1,o2,o3,o4,o5,o6,o7,o8,o9,o10] true).wp P Q a w:=by
 subst p0 p1 p2 p3 p4 p6 p7
 obtain ⟨z_,z5_⟩:=hIS
 refine wp_region_noPanic ?_
 refine wp_region_held_drew (S:=S) hm (z_ _ i0) (fun hH=>?_)
 show wpAnyH P .any #[o0,o1,o2,o3,o4,o5,o6,o7,o8,o9,o10] (NoPanic Q) S 11 #[false,false,false,false,false,false,false,false,false,false,false] a w.drew
 refine wpAnyH_take (i:=0) (oi:=o0) rfl hs f0 r0 (fun _ _ _ h=>h) hy0 hH ?_
 refine wpAnyH_take (i:=1) (oi:=o1) rfl hs f1 r1 (fun _ _ _ h=>h) hy1 hH ?_
 refine wpAnyH_take (i:=2) (oi:=o2) rfl hs f2 r2 (fun _ _ _ h=>h) hy2 hH ?_
 refine wpAnyH_take (i:=3) (oi:=o3) rfl hs f3 r3 (fun _ _ _ h=>h) hy3 hH ?_
 refine wpAnyH_take (i:=4) (oi:=o4) rfl hs f4 r4 (fun _ _ _ h=>h) hy4 hH ?_
 refine wpAnyH_take (i:=6) (oi:=o6) rfl hs f6 r6 (fun _ _ _ h=>h) hy6 hH ?_
 refine wpAnyH_take (i:=7) (oi:=o7) rfl hs f7 r7 (fun _ _ _ h=>h) hy7 hH ?_
 generalize (((((((a.put o0.dst v0).put o1.dst v1).put o2.dst v2).put o3.dst v3).put o4.dst v4).put o6.dst v6).put o7.dst v7) = B at *
 have wa5:∀ y,Region.wanted o5 y = true:=fun y=>by unfold Region.wanted; rw [g5]
 have t5_:∀ (u5:Value) w',I5_ u5 w'→wpAnyH P .any #[o0,o1,o2,o3,o4,o5,o6,o7,o8,o9,o10] (NoPanic Q) S 0 #[true,true,true,true,true,true,true,true,true,true,true] ((((B.put o5.dst u5).put o8.dst (v8 u5)).put o9.dst (v9 u5)).put o10.dst (v10 u5)) w':=by
  intro u5 w0 i0
  exact ⟨q5_,NoPanic.normal (h u5 w0 i0)⟩
 have t_:∀ w',I_  w'→wpAnyH P .any #[o0,o1,o2,o3,o4,o5,o6,o7,o8,o9,o10] (NoPanic Q) S 4 #[true,true,true,true,true,false,true,true,false,false,false] B w':=by
  intro w0 i0
  refine wpAnyH_ready (rs:=[5]) q_ (by simp) (AllReadyH.cons (o:=o5) rfl (fun K hK=>?_) AllReadyH.nil)
  ·rw [if_pos (wa5 _)]
   refine s_5  w0 i0 K (fun u5 w1 i1=>hK.out _ _ (z5_ u5 w1 i1) (fun _=>?_))
   clear hK
   refine wpAnyH_take (i:=8) (oi:=o8) rfl hs f_5_8 r_5_8 (fun _ _ _ h=>h) (y_5_8 u5 w1 i1) (z5_ u5 w1 i1) ?_
   refine wpAnyH_take (i:=9) (oi:=o9) rfl hs f_5_9 r_5_9 (fun _ _ _ h=>h) (y_5_9 u5 w1 i1) (z5_ u5 w1 i1) ?_
   refine wpAnyH_take (i:=10) (oi:=o10) rfl hs f_5_10 r_5_10 (fun _ _ _ h=>h) (y_5_10 u5 w1 i1) (z5_ u5 w1 i1) ?_
   exact t5_ u5 w1 i1
 exact t_ w.drew i0
end
end
section
open Go.RowKit Go.BigFrame Go.Maps Go.Sort
theorem OwnX.re {X Y M:List Nat} {w0 wo w:World} {v:Value} {ts:List (Nat × Value × List En)} (h:OwnX X w0 wo v ts) (k:Kept M wo w) (hM:∀ x∈M,x < w0.heap.size∨wo.heap.size≤x) (hY:∀ x∈Y,x < w0.heap.size∨wo.heap.size≤x):OwnX Y w0 w v ts:=by
 refine ⟨k.owns h.own (fun b hb hm=>?_),fun t ht=>?_,Nat.le_trans h.sz k.size,fun b hb hm=>?_⟩
 ·have h1:=h.own.lt b hb
  rcases hM b hm with h2 | h2 <;> omega
 ·obtain ⟨B,C,h1,h2,h3,h4,h5⟩:=h.rd t ht
  refine ⟨B,C,Nat.le_trans h1 k.size,h2,h3,fun b hb=>?_,fun N w2 kN hN=>h5 (M++N) w2 ((k.mono (M:=M++N) (fun x hx=>by simp [hx])).trans kN (fun x hx=>Or.inl (by simp [hx]))) (fun x hx=>?_)⟩
  ·rcases hY b hb with h6 | h6
   ·exact Or.inl (by omega)
   ·exact Or.inr (by omega)
  ·rcases List.mem_append.1 hx with hx | hx
   ·rcases hM x hx with h6 | h6
    ·exact Or.inl (by omega)
    ·exact Or.inr (by omega)
   ·exact hN x hx
 ·have h1:=h.own.lt b hb
  rcases hY b hm with h2 | h2 <;> omega
theorem OwnX.none (X:List Nat) {w0 w:World} (h:w0.heap.size≤w.heap.size):OwnX X w0 w (.slice none 0 0) []:=⟨World.ownsRow_nil _ _ _ _,by simp,h,by simp [Value.ownBlock]⟩
theorem ops_F (d nb ob bb:Nat) (B:List Nat) (σ:DSt) (w:World) (h:DKf w d B nb ob bb σ) :
  Calls Tryz.prog 22 #[.pointer (some ⟨d,0,none⟩)] w fun e w'=>e = .returned (.int .i64 σ.op)∧w' = w:=by
 obtain ⟨m,u,fv,fs,h1,rfl,hA⟩:=h.ex
 exact xc0b d σ.sec m nb w u fv σ.cr σ.op σ.off σ.ft fs h1
theorem off_F (d nb ob bb:Nat) (B:List Nat) (σ:DSt) (w:World) (h:DKf w d B nb ob bb σ) :
  Calls Tryz.prog 11 #[.pointer (some ⟨d,0,none⟩)] w fun e w'=>e = .returned (.bool σ.off)∧w' = w:=by
 obtain ⟨m,u,fv,fs,h1,rfl,hA⟩:=h.ex
 exact xc0y d σ.sec m nb w u fv σ.cr σ.op σ.off σ.ft fs h1
structure OpR (w w':World) (d nb ob bb:Nat) (B B':List Nat) (A:OpA) (lp bv:Value) (ts:List (Nat × Value × List En)):Prop where
 dk:DKf w' d B' (nb + 1) (ob + nb + 4) (bb + 48) A.σ
 ev:Ev w w' B B'
 bs:A.bs = ts.map (fun t=>(t.1,t.2.2))
 ow:OwnX B' w w' bv ts
 no:A.l = none→lp = .pointer none
 so:∀ s,A.l = some s→∃ l,lp = .pointer (some ⟨l,0,none⟩)∧w.heap.size≤l∧LK w' l d B' (nb + 1) (ob + nb + 4) (bb + 48) A.σ s∧OwnX (l :: B') w w' bv ts
theorem OpR.fail {w w':World} {d nb ob bb:Nat} {B B':List Nat} {e:Nat} {τ:DSt} (hd:DKf w' d B' (nb + 1) (ob + nb + 4) (bb + 48) τ) (ev:Ev w w' B B'):OpR w w' d nb ob bb B B' ⟨e,τ,none,[]⟩ (.pointer none) (.slice none 0 0) [] :=
 ⟨hd,ev,rfl,OwnX.none _ ev.1.size,fun _=>rfl,fun s h=>by cases h⟩
def OpP (w:World) (d nb ob bb:Nat) (B:List Nat) (A:OpA) (e:Ending) (w':World):Prop:=∃ B' lp bv ts,e = .returned (.tuple #[lp,bv,.int .i64 (A.e:Nat)])∧OpR w w' d nb ob bb B B' A lp bv ts
def opF2 (σ:DSt) (wd lim:Int):Option FSt→OpA
 | none=>⟨11,σ,none,[]⟩
 | some f=>opOf σ wd lim f
theorem opD_eq {σ:DSt} {wd lim:Int} (h:argOk wd lim = true) (h2:σ.off = false):opD σ wd lim = opF2 σ wd lim (findF σ wd fst0 (nmsOf σ)):=by
 unfold opD
 rw [h,if_neg (by simp),h2,if_neg (by simp)]
 cases findF σ wd fst0 (nmsOf σ) <;> rfl
theorem xb1c {σ:DSt} {wd:Int}:∀ {l:List (List UInt8)} {f g:FSt},findF σ wd f l = some g→g.sg.length≤f.sg.length + l.length∧∀ x∈g.sg,x∈f.sg∨x∈l
 | [],f,g,h=>by unfold findF at h; cases h; exact ⟨by simp,fun x hx=>Or.inl hx⟩
 | s :: r,f,g,h=>by
  cases hs:stepF σ wd f s with
  | none=>have:=xa7q h hs; cases this
  | some q =>
   have ih:=xb1c (xa5e h hs)
   have hq:q.sg.length≤f.sg.length + 1∧∀ x∈q.sg,x∈f.sg∨x = s:=by
    unfold stepF at hs
    split at hs
    ·cases hs; exact ⟨by omega,fun x hx=>Or.inl hx⟩
    ·split at hs
     ·cases hs
     ·split at hs
      ·cases hs; exact ⟨by show f.sg.length≤_; omega,fun x hx=>Or.inl hx⟩
      ·split at hs
       ·cases hs
        exact ⟨by show (f.sg++[s]).length≤_; simp,fun x hx=>by have hx2:x∈f.sg++[s]:=hx; simpa using hx2⟩
       ·cases hs
   refine ⟨by simp only [List.length_cons]; omega,fun x hx=>?_⟩
   rcases ih.2 x hx with h1 | h1
   ·rcases hq.2 x h1 with h2 | h2
    ·exact Or.inl h2
    ·exact Or.inr (by simp [h2])
   ·exact Or.inr (by simp [h1])
set_option maxHeartbeats 2000000 in
theorem xb5e (p:Value) (hp:p = .pointer none∨∃ d,p = .pointer (some ⟨d,0,none⟩)) (wd lim:Int) (w:World) (h:argOk wd lim = false) :
  Calls Tryz.prog 16 #[p,.int .i64 wd,.int .i64 lim] w fun e w'=>e = .returned (.tuple #[.pointer none,.slice none 0 0,.int .i64 1])∧w' = w:=by
 have h0:¬ (1≤wd∧wd≤32∧1≤lim∧lim≤1048576):=by simpa [argOk] using h
 by_cases c1:wd < 1
 ·clear h h0
  go_enter Tryz.func16,Tryz.ntmps16
  go_wp2_with fail
  refine bodyPost_ret (v:=.tuple #[.pointer none,.slice none 0 0,.int .i64 1]) (by rw [results_tmp3 rfl]; rfl) rfl ⟨rfl,rfl⟩
 ·by_cases c2:32 < wd
  ·clear h h0
   go_enter Tryz.func16,Tryz.ntmps16
   go_wp2_with fail
   refine bodyPost_ret (v:=.tuple #[.pointer none,.slice none 0 0,.int .i64 1]) (by rw [results_tmp3 rfl]; rfl) rfl ⟨rfl,rfl⟩
  ·by_cases c3:lim < 1
   ·clear h h0
    go_enter Tryz.func16,Tryz.ntmps16
    go_wp2_with fail
    refine bodyPost_ret (v:=.tuple #[.pointer none,.slice none 0 0,.int .i64 1]) (by rw [results_tmp3 rfl]; rfl) rfl ⟨rfl,rfl⟩
   ·have c4:1048576 < lim:=by omega
    clear h h0
    go_enter Tryz.func16,Tryz.ntmps16
    go_wp2_with fail
    refine bodyPost_ret (v:=.tuple #[.pointer none,.slice none 0 0,.int .i64 1]) (by rw [results_tmp3 rfl]; rfl) rfl ⟨rfl,rfl⟩
set_option maxHeartbeats 8000000 in
theorem xa3c (d nb ob bb g0:Nat) (wd lim:Int) (B:List Nat) (σ:DSt) (w:World) (hD:DKf w d B nb ob bb σ) (hv:VarsG g0 w) (hB:∀ x∈B,g0≤x) (hg0:g0≤w.heap.size) (hn:nb≤400000000) (hob:ob≤400000000) (hb:bb≤90000000000) (hT:rdT σ (nmsOf σ)≤1000000000000) :
  Calls Tryz.prog 16 #[.pointer (some ⟨d,0,none⟩),.int .i64 wd,.int .i64 lim] w fun e w'=>OpP w d nb ob bb B (opD σ wd lim) e w':=by
 by_cases hag:argOk wd lim = true
 ·have h0:1≤wd∧wd≤32∧1≤lim∧lim≤1048576:=by simpa [argOk] using hag
  have HWB:=hide (by unfold wideB; simp; omega:wideB wd = true)
  have HLB:=hide (⟨h0.2.2.1,h0.2.2.2⟩:1≤lim∧lim≤1048576)
  have c1:¬ wd < 1:=by omega
  have c2:¬ 32 < wd:=by omega
  have c3:¬ lim < 1:=by omega
  have c4:¬ 1048576 < lim:=by omega
  have hof:=off_F d nb ob bb B σ w hD
  by_cases hoff:σ.off = true
  ·have hA:opD σ wd lim = ⟨12,σ,none,[]⟩:=by unfold opD; rw [hag,if_neg (by simp),if_pos hoff]
   rw [hA]
   rw [hoff] at hof
   have HOF:=hide hof
   have HDK:=hide (hD.more (nb':=nb + 1) (ob':=ob + nb + 4) (bb':=bb + 48) (by omega) (by omega) (by omega))
   clear hag h0 hof hoff hA hD hv hB
   go_enter Tryz.func16,Tryz.ntmps16
   go_wp2_with fail
   refine Calls.mono (uh HOF) ?_
   rintro e w' ⟨rfl,rfl⟩
   go_wp2_with fail
   refine bodyPost_ret (v:=.tuple #[.pointer none,.slice none 0 0,.int .i64 12]) (by rw [results_tmp3 rfl]; rfl) rfl ⟨B,_,_,[],rfl,OpR.fail (uh HDK) (Ev.refl _ _)⟩
  ·have hoff':σ.off = false:=by simpa using hoff
   have HA:=hide (opD_eq hag hoff')
   rw [hoff'] at hof
   have HOF:=hide hof
   have HDK:=hide hD
   have HVG:=hide hv
   have HB:=hide hB
   have HFI:=hide (xb6i d nb ob bb g0 wd B σ w hD hv hg0 (by omega) (by omega) (by omega) hT)
   have HSG:=hide (fun f (h:findF σ wd fst0 (nmsOf σ) = some f)=>by
    have h9:=xb1c h
    refine ⟨Nat.le_trans h9.1 (by show 0 + _≤_; rw [Nat.zero_add]; exact Nat.le_trans (xb7k σ) hD.len),fun s hs=>?_⟩
    rcases h9.2 s hs with h8 | h8
    ·cases h8
    ·obtain ⟨q,hq,rfl⟩:=xb7w h8
     exact Nat.le_trans (Nat.le_of_eq (Array.length_toList)) (xa8s (hD.nms q hq)).2:∀ f,findF σ wd fst0 (nmsOf σ) = some f→f.sg.length≤nb∧∀ s∈f.sg,s.length≤40)
   obtain ⟨R,hR⟩:∃ R,findF σ wd fst0 (nmsOf σ) = R:=⟨_,rfl⟩
   obtain ⟨A,hA⟩:∃ A,opD σ wd lim = A:=⟨_,rfl⟩
   rw [hR] at HFI HA
   rw [hA] at HA ⊢
   simp only [hR] at HSG
   clear hag h0 hof hoff hoff' hR hA hD hv hB hT
   go_enter Tryz.func16,Tryz.ntmps16
   go_wp2_with fail
   refine Calls.mono (uh HOF) ?_
   rintro e w' ⟨rfl,rfl⟩
   go_wp2_with fail
   refine Calls.mono (uh HFI) ?_
   rintro e w1 ⟨⟨rfl,rfl⟩ | ⟨f,sv,bv,ts,rfl,rfl,ho,hx,heq,hlast,hep,hsz⟩,k1⟩
   ·have hz:=uh HA
    simp only [opF2] at hz
    subst hz
    have kN:=k1.alloc (.cells zFd 125)
    have HFA:=hide (OpR.fail (e:=11) ((uh HDK).kept kN (by simp) |>.more (nb':=nb + 1) (ob':=ob + nb + 4) (bb':=bb + 48) (by omega) (by omega) (by omega)) (⟨kN.mono (by simp),fun x hx=>Or.inl hx⟩:Ev w' _ B B))
    clear k1 kN HFI HOF HSG
    go_wp2_with fail
    refine bodyPost_ret (v:=.tuple #[.pointer none,.slice none 0 0,.int .i64 11]) (by rw [results_tmp3 rfl]; rfl) rfl ⟨B,_,_,[],rfl,uh HFA⟩
   ·have hz:=uh HA
    simp only [opF2] at hz
    obtain ⟨sa,sc,rfl⟩:=xa0v ho
    obtain ⟨ba,bc,rfl⟩:=hx.shape
    have kN:=(Kept.refl [] w1).alloc (.cells #[.int .u64 (f.last:Int),.int .u64 (f.ep:Int),.int .u64 (f.sz:Int),.slice sa f.sg.length sc,.slice ba ts.length bc] 125)
    have hN:(w1.alloc (.cells #[.int .u64 (f.last:Int),.int .u64 (f.ep:Int),.int .u64 (f.sz:Int),.slice sa f.sg.length sc,.slice ba ts.length bc] 125)).heap[w1.heap.size]? = some (.cells (fdC f (.slice sa f.sg.length sc) (.slice ba ts.length bc)) 125 (0,0)):=heap_alloc_new w1 (.cells #[.int .u64 (f.last:Int),.int .u64 (f.ep:Int),.int .u64 (f.sz:Int),.slice sa f.sg.length sc,.slice ba ts.length bc] 125)
    have HK1:=hide (k1.trans kN (by simp))
    have HZ:=hide hz
    have HSZ1:=hide k1.size
    have HHX:=hide hx
    have HHQ:=hide heq
    have HSF:=hide ((uh HSG) f rfl)
    have HLA:=hide hlast
    have HEP:=hide hep
    have HSZ:=hide hsz
    have HN:=hide hN
    have HD2:=hide ((uh HDK).old (k1.trans kN (by simp)))
    have HRS:=hide ((xb2k ho).kept kN (by simp))
    have HBS:=hide (fun x (hx:x∈blk (.slice sa f.sg.length sc)) (hm:x∈B)=>by
     have h9:=(ho.lt x (xa5m ho hx)).1
     have:=(uh HDK).lt x hm
     omega:∀ x∈blk (.slice sa f.sg.length sc),x∉B)
    clear hz k1 kN hN hx ho heq hlast hep hsz HFI HOF HSG HA
    unfold fdC
    go_upto_region 8 with fail
    obtain ⟨W2,hW2⟩:∃ W,w1.alloc (.cells #[.int .u64 (f.last:Int),.int .u64 (f.ep:Int),.int .u64 (f.sz:Int),.slice sa f.sg.length sc,.slice ba ts.length bc] 125) = W:=⟨_,rfl⟩
    have HS2:=hide (by rw [← hW2]; simp:W2.heap.size = w1.heap.size + 1)
    rw [hW2] at HK1 HN HD2 HRS ⊢
    have HK12:=hide (by rw [← hW2]; exact (Kept.refl [] w1).alloc (.cells #[.int .u64 (f.last:Int),.int .u64 (f.ep:Int),.int .u64 (f.sz:Int),.slice sa f.sg.length sc,.slice ba ts.length bc] 125):Kept [] w1 W2)
    clear hW2
    have HFL:=hide (xa9r w1.heap.size d nb ob bb B σ f (.slice sa f.sg.length sc) (.slice ba ts.length bc) W2 (uh HN) (uh HRS) (uh HSF).2 (uh HD2) (uh HBS) (by omega) (by have:=(uh HSF).1; omega))
    obtain ⟨⟨E3,τ3⟩,hR3⟩:∃ R,stSyncs σ f.sg = R:=⟨_,rfl⟩
    obtain ⟨⟨E5,τ5⟩,hR5⟩:∃ R,stBegin τ3 (f.last + 1) (f.ep + 1) f.sz wd = R:=⟨_,rfl⟩
    have HA1:=hide (fun (h0:E3≠0)=>(by rw [uh HZ]; unfold opOf; rw [hR3]; dsimp only; rw [if_pos h0]:A = ⟨E3,τ3,none,[]⟩))
    have HA2:=hide (fun (h0:E3 = 0) (h1:E5≠0)=>(by rw [uh HZ]; unfold opOf; rw [hR3]; dsimp only; rw [hR5]; dsimp only; rw [if_neg (by simpa using h0),if_pos h1]:A = ⟨E5,τ5,none,[]⟩))
    have HA3:=hide (fun (h0:E3 = 0) (h1:E5 = 0)=>(by rw [uh HZ]; unfold opOf; rw [hR3]; dsimp only; rw [hR5]; dsimp only; rw [if_neg (by simpa using h0),if_neg (by simpa using h1)]:A = ⟨0,τ5,some ⟨f.last + 1,f.ep + 1,f.sz,wd,48,0,lim,f.sz,0⟩,f.bs⟩))
    rw [hR3] at HFL
    have HR5:=hide hR5
    clear hR3 hR5 HZ
    dsimp only at *
    go_wp2_with fail
    refine Calls.mono (uh HFL) ?_
    rintro e w3 ⟨B3,rfl,hd3,ev3⟩
    have HD3:=hide hd3
    have HE3:=hide (Ev.pre (uh HK1) ev3)
    have HN3:=hide (ev3.1.heap (uh HN) (by intro hm; have:=(uh HDK).lt _ hm; have:=uh HSZ1; omega))
    have HS3:=hide ev3.1.size
    have HKE:=hide ev3
    clear hd3 ev3 HFL
    by_cases h3:E3 = 0
    ·subst h3
     obtain ⟨e0,e1,e2,e3,e4⟩:=xa0t (uh HN3)
     have hw1:IntKind.u64.wrap ((f.last:Int) + 1) = ((f.last + 1:Nat):Int):=by rw [IntKind.wrap_u64]; have:=uh HLA; omega
     have hw2:IntKind.u64.wrap ((f.ep:Int) + 1) = ((f.ep + 1:Nat):Int):=by rw [IntKind.wrap_u64]; have:=uh HEP; omega
     have kC:=(Kept.refl [] w3).alloc (.cells (curC d (f.last + 1) (f.ep + 1) f.sz wd 0 0) 130)
     have hC:=heap_alloc_new w3 (.cells (curC d (f.last + 1) (f.ep + 1) f.sz wd 0 0) 130)
     have HD4:=hide ((uh HD3).old kC)
     have HN4:=hide (kC.heap (uh HN3) (by simp))
     have HKC:=hide kC
     have HC:=hide hC
     clear kC hC
     go_upto_region 14 with fail
     clear e0 e1 e2 e3 e4 hw1 hw2
     obtain ⟨W4,hW4⟩:∃ W,w3.alloc (.cells (curC d (f.last + 1) (f.ep + 1) f.sz wd 0 0) 130) = W:=⟨_,rfl⟩
     have HW4':=hide hW4
     have HS4:=hide (by rw [← hW4]; simp:W4.heap.size = w3.heap.size + 1)
     rw [hW4] at HD4 HN4 HKC HC
     have hW5:w3.alloc (.cells #[.pointer (some ⟨d,0,none⟩),.int .u64 ((f.last:Int) + 1),.int .u64 ((f.ep:Int) + 1),.int .u64 (f.sz:Int),.int .i64 wd,.int .i64 0,.int .i64 0] 130) = W4:=by rw [← hW4]; unfold curC; push_cast; rfl
     rw [hW5]
     clear hW5
     clear hW4 HW4'
     have HBG:=hide (xa5n w3.heap.size (f.last + 1) (f.ep + 1) f.sz d nb (ob + f.sg.length) bb g0 wd B3 τ3 W4 (uh HC) (uh HWB) (by have:=uh HLA; omega) (((uh HVG).on (uh HE3).1 (uh HB)).old (uh HKC)) ((uh HE3).ge (uh HB) hg0) (by have:=(uh HE3).1.size; have:=(uh HKC).size; omega) (uh HD4) (fun hm=>by have:=(uh HD3).lt _ hm; omega) (by omega) (by have:=(uh HSF).1; omega) (by omega))
     rw [uh HR5] at HBG
     dsimp only at HBG
     go_wp2_with fail
     refine Calls.mono (uh HBG) ?_
     rintro e w5 ⟨B5,rfl,hd5,k5,hb5,hr5⟩
     dsimp only at hd5
     have HSB:=hide (uh HSF).1
     have HD5:=hide (hd5.more (Nat.le_refl _) (by have:=uh HSB; omega:ob + f.sg.length + 4≤ob + nb + 4) (Nat.le_refl _))
     have HK5:=hide k5
     have HR5':=hide hr5
     have HB5:=hide hb5
     have HN5:=hide (k5.heap (uh HN4) (by
       intro hm
       rcases List.mem_cons.1 hm with h9 | h9
       ·have:=uh HS3
        have:=uh HS2
        omega
       ·have h8:=(uh HD3).lt _ h9
        rcases (uh HKE).2 _ h9 with h7 | h7
        ·have:=(uh HDK).lt _ h7
         have:=uh HSZ1
         omega
        ·have:=uh HS2
         omega))
     have k35:Kept (w3.heap.size :: B3) w3 w5:=((uh HKC).mono (M:=w3.heap.size :: B3) (by simp)).trans k5 (fun x hx=>Or.inl hx)
     have HE5:=hide (⟨(uh HE3).1.trans k35 (fun x hx=>by
       rcases List.mem_cons.1 hx with rfl | hx
       ·exact Or.inr (uh HE3).1.size
       ·exact (uh HE3).2 x hx),fun x hx=>by
       rcases hb5 x hx with h9 | h9
       ·exact (uh HE3).2 x h9
       ·exact Or.inr (by have:=(uh HE3).1.size; have:=(uh HKC).size; omega)⟩:Ev w' w5 B B5)
     have HQ5:=hide (fun x hx=>by
       rcases hb5 x hx with h9 | h9
       ·rcases (uh HKE).2 x h9 with h8 | h8
        ·exact Or.inl ((uh HDK).lt x h8)
        ·exact Or.inr (by have:=uh HS2; omega)
       ·exact Or.inr (by have:=uh HS4; have:=uh HS3; have:=uh HS2; omega):∀ x∈B5,x < w'.heap.size∨w1.heap.size≤x)
     have HKX:=hide (((uh HK12).mono (M:=w3.heap.size :: (B3++B)) (by simp)).trans (((uh HKE).1.mono (M:=w3.heap.size :: (B3++B)) (fun x hx=>by simp [hx])).trans (k35.mono (M:=w3.heap.size :: (B3++B)) (fun x hx=>by
       rcases List.mem_cons.1 hx with rfl | hx
       ·simp
       ·simp [hx])) (fun x hx=>Or.inl hx)) (fun x hx=>Or.inl hx):Kept (w3.heap.size :: (B3++B)) w1 w5)
     have HMX:=hide (fun x hx=>by
       rcases List.mem_cons.1 hx with rfl | hx
       ·exact Or.inr (by have:=uh HS3; have:=uh HS2; omega)
       ·rcases List.mem_append.1 hx with hx | hx
        ·rcases (uh HKE).2 x hx with h8 | h8
         ·exact Or.inl ((uh HDK).lt x h8)
         ·exact Or.inr (by have:=uh HS2; omega)
        ·exact Or.inl ((uh HDK).lt x hx):∀ x∈w3.heap.size :: (B3++B),x < w'.heap.size∨w1.heap.size≤x)
     clear hd5 k5 hb5 hr5 HBG HD4 HN4 HKC HC k35
     by_cases h5:E5 = 0
     ·subst h5
      have hz:=uh HA3 (by simp) (by simp)
      subst hz
      go_upto_region 17 with fail
      obtain ⟨e0,e1,e2,e3,e4⟩:=xa0t (uh HN5)
      obtain ⟨q0,q1,q2,q3,q4,q5,q6⟩:=xa1g (uh HR5')
      refine xc1v (by kernel_rfl) (by kernel_rfl) (by kernel_rfl) (by kernel_rfl) (by kernel_rfl) (by kernel_rfl) (by kernel_rfl) (by kernel_rfl) (by kernel_rfl) (by kernel_rfl) (by kernel_rfl) (by kernel_rfl) (by kernel_rfl) (by kernel_rfl) (by kernel_rfl) (by kernel_rfl) (by kernel_rfl) (by kernel_rfl) (by kernel_rfl) (by kernel_rfl) (by kernel_rfl) (by kernel_rfl) (by kernel_rfl) (by kernel_rfl) rfl
       (.agg (curC d (f.last + 1) (f.ep + 1) f.sz wd 48 0)) (.int .i64 lim) (.pointer (some ⟨w1.heap.size,2,none⟩)) (.int .u64 (f.sz:Int)) (.agg (lgC d ⟨f.last + 1,f.ep + 1,f.sz,wd,48,0,lim,f.sz,0⟩)) (.pointer (some ⟨w1.heap.size,4,none⟩)) (.slice ba ts.length bc) _ _ _ _ _ _ _
       (fun w'=>Kept [] w5 w')
       (fun w'=>Kept [] w5 w')
       (fun u5 w'=>∃ l,u5 = .pointer (some ⟨l,0,none⟩)∧w5.heap.size≤l∧w'.heap[l]? = some (.cells (lgC d ⟨f.last + 1,f.ep + 1,f.sz,wd,48,0,lim,f.sz,0⟩) 132 (0,0))∧Kept [] w5 w')
       (fun u5=>u5) (fun _=>.slice ba ts.length bc) (fun _=>.int .i64 0)
       (by simp only [Act.put,sa1,sa2,sa3]; rfl) (by exact Or.inl ⟨by rfl,fun W' hW'=>by have h0:=hW'.cell q0 (by simp); have h1:=hW'.cell q1 (by simp); have h2:=hW'.cell q2 (by simp); have h3:=hW'.cell q3 (by simp); have h4:=hW'.cell q4 (by simp); have h5:=hW'.cell q5 (by simp); have h6:=hW'.cell q6 (by simp); go_simp; unfold curC; push_cast; rfl⟩)
       (by simp only [Act.put,sa1,sa2,sa3]; rfl) (by exact Or.inl ⟨by rfl,fun W' hW'=>by go_simp⟩)
       (by simp only [Act.put,sa1,sa2,sa3]; rfl) (by exact Or.inl ⟨by rfl,fun W' hW'=>by go_simp⟩)
       (by simp only [Act.put,sa1,sa2,sa3]; rfl) (by exact Or.inl ⟨by rfl,fun W' hW'=>by have h2:=hW'.cell e2 (by simp); go_simp⟩)
       (by simp only [Act.put,sa1,sa2,sa3]; rfl) (by exact Or.inl ⟨by rfl,fun W' hW'=>by unfold curC lgC; go_simp; try (push_cast; rfl)⟩)
       (by simp only [Act.put,sa1,sa2,sa3]; rfl) (by exact Or.inl ⟨by rfl,fun W' hW'=>by go_simp⟩)
       (by simp only [Act.put,sa1,sa2,sa3]; rfl) (by exact Or.inl ⟨by rfl,fun W' hW'=>by have h4:=hW'.cell e4 (by simp); go_simp⟩)
       (Kept.refl [] w5).drew
       ⟨fun w' h=>h,fun u5 w' h=>h.choose_spec.2.2.2⟩
       (by
        intro w' k K hK
        have hK2:=hK _ _ ⟨w'.heap.size,rfl,k.size,heap_alloc_new w' (.cells (lgC d ⟨f.last + 1,f.ep + 1,f.sz,wd,48,0,lim,f.sz,0⟩) 132),k.alloc _⟩
        clear hK
        simp only [Act.put,sa1,sa2,sa3] at hK2 ⊢
        unfold Oper.wp execOp
        go_simp
        exact hK2)
       (by rintro u5 w' ⟨l,rfl,_⟩; exact Or.inl ⟨by rfl,fun W' hW'=>by go_simp⟩)
       (by rintro u5 w' ⟨l,rfl,_⟩; exact Or.inl ⟨by rfl,fun W' hW'=>by go_simp⟩)
       (by rintro u5 w' ⟨l,rfl,_⟩; exact Or.inl ⟨by rfl,fun W' hW'=>by go_simp⟩)
       ?_
      rintro u5 w6 ⟨l,rfl,hl,hrl,k6⟩
      simp only [Act.put,sa1,sa2,sa3]
      clear e0 e1 e2 e3 e4 q0 q1 q2 q3 q4 q5 q6
      have hdk:=(uh HD5).old k6
      have hlB:l∉B5:=fun hm=>by have:=(uh HD5).lt _ hm; omega
      have HFN:=hide (⟨hdk,⟨(uh HE5).1.trans k6 (by simp),(uh HE5).2⟩,(uh HHQ),(uh HHX).re ((uh HKX).trans k6 (by simp)) (uh HMX) (uh HQ5),(fun h=>(by cases h)),fun s hs=>by
        cases hs
        exact ⟨l,rfl,by have:=(uh HE5).1.size; omega,⟨hrl,hdk,hlB,by have:=uh HLA; show f.last + 1 < _; omega,by have:=uh HEP; show f.ep + 1 < _; omega,uh HSZ,uh HWB,by show 0≤_; omega,by show 48≤_; omega,uh HLB,by show 0 < 100; omega⟩,(uh HHX).re ((uh HKX).trans k6 (by simp)) (uh HMX) (fun x hx=>by
         rcases List.mem_cons.1 hx with rfl | hx
         ·exact Or.inr (by have:=(uh HKX).size; omega)
         ·exact uh HQ5 x hx)⟩⟩:OpR w' w6 d nb ob bb B B5 ⟨0,τ5,some ⟨f.last + 1,f.ep + 1,f.sz,wd,48,0,lim,f.sz,0⟩,f.bs⟩ (.pointer (some ⟨l,0,none⟩)) (.slice ba ts.length bc) ts)
      clear hdk hlB hl hrl k6
      go_wp2_with fail
      refine bodyPost_ret (v:=.tuple #[.pointer (some ⟨l,0,none⟩),.slice ba ts.length bc,.int .i64 0]) (by rw [results_tmp3 rfl]; rfl) rfl ⟨B5,_,_,ts,rfl,uh HFN⟩
     ·have h5':((E5:Int) != 0) = true:=by rw [bne_iff_ne]; omega
      have hz:=uh HA2 (by simp) h5
      subst hz
      clear h5
      go_wp2_with fail
      refine bodyPost_ret (v:=.tuple #[.pointer none,.slice none 0 0,.int .i64 (E5:Int)]) (by rw [results_tmp3 rfl]; rfl) rfl ⟨B5,_,_,[],rfl,OpR.fail (uh HD5) (uh HE5)⟩
    ·have h3':((E3:Int) != 0) = true:=by rw [bne_iff_ne]; omega
     have hz:=uh HA1 h3
     subst hz
     have HD9:=hide ((uh HD3).more (nb':=nb + 1) (ob':=ob + nb + 4) (bb':=bb + 48) (by omega) (by have:=(uh HSF).1; omega) (by omega))
     clear h3
     go_wp2_with fail
     refine bodyPost_ret (v:=.tuple #[.pointer none,.slice none 0 0,.int .i64 (E3:Int)]) (by rw [results_tmp3 rfl]; rfl) rfl ⟨B3,_,_,[],rfl,OpR.fail (uh HD9) (uh HE3)⟩
 ·have hag':argOk wd lim = false:=by simpa using hag
  have hA:opD σ wd lim = ⟨1,σ,none,[]⟩:=by unfold opD; rw [if_pos hag']
  rw [hA]
  refine Calls.mono (xb5e _ (Or.inr ⟨d,rfl⟩) wd lim w hag') ?_
  rintro e w' ⟨rfl,rfl⟩
  exact ⟨B,_,_,[],rfl,OpR.fail (hD.more (by omega) (by omega) (by omega)) (Ev.refl _ _)⟩
theorem nmB_ne {a b:Nat} (ha:a < 18446744073709551616) (hb:b < 18446744073709551616) (h:a≠b):nmB a≠nmB b:=by
 intro e
 exact h (xc0c ha hb (xb1i (xa4t a) (xa4t b) e))
theorem awk1:opD (dH 16 0 []) 4 1 = ⟨0,dH 16 4 [⟨nmB 1,ehB 1 1 0 4,48,true⟩],some ⟨1,1,0,4,48,0,1,0,0⟩,[]⟩:=by
 rw [opD_eq (by decide) rfl]
 have h1:nmsOf (dH 16 0 []) = []:=by simp [nmsOf,srtN,dH]
 rw [h1]
 show opOf (dH 16 0 []) 4 1 fst0 = _
 unfold opOf
 have h2:stSyncs (dH 16 0 []) fst0.sg = (0,dH 16 0 []):=rfl
 rw [h2]
 dsimp only
 have h3:=xa7v (sec:=16) (op:=0) (A:=[]) (fst0.last + 1) (fst0.ep + 1) fst0.sz (wd:=4) (by omega) (by decide) (by simp)
 rw [h3]
 rfl
theorem lay_h {sec:Nat} {op:Int} {A:List DF} {s:LSt} (p:List Nat) (h:0≤op) (hn:(findA A (nmB s.num).data.toList).isSome = true):lgLay (dH sec op A) s p = (0,dH sec (op + 1) (upA A (nmB s.num) fun f=>{ f with bs:=f.bs++p }),{ s with byt:=s.byt + p.length,bt:=s.bt + 1 }):=by
 unfold lgLay
 rw [xa5c p h hn]
 rfl
theorem xb1t {x:DF} {s:ByteArray} (hx:x.nm = s):(findA [x] s.data.toList).isSome = true:=xa2e (A:=[]) hx
theorem awk2:∃ n p,lgAppend (dH 16 4 [⟨nmB 1,ehB 1 1 0 4,48,true⟩]) ⟨1,1,0,4,48,0,1,0,0⟩ [⟨1,[1],[2]⟩] = (0,dH 16 5 [⟨nmB 1,p,48,true⟩],⟨1,1,0,4,48 + n,1,1,1,0⟩):=by
 have hc:chkB 0 [⟨1,[1],[2]⟩] = 0:=by decide
 refine ⟨(sbB 0 [⟨1,[1],[2]⟩]).length,ehB 1 1 0 4++sbB 0 [⟨1,[1],[2]⟩],?_⟩
 have hw:lgWrite (dH 16 4 [⟨nmB 1,ehB 1 1 0 4,48,true⟩]) ⟨1,1,0,4,48,0,1,0,0⟩ (sbB 0 [⟨1,[1],[2]⟩]) = (0,dH 16 5 [⟨nmB 1,ehB 1 1 0 4++sbB 0 [⟨1,[1],[2]⟩],48,true⟩],⟨1,1,0,4,48 + (sbB 0 [⟨1,[1],[2]⟩]).length,1,1,0,0⟩):=by
  unfold lgWrite
  rw [if_neg (by decide),lay_h _ (by omega) (xb1t rfl)]
  have hu:=xa5y [] (nmB 1) (fun f=>{ f with bs:=f.bs++sbB 0 [⟨1,[1],[2]⟩] }) ⟨nmB 1,ehB 1 1 0 4,48,true⟩ rfl (by simp)
  rw [List.nil_append,List.nil_append] at hu
  dsimp only
  rw [hu]
  rfl
 unfold lgAppend
 dsimp only
 rw [if_neg (by simp [hc]),if_neg (by decide),hw]
 rfl
theorem awk3 (n:Nat) (p:List Nat):∃ A m,lgAppend (dH 16 5 [⟨nmB 1,p,48,true⟩]) ⟨1,1,0,4,48 + n,1,1,1,0⟩ [⟨1,[3],[4]⟩] = (0,dH 16 11 A,⟨2,1,1,4,m,1,1,2,0⟩)∧(findA A (nmB 2).data.toList).isSome = true:=by
 have hc:chkB 1 [⟨1,[3],[4]⟩] = 0:=by decide
 have hs:=sync_h (sec:=16) (op:=5) (A:=[⟨nmB 1,p,48,true⟩]) (s:=nmB 1) (by omega) (xb1t rfl)
 have hu:=xa5y [] (nmB 1) (fun f=>{ f with sy:=f.bs.length }) ⟨nmB 1,p,48,true⟩ rfl (by simp)
 rw [List.nil_append,List.nil_append] at hu
 rw [hu] at hs
 dsimp only at hs
 have hb:=xa7v (sec:=16) (op:=5 + 1) (A:=[⟨nmB 1,p,p.length,true⟩]) 2 1 1 (wd:=4) (by omega) (by decide) (fun f hf=>by
  rw [List.mem_singleton] at hf
  subst hf
  exact nmB_ne (by omega) (by omega) (by omega))
 have hr:lgRot (dH 16 5 [⟨nmB 1,p,48,true⟩]) ⟨1,1,0,4,48 + n,1,1,1,0⟩ = (0,dH 16 10 [⟨nmB 1,p,p.length,true⟩,⟨nmB 2,ehB 2 1 1 4,48,true⟩],⟨2,1,1,4,48,0,1,1,0⟩):=by
  unfold lgRot
  dsimp only
  rw [hs]
  dsimp only
  rw [hb]
  rfl
 have hl:=lay_h (sec:=16) (op:=10) (A:=[⟨nmB 1,p,p.length,true⟩,⟨nmB 2,ehB 2 1 1 4,48,true⟩]) (s:=⟨2,1,1,4,48,0,1,1,0⟩) (sbB 1 [⟨1,[3],[4]⟩]) (by omega) (xa2e (A:=[⟨nmB 1,p,p.length,true⟩]) rfl)
 refine ⟨upA [⟨nmB 1,p,p.length,true⟩,⟨nmB 2,ehB 2 1 1 4,48,true⟩] (nmB 2) fun f=>{ f with bs:=f.bs++sbB 1 [⟨1,[3],[4]⟩] },48 + (sbB 1 [⟨1,[3],[4]⟩]).length,?_,?_⟩
 ·have hw:lgWrite (dH 16 5 [⟨nmB 1,p,48,true⟩]) ⟨1,1,0,4,48 + n,1,1,1,0⟩ (sbB 1 [⟨1,[3],[4]⟩]) = (0,dH 16 11 (upA [⟨nmB 1,p,p.length,true⟩,⟨nmB 2,ehB 2 1 1 4,48,true⟩] (nmB 2) fun f=>{ f with bs:=f.bs++sbB 1 [⟨1,[3],[4]⟩] }),⟨2,1,1,4,48 + (sbB 1 [⟨1,[3],[4]⟩]).length,1,1,1,0⟩):=by
   unfold lgWrite
   have hf:lgFull ⟨1,1,0,4,48 + n,1,1,1,0⟩ = true:=by unfold lgFull; simp; omega
   rw [if_pos hf,hr]
   dsimp only
   rw [if_neg (by simp),hl]
   rfl
  unfold lgAppend
  dsimp only
  rw [if_neg (by simp [hc]),if_neg (by simp [lgFail]),hw]
  rfl
 ·unfold findA upA
  rw [List.find?_isSome]
  exact ⟨{ (⟨nmB 2,ehB 2 1 1 4,48,true⟩:DF) with bs:=ehB 2 1 1 4++sbB 1 [⟨1,[3],[4]⟩] },by simp,by simp⟩
theorem awk4 (A:List DF) (m:Nat) (h:(findA A (nmB 2).data.toList).isSome = true):∃ C,lgSync (dH 16 11 A) ⟨2,1,1,4,m,1,1,2,0⟩ = (0,dH 16 12 C,⟨2,1,1,4,m,1,1,2,0⟩):=by
 unfold lgSync
 rw [if_neg (by simp [lgFail])]
 dsimp only
 rw [sync_h (by omega) h]
 exact ⟨_,rfl⟩
theorem LK.varsG {g0:Nat} {w w':World} {l:Nat} {B B':List Nat} (hv:VarsG g0 w) (ev:EvL w w' l B B') (hB:∀ x∈B,g0≤x) (hl:g0≤l):VarsG g0 w':=hv.on ev.1 (fun x hx=>by
 rcases List.mem_cons.1 hx with rfl | hx
 ·exact hl
 ·exact hB x hx)
set_option maxHeartbeats 2000000 in
theorem xa7o (k v:Nat) (w:World) (hk:k < 256) (hv:v < 256) :
  Calls Tryz.prog 27 #[.int .u8 (k:Int),.int .u8 (v:Int)] w fun e w'=>∃ ka kc va vc,e = .returned (.agg #[.int .u8 1,.slice ka 1 kc,.slice va 1 vc])∧OkE w' ⟨1,[k],[v]⟩ (.slice ka 1 kc) (.slice va 1 vc)∧Kept [] w w':=by
 have HE:=hide (xa3v w (.cells #[.int .u8 1,.slice (some ⟨w.heap.size + 1,0,none⟩) 1 1,.slice (some ⟨w.heap.size + 1 + 1,0,none⟩) 1 1] 71) (.cells #[.int .u8 (k:Int)] 5) (.cells #[.int .u8 (v:Int)] 5))
 have HK:=hide ((((Kept.refl [] w).alloc (.cells #[.int .u8 1,.slice (some ⟨w.heap.size + 1,0,none⟩) 1 1,.slice (some ⟨w.heap.size + 1 + 1,0,none⟩) 1 1] 71)).alloc (.cells #[.int .u8 (k:Int)] 5)).alloc (.cells #[.int .u8 (v:Int)] 5))
 go_enter Tryz.func27,Tryz.ntmps27
 go_wp2_with fail
 obtain ⟨h1,h2,h3⟩:=uh HE
 refine bodyPost_ret (v:=.agg #[.int .u8 1,.slice (some ⟨w.heap.size + 1,0,none⟩) 1 1,.slice (some ⟨w.heap.size + 1 + 1,0,none⟩) 1 1]) ?_ rfl ⟨_,_,_,_,rfl,⟨by show (1:Nat) < 256; omega,rd_row [k] h2 rfl (by simpa using hk) 1 rfl (by omega),rd_row [v] h3 rfl (by simpa using hv) 1 rfl (by omega)⟩,uh HK⟩
 exact xa1m rfl _ _ w.heap.size _ #[.int .u8 1,.slice (some ⟨w.heap.size + 1,0,none⟩) 1 1,.slice (some ⟨w.heap.size + 1 + 1,0,none⟩) 1 1] (0,0) _ rfl h1 Tryz.underlying71 rfl Tryz.size_entry
set_option maxHeartbeats 4000000 in
theorem xb4q (w:World) (hv:VarsS w):Calls Tryz.prog 7 #[] w fun e w'=>e = .returned (.bool true)∧Kept [] w w':=by
 have HVG:=hide (VarsG.start hv)
 have HN:=hide (newM_D 16 w (by omega) (by omega))
 clear hv
 go_enter Tryz.func7,Tryz.ntmps7
 go_wp2_with fail
 refine Calls.mono (uh HN) ?_
 rintro e w1 ⟨d,B,rfl,hD,k1,hB⟩
 have hF:DKf w1 d B 0 0 0 (dH 16 0 []):=hD.toF (by show (0:Int)≤0; omega)
 have HOP:=hide (xa3c d 0 0 0 w.heap.size 4 1 B (dH 16 0 []) w1 hF ((uh HVG).old k1) hB k1.size (by omega) (by omega) (by omega) (Nat.le_trans (rdT_le _ hF.dist) (by show 0≤_; omega)))
 rw [awk1] at HOP
 have HK1:=hide k1
 have HB1:=hide hB
 clear hD hF k1 hB HN
 go_wp2_with fail
 refine Calls.mono (uh HOP) ?_
 rintro e w2 ⟨B2,lp,bv,ts,rfl,hR⟩
 obtain ⟨l,rfl,hl,hLK,_⟩:=hR.so _ rfl
 have hts:ts = []:=by have h9:=hR.bs; cases ts with | nil=>rfl | cons a b=>cases h9
 subst hts
 obtain ⟨ba,bc,rfl⟩:=hR.ow.shape
 have HLK2:=hide hLK
 have HK2:=hide ((uh HK1).trans hR.ev.1 (fun x hx=>Or.inr (uh HB1 x hx)))
 have HB2:=hide (hR.ev.ge (uh HB1) (uh HK1).size)
 have HV2:=hide (((uh HVG).old (uh HK1)).on hR.ev.1 (uh HB1))
 have HL:=hide (Nat.le_trans (uh HK1).size hl)
 have HOS:=hide (ops_F _ _ _ _ _ _ w2 hLK.dk)
 clear hR hLK hl HOP HK1 HB1
 go_wp2_with fail
 refine Calls.mono (uh HOS) ?_
 rintro e w3 ⟨rfl,rfl⟩
 have HP1:=hide (xa7o 1 2 w3 (by omega) (by omega))
 clear HOS
 go_wp2_with fail
 refine Calls.mono (uh HP1) ?_
 rintro e w4 ⟨ka,kc,va,vc,rfl,ok4,k4⟩
 have hN4:=heap_alloc_new w4 (.cells #[.int .u8 1,.slice ka 1 kc,.slice va 1 vc] 71)
 have kA4:=(Kept.refl [] w4).alloc (.cells #[.int .u8 1,.slice ka 1 kc,.slice va 1 vc] 71)
 have hrn:=RdN.one (e:=⟨1,[1],[2]⟩) hN4 (ok4.old kA4)
 have HAP:=hide (xa1o l d _ _ _ w.heap.size B2 _ _ _ _ _ (((uh HLK2).old k4).old kA4) (((uh HV2).old k4).old kA4) (uh HB2) (uh HL) (Nat.le_trans (uh HK2).size (Nat.le_trans k4.size kA4.size)) hrn (by omega) (by omega) (by omega))
 have HKA:=hide (k4.trans kA4 (by simp))
 clear hN4 kA4 hrn ok4 k4 HP1
 obtain ⟨n5,p5,hw5⟩:=awk2
 rw [hw5] at HAP
 clear hw5
 go_wp2_with fail
 refine Calls.mono (uh HAP) ?_
 rintro e w5 ⟨B5,rfl,hLK5,ev5⟩
 have HLK5:=hide hLK5
 have HK5:=hide (((uh HK2).trans (uh HKA) (by simp)).trans ev5.1 (fun x hx=>Or.inr (by
  rcases List.mem_cons.1 hx with rfl | hx
  ·exact uh HL
  ·exact uh HB2 x hx)))
 have HB5:=hide (ev5.ge (uh HB2) (Nat.le_trans (uh HK2).size (uh HKA).size))
 have HV5:=hide (LK.varsG ((uh HV2).old (uh HKA)) ev5 (uh HB2) (uh HL))
 clear hLK5 ev5 HAP HKA HB2 HV2 HLK2 HK2
 have HP1:=hide (xa7o 3 4 w5 (by omega) (by omega))
 go_wp2_with fail
 refine Calls.mono (uh HP1) ?_
 rintro e w6 ⟨ka,kc,va,vc,rfl,ok4,k4⟩
 have hN4:=heap_alloc_new w6 (.cells #[.int .u8 1,.slice ka 1 kc,.slice va 1 vc] 71)
 have kA4:=(Kept.refl [] w6).alloc (.cells #[.int .u8 1,.slice ka 1 kc,.slice va 1 vc] 71)
 have hrn:=RdN.one (e:=⟨1,[3],[4]⟩) hN4 (ok4.old kA4)
 have HAP:=hide (xa1o l d _ _ _ w.heap.size B5 _ _ _ _ _ (((uh HLK5).old k4).old kA4) (((uh HV5).old k4).old kA4) (uh HB5) (uh HL) (Nat.le_trans (uh HK5).size (Nat.le_trans k4.size kA4.size)) hrn (by omega) (by omega) (by omega))
 have HKA:=hide (k4.trans kA4 (by simp))
 clear hN4 kA4 hrn ok4 k4 HP1
 try dsimp only at HAP
 obtain ⟨A7,m7,hw7,hf7⟩:=awk3 n5 p5
 rw [hw7] at HAP
 clear hw7
 go_wp2_with fail
 refine Calls.mono (uh HAP) ?_
 rintro e w7 ⟨B7,rfl,hLK7,ev7⟩
 have HLK7:=hide hLK7
 have HK7:=hide (((uh HK5).trans (uh HKA) (by simp)).trans ev7.1 (fun x hx=>Or.inr (by
  rcases List.mem_cons.1 hx with rfl | hx
  ·exact uh HL
  ·exact uh HB5 x hx)))
 have HB7:=hide (ev7.ge (uh HB5) (Nat.le_trans (uh HK5).size (uh HKA).size))
 have HV7:=hide (LK.varsG ((uh HV5).old (uh HKA)) ev7 (uh HB5) (uh HL))
 clear hLK7 ev7 HAP HKA HB5 HV5 HLK5 HK5
 have HSY:=hide (xa8t l d _ _ _ w.heap.size B7 _ _ w7 (uh HLK7) (uh HV7) (by omega) (by omega))
 try dsimp only at HSY
 obtain ⟨C8,hw8⟩:=awk4 A7 m7 hf7
 rw [hw8] at HSY
 clear hw8 hf7
 go_wp2_with fail
 refine Calls.mono (uh HSY) ?_
 rintro e w8 ⟨B8,rfl,hLK8,ev8⟩
 have HLK8:=hide hLK8
 have HK8:=hide ((uh HK7).trans ev8.1 (fun x hx=>Or.inr (by
  rcases List.mem_cons.1 hx with rfl | hx
  ·exact uh HL
  ·exact uh HB7 x hx)))
 clear hLK8 ev8 HSY HB7 HV7 HLK7 HK7
 go_wp2_with fail
 refine Calls.mono (xa2t l d _ w8 (uh HLK8).row) ?_
 rintro e w9 ⟨rfl,rfl⟩
 go_wp2_with fail
 refine Calls.mono (xb3m l d _ w9 (uh HLK8).row) ?_
 rintro e w10 ⟨rfl,rfl⟩
 go_wp2_with fail
 refine Calls.mono (xa5u l d _ w10 (uh HLK8).row) ?_
 rintro e w11 ⟨rfl,rfl⟩
 go_wp2_with fail
 refine Calls.mono (xa3e l d _ w11 (uh HLK8).row) ?_
 rintro e w12 ⟨rfl,rfl⟩
 go_wp2_with fail
 refine Calls.mono (ops_F _ _ _ _ _ _ w12 (uh HLK8).dk) ?_
 rintro e w13 ⟨rfl,rfl⟩
 go_wp2_with fail
 go_ret
 exact ⟨rfl,uh HK8⟩
end
section
open Go.RowKit Go.BigFrame

end
section
open Go Go.RowKit Go.BigFrame
section
variable {P:Program} {Q:Exit→Act→World→Prop}
end
end
section
open Go.RowKit Go.BigFrame

end
section
open Go.RowKit Go.BigFrame Go.Maps Go.Sort

end
section
open Go.RowKit Go.BigFrame
set_option maxHeartbeats 2000000 in
theorem xa1u (v:Value) (es:List En) (w:World) (h:RdN w v es) (hl:es.length≤1048576) :
  Calls Tryz.prog 55 #[v] w fun r w'=>∃ v',r = .returned v'∧NewN w.heap.size w' v' es∧Kept [] w w':=by
 obtain ⟨ao,len,cap,kv,vv,rfl,h1,h2,h3,h4,h5⟩:=h
 have H4:=hide h4
 have H5:=hide h5
 clear h4 h5
 subst h1
 go_enter Tryz.func55,Tryz.ntmps55
 go_wp2_with fail
 go_loopw [8,3] (fun t12 t3 wr=>∃ (i:Nat) (ts:List (En × Value × Value)),i≤es.length∧t12 = .int .i64 i∧Hid (ts.map (·.1) = es.take i)∧Hid (OwnN [] w wr t3 ts)) (fun t _ _=>es.length - (intOf t).toNat)
 case atStart=>exact ⟨0,[],Nat.zero_le _,rfl,hide (by simp),hide (OwnN.start (Kept.refl [] w))⟩
 case round =>
  obtain ⟨i,ts,hi,rfl,HTS,HO⟩:=hrel
  have HTL:=hide (by have h9:=congrArg List.length (uh HTS); simp only [List.length_map,List.length_take] at h9; omega:ts.length≤1048576)
  by_cases hlt:i < es.length
  ·have hlt':(i:Int) < es.length:=by omega
   obtain ⟨b,off,rfl,hcc⟩:=uh H5 (by omega)
   have hr:=hcc i hlt
   have q0:=(uh HO).kept.cell (hr 0 _ rfl) (by simp)
   have q1:=(uh HO).kept.cell (hr 1 _ rfl) (by simp)
   have q2:=(uh HO).kept.cell (hr 2 _ rfl) (by simp)
   rw [Nat.add_zero] at q0
   have HE:=hide ((uh H4 i hlt).old (uh HO).kept)
   have HSN:=hide (by rw [List.take_succ_eq_append_getElem hlt]:es.take (i + 1) = es.take i++[es[i]])
   clear hcc hr
   generalize kv i = kvi at q1 HE
   generalize vv i = vvi at q2 HE
   generalize es[i] = e at q0 HE HSN
   obtain ⟨a8,m8,c8,rfl,_⟩:=id (uh HE).key
   obtain ⟨a9,m9,c9,rfl,_⟩:=id (uh HE).val
   have HSZ:=hide (uh HO).kept.size
   go_wp2_with fail
   have k1:=(Kept.refl [] wr).alloc (.cells #[.int .u8 (e.k:Int),.slice a8 m8 c8,.slice a9 m9 c9] 71)
   refine Calls.mono (xa6g e _ _ _ ((uh HE).old k1)) ?_
   rintro r w2 ⟨kv2,vv2,rfl,ok2,k2,n2⟩
   obtain ⟨a3,m3,c3,hu3,_⟩:=id ok2.key
   subst hu3
   obtain ⟨a4,m4,c4,hu4,_⟩:=id ok2.val
   subst hu4
   have HN2:=hide (fun y hy=>by have h9:=n2 y hy; rw [show (wr.alloc (.cells #[.int .u8 (e.k:Int),.slice a8 m8 c8,.slice a9 m9 c9] 71)).heap.size = wr.heap.size + 1 from Array.size_push _] at h9; exact h9:∀ y,y∈blk (.slice a3 m3 c3)∨y∈blk (.slice a4 m4 c4)→wr.heap.size + 1≤y)
   have HO2:=hide (((uh HO).old (M:=[]) (k1.trans k2 (by simp)) (by simp)).old (M:=[]) ((Kept.refl [] w2).alloc (.cells #[.int .u8 (e.k:Int),.slice a3 m3 c3,.slice a4 m4 c4] 71)) (by simp))
   have HK2:=hide (ok2.old ((Kept.refl [] w2).alloc (.cells #[.int .u8 (e.k:Int),.slice a3 m3 c3,.slice a4 m4 c4] 71)))
   have HB2:=hide (uh HO2).kept.size
   have HOL:=hide (fun g hg=>((uh HO).own.lt g hg).2:∀ g,u3.ownBlock = some g→g < wr.heap.size)
   clear k1 k2 n2 ok2
   simp only [enC]
   go_wp2_with (at_builtin; refine xa6s rfl _ _ rfl rfl _ w.heap.size u3 ts e (.slice a3 m3 c3) (.slice a4 m4 c4) w2.heap.size (uh HO2).own (heap_alloc_new _ _) rfl rfl (by have:=uh HTL; omega) (uh HB2) rfl rfl ?_; intro g cap2 w5 HO5 HG5 HA5)
   refine ⟨⟨i + 1,ts++[(e,.slice a3 m3 c3,.slice a4 m4 c4)],by omega,by go_num,hide ?_,hide ?_⟩,?_⟩
   ·rw [List.map_append,uh HTS,uh HSN]; rfl
   ·refine (uh HO2).push (uh HK2) (fun b' hb'=>?_) (uh HO5) (uh HG5) (uh HA5)
    have h9:wr.heap.size + 1≤b':=by
     rcases hb' with hb' | hb'
     ·exact uh HN2 b' (Or.inl (xa3f hb').1)
     ·exact uh HN2 b' (Or.inr (xa3f hb').1)
    have h8:=uh HSZ
    exact ⟨fun e9=>by have h7:=uh HOL b' e9; omega,by omega⟩
   ·simp [intOf]; omega
  ·have hlt':¬ (i:Int) < es.length:=by omega
   have hie:i = es.length:=by omega
   subst hie
   rw [List.take_length] at HTS
   go_wp2
   go_ret
   exact ⟨_,rfl,⟨[],w,ts,(uh HTS).symm,uh HO,Nat.le_refl _⟩,(uh HO).kept⟩



end

section
open Go.RowKit
attribute [local go_sem ↓] Go.wp_at_zero Go.wp_at_succ
attribute [local go_sem ↓] Go.wp_at_zero Go.wp_at_succ
end
section
open Go.RowKit Go.BigFrame


end
section
open Go Go.RowKit Go.BigFrame
section
variable {P:Program} {Q:Exit→Act→World→Prop}
end
end
section
open Go.RowKit Go.BigFrame
def numS:Nat→List (List En)→List (Nat × List En)
 | _,[]=>[]
 | i,es :: r=>(i,es) :: numS ((i + es.length) % 18446744073709551616) r
def okS:Nat→List (List En)→Bool
 | _,[]=>true
 | i,es :: r=>decide (chkB i es = 0) && okS ((i + es.length) % 18446744073709551616) r
def runS (ts:List (Nat × List En)):List Nat:=ts.flatMap fun t=>sbB t.1 t.2
theorem xa4y (a b:List (Nat × List En)):runS (a++b) = runS a++runS b:=by simp [runS]
theorem xb1d (t:Nat × List En):runS [t] = sbB t.1 t.2:=by simp [runS]
theorem xa2y (t:Nat × List En) (r:List (Nat × List En)):runS (t :: r) = sbB t.1 t.2++runS r:=by simp [runS]
end

section
open Go.RowKit Go.BigFrame
theorem RdB.at {w:World} {ao:Option Addr} {n c:Nat} {bs:List (Nat × List En)} (h:RdB w (.slice ao n c) bs) (i:Nat) (hi:i < bs.length):∃ b off y,ao = some ⟨b,off,none⟩∧w.cell? ⟨b,off + i * 2,none⟩ = some (.int .u64 (bs[i].1:Int))∧w.cell? ⟨b,off + i * 2 + 1,none⟩ = some y∧RdN w y bs[i].2:=by
 obtain ⟨ao',cap,ts,h1,h2,h3,h4,h5,h6⟩:=h
 cases h1
 have hl:bs.length = ts.length:=by rw [h2]; simp
 obtain ⟨b,off,rfl,hc⟩:=h6 (by omega)
 have hi':i < ts.length:=by omega
 obtain ⟨c1,c2⟩:=hc i hi'
 have e1:bs[i] = (ts[i].1,ts[i].2.2):=by simp [h2]
 exact ⟨b,off,ts[i].2.1,rfl,by rw [e1]; exact c1,c2,by rw [e1]; exact h5 _ (List.getElem_mem _)⟩

end
section
open Go.RowKit
attribute [local go_sem ↓] Go.wp_at_zero Go.wp_at_succ
end
section
open Go
section
variable {P:Program} {ops:Array Oper} {Q:Exit→Act→World→Prop}
end
end
section
open Go.RowKit Go.BigFrame













end
section
open Go.ChangeShapes Go.WideShapes Go.ChangeAt Go.RowKit Go.Deep
theorem own:ownKnob Tryz.prog.godebug = none:=by kernel_rfl
theorem laidOut:laidOutB Tryz.prog = true:=by kernel_rfl
theorem xa3d {x:Int} (h:(Lit.int .u8 x).wf = true):0≤x∧x < 256:=by
 simp [Lit.wf,IntKind.min,IntKind.max,IntKind.signed,IntKind.bits] at h
 exact ⟨by omega,by omega⟩
theorem xa7h {H:Type} (d:DataW H):1≤Rows.uptoBulk d:=by
 cases d with
 | lit l=>cases l <;> simp [Rows.uptoBulk]
 | nil=>simp [Rows.uptoBulk]
 | ptr d=>simp [Rows.uptoBulk]
 | slice elems spare=>simp [Rows.uptoBulk]
 | agg parts=>simp [Rows.uptoBulk]
 | iface t d=>simp [Rows.uptoBulk]
 | map entries=>simp [Rows.uptoBulk]
 | held h=>simp [Rows.uptoBulk]
theorem xb9w {H:Type} (l:List (DataW H)):l.length≤Rows.uptoBulkAll l:=by
 induction l with
 | nil=>simp [Rows.uptoBulkAll]
 | cons x r ih=>have:=xa7h x; simp only [Rows.uptoBulkAll,List.length_cons]; omega
section
variable {H:Type} {enc:TypeId × Value→H} {W:World}
theorem xa3r {fuel:Nat} {cs:List Value} {x:DataW H × List MemPlace} (h:DataW.trod enc Tryz.prog W 0 (fun _=>true) true fuel 49 cs = some x) :
  ∃ v bs,cs = [v]∧(bs.length≤140737488355328→Rd W v bs)∧((bs = []∧x.1 = .nil)∨∃ elems spare,x.1 = .slice elems spare∧elems.length = bs.length):=by
 rcases open_ints Tryz.underlying49 Tryz.underlying5 (by kernel_rfl) h with ⟨rfl,rfl⟩ | ⟨a,len,cap,zs,rfl,_,hl,hm,hz,rfl,hcell,hwz⟩
 ·exact ⟨_,[],rfl,fun _=>Rd.nil W,.inl ⟨rfl,rfl⟩⟩
 ·have h2:(lits (H:=H) .u8 (zs.take len)).length = len:=by simp only [lits,List.length_map,List.length_take]; simp at hz; omega
  have hbl:((zs.take len).map Int.toNat).length = len:=by simp at hz; simp; omega
  refine ⟨_,(zs.take len).map Int.toNat,rfl,fun hB=>⟨_,_,_,rfl,hbl,hl,⟨by unfold maxLen at hm; omega,by omega⟩,by simp,?_,?_⟩,.inr ⟨_,_,rfl,by rw [h2,hbl]⟩⟩
  ·intro y hy
   obtain ⟨z,hz1,rfl⟩:=List.mem_map.1 hy
   have:=xa3d (hwz z (List.mem_of_mem_take hz1)); omega
  ·intro hp
   simp at hz
   have hc0:=hcell 0 (by omega)
   obtain ⟨b,off,spot⟩:=a
   have hspot:spot = none:=by simpa [Addr.add] using World.cell?_spot hc0
   subst hspot
   refine ⟨b,off,rfl,fun i hi=>?_⟩
   have hc:=hcell i (by omega)
   have hzi:i < zs.length:=by omega
   rw [Addr.add_mid] at hc
   rw [hc]
   have hw:=xa3d (hwz (zs[i]) (List.getElem_mem hzi))
   simp only [List.getD_eq_getElem?_getD,List.getElem?_eq_getElem hzi,Option.getD_some,List.getElem?_map,List.getElem?_take,hi,if_true,Option.map_some]
   simp [u8]; omega
theorem xa3u {d:DataW H} {bs:List Nat} (hx:(bs = []∧d = .nil)∨∃ elems spare,d = .slice elems spare∧elems.length = bs.length):bs.length + 1≤Rows.uptoBulk d:=by
 rcases hx with ⟨rfl,rfl⟩ | ⟨elems,spare,rfl,he⟩
 ·simp [Rows.uptoBulk]
 ·have:=xb9w elems
  simp only [Rows.uptoBulk]; omega
end
structure IFile where
 nm:ByteArray
 v:Value
 bs:List Nat
 sy:Int
 nd:Bool
structure OpD where
 k:Int
 s:ByteArray
 pv:Value
 ps:List Nat
 fv:Value
 fl:List (Int × Int)
 cr:Int
 n:Int
 kv:Value
 ks:List KeepD
section
variable {H:Type} {enc:TypeId × Value→H} {W:World}
theorem k_part {d:DataW H} {l:List (DataW H)} (h:d∈l):Rows.uptoBulk d≤Rows.uptoBulkAll l:=by
 induction l with
 | nil=>simp at h
 | cons a l ih =>
  simp only [Rows.uptoBulkAll]
  rcases List.mem_cons.1 h with rfl | h
  ·omega
  ·have:=ih h; omega
theorem k_sum {α:Type} (D:Nat→DataW H) (f:Nat→α) (μ:α→Nat) (l:List Nat) (h:∀ i∈l,μ (f i)≤Rows.uptoBulk (D i)):((l.map f).map μ).sum≤Rows.uptoBulkAll (l.map D):=by
 induction l with
 | nil=>simp
 | cons a l ih =>
  have h1:=h a (by simp)
  have h2:=ih (fun i hi=>h i (by simp [hi]))
  simp only [List.map_cons,Rows.uptoBulkAll,List.sum_cons]
  omega
theorem xb7z (cs:List Value) (a n:Nat):cs.drop a = (cs.drop a).take n++cs.drop (a + n):=by
 rw [← List.drop_drop,List.take_append_drop]
theorem xb6r {T E:TypeId} {s:Nat} (hu:Tryz.prog.underlying T = some (.slice E)) (hC:Tryz.prog.cellsOf E = s) {α:Type} [Inhabited α] (mk:α→List Value) (hne:∀ a,(mk a).length = s) (hs0:0 < s) (Q:α→Prop) (μ:α→Nat)
  (hel:∀ (n:Nat) (cs:List Value) (y:DataW H × List MemPlace),DataW.trod enc Tryz.prog W 0 (fun _=>true) true n E cs = some y→Rows.uptoBulk y.1≤1048576→∃ a,cs = mk a∧Q a∧μ a≤Rows.uptoBulk y.1)
  {fuel:Nat} {cs:List Value} {x:DataW H × List MemPlace} (h:DataW.trod enc Tryz.prog W 0 (fun _=>true) true fuel T cs = some x) (hB:Rows.uptoBulk x.1≤1048576) :
  ∃ (v:Value) (l:List α),cs = [v]∧RdC s W v (l.map mk)∧(∀ a∈l,Q a)∧(l.map μ).sum + 1≤Rows.uptoBulk x.1:=by
 rcases open_slice hu h with ⟨rfl,rfl⟩ | ⟨a,len,cap,m,n,D,Pl,rfl,_,hl,hm,hmm,rfl,hx⟩
 ·exact ⟨_,[],rfl,RdC.nil s W,by simp,by simp [Rows.uptoBulk]⟩
 ·rw [hC] at hx
  simp only [if_true] at hmm
  simp only [Rows.uptoBulk] at hB ⊢
  obtain ⟨f,hf⟩:=choose_lt (α:=α) (n:=len) (p:=fun i o=>((∀ j v,(mk o)[j]? = some v→W.cell? ((a.add (i * s)).add j) = some v)∧Q o)∧μ o≤Rows.uptoBulk (D i)) (by
   intro i hi
   obtain ⟨cs',h1,h2⟩:=hx i (by omega)
   have hDi:Rows.uptoBulk (D i)≤Rows.uptoBulkAll ((List.range len).map D):=k_part (List.mem_map.2 ⟨i,List.mem_range.2 hi,rfl⟩)
   obtain ⟨o,rfl,ho,hbb⟩:=hel _ _ _ h2 (by simp only; omega)
   obtain ⟨_,hlen,hc⟩:=World.cells?_some h1
   refine ⟨o,⟨fun j v hv=>?_,ho⟩,hbb⟩
   have hj:=(List.getElem?_eq_some_iff.1 hv).1
   have:=hc j (by rw [hne] at hj; exact hj)
   rw [this,← hv,List.getElem?_eq_getElem hj])
  refine ⟨_,(List.range len).map f,rfl,⟨some a,len,cap,rfl,by simp,hl,by unfold maxLen at hm; omega,?_⟩,?_,?_⟩
  ·intro hp
   obtain ⟨b,off,spot⟩:=a
   have h0:=(hf 0 hp).1.1
   have hc0:=h0 0 _ (List.getElem?_eq_getElem (by rw [hne]; exact hs0))
   have hspot:spot = none:=by simpa [Addr.add] using World.cell?_spot hc0
   subst hspot
   refine ⟨b,off,rfl,fun i hi j v hv=>?_⟩
   have hi':i < len:=by simpa using hi
   have e9:(((List.range len).map f).map mk)[i] = mk (f i):=by simp
   rw [e9] at hv
   have:=(hf i hi').1.1 j v hv
   rw [Addr.add_mid,Addr.add_mid] at this
   exact this
  ·intro o ho
   obtain ⟨i,hi,rfl⟩:=List.mem_map.1 ho
   exact (hf i (List.mem_range.1 hi)).1.2
  ·have:=k_sum D f μ (List.range len) (fun i hi=>(hf i (List.mem_range.1 hi)).2)
   omega
instance:Inhabited KeepD:=⟨⟨⟨#[]⟩,0,false⟩⟩
instance:Inhabited IFile:=⟨⟨⟨#[]⟩,undef,[],0,false⟩⟩
instance:Inhabited OpD:=⟨⟨0,⟨#[]⟩,undef,[],undef,[],0,0,undef,[]⟩⟩
end
end
section
open Go.RowKit Go.BigFrame Go.Maps Go.Sort


end
section
open Go.RowKit Go.BigFrame Go.Maps

end
section
open Go.RowKit Go.BigFrame Go.Maps Go.Sort


end
section
open Go Go.RowKit Go.BigFrame
section
variable {P:Program} {Q:Exit→Act→World→Prop}
end
end
section
open Go.RowKit Go.BigFrame Go.Maps Go.Sort







end
section
open Go.RowKit

end


section
open Go.RowKit Go.BigFrame Go.Maps Go.Sort

end
section
open Go.RowKit

end
section
open Go.RowKit Go.BigFrame Go.Maps Go.Sort





end
section
open Go Go.RowKit Go.BigFrame
section
variable {P:Program} {Q:Exit→Act→World→Prop}
end
end
section
open Go.RowKit Go.BigFrame Go.Maps Go.Sort







end
section
open Go Go.RowKit Go.BigFrame
section
variable {P:Program} {Q:Exit→Act→World→Prop}
end
end
section
open Go.RowKit Go.BigFrame Go.Maps Go.Sort

end
section
open Go Go.RowKit Go.BigFrame
section
variable {P:Program} {Q:Exit→Act→World→Prop}
end
end
section
open Go.RowKit Go.BigFrame Go.Maps Go.Sort


end
section
open Go.RowKit Go.BigFrame

end
section
open Go.RowKit Go.BigFrame Go.Maps Go.Sort



end
section
open Go Go.RowKit Go.BigFrame
section
variable {P:Program} {Q:Exit→Act→World→Prop}
end
end
section
open Go.RowKit Go.BigFrame Go.Maps Go.Sort

end
section
open Go Go.RowKit Go.BigFrame
section
variable {P:Program} {Q:Exit→Act→World→Prop}
end
end
section
open Go.RowKit Go.BigFrame Go.Maps Go.Sort
theorem RdB.slice {w:World} {v:Value} {bs:List (Nat × List En)} (h:RdB w v bs):∃ ao cap,v = .slice ao bs.length cap∧bs.length≤cap∧cap≤9223372036854775807:=by
 obtain ⟨ao,cap,ts,rfl,rfl,h1,h2,_⟩:=h
 exact ⟨ao,cap,by rw [List.length_map],by rw [List.length_map]; exact h1,h2⟩
theorem xb0h {α:Type} {p q:List α} {k:Nat} (h:p.take k = q.take k) (hp:k < p.length) (hq:k < q.length) (e:p[k] = q[k]):p.take (k + 1) = q.take (k + 1):=by
 rw [List.take_succ_eq_append_getElem hp,List.take_succ_eq_append_getElem hq,h,e]
set_option maxHeartbeats 2000000 in
theorem xa3k (u v:Value) (p q:List (Nat × List En)) (w:World) (hu:RdB w u p) (hv:RdB w v q) :
  Calls Tryz.prog 21 #[u,v] w fun e w'=>e = .returned (.bool (decide (p = q)))∧Kept [] w w':=by
 obtain ⟨ao,cap,rfl,h1,h2⟩:=hu.slice
 obtain ⟨bo,cap2,rfl,g1,g2⟩:=hv.slice
 have HU:=hide hu
 have HV:=hide hv
 clear hu hv
 by_cases hl:p.length = q.length
 ·have hl1:((p.length:Int) != (q.length:Int)) = false:=by simp; omega
  have HL:=hide hl
  clear hl
  go_enter Tryz.func21,Tryz.ntmps21
  go_wp2_with fail
  clear hl1
  go_loopw [13] (fun t13 wr=>∃ k:Nat,k≤p.length∧t13 = .int .i64 (k:Int)∧Hid (p.take k = q.take k)∧Hid (Kept [] w wr)) (fun t _=>p.length - (intOf t).toNat)
  case atStart=>exact ⟨0,Nat.zero_le _,rfl,hide rfl,hide (Kept.refl _ _)⟩
  case round =>
   obtain ⟨k,hk,rfl,HT,HK⟩:=hrel
   by_cases hlt:k < p.length
   ·have hltq:k < q.length:=by have:=uh HL; omega
    have e3:(k:Int) < (p.length:Int):=by omega
    have e4:(k:Int) < (q.length:Int):=by omega
    obtain ⟨b,off,y,rfl,x0,x1,hy⟩:=((uh HU).old (uh HK)).at k hlt
    obtain ⟨b',off',y',rfl,x0',x1',hy'⟩:=((uh HV).old (uh HK)).at k hltq
    have hkc:(k:Int) < cap:=by omega
    have hkc':(k:Int) < cap2:=by omega
    have ha1:IntKind.i64.wrap ((k:Int) + 1) = (k:Int) + 1:=by rw [IntKind.wrap_i64]; omega
    have HP:=hide (fun e=>xb0h (uh HT) hlt hltq e)
    have HNE:=hide (fun (hn:p[k]≠q[k]) (e:p = q)=>hn (by subst e; rfl))
    generalize p[k] = P at x0 x1 hy HP HNE
    generalize q[k] = Q at x0' x1' hy' HP HNE
    obtain ⟨f1,es1⟩:=P
    obtain ⟨f2,es2⟩:=Q
    dsimp only at x0 x1 hy x0' x1' hy'
    obtain ⟨ya,yn,yc,_,_,rfl,_⟩:=id hy
    obtain ⟨za,zn,zc,_,_,rfl,_⟩:=id hy'
    have HY:=hide hy
    have HY':=hide hy'
    clear hy hy'
    go_upto_region 6 with fail
    refine xa0z 8 (by kernel_rfl) (by kernel_rfl) ?_
    simp only [List.take_succ_cons,List.take_zero,List.drop_succ_cons,List.drop_zero]
    repeat (go_big_quiet_step (fail))
    refine wpQuiet_nil ?_
    rintro _ ⟨m5,rfl⟩
    have HSB:=hide (xa5i f1 f2 _ _ es1 es2 (wr.drewN m5) ((uh HY).old ((Kept.refl [] wr).drewN m5)) ((uh HY').old ((Kept.refl [] wr).drewN m5)))
    have HKD:=hide ((uh HK).drewN m5)
    clear x0 x1 x0' x1'
    by_cases he:f1 = f2∧es1 = es2
    ·obtain ⟨rfl,rfl⟩:=he
     rw [decide_eq_true rfl,decide_eq_true rfl,Bool.and_self] at HSB
     have HP2:=hide (uh HP rfl)
     go_wp2_with fail
     refine Calls.mono (uh HSB) ?_
     rintro e w3 ⟨rfl,k3⟩
     have HK3:=hide ((uh HKD).trans k3 (by simp))
     clear k3
     go_wp2_with fail
     go_roundw
     case rel=>exact ⟨k + 1,by omega,by simp,HP2,HK3⟩
     case measure=>simp [intOf]; omega
    ·have hf:(decide (f1 = f2) && decide (es1 = es2)) = false:=by
      rw [Bool.and_eq_false_iff,decide_eq_false_iff_not,decide_eq_false_iff_not]
      by_cases h9:f1 = f2
      ·exact Or.inr (fun h8=>he ⟨h9,h8⟩)
      ·exact Or.inl h9
     rw [hf] at HSB
     have HN2:=hide (uh HNE (fun h=>he ⟨congrArg Prod.fst h,congrArg Prod.snd h⟩))
     clear hf he
     go_wp2_with fail
     refine Calls.mono (uh HSB) ?_
     rintro e w3 ⟨rfl,k3⟩
     have HK3:=hide ((uh HKD).trans k3 (by simp))
     clear k3
     go_wp2_with fail
     go_ret
     exact ⟨by rw [decide_eq_false (uh HN2)]; rfl,uh HK3⟩
   ·have e3:¬ (k:Int) < (p.length:Int):=by omega
    have hie:k = p.length:=by omega
    subst hie
    have HEQ:=hide (by have h9:=uh HT; rw [List.take_length,uh HL,List.take_length] at h9; exact h9:p = q)
    go_wp2_with fail
    go_ret
    exact ⟨by rw [decide_eq_true (uh HEQ)]; rfl,uh HK⟩
 ·have hl1:((p.length:Int) != (q.length:Int)) = true:=by rw [bne_iff_ne]; omega
  have HNE:=hide (fun e:p = q=>hl (by rw [e]))
  clear hl
  go_enter Tryz.func21,Tryz.ntmps21
  go_wp2_with fail
  go_ret
  exact ⟨by rw [decide_eq_false (uh HNE)]; rfl,Kept.refl _ _⟩
def E3 (e:Nat):Prop:=e = 0∨e = 7∨e = 12
theorem opE_3 (ft:Int→Option Int) (cr op:Int):E3 (opE ft cr op 0):=by
 unfold opE E3
 (repeat' split) <;> simp_all
def nmS (σ:DSt):List ByteArray:=σ.A.map DF.nm
theorem xa1v (A:List DF) (s:ByteArray):(findA A s.data.toList).isSome = true↔s∈A.map DF.nm:=by
 unfold findA
 rw [List.find?_isSome,List.mem_map]
 constructor
 ·rintro ⟨f,hf,h⟩
  exact ⟨f,hf,ba_ext (by simpa using h)⟩
 ·rintro ⟨f,hf,rfl⟩
  exact ⟨f,hf,by simp⟩
theorem sync_3 {σ:DSt} {s:ByteArray} (h:s∈nmS σ):E3 (stSync σ s).1:=by
 unfold stSync
 split
 ·exact Or.inr (Or.inr rfl)
 ·rw [if_pos ((xa1v _ _).2 h)]
  exact opE_3 _ _ _
theorem xb9n {σ:DSt} {s:ByteArray} (p:List Nat) (h:s∈nmS σ):E3 (stAppend σ s p).1:=by
 unfold stAppend
 split
 ·exact Or.inr (Or.inr rfl)
 ·rw [if_pos ((xa1v _ _).2 h)]
  exact opE_3 _ _ _
theorem xc0q (σ:DSt):E3 (stNames σ).1:=by
 unfold stNames
 split
 ·exact Or.inr (Or.inr rfl)
 ·exact opE_3 _ _ _
theorem xb9l {σ:DSt} {s:ByteArray} (hs:isNm s = true) (h:s∉nmS σ):E3 (stCreate σ s).1:=by
 unfold stCreate
 split
 ·exact Or.inr (Or.inr rfl)
 ·have:ownA σ.A s = 0:=by
   unfold ownA
   rw [if_pos hs]
   cases hq:(findA σ.A s.data.toList).isSome
   ·rfl
   ·exact absurd ((xa1v _ _).1 hq) h
  rw [this]
  exact opE_3 _ _ _
theorem xb7b (σ:DSt) (s:ByteArray):nmS (stSync σ s).2 = nmS σ:=by
 unfold stSync nmS
 (repeat' split) <;> first | rfl | (exact upA_nm (fun x=>rfl))
theorem xa8p (σ:DSt) (s:ByteArray) (p:List Nat):nmS (stAppend σ s p).2 = nmS σ:=by
 unfold stAppend nmS
 (repeat' split) <;> first | rfl | (exact upA_nm (fun x=>rfl))
theorem xb8o (σ:DSt):nmS (stNames σ).2 = nmS σ:=by
 unfold stNames nmS
 (repeat' split) <;> first | rfl | (show (ndA σ.A).map DF.nm = _; unfold ndA; rw [List.map_map]; rfl)
theorem xa8y {σ:DSt} {s:ByteArray} (h:(stCreate σ s).1 = 0):nmS (stCreate σ s).2 = nmS σ++[s]:=by
 unfold stCreate at h ⊢
 split
 ·rename_i h1
  rw [if_pos h1] at h
  cases h
 ·rename_i h1
  rw [if_neg h1] at h
  have h2:opE σ.ft σ.cr σ.op (ownA σ.A s) = 0:=h
  have h3:ownA σ.A s = 0:=by
   unfold opE at h2
   by_cases h4:ownA σ.A s = 0
   ·exact h4
   ·split at h2
    ·cases h2
    ·first | exact h2 | (rw [if_pos h4] at h2; exact h2)
  show (if ownA σ.A s = 0∧opE σ.ft σ.cr σ.op (ownA σ.A s)≠7 then σ.A++[⟨s,[],0,false⟩] else σ.A).map DF.nm = _
  rw [if_pos ⟨h3,by rw [h2]; omega⟩,List.map_append]
  rfl
theorem thn_3 {r:Nat × DSt} {f:DSt→Nat × DSt} (h:E3 r.1) (hf:r.1 = 0→E3 (f r.2).1):E3 (thn r f).1:=by
 unfold thn
 split
 ·rename_i h0; exact hf h0
 ·exact h
theorem thn_ok {r:Nat × DSt} {f:DSt→Nat × DSt} (h:(thn r f).1 = 0):r.1 = 0∧(f r.2).1 = 0∧(thn r f).2 = (f r.2).2:=by
 unfold thn at h ⊢
 split
 ·rename_i h0; rw [if_pos h0] at h; exact ⟨h0,h,rfl⟩
 ·rename_i h0; rw [if_neg h0] at h; exact absurd h h0
theorem xc1t {σ:DSt} {n ep fs:Nat} {wd:Int} (h:nmB n∉nmS σ):E3 (stBegin σ n ep fs wd).1:=by
 unfold stBegin
 refine thn_3 (thn_3 (thn_3 (xb9l (nmB_ok n) h) (fun h1=>?_)) (fun h1=>?_)) (fun _=>xc0q _)
 ·exact xb9n _ (by rw [xa8y h1]; simp)
 ·obtain ⟨h2,h3,h4⟩:=thn_ok h1
  exact sync_3 (by rw [h4,xa8p,xa8y h2]; simp)
theorem xa7k {s:LSt} (h:lgFail s = 0):s.st = 0:=by
 unfold lgFail at h
 split at h
 ·exact h
 ·cases h
theorem xb2d {σ:DSt} {s:LSt} (h:s.st≠0):lgSync σ s = (lgFail s,σ,s):=by
 unfold lgSync
 rw [if_pos (fun h0=>h (xa7k h0))]
theorem xa6q {σ:DSt} {s:LSt} (es:List En) (h:s.st≠0):lgAppend σ s es = (if chkB s.nx es≠0 then chkB s.nx es else lgFail s,σ,s):=by
 unfold lgAppend
 split
 ·rfl
 ·rw [if_pos (fun h0=>h (xa7k h0))]
def phF (f:DF):Nat:=f.bs.length + if f.sy = f.bs.length then 0 else 4096
def phi (A:List DF):Nat:=(A.map phF).sum
theorem xb1z (A:List DF):totA A≤phi A:=by
 unfold totA phi
 induction A with
 | nil=>simp
 | cons f r ih =>
  simp only [List.map_cons,List.sum_cons]
  have:f.bs.length≤phF f:=by unfold phF; omega
  omega
theorem xc0g (A C:List DF):phi (A++C) = phi A + phi C:=by unfold phi; rw [List.map_append,List.sum_append]
theorem xc1p (f:DF):phF f≤f.bs.length + 4096:=by unfold phF; split <;> omega
theorem phF_ge (f:DF):f.bs.length≤phF f:=by unfold phF; omega
theorem phi_up {A:List DF} (hd:Dist A) (s:ByteArray) (F:DF→DF) (n:Nat) (hF:∀ f,phF (F f)≤phF f + n):phi (upA A s F)≤phi A + n:=by
 have hd2:A.Pairwise fun a b=>a.nm≠b.nm:=hd
 unfold phi upA
 rw [List.map_map]
 induction hd2 with
 | nil=>simp
 | @cons x l hx hl ih =>
  simp only [List.map_cons,List.sum_cons,Function.comp]
  by_cases h:x.nm = s
  ·rw [if_pos h]
   have h2:(l.map (phF ∘ fun x=>if x.nm = s then F x else x)) = l.map phF:=by
    apply List.map_congr_left
    intro y hy
    simp only [Function.comp]
    rw [if_neg (fun e=>hx y hy (h.trans e.symm))]
   rw [h2]
   have:=hF x
   omega
  ·rw [if_neg h]
   have:=ih hl
   omega
theorem xb4v (σ:DSt) (s:ByteArray):phi (stCreate σ s).2.A≤phi σ.A:=by
 unfold stCreate
 split
 ·exact Nat.le_refl _
 ·show phi (if _ then _ else _)≤_
  split
  ·rw [xc0g]; show phi σ.A + phi [⟨s,[],0,false⟩]≤_; simp [phi,phF]
  ·exact Nat.le_refl _
theorem xa3m {σ:DSt} (hd:Dist σ.A) (s:ByteArray) (p:List Nat):phi (stAppend σ s p).2.A≤phi σ.A + p.length + 4096:=by
 unfold stAppend
 split
 ·show phi σ.A≤_; omega
 ·split
  ·have hF:∀ f:DF,phF { f with bs:=f.bs++p.take (appK σ p) }≤phF f + (p.length + 4096):=by
    intro f
    have h1:phF { f with bs:=f.bs++p.take (appK σ p) }≤(f.bs++p.take (appK σ p)).length + 4096:=xc1p _
    have h2:(f.bs++p.take (appK σ p)).length≤f.bs.length + p.length:=by rw [List.length_append,List.length_take]; omega
    have h3:=phF_ge f
    generalize (f.bs++p.take (appK σ p)).length = q at h1 h2
    omega
   have hu:=phi_up hd s (fun f=>{ f with bs:=f.bs++p.take (appK σ p) }) _ hF
   rw [← Nat.add_assoc] at hu
   exact hu
  ·show phi σ.A≤_; omega
theorem xa5b {σ:DSt} (hd:Dist σ.A) (s:ByteArray):phi (stSync σ s).2.A≤phi σ.A:=by
 unfold stSync
 split
 ·exact Nat.le_refl _
 ·split
  ·show phi (if _ then _ else _)≤_
   split
   ·refine phi_up hd s _ 0 (fun f=>?_)
    have h3:=phF_ge f
    unfold phF at h3 ⊢
    dsimp only
    rw [if_pos rfl]
    omega
   ·exact Nat.le_refl _
  ·exact Nat.le_refl _
theorem phi_nd (A:List DF):phi (ndA A) = phi A:=by
 unfold phi ndA
 rw [List.map_map]
 rfl
theorem xb4x (σ:DSt):phi (stNames σ).2.A≤phi σ.A:=by
 unfold stNames
 split
 ·exact Nat.le_refl _
 ·show phi (if _ then _ else _)≤_
  split
  ·rw [phi_nd]; exact Nat.le_refl _
  ·exact Nat.le_refl _
theorem xb0o (n m:Int) (h:0≤m):0≤wtn n m∧wtn n m≤m:=by unfold wtn; omega
theorem dist_S (σ:DSt):Dist σ.A↔(nmS σ).Nodup:=xa1w σ.A
theorem xa2x {σ:DSt} (h:Dist σ.A) (s:ByteArray):Dist (stSync σ s).2.A:=by rw [dist_S,xb7b]; exact (dist_S σ).1 h
theorem xa2n {σ:DSt} (h:Dist σ.A) (s:ByteArray) (p:List Nat):Dist (stAppend σ s p).2.A:=by rw [dist_S,xa8p]; exact (dist_S σ).1 h
theorem xb2u {σ:DSt} (h:Dist σ.A):Dist (stNames σ).2.A:=by rw [dist_S,xb8o]; exact (dist_S σ).1 h
theorem xb0b {σ:DSt} (h:Dist σ.A) (s:ByteArray):Dist (stCreate σ s).2.A:=by
 unfold stCreate
 split
 ·exact h
 ·show Dist (if ownA σ.A s = 0∧_ then _ else _)
  split
  ·rename_i h1
   rw [xa1w,List.map_append]
   have hn:s∉σ.A.map DF.nm:=fun hm=>by
    have h2:=(xa1v σ.A s).2 hm
    have h3:=h1.1
    unfold ownA at h3
    rw [h2] at h3
    split at h3 <;> simp at h3
   rw [List.nodup_append]
   refine ⟨(xa1w _).1 h,by simp,fun a ha b hb e=>?_⟩
   have hb2:b = s:=by simpa using hb
   rw [e,hb2] at ha
   exact hn ha
  ·exact h
theorem xb4s {r:Nat × DSt} {f:DSt→Nat × DSt} {n m:Nat} (h:phi r.2.A≤n) (hf:phi (f r.2).2.A≤n + m):phi (thn r f).2.A≤n + m:=by
 unfold thn
 split
 ·exact hf
 ·omega
theorem xa6t {r:Nat × DSt} {f:DSt→Nat × DSt} (h:Dist r.2.A) (hf:Dist (f r.2).2.A):Dist (thn r f).2.A:=by
 unfold thn
 split
 ·exact hf
 ·exact h
theorem xa8i {σ:DSt} (hd:Dist σ.A) (n ep fs:Nat) (wd:Int):phi (stBegin σ n ep fs wd).2.A≤phi σ.A + 4144∧Dist (stBegin σ n ep fs wd).2.A:=by
 unfold stBegin
 have hl:(ehB n ep fs wd).length≤48:=by
  by_cases h:wideB wd = true
  ·rw [xb2f h]; omega
  ·unfold ehB; rw [if_neg h]; simp
 have d1:=xb0b hd (nmB n)
 have p1:=xb4v σ (nmB n)
 have d2:=xa2n d1 (nmB n) (ehB n ep fs wd)
 have p2:=xa3m d1 (nmB n) (ehB n ep fs wd)
 have D2:=xa6t (f:=fun τ=>stAppend τ (nmB n) (ehB n ep fs wd)) d1 d2
 have P2:=xb4s (f:=fun τ=>stAppend τ (nmB n) (ehB n ep fs wd)) (m:=4144) p1 (by show phi (stAppend _ _ _).2.A≤_; omega)
 have D3:=xa6t (f:=fun τ=>stSync τ (nmB n)) D2 (xa2x D2 _)
 have P3:=xb4s (f:=fun τ=>stSync τ (nmB n)) (m:=0) P2 (Nat.le_trans (xa5b D2 _) P2)
 have D4:=xa6t (f:=stNames) D3 (xb2u D3)
 have P4:=xb4s (f:=stNames) (m:=0) P3 (Nat.le_trans (xb4x _) P3)
 exact ⟨P4,D4⟩
theorem xc1a {σ:DSt} (hd:Dist σ.A) (s:LSt):phi (lgRot σ s).2.1.A≤phi σ.A + 4144∧Dist (lgRot σ s).2.1.A:=by
 have d1:=xa2x hd (nmB s.num)
 have p1:=xa5b hd (nmB s.num)
 have h2:=xa8i d1 (s.num + 1) s.ep s.nx s.wd
 unfold lgRot
 split
 ·exact ⟨by show phi (stSync σ (nmB s.num)).2.A≤_; omega,d1⟩
 ·split
  ·exact ⟨by show phi (stSync σ (nmB s.num)).2.A≤_; omega,d1⟩
  ·split
   ·exact ⟨by have:=h2.1; dsimp only; omega,h2.2⟩
   ·exact ⟨by have:=h2.1; dsimp only; omega,h2.2⟩
theorem xb7a {σ:DSt} (hd:Dist σ.A) (s:LSt) (p:List Nat):phi (lgLay σ s p).2.1.A≤phi σ.A + p.length + 4096∧Dist (lgLay σ s p).2.1.A:=⟨xa3m hd _ _,xa2n hd _ _⟩
theorem xb5z {σ:DSt} (hd:Dist σ.A) (s:LSt) (p:List Nat):phi (lgWrite σ s p).2.1.A≤phi σ.A + p.length + 8240∧Dist (lgWrite σ s p).2.1.A:=by
 have h1:=xc1a hd s
 have h2:=xb7a h1.2 (lgRot σ s).2.2 p
 have h3:=xb7a hd s p
 unfold lgWrite
 split
 ·split
  ·exact ⟨by have:=h1.1; omega,h1.2⟩
  ·exact ⟨by have:=h1.1; have:=h2.1; omega,h2.2⟩
 ·exact ⟨by have:=h3.1; omega,h3.2⟩
theorem xa3p {σ:DSt} (hd:Dist σ.A) (s:LSt) (es:List En) (hn:s.nx < 18446744073709551616):phi (lgAppend σ s es).2.1.A≤phi σ.A + 48240∧Dist (lgAppend σ s es).2.1.A:=by
 unfold lgAppend
 split
 ·exact ⟨by show phi σ.A≤_; omega,hd⟩
 ·rename_i h0
  split
  ·exact ⟨by show phi σ.A≤_; omega,hd⟩
  ·have h1:=xb5z hd s (sbB s.nx es)
   have h2:=xb7h (by simpa using h0) hn
   exact ⟨by have:=h1.1; dsimp only; omega,h1.2⟩
theorem xb4k {σ:DSt} (hd:Dist σ.A) (s:LSt):phi (lgSync σ s).2.1.A≤phi σ.A∧Dist (lgSync σ s).2.1.A:=by
 unfold lgSync
 split
 ·exact ⟨Nat.le_refl _,hd⟩
 ·exact ⟨xa5b hd _,xa2x hd _⟩
theorem xa7s:∀ (l:List (List UInt8)) {σ:DSt},Dist σ.A→phi (stSyncs σ l).2.A≤phi σ.A∧Dist (stSyncs σ l).2.A
 | [],σ,hd=>⟨Nat.le_refl _,hd⟩
 | s :: r,σ,hd=>by
  unfold stSyncs
  have d1:=xa2x hd (strU s)
  have p1:=xa5b hd (strU s)
  split
  ·exact ⟨p1,d1⟩
  ·have ih:=xa7s r d1
   exact ⟨Nat.le_trans ih.1 p1,ih.2⟩
theorem xb1r {σ:DSt} (hd:Dist σ.A) (wd lim:Int):phi (opD σ wd lim).σ.A≤phi σ.A + 4144∧Dist (opD σ wd lim).σ.A:=by
 unfold opD
 split
 ·exact ⟨by show phi σ.A≤_; omega,hd⟩
 ·split
  ·exact ⟨by show phi σ.A≤_; omega,hd⟩
  ·split
   ·exact ⟨by show phi σ.A≤_; omega,hd⟩
   ·rename_i f _
    have h1:=xa7s f.sg hd
    have h2:=xa8i h1.2 (f.last + 1) (f.ep + 1) f.sz wd
    unfold opOf
    split
    ·exact ⟨by have:=h1.1; dsimp only; omega,h1.2⟩
    ·split
     ·exact ⟨by have:=h1.1; have:=h2.1; dsimp only; omega,h2.2⟩
     ·exact ⟨by have:=h1.1; have:=h2.1; dsimp only; omega,h2.2⟩
theorem xb2l {σ:DSt} {wd:Int} {f g:FSt} {s:List UInt8} (h:stepF σ wd f s = some g):(nbE (natL s)≠0∧g.last = f.last)∨(nbE (natL s) = 0∧g.last = nbU (natL s)):=by
 unfold stepF at h
 split at h
 ·rename_i h1; cases h; exact Or.inl ⟨h1,rfl⟩
 ·rename_i h1
  have h1':nbE (natL s) = 0:=by simpa using h1
  split at h
  ·cases h
  ·split at h
   ·cases h; exact Or.inr ⟨h1',rfl⟩
   ·split at h
    ·cases h; exact Or.inr ⟨h1',rfl⟩
    ·cases h
theorem xa1y {σ:DSt} {wd:Int}:∀ {l:List (List UInt8)} {f g:FSt},findF σ wd f l = some g→l.Pairwise (fun a b=>a≤b)→(∀ s∈l,nbE (natL s) = 0→f.last≤nbU (natL s))→f.last≤g.last∧∀ s∈l,nbE (natL s) = 0→nbU (natL s)≤g.last
 | [],f,g,h,_,_=>by unfold findF at h; cases h; exact ⟨Nat.le_refl _,by simp⟩
 | s :: r,f,g,h,hp,hm=>by
  obtain ⟨hp1,hp2⟩:=List.pairwise_cons.1 hp
  cases hs:stepF σ wd f s with
  | none=>unfold findF at h; rw [hs] at h; cases h
  | some q =>
   have h2:findF σ wd q r = some g:=by unfold findF at h; rw [hs] at h; exact h
   rcases xb2l hs with ⟨h3,h4⟩ | ⟨h3,h4⟩
   ·have ih:=xa1y h2 hp2 (fun t ht he=>by rw [h4]; exact hm t (by simp [ht]) he)
    refine ⟨by rw [h4] at ih; exact ih.1,fun t ht he=>?_⟩
    rcases List.mem_cons.1 ht with rfl | ht
    ·exact absurd he h3
    ·exact ih.2 t ht he
   ·have ih:=xa1y h2 hp2 (fun t ht he=>by rw [h4]; exact num_le (hp1 t ht) h3 he)
    have h5:=hm s (by simp) h3
    refine ⟨by have:=ih.1; omega,fun t ht he=>?_⟩
    rcases List.mem_cons.1 ht with rfl | ht
    ·have:=ih.1; omega
    ·exact ih.2 t ht he
theorem xb4e (u:Nat):natL (nmB u).data.toList = nmL u:=by
 unfold natL nmB strB
 simp only [List.map_map]
 conv=>rhs; rw [← List.map_id (nmL u)]
 apply List.map_congr_left
 intro x hx
 have:=xa4t u x hx
 simp only [Function.comp,id]
 simp
 omega
theorem xa4c {u:Nat} (hu:u < 18446744073709551616):nbE (natL (nmB u).data.toList) = 0∧nbU (natL (nmB u).data.toList) = u:=by
 rw [xb4e]
 have h1:=xb7y hu
 unfold nbE nbU
 rw [h1,if_pos rfl,if_pos rfl]
 exact ⟨rfl,rfl⟩
end
section
open Go.RowKit Go.BigFrame
def endS:Nat→List (List En)→Nat
 | i,[]=>i
 | i,es :: r=>endS ((i + es.length) % 18446744073709551616) r
theorem xb1u:∀ (i:Nat) (L:List (List En)),(numS i L).length = L.length
 | _,[]=>rfl
 | i,es :: r=>by rw [numS,List.length_cons,xb1u _ r,List.length_cons]
theorem xa4l:∀ (i:Nat) (L:List (List En)),okS i L = true→L.length≤(runS (numS i L)).length
 | _,[],_=>by simp
 | i,es :: r,h=>by
  rw [okS,Bool.and_eq_true,decide_eq_true_eq] at h
  have:=xa4l _ r h.2
  rw [numS,xa2y,List.length_append,xa8g h.1,List.length_cons]
  omega
theorem xb7l:∀ (L:List (List En)) (i g:Nat) (A r:List Nat),i < 18446744073709551616→okS i L = true→(∀ es∈L,byN es) →
  rdL (L.length + g) (A++(runS (numS i L)++r)) A.length i = (numS i L++(rdL g (A++(runS (numS i L)++r)) (A.length + (runS (numS i L)).length) (endS i L)).1,(rdL g (A++(runS (numS i L)++r)) (A.length + (runS (numS i L)).length) (endS i L)).2)
 | [],i,g,A,r,_,_,_=>by simp [numS,runS,endS]
 | es :: L,i,g,A,r,hi,h,hb=>by
  rw [okS,Bool.and_eq_true,decide_eq_true_eq] at h
  obtain ⟨r1,r2,r3⟩:=xc1i A (runS (numS ((i + es.length) % 18446744073709551616) L)++r) h.1 hi (hb es (by simp))
  have hp:A++(runS (numS i (es :: L))++r) = A++(sbB i es++(runS (numS ((i + es.length) % 18446744073709551616) L)++r)):=by rw [numS,xa2y,List.append_assoc]
  have hp2:A++(sbB i es++(runS (numS ((i + es.length) % 18446744073709551616) L)++r)) = (A++sbB i es)++(runS (numS ((i + es.length) % 18446744073709551616) L)++r):=by rw [List.append_assoc]
  have ih:=xb7l L ((i + es.length) % 18446744073709551616) g (A++sbB i es) r (by omega) h.2 (fun x hx=>hb x (by simp [hx]))
  rw [← hp2,List.length_append] at ih
  rw [hp,List.length_cons,show L.length + 1 + g = (L.length + g) + 1 by omega,xb7n r1,r2,r3,Int.toNat_natCast,ih]
  rw [numS,xa2y,List.length_append,endS]
  simp [Nat.add_assoc]
theorem xb4a {a b c:Nat} {z:Int} {L:List (List En)} (r:List Nat) (ha:a < 18446744073709551616) (hb:b < 18446744073709551616) (hc:c < 18446744073709551616) (hz:wideB z = true) (hk:okS c L = true) (hy:∀ es∈L,byN es) :
  hdC (ehB a b c z++(runS (numS c L)++r)) = ⟨a,b,c,z.toNat⟩∧sgE (ehB a b c z++(runS (numS c L)++r)) = 0∧∃ R g,sgB (ehB a b c z++(runS (numS c L)++r)) = numS c L++R ∧
   (R,sgU (ehB a b c z++(runS (numS c L)++r))) = rdL g (ehB a b c z++(runS (numS c L)++r)) (48 + (runS (numS c L)).length) (endS c L):=by
 have h1:=xb3q ha hb hc hz (runS (numS c L)++r)
 have hX:hdC (ehB a b c z++(runS (numS c L)++r)) = ⟨a,b,c,z.toNat⟩:=by unfold hdC; rw [h1]; rfl
 have hl:(ehB a b c z++(runS (numS c L)++r)).length = L.length + ((ehB a b c z++(runS (numS c L)++r)).length - L.length):=by
  have:=xa4l c L hk
  rw [List.length_append,List.length_append]
  omega
 have hr:=xb7l L c ((ehB a b c z++(runS (numS c L)++r)).length - L.length) (ehB a b c z) r hc hk hy
 rw [← hl,xa1z hz] at hr
 refine ⟨hX,by unfold sgE; rw [h1]; rfl,(rdL ((ehB a b c z++(runS (numS c L)++r)).length - L.length) (ehB a b c z++(runS (numS c L)++r)) (48 + (runS (numS c L)).length) (endS c L)).1,(ehB a b c z++(runS (numS c L)++r)).length - L.length,?_,?_⟩
 ·unfold sgB; rw [h1,hX]; simp only [Option.isSome_some,if_true]; rw [hr]
 ·unfold sgU; rw [h1,hX]; simp only [Option.isSome_some,if_true]; rw [hr]
theorem xb5k {a b c:Nat} {z:Int} {L:List (List En)} (ha:a < 18446744073709551616) (hb:b < 18446744073709551616) (hc:c < 18446744073709551616) (hz:wideB z = true) (hk:okS c L = true) (hy:∀ es∈L,byN es) :
  hdC (ehB a b c z++runS (numS c L)) = ⟨a,b,c,z.toNat⟩∧sgE (ehB a b c z++runS (numS c L)) = 0∧sgB (ehB a b c z++runS (numS c L)) = numS c L∧sgU (ehB a b c z++runS (numS c L)) = 48 + (runS (numS c L)).length:=by
 obtain ⟨h1,h2,R,g,h3,h4⟩:=xb4a [] ha hb hc hz hk hy
 rw [List.append_nil] at h1 h2 h3 h4
 have hl:48 + (runS (numS c L)).length = (ehB a b c z++runS (numS c L)).length:=by rw [List.length_append,xa1z hz]
 have h5:rdL g (ehB a b c z++runS (numS c L)) (ehB a b c z++runS (numS c L)).length (endS c L) = ([],(ehB a b c z++runS (numS c L)).length):=rdL_no (rb_end _ _)
 rw [hl,h5] at h4
 obtain ⟨rfl,h6⟩:=Prod.mk.inj h4
 exact ⟨h1,h2,by rw [h3,List.append_nil],by rw [h6,hl]⟩
theorem xa8d:∀ (k i:Nat) (L:List (List En)),numS i (L.take k) = (numS i L).take k
 | 0,_,_=>by simp [numS]
 | k + 1,_,[]=>by simp [numS]
 | k + 1,i,es :: L=>by rw [List.take_succ_cons,numS,xa8d k _ L,numS,List.take_succ_cons]
theorem xb1w:∀ (k i:Nat) (L:List (List En)),okS i L = true→okS i (L.take k) = true
 | 0,_,_,_=>by simp [okS]
 | k + 1,_,[],_=>by simp [okS]
 | k + 1,i,es :: L,h=>by
  rw [okS,Bool.and_eq_true] at h
  rw [List.take_succ_cons,okS,h.1,xb1w k _ L h.2]
  rfl
theorem xa9j:∀ (k i:Nat) (L:List (List En)) (h:k < L.length),(numS i L)[k]? = some (endS i (L.take k),L[k])
 | 0,i,es :: L,_=>by simp [numS,endS]
 | k + 1,i,es :: L,h=>by
  have h':k < L.length:=by simpa using h
  rw [numS,List.getElem?_cons_succ,xa9j k _ L h',List.take_succ_cons,endS]
  simp
theorem xb7x:∀ (i:Nat) (L:List (List En)),okS i L = true→∀ t∈numS i L,chkB t.1 t.2 = 0
 | _,[],_,t,ht=>by simp [numS] at ht
 | i,es :: L,h,t,ht=>by
  rw [okS,Bool.and_eq_true,decide_eq_true_eq] at h
  rw [numS,List.mem_cons] at ht
  rcases ht with rfl | ht
  ·exact h.1
  ·exact xb7x _ L h.2 t ht
theorem xa7g (m:Nat):firstF (List.replicate m 0) = none:=by
 have:=xa2q 0 [] 0 m (by decide) (by decide) (by simp) (by simp)
 simpa using this
theorem xa6x {a b c cut m:Nat} {z:Int} {R:List Nat} (ha:a < 18446744073709551616) (hz:wideB z = true) (hc:cut < 48) :
  hdC ((ehB a b c z++R).take cut++List.replicate m 0) = ⟨0,0,0,0⟩∧sgE ((ehB a b c z++R).take cut++List.replicate m 0) = 3∧sgB ((ehB a b c z++R).take cut++List.replicate m 0) = []∧sgU ((ehB a b c z++R).take cut++List.replicate m 0) = 0:=by
 have he:ehB a b c z = frB a (headB a b c z):=by simp [ehB,hz]
 have ht:(ehB a b c z++R).take cut = (frB a (headB a b c z)).take cut:=by
  rw [List.take_append_of_le_length (by rw [xa1z hz]; omega),he]
 have hf:=xa2q a (headB a b c z) cut m ha (by rw [xa1d]; decide) (xa5k a b c z) (by rw [xa1d]; omega)
 rw [← ht] at hf
 have hn:hdF ((ehB a b c z++R).take cut++List.replicate m 0) = none:=by unfold hdF; rw [hf]
 refine ⟨by simp [hdC,hn],by simp [sgE,hn],by simp [sgB,hn],by simp [sgU,hn]⟩
theorem xb7t {p:List Nat} {n i:Nat} (hn:n≤p.length) (h:firstF (p.drop n) = none):rbOk p (n:Nat) i = false:=by
 unfold rbOk
 have:(nextF p (n:Nat)).kind≠1:=by
  unfold nextF
  by_cases h1:(n:Int) = p.length
  ·rw [if_pos h1]; simp
  ·rw [if_neg h1,if_neg (by omega),Int.toNat_natCast,h]; simp
 simp [this]
theorem xb9p {a b c cut m k:Nat} {z:Int} {L:List (List En)} (ha:a < 18446744073709551616) (hb:b < 18446744073709551616) (hc:c < 18446744073709551616) (hz:wideB z = true) (hk:okS c L = true) (hy:∀ es∈L,byN es) (hkl:k≤(numS c L).length)
  (h1:48 + (runS ((numS c L).take k)).length≤cut) (h2:k = (numS c L).length∨cut < 48 + (runS ((numS c L).take (k + 1))).length) :
  hdC ((ehB a b c z++runS (numS c L)).take cut++List.replicate m 0) = ⟨a,b,c,z.toNat⟩∧sgE ((ehB a b c z++runS (numS c L)).take cut++List.replicate m 0) = 0∧sgB ((ehB a b c z++runS (numS c L)).take cut++List.replicate m 0) = (numS c L).take k ∧
   sgU ((ehB a b c z++runS (numS c L)).take cut++List.replicate m 0) = 48 + (runS ((numS c L).take k)).length:=by
 obtain ⟨D,hD⟩:∃ D,numS c L = D:=⟨_,rfl⟩
 have hmem:=xb7x c L hk
 have hsplit:ehB a b c z++runS D = (ehB a b c z++runS (D.take k))++runS (D.drop k):=by rw [List.append_assoc,← xa4y,List.take_append_drop]
 have hlen:(ehB a b c z++runS (D.take k)).length = 48 + (runS (D.take k)).length:=by rw [List.length_append,xa1z hz]
 rw [hD] at h1 h2 hkl hmem
 obtain ⟨q1,q2,R,g,q3,q4⟩:=xb4a (L:=L.take k) ((runS (D.drop k)).take (cut - (48 + (runS (D.take k)).length))++List.replicate m 0) ha hb hc hz (xb1w k c L hk) (fun x hx=>hy x (List.mem_of_mem_take hx))
 rw [xa8d,hD] at q1 q2 q3 q4
 have hT:(ehB a b c z++runS D).take cut++List.replicate m 0 = ehB a b c z++(runS (D.take k)++((runS (D.drop k)).take (cut - (48 + (runS (D.take k)).length))++List.replicate m 0)):=by
  rw [hsplit,List.take_append,hlen,List.take_of_length_le (by rw [hlen]; exact h1)]
  simp only [List.append_assoc]
 have hnone:firstF ((runS (D.drop k)).take (cut - (48 + (runS (D.take k)).length))++List.replicate m 0) = none:=by
  by_cases hkD:k < D.length
  ·have hck:=hmem D[k] (List.getElem_mem _)
   have hcut:cut < 48 + (runS (D.take (k + 1))).length:=by omega
   rw [List.take_add_one,List.getElem?_eq_getElem hkD] at hcut
   simp only [Option.toList_some] at hcut
   rw [xa4y,List.length_append,xb1d,xa8g hck] at hcut
   have hfl:D[k].1 < 18446744073709551616:=by have:=xa8e hck; omega
   have hbl:=xa3b hck hfl
   have hby:byN D[k].2:=by
    have hkL:k < L.length:=by rw [← xb1u c L,hD]; exact hkD
    have h9:=xa9j k c L hkL
    rw [hD,List.getElem?_eq_getElem hkD] at h9
    have h10:=congrArg Prod.snd (Option.some.inj h9)
    simp only at h10
    rw [h10]
    exact hy _ (List.getElem_mem _)
   have hsb:sbB D[k].1 D[k].2 = frB D[k].1 (batB D[k].1 D[k].2):=by unfold sbB; rw [if_pos hck]
   rw [List.drop_eq_getElem_cons hkD,xa2y,List.take_append_of_le_length (by rw [xa8g hck]; omega),hsb]
   exact xa2q _ _ _ m hfl (by omega) (xa8h hby) (by omega)
  ·rw [List.drop_eq_nil_of_le (by omega)]
   simp only [runS,List.flatMap_nil,List.take_nil,List.nil_append]
   exact xa7g m
 have hrb:rbOk (ehB a b c z++(runS (D.take k)++((runS (D.drop k)).take (cut - (48 + (runS (D.take k)).length))++List.replicate m 0))) ((48 + (runS (D.take k)).length:Nat):Int) (endS c (L.take k)) = false:=by
  refine xb7t (by rw [← List.append_assoc,List.length_append,hlen]; omega) ?_
  rw [← List.append_assoc,← hlen,List.drop_left,hlen]
  exact hnone
 rw [rdL_no hrb] at q4
 obtain ⟨rfl,q6⟩:=Prod.mk.inj q4
 rw [hD,hT]
 exact ⟨q1,q2,by rw [q3,List.append_nil],q6⟩
end
section
open Go.RowKit Go.BigFrame Go.Maps Go.Sort
def laidB (n ep fs:Nat) (wd:Int) (L:List (List En)):List Nat:=ehB n ep fs wd++runS (numS fs L)
theorem run_le {D:List (Nat × List En)} {i j:Nat} (h:i≤j):(runS (D.take i)).length≤(runS (D.take j)).length:=by
 have e:D.take j = D.take i++(D.take j).drop i:=by
  conv=>lhs; rw [← List.take_append_drop i (D.take j)]
  rw [List.take_take,Nat.min_eq_left h]
 rw [e,xa4y,List.length_append]
 omega
theorem xc0h (D:List (Nat × List En)) (c:Nat) (h:48≤c):∃ k,k≤D.length∧48 + (runS (D.take k)).length≤c∧(k = D.length∨c < 48 + (runS (D.take (k + 1))).length):=by
 have key:∀ n,∃ k,k≤D.length∧48 + (runS (D.take k)).length≤c∧(k = D.length∨c < 48 + (runS (D.take (k + 1))).length∨n≤k):=by
  intro n
  induction n with
  | zero=>exact ⟨0,Nat.zero_le _,by simp [runS]; omega,Or.inr (Or.inr (Nat.le_refl _))⟩
  | succ n ih =>
   obtain ⟨k,h1,h2,h3⟩:=ih
   rcases h3 with h3 | h3 | h3
   ·exact ⟨k,h1,h2,Or.inl h3⟩
   ·exact ⟨k,h1,h2,Or.inr (Or.inl h3)⟩
   ·by_cases hk:k = D.length
    ·exact ⟨k,h1,h2,Or.inl hk⟩
    ·by_cases hc:c < 48 + (runS (D.take (k + 1))).length
     ·exact ⟨k,h1,h2,Or.inr (Or.inl hc)⟩
     ·exact ⟨k + 1,by omega,by omega,Or.inr (Or.inr (by omega))⟩
 obtain ⟨k,h1,h2,h3⟩:=key (D.length)
 exact ⟨k,h1,h2,by rcases h3 with h3 | h3 | h3; exact Or.inl h3; exact Or.inr h3; exact Or.inl (by omega)⟩
structure Gd (wd:Int) (n ep fs:Nat) (L:List (List En)):Prop where
 z:wideB wd = true
 n:n < 18446744073709551616
 e:ep < 18446744073709551616
 f:fs < 18446744073709551616
 ok:okS fs L = true
 y:∀ es∈L,byN es
theorem xc0t {wd:Int} {n ep fs:Nat} {L:List (List En)} (g:Gd wd n ep fs L) (c m:Nat) (h:c < 48):sgE ((laidB n ep fs wd L).take c++List.replicate m 0) = 3∧sgB ((laidB n ep fs wd L).take c++List.replicate m 0) = []:=by
 have h1:=xa6x (b:=ep) (c:=fs) (m:=m) (R:=runS (numS fs L)) g.n g.z h
 exact ⟨h1.2.1,h1.2.2.1⟩
theorem xb8x {wd:Int} {n ep fs:Nat} {L:List (List En)} (g:Gd wd n ep fs L) (c m:Nat) (h:48≤c):hdC ((laidB n ep fs wd L).take c++List.replicate m 0) = ⟨n,ep,fs,wd.toNat⟩∧sgE ((laidB n ep fs wd L).take c++List.replicate m 0) = 0∧∃ k,k≤(numS fs L).length∧sgB ((laidB n ep fs wd L).take c++List.replicate m 0) = (numS fs L).take k∧48 + (runS ((numS fs L).take k)).length≤c∧(k = (numS fs L).length∨c < 48 + (runS ((numS fs L).take (k + 1))).length):=by
 obtain ⟨k,h1,h2,h3⟩:=xc0h (numS fs L) c h
 have h4:=xb9p (cut:=c) (m:=m) (k:=k) g.n g.e g.f g.z g.ok g.y h1 h2 h3
 exact ⟨h4.1,h4.2.1,k,h1,h4.2.2.1,h2,h3⟩
theorem xa4x {wd:Int} {n ep fs:Nat} {L:List (List En)} (hz:wideB wd = true):(laidB n ep fs wd L).length = 48 + (runS (numS fs L)).length:=by
 unfold laidB; rw [List.length_append,xa1z hz]
def Tl (X:List Nat) (c:Nat) (z:List Nat):Prop:=(∃ m,z = List.replicate m 0)∨(X.length≤c∧z.head?≠some 245)
theorem Tl.nil (X:List Nat) (c:Nat):Tl X c []:=Or.inl ⟨0,rfl⟩
theorem xb0c {z:List Nat} (h:z.head?≠some 245):firstF z = none:=by
 unfold firstF
 rw [if_neg]
 rintro ⟨h1,_⟩
 cases z with
 | nil=>simp at h1
 | cons x r=>simp at h1 h; exact h h1
theorem xb2t {wd:Int} {n ep fs:Nat} {L:List (List En)} (g:Gd wd n ep fs L) {z:List Nat} (h:z.head?≠some 245):hdC (laidB n ep fs wd L++z) = ⟨n,ep,fs,wd.toNat⟩∧sgE (laidB n ep fs wd L++z) = 0∧sgB (laidB n ep fs wd L++z) = numS fs L:=by
 obtain ⟨h1,h2,R,k,h3,h4⟩:=xb4a z g.n g.e g.f g.z g.ok g.y
 have e:laidB n ep fs wd L++z = ehB n ep fs wd++(runS (numS fs L)++z):=by unfold laidB; rw [List.append_assoc]
 rw [e]
 refine ⟨h1,h2,?_⟩
 have hl:48 + (runS (numS fs L)).length = (laidB n ep fs wd L).length:=(xa4x g.z).symm
 have h5:rdL k (ehB n ep fs wd++(runS (numS fs L)++z)) (48 + (runS (numS fs L)).length) (endS fs L) = ([],48 + (runS (numS fs L)).length):=by
  refine rdL_no (xb7t (by rw [hl,← e,List.length_append]; omega) ?_)
  rw [hl,← e,List.drop_left]
  exact xb0c h
 rw [h5] at h4
 obtain ⟨rfl,_⟩:=Prod.mk.inj h4
 rw [h3,List.append_nil]
theorem xa4v {wd:Int} {n ep fs:Nat} {L:List (List En)} (g:Gd wd n ep fs L) (c:Nat) (z:List Nat) (ht:Tl (laidB n ep fs wd L) c z) (h:c < 48):sgE ((laidB n ep fs wd L).take c++z) = 3∧sgB ((laidB n ep fs wd L).take c++z) = []:=by
 rcases ht with ⟨m,rfl⟩ | ⟨h1,_⟩
 ·exact xc0t g c m h
 ·rw [xa4x g.z] at h1; omega
theorem xa2b {wd:Int} {n ep fs:Nat} {L:List (List En)} (g:Gd wd n ep fs L) (c:Nat) (z:List Nat) (ht:Tl (laidB n ep fs wd L) c z) (h:48≤c):hdC ((laidB n ep fs wd L).take c++z) = ⟨n,ep,fs,wd.toNat⟩∧sgE ((laidB n ep fs wd L).take c++z) = 0∧∃ k,k≤(numS fs L).length∧sgB ((laidB n ep fs wd L).take c++z) = (numS fs L).take k∧48 + (runS ((numS fs L).take k)).length≤c∧(k = (numS fs L).length∨c < 48 + (runS ((numS fs L).take (k + 1))).length):=by
 rcases ht with ⟨m,rfl⟩ | ⟨h1,h2⟩
 ·exact xb8x g c m h
 ·have h3:=xb2t g h2
  rw [List.take_of_length_le h1]
  refine ⟨h3.1,h3.2.1,(numS fs L).length,Nat.le_refl _,by rw [List.take_length]; exact h3.2.2,by rw [List.take_length,← xa4x (n:=n) (ep:=ep) g.z]; exact h1,Or.inl rfl⟩
theorem xa7d {wd:Int} {n ep fs:Nat} {L:List (List En)} (g:Gd wd n ep fs L) {c c':Nat} (m m':List Nat) (hm:Tl (laidB n ep fs wd L) c m) (hm':Tl (laidB n ep fs wd L) c' m') (h:c≤c'):sgB ((laidB n ep fs wd L).take c++m) <+: sgB ((laidB n ep fs wd L).take c'++m')∧(sgE ((laidB n ep fs wd L).take c++m) = 0→sgE ((laidB n ep fs wd L).take c'++m') = 0):=by
 by_cases h1:c < 48
 ·have h2:=xa4v g c m hm h1
  rw [h2.1,h2.2]
  exact ⟨List.nil_prefix,fun h=>by cases h⟩
 ·obtain ⟨_,h2,k,h3,h4,h5,h6⟩:=xa2b g c m hm (by omega)
  obtain ⟨_,h2',k',h3',h4',h5',h6'⟩:=xa2b g c' m' hm' (by omega)
  refine ⟨?_,fun _=>h2'⟩
  rw [h4,h4']
  have hk:k≤k':=by
   by_cases hc:k≤k'
   ·exact hc
   ·exfalso
    have:=run_le (D:=numS fs L) (i:=k' + 1) (j:=k) (by omega)
    omega
  have e:(numS fs L).take k = ((numS fs L).take k').take k:=by rw [List.take_take,Nat.min_eq_left hk]
  rw [e]
  exact List.take_prefix _ _
theorem xa7r {wd:Int} {n ep fs:Nat} {L:List (List En)} (g:Gd wd n ep fs L):hdC (laidB n ep fs wd L) = ⟨n,ep,fs,wd.toNat⟩∧sgE (laidB n ep fs wd L) = 0∧sgB (laidB n ep fs wd L) = numS fs L:=by
 have h:=xb5k g.n g.e g.f g.z g.ok g.y
 exact ⟨h.1,h.2.1,h.2.2.1⟩
structure Fl (wd:Int) (N:Nat) (f:DF) (n ep fs:Nat) (L:List (List En)) (c:Nat) (m:List Nat):Prop where
 g:Gd wd n ep fs L
 nm:f.nm = nmB n
 hn:n≤N
 he:ep≤N
 hc:c≤(laidB n ep fs wd L).length
 bs:f.bs = (laidB n ep fs wd L).take c++m
 sy:f.sy≤f.bs.length
 tl:Tl (laidB n ep fs wd L) c m
theorem Tl.cut {X m:List Nat} {c:Nat} (hc:c≤X.length) (h:Tl X c m) (x y:Nat):∃ m',(X.take c++m).take x++List.replicate y 0 = X.take (min x c)++m'∧Tl X (min x c) m':=by
 refine ⟨m.take (x - c)++List.replicate y 0,?_,?_⟩
 ·rw [List.take_append,List.take_take,List.length_take,Nat.min_eq_left hc,List.append_assoc]
 ·rcases h with ⟨k,rfl⟩ | ⟨h1,h2⟩
  ·exact Or.inl ⟨min (x - c) k + y,by rw [List.take_replicate,List.replicate_append_replicate]⟩
  ·by_cases hx:x≤c
   ·exact Or.inl ⟨y,by rw [show x - c = 0 by omega]; simp⟩
   ·rw [Nat.min_eq_right (by omega)]
    cases m with
    | nil=>exact Or.inl ⟨y,by simp⟩
    | cons a r =>
     refine Or.inr ⟨h1,?_⟩
     obtain ⟨q,hq⟩:∃ q,x - c = q + 1:=⟨x - c - 1,by omega⟩
     rw [hq,List.take_succ_cons]
     simpa using h2
theorem Fl.cut {wd:Int} {N:Nat} {f:DF} {n ep fs:Nat} {L:List (List En)} {c:Nat} {m:List Nat} (h:Fl wd N f n ep fs L c m) (x y:Nat):∃ c' m',c'≤c∧c' = min x c∧f.bs.take x++List.replicate y 0 = (laidB n ep fs wd L).take c'++m'∧Tl (laidB n ep fs wd L) c' m':=by
 obtain ⟨m',h1,h2⟩:=h.tl.cut h.hc x y
 exact ⟨_,m',Nat.min_le_right _ _,rfl,by rw [h.bs]; exact h1,h2⟩
theorem Fl.less {wd:Int} {N:Nat} {f:DF} {n ep fs:Nat} {L:List (List En)} {c:Nat} {m:List Nat} (h:Fl wd N f n ep fs L c m) (x y:Nat):sgB (f.bs.take x++List.replicate y 0) <+: sgB f.bs∧(sgE (f.bs.take x++List.replicate y 0) = 0→sgE f.bs = 0)∧∀ x0,x0≤x→sgB (f.bs.take x0) <+: sgB (f.bs.take x++List.replicate y 0):=by
 obtain ⟨c',m',h1,h2,h3,ht⟩:=h.cut x y
 have h4:=xa7d h.g m' m ht h.tl h1
 rw [h3]
 refine ⟨by rw [h.bs]; exact h4.1,by rw [h.bs]; exact h4.2,fun x0 hx=>?_⟩
 obtain ⟨c0,m0,h5,h6,h7,ht0⟩:=h.cut x0 0
 simp only [List.replicate_zero,List.append_nil] at h7
 rw [h7]
 exact (xa7d h.g m0 m' ht0 ht (by omega)).1
theorem Fl.rd {wd:Int} {N:Nat} {f:DF} {n ep fs:Nat} {L:List (List En)} {c:Nat} {m:List Nat} (h:Fl wd N f n ep fs L c m):(sgE f.bs≠0∧sgB f.bs = [])∨(sgE f.bs = 0∧hdC f.bs = ⟨n,ep,fs,wd.toNat⟩):=by
 by_cases h1:c < 48
 ·have h2:=xa4v h.g c m h.tl h1
  rw [← h.bs] at h2
  exact Or.inl ⟨by rw [h2.1]; decide,h2.2⟩
 ·have h2:=xa2b h.g c m h.tl (by omega)
  rw [← h.bs] at h2
  exact Or.inr ⟨h2.2.1,h2.1⟩
def Ch (wd:Int) (N:Nat):Nat→Nat→Nat→List DF→Prop
 | _,_,_,[]=>True
 | la,ep,sz,f :: r=>∃ n e fs L c m,Fl wd N f n e fs L c m∧la < n∧(sgB f.bs≠[]→f.nd = true)∧(r≠[]→sgB f.bs = []∨f.sy = f.bs.length)∧((sgE f.bs≠0∧Ch wd N n ep sz r)∨(sgE f.bs = 0∧fs = sz∧ep≤e∧Ch wd N n e (sz + cntB (sgB f.bs)) r))
def Rb (A:List DF):List (Nat × List En):=A.flatMap fun f=>sgB f.bs
def dlF (f:DF):Nat:=if f.nd then (sgB (f.bs.take f.sy)).length else 0
def dl (A:List DF):Nat:=(A.map dlF).sum
theorem xa1h (f:DF) (r:List DF):Rb (f :: r) = sgB f.bs++Rb r:=by simp [Rb]
theorem Rb_app (a b:List DF):Rb (a++b) = Rb a++Rb b:=by simp [Rb]
theorem xa8v (f:DF) (r:List DF):dl (f :: r) = dlF f + dl r:=by simp [dl]
theorem dl_app (a b:List DF):dl (a++b) = dl a + dl b:=by simp [dl]
theorem xa1a (a b:List (Nat × List En)):cntB (a++b) = cntB a + cntB b:=by simp [cntB]
theorem Fl.dl_le {wd:Int} {N:Nat} {f:DF} {n ep fs:Nat} {L:List (List En)} {c:Nat} {m:List Nat} (h:Fl wd N f n ep fs L c m):dlF f≤(sgB f.bs).length:=by
 unfold dlF
 split
 ·have h1:=(h.less f.sy 0).1
  simp only [List.replicate_zero,List.append_nil] at h1
  exact h1.length_le
 ·exact Nat.zero_le _
theorem Fl.up {wd:Int} {N N':Nat} {f:DF} {n ep fs:Nat} {L:List (List En)} {c:Nat} {m:List Nat} (h:Fl wd N f n ep fs L c m) (hN:N≤N'):Fl wd N' f n ep fs L c m:={ h with hn:=Nat.le_trans h.hn hN,he:=Nat.le_trans h.he hN }
theorem Ch.up {wd:Int} {N N':Nat} (hN:N≤N'):∀ {A:List DF} {la ep sz:Nat},Ch wd N la ep sz A→Ch wd N' la ep sz A
 | [],_,_,_,_=>trivial
 | f :: r,la,ep,sz,h=>by
  obtain ⟨n,e,fs,L,c,m,hf,hl,hd,hr,hc⟩:=h
  refine ⟨n,e,fs,L,c,m,hf.up hN,hl,hd,hr,?_⟩
  rcases hc with ⟨h3,h4⟩ | ⟨h3,h4,h5,h6⟩
  ·exact Or.inl ⟨h3,h4.up hN⟩
  ·exact Or.inr ⟨h3,h4,h5,h6.up hN⟩
theorem Ch.dl_le {wd:Int} {N:Nat}:∀ {A:List DF} {la ep sz:Nat},Ch wd N la ep sz A→dl A≤(Rb A).length
 | [],_,_,_,_=>by simp [dl,Rb]
 | f :: r,la,ep,sz,h=>by
  obtain ⟨n,e,fs,L,c,m,hf,hl,hd,hr,hc⟩:=h
  have h1:=hf.dl_le
  have h2:dl r≤(Rb r).length:=by
   rcases hc with ⟨_,h4⟩ | ⟨_,_,_,h6⟩
   ·exact h4.dl_le
   ·exact h6.dl_le
  rw [xa8v,xa1h,List.length_append]
  omega
structure UpF (f f':DF):Prop where
 nm:f'.nm = f.nm
 bs:f'.bs = f.bs
 nd:f.nd = true→f'.nd = true
 sy:f'.sy = f.sy∨f'.sy = f.bs.length
theorem UpF.refl (f:DF):UpF f f:=⟨rfl,rfl,id,Or.inl rfl⟩
theorem UpF.trans {a b c:DF} (h:UpF a b) (k:UpF b c):UpF a c:=⟨k.nm.trans h.nm,k.bs.trans h.bs,fun x=>k.nd (h.nd x),by
 rcases k.sy with h1 | h1
 ·rcases h.sy with h2 | h2
  ·exact Or.inl (by rw [h1,h2])
  ·exact Or.inr (by rw [h1,h2])
 ·exact Or.inr (by rw [h1,h.bs])⟩
theorem UpF.fl {wd:Int} {N:Nat} {f f':DF} {n ep fs:Nat} {L:List (List En)} {c:Nat} {m:List Nat} (u:UpF f f') (h:Fl wd N f n ep fs L c m):Fl wd N f' n ep fs L c m :=
 ⟨h.g,by rw [u.nm,h.nm],h.hn,h.he,h.hc,by rw [u.bs,h.bs],by rw [u.bs]; rcases u.sy with h1 | h1 <;> rw [h1]; exact h.sy; exact Nat.le_refl _,h.tl⟩
theorem UpF.dl {wd:Int} {N:Nat} {f f':DF} {n ep fs:Nat} {L:List (List En)} {c:Nat} {m:List Nat} (u:UpF f f') (h:Fl wd N f n ep fs L c m):dlF f≤dlF f':=by
 by_cases hn:f.nd = true
 ·have h1:dlF f' = (sgB (f'.bs.take f'.sy)).length:=by unfold dlF; rw [if_pos (u.nd hn)]
  rw [h1,u.bs]
  rcases u.sy with h2 | h2
  ·rw [h2]; unfold dlF; rw [if_pos hn]; exact Nat.le_refl _
  ·rw [h2,List.take_length]; exact h.dl_le
 ·have:dlF f = 0:=by unfold dlF; rw [if_neg hn]
  omega
theorem Ch.upd {wd:Int} {N:Nat} {F:DF→DF}:∀ {A:List DF} {la ep sz:Nat},Ch wd N la ep sz A→(∀ x∈A,UpF x (F x))→Ch wd N la ep sz (A.map F)∧Rb (A.map F) = Rb A∧dl A≤dl (A.map F)
 | [],_,_,_,_,_=>⟨trivial,rfl,Nat.le_refl _⟩
 | f :: r,la,ep,sz,h,hF=>by
  obtain ⟨n,e,fs,L,c,m,hf,hl,hd,hr,hc⟩:=h
  have u:=hF f (by simp)
  have hb:=u.bs
  have ih:∀ {la ep sz:Nat},Ch wd N la ep sz r→Ch wd N la ep sz (r.map F)∧Rb (r.map F) = Rb r∧Go.Proofs.YtkolfhgbojenjaaGreatDoor.dl r≤Go.Proofs.YtkolfhgbojenjaaGreatDoor.dl (r.map F):=fun h=>Ch.upd h (fun x hx=>hF x (by simp [hx]))
  have ih2:Rb (r.map F) = Rb r∧Go.Proofs.YtkolfhgbojenjaaGreatDoor.dl r≤Go.Proofs.YtkolfhgbojenjaaGreatDoor.dl (r.map F):=by
   rcases hc with ⟨h3,h4⟩ | ⟨h3,h4,h5,h6⟩
   ·exact (ih h4).2
   ·exact (ih h6).2
  rw [List.map_cons]
  refine ⟨⟨n,e,fs,L,c,m,u.fl hf,hl,fun h9=>u.nd (hd (by rw [← hb]; exact h9)),fun h9=>?_,?_⟩,?_,?_⟩
  ·rw [hb]
   rcases hr (by intro h8; subst h8; simp at h9) with h8 | h8
   ·exact Or.inl h8
   ·refine Or.inr ?_
    rcases u.sy with h7 | h7 <;> rw [h7]
    exact h8
  ·rw [hb]
   rcases hc with ⟨h3,h4⟩ | ⟨h3,h4,h5,h6⟩
   ·exact Or.inl ⟨h3,(ih h4).1⟩
   ·exact Or.inr ⟨h3,h4,h5,(ih h6).1⟩
  ·rw [xa1h,xa1h,hb,ih2.1]
  ·rw [xa8v,xa8v]
   have:=u.dl hf
   omega
def Stl (A:List DF):Prop:=∀ f∈A,sgB f.bs = []∨f.sy = f.bs.length
theorem Ch.snoc {wd:Int} {N:Nat} {f:DF} {n e fs:Nat} {L:List (List En)} {c:Nat} {m:List Nat} (hf:Fl wd N f n e fs L c m) (hnd:sgB f.bs≠[]→f.nd = true):∀ {A:List DF} {la ep sz:Nat},Ch wd N la ep sz A→Stl A→la < n→(∀ x∈A,∀ u,u < 18446744073709551616→x.nm = nmB u→u < n)→(sgE f.bs = 0→fs = sz + cntB (Rb A)∧ep≤e∧∀ x∈A,sgE x.bs = 0→(hdC x.bs).b≤e)→Ch wd N la ep sz (A++[f])
 | [],la,ep,sz,_,_,hl,_,hs=>by
  refine ⟨n,e,fs,L,c,m,hf,hl,hnd,fun h=>absurd rfl h,?_⟩
  rcases hf.rd with ⟨h1,_⟩ | ⟨h1,_⟩
  ·exact Or.inl ⟨h1,trivial⟩
  ·obtain ⟨h2,h3,_⟩:=hs h1
   exact Or.inr ⟨h1,by simpa [Rb,cntB] using h2,h3,trivial⟩
 | x :: r,la,ep,sz,h,hst,hl,hnn,hs=>by
  obtain ⟨n2,e2,fs2,L2,c2,m2,hx,hl2,hd2,hr2,hc2⟩:=h
  refine ⟨n2,e2,fs2,L2,c2,m2,hx,hl2,hd2,fun _=>hst x (by simp),?_⟩
  have hn2:n2 < n:=hnn x (by simp) n2 hx.g.n hx.nm
  rcases hc2 with ⟨h3,h4⟩ | ⟨h3,h4,h5,h6⟩
  ·refine Or.inl ⟨h3,Ch.snoc hf hnd h4 (fun y hy=>hst y (by simp [hy])) hn2 (fun y hy=>hnn y (by simp [hy])) (fun h9=>?_)⟩
   obtain ⟨q1,q2,q3⟩:=hs h9
   have hnil:sgB x.bs = []:=by
    rcases hx.rd with ⟨_,h⟩ | ⟨h,_⟩
    ·exact h
    ·exact absurd h h3
   rw [xa1h,hnil,List.nil_append] at q1
   exact ⟨q1,q2,fun y hy=>q3 y (by simp [hy])⟩
  ·refine Or.inr ⟨h3,h4,h5,Ch.snoc hf hnd h6 (fun y hy=>hst y (by simp [hy])) hn2 (fun y hy=>hnn y (by simp [hy])) (fun h9=>?_)⟩
   obtain ⟨q1,q2,q3⟩:=hs h9
   rw [xa1h,xa1a] at q1
   refine ⟨by omega,?_,fun y hy=>q3 y (by simp [hy])⟩
   have h7:=q3 x (by simp) h3
   rcases hx.rd with ⟨h8,_⟩ | ⟨_,h8⟩
   ·exact absurd h3 h8
   ·rw [h8] at h7; exact h7
theorem Ch.asc {wd:Int} {N:Nat}:∀ {A:List DF} {la ep sz:Nat},Ch wd N la ep sz A→∀ x∈A,∃ u,x.nm = nmB u∧la < u∧u≤N∧u < 18446744073709551616
 | f :: r,la,ep,sz,h,x,hx=>by
  obtain ⟨n,e,fs,L,c,m,hf,hl,hd,hr,hc⟩:=h
  rcases List.mem_cons.1 hx with rfl | hx
  ·exact ⟨n,hf.nm,hl,hf.hn,hf.g.n⟩
  ·have:∃ u,x.nm = nmB u∧n < u∧u≤N∧u < 18446744073709551616:=by
    rcases hc with ⟨_,h4⟩ | ⟨_,_,_,h6⟩
    ·exact h4.asc x hx
    ·exact h6.asc x hx
   obtain ⟨u,h1,h2,h3,h4⟩:=this
   exact ⟨u,h1,by omega,h3,h4⟩
theorem xc1u {a b:Nat} (h:a < b) (hb:b < 18446744073709551616):(nmB a).data.toList≤(nmB b).data.toList:=by
 have h1:=nmL_lt h hb
 rw [← xb4e a,← xb4e b] at h1
 exact List.le_of_lt (xb3g _ _ h1)
theorem Ch.pair {wd:Int} {N:Nat}:∀ {A:List DF} {la ep sz:Nat},Ch wd N la ep sz A→(A.map fun f=>f.nm.data.toList).Pairwise (fun a b=>a≤b)∧Dist A
 | [],_,_,_,_=>⟨List.Pairwise.nil,List.Pairwise.nil⟩
 | f :: r,la,ep,sz,h=>by
  obtain ⟨n,e,fs,L,c,m,hf,hl,hd,hr,hc⟩:=h
  have h1:∃ e' s',Ch wd N n e' s' r:=by
   rcases hc with ⟨_,h4⟩ | ⟨_,_,_,h6⟩
   ·exact ⟨_,_,h4⟩
   ·exact ⟨_,_,h6⟩
  obtain ⟨e',s',h2⟩:=h1
  obtain ⟨i1,i2⟩:=h2.pair
  refine ⟨?_,?_⟩
  ·rw [List.map_cons]
   refine List.pairwise_cons.2 ⟨fun y hy=>?_,i1⟩
   obtain ⟨x,hx,rfl⟩:=List.mem_map.1 hy
   obtain ⟨u,q1,q2,q3,q4⟩:=h2.asc x hx
   rw [q1,hf.nm]
   exact xc1u q2 q4
  ·refine List.pairwise_cons.2 ⟨fun x hx=>?_,i2⟩
   obtain ⟨u,q1,q2,q3,q4⟩:=h2.asc x hx
   rw [q1,hf.nm]
   exact nmB_ne hf.g.n q4 (by omega)
theorem Ch.names {wd:Int} {N la ep sz:Nat} {σ:DSt} (h:Ch wd N la ep sz σ.A) (ho:σ.off = false):nmsOf σ = σ.A.map fun f=>f.nm.data.toList:=by
 unfold nmsOf srtN
 rw [ho]
 simp only [Bool.false_eq_true,if_false]
 exact List.mergeSort_of_pairwise (h.pair.1.imp (fun h=>by simpa using h))
theorem xb9t {σ:DSt} {f:DF} (ho:σ.off = false) (hd:Dist σ.A) (hf:f∈σ.A):(stRead σ (strU f.nm.data.toList)).1 = f.bs:=by
 have h1:strU f.nm.data.toList = f.nm:=ba_ext (by simp [strU])
 unfold stRead
 rw [ho,h1,xa8u hd hf]
 simp
theorem xa8w {σ:DSt} {wd:Int} {N:Nat} (ho:σ.off = false) (hd:Dist σ.A) (hN:N < 18446744073709551615):∀ {A:List DF} {la ep sz:Nat} (F:FSt),Ch wd N la ep sz A→(∀ x∈A,x∈σ.A)→F.ep = ep→F.sz = sz→F.ep≤N→F.last≤N→sz + cntB (Rb A) < 18446744073709551616 →
  ∃ G,findF σ wd F (A.map fun f=>f.nm.data.toList) = some G∧G.bs = F.bs++Rb A∧G.sz = sz + cntB (Rb A)∧G.sg = F.sg++(A.filter fun f=>decide (sgE f.bs = 0)).map (fun f=>f.nm.data.toList)∧F.ep≤G.ep∧G.ep≤N∧G.last≤N∧∀ x∈A,sgE x.bs = 0→(hdC x.bs).b≤G.ep
 | [],la,ep,sz,F,_,_,h1,h2,h3,h4,_=>⟨F,rfl,by simp [Rb],by simp [Rb,cntB,h2],by simp,Nat.le_refl _,h3,h4,by simp⟩
 | f :: r,la,ep,sz,F,h,hA,h1,h2,h3,h4,h5=>by
  obtain ⟨n,e,fs,L,c,m,hf,hl,hdd,hr,hc⟩:=h
  have hnum:=xa4c hf.g.n
  rw [← hf.nm] at hnum
  have hrd:=xb9t ho hd (hA f (by simp))
  have hnN:=hf.hn
  have heN:=hf.he
  rw [xa1h,xa1a] at h5
  rcases hc with ⟨q3,q4⟩ | ⟨q3,q4,q5,q6⟩
  ·have hnil:sgB f.bs = []:=by
    rcases hf.rd with ⟨_,h⟩ | ⟨h,_⟩
    ·exact h
    ·exact absurd h q3
   have hs:stepF σ wd F f.nm.data.toList = some { F with last:=n }:=by
    unfold stepF
    rw [hnum.1,hnum.2,hrd,if_neg (by simp),if_neg (by omega),if_pos q3]
   rw [hnil] at h5
   obtain ⟨G,g1,g2,g3,g4,g5,g6,g7,g8⟩:=xa8w ho hd hN { F with last:=n } q4 (fun x hx=>hA x (by simp [hx])) h1 h2 h3 hnN (by simpa [cntB] using h5)
   refine ⟨G,?_,?_,?_,?_,g5,g6,g7,?_⟩
   ·rw [List.map_cons]; unfold findF; rw [hs]; exact g1
   ·rw [xa1h,hnil]; exact g2
   ·rw [xa1h,hnil]; exact g3
   ·rw [List.filter_cons_of_neg (by simpa using q3)]; exact g4
   ·intro x hx hx0
    rcases List.mem_cons.1 hx with rfl | hx
    ·exact absurd hx0 q3
    ·exact g8 x hx hx0
  ·have hh:hdC f.bs = ⟨n,e,fs,wd.toNat⟩:=by
    rcases hf.rd with ⟨h,_⟩ | ⟨_,h⟩
    ·exact absurd q3 h
    ·exact h
   have hz:1≤wd∧wd≤32:=by have:=hf.g.z; unfold wideB at this; simpa using this
   have hs:stepF σ wd F f.nm.data.toList = some ⟨n,e,F.sz + cntB (sgB f.bs),F.sg++[f.nm.data.toList],F.bs++sgB f.bs⟩:=by
    unfold stepF
    rw [hnum.1,hnum.2,hrd,if_neg (by simp),if_neg (by omega),if_neg (by simpa using q3),hh]
    have hg:goOnF F f.bs = true:=by unfold goOnF; rw [hh]; simp; omega
    rw [if_pos ⟨rfl,(by show ((wd.toNat:Nat):Int) = wd; omega),hg⟩,Nat.mod_eq_of_lt (by omega)]
   obtain ⟨G,g1,g2,g3,g4,g5,g6,g7,g8⟩:=xa8w ho hd hN ⟨n,e,F.sz + cntB (sgB f.bs),F.sg++[f.nm.data.toList],F.bs++sgB f.bs⟩ q6 (fun x hx=>hA x (by simp [hx])) rfl (by rw [h2]) heN hnN (by omega)
   dsimp only at g2 g4 g5
   refine ⟨G,?_,?_,?_,?_,by omega,g6,g7,?_⟩
   ·rw [List.map_cons]; unfold findF; rw [hs]; exact g1
   ·rw [xa1h,g2,List.append_assoc]
   ·rw [xa1h,xa1a,g3]; omega
   ·rw [List.filter_cons_of_pos (by simpa using q3),g4]; simp
   ·intro x hx hx0
    rcases List.mem_cons.1 hx with rfl | hx
    ·rw [hh]; exact g5
    ·exact g8 x hx hx0
theorem opE_5 (ft:Int→Option Int) (cr op:Int):opE ft cr op 5≠0:=by unfold opE; (repeat' split) <;> simp_all
theorem xa6w (σ:DSt) (s:ByteArray):∃ F:DF→DF,(stSync σ s).2.A = σ.A.map F∧(∀ x,UpF x (F x))∧((stSync σ s).1 = 0→∀ x,x.nm = s→(F x).sy = x.bs.length)∧(∀ x,x.nm≠s→F x = x):=by
 unfold stSync
 split
 ·exact ⟨id,by simp,fun x=>UpF.refl x,fun h=>(by cases h),fun _ _=>rfl⟩
 ·split
  ·by_cases h:opE σ.ft σ.cr σ.op 0 = 0
   ·refine ⟨fun x=>if x.nm = s then { x with sy:=x.bs.length } else x,?_,fun x=>?_,fun _ x hx=>by simp [hx],fun x hx=>by simp [hx]⟩
    ·simp only [if_pos h,tick]; rfl
    ·dsimp only
     split
     ·exact ⟨rfl,rfl,id,Or.inr rfl⟩
     ·exact UpF.refl x
   ·exact ⟨id,by simp only [if_neg h,tick]; simp,fun x=>UpF.refl x,fun h9=>absurd h9 h,fun _ _=>rfl⟩
  ·exact ⟨id,by simp [tick],fun x=>UpF.refl x,fun h9=>absurd h9 (opE_5 _ _ _),fun _ _=>rfl⟩
theorem xa9a:∀ (l:List (List UInt8)) (σ:DSt),∃ F:DF→DF,(stSyncs σ l).2.A = σ.A.map F∧(∀ x,UpF x (F x))∧((stSyncs σ l).1 = 0→∀ s∈l,∀ x,x.nm = strU s→(F x).sy = x.bs.length)
 | [],σ=>⟨id,by simp [stSyncs],fun x=>UpF.refl x,fun _ s hs=>by simp at hs⟩
 | s :: r,σ=>by
  obtain ⟨F,h1,h2,h3,_⟩:=xa6w σ (strU s)
  unfold stSyncs
  split
  ·rename_i h0
   exact ⟨F,h1,h2,fun h=>absurd h h0⟩
  ·rename_i h0
   obtain ⟨G,k1,k2,k3⟩:=xa9a r (stSync σ (strU s)).2
   refine ⟨fun x=>G (F x),by rw [k1,h1,List.map_map]; rfl,fun x=>(h2 x).trans (k2 _),fun h t ht x hx=>?_⟩
   rcases List.mem_cons.1 ht with rfl | ht
   ·have h4:=h3 (by simpa using h0) x hx
    rcases (k2 (F x)).sy with h5 | h5
    ·rw [h5,h4]
    ·rw [h5,(h2 x).bs]
   ·rw [k3 h t ht (F x) (by rw [(h2 x).nm]; exact hx),(h2 x).bs]
theorem xb7q:∀ (l:List (List UInt8)) (σ:DSt),(∀ s∈l,strU s∈nmS σ)→E3 (stSyncs σ l).1
 | [],σ,_=>Or.inl rfl
 | s :: r,σ,h=>by
  unfold stSyncs
  split
  ·exact sync_3 (h s (by simp))
  ·exact xb7q r _ (fun t ht=>by rw [xb7b]; exact h t (by simp [ht]))
end
section
open Go Go.RowKit Go.BigFrame
section
variable {P:Program} {Q:Exit→Act→World→Prop}
theorem wp_sc8 {id:Nat} {o0 o1 o2 o3 o4 o5 o6 o7:Oper} {a:Act} {w:World} (hm:P.follows .mixedOrders = true) (hs:Region.noSelect #[o0,o1,o2,o3,o4,o5,o6,o7] = true)
  (f0:Region.free .any #[o0,o1,o2,o3,o4,o5,o6,o7] #[false,false,false,false,false,false,false,false] 0 = true) (r0:(Region.ready .any #[o0,o1,o2,o3,o4,o5,o6,o7] #[false,false,false,false,false,false,false,false]).contains 0 = true)
  (f2:Region.free .any #[o0,o1,o2,o3,o4,o5,o6,o7] #[true,false,false,false,false,false,false,false] 2 = true) (r2:(Region.ready .any #[o0,o1,o2,o3,o4,o5,o6,o7] #[true,false,false,false,false,false,false,false]).contains 2 = true)
  (f3:Region.free .any #[o0,o1,o2,o3,o4,o5,o6,o7] #[true,false,true,false,false,false,false,false] 3 = true) (r3:(Region.ready .any #[o0,o1,o2,o3,o4,o5,o6,o7] #[true,false,true,false,false,false,false,false]).contains 3 = true)
  (q_:Region.ready .any #[o0,o1,o2,o3,o4,o5,o6,o7] #[true,false,true,true,false,false,false,false] = [1,6])
  (q1_:Region.ready .any #[o0,o1,o2,o3,o4,o5,o6,o7] #[true,true,true,true,false,false,false,false] = [4,6])
  (f1_4_5:Region.free .any #[o0,o1,o2,o3,o4,o5,o6,o7] #[true,true,true,true,true,false,false,false] 5 = true) (r1_4_5:(Region.ready .any #[o0,o1,o2,o3,o4,o5,o6,o7] #[true,true,true,true,true,false,false,false]).contains 5 = true)
  (q6_:Region.ready .any #[o0,o1,o2,o3,o4,o5,o6,o7] #[true,false,true,true,false,false,true,false] = [1])
  (q1_4_:Region.ready .any #[o0,o1,o2,o3,o4,o5,o6,o7] #[true,true,true,true,true,true,false,false] = [6])
  (q1_6_:Region.ready .any #[o0,o1,o2,o3,o4,o5,o6,o7] #[true,true,true,true,false,false,true,false] = [4])
  (f1_6_4_5:Region.free .any #[o0,o1,o2,o3,o4,o5,o6,o7] #[true,true,true,true,true,false,true,false] 5 = true) (r1_6_4_5:(Region.ready .any #[o0,o1,o2,o3,o4,o5,o6,o7] #[true,true,true,true,true,false,true,false]).contains 5 = true)
  (q1_4_6_:Region.ready .any #[o0,o1,o2,o3,o4,o5,o6,o7] #[true,true,true,true,true,true,true,false] = [7])
  (q1_4_6_7_:Region.ready .any #[o0,o1,o2,o3,o4,o5,o6,o7] #[true,true,true,true,true,true,true,true] = [])
  (g1:o1.guard = none)    (g4:o4.guard = none)    (g6:o6.guard = none)    (g7:o7.guard = none)
  (ne6_1:∀ d,o6.dst = some d→o1.dst≠some d)
  (ne6_4:∀ d,o6.dst = some d→o4.dst≠some d)
  (ne6_5:∀ d,o6.dst = some d→o5.dst≠some d)
  (v0 v2 v3:Value) (A0 A1 A2:Act)
  (S:World→Prop)
  (I_:World→Prop)
  (I1_:Value→World→Prop)
  (I6_:Value→World→Prop)
  (I1_4_:Value→Value→World→Prop)
  (I1_6_:Value→Value→World→Prop)
  (I1_4_6_:Value→Value→Value→World→Prop)
  (I1_4_6_7_:Value→Value→Value→Value→World→Prop)
  (v5:Value→Value→Value)
  (p0:a.put o0.dst v0 = A0) (hy0:YieldsIf P #[o0,o1,o2,o3,o4,o5,o6,o7] S o0 v0 a)
  (p2:A0.put o2.dst v2 = A1) (hy2:YieldsIf P #[o0,o1,o2,o3,o4,o5,o6,o7] S o2 v2 A0)
  (p3:A1.put o3.dst v3 = A2) (hy3:YieldsIf P #[o0,o1,o2,o3,o4,o5,o6,o7] S o3 v3 A1)
  (i0:I_ w.drew)
  (hIS:(∀ w',I_  w'→S w')∧(∀ (u1:Value) w',I1_ u1 w'→S w')∧(∀ (u6:Value) w',I6_ u6 w'→S w')∧(∀ (u1 u4:Value) w',I1_4_ u1 u4 w'→S w')∧(∀ (u1 u6:Value) w',I1_6_ u1 u6 w'→S w')∧(∀ (u1 u4 u6:Value) w',I1_4_6_ u1 u4 u6 w'→S w')∧(∀ (u1 u4 u6 u7:Value) w',I1_4_6_7_ u1 u4 u6 u7 w'→S w'))
  (s_1:∀ w',I_  w'→∀ K:Act→World→Prop,(∀ (u1:Value) w2,I1_ u1 w2→K (A2.put o1.dst u1) w2)→o1.wp P A2 w' K (NoPanic Q))
  (s_6:∀ w',I_  w'→∀ K:Act→World→Prop,(∀ (u6:Value) w2,I6_ u6 w2→K (A2.put o6.dst u6) w2)→o6.wp P A2 w' K (NoPanic Q))
  (s1_4:∀ (u1:Value) w',I1_ u1 w'→∀ K:Act→World→Prop,(∀ (u4:Value) w2,I1_4_ u1 u4 w2→K ((A2.put o1.dst u1).put o4.dst u4) w2)→o4.wp P (A2.put o1.dst u1) w' K (NoPanic Q))
  (s1_6:∀ (u1:Value) w',I1_ u1 w'→∀ K:Act→World→Prop,(∀ (u6:Value) w2,I1_6_ u1 u6 w2→K ((A2.put o1.dst u1).put o6.dst u6) w2)→o6.wp P (A2.put o1.dst u1) w' K (NoPanic Q))
  (s6_1:∀ (u6:Value) w',I6_ u6 w'→∀ K:Act→World→Prop,(∀ (u1:Value) w2,I1_6_ u1 u6 w2→K ((A2.put o6.dst u6).put o1.dst u1) w2)→o1.wp P (A2.put o6.dst u6) w' K (NoPanic Q))
  (s1_4_6:∀ (u1 u4:Value) w',I1_4_ u1 u4 w'→∀ K:Act→World→Prop,(∀ (u6:Value) w2,I1_4_6_ u1 u4 u6 w2→K ((((A2.put o1.dst u1).put o4.dst u4).put o5.dst (v5 u1 u4)).put o6.dst u6) w2)→o6.wp P (((A2.put o1.dst u1).put o4.dst u4).put o5.dst (v5 u1 u4)) w' K (NoPanic Q))
  (s1_6_4:∀ (u1 u6:Value) w',I1_6_ u1 u6 w'→∀ K:Act→World→Prop,(∀ (u4:Value) w2,I1_4_6_ u1 u4 u6 w2→K (((A2.put o1.dst u1).put o6.dst u6).put o4.dst u4) w2)→o4.wp P ((A2.put o1.dst u1).put o6.dst u6) w' K (NoPanic Q))
  (s1_4_6_7:∀ (u1 u4 u6:Value) w',I1_4_6_ u1 u4 u6 w'→∀ K:Act→World→Prop,(∀ (u7:Value) w2,I1_4_6_7_ u1 u4 u6 u7 w2→K (((((A2.put o1.dst u1).put o4.dst u4).put o5.dst (v5 u1 u4)).put o6.dst u6).put o7.dst u7) w2)→o7.wp P ((((A2.put o1.dst u1).put o4.dst u4).put o5.dst (v5 u1 u4)).put o6.dst u6) w' K (NoPanic Q))
  (y1_4_5:∀ (u1 u4:Value) w',I1_4_ u1 u4 w'→YieldsIf P #[o0,o1,o2,o3,o4,o5,o6,o7] S o5 (v5 u1 u4) ((A2.put o1.dst u1).put o4.dst u4))
  (y1_6_4_5:∀ (u1 u4 u6:Value) w',I1_4_6_ u1 u4 u6 w'→YieldsIf P #[o0,o1,o2,o3,o4,o5,o6,o7] S o5 (v5 u1 u4) (((A2.put o1.dst u1).put o4.dst u4).put o6.dst u6))
  (h:∀ (u1 u4 u6 u7:Value) w',I1_4_6_7_ u1 u4 u6 u7 w'→Q .normal (((((A2.put o1.dst u1).put o4.dst u4).put o5.dst (v5 u1 u4)).put o6.dst u6).put o7.dst u7) w') :
  (Code.region id #[o0,o1,o2,o3,o4,o5,o6,o7] true).wp P Q a w:=by
 subst p0 p2 p3
 obtain ⟨z_,z1_,z6_,z1_4_,z1_6_,z1_4_6_,z1_4_6_7_⟩:=hIS
 refine wp_region_noPanic ?_
 refine wp_region_held_drew (S:=S) hm (z_ _ i0) (fun hH=>?_)
 show wpAnyH P .any #[o0,o1,o2,o3,o4,o5,o6,o7] (NoPanic Q) S 8 #[false,false,false,false,false,false,false,false] a w.drew
 refine wpAnyH_take (i:=0) (oi:=o0) rfl hs f0 r0 (fun _ _ _ h=>h) hy0 hH ?_
 refine wpAnyH_take (i:=2) (oi:=o2) rfl hs f2 r2 (fun _ _ _ h=>h) hy2 hH ?_
 refine wpAnyH_take (i:=3) (oi:=o3) rfl hs f3 r3 (fun _ _ _ h=>h) hy3 hH ?_
 generalize (((a.put o0.dst v0).put o2.dst v2).put o3.dst v3) = B at *
 have wa1:∀ y,Region.wanted o1 y = true:=fun y=>by unfold Region.wanted; rw [g1]
 have wa4:∀ y,Region.wanted o4 y = true:=fun y=>by unfold Region.wanted; rw [g4]
 have wa6:∀ y,Region.wanted o6 y = true:=fun y=>by unfold Region.wanted; rw [g6]
 have wa7:∀ y,Region.wanted o7 y = true:=fun y=>by unfold Region.wanted; rw [g7]
 have t1_4_6_7_:∀ (u1 u4 u6 u7:Value) w',I1_4_6_7_ u1 u4 u6 u7 w'→wpAnyH P .any #[o0,o1,o2,o3,o4,o5,o6,o7] (NoPanic Q) S 0 #[true,true,true,true,true,true,true,true] (((((B.put o1.dst u1).put o4.dst u4).put o5.dst (v5 u1 u4)).put o6.dst u6).put o7.dst u7) w':=by
  intro u1 u4 u6 u7 w0 i0
  exact ⟨q1_4_6_7_,NoPanic.normal (h u1 u4 u6 u7 w0 i0)⟩
 have t1_4_6_:∀ (u1 u4 u6:Value) w',I1_4_6_ u1 u4 u6 w'→wpAnyH P .any #[o0,o1,o2,o3,o4,o5,o6,o7] (NoPanic Q) S 1 #[true,true,true,true,true,true,true,false] ((((B.put o1.dst u1).put o4.dst u4).put o5.dst (v5 u1 u4)).put o6.dst u6) w':=by
  intro u1 u4 u6 w0 i0
  refine wpAnyH_ready (rs:=[7]) q1_4_6_ (by simp) (AllReadyH.cons (o:=o7) rfl (fun K hK=>?_) AllReadyH.nil)
  ·rw [if_pos (wa7 _)]
   refine s1_4_6_7 u1 u4 u6 w0 i0 K (fun u7 w1 i1=>hK.out _ _ (z1_4_6_7_ u1 u4 u6 u7 w1 i1) (fun _=>?_))
   clear hK
   exact t1_4_6_7_ u1 u4 u6 u7 w1 i1
 have t1_6_:∀ (u1 u6:Value) w',I1_6_ u1 u6 w'→wpAnyH P .any #[o0,o1,o2,o3,o4,o5,o6,o7] (NoPanic Q) S 3 #[true,true,true,true,false,false,true,false] ((B.put o1.dst u1).put o6.dst u6) w':=by
  intro u1 u6 w0 i0
  refine wpAnyH_ready (rs:=[4]) q1_6_ (by simp) (AllReadyH.cons (o:=o4) rfl (fun K hK=>?_) AllReadyH.nil)
  ·rw [if_pos (wa4 _)]
   refine s1_6_4 u1 u6 w0 i0 K (fun u4 w1 i1=>hK.out _ _ (z1_4_6_ u1 u4 u6 w1 i1) (fun _=>?_))
   clear hK
   rw [Act.put_comm _ _ _ ne6_4]
   refine wpAnyH_take (i:=5) (oi:=o5) rfl hs f1_6_4_5 r1_6_4_5 (fun _ _ _ h=>h) (y1_6_4_5 u1 u4 u6 w1 i1) (z1_4_6_ u1 u4 u6 w1 i1) ?_
   rw [Act.put_comm _ _ _ ne6_5]
   exact t1_4_6_ u1 u4 u6 w1 i1
 have t1_4_:∀ (u1 u4:Value) w',I1_4_ u1 u4 w'→wpAnyH P .any #[o0,o1,o2,o3,o4,o5,o6,o7] (NoPanic Q) S 2 #[true,true,true,true,true,true,false,false] (((B.put o1.dst u1).put o4.dst u4).put o5.dst (v5 u1 u4)) w':=by
  intro u1 u4 w0 i0
  refine wpAnyH_ready (rs:=[6]) q1_4_ (by simp) (AllReadyH.cons (o:=o6) rfl (fun K hK=>?_) AllReadyH.nil)
  ·rw [if_pos (wa6 _)]
   refine s1_4_6 u1 u4 w0 i0 K (fun u6 w1 i1=>hK.out _ _ (z1_4_6_ u1 u4 u6 w1 i1) (fun _=>?_))
   clear hK
   exact t1_4_6_ u1 u4 u6 w1 i1
 have t6_:∀ (u6:Value) w',I6_ u6 w'→wpAnyH P .any #[o0,o1,o2,o3,o4,o5,o6,o7] (NoPanic Q) S 4 #[true,false,true,true,false,false,true,false] (B.put o6.dst u6) w':=by
  intro u6 w0 i0
  refine wpAnyH_ready (rs:=[1]) q6_ (by simp) (AllReadyH.cons (o:=o1) rfl (fun K hK=>?_) AllReadyH.nil)
  ·rw [if_pos (wa1 _)]
   refine s6_1 u6 w0 i0 K (fun u1 w1 i1=>hK.out _ _ (z1_6_ u1 u6 w1 i1) (fun _=>?_))
   clear hK
   rw [Act.put_comm _ _ _ ne6_1]
   exact t1_6_ u1 u6 w1 i1
 have t1_:∀ (u1:Value) w',I1_ u1 w'→wpAnyH P .any #[o0,o1,o2,o3,o4,o5,o6,o7] (NoPanic Q) S 4 #[true,true,true,true,false,false,false,false] (B.put o1.dst u1) w':=by
  intro u1 w0 i0
  refine wpAnyH_ready (rs:=[4,6]) q1_ (by simp) (AllReadyH.cons (o:=o4) rfl (fun K hK=>?_) (AllReadyH.cons (o:=o6) rfl (fun K hK=>?_) AllReadyH.nil))
  ·rw [if_pos (wa4 _)]
   refine s1_4 u1 w0 i0 K (fun u4 w1 i1=>hK.out _ _ (z1_4_ u1 u4 w1 i1) (fun _=>?_))
   clear hK
   refine wpAnyH_take (i:=5) (oi:=o5) rfl hs f1_4_5 r1_4_5 (fun _ _ _ h=>h) (y1_4_5 u1 u4 w1 i1) (z1_4_ u1 u4 w1 i1) ?_
   exact t1_4_ u1 u4 w1 i1
  ·rw [if_pos (wa6 _)]
   refine s1_6 u1 w0 i0 K (fun u6 w1 i1=>hK.out _ _ (z1_6_ u1 u6 w1 i1) (fun _=>?_))
   clear hK
   exact t1_6_ u1 u6 w1 i1
 have t_:∀ w',I_  w'→wpAnyH P .any #[o0,o1,o2,o3,o4,o5,o6,o7] (NoPanic Q) S 5 #[true,false,true,true,false,false,false,false] B w':=by
  intro w0 i0
  refine wpAnyH_ready (rs:=[1,6]) q_ (by simp) (AllReadyH.cons (o:=o1) rfl (fun K hK=>?_) (AllReadyH.cons (o:=o6) rfl (fun K hK=>?_) AllReadyH.nil))
  ·rw [if_pos (wa1 _)]
   refine s_1  w0 i0 K (fun u1 w1 i1=>hK.out _ _ (z1_ u1 w1 i1) (fun _=>?_))
   clear hK
   exact t1_ u1 w1 i1
  ·rw [if_pos (wa6 _)]
   refine s_6  w0 i0 K (fun u6 w1 i1=>hK.out _ _ (z6_ u6 w1 i1) (fun _=>?_))
   clear hK
   exact t6_ u6 w1 i1
 exact t_ w.drew i0
end
end
section
open Go.RowKit Go.BigFrame Go.Maps Go.Sort
def o9C (t:Bool × Value × List En):List Value:=[.bool t.1,t.2.1]
def RdO9 (w:World) (v:Value) (os:List (Bool × List En)):Prop:=∃ ts:List (Bool × Value × List En),os = ts.map (fun t=>(t.1,t.2.2))∧RdC 2 w v (ts.map o9C)∧∀ t∈ts,RdN w t.2.1 t.2.2∧t.2.2.length≤1048576
theorem RdO9.old {w w':World} {v:Value} {os:List (Bool × List En)} (h:RdO9 w v os) (k:Kept [] w w'):RdO9 w' v os:=by
 obtain ⟨ts,h1,h2,h3⟩:=h
 exact ⟨ts,h1,h2.kept k (by simp),fun t ht=>⟨(h3 t ht).1.old k,(h3 t ht).2⟩⟩
def OldO (g:Nat) (w:World) (v:Value) (os:List (Bool × List En)):Prop:=∀ M w',Kept M w w'→(∀ x∈M,g≤x)→RdO9 w' v os
theorem OldO.start {w:World} {v:Value} {os:List (Bool × List En)} (h:RdO9 w v os):OldO w.heap.size w v os:=by
 intro M w' k hM
 exact h.old ⟨k.os,k.tape,k.output,k.size,fun j hj _=>k.block j hj (fun hm=>by have:=hM j hm; omega)⟩
theorem OldO.on {g:Nat} {L:List Nat} {w w':World} {v:Value} {os:List (Bool × List En)} (h:OldO g w v os) (k:Kept L w w') (hL:∀ x∈L,g≤x):OldO g w' v os:=by
 intro M w2 k2 hM
 exact h (L++M) w2 ((k.mono (M:=L++M) (fun x hx=>by simp [hx])).trans (k2.mono (M:=L++M) (fun x hx=>by simp [hx])) (fun x hx=>Or.inl hx)) (fun x hx=>by
  rcases List.mem_append.1 hx with hx | hx
  ·exact hL x hx
  ·exact hM x hx)
structure KS (w0 w:World) (kb:Nat) (X:List Nat) (mv:Value) (ts:List (Nat × Value × List En)) (must:Nat):Prop where
 row:w.heap[kb]? = some (.cells #[mv,.int .i64 (must:Int)] 44 (0,0))
 ow:OwnX X w0 w mv ts
 kx:kb∉X
 kl:kb < w0.heap.size
theorem OwnX.mv {X Y:List Nat} {w0 wo w:World} {v:Value} {ts:List (Nat × Value × List En)} (h:OwnX X w0 wo v ts) (k:Kept X wo w) (hY:∀ b∈Y,b∈X∨wo.heap.size≤b):OwnX Y w0 w v ts :=
 (h.pass k (fun x hx=>Or.inr hx)).turn (n:=wo.heap.size) hY rfl h k
structure ScS where
 σ:DSt
 s:LSt
 may:List (Nat × List En)
 must:Nat
def scStep (c:ScS) (o:Bool × List En):ScS :=
 if o.1 then ⟨(lgSync c.σ c.s).2.1,(lgSync c.σ c.s).2.2,c.may,if (lgSync c.σ c.s).1 = 0 then c.may.length else c.must⟩
 else ⟨(lgAppend c.σ c.s o.2).2.1,(lgAppend c.σ c.s o.2).2.2,if (lgAppend c.σ c.s o.2).1 = 0∨(c.s.st = 0∧(lgAppend c.σ c.s o.2).2.2.st≠0) then c.may++[(c.s.nx,o.2)] else c.may,c.must⟩
def scR (c:ScS) (os:List (Bool × List En)):ScS:=os.foldl scStep c
theorem xb8y (c:ScS) (os:List (Bool × List En)) (i:Nat) (h:i < os.length):scR c (os.take (i + 1)) = scStep (scR c (os.take i)) os[i]:=by
 unfold scR
 rw [List.take_succ_eq_append_getElem h,List.foldl_append]
 rfl
theorem xa1e {r:Nat × DSt} {f:DSt→Nat × DSt} (h:r.1≠0):thn r f = r:=by unfold thn; rw [if_neg h]
theorem thn_go {r:Nat × DSt} {f:DSt→Nat × DSt} (h:r.1 = 0):thn r f = f r.2:=by unfold thn; rw [if_pos h]
theorem xa9s {σ:DSt} {s:ByteArray} (hs:isNm s = true) (h:s∉nmS σ):((stCreate σ s).2.A = σ.A∧(stCreate σ s).1≠0)∨(stCreate σ s).2.A = σ.A++[⟨s,[],0,false⟩]:=by
 have ho:ownA σ.A s = 0:=by
  unfold ownA
  rw [if_pos hs]
  cases hq:(findA σ.A s.data.toList).isSome
  ·rfl
  ·exact absurd ((xa1v _ _).1 hq) h
 unfold stCreate
 split
 ·exact Or.inl ⟨rfl,by show (12:Nat)≠0; decide⟩
 ·rw [ho]
  by_cases h1:opE σ.ft σ.cr σ.op 0 = 7
  ·exact Or.inl ⟨by simp [h1,tick],by simp [h1]⟩
  ·exact Or.inr (by simp [h1,tick])
theorem xa4d {σ:DSt} {s:ByteArray} {A:List DF} {f:DF} (p:List Nat) (hA:σ.A = A++[f]) (hs:f.nm = s) (hno:∀ x∈A,x.nm≠s):∃ k,k≤p.length∧(stAppend σ s p).2.A = A++[{ f with bs:=f.bs++p.take k }]∧((stAppend σ s p).1 = 0→k = p.length):=by
 have hf:(findA σ.A s.data.toList).isSome = true:=by rw [hA]; exact xa2e hs
 unfold stAppend
 split
 ·exact ⟨0,Nat.zero_le _,by simp [hA],fun h=>(by cases h)⟩
 ·refine ⟨appK σ p,?_,?_,fun h=>?_⟩
  ·unfold appK
   split
   ·have:=xb0o ((σ.ft (σ.op + 1)).getD 0) (p.length:Int) (by omega)
    omega
   ·exact Nat.le_refl _
  ·simp only [hf,if_true,tick,hA]
   rw [xa5y A s (fun f=>{ f with bs:=f.bs++p.take (appK σ p) }) f hs hno]
  ·have h':opE σ.ft σ.cr σ.op 0 = 0:=h
   unfold appK
   rw [h',if_neg (by decide)]
theorem xb5m (σ:DSt):∃ F:DF→DF,(stNames σ).2.A = σ.A.map F∧(∀ x,UpF x (F x))∧((stNames σ).1 = 0→∀ x,F x = { x with nd:=true }):=by
 unfold stNames
 split
 ·exact ⟨id,by simp,fun x=>UpF.refl x,fun h=>(by cases h)⟩
 ·by_cases h:opE σ.ft σ.cr σ.op 0 = 0
  ·exact ⟨fun x=>{ x with nd:=true },by simp [h,tick,ndA],fun x=>⟨rfl,rfl,fun _=>rfl,Or.inl rfl⟩,fun _ _=>rfl⟩
  ·exact ⟨id,by simp [h,tick],fun x=>UpF.refl x,fun h9=>absurd h9 h⟩
theorem xb2s {σ:DSt} {n ep fs:Nat} {wd:Int} (hz:wideB wd = true) (hno:nmB n∉nmS σ):∃ (F:DF→DF) (C:List DF),(stBegin σ n ep fs wd).2.A = σ.A.map F++C∧(∀ x,UpF x (F x))∧(C = []∨∃ f c,C = [f]∧f.nm = nmB n∧c≤48∧f.bs = (ehB n ep fs wd).take c∧f.sy≤f.bs.length)∧((stBegin σ n ep fs wd).1 = 0→C = [⟨nmB n,ehB n ep fs wd,48,true⟩]):=by
 have hp:=xa1z (a:=n) (b:=ep) (c:=fs) hz
 have hnm:=nmB_ok n
 unfold stBegin
 generalize nmB n = s at hno hnm ⊢
 generalize ehB n ep fs wd = p at hp ⊢
 have hno2:∀ x∈σ.A,x.nm≠s:=fun x hx e=>hno (List.mem_map.2 ⟨x,hx,e⟩)
 rcases xa9s hnm hno with ⟨h1,h2⟩ | h1
 ·rw [xa1e (r:=stCreate σ s) h2,xa1e (r:=stCreate σ s) h2,xa1e (r:=stCreate σ s) h2]
  exact ⟨id,[],by simp [h1],fun x=>UpF.refl x,Or.inl rfl,fun h=>absurd h h2⟩
 ·by_cases h2:(stCreate σ s).1 = 0
  ·rw [thn_go h2]
   obtain ⟨k,k1,k2,k3⟩:=xa4d p h1 rfl hno2
   generalize stAppend (stCreate σ s).2 s p = r2 at k2 k3 ⊢
   dsimp only at k2
   rw [List.nil_append] at k2
   by_cases h3:r2.1 = 0
   ·rw [thn_go h3]
    have k4:=k3 h3
    rw [k4,List.take_length] at k2
    obtain ⟨F,f1,f2,f3,f4⟩:=xa6w r2.2 s
    rw [k2,List.map_append,List.map_cons,List.map_nil] at f1
    generalize stSync r2.2 s = r3 at f1 f3 ⊢
    have u1:=f2 ⟨s,p,0,false⟩
    by_cases h4:r3.1 = 0
    ·rw [thn_go h4]
     obtain ⟨G,g1,g2,g3⟩:=xb5m r3.2
     rw [f1,List.map_append,List.map_map,List.map_cons,List.map_nil] at g1
     have u2:=g2 (F ⟨s,p,0,false⟩)
     have u3:=u1.trans u2
     have hsy:=f3 h4 ⟨s,p,0,false⟩ rfl
     refine ⟨G ∘ F,[G (F ⟨s,p,0,false⟩)],g1,fun x=>(f2 x).trans (g2 _),Or.inr ⟨_,48,rfl,u3.nm,Nat.le_refl _,?_,?_⟩,fun h5=>?_⟩
     ·rw [u3.bs,← hp,List.take_length]
     ·rw [u3.bs]; rcases u3.sy with h | h <;> rw [h] <;> simp
     ·rw [g3 h5]
      have q1:=u1.nm
      have q2:=u1.bs
      generalize F ⟨s,p,0,false⟩ = X at q1 q2 hsy ⊢
      obtain ⟨x1,x2,x3,x4⟩:=X
      dsimp only at q1 q2 hsy ⊢
      rw [q1,q2,hsy,hp]
    ·rw [xa1e h4]
     refine ⟨F,[F ⟨s,p,0,false⟩],f1,f2,Or.inr ⟨_,48,rfl,u1.nm,Nat.le_refl _,?_,?_⟩,fun h5=>absurd h5 h4⟩
     ·rw [u1.bs,← hp,List.take_length]
     ·rw [u1.bs]; rcases u1.sy with h | h <;> rw [h] <;> simp
   ·rw [xa1e h3,xa1e h3]
    exact ⟨id,_,by rw [k2,List.map_id],fun x=>UpF.refl x,Or.inr ⟨_,k,rfl,rfl,by omega,rfl,by simp⟩,fun h5=>absurd h5 h3⟩
  ·rw [xa1e h2,xa1e h2,xa1e h2]
   exact ⟨id,_,by rw [h1,List.map_id],fun x=>UpF.refl x,Or.inr ⟨_,0,rfl,rfl,by omega,by simp,by simp⟩,fun h5=>absurd h5 h2⟩
def Inv (wd:Int) (N:Nat) (A:List DF) (may:List (Nat × List En)) (must:Nat):Prop:=Ch wd N 0 0 0 A∧Rb A <+: may∧must≤dl A∧cntB may < 18446744073709551616
theorem Inv.upd {wd:Int} {N:Nat} {A:List DF} {may:List (Nat × List En)} {must:Nat} (h:Inv wd N A may must) {F:DF→DF} (hF:∀ x,UpF x (F x)):Inv wd N (A.map F) may must:=by
 obtain ⟨h1,h2,h3,h4⟩:=h
 obtain ⟨q1,q2,q3⟩:=h1.upd (F:=F) (fun x _=>hF x)
 exact ⟨q1,by rw [q2]; exact h2,by omega,h4⟩
theorem Inv.more {wd:Int} {N N':Nat} {A:List DF} {may may':List (Nat × List En)} {must:Nat} (h:Inv wd N A may must) (hN:N≤N') (hm:may <+: may') (hc:cntB may' < 18446744073709551616):Inv wd N' A may' must:=⟨h.1.up hN,h.2.1.trans hm,h.2.2.1,hc⟩
theorem xb2a (fs:Nat):numS fs [] = []:=rfl
theorem xb4o {wd:Int} {n ep fs:Nat} (hz:wideB wd = true) (hn:n < 18446744073709551616) (he:ep < 18446744073709551616) (hf:fs < 18446744073709551616):Gd wd n ep fs []:=⟨hz,hn,he,hf,rfl,by simp⟩
theorem xc0n {wd:Int} {N n ep fs c:Nat} {f:DF} (hz:wideB wd = true) (hn:n < 18446744073709551616) (he:ep < 18446744073709551616) (hf:fs < 18446744073709551616) (h1:f.nm = nmB n) (h2:c≤48) (h3:f.bs = (ehB n ep fs wd).take c) (h4:f.sy≤f.bs.length) (h5:n≤N) (h6:ep≤N):Fl wd N f n ep fs [] c []∧sgB f.bs = []:=by
 have e:laidB n ep fs wd [] = ehB n ep fs wd:=by unfold laidB; simp [numS,runS]
 have g:=xb4o (wd:=wd) hz hn he hf
 have hb:f.bs = (laidB n ep fs wd []).take c++[]:=by rw [e,h3]; simp
 refine ⟨⟨g,h1,h5,h6,by rw [e,xa1z hz]; exact h2,hb,h4,Tl.nil _ _⟩,?_⟩
 rw [hb]
 by_cases hc:c < 48
 ·exact (xa4v g c [] (Tl.nil _ _) hc).2
 ·obtain ⟨_,_,k,_,q,_⟩:=xa2b g c [] (Tl.nil _ _) (by omega)
  rw [q,xb2a]; simp
theorem xa9e {σ:DSt} {wd:Int} {N N' n ep fs:Nat} {may:List (Nat × List En)} {must:Nat} (hz:wideB wd = true) (h:Inv wd N σ.A may must) (hst:Stl σ.A) (hnum:∀ x∈σ.A,∀ u,u < 18446744073709551616→x.nm = nmB u→u < n) (hep:∀ x∈σ.A,sgE x.bs = 0→(hdC x.bs).b≤ep) (hfs:fs = cntB (Rb σ.A)) (h0:0 < n) (hNN:N≤N') (hnN:n≤N') (heN:ep≤N') (hN:N' < 18446744073709551615) :
  Inv wd N' (stBegin σ n ep fs wd).2.A may must∧E3 (stBegin σ n ep fs wd).1∧((stBegin σ n ep fs wd).1 = 0→∃ F:DF→DF,(stBegin σ n ep fs wd).2.A = σ.A.map F++[⟨nmB n,ehB n ep fs wd,48,true⟩]∧∀ x,UpF x (F x)):=by
 have hno:nmB n∉nmS σ:=by
  intro hm
  obtain ⟨x,hx,e⟩:=List.mem_map.1 hm
  have:=hnum x hx n (by omega) e
  omega
 obtain ⟨F,C,b1,b2,b3,b4⟩:=xb2s (ep:=ep) (fs:=fs) hz hno
 have hfl:fs < 18446744073709551616:=by
  have h1:cntB (Rb σ.A)≤cntB may:=by
   obtain ⟨t,ht⟩:=h.2.1
   rw [← ht,xa1a]; omega
  have:=h.2.2.2
  omega
 refine ⟨?_,xc1t hno,fun h9=>⟨F,by rw [b1,b4 h9],b2⟩⟩
 have hU:=h.upd b2
 have hRb:Rb (σ.A.map F) = Rb σ.A:=(h.1.upd (F:=F) (fun x _=>b2 x)).2.1
 have hC:Ch wd N' 0 0 0 (σ.A.map F):=hU.1.up hNN
 rw [b1]
 rcases b3 with rfl | ⟨f,c,rfl,c1,c2,c3,c4⟩
 ·rw [List.append_nil]
  exact hU.more hNN (List.prefix_refl _) h.2.2.2
 ·obtain ⟨e1,e2⟩:=xc0n (N:=N') hz (by omega) (by omega) hfl c1 c2 c3 c4 hnN heN
  refine ⟨Ch.snoc e1 (fun h9=>absurd e2 h9) hC (fun y hy=>?_) h0 (fun y hy u hu hyu=>?_) (fun h9=>⟨?_,Nat.zero_le _,fun y hy hy0=>?_⟩),?_,?_,h.2.2.2⟩
  ·obtain ⟨x,hx,rfl⟩:=List.mem_map.1 hy
   have u:=b2 x
   rw [u.bs]
   rcases hst x hx with h9 | h9
   ·exact Or.inl h9
   ·refine Or.inr ?_
    rcases u.sy with h7 | h7 <;> rw [h7]
    exact h9
  ·obtain ⟨x,hx,rfl⟩:=List.mem_map.1 hy
   rw [(b2 x).nm] at hyu
   exact hnum x hx u hu hyu
  ·rw [hRb,hfs]; omega
  ·obtain ⟨x,hx,rfl⟩:=List.mem_map.1 hy
   rw [(b2 x).bs] at hy0 ⊢
   exact hep x hx hy0
  ·rw [Rb_app,hRb]
   have:Rb [f] = []:=by simp [Rb,e2]
   rw [this,List.append_nil]
   exact h.2.1
  ·rw [dl_app]
   have:=hU.2.2.1
   omega
structure SJ (wd:Int) (N:Nat) (A:List DF) (s:LSt) (may:List (Nat × List En)) (must:Nat) (A0:List DF) (f:DF) (L:List (List En)):Prop where
 eq:A = A0++[f]
 ch:Ch wd N 0 0 0 A0
 st:Stl A0
 hi:∀ x∈A0,∀ u,u < 18446744073709551616→x.nm = nmB u→u < s.num
 ep:∀ x∈A0,sgE x.bs = 0→(hdC x.bs).b≤s.ep
 gd:Gd wd s.num s.ep s.fst L
 hn:s.num≤N
 he:s.ep≤N
 h1:0 < s.num
 nm:f.nm = nmB s.num
 bs:f.bs = laidB s.num s.ep s.fst wd L
 nd:f.nd = true
 sy:f.sy≤f.bs.length
 fs:s.fst = cntB (Rb A0)
 my:may = Rb A0++numS s.fst L
 nx:s.nx = cntB may
 mu:must≤dl A
 wd:s.wd = wd
 cn:cntB may < 18446744073709551616
theorem SJ.fl {wd:Int} {N:Nat} {A:List DF} {s:LSt} {may:List (Nat × List En)} {must:Nat} {A0:List DF} {f:DF} {L:List (List En)} (h:SJ wd N A s may must A0 f L):Fl wd N f s.num s.ep s.fst L (laidB s.num s.ep s.fst wd L).length [] :=
 ⟨h.gd,h.nm,h.hn,h.he,Nat.le_refl _,by rw [h.bs]; simp,h.sy,Tl.nil _ _⟩
theorem SJ.rb {wd:Int} {N:Nat} {A:List DF} {s:LSt} {may:List (Nat × List En)} {must:Nat} {A0:List DF} {f:DF} {L:List (List En)} (h:SJ wd N A s may must A0 f L):Rb A = may:=by
 rw [h.eq,Rb_app,h.my]
 congr 1
 simp only [Rb,List.flatMap_cons,List.flatMap_nil,List.append_nil]
 rw [h.bs]
 exact (xa7r h.gd).2.2
theorem SJ.inv {wd:Int} {N:Nat} {A:List DF} {s:LSt} {may:List (Nat × List En)} {must:Nat} {A0:List DF} {f:DF} {L:List (List En)} (h:SJ wd N A s may must A0 f L):Inv wd N A may must:=by
 refine ⟨?_,by rw [h.rb]; exact List.prefix_refl _,h.mu,h.cn⟩
 rw [h.eq]
 exact Ch.snoc h.fl (fun _=>h.nd) h.ch h.st h.h1 h.hi (fun _=>⟨by rw [h.fs]; omega,Nat.zero_le _,h.ep⟩)
theorem Ch.dl_stl {wd:Int} {N:Nat}:∀ {A:List DF} {la ep sz:Nat},Ch wd N la ep sz A→Stl A→dl A = (Rb A).length
 | [],_,_,_,_,_=>by simp [dl,Rb]
 | f :: r,la,ep,sz,h,hs=>by
  have h0:=hs f (by simp)
  obtain ⟨n,e,fs,L,c,m,hf,hl,hd,hr,hc⟩:=h
  have h1:=hf.dl_le
  have h2:dl r = (Rb r).length:=by
   rcases hc with ⟨_,h4⟩ | ⟨_,_,_,h6⟩
   ·exact h4.dl_stl (fun x hx=>hs x (by simp [hx]))
   ·exact h6.dl_stl (fun x hx=>hs x (by simp [hx]))
  have h3:dlF f = (sgB f.bs).length:=by
   rcases h0 with h0 | h0
   ·rw [h0] at h1 ⊢; simpa using h1
   ·by_cases hn:f.nd = true
    ·unfold dlF; rw [if_pos hn,h0,List.take_length]
    ·have:sgB f.bs = []:=by
      cases hq:sgB f.bs with
      | nil=>rfl
      | cons a b=>exact absurd (hd (by rw [hq]; simp)) hn
     rw [this] at h1 ⊢; simpa using h1
  rw [xa8v,xa1h,List.length_append]
  omega
theorem SJ.low {wd:Int} {N:Nat} {A:List DF} {s:LSt} {may:List (Nat × List En)} {must:Nat} {A0:List DF} {f:DF} {L:List (List En)} (h:SJ wd N A s may must A0 f L):∀ x∈A0,x.nm≠nmB s.num:=fun x hx e=>by
 have:=h.hi x hx s.num h.gd.n e
 omega
theorem SJ.sync {wd:Int} {N:Nat} {σ:DSt} {s:LSt} {may:List (Nat × List En)} {must:Nat} {A0:List DF} {f:DF} {L:List (List En)} (h:SJ wd N σ.A s may must A0 f L) :
  Inv wd N (stSync σ (nmB s.num)).2.A may must∧((stSync σ (nmB s.num)).1 = 0→∃ f',SJ wd N (stSync σ (nmB s.num)).2.A s may may.length A0 f' L∧f'.sy = f'.bs.length):=by
 obtain ⟨F,f1,f2,f3,f4⟩:=xa6w σ (nmB s.num)
 refine ⟨by rw [f1]; exact h.inv.upd f2,fun h0=>⟨F f,?_,by rw [(f2 f).bs]; exact f3 h0 f h.nm⟩⟩
 have hA:A0.map F = A0:=by
  conv=>rhs; rw [← List.map_id A0]
  exact List.map_congr_left (fun x hx=>f4 x (h.low x hx))
 have u:=f2 f
 have hsy:=f3 h0 f h.nm
 have e1:(stSync σ (nmB s.num)).2.A = A0++[F f]:=by rw [f1,h.eq,List.map_append,hA]; rfl
 refine { h with eq:=e1,nm:=by rw [u.nm,h.nm],bs:=by rw [u.bs,h.bs],nd:=u.nd h.nd,sy:=by rw [u.bs,hsy]; exact Nat.le_refl _,mu:=?_ }
 rw [e1,dl_app,h.ch.dl_stl h.st,h.my,List.length_append]
 have:dl [F f] = (numS s.fst L).length:=by
  simp only [dl,List.map_cons,List.map_nil,List.sum_cons,List.sum_nil,Nat.add_zero]
  unfold dlF
  rw [if_pos (u.nd h.nd),hsy,u.bs,List.take_length,h.bs,(xa7r h.gd).2.2]
 omega
theorem xb3i:∀ (L:List (List En)) (i:Nat),i < 18446744073709551616→okS i L = true→endS i L = i + cntB (numS i L)∧i + cntB (numS i L) < 18446744073709551616
 | [],i,h,_=>by simp [endS,numS,cntB]; exact h
 | es :: L,i,h,hk=>by
  rw [okS,Bool.and_eq_true,decide_eq_true_eq] at hk
  have h1:=xa8e hk.1
  have h2:(i + es.length) % 18446744073709551616 = i + es.length:=Nat.mod_eq_of_lt (by omega)
  have hk2:=hk.2
  rw [h2] at hk2
  obtain ⟨i1,i2⟩:=xb3i L (i + es.length) (by omega) hk2
  rw [endS,numS,h2,i1]
  have e:cntB ((i,es) :: numS (i + es.length) L) = es.length + cntB (numS (i + es.length) L):=by simp [cntB]
  rw [e]
  omega
theorem xa8r:∀ (L:List (List En)) (i:Nat) (es:List En),numS i (L++[es]) = numS i L++[(endS i L,es)]
 | [],i,es=>rfl
 | e :: L,i,es=>by rw [List.cons_append,numS,xa8r L,numS,endS,List.cons_append]
theorem xb3w:∀ (L:List (List En)) (i:Nat) (es:List En),okS i L = true→chkB (endS i L) es = 0→okS i (L++[es]) = true
 | [],i,es,_,h=>by
  have h':chkB i es = 0:=h
  simp [okS,h']
 | e :: L,i,es,hk,h=>by
  rw [okS,Bool.and_eq_true] at hk
  rw [List.cons_append,okS,hk.1,xb3w L _ es hk.2 h]
  rfl
theorem SJ.fresh {wd:Int} {N N' n ep fs:Nat} {A A':List DF} {s:LSt} {may:List (Nat × List En)} {must:Nat} {F:DF→DF} (hz:wideB wd = true) (h:Inv wd N A may must) (hm:Rb A = may) (hst:Stl A) (hnum:∀ x∈A,∀ u,u < 18446744073709551616→x.nm = nmB u→u < n) (hep:∀ x∈A,sgE x.bs = 0→(hdC x.bs).b≤ep) (hfs:fs = cntB may) (h0:0 < n) (hNN:N≤N') (hnN:n≤N') (heN:ep≤N') (hN:N' < 18446744073709551615)
  (hA:A' = A.map F++[⟨nmB n,ehB n ep fs wd,48,true⟩]) (hF:∀ x,UpF x (F x)) (s1:s.num = n) (s2:s.ep = ep) (s3:s.fst = fs) (s4:s.nx = fs) (s5:s.wd = wd):SJ wd N' A' s may must (A.map F) ⟨nmB n,ehB n ep fs wd,48,true⟩ []:=by
 obtain ⟨q1,q2,q3⟩:=h.1.upd (F:=F) (fun x _=>hF x)
 have hcn:=h.2.2.2
 subst s1 s2 s3
 have e:laidB s.num s.ep s.fst wd [] = ehB s.num s.ep s.fst wd:=by unfold laidB; simp [numS,runS]
 refine ⟨hA,q1.up hNN,fun y hy=>?_,fun y hy u hu hyu=>?_,fun y hy hy0=>?_,xb4o hz (by omega) (by omega) (by omega),hnN,heN,h0,rfl,e.symm,rfl,by show 48≤(ehB s.num s.ep s.fst wd).length; rw [xa1z hz]; exact Nat.le_refl _,by rw [q2,hm,hfs],by rw [q2,hm,xb2a,List.append_nil],by rw [s4,hfs],?_,s5,hcn⟩
 ·obtain ⟨x,hx,rfl⟩:=List.mem_map.1 hy
  have u:=hF x
  rw [u.bs]
  rcases hst x hx with h9 | h9
  ·exact Or.inl h9
  ·refine Or.inr ?_
   rcases u.sy with h7 | h7 <;> rw [h7]
   exact h9
 ·obtain ⟨x,hx,rfl⟩:=List.mem_map.1 hy
  rw [(hF x).nm] at hyu
  exact hnum x hx u hu hyu
 ·obtain ⟨x,hx,rfl⟩:=List.mem_map.1 hy
  rw [(hF x).bs] at hy0 ⊢
  exact hep x hx hy0
 ·rw [hA,dl_app]
  have:=h.2.2.1
  omega
theorem SJ.rot {wd:Int} {N:Nat} {σ:DSt} {s:LSt} {may:List (Nat × List En)} {must:Nat} {A0:List DF} {f:DF} {L:List (List En)} (h:SJ wd N σ.A s may must A0 f L) (hN:N + 1 < 18446744073709551615) :
  ((lgRot σ s).1≠0→Inv wd (N + 1) (lgRot σ s).2.1.A may must)∧((lgRot σ s).1 = 0→(lgRot σ s).2.2.nx = s.nx∧(lgRot σ s).2.2.wd = s.wd∧∃ A1 f1,SJ wd (N + 1) (lgRot σ s).2.1.A (lgRot σ s).2.2 may must A1 f1 []):=by
 obtain ⟨h1,h2⟩:=h.sync
 have hz:=h.gd.z
 have hwd:=h.wd
 have hm1:must≤may.length:=by
  have h3:=h.mu
  have h4:=h.inv.1.dl_le
  rw [h.rb] at h4
  omega
 unfold lgRot
 split
 ·rename_i h3
  exact ⟨fun _=>h1.more (Nat.le_succ _) (List.prefix_refl _) h.cn,fun h9=>absurd h9 h3⟩
 ·rename_i h3
  have h3':(stSync σ (nmB s.num)).1 = 0:=by simpa using h3
  split
  ·exact ⟨fun _=>h1.more (Nat.le_succ _) (List.prefix_refl _) h.cn,fun h9=>(by cases h9)⟩
  ·obtain ⟨f',hs,hsy⟩:=h2 h3'
   generalize (stSync σ (nmB s.num)).2 = τ at hs h1 ⊢
   have hst:Stl τ.A:=by
    rw [hs.eq]
    intro x hx
    rcases List.mem_append.1 hx with hx | hx
    ·exact hs.st x hx
    ·rw [List.mem_singleton.1 hx]; exact Or.inr hsy
   have hnum:∀ x∈τ.A,∀ u,u < 18446744073709551616→x.nm = nmB u→u < s.num + 1:=by
    rw [hs.eq]
    intro x hx u hu e
    rcases List.mem_append.1 hx with hx | hx
    ·have:=hs.hi x hx u hu e; omega
    ·rw [List.mem_singleton.1 hx,hs.nm] at e
     by_cases hq:u = s.num
     ·omega
     ·exact absurd e.symm (nmB_ne hu hs.gd.n hq)
   have hep:∀ x∈τ.A,sgE x.bs = 0→(hdC x.bs).b≤s.ep:=by
    rw [hs.eq]
    intro x hx h0
    rcases List.mem_append.1 hx with hx | hx
    ·exact hs.ep x hx h0
    ·rw [List.mem_singleton.1 hx,hs.bs,(xa7r hs.gd).1]; exact Nat.le_refl _
   have hI:Inv wd N τ.A may must:=h1
   have hfs:s.nx = cntB (Rb τ.A):=by rw [hs.rb]; exact hs.nx
   have hb:=xa9e (n:=s.num + 1) (ep:=s.ep) (fs:=s.nx) (N':=N + 1) hz hI hst hnum hep hfs (by omega) (by omega) (by have:=hs.hn; omega) (by have:=hs.he; omega) hN
   rw [hwd]
   split
   ·rename_i h4
    exact ⟨fun _=>hb.1,fun h9=>absurd h9 h4⟩
   ·rename_i h4
    refine ⟨fun h9=>absurd rfl h9,fun _=>⟨rfl,rfl,?_⟩⟩
    obtain ⟨F,b1,b2⟩:=hb.2.2 (by simpa using h4)
    exact ⟨_,_,SJ.fresh hz hI hs.rb hst hnum hep hs.nx (by omega) (by omega) (by have:=hs.hn; omega) (by have:=hs.he; omega) hN b1 b2 rfl rfl rfl rfl rfl⟩
theorem SJ.lay {wd:Int} {N:Nat} {σ:DSt} {s:LSt} {may:List (Nat × List En)} {must:Nat} {A0:List DF} {f:DF} {L:List (List En)} (h:SJ wd N σ.A s may must A0 f L) {es:List En} (hc:chkB s.nx es = 0) (hy:byN es) :
  ((lgLay σ s (sbB s.nx es)).1≠0→Inv wd N (lgLay σ s (sbB s.nx es)).2.1.A (may++[(s.nx,es)]) must)∧((lgLay σ s (sbB s.nx es)).1 = 0→∀ s',s'.num = s.num→s'.ep = s.ep→s'.fst = s.fst→s'.wd = s.wd→s'.nx = s.nx + es.length→∃ f1,SJ wd N (lgLay σ s (sbB s.nx es)).2.1.A s' (may++[(s.nx,es)]) must A0 f1 (L++[es])):=by
 obtain ⟨k,k1,k2,k3⟩:=xa4d (sbB s.nx es) h.eq h.nm h.low
 have hend:=xb3i L s.fst h.gd.f h.gd.ok
 have hnx:endS s.fst L = s.nx:=by rw [hend.1,h.nx,h.my,xa1a,h.fs]
 have hnum:numS s.fst (L++[es]) = numS s.fst L++[(s.nx,es)]:=by rw [xa8r,hnx]
 have hgd:Gd wd s.num s.ep s.fst (L++[es]):=⟨h.gd.z,h.gd.n,h.gd.e,h.gd.f,xb3w L s.fst es h.gd.ok (by rw [hnx]; exact hc),fun x hx=>by
  rcases List.mem_append.1 hx with hx | hx
  ·exact h.gd.y x hx
  ·rw [List.mem_singleton.1 hx]; exact hy⟩
 have hlaid:laidB s.num s.ep s.fst wd (L++[es]) = laidB s.num s.ep s.fst wd L++sbB s.nx es:=by unfold laidB; rw [hnum,xa4y,xb1d,List.append_assoc]
 have hcl:=xa8e hc
 have hcn:cntB (may++[(s.nx,es)]) < 18446744073709551616:=by
  rw [xa1a,← h.nx]
  have:cntB [(s.nx,es)] = es.length:=by simp [cntB]
  omega
 have hdl:dl A0 + dlF { f with bs:=f.bs++(sbB s.nx es).take k } = dl σ.A:=by
  rw [h.eq,dl_app]
  congr 1
  simp only [dl,List.map_cons,List.map_nil,List.sum_cons,List.sum_nil,Nat.add_zero]
  unfold dlF
  dsimp only
  rw [List.take_append_of_le_length h.sy]
 unfold lgLay
 dsimp only
 rw [k2]
 refine ⟨fun _=>?_,fun h0 s' e1 e2 e3 e4 e5=>⟨{ f with bs:=f.bs++(sbB s.nx es).take k },?_⟩⟩
 ·have hfl:Fl wd N { f with bs:=f.bs++(sbB s.nx es).take k } s.num s.ep s.fst (L++[es]) ((laidB s.num s.ep s.fst wd L).length + k) []:=by
   refine ⟨hgd,h.nm,h.hn,h.he,by rw [hlaid,List.length_append]; omega,?_,?_,Tl.nil _ _⟩
   ·show f.bs++(sbB s.nx es).take k = _
    rw [hlaid,List.take_length_add_append,h.bs]
    simp
   ·show f.sy≤(f.bs++(sbB s.nx es).take k).length
    rw [List.length_append]
    have:=h.sy
    omega
  refine ⟨Ch.snoc hfl (fun _=>h.nd) h.ch h.st h.h1 h.hi (fun _=>⟨by rw [h.fs]; omega,Nat.zero_le _,h.ep⟩),?_,?_,hcn⟩
  ·rw [Rb_app,h.my,List.append_assoc]
   refine (List.prefix_append_right_inj _).2 ?_
   simp only [Rb,List.flatMap_cons,List.flatMap_nil,List.append_nil]
   rw [← hnum,← (xa7r hgd).2.2]
   have hm:=(xa7d hgd [] [] (Tl.nil _ _) (Tl.nil _ _) hfl.hc).1
   rw [← hfl.bs] at hm
   simpa using hm
  ·rw [dl_app]
   have e9:dl [{ f with bs:=f.bs++(sbB s.nx es).take k }] = dlF { f with bs:=f.bs++(sbB s.nx es).take k }:=by simp [dl]
   rw [e9,hdl]
   exact h.mu
 ·have hk:=k3 h0
  rw [hk,List.take_length] at hdl ⊢
  refine ⟨rfl,h.ch,h.st,by rw [e1]; exact h.hi,by rw [e2]; exact h.ep,by rw [e1,e2,e3]; exact hgd,by rw [e1]; exact h.hn,by rw [e2]; exact h.he,by rw [e1]; exact h.h1,by rw [e1]; exact h.nm,?_,h.nd,?_,by rw [e3]; exact h.fs,?_,?_,?_,by rw [e4]; exact h.wd,hcn⟩
  ·show f.bs++sbB s.nx es = _
   rw [e1,e2,e3,hlaid,h.bs]
  ·show f.sy≤(f.bs++sbB s.nx es).length
   rw [List.length_append]
   have:=h.sy
   omega
  ·rw [e3,hnum,h.my,List.append_assoc]
  ·rw [e5,xa1a,h.nx]
   simp [cntB]
  ·rw [dl_app]
   have e9:dl [{ f with bs:=f.bs++sbB s.nx es }] = dlF { f with bs:=f.bs++sbB s.nx es }:=by simp [dl]
   rw [e9,hdl]
   exact h.mu
def ScI (wd:Int) (N:Nat) (c:ScS):Prop:=(c.s.st = 0∧∃ A0 f L,SJ wd N c.σ.A c.s c.may c.must A0 f L)∨(c.s.st≠0∧Inv wd N c.σ.A c.may c.must)
theorem SJ.upN {wd:Int} {N N':Nat} {A:List DF} {s:LSt} {may:List (Nat × List En)} {must:Nat} {A0:List DF} {f:DF} {L:List (List En)} (h:SJ wd N A s may must A0 f L) (hN:N≤N'):SJ wd N' A s may must A0 f L:={ h with ch:=h.ch.up hN,hn:=Nat.le_trans h.hn hN,he:=Nat.le_trans h.he hN }
theorem SJ.re {wd:Int} {N:Nat} {A:List DF} {s s':LSt} {may:List (Nat × List En)} {must:Nat} {A0:List DF} {f:DF} {L:List (List En)} (h:SJ wd N A s may must A0 f L) (e1:s'.num = s.num) (e2:s'.ep = s.ep) (e3:s'.fst = s.fst) (e4:s'.wd = s.wd) (e5:s'.nx = s.nx):SJ wd N A s' may must A0 f L :=
 { h with hi:=by rw [e1]; exact h.hi,ep:=by rw [e2]; exact h.ep,gd:=by rw [e1,e2,e3]; exact h.gd,hn:=by rw [e1]; exact h.hn,he:=by rw [e2]; exact h.he,h1:=by rw [e1]; exact h.h1,nm:=by rw [e1]; exact h.nm,bs:=by rw [e1,e2,e3]; exact h.bs,fs:=by rw [e3]; exact h.fs,my:=by rw [e3]; exact h.my,nx:=by rw [e5]; exact h.nx,wd:=by rw [e4]; exact h.wd }
theorem ScI.step {wd:Int} {N:Nat} {c:ScS} (h:ScI wd N c) (o:Bool × List En) (hy:byN o.2) (hN:N + 1 < 18446744073709551615):ScI wd (N + 1) (scStep c o):=by
 obtain ⟨σ,s,may,must⟩:=c
 obtain ⟨b,es⟩:=o
 rcases h with ⟨h0,A0,f,L,h⟩ | ⟨h0,h⟩
 ·dsimp only at h0 h hy
  have hf:lgFail s = 0:=by unfold lgFail; rw [if_pos (Or.inl h0)]; exact h0
  unfold scStep
  cases b with
  | true =>
   simp only [if_true]
   unfold lgSync
   rw [if_neg (by simp [hf])]
   dsimp only
   obtain ⟨q1,q2⟩:=h.sync
   by_cases h1:(stSync σ (nmB s.num)).1 = 0
   ·obtain ⟨f',q3,_⟩:=q2 h1
    rw [if_pos h1]
    exact Or.inl ⟨h1,A0,f',L,(q3.upN (Nat.le_succ _)).re rfl rfl rfl rfl rfl⟩
   ·rw [if_neg h1]
    exact Or.inr ⟨h1,q1.more (Nat.le_succ _) (List.prefix_refl _) h.cn⟩
  | false =>
   simp only [Bool.false_eq_true,if_false]
   by_cases hc:chkB s.nx es = 0
   ·have hap:lgAppend σ s es = ((lgWrite σ s (sbB s.nx es)).1,(lgWrite σ s (sbB s.nx es)).2.1,{ (lgWrite σ s (sbB s.nx es)).2.2 with st:=(lgWrite σ s (sbB s.nx es)).1,nx:=if (lgWrite σ s (sbB s.nx es)).1 = 0 then (s.nx + es.length) % 18446744073709551616 else s.nx }):=by
     unfold lgAppend
     rw [if_neg (by simp [hc]),if_neg (by simp [hf])]
    have hcl:=xa8e hc
    have hmod:(s.nx + es.length) % 18446744073709551616 = s.nx + es.length:=Nat.mod_eq_of_lt (by omega)
    have hcn:cntB (may++[(s.nx,es)]) < 18446744073709551616:=by
     rw [xa1a,← h.nx]
     have:cntB [(s.nx,es)] = es.length:=by simp [cntB]
     omega
    have hpre:may <+: may++[(s.nx,es)]:=List.prefix_append _ _
    have hwr:((lgWrite σ s (sbB s.nx es)).1≠0→Inv wd (N + 1) (lgWrite σ s (sbB s.nx es)).2.1.A (may++[(s.nx,es)]) must)∧((lgWrite σ s (sbB s.nx es)).1 = 0→∃ A1 f1 L1,SJ wd (N + 1) (lgWrite σ s (sbB s.nx es)).2.1.A { (lgWrite σ s (sbB s.nx es)).2.2 with st:=(lgWrite σ s (sbB s.nx es)).1,nx:=s.nx + es.length } (may++[(s.nx,es)]) must A1 f1 L1):=by
     unfold lgWrite
     split
     ·obtain ⟨r1,r2⟩:=h.rot hN
      split
      ·rename_i h3
       exact ⟨fun _=>(r1 h3).more (Nat.le_refl _) hpre hcn,fun h9=>absurd h9 h3⟩
      ·rename_i h3
       obtain ⟨r3,r4,A1,f1,r5⟩:=r2 (by simpa using h3)
       generalize lgRot σ s = R at r3 r4 r5 ⊢
       have hc':chkB R.2.2.nx es = 0:=by rw [r3]; exact hc
       obtain ⟨l1,l2⟩:=r5.lay hc' hy
       rw [r3] at l1 l2
       refine ⟨l1,fun h9=>?_⟩
       obtain ⟨f2,l3⟩:=l2 h9 { (lgLay R.2.1 R.2.2 (sbB s.nx es)).2.2 with st:=(lgLay R.2.1 R.2.2 (sbB s.nx es)).1,nx:=s.nx + es.length } (by unfold lgLay; dsimp only; split <;> rfl) (by unfold lgLay; dsimp only; split <;> rfl) (by unfold lgLay; dsimp only; split <;> rfl) (by unfold lgLay; dsimp only; split <;> rfl) rfl
       exact ⟨_,f2,_,l3⟩
     ·obtain ⟨l1,l2⟩:=h.lay hc hy
      refine ⟨fun h9=>(l1 h9).more (Nat.le_succ _) (List.prefix_refl _) hcn,fun h9=>?_⟩
      obtain ⟨f2,l3⟩:=l2 h9 { (lgLay σ s (sbB s.nx es)).2.2 with st:=(lgLay σ s (sbB s.nx es)).1,nx:=s.nx + es.length } (by unfold lgLay; dsimp only; split <;> rfl) (by unfold lgLay; dsimp only; split <;> rfl) (by unfold lgLay; dsimp only; split <;> rfl) (by unfold lgLay; dsimp only; split <;> rfl) rfl
      exact ⟨_,f2,_,l3.upN (Nat.le_succ _)⟩
    rw [hap]
    dsimp only
    rw [hmod]
    generalize lgWrite σ s (sbB s.nx es) = R at hwr ⊢
    by_cases h1:R.1 = 0
    ·obtain ⟨A1,f1,L1,h2⟩:=hwr.2 h1
     rw [if_pos (Or.inl h1),if_pos h1]
     exact Or.inl ⟨h1,A1,f1,L1,h2⟩
    ·rw [if_pos (Or.inr ⟨h0,h1⟩),if_neg h1]
     exact Or.inr ⟨h1,hwr.1 h1⟩
   ·have hap:lgAppend σ s es = (chkB s.nx es,σ,s):=by unfold lgAppend; rw [if_pos hc]
    rw [hap]
    dsimp only
    rw [if_neg (by rintro (h9 | ⟨_,h9⟩); exact hc h9; exact h9 h0)]
    exact Or.inl ⟨h0,A0,f,L,h.upN (Nat.le_succ _)⟩
 ·dsimp only at h0 h
  unfold scStep
  have hf:lgFail s≠0:=fun h1=>h0 (xa7k h1)
  cases b with
  | true =>
   simp only [if_true]
   rw [xb2d h0]
   dsimp only
   rw [if_neg hf]
   exact Or.inr ⟨h0,h.more (Nat.le_succ _) (List.prefix_refl _) h.2.2.2⟩
  | false =>
   simp only [Bool.false_eq_true,if_false]
   rw [xa6q es h0]
   dsimp only
   rw [if_neg (by
    rintro (h9 | ⟨h9,_⟩)
    ·split at h9
     ·rename_i h8; exact h8 h9
     ·exact hf h9
    ·exact h0 h9)]
   exact Or.inr ⟨h0,h.more (Nat.le_succ _) (List.prefix_refl _) h.2.2.2⟩
theorem ScI.run {wd:Int}:∀ (os:List (Bool × List En)) {N:Nat} {c:ScS},ScI wd N c→(∀ o∈os,byN o.2)→N + os.length < 18446744073709551615→ScI wd (N + os.length) (scR c os)
 | [],N,c,h,_,_=>h
 | o :: r,N,c,h,hy,hN=>by
  rw [List.length_cons] at hN ⊢
  have h1:=ScI.run r (h.step o (hy o (by simp)) (by omega)) (fun x hx=>hy x (by simp [hx])) (by omega)
  rw [show N + (r.length + 1) = N + 1 + r.length by omega]
  exact h1
def GoOn:Nat→List (Nat × List En)→Prop
 | _,[]=>True
 | i,b :: r=>b.1 = i∧b.2≠[]∧GoOn (i + b.2.length) r
theorem GoOn.app:∀ {a b:List (Nat × List En)} {i:Nat},GoOn i a→GoOn (i + cntB a) b→GoOn i (a++b)
 | [],b,i,_,h=>by simpa [cntB] using h
 | x :: a,b,i,h1,h2=>by
  refine ⟨h1.1,h1.2.1,h1.2.2.app ?_⟩
  have e:cntB (x :: a) = x.2.length + cntB a:=by simp [cntB]
  rw [e] at h2
  rw [Nat.add_assoc]
  exact h2
theorem GoOn.tk:∀ {a:List (Nat × List En)} {i:Nat} (k:Nat),GoOn i a→GoOn i (a.take k)
 | [],i,k,_=>by simp [GoOn]
 | x :: a,i,0,_=>trivial
 | x :: a,i,k + 1,h=>⟨h.1,h.2.1,h.2.2.tk k⟩
theorem xb4d:∀ (L:List (List En)) (i:Nat),okS i L = true→GoOn i (numS i L)
 | [],_,_=>trivial
 | es :: L,i,h=>by
  rw [okS,Bool.and_eq_true,decide_eq_true_eq] at h
  have h1:=xa2v h.1
  have h2:(i + es.length) % 18446744073709551616 = i + es.length:=Nat.mod_eq_of_lt (by omega)
  have h3:=xb4d L _ h.2
  rw [numS]
  rw [h2] at h3 ⊢
  exact ⟨rfl,fun e=>by subst e; simp at h1,h3⟩
theorem Ch.goOn {wd:Int} {N:Nat}:∀ {A:List DF} {la ep sz:Nat},Ch wd N la ep sz A→GoOn sz (Rb A)
 | [],_,_,_,_=>trivial
 | f :: r,la,ep,sz,h=>by
  obtain ⟨n,e,fs,L,c,m,hf,hl,hd,hr,hc⟩:=h
  rw [xa1h]
  rcases hc with ⟨h3,h4⟩ | ⟨h3,h4,h5,h6⟩
  ·have hnil:sgB f.bs = []:=by
    rcases hf.rd with ⟨_,h⟩ | ⟨h,_⟩
    ·exact h
    ·exact absurd h h3
   rw [hnil]
   exact h4.goOn
  ·refine GoOn.app ?_ h6.goOn
   subst h4
   by_cases hcl:c < 48
   ·rw [hf.bs,(xa4v hf.g c m hf.tl hcl).2]; trivial
   ·obtain ⟨_,_,k,_,q,_⟩:=xa2b hf.g c m hf.tl (by omega)
    rw [hf.bs,q]
    exact (xb4d L fs hf.g.ok).tk k
theorem xb0l {σ:DSt} {wd lim:Int} {N:Nat} {may:List (Nat × List En)} {must:Nat} (h:Inv wd N σ.A may must) (hag:argOk wd lim = true) (hN:N + 1 < 18446744073709551615) :
  E3 (opD σ wd lim).e∧((opD σ wd lim).e≠0→Inv wd (N + 1) (opD σ wd lim).σ.A may must)∧((opD σ wd lim).e = 0→(opD σ wd lim).bs <+: may∧must≤(opD σ wd lim).bs.length∧GoOn 0 (opD σ wd lim).bs∧∃ s,(opD σ wd lim).l = some s∧s.nx = cntB (opD σ wd lim).bs∧cntB (opD σ wd lim).bs < 18446744073709551616∧s.st = 0∧ScI wd (N + 1) ⟨(opD σ wd lim).σ,s,(opD σ wd lim).bs,(opD σ wd lim).bs.length⟩):=by
 have hz:wideB wd = true:=by unfold argOk at hag; unfold wideB; simp at hag ⊢; omega
 by_cases hoff:σ.off = true
 ·have e:opD σ wd lim = ⟨12,σ,none,[]⟩:=by unfold opD; rw [hag,if_neg (by simp),if_pos hoff]
  rw [e]
  exact ⟨Or.inr (Or.inr rfl),fun _=>h.more (Nat.le_succ _) (List.prefix_refl _) h.2.2.2,fun h9=>(by cases h9)⟩
 ·have ho:σ.off = false:=by simpa using hoff
  have hcR:cntB (Rb σ.A)≤cntB may:=by
   obtain ⟨t,ht⟩:=h.2.1
   rw [← ht,xa1a]; omega
  have hcm:=h.2.2.2
  obtain ⟨G,g1,g2,g3,g4,g5,g6,g7,g8⟩:=xa8w (N:=N) ho h.1.pair.2 (by omega) fst0 h.1 (fun x hx=>hx) rfl rfl (Nat.zero_le _) (Nat.zero_le _) (by omega)
  rw [opD_eq hag ho,h.1.names ho,g1]
  have hlast:=xa1y g1 (h.1.pair.1) (fun s _ _=>Nat.zero_le _)
  have g2':G.bs = Rb σ.A:=by rw [g2]; rfl
  have g4':G.sg = (σ.A.filter fun f=>decide (sgE f.bs = 0)).map (fun f=>f.nm.data.toList):=by rw [g4]; rfl
  have hsg:∀ s∈G.sg,strU s∈nmS σ:=by
   intro s hs
   rw [g4'] at hs
   obtain ⟨x,hx,rfl⟩:=List.mem_map.1 hs
   have h1:strU x.nm.data.toList = x.nm:=ba_ext (by simp [strU])
   rw [h1]
   exact List.mem_map.2 ⟨x,(List.mem_filter.1 hx).1,rfl⟩
  obtain ⟨F,f1,f2,f3⟩:=xa9a G.sg σ
  have hS3:=xb7q G.sg σ hsg
  show E3 (opOf σ wd lim G).e∧_
  simp only [opF2]
  unfold opOf
  split
  ·rename_i h1
   exact ⟨hS3,fun _=>by dsimp only; rw [f1]; exact (h.upd f2).more (Nat.le_succ _) (List.prefix_refl _) hcm,fun h9=>absurd h9 h1⟩
  ·rename_i h1
   have h1':(stSyncs σ G.sg).1 = 0:=by simpa using h1
   have hI:Inv wd N (stSyncs σ G.sg).2.A may must:=by rw [f1]; exact h.upd f2
   have hRb:Rb (stSyncs σ G.sg).2.A = Rb σ.A:=by rw [f1]; exact (h.1.upd (F:=F) (fun x _=>f2 x)).2.1
   have hst:Stl (stSyncs σ G.sg).2.A:=by
    rw [f1]
    intro y hy
    obtain ⟨x,hx,rfl⟩:=List.mem_map.1 hy
    rw [(f2 x).bs]
    by_cases hq:sgE x.bs = 0
    ·exact Or.inr (f3 h1' x.nm.data.toList (by rw [g4']; exact List.mem_map.2 ⟨x,List.mem_filter.2 ⟨hx,by simpa using hq⟩,rfl⟩) x (ba_ext (by simp [strU])))
    ·refine Or.inl ?_
     unfold sgE at hq
     unfold sgB
     split at hq
     ·exact absurd rfl hq
     ·rename_i h9; rw [if_neg h9]
   have hnum:∀ x∈(stSyncs σ G.sg).2.A,∀ u,u < 18446744073709551616→x.nm = nmB u→u < G.last + 1:=by
    rw [f1]
    intro y hy u hu e
    obtain ⟨x,hx,rfl⟩:=List.mem_map.1 hy
    rw [(f2 x).nm] at e
    have h8:=xa4c hu
    have h7:=hlast.2 (nmB u).data.toList (List.mem_map.2 ⟨x,hx,by rw [e]⟩) h8.1
    rw [h8.2] at h7
    omega
   have hep:∀ x∈(stSyncs σ G.sg).2.A,sgE x.bs = 0→(hdC x.bs).b≤G.ep + 1:=by
    rw [f1]
    intro y hy h0
    obtain ⟨x,hx,rfl⟩:=List.mem_map.1 hy
    rw [(f2 x).bs] at h0 ⊢
    have:=g8 x hx h0
    omega
   have hfs:G.sz = cntB (Rb (stSyncs σ G.sg).2.A):=by rw [hRb,g3]; omega
   have hb:=xa9e (n:=G.last + 1) (ep:=G.ep + 1) (fs:=G.sz) (N':=N + 1) hz hI hst hnum hep hfs (by omega) (by omega) (by omega) (by omega) hN
   split
   ·rename_i h2
    exact ⟨hb.2.1,fun _=>hb.1,fun h9=>absurd h9 h2⟩
   ·rename_i h2
    refine ⟨Or.inl rfl,fun h9=>absurd rfl h9,fun _=>?_⟩
    dsimp only
    rw [g2']
    have hd1:=h.1.dl_le
    have hd2:=h.2.2.1
    refine ⟨h.2.1,by omega,h.1.goOn,_,rfl,(by show G.sz = cntB (Rb σ.A); rw [g3]; omega),by omega,rfl,Or.inl ⟨rfl,?_⟩⟩
    obtain ⟨F2,b1,b2⟩:=hb.2.2 (by simpa using h2)
    have hI2:Inv wd N (stSyncs σ G.sg).2.A (Rb σ.A) (Rb σ.A).length:=⟨hI.1,by rw [hRb]; exact List.prefix_refl _,by rw [hI.1.dl_stl hst,hRb]; exact Nat.le_refl _,by omega⟩
    exact ⟨_,_,_,SJ.fresh hz hI2 hRb hst hnum hep (by rw [hfs,hRb]) (by omega) (by omega) (by omega) (by omega) hN b1 b2 rfl rfl rfl rfl rfl⟩
theorem xb5p (wd:Int):Inv wd 0 [] [] 0:=⟨trivial,List.prefix_refl _,Nat.zero_le _,by simp [cntB]⟩

end
end Go.Proofs.YtkolfhgbojenjaaGreatDoor
