import Derived.Test.YtejchncdimcdbaaGreatDoorTopB
namespace Go.Proofs.YtejchncdimcdbaaGreatDoor
set_option linter.unusedVariables false
set_option linter.unusedSimpArgs false
set_option maxRecDepth 100000
section
open Go.RowKit Go.BigFrame
def lgC (d:Nat) (s:LSt):Array Value:=#[.pointer (some ⟨d,0,none⟩),.int .u64 (s.num:Int),.int .u64 (s.ep:Int),.int .u64 (s.fst:Int),.int .i64 s.wd,.int .i64 (s.byt:Int),.int .i64 (s.bt:Int),.int .i64 s.lim,.int .u64 (s.nx:Int),.int .i64 (s.st:Int)]
theorem xa0u {w:World} {l d:Nat} {s:LSt} {ty:TypeId} (h:w.heap[l]? = some (.cells (lgC d s) ty (0,0))) :
  w.cell? ⟨l,0,none⟩ = some (.pointer (some ⟨d,0,none⟩))∧w.cell? ⟨l,1,none⟩ = some (.int .u64 (s.num:Int))∧w.cell? ⟨l,2,none⟩ = some (.int .u64 (s.ep:Int))∧w.cell? ⟨l,3,none⟩ = some (.int .u64 (s.fst:Int))∧w.cell? ⟨l,4,none⟩ = some (.int .i64 s.wd)∧w.cell? ⟨l,5,none⟩ = some (.int .i64 (s.byt:Int))∧w.cell? ⟨l,6,none⟩ = some (.int .i64 (s.bt:Int))∧w.cell? ⟨l,7,none⟩ = some (.int .i64 s.lim)∧w.cell? ⟨l,8,none⟩ = some (.int .u64 (s.nx:Int))∧w.cell? ⟨l,9,none⟩ = some (.int .i64 (s.st:Int)):=by
 refine ⟨?_,?_,?_,?_,?_,?_,?_,?_,?_,?_⟩ <;> rw [cell_of_row _ _ _ _ _ _ h] <;> rfl
structure LK (w:World) (l d:Nat) (B:List Nat) (nb ob bb:Nat) (σ:DSt) (s:LSt):Prop where
 row:w.heap[l]? = some (.cells (lgC d s) 117 (0,0))
 dk:DKf w d B nb ob bb σ
 nl:l∉B
 num:s.num < 18446744073709551616
 ep:s.ep < 18446744073709551616
 nx:s.nx < 18446744073709551616
 wd:wideB s.wd = true
 bt:s.bt≤ob
 byt:s.byt≤48 + 40000 * ob
 lim:1≤s.lim∧s.lim≤1048576
 st:s.st < 100
def EvL (w w':World) (l:Nat) (B B':List Nat):Prop:=Kept (l :: B) w w'∧∀ x∈B',x∈B∨w.heap.size≤x
theorem EvL.refl (w:World) (l:Nat) (B:List Nat):EvL w w l B B:=⟨Kept.refl _ _,fun x hx=>.inl hx⟩
theorem EvL.trans {a b c:World} {l:Nat} {A B C:List Nat} (h:EvL a b l A B) (k:EvL b c l B C):EvL a c l A C:=by
 refine ⟨h.1.trans k.1 (fun x hx=>?_),?_⟩
 ·rcases List.mem_cons.1 hx with rfl | hx
  ·exact .inl (by simp)
  ·exact (h.2 x hx).imp (fun h1=>by simp [h1]) id
 ·intro x hx
  rcases k.2 x hx with h1 | h1
  ·exact h.2 x h1
  ·exact .inr (Nat.le_trans h.1.size h1)
theorem EvL.pre {w0 w w':World} {l:Nat} {B B':List Nat} (k:Kept [] w0 w) (h:EvL w w' l B B'):EvL w0 w' l B B' :=
 ⟨(k.mono (M:=l :: B) (by simp)).trans h.1 (fun x hx=>Or.inl hx),fun x hx=>(h.2 x hx).imp id (fun h1=>Nat.le_trans k.size h1)⟩
theorem LK.lt {w:World} {l d nb ob bb:Nat} {B:List Nat} {σ:DSt} {s:LSt} (h:LK w l d B nb ob bb σ s):l < w.heap.size:=lt_of_block h.row
theorem LK.old {w w':World} {l d nb ob bb:Nat} {B:List Nat} {σ:DSt} {s:LSt} (h:LK w l d B nb ob bb σ s) (k:Kept [] w w'):LK w' l d B nb ob bb σ s :=
 { h with row:=k.heap h.row (by simp),dk:=h.dk.old k }
theorem LK.more {w:World} {l d nb ob bb:Nat} {B:List Nat} {σ:DSt} {s:LSt} (h:LK w l d B nb ob bb σ s) {nb' ob' bb':Nat} (h1:nb≤nb') (h0:ob≤ob') (h2:bb≤bb'):LK w l d B nb' ob' bb' σ s :=
 { h with dk:=h.dk.more h1 h0 h2,bt:=Nat.le_trans h.bt h0,byt:=by have:=h.byt; omega }
set_option maxHeartbeats 1000000 in
theorem xb6w (l d:Nat) (s:LSt) (w:World) (hr:w.heap[l]? = some (.cells (lgC d s) 117 (0,0))) :
  Calls Tryz.prog 106 #[.pointer (some ⟨l,0,none⟩),.int .i64 s.lim] w fun e w'=>e = .returned (.bool (lgFull s))∧w' = w:=by
 obtain ⟨c0,c1,c2,c3,c4,c5,c6,c7,c8,c9⟩:=xa0u hr
 clear hr
 unfold lgFull
 by_cases hb:0 < s.bt
 ·have hb':(0:Int) < (s.bt:Int):=by omega
  rw [decide_eq_true hb,Bool.true_and]
  by_cases hy:s.lim≤(s.byt:Int)
  ·rw [decide_eq_true hy]
   go_enter Tryz.func106,Tryz.ntmps106
   go_wp2
   go_ret
   exact ⟨rfl,rfl⟩
  ·rw [decide_eq_false hy]
   go_enter Tryz.func106,Tryz.ntmps106
   go_wp2
   go_ret
   exact ⟨rfl,rfl⟩
 ·have hb':¬ (0:Int) < (s.bt:Int):=by omega
  rw [decide_eq_false hb,Bool.false_and]
  go_enter Tryz.func106,Tryz.ntmps106
  go_wp2
  go_ret
  exact ⟨rfl,rfl⟩
set_option maxHeartbeats 1000000 in
theorem xa9u (l d:Nat) (s:LSt) (w:World) (hr:w.heap[l]? = some (.cells (lgC d s) 117 (0,0))) :
  Calls Tryz.prog 57 #[.pointer (some ⟨l,0,none⟩)] w fun e w'=>e = .returned (.int .i64 ((lgFail s:Nat):Int))∧w' = w:=by
 obtain ⟨c0,c1,c2,c3,c4,c5,c6,c7,c8,c9⟩:=xa0u hr
 clear hr
 unfold lgFail
 by_cases h0:s.st = 0
 ·rw [if_pos (Or.inl h0)]
  have g0:((s.st:Int) == 0) = true:=by simp; omega
  go_enter Tryz.func57,Tryz.ntmps57
  go_wp2
  go_ret
  exact ⟨by rw [h0]; rfl,rfl⟩
 ·have g0:((s.st:Int) == 0) = false:=by simp; omega
  by_cases h1:s.st = 12
  ·rw [if_pos (Or.inr h1)]
   have g1:((s.st:Int) == 12) = true:=by simp; omega
   go_enter Tryz.func57,Tryz.ntmps57
   go_wp2
   go_ret
   exact ⟨by rw [h1]; rfl,rfl⟩
  ·rw [if_neg (by omega)]
   have g1:((s.st:Int) == 12) = false:=by simp; omega
   go_enter Tryz.func57,Tryz.ntmps57
   go_wp2
   go_ret
   exact ⟨rfl,rfl⟩
set_option maxHeartbeats 1000000 in
theorem xb0t (l d:Nat) (s:LSt) (w:World) (hr:w.heap[l]? = some (.cells (lgC d s) 117 (0,0))) :
  Calls Tryz.prog 22 #[.pointer (some ⟨l,0,none⟩)] w fun e w'=>e = .returned (.int .u64 (s.nx:Int))∧w' = w:=by
 obtain ⟨c0,c1,c2,c3,c4,c5,c6,c7,c8,c9⟩:=xa0u hr
 clear hr
 go_enter Tryz.func22,Tryz.ntmps22
 go_wp2
 go_ret
 exact ⟨rfl,rfl⟩
set_option maxHeartbeats 1000000 in
theorem xa8a (l d:Nat) (s:LSt) (w:World) (hr:w.heap[l]? = some (.cells (lgC d s) 117 (0,0))) :
  Calls Tryz.prog 23 #[.pointer (some ⟨l,0,none⟩)] w fun e w'=>e = .returned (.int .u64 (s.ep:Int))∧w' = w:=by
 obtain ⟨c0,c1,c2,c3,c4,c5,c6,c7,c8,c9⟩:=xa0u hr
 clear hr
 go_enter Tryz.func23,Tryz.ntmps23
 go_wp2
 go_ret
 exact ⟨rfl,rfl⟩
set_option maxHeartbeats 1000000 in
theorem xa8e (l d:Nat) (s:LSt) (w:World) (hr:w.heap[l]? = some (.cells (lgC d s) 117 (0,0))) :
  Calls Tryz.prog 24 #[.pointer (some ⟨l,0,none⟩)] w fun e w'=>e = .returned (.int .u64 (s.num:Int))∧w' = w:=by
 obtain ⟨c0,c1,c2,c3,c4,c5,c6,c7,c8,c9⟩:=xa0u hr
 clear hr
 go_enter Tryz.func24,Tryz.ntmps24
 go_wp2
 go_ret
 exact ⟨rfl,rfl⟩
set_option maxHeartbeats 1000000 in
theorem xa8b (l d:Nat) (s:LSt) (w:World) (hr:w.heap[l]? = some (.cells (lgC d s) 117 (0,0))) :
  Calls Tryz.prog 25 #[.pointer (some ⟨l,0,none⟩)] w fun e w'=>e = .returned (.int .i64 (s.st:Int))∧w' = w:=by
 obtain ⟨c0,c1,c2,c3,c4,c5,c6,c7,c8,c9⟩:=xa0u hr
 clear hr
 go_enter Tryz.func25,Tryz.ntmps25
 go_wp2
 go_ret
 exact ⟨rfl,rfl⟩
theorem Tryz.size_cur:(Tryz.prog.info? 115).map (·.size) = some 7:=by kernel_rfl
theorem xa4g {P:Program} {fn:Func} {p:Tmp} {ty:TypeId} (h:fn.results = #[.cell p ty]) (tmps:Array Value) (w:World) (g:Nat) (t:TypeId) (cs:Array Value) (fr:Nat × Nat) (d:TypeDesc)
  (hp:tmps.getD p undef = .pointer (some ⟨g,0,none⟩)) (hg:w.heap[g]? = some (.cells cs t fr))
  (hu:P.underlying ty = some d) (hd:(match d with | .struct _ | .array _ _=>true | _=>false) = true) (hi:(P.info? ty).map (·.size) = some cs.size) :
  (results fn tmps).run P w = .ok (.agg cs) w:=by
 have hp':tmps[p]?.getD undef = .pointer (some ⟨g,0,none⟩):=by simpa using hp
 simp [results,h,hp',asAddr,run_loadVar_row w g t ty cs fr d hg hu hd hi]
set_option maxHeartbeats 2000000 in
theorem xa6b (l d f:Nat) (s:LSt) (w:World) (hr:w.heap[l]? = some (.cells (lgC d s) 117 (0,0))) (hn:s.num + 1 < 18446744073709551616) :
  Calls Tryz.prog 153 #[.pointer (some ⟨l,0,none⟩),.int .u64 (f:Int)] w fun e w'=>e = .returned (.agg (curC d (s.num + 1) s.ep f s.wd 0 0))∧Kept [] w w':=by
 have hk0:=(Kept.refl [] w).alloc (.cells #[.pointer none,.int .u64 0,.int .u64 0,.int .u64 0,.int .i64 0,.int .i64 0,.int .i64 0] 115)
 obtain ⟨c0,c1,c2,c3,c4,c5,c6,c7,c8,c9⟩:=xa0u (hk0.heap hr (by simp))
 have HK0:=hide hk0
 clear hk0
 have hwr:IntKind.u64.wrap ((s.num:Int) + 1) = ((s.num + 1:Nat):Int):=by rw [IntKind.wrap_u64]; omega
 have hlt:l≠w.heap.size:=by have:=lt_of_block hr; omega
 go_enter Tryz.func153,Tryz.ntmps153
 go_upto_region 3 with fail
 have hk2:=(uh HK0).alloc (.cells #[.int .u64 ((s.num:Int) + 1),.int .u64 (s.ep:Int),.int .u64 (f:Int),.int .i64 s.wd] 81)
 have hh2:=heap_alloc_new (w.alloc (.cells #[.pointer none,.int .u64 0,.int .u64 0,.int .u64 0,.int .i64 0,.int .i64 0,.int .i64 0] 115)) (.cells #[.int .u64 ((s.num:Int) + 1),.int .u64 (s.ep:Int),.int .u64 (f:Int),.int .i64 s.wd] 81)
 have hz2:=((Kept.refl [] _).alloc (.cells #[.int .u64 ((s.num:Int) + 1),.int .u64 (s.ep:Int),.int .u64 (f:Int),.int .i64 s.wd] 81)).heap (heap_alloc_new w (.cells #[.pointer none,.int .u64 0,.int .u64 0,.int .u64 0,.int .i64 0,.int .i64 0,.int .i64 0] 115)) (by simp)
 obtain ⟨W2,hW2⟩:∃ W,(w.alloc (.cells #[.pointer none,.int .u64 0,.int .u64 0,.int .u64 0,.int .i64 0,.int .i64 0,.int .i64 0] 115)).alloc (.cells #[.int .u64 ((s.num:Int) + 1),.int .u64 (s.ep:Int),.int .u64 (f:Int),.int .i64 s.wd] 81) = W:=⟨_,rfl⟩
 rw [hW2] at hk2 hh2 hz2 ⊢
 rw [show (w.alloc (.cells #[.pointer none,.int .u64 0,.int .u64 0,.int .u64 0,.int .i64 0,.int .i64 0,.int .i64 0] 115)).heap.size = w.heap.size + 1 by simp] at hh2
 have HK2:=hide hk2
 have HZ2:=hide hz2
 obtain ⟨q0,q1,q2,q3⟩:=hcells hh2
 clear c0 c1 c2 c3 c4 c5 c6 c7 c8 c9 hW2
 have c0:=(xa0u (hk2.heap hr (by simp))).1
 clear hk2 hz2 hh2 hr
 refine xa1o 6 (by kernel_rfl) (by kernel_rfl) ?_
 simp only [List.take_succ_cons,List.take_zero,List.drop_succ_cons,List.drop_zero]
 repeat (go_big_quiet_step (fail))
 refine wpQuiet_nil ?_
 rintro _ ⟨n5,rfl⟩
 have HK5:=hide ((uh HK2).drewN n5)
 have HZ5:=hide (((Kept.refl [] W2).drewN n5).heap (uh HZ2) (by simp))
 generalize W2.drewN n5 = W5 at HK5 HZ5 ⊢
 clear c0 q0 q1 q2 q3 HK2 HZ2
 refine wpList_plain rfl fun K hK=>?_
 refine wp_store_row 115 (.tmp 4) (.tmp 21) rfl w.heap.size (curC d (s.num + 1) s.ep f s.wd 0 0) rfl (by unfold curC; simp [Act.eval]) 115 _ (uh HZ5) Tryz.size_cur rfl (by simp [curC,Value.oneCell']) (hK _ _ ?_)
 have HK6:=hide (Kept.setRow (uh HK5) (Or.inr (Nat.le_refl _)) (curC d (s.num + 1) s.ep f s.wd 0 0):Kept [] w (W5.setRow w.heap.size (curC d (s.num + 1) s.ep f s.wd 0 0)))
 have HZ6:=hide (setRow_heap W5 w.heap.size _ (curC d (s.num + 1) s.ep f s.wd 0 0) _ _ (uh HZ5))
 generalize W5.setRow w.heap.size (curC d (s.num + 1) s.ep f s.wd 0 0) = W6 at HK6 HZ6 ⊢
 go_wp2_with fail
 refine bodyPost_ret (v:=.agg (curC d (s.num + 1) s.ep f s.wd 0 0)) ?_ rfl ⟨rfl,uh HK6⟩
 exact xa4g rfl _ _ w.heap.size _ (curC d (s.num + 1) s.ep f s.wd 0 0) (0,0) _ rfl (uh HZ6) Tryz.underlying115 rfl Tryz.size_cur
theorem xc2h {w:World} {l d:Nat} {s:LSt} {t:TypeId} (h:w.heap[l]? = some (.cells (lgC d s) t (0,0))) (x y:Nat):((w.setCell ⟨l,5,none⟩ (.int .i64 (x:Int))).setCell ⟨l,6,none⟩ (.int .i64 (y:Int))).heap[l]? = some (.cells (lgC d { s with byt:=x,bt:=y }) t (0,0)):=by
 rw [heap_setCell_same _ l 6 _ t _ (heap_setCell_same w l 5 _ t _ h)]
 rfl
theorem lfroz {w:World} {b:Nat} {cs:Array Value} {t:TypeId} (h:w.heap[b]? = some (.cells cs t (0,0))):w.frozen? ⟨b,0,none⟩ = false∧w.frozen? ⟨b,1,none⟩ = false∧w.frozen? ⟨b,2,none⟩ = false∧w.frozen? ⟨b,3,none⟩ = false∧w.frozen? ⟨b,4,none⟩ = false∧w.frozen? ⟨b,5,none⟩ = false∧w.frozen? ⟨b,6,none⟩ = false∧w.frozen? ⟨b,8,none⟩ = false∧w.frozen? ⟨b,9,none⟩ = false :=
 ⟨frozen_of_row _ _ _ _ _ h,frozen_of_row _ _ _ _ _ h,frozen_of_row _ _ _ _ _ h,frozen_of_row _ _ _ _ _ h,frozen_of_row _ _ _ _ _ h,frozen_of_row _ _ _ _ _ h,frozen_of_row _ _ _ _ _ h,frozen_of_row _ _ _ _ _ h,frozen_of_row _ _ _ _ _ h⟩
theorem LK.turn {w w3 w':World} {l d nb ob bb nb3 ob3 bb3:Nat} {B B3:List Nat} {σ τ:DSt} {s s':LSt} (h:LK w l d B nb ob bb σ s) (ev:Ev w w3 B B3) (hD:DKf w3 d B3 nb3 ob3 bb3 τ) (k:Kept [l] w3 w') (hr:w'.heap[l]? = some (.cells (lgC d s') 117 (0,0)))
  (h1:s'.num < 18446744073709551616) (h2:s'.ep = s.ep) (h3:s'.nx < 18446744073709551616) (h4:s'.wd = s.wd) (h5:s'.bt≤ob3) (h6:s'.byt≤48 + 40000 * ob3) (h7:s'.lim = s.lim) (h8:s'.st < 100) :
  LK w' l d B3 nb3 ob3 bb3 τ s'∧EvL w w' l B B3:=by
 have hn:=xa6o ev h.nl h.lt
 refine ⟨⟨hr,hD.kept k (fun x hx hm=>hn (by rw [← List.mem_singleton.1 hm]; exact hx)),hn,h1,by rw [h2]; exact h.ep,h3,by rw [h4]; exact h.wd,h5,h6,by rw [h7]; exact h.lim,h8⟩,?_⟩
 exact ⟨(ev.1.mono (M:=l :: B) (fun x hx=>by simp [hx])).trans k (fun x hx=>Or.inl (by rw [List.mem_singleton.1 hx]; simp)),ev.2⟩
set_option maxHeartbeats 2000000 in
theorem xb5t (l d nb ob bb g0:Nat) (B:List Nat) (σ:DSt) (s:LSt) (pv:Value) (ps:List Nat) (w:World) (h:LK w l d B nb ob bb σ s) (hv:VarsG g0 w) (hp:Rd w pv ps) (hpd:∀ x∈zblk pv ps,x∉B) (hpl:ps.length≤40000) (h1:nb≤900000000) (h2:ob≤900000000) (h3:bb≤140737488300000) :
  Calls Tryz.prog 108 #[.pointer (some ⟨l,0,none⟩),pv] w fun e w'=>∃ B',e = .returned (.int .i64 ((lgLay σ s ps).1:Nat))∧LK w' l d B' nb (ob + 1) (bb + ps.length) (lgLay σ s ps).2.1 (lgLay σ s ps).2.2∧EvL w w' l B B':=by
 have H:=hide h
 have HNU:=hide h.num
 have HV:=hide hv.now
 have HP:=hide hp
 have HPD:=hide hpd
 obtain ⟨pa,pn,pc,rfl,hpn,_⟩:=id hp
 subst hpn
 obtain ⟨c0,c1,_⟩:=xa0u h.row
 have HC0:=hide (fun w' (k:Kept [] w w')=>k.cell c0 (by simp))
 have HC1:=hide (fun w' (k:Kept [] w w')=>k.cell c1 (by simp))
 obtain ⟨LS,hLS⟩:∃ LS,lgLay σ s ps = ((stAppend σ (nmB s.num) ps).1,(stAppend σ (nmB s.num) ps).2,LS):=⟨_,rfl⟩
 have hLS2:LS = (lgLay σ s ps).2.2:=by rw [hLS]
 have HY:=hide (fun (h0:(stAppend σ (nmB s.num) ps).1 = 0)=>(by rw [hLS2]; unfold lgLay; simp only [h0,if_true]:LS = { s with byt:=s.byt + ps.length,bt:=s.bt + 1 }))
 have HN:=hide (fun (h0:(stAppend σ (nmB s.num) ps).1≠0)=>(by rw [hLS2]; unfold lgLay; simp only [h0,if_false]:LS = s))
 rw [hLS]
 clear h hv hp hpd c0 c1 hLS hLS2
 obtain ⟨R1,hR1⟩:∃ R1,stAppend σ (nmB s.num) ps = R1:=⟨_,rfl⟩
 rw [hR1] at HY HN ⊢
 have HR1:=hide hR1
 clear hR1
 obtain ⟨E1,τ1⟩:=R1
 dsimp only at *
 go_enter Tryz.func108,Tryz.ntmps108
 go_upto_region 1 with fail
 refine wp_w9 (by kernel_rfl) (by kernel_rfl) (by kernel_rfl) (by kernel_rfl) (by kernel_rfl) (by kernel_rfl) (by kernel_rfl) (by kernel_rfl) (by kernel_rfl) (by kernel_rfl) (by kernel_rfl) (by kernel_rfl) (by kernel_rfl) (by kernel_rfl) (by kernel_rfl) (by kernel_rfl) (by kernel_rfl) (by kernel_rfl) (by kernel_rfl) rfl rfl
  (.pointer (some ⟨l,0,none⟩)) (.pointer (some ⟨l,0,none⟩)) (.pointer (some ⟨l,0,none⟩)) (.pointer (some ⟨d,0,none⟩)) (.pointer (some ⟨l,0,none⟩)) (.slice pa ps.length pc) _ _ _ _ _ _
  (fun w'=>w'.cell? ⟨l,0,none⟩ = some (.pointer (some ⟨d,0,none⟩)))
  (fun w'=>Kept [] w w')
  (fun u5 w'=>u5 = .string (nmB (s.num))∧Kept [] w w')
  (fun u5 u7 w'=>w'.cell? ⟨l,0,none⟩ = some (.pointer (some ⟨d,0,none⟩))∧∃ B',u7 = .int .i64 ((stAppend σ (nmB s.num) ps).1:Nat)∧DKf w' d B' nb (ob + 1) (bb + ps.length) (stAppend σ (nmB s.num) ps).2∧Ev w w' B B')
  (fun x=>x)
  (by simp only [Act.put,sa1,sa2,sa3]; rfl) (by exact Or.inl ⟨by rfl,fun W' hW'=>by go_simp⟩)
  (by simp only [Act.put,sa1,sa2,sa3]; rfl) (by exact Or.inl ⟨by rfl,fun W' hW'=>by go_simp⟩)
  (by simp only [Act.put,sa1,sa2,sa3]; rfl) (by exact Or.inl ⟨by rfl,fun W' hW'=>by go_simp⟩)
  (by simp only [Act.put,sa1,sa2,sa3]; rfl) (by exact Or.inl ⟨by rfl,fun W' hW'=>by go_simp⟩)
  (by simp only [Act.put,sa1,sa2,sa3]; rfl) (by exact Or.inl ⟨by rfl,fun W' hW'=>by go_simp⟩)
  (by simp only [Act.put,sa1,sa2,sa3]; rfl) (by exact Or.inl ⟨by rfl,fun W' hW'=>by go_simp⟩)
  (Kept.refl [] w).drew
  ⟨fun w' h=>uh HC0 w' h,fun u5 w' h=>uh HC0 w' h.2,fun u5 u7 w' h=>h.1⟩
  (by
   intro w' k K hK
   refine xa0e rfl Tryz.call89 [.pointer (some ⟨l,0,none⟩)] rfl (xa4s l (s.num) w' (uh HC1 w' k) (uh HNU) ((uh HV).old k)) ?_
   rintro e w2 ⟨rfl,k2⟩
   exact ⟨_,rfl,hK _ _ ⟨rfl,k.trans k2 (by simp)⟩⟩)
  (by
   rintro u5 w' ⟨rfl,k⟩ K hK
   refine xa0e rfl Tryz.call90 [.pointer (some ⟨d,0,none⟩),.string (nmB (s.num)),.slice pa ps.length pc] rfl (xb5z d nb ob bb B σ (nmB s.num) (.slice pa ps.length pc) ps w' ((uh H).dk.old k) (by rw [xa4e]; omega) (by omega) (by omega) ((uh HP).old k (by simp)) (uh HPD) (by omega)) ?_
   rintro e w2 ⟨B',rfl,h9,ev⟩
   exact ⟨_,rfl,hK _ _ ⟨ev.1.cell (uh HC0 w' k) ((uh H).nl),B',rfl,h9,Ev.pre k ev⟩⟩)
  (by
   rintro u5 u7 w' ⟨_,B',rfl,_⟩
   exact Or.inl ⟨by rfl,fun W' hW'=>by go_simp⟩)
  ?_
 rintro u5 u7 w3 ⟨_,B3,rfl,h9,ev⟩
 simp only [Act.put,sa1,sa2,sa3]
 rw [uh HR1] at h9 ⊢
 have HE3:=hide ev
 have HD3:=hide h9
 have HR3:=hide (ev.1.heap (uh H).row (uh H).nl)
 clear h9 ev HC0 HC1 HV HP HPD
 obtain ⟨c0,c1,c2,c3,c4,c5,c6,c7,c8,c9⟩:=xa0u (uh HR3)
 obtain ⟨f0,f1,f2,f3,f4,f5,f6,f8,f9⟩:=lfroz (uh HR3)
 by_cases he1:E1 = 0
 ·obtain rfl:=uh HY he1
  subst he1
  have hw1:IntKind.i64.wrap ((s.byt:Int) + (ps.length:Int)) = ((s.byt + ps.length:Nat):Int):=by
   have:=(uh H).byt
   rw [IntKind.wrap_i64]; omega
  have hw2:IntKind.i64.wrap ((s.bt:Int) + 1) = ((s.bt + 1:Nat):Int):=by
   have:=(uh H).bt
   rw [IntKind.wrap_i64]; omega
  clear HY HN
  go_wp2_with fail
  all_goals go_ret
  all_goals have hz:=xc2h (uh HR3) (s.byt + ps.length) (s.bt + 1)
  all_goals have kz:Kept [l] w3 ((w3.setCell ⟨l,5,none⟩ (.int .i64 ((s.byt + ps.length:Nat):Int))).setCell ⟨l,6,none⟩ (.int .i64 ((s.bt + 1:Nat):Int))):=((Kept.refl [l] w3).setCell (p:=⟨l,5,none⟩) (.inl (by simp)) _).setCell (p:=⟨l,6,none⟩) (.inl (by simp)) _
  all_goals have hfin:=(uh H).turn (uh HE3) (uh HD3) kz hz (uh H).num rfl (uh H).nx rfl (by have:=(uh H).bt; simp only; omega) (by have:=(uh H).byt; simp only; omega) rfl (uh H).st
  all_goals push_cast at hfin
  all_goals first | exact ⟨B3,rfl,hfin.1,hfin.2⟩ | exact ⟨rfl,B3,hfin.1,hfin.2⟩
 ·have hq:((E1:Int) == 0) = false:=by simp; omega
  obtain rfl:=uh HN he1
  clear HY HN
  go_wp2_with fail
  go_ret
  have hfin:=(uh H).turn (uh HE3) (uh HD3) (Kept.refl [l] w3) (uh HR3) (uh H).num rfl (uh H).nx rfl (by have:=(uh H).bt; omega) (by have:=(uh H).byt; omega) rfl (uh H).st
  first | exact ⟨B3,rfl,hfin.1,hfin.2⟩ | exact ⟨rfl,B3,hfin.1,hfin.2⟩
set_option maxHeartbeats 2000000 in
theorem xc0v {w:World} {l d:Nat} {s:LSt} {t:TypeId} (h:w.heap[l]? = some (.cells (lgC d s) t (0,0))) (n ep fs:Nat) (wd:Int) (b q:Nat) :
  (((((((w.setCell ⟨l,0,none⟩ (.pointer (some ⟨d,0,none⟩))).setCell ⟨l,1,none⟩ (.int .u64 (n:Int))).setCell ⟨l,2,none⟩ (.int .u64 (ep:Int))).setCell ⟨l,3,none⟩ (.int .u64 (fs:Int))).setCell ⟨l,4,none⟩ (.int .i64 wd)).setCell ⟨l,5,none⟩ (.int .i64 (b:Int))).setCell ⟨l,6,none⟩ (.int .i64 (q:Int))).heap[l]? = some (.cells (lgC d { s with num:=n,ep:=ep,fst:=fs,wd:=wd,byt:=b,bt:=q }) t (0,0)):=by
 rw [heap_setCell_same _ l 6 _ t _ (heap_setCell_same _ l 5 _ t _ (heap_setCell_same _ l 4 _ t _ (heap_setCell_same _ l 3 _ t _ (heap_setCell_same _ l 2 _ t _ (heap_setCell_same _ l 1 _ t _ (heap_setCell_same w l 0 _ t _ h))))))]
 rfl
theorem xa6a {o:Oper} {a:Act} {w:World} {K:Act→World→Prop} {Q:Exit→Act→World→Prop} (ho:o.op = .alloc 115) (h:K (a.put o.dst (.pointer (some ⟨w.heap.size,0,none⟩))) (w.alloc (.cells #[.pointer none,.int .u64 0,.int .u64 0,.int .u64 0,.int .i64 0,.int .i64 0,.int .i64 0] 115))):o.wp Tryz.prog a w K Q:=by
 unfold Oper.wp execOp
 simp only [ho]
 go_simp
 exact h
def Alc (W:World) (u:Value) (cs:Array Value) (w:World):Prop:=∃ g,u = .pointer (some ⟨g,0,none⟩)∧W.heap.size≤g∧w.heap[g]? = some (.cells cs 115 (0,0))
abbrev zCur:Array Value:=#[.pointer none,.int .u64 0,.int .u64 0,.int .u64 0,.int .i64 0,.int .i64 0,.int .i64 0]
theorem Alc.pass {W w w':World} {u:Value} {cs:Array Value} (h:Alc W u cs w) (k:Kept [] w w'):Alc W u cs w':=by
 obtain ⟨g,h1,h2,h3⟩:=h; exact ⟨g,h1,h2,k.heap h3 (by simp)⟩
theorem xb8u {W w:World} (k:Kept [] W w):Alc W (.pointer (some ⟨w.heap.size,0,none⟩)) zCur (w.alloc (.cells zCur 115)):=⟨_,rfl,k.size,heap_alloc_new _ _⟩
set_option maxHeartbeats 4000000 in
theorem xc0m (l d nb ob bb g0:Nat) (B:List Nat) (σ:DSt) (s:LSt) (w:World) (h:LK w l d B nb ob bb σ s) (hv:VarsG g0 w) (hB:∀ x∈B,g0≤x) (hg0:g0≤w.heap.size) (h1:nb≤800000000) (h2:ob≤800000000) (h3:bb≤140737488200000) :
  Calls Tryz.prog 107 #[.pointer (some ⟨l,0,none⟩)] w fun e w'=>∃ B',e = .returned (.int .i64 ((lgRot σ s).1:Nat))∧LK w' l d B' (nb + 1) (ob + 5) (bb + 48) (lgRot σ s).2.1 (lgRot σ s).2.2∧EvL w w' l B B':=by
 have H:=hide h
 have HVG:=hide hv
 have HB:=hide hB
 obtain ⟨⟨E1,τ1⟩,hR1⟩:∃ R1,stSync σ (nmB s.num) = R1:=⟨_,rfl⟩
 obtain ⟨⟨E2,τ2⟩,hR2⟩:∃ R2,stBegin τ1 (s.num + 1) s.ep s.nx s.wd = R2:=⟨_,rfl⟩
 obtain ⟨⟨E,τ,s'⟩,hL⟩:∃ R,lgRot σ s = R:=⟨_,rfl⟩
 have HA:=hide (fun (h0:E1≠0)=>(by rw [← hL]; unfold lgRot; rw [hR1]; simp only [ne_eq,h0,not_false_eq_true,if_true]:(E,τ,s') = (E1,τ1,s)))
 have HBB:=hide (fun (h0:E1 = 0) (h8:s.num = 18446744073709551615)=>(by rw [← hL]; unfold lgRot; rw [hR1]; simp only [ne_eq,h0,not_true_eq_false,if_false,h8,if_true]:(E,τ,s') = (7,τ1,s)))
 have HCC:=hide (fun (h0:E1 = 0) (h8:s.num≠18446744073709551615) (h7:E2≠0)=>(by rw [← hL]; unfold lgRot; rw [hR1]; dsimp only; rw [hR2]; simp only [ne_eq,h0,not_true_eq_false,if_false,h8,h7,not_false_eq_true,if_true]:(E,τ,s') = (E2,τ2,s)))
 have HDD:=hide (fun (h0:E1 = 0) (h8:s.num≠18446744073709551615) (h7:E2 = 0)=>(by rw [← hL]; unfold lgRot; rw [hR1]; dsimp only; rw [hR2]; simp only [ne_eq,h0,not_true_eq_false,if_false,h8,h7]:(E,τ,s') = (0,τ2,{ s with num:=s.num + 1,fst:=s.nx,byt:=48,bt:=0 })))
 rw [hL]
 have HR1:=hide hR1
 have HR2:=hide hR2
 obtain ⟨c0,c1,_⟩:=xa0u h.row
 have HFL:=hide (xa5c l s.num d nb ob bb B σ w c0 c1 h.num hv.now h.dk h.nl (by omega) (by omega))
 rw [hR1] at HFL
 clear h hv hB hL hR1 hR2 c0 c1
 dsimp only at *
 go_enter Tryz.func107,Tryz.ntmps107
 go_wp2_with fail
 refine Calls.mono (uh HFL) ?_
 rintro e w1 ⟨B1,rfl,hd1,ev1⟩
 have HD1:=hide hd1
 have HE1:=hide ev1
 have HR:=hide (ev1.1.heap (uh H).row (uh H).nl)
 clear hd1 ev1 HFL
 by_cases he1:E1 = 0
 ·subst he1
  obtain ⟨c0,c1,c2,c3,c4,c5,c6,c7,c8,c9⟩:=xa0u (uh HR)
  by_cases hm:s.num = 18446744073709551615
  ·have hz:=uh HBB (by simp) hm
   cases hz
   have hq:((s.num:Int) == 18446744073709551615) = true:=by simp; omega
   go_wp2_with fail
   go_ret
   have hfin:=(uh H).turn (uh HE1) (uh HD1) (Kept.refl [l] w1) (uh HR) (uh H).num rfl (uh H).nx rfl (by have:=(uh H).bt; omega) (by have:=(uh H).byt; omega) rfl (uh H).st
   have hf1:=hfin.1.more (nb':=nb + 1) (ob':=ob + 5) (bb':=bb + 48) (by omega) (by omega) (by omega)
   first | exact ⟨B1,rfl,hf1,hfin.2⟩ | exact ⟨rfl,B1,hf1,hfin.2⟩
  ·have hq:((s.num:Int) == 18446744073709551615) = false:=by simp; omega
   have HCX:=hide c8
   have HNM:=hide (by have:=(uh H).num; omega:s.num + 1 < 18446744073709551616)
   clear c0 c2 c3 c4 c5 c6 c7 c9
   go_upto_region 6 with fail
   clear c1 c8
   refine wp_w10 (by kernel_rfl) (by kernel_rfl) (by kernel_rfl) (by kernel_rfl) (by kernel_rfl) (by kernel_rfl) (by kernel_rfl) (by kernel_rfl) (by kernel_rfl) (by kernel_rfl) (by kernel_rfl) (by kernel_rfl) (by kernel_rfl) (by kernel_rfl) (by kernel_rfl) (by kernel_rfl) (by kernel_rfl) (by kernel_rfl) (by kernel_rfl) (by kernel_rfl) (by kernel_rfl) rfl rfl rfl (by intro x hx; cases hx; decide)
    (.pointer (some ⟨l,0,none⟩)) (.pointer (some ⟨l,0,none⟩)) (.pointer (some ⟨l,0,none⟩)) (.pointer (some ⟨l,0,none⟩)) (.pointer (some ⟨l,0,none⟩)) (.pointer (some ⟨l,8,none⟩)) (.int .u64 (s.nx:Int)) _ _ _ _ _ _ _
    (fun w'=>w'.cell? ⟨l,8,none⟩ = some (.int .u64 (s.nx:Int)))
    (fun w'=>Kept [] w1 w')
    (fun u7 w'=>u7 = .agg (curC d (s.num + 1) s.ep s.nx s.wd 0 0)∧Kept [] w1 w')
    (fun u8 w'=>Alc w1 u8 zCur w'∧Kept [] w1 w')
    (fun u7 u8 w'=>u7 = .agg (curC d (s.num + 1) s.ep s.nx s.wd 0 0)∧Alc w1 u8 zCur w'∧Kept [] w1 w')
    (fun u7 u8 u9 w'=>u7 = .agg (curC d (s.num + 1) s.ep s.nx s.wd 0 0)∧Alc w1 u8 (curC d (s.num + 1) s.ep s.nx s.wd 0 0) w'∧Kept [] w1 w')
    (by simp only [Act.put,sa1,sa2,sa3]; rfl) (by exact Or.inl ⟨by rfl,fun W' hW'=>by go_simp⟩)
    (by simp only [Act.put,sa1,sa2,sa3]; rfl) (by exact Or.inl ⟨by rfl,fun W' hW'=>by go_simp⟩)
    (by simp only [Act.put,sa1,sa2,sa3]; rfl) (by exact Or.inl ⟨by rfl,fun W' hW'=>by go_simp⟩)
    (by simp only [Act.put,sa1,sa2,sa3]; rfl) (by exact Or.inl ⟨by rfl,fun W' hW'=>by go_simp⟩)
    (by simp only [Act.put,sa1,sa2,sa3]; rfl) (by exact Or.inl ⟨by rfl,fun W' hW'=>by go_simp⟩)
    (by simp only [Act.put,sa1,sa2,sa3]; rfl) (by exact Or.inl ⟨by rfl,fun W' hW'=>by go_simp⟩)
    (by simp only [Act.put,sa1,sa2,sa3]; rfl) (by exact Or.inl ⟨by rfl,fun W' hW'=>by go_simp⟩)
    (Kept.refl [] w1).drew
    ⟨fun w' h=>h.cell (uh HCX) (by simp),fun _ w' h=>h.2.cell (uh HCX) (by simp),fun _ w' h=>h.2.cell (uh HCX) (by simp),fun _ _ w' h=>h.2.2.cell (uh HCX) (by simp),fun _ _ _ w' h=>h.2.2.cell (uh HCX) (by simp)⟩
    (by
     intro w' k K hK
     refine xa0e rfl Tryz.call153 [.pointer (some ⟨l,0,none⟩),.int .u64 (s.nx:Int)] rfl (xa6b l d s.nx s w' (k.heap (uh HR) (by simp)) (uh HNM)) ?_
     rintro e w2 ⟨rfl,k2⟩
     exact ⟨_,rfl,hK _ _ ⟨rfl,k.trans k2 (by simp)⟩⟩)
    (by
     intro w' k K hK
     exact xa6a rfl (hK _ _ ⟨xb8u k,k.alloc _⟩))
    (by
     rintro u7 w' ⟨rfl,k⟩ K hK
     exact xa6a rfl (hK _ _ ⟨rfl,xb8u k,k.alloc _⟩))
    (by
     rintro u8 w' ⟨a8,k⟩ K hK
     refine xa0e rfl Tryz.call153 [.pointer (some ⟨l,0,none⟩),.int .u64 (s.nx:Int)] rfl (xa6b l d s.nx s w' (k.heap (uh HR) (by simp)) (uh HNM)) ?_
     rintro e w2 ⟨rfl,k2⟩
     exact ⟨_,rfl,hK _ _ ⟨rfl,a8.pass k2,k.trans k2 (by simp)⟩⟩)
    (by
     rintro u7 u8 w' ⟨rfl,⟨g,rfl,hg,hh⟩,k⟩ K hK
     have hk2:=hK undef _ ⟨rfl,⟨g,rfl,hg,setRow_heap _ _ _ (curC d (s.num + 1) s.ep s.nx s.wd 0 0) _ _ hh⟩,Kept.setRow k (Or.inr hg) _⟩
     clear hK
     simp only [Act.put,sa1,sa2,sa3] at hk2 ⊢
     exact wp_store_row 115 (.tmp 4) (.tmp 27) rfl g (curC d (s.num + 1) s.ep s.nx s.wd 0 0) rfl rfl 115 zCur hh Tryz.size_cur rfl (by simp [curC,Value.oneCell']) hk2)
    ?_
   rintro u7 u8 u9 w3 ⟨rfl,⟨g,rfl,hg,hh⟩,k3⟩
   simp only [Act.put,sa1,sa2,sa3]
   have HG:=hide hg
   have HH:=hide hh
   have HK3:=hide k3
   have HE3:=hide (Ev.trans (uh HE1) ((⟨k3.mono (by simp),fun x hx=>.inl hx⟩:Ev w1 w3 B1 B1)))
   have HGB:=hide (fun hx=>by have:=(uh HD1).lt g hx; omega:g∉B1)
   have HGL:=hide (by have:=lt_of_block (uh HR); omega:l≠g)
   have HBG:=hide (xa8q g (s.num + 1) s.ep s.nx d nb (ob + 1) bb g0 s.wd B1 τ1 w3 hh (uh H).wd (uh HNM) (((uh HVG).on (uh HE1).1 (uh HB)).old k3) (Ev.ge (uh HE1) (uh HB) hg0) (by have:=(uh HE1).1.size; have:=k3.size; omega) ((uh HD1).old k3) (uh HGB) (by omega) (by omega) (by omega))
   rw [uh HR2] at HBG
   clear hg hh k3
   go_wp2_with fail
   refine Calls.mono (uh HBG) ?_
   rintro e w4 ⟨B4,rfl,hd4,kk4,nw4,hh4⟩
   have HD4:=hide hd4
   have HH4:=hide hh4
   have HE4:=hide (⟨((uh HE3).1.mono (M:=B) (fun x hx=>hx)).trans kk4 (fun x hx=>by
     rcases List.mem_cons.1 hx with rfl | hx
     ·exact .inr (by have:=uh HG; have:=(uh HE1).1.size; omega)
     ·exact (uh HE1).2 x hx),fun x hx=>by
     rcases nw4 x hx with h9 | h9
     ·exact (uh HE1).2 x h9
     ·exact .inr (by have:=(uh HE3).1.size; omega)⟩:Ev w w4 B B4)
   have HR4:=hide ((uh HE4).1.heap (uh H).row (uh H).nl)
   clear hd4 kk4 nw4 hh4 HBG
   dsimp only at *
   by_cases he2:E2 = 0
   ·have hz:=uh HDD (by simp) hm he2
    cases hz
    subst he2
    obtain ⟨c0,c1,c2,c3,c4,c5,c6⟩:=xa2k (uh HH4)
    obtain ⟨f0,f1,f2,f3,f4,f5,f6,f8,f9⟩:=lfroz (uh HR4)
    obtain ⟨x0,x1,x2,x3,x4,x5,x6,x7,x8,x9⟩:=xa0u (uh HR4)
    have hz:=xc0v (uh HR4) (s.num + 1) s.ep s.nx s.wd 48 0
    have kz:=((((((((Kept.refl [l] w4).setCell (p:=⟨l,0,none⟩) (.inl (by simp)) (.pointer (some ⟨d,0,none⟩))).setCell (p:=⟨l,1,none⟩) (.inl (by simp)) (.int .u64 ((s.num + 1:Nat):Int))).setCell (p:=⟨l,2,none⟩) (.inl (by simp)) (.int .u64 (s.ep:Int))).setCell (p:=⟨l,3,none⟩) (.inl (by simp)) (.int .u64 (s.nx:Int))).setCell (p:=⟨l,4,none⟩) (.inl (by simp)) (.int .i64 s.wd)).setCell (p:=⟨l,5,none⟩) (.inl (by simp)) (.int .i64 ((48:Nat):Int))).setCell (p:=⟨l,6,none⟩) (.inl (by simp)) (.int .i64 ((0:Nat):Int)))
    have HFIN:=hide ((uh H).turn (s':={ s with num:=s.num + 1,fst:=s.nx,byt:=48,bt:=0 }) (uh HE4) (uh HD4) kz hz (uh HNM) rfl (uh H).nx rfl (by simp) (by simp only; omega) rfl (uh H).st)
    clear hz kz
    go_wp2_with fail
    go_ret
    have hfin:=uh HFIN
    push_cast at hfin
    first | exact ⟨B4,rfl,hfin.1,hfin.2⟩ | exact ⟨rfl,B4,hfin.1,hfin.2⟩
   ·have hz:=uh HCC (by simp) hm he2
    cases hz
    have hq2:((E2:Int) == 0) = false:=by simp; omega
    go_wp2_with fail
    go_ret
    have hfin:=(uh H).turn (uh HE4) (uh HD4) (Kept.refl [l] w4) (uh HR4) (uh H).num rfl (uh H).nx rfl (by have:=(uh H).bt; omega) (by have:=(uh H).byt; omega) rfl (uh H).st
    first | exact ⟨B4,rfl,hfin.1,hfin.2⟩ | exact ⟨rfl,B4,hfin.1,hfin.2⟩
 ·have hz:=uh HA he1
  cases hz
  have hq:((E1:Int) == 0) = false:=by simp; omega
  go_wp2_with fail
  go_ret
  have hfin:=(uh H).turn (uh HE1) (uh HD1) (Kept.refl [l] w1) (uh HR) (uh H).num rfl (uh H).nx rfl (by have:=(uh H).bt; omega) (by have:=(uh H).byt; omega) rfl (uh H).st
  have hf1:=hfin.1.more (nb':=nb + 1) (ob':=ob + 5) (bb':=bb + 48) (by omega) (by omega) (by omega)
  first | exact ⟨B1,rfl,hf1,hfin.2⟩ | exact ⟨rfl,B1,hf1,hfin.2⟩
theorem EvL.ge {w w':World} {l:Nat} {B B':List Nat} {g:Nat} (h:EvL w w' l B B') (hB:∀ x∈B,g≤x) (hg:g≤w.heap.size):∀ x∈B',g≤x:=by
 intro x hx
 rcases h.2 x hx with h1 | h1
 ·exact hB x h1
 ·omega
theorem xb2q (σ:DSt) (s:LSt):(lgRot σ s).2.2.st = s.st∧(lgRot σ s).2.2.nx = s.nx:=by
 unfold lgRot
 (repeat' split) <;> exact ⟨rfl,rfl⟩
theorem xb2w (σ:DSt) (s:LSt) (p:List Nat):(lgLay σ s p).2.2.st = s.st∧(lgLay σ s p).2.2.nx = s.nx:=by
 unfold lgLay
 dsimp only
 split <;> exact ⟨rfl,rfl⟩
theorem xb3r (σ:DSt) (s:LSt) (p:List Nat):(lgWrite σ s p).2.2.st = s.st∧(lgWrite σ s p).2.2.nx = s.nx:=by
 unfold lgWrite
 split
 ·split
  ·exact xb2q σ s
  ·have h1:=xb2q σ s
   have h2:=xb2w (lgRot σ s).2.1 (lgRot σ s).2.2 p
   exact ⟨h2.1.trans h1.1,h2.2.trans h1.2⟩
 ·exact xb2w σ s p
set_option maxHeartbeats 4000000 in
theorem xb3e (l d nb ob bb g0:Nat) (B:List Nat) (σ:DSt) (s:LSt) (pv:Value) (ps:List Nat) (w:World) (h:LK w l d B nb ob bb σ s) (hv:VarsG g0 w) (hB:∀ x∈B,g0≤x) (hl0:g0≤l) (hg0:g0≤w.heap.size) (hp:Rd w pv ps) (hpd:∀ x∈zblk pv ps,x∉l :: B) (hpl:ps.length≤40000) (h1:nb≤800000000) (h2:ob≤800000000) (h3:bb≤140737488200000) :
  Calls Tryz.prog 58 #[.pointer (some ⟨l,0,none⟩),pv] w fun e w'=>∃ B',e = .returned (.int .i64 ((lgWrite σ s ps).1:Nat))∧LK w' l d B' (nb + 1) (ob + 6) (bb + 48 + ps.length) (lgWrite σ s ps).2.1 (lgWrite σ s ps).2.2∧EvL w w' l B B':=by
 have H:=hide h
 have HVG:=hide hv
 have HB:=hide hB
 have HP:=hide hp
 have HPD:=hide hpd
 obtain ⟨pa,pn,pc,rfl,hpn,_⟩:=id hp
 subst hpn
 have HFU:=hide (fun j=>xb6w l d s (w.drewN j) (((Kept.refl [] w).drewN j).heap h.row (by simp)))
 have HROT:=hide (fun w' (k:Kept [] w w')=>xc0m l d nb ob bb g0 B σ s w' (h.old k) (hv.old k) hB (Nat.le_trans hg0 k.size) h1 h2 h3)
 have HLAY:=hide (fun w' (k:Kept [] w w')=>xb5t l d nb ob bb g0 B σ s (.slice pa ps.length pc) ps w' (h.old k) (hv.old k) (hp.old k (by simp)) (fun x hx hm=>hpd x hx (by simp [hm])) hpl (by omega) (by omega) (by omega))
 obtain ⟨⟨E1,τ1,s1⟩,hR1⟩:∃ R1,lgRot σ s = R1:=⟨_,rfl⟩
 obtain ⟨⟨E,τ,s'⟩,hL⟩:∃ R,lgWrite σ s ps = R:=⟨_,rfl⟩
 rw [hR1] at HROT
 have HA:=hide (fun (h0:lgFull s = false)=>(by rw [← hL]; unfold lgWrite; rw [h0]; rfl:(E,τ,s') = lgLay σ s ps))
 have HBB:=hide (fun (h0:lgFull s = true) (h9:E1≠0)=>(by rw [← hL]; unfold lgWrite; rw [h0,hR1]; simp only [if_true,ne_eq,h9,not_false_eq_true]:(E,τ,s') = (E1,τ1,s1)))
 have HCC:=hide (fun (h0:lgFull s = true) (h9:E1 = 0)=>(by rw [← hL]; unfold lgWrite; rw [h0,hR1]; simp only [if_true,ne_eq,h9,not_true_eq_false,if_false]:(E,τ,s') = lgLay τ1 s1 ps))
 rw [hL]
 have c7:=(xa0u h.row).2.2.2.2.2.2.2.1
 clear h hv hB hp hpd hL hR1
 dsimp only at *
 go_enter Tryz.func58,Tryz.ntmps58
 go_upto_region 1 with fail
 refine wp_region_quiet_lit (by kernel_rfl) (by kernel_rfl) ?_
 repeat (go_big_quiet_step (exact Calls.mono (uh HFU _) (fun e x h=>⟨h.1,_,h.2⟩)))
 refine wpQuiet_nil ?_
 rintro _ ⟨m5,rfl⟩
 have HK0:=hide ((Kept.refl [] w).drewN m5)
 generalize w.drewN m5 = w0 at HK0 ⊢
 clear c7 HFU
 have HLAY0:=hide (uh HLAY w0 (uh HK0))
 have HROT0:=hide (uh HROT w0 (uh HK0))
 clear HLAY HROT
 by_cases hf:lgFull s = true
 ·rw [hf]
  go_wp2_with fail
  refine Calls.mono (uh HROT0) ?_
  rintro e w1 ⟨B1,rfl,hl1,ev1⟩
  have HL1:=hide hl1
  have HE1:=hide (EvL.pre (uh HK0) ev1)
  clear hl1 ev1 HLAY0
  by_cases he1:E1 = 0
  ·have hz:=uh HCC hf he1
   subst he1
   have HPR:=hide ((uh HP).keptZ (uh HE1).1 (uh HPD))
   have HLAY2:=hide (xb5t l d (nb + 1) (ob + 5) (bb + 48) g0 B1 τ1 s1 (.slice pa ps.length pc) ps w1 (uh HL1) ((uh HVG).on (uh HE1).1 (fun x hx=>by
     rcases List.mem_cons.1 hx with rfl | hx
     ·exact hl0
     ·exact uh HB x hx)) (uh HPR) (fun x hx hm=>by
     rcases (uh HE1).2 x hm with h9 | h9
     ·exact uh HPD x hx (by simp [h9])
     ·have:=(uh HP).ltZ x hx; omega) hpl (by omega) (by omega) (by omega))
   rw [← hz] at HLAY2
   dsimp only at *
   go_wp2_with fail
   refine Calls.mono (uh HLAY2) ?_
   rintro e w2 ⟨B2,rfl,hl2,ev2⟩
   have HL2:=hide hl2
   have HE2:=hide ((uh HE1).trans ev2)
   clear hl2 ev2
   go_wp2_with fail
   go_ret
   exact ⟨B2,rfl,(uh HL2).more (by omega) (by omega) (by omega),uh HE2⟩
  ·have hz:=uh HBB hf he1
   cases hz
   have hq:((E1:Int) == 0) = false:=by simp; omega
   go_wp2_with fail
   go_ret
   exact ⟨B1,rfl,(uh HL1).more (by omega) (by omega) (by omega),uh HE1⟩
 ·rw [Bool.not_eq_true] at hf
  have hz:=uh HA hf
  rw [hf]
  rw [← hz] at HLAY0
  dsimp only at *
  go_wp2_with fail
  refine Calls.mono (uh HLAY0) ?_
  rintro e w2 ⟨B2,rfl,hl2,ev2⟩
  have HL2:=hide hl2
  have HE2:=hide (EvL.pre (uh HK0) ev2)
  clear hl2 ev2
  go_wp2_with fail
  go_ret
  exact ⟨B2,rfl,(uh HL2).more (by omega) (by omega) (by omega),uh HE2⟩
theorem xb2o (σ:DSt) (n:ByteArray):(stCreate σ n).1 < 100:=by
 unfold stCreate
 split
 ·simp
 ·exact opE_le _ _ _ _ (by unfold ownA; (repeat' split) <;> omega)
theorem xa3z (σ:DSt) (n:ByteArray) (p:List Nat):(stAppend σ n p).1 < 100:=by
 unfold stAppend
 split
 ·simp
 ·split <;> exact opE_le _ _ _ _ (by omega)
theorem xa4q (σ:DSt) (n:ByteArray):(stSync σ n).1 < 100:=by
 unfold stSync
 split
 ·simp
 ·split <;> exact opE_le _ _ _ _ (by omega)
theorem xb6c (σ:DSt):(stNames σ).1 < 100:=by
 unfold stNames
 split
 ·simp
 ·exact opE_le _ _ _ _ (by omega)
theorem thn_lt {r:Nat × DSt} {f:DSt→Nat × DSt} (h:r.1 < 100) (hf:∀ τ,(f τ).1 < 100):(thn r f).1 < 100:=by
 unfold thn
 split
 ·exact hf _
 ·exact h
theorem xb4y (σ:DSt) (n ep fs:Nat) (wd:Int):(stBegin σ n ep fs wd).1 < 100 :=
 thn_lt (thn_lt (thn_lt (xb2o _ _) (fun τ=>xa3z _ _ _)) (fun τ=>xa4q _ _)) (fun τ=>xb6c _)
theorem xc1a (σ:DSt) (s:LSt):(lgRot σ s).1 < 100:=by
 unfold lgRot
 split
 ·exact xa4q _ _
 ·split
  ·simp
  ·split
   ·exact xb4y _ _ _ _ _
   ·simp
theorem xb3f (σ:DSt) (s:LSt) (p:List Nat):(lgWrite σ s p).1 < 100:=by
 unfold lgWrite
 split
 ·split
  ·exact xc1a _ _
  ·exact xa3z _ _ _
 ·exact xa3z _ _ _
theorem xc1z {f:Nat} {es:List En} (h:chkB f es = 0) (hf:f < 18446744073709551616):(sbB f es).length≤40000:=by
 unfold sbB
 rw [if_pos h,xa4n]
 have:=(xa9x h hf).2
 omega
theorem st_row {w:World} {l d:Nat} {s:LSt} {t:TypeId} (h:w.heap[l]? = some (.cells (lgC d s) t (0,0))) (x:Nat):(w.setCell ⟨l,9,none⟩ (.int .i64 (x:Int))).heap[l]? = some (.cells (lgC d { s with st:=x }) t (0,0)):=by
 rw [heap_setCell_same w l 9 _ t _ h]
 rfl
theorem nx_row {w:World} {l d:Nat} {s:LSt} {t:TypeId} (h:w.heap[l]? = some (.cells (lgC d s) t (0,0))) (x:Nat):(w.setCell ⟨l,8,none⟩ (.int .u64 (x:Int))).heap[l]? = some (.cells (lgC d { s with nx:=x }) t (0,0)):=by
 rw [heap_setCell_same w l 8 _ t _ h]
 rfl
theorem LK.set {w w':World} {l d nb ob bb:Nat} {B:List Nat} {σ:DSt} {s:LSt} (h:LK w l d B nb ob bb σ s) (x y:Nat) (hx:x < 100) (hy:y < 18446744073709551616) (k:Kept [l] w w') (hr:w'.heap[l]? = some (.cells (lgC d { s with st:=x,nx:=y }) 117 (0,0))):LK w' l d B nb ob bb σ { s with st:=x,nx:=y } :=
 ⟨hr,h.dk.kept k (fun z hz hm=>h.nl (by rw [← List.mem_singleton.1 hm]; exact hz)),h.nl,h.num,h.ep,hy,h.wd,h.bt,h.byt,h.lim,hx⟩
theorem EvL.on {w w3 w':World} {l:Nat} {B B':List Nat} (h:EvL w w3 l B B') (k:Kept [l] w3 w'):EvL w w' l B B' :=
 ⟨h.1.trans k (fun x hx=>Or.inl (by rw [List.mem_singleton.1 hx]; simp)),h.2⟩
set_option maxHeartbeats 4000000 in
theorem xa5w (l d nb ob bb g0:Nat) (B:List Nat) (σ:DSt) (s:LSt) (v:Value) (es:List En) (w:World) (h:LK w l d B nb ob bb σ s) (hv:VarsG g0 w) (hB:∀ x∈B,g0≤x) (hl0:g0≤l) (hg0:g0≤w.heap.size) (hr:RdN w v es) (h1:nb≤800000000) (h2:ob≤800000000) (h3:bb≤140737488200000) :
  Calls Tryz.prog 19 #[.pointer (some ⟨l,0,none⟩),v] w fun e w'=>∃ B',e = .returned (.int .i64 ((lgAppend σ s es).1:Nat))∧LK w' l d B' (nb + 1) (ob + 6) (bb + 40048) (lgAppend σ s es).2.1 (lgAppend σ s es).2.2∧EvL w w' l B B':=by
 have H:=hide h
 have HVG:=hide hv
 have HB:=hide hB
 have HSB:=hide (xa9a s.nx v es w h.nx hr)
 obtain ⟨va,n,vc,kv,vv,rfl,hlen,hcap,hmx,_⟩:=id hr
 subst hlen
 have HLE:=hide (by omega:es.length≤9223372036854775807)
 obtain ⟨C,hC⟩:∃ C,chkB s.nx es = C:=⟨_,rfl⟩
 obtain ⟨ps,hps⟩:∃ ps,sbB s.nx es = ps:=⟨_,rfl⟩
 obtain ⟨⟨E1,τ1,s1⟩,hW⟩:∃ R,lgWrite σ s ps = R:=⟨_,rfl⟩
 have HE1:=hide (by have:=xb3f σ s ps; rw [hW] at this; exact this:E1 < 100)
 have HS1:=hide (by have:=xb3r σ s ps; rw [hW] at this; exact this.2:s1.nx = s.nx)
 obtain ⟨⟨E,τ,s'⟩,hL⟩:∃ R,lgAppend σ s es = R:=⟨_,rfl⟩
 have HA:=hide (fun (h0:C≠0)=>(by rw [← hL]; unfold lgAppend; rw [hC]; simp only [ne_eq,h0,not_false_eq_true,if_true]:(E,τ,s') = (C,σ,s)))
 have HBB:=hide (fun (h0:C = 0) (h9:lgFail s≠0)=>(by rw [← hL]; unfold lgAppend; rw [hC]; simp only [ne_eq,h0,not_true_eq_false,if_false,h9,not_false_eq_true,if_true]:(E,τ,s') = (lgFail s,σ,s)))
 have HC0:=hide (fun (h0:C = 0) (h9:lgFail s = 0) (h8:E1 = 0)=>(by rw [← hL]; unfold lgAppend; rw [hC,hps]; simp only [ne_eq,h0,not_true_eq_false,if_false,h9]; rw [hW]; simp only [h8,if_true]:(E,τ,s') = (E1,τ1,{ s1 with st:=E1,nx:=(s.nx + es.length) % 18446744073709551616 })))
 have HC1:=hide (fun (h0:C = 0) (h9:lgFail s = 0) (h8:E1≠0)=>(by rw [← hL]; unfold lgAppend; rw [hC,hps]; simp only [ne_eq,h0,not_true_eq_false,if_false,h9]; rw [hW]; simp only [h8,if_false]:(E,τ,s') = (E1,τ1,{ s1 with st:=E1,nx:=s.nx })))
 rw [hL]
 have HPL:=hide (fun (h0:C = 0)=>(by rw [← hps]; exact xc1z (by rw [hC]; exact h0) h.nx:ps.length≤40000))
 rw [hC,hps] at HSB
 have c8:=(xa0u h.row).2.2.2.2.2.2.2.2.1
 have HWW:=hide hW
 clear h hv hB hr hL hC hps hW hcap hmx
 dsimp only at *
 go_enter Tryz.func19,Tryz.ntmps19
 go_wp2_with fail
 refine Calls.mono (uh HSB) ?_
 rintro e w1 ⟨pv,rfl,nw,k1⟩
 have HK1:=hide k1
 have HNW:=hide nw
 obtain ⟨pa,pn,pc,rfl,hpn,_⟩:=id nw.1
 clear k1 nw HSB c8
 by_cases hc:C = 0
 ·subst hc
  have HFA:=hide (xa9u l d s w1 ((uh HK1).heap (uh H).row (by simp)))
  go_wp2_with fail
  refine Calls.mono (uh HFA) ?_
  rintro e w2 ⟨rfl,rfl⟩
  by_cases hf:lgFail s = 0
  ·rw [hf]
   have HWR:=hide (xb3e l d nb ob bb g0 B σ s (.slice pa pn pc) ps w2 ((uh H).old (uh HK1)) ((uh HVG).old (uh HK1)) (uh HB) hl0 (Nat.le_trans hg0 (uh HK1).size) (uh HNW).1 (fun x hx hm=>by
     have h9:w.heap.size≤x:=by
      have hx2:=(xa6w hx).1
      rcases (uh HNW).2 with ⟨h8,h7⟩ | ⟨g,h8,h7,_⟩
      ·exact absurd h8 (xa6w hx).2
      ·rw [h8] at hx2; simp only [blk,List.mem_singleton] at hx2; subst hx2; exact h7
     rcases List.mem_cons.1 hm with rfl | hm
     ·have:=(uh H).lt; omega
     ·have:=(uh H).dk.lt _ hm; omega) (uh HPL (by simp)) h1 h2 h3)
   rw [uh HWW] at HWR
   dsimp only at *
   go_wp2_with fail
   refine Calls.mono (uh HWR) ?_
   rintro e w3 ⟨B3,rfl,hl3,ev3⟩
   have HL3:=hide hl3
   have HE3:=hide (EvL.pre (uh HK1) ev3)
   obtain ⟨c0,c1,c2,c3,c4,c5,c6,c7,c8,c9⟩:=xa0u hl3.row
   obtain ⟨f0,f1,f2,f3,f4,f5,f6,f8,f9⟩:=lfroz hl3.row
   rw [uh HS1] at c8
   clear hl3 ev3 HWR
   have hle3:bb + 48 + ps.length≤bb + 40048:=by have:=uh HPL (by simp); omega
   by_cases he:E1 = 0
   ·have hw:IntKind.u64.wrap ((s.nx:Int) + (es.length:Int)) = (((s.nx + es.length) % 18446744073709551616:Nat):Int):=by rw [IntKind.wrap_u64]; simp
    have hw2:IntKind.u64.wrap (es.length:Int) = (es.length:Int):=by rw [IntKind.wrap_u64]; have:=uh HLE; omega
    have hst:=st_row (uh HL3).row E1
    have kst:Kept [l] w3 (w3.setCell ⟨l,9,none⟩ (.int .i64 (E1:Int))):=(Kept.refl [l] w3).setCell (p:=⟨l,9,none⟩) (.inl (by simp)) _
    have hnx:=nx_row hst ((s.nx + es.length) % 18446744073709551616)
    have knx:=kst.setCell (p:=⟨l,8,none⟩) (.inl (by simp)) (.int .u64 (((s.nx + es.length) % 18446744073709551616:Nat):Int))
    have HFIN:=hide ((uh HL3).set E1 ((s.nx + es.length) % 18446744073709551616) (uh HE1) (Nat.mod_lt _ (by omega)) knx hnx)
    have HEV:=hide ((uh HE3).on knx)
    clear hst kst hnx knx
    have hz:=uh HC0 (by simp) hf he
    cases hz
    subst he
    go_wp2_with fail
    go_ret
    have hfin:=((uh HFIN).more (nb':=nb + 1) (ob':=ob + 6) (bb':=bb + 40048) (by omega) (by omega) hle3)
    have hev:=uh HEV
    simp only [Int.natCast_emod,Int.natCast_add,Int.cast_ofNat_Int] at hfin hev
    first | exact ⟨B3,rfl,hfin,hev⟩ | exact ⟨rfl,B3,hfin,hev⟩
   ·have hq:((E1:Int) == 0) = false:=by simp; omega
    have hst:=st_row (uh HL3).row E1
    have kst:Kept [l] w3 (w3.setCell ⟨l,9,none⟩ (.int .i64 (E1:Int))):=(Kept.refl [l] w3).setCell (p:=⟨l,9,none⟩) (.inl (by simp)) _
    have HFIN:=hide ((uh HL3).set E1 s.nx (uh HE1) (uh H).nx kst (by rw [hst,← uh HS1]))
    have HEV:=hide ((uh HE3).on kst)
    clear hst kst
    have hz:=uh HC1 (by simp) hf he
    cases hz
    go_wp2_with fail
    go_ret
    have hfin:=((uh HFIN).more (nb':=nb + 1) (ob':=ob + 6) (bb':=bb + 40048) (by omega) (by omega) hle3)
    first | exact ⟨B3,rfl,hfin,uh HEV⟩ | exact ⟨rfl,B3,hfin,uh HEV⟩
  ·have hz:=uh HBB (by simp) hf
   cases hz
   have hq:((lgFail s:Int) == 0) = false:=by simp; omega
   go_wp2_with fail
   go_ret
   have hfin:=((uh H).old (uh HK1)).more (nb':=nb + 1) (ob':=ob + 6) (bb':=bb + 40048) (by omega) (by omega) (by omega)
   have hev:=EvL.pre (uh HK1) (EvL.refl w2 l B)
   first | exact ⟨B,rfl,hfin,hev⟩ | exact ⟨rfl,B,hfin,hev⟩
 ·have hz:=uh HA hc
  cases hz
  have hq:((C:Int) == 0) = false:=by simp; omega
  go_wp2_with fail
  go_ret
  have hfin:=((uh H).old (uh HK1)).more (nb':=nb + 1) (ob':=ob + 6) (bb':=bb + 40048) (by omega) (by omega) (by omega)
  have hev:=EvL.pre (uh HK1) (EvL.refl w1 l B)
  first | exact ⟨B,rfl,hfin,hev⟩ | exact ⟨rfl,B,hfin,hev⟩
set_option maxHeartbeats 4000000 in
theorem xb7v (l d nb ob bb g0:Nat) (B:List Nat) (σ:DSt) (s:LSt) (w:World) (h:LK w l d B nb ob bb σ s) (hv:VarsG g0 w) (h1:nb≤800000000) (h2:ob≤800000000) :
  Calls Tryz.prog 21 #[.pointer (some ⟨l,0,none⟩)] w fun e w'=>∃ B',e = .returned (.int .i64 ((lgSync σ s).1:Nat))∧LK w' l d B' nb (ob + 1) bb (lgSync σ s).2.1 (lgSync σ s).2.2∧EvL w w' l B B':=by
 have H:=hide h
 obtain ⟨c0,c1,_⟩:=xa0u h.row
 have HFL:=hide (xa5c l s.num d nb ob bb B σ w c0 c1 h.num hv.now h.dk h.nl (by omega) (by omega))
 have HFA:=hide (xa9u l d s w h.row)
 obtain ⟨⟨E1,τ1⟩,hW⟩:∃ R,stSync σ (nmB s.num) = R:=⟨_,rfl⟩
 have HE1:=hide (by have:=xa4q σ (nmB s.num); rw [hW] at this; exact this:E1 < 100)
 obtain ⟨⟨E,τ,s'⟩,hL⟩:∃ R,lgSync σ s = R:=⟨_,rfl⟩
 have HBB:=hide (fun (h9:lgFail s≠0)=>(by rw [← hL]; unfold lgSync; simp only [ne_eq,h9,not_false_eq_true,if_true]:(E,τ,s') = (lgFail s,σ,s)))
 have HCC:=hide (fun (h9:lgFail s = 0)=>(by rw [← hL]; unfold lgSync; simp only [ne_eq,not_true_eq_false,if_false,h9]; rw [hW]:(E,τ,s') = (E1,τ1,{ s with st:=E1 })))
 rw [hL]
 rw [hW] at HFL
 clear h hv hL hW c0 c1
 dsimp only at *
 go_enter Tryz.func21,Tryz.ntmps21
 go_wp2_with fail
 refine Calls.mono (uh HFA) ?_
 rintro e w2 ⟨rfl,rfl⟩
 by_cases hf:lgFail s = 0
 ·have hz:=uh HCC hf
  cases hz
  rw [hf]
  go_wp2_with fail
  refine Calls.mono (uh HFL) ?_
  rintro e w3 ⟨B3,rfl,hd3,ev3⟩
  have hr3:=ev3.1.heap (uh H).row (uh H).nl
  obtain ⟨c0,c1,c2,c3,c4,c5,c6,c7,c8,c9⟩:=xa0u hr3
  obtain ⟨f0,f1,f2,f3,f4,f5,f6,f8,f9⟩:=lfroz hr3
  have hst:=st_row hr3 E1
  have kst:Kept [l] w3 (w3.setCell ⟨l,9,none⟩ (.int .i64 (E1:Int))):=(Kept.refl [l] w3).setCell (p:=⟨l,9,none⟩) (.inl (by simp)) _
  have HFIN:=hide ((uh H).turn ev3 hd3 kst hst (uh H).num rfl (uh H).nx rfl (by have:=(uh H).bt; simp only; omega) (by have:=(uh H).byt; simp only; omega) rfl (uh HE1))
  clear hst kst hr3 hd3 ev3
  go_wp2_with fail
  go_ret
  first | exact ⟨B3,rfl,(uh HFIN).1,(uh HFIN).2⟩ | exact ⟨rfl,B3,(uh HFIN).1,(uh HFIN).2⟩
 ·have hz:=uh HBB hf
  cases hz
  have hq:((lgFail s:Int) == 0) = false:=by simp; omega
  go_wp2_with fail
  go_ret
  have hfin:=(uh H).more (nb':=nb) (ob':=ob + 1) (bb':=bb) (by omega) (by omega) (by omega)
  have hev:=EvL.refl w2 l B
  first | exact ⟨B,rfl,hfin,hev⟩ | exact ⟨rfl,B,hfin,hev⟩
end
section
open Go.RowKit Go.BigFrame Go.Maps Go.Sort
theorem xb1n {w:World} {b s:Nat}:∀ {rows:List (List Value)} {off:Nat} (hc:∀ i (h:i < rows.length),w.rangeAt b (off + i * s) rows[i]) (hs:∀ r∈rows,r.length = s) (j:Nat) (u:Value),rows.flatten[j]? = some u→w.cell? ⟨b,off + j,none⟩ = some u
 | [],off,hc,hs,j,u,hj=>by simp at hj
 | r :: rs,off,hc,hs,j,u,hj=>by
  have hr:r.length = s:=hs r (by simp)
  rw [List.flatten_cons] at hj
  by_cases h:j < s
  ·rw [List.getElem?_append_left (by omega)] at hj
   have h9:=hc 0 (by simp) j u (by simpa using hj)
   simpa using h9
  ·rw [List.getElem?_append_right (by omega),hr] at hj
   have ih:=xb1n (rows:=rs) (off:=off + s) (fun i hi=>by
    have h9:=hc (i + 1) (by simpa using hi)
    simp only [List.getElem_cons_succ] at h9
    rw [show off + s + i * s = off + (i + 1) * s by rw [Nat.add_mul]; omega]
    exact h9) (fun r hr=>hs r (by simp [hr])) (j - s) u hj
   rw [show off + j = off + s + (j - s) by omega]
   exact ih
theorem xa0t {w:World} {base e s n:Nat} {v:Value} {xs:List Value} (h:w.ownsRow base e s v n xs):∃ ao cap,v = .slice ao n cap:=by
 rcases h.2 with ⟨rfl,rfl⟩ | ⟨g,cap,cur,rfl,_⟩
 ·exact ⟨_,_,rfl⟩
 ·exact ⟨_,_,rfl⟩
theorem xb5i {s:Nat}:∀ {rows:List (List Value)},(∀ r∈rows,r.length = s)→rows.flatten.length = rows.length * s
 | [],_=>by simp
 | r :: rs,h=>by
  have ih:=xb5i (rows:=rs) (fun r hr=>h r (by simp [hr]))
  rw [List.flatten_cons,List.length_append,ih,h r (by simp),List.length_cons,Nat.add_mul]
  omega
theorem xb5w {s:Nat}:∀ {rows:List (List Value)} (hs:∀ r∈rows,r.length = s) {i j:Nat} (hi:i < rows.length) {u:Value},rows[i][j]? = some u→rows.flatten[i * s + j]? = some u
 | r :: rs,hs,0,j,hi,u,hu=>by
  have hj:=(List.getElem?_eq_some_iff.1 hu).1
  rw [List.flatten_cons,Nat.zero_mul,Nat.zero_add,List.getElem?_append_left (by simpa using hj)]
  simpa using hu
 | r :: rs,hs,i + 1,j,hi,u,hu=>by
  have hr:r.length = s:=hs r (by simp)
  have ih:=xb5w (rows:=rs) (fun r hr=>hs r (by simp [hr])) (i:=i) (j:=j) (by simpa using hi) (u:=u) (by simpa using hu)
  rw [List.flatten_cons,List.getElem?_append_right (by rw [hr,Nat.add_mul]; omega),hr,show (i + 1) * s + j - s = i * s + j by rw [Nat.add_mul]; omega]
  exact ih
theorem xc0y {w:World} {base e s:Nat} {v:Value} {rows:List (List Value)} (h:w.ownsRow base e s v rows.length rows.flatten) (hs:∀ r∈rows,r.length = s):RdC s w v rows:=by
 rcases h.2 with ⟨rfl,h0⟩ | ⟨g,cap,cur,rfl,_,hg,hc,hm,hsz,ht⟩
 ·have:rows = []:=List.eq_nil_of_length_eq_zero h0
  subst this
  exact RdC.nil s w
 ·refine ⟨_,_,_,rfl,rfl,hc,by unfold maxLen at hm; omega,fun _=>⟨g,0,rfl,fun i hi j u hu=>?_⟩⟩
  have h9:=h.cells (g:=g) rfl (i * s + j) u (xb5w hs hi hu)
  rw [Addr.add_lit,Nat.zero_add] at h9
  rw [Nat.zero_add]
  exact h9
theorem xa8x {P:Program} {w:World} (base:Nat) (t ty e:TypeId) (i:TypeInfo) (size c:Nat) (ht:P.underlying t = some (.slice e)) (hi:P.info? e = some i)
  (v:Value) (n:Nat) (xs:List Value) (hown:w.ownsRow base e size v n xs) :
  (Builtin.append_ #[t,t] ty #[v,.slice none 0 c]).run P w = .ok v w:=by
 rcases hown.2 with ⟨rfl,rfl⟩ | ⟨g,cap,cur,rfl,_,_,hnc,_⟩
 ·simp [Builtin.append_,run_underlying ht,sizeOf,typeInfo,hi,Builtin.lenOf,Builtin.firstCells]
 ·simp [Builtin.append_,run_underlying ht,sizeOf,typeInfo,hi,Builtin.lenOf,Builtin.firstCells,hnc,storeCells]
theorem appendC (w:World) (base T e:Nat) (z:Value) (s bytes:Nat) (hu:Tryz.prog.underlying T = some (.slice e)) (hinf:(Tryz.prog.info? e).map (fun i=>(i.zero,i.size,i.bytes)) = some (some z,s,bytes)) (hzs:z.cells.size = s) (hs0:0 < s)
  (v:Value) (n:Nat) (xs:List Value) (h:w.ownsRow base e s v n xs) (ao:Option Addr) (m c:Nat) (rows:List (List Value)) (hr:RdC s w (.slice ao m c) rows) (hs:∀ r∈rows,r.length = s) (hone:∀ r∈rows,∀ u∈r,u.oneCell' = true)
  (hl:(n + m) * bytes≤140737488355328) (hl2:n + m≤1000000000000) (hb:base≤w.heap.size) :
  ∃ ao' cap' w1,(Builtin.append_ #[T,T] T #[v,.slice ao m c]).run Tryz.prog w = .ok (.slice ao' (n + m) cap') w1∧w1.ownsRow base e s (.slice ao' (n + m) cap') (n + m) (xs++rows.flatten)∧w.grownBy w1 v.ownBlock∧((Value.slice ao' (n + m) cap').ownBlock = v.ownBlock∨(Value.slice ao' (n + m) cap').ownBlock = some w.heap.size):=by
 obtain ⟨i0,hi,hz0,hz1,hz2⟩:=info_parts hinf
 obtain ⟨ao1,n1,c1,he,h1,h2,h3,h4⟩:=hr
 cases he
 have hf1:∀ u∈rows.flatten,u.oneCell' = true:=by
  intro u hu
  obtain ⟨r,hr,hur⟩:=List.mem_flatten.1 hu
  exact hone r hr u hur
 have hfl:rows.flatten.length = m * s:=by rw [xb5i hs,h1]
 cases ao with
 | none =>
  have hm:m = 0:=by
   rcases Nat.eq_zero_or_pos m with h9 | h9
   ·exact h9
   ·obtain ⟨b,off,e9,_⟩:=h4 h9; cases e9
  subst hm
  have hp:rows = []:=List.eq_nil_of_length_eq_zero h1
  subst hp
  have hrun:=xa8x (P:=Tryz.prog) (w:=w) base T T e i0 s c hu hi v n xs h
  obtain ⟨ao',cap',rfl⟩:=xa0t h
  exact ⟨ao',cap',w,hrun,by simpa using h,World.grownBy.refl _ _,.inl rfl⟩
 | some ad =>
  have hnews:∀ j u,rows.flatten[j]? = some u→w.cell? (ad.add j) = some u:=by
   intro j u hj
   have hm:0 < m:=by
    have:=(List.getElem?_eq_some_iff.1 hj).1
    rw [hfl] at this
    rcases Nat.eq_zero_or_pos m with h9 | h9
    ·subst h9; omega
    ·exact h9
   obtain ⟨b,off,e9,hc⟩:=h4 hm
   cases e9
   rw [Addr.add_mid]
   exact xb1n hc hs j u hj
  obtain ⟨v',w1,hrun,hown,hgrow,_,hat⟩:=run_append_own_at (P:=Tryz.prog) w base T T e i0 z s bytes hu hi hz0 hz1 hz2 hzs hs0 v n xs h ad m c rows.flatten hfl hnews hf1 (by unfold maxLen; omega) hl hb
  obtain ⟨ao',cap',rfl⟩:=xa0t hown
  exact ⟨ao',cap',w1,hrun,hown,hgrow,hat⟩
theorem xa2i {ops:Array Oper} {rest:List Oper} {o:Oper} {a:Act} {Q:Exit→Act→World→Prop} (hgd:o.guard = none) (T e:Nat) (s x:Operand)
  (ho:o.op = .call { callee:=.builtin .append,args:=#[s,x],argTypes:=#[T,T] }) (hty:o.type = T)
  (w:World) (base:Nat) (z:Value) (sz bytes:Nat) (hu:Tryz.prog.underlying T = some (.slice e)) (hinf:(Tryz.prog.info? e).map (fun i=>(i.zero,i.size,i.bytes)) = some (some z,sz,bytes)) (hzs:z.cells.size = sz) (hs0:0 < sz)
  (v:Value) (n:Nat) (xs:List Value) (h:w.ownsRow base e sz v n xs) (ao:Option Addr) (m c:Nat) (rows:List (List Value)) (hr:RdC sz w (.slice ao m c) rows) (hs:∀ r∈rows,r.length = sz) (hone:∀ r∈rows,∀ u∈r,u.oneCell' = true)
  (hl:(n + m) * bytes≤140737488355328) (hl2:n + m≤1000000000000) (hb:base≤w.heap.size) (he:a.eval s = v) (hx:a.eval x = .slice ao m c)
  (hK:∀ ao' cap' w1,Hid (w1.ownsRow base e sz (.slice ao' (n + m) cap') (n + m) (xs++rows.flatten))→Hid (w.grownBy w1 v.ownBlock)→Hid ((Value.slice ao' (n + m) cap').ownBlock = v.ownBlock∨(Value.slice ao' (n + m) cap').ownBlock = some w.heap.size) →
   wpList Tryz.prog ops Q rest (a.put o.dst (.slice ao' (n + m) cap')) w1) :
  wpList Tryz.prog ops Q (o :: rest) a w:=by
 obtain ⟨ao',cap',w1,hrun,h2,h3,h4⟩:=appendC w base T e z sz bytes hu hinf hzs hs0 v n xs h ao m c rows hr hs hone hl hl2 hb
 refine wpList_plain hgd fun K hK'=>?_
 unfold Oper.wp execOp
 simp only [ho,hty,resolve,invoke,builtin,Sem.run_bind,Sem.run_pure,Result.andThen_ok,List.map_toArray,List.map_cons,List.map_nil,he,hx,hrun]
 exact hK' _ _ (hK ao' cap' w1 h2 h3 h4)
end
section
open Go.RowKit Go.BigFrame
def rowB (t:Nat × Value × List En):List Value:=[.int .u64 (t.1:Int),t.2.1]
theorem xa4b (ts:List (Nat × Value × List En)):(ts.map rowB).flatten = cellsB ts:=by
 unfold cellsB
 rw [List.flatMap_def]
 rfl
theorem xa9i (ts:List (Nat × Value × List En)):∀ r∈ts.map rowB,r.length = 2:=by
 intro r hr
 obtain ⟨a,_,rfl⟩:=List.mem_map.1 hr
 rfl
theorem RdN.oneV {w:World} {v:Value} {es:List En} (h:RdN w v es):v.oneCell' = true:=by
 obtain ⟨a,n,c,_,_,rfl,_⟩:=h
 rfl
theorem OwnB.rdC {w0 w:World} {v:Value} {ts:List (Nat × Value × List En)} (h:OwnB w0 w v ts):RdC 2 w v (ts.map rowB) :=
 xc0y (e:=129) (base:=w0.heap.size) (by rw [xa4b,List.length_map]; exact h.own) (xa9i ts)
theorem OwnB.rdN {w0 w:World} {v:Value} {ts:List (Nat × Value × List En)} (h:OwnB w0 w v ts):∀ t∈ts,RdN w t.2.1 t.2.2:=by
 intro t ht
 obtain ⟨B,C,_,_,_,h5⟩:=h.rd t ht
 exact h5 [] w (Kept.refl _ _) (by simp)
theorem OwnB.oneC {w0 w:World} {v:Value} {ts:List (Nat × Value × List En)} (h:OwnB w0 w v ts):∀ r∈ts.map rowB,∀ u∈r,u.oneCell' = true:=by
 intro r hr u hu
 obtain ⟨a,ha,rfl⟩:=List.mem_map.1 hr
 simp only [rowB,List.mem_cons,List.not_mem_nil,or_false] at hu
 rcases hu with rfl | rfl
 ·rfl
 ·exact (h.rdN a ha).oneV
theorem xb4t (ts ss:List (Nat × Value × List En)):cellsB (ts++ss) = cellsB ts++cellsB ss:=by simp [cellsB]
theorem OwnB.stay {w0 w w':World} {M:List Nat} {v:Value} {ts:List (Nat × Value × List En)} (h:OwnB w0 w v ts) (k:Kept M w w') (hM:∀ x∈M,x < w0.heap.size∨w.heap.size≤x):OwnB w0 w' v ts:=by
 have k2:Kept (M.filter (· < w0.heap.size)) w w':=⟨k.os,k.tape,k.output,k.size,fun j hj hn=>k.block j hj (fun hm=>hn (by
  rw [List.mem_filter]
  refine ⟨hm,?_⟩
  rcases hM j hm with h1 | h1
  ·simpa using h1
  ·omega))⟩
 exact h.pass k2 (fun x hx=>by rw [List.mem_filter] at hx; simpa using hx.2)
end
section
open Go.RowKit Go.BigFrame Go.Maps Go.Sort
structure OwnX (X:List Nat) (w0 w:World) (v:Value) (ts:List (Nat × Value × List En)):Prop where
 own:w.ownsRow w0.heap.size 129 2 v ts.length (cellsB ts)
 rd:∀ t∈ts,∃ B C,C≤w.heap.size∧w0.heap.size≤B∧(∀ b,v.ownBlock = some b→b < B∨C≤b)∧(∀ b∈X,b < B∨C≤b)∧∀ M w',Kept M w w'→(∀ x∈M,x < B∨C≤x)→RdN w' t.2.1 t.2.2
 sz:w0.heap.size≤w.heap.size
 ap:∀ b,v.ownBlock = some b→b∉X
theorem OwnX.toB {X:List Nat} {w0 w:World} {v:Value} {ts:List (Nat × Value × List En)} (h:OwnX X w0 w v ts):OwnB w0 w v ts :=
 ⟨h.own,fun t ht=>by obtain ⟨B,C,h1,h2,h3,h4,h5⟩:=h.rd t ht; exact ⟨B,C,h1,h2,h3,h5⟩,h.sz⟩
theorem OwnX.start (w:World):OwnX [] w w (.slice none 0 0) []:=⟨World.ownsRow_nil _ _ _ _,by simp,Nat.le_refl _,by simp⟩
theorem OwnX.pass {X:List Nat} {w0 w w':World} {M:List Nat} {v:Value} {ts:List (Nat × Value × List En)} (h:OwnX X w0 w v ts) (k:Kept M w w') (hM:∀ x∈M,x < w0.heap.size∨x∈X):OwnX X w0 w' v ts:=by
 refine ⟨k.owns h.own (fun b hb hm=>?_),fun t ht=>?_,Nat.le_trans h.sz k.size,h.ap⟩
 ·rcases hM b hm with h1 | h1
  ·have:=(h.own.lt b hb).1; omega
  ·exact h.ap b hb h1
 ·obtain ⟨B,C,h1,h2,h3,h4,h5⟩:=h.rd t ht
  refine ⟨B,C,Nat.le_trans h1 k.size,h2,h3,h4,fun N w2 kN hN=>h5 (M++N) w2 ((k.mono (M:=M++N) (fun x hx=>by simp [hx])).trans kN (fun x hx=>Or.inl (by simp [hx]))) (fun x hx=>?_)⟩
  rcases List.mem_append.1 hx with hx | hx
  ·rcases hM x hx with h6 | h6
   ·omega
   ·exact h4 x h6
  ·exact hN x hx
theorem OwnX.turn {X Y:List Nat} {w0 w:World} {v:Value} {ts:List (Nat × Value × List En)} (h:OwnX X w0 w v ts) {n:Nat} (hY:∀ b∈Y,b∈X∨n≤b) {wo:World} (hn:wo.heap.size = n) (ho:OwnX X w0 wo v ts) (k:Kept X wo w):OwnX Y w0 w v ts:=by
 refine ⟨h.own,fun t ht=>?_,h.sz,fun b hb hm=>?_⟩
 ·obtain ⟨B,C,h1,h2,h3,h4,h5⟩:=ho.rd t ht
  refine ⟨B,C,Nat.le_trans h1 k.size,h2,h3,fun b hb=>?_,fun N w2 kN hN=>h5 (X++N) w2 ((k.mono (M:=X++N) (fun x hx=>by simp [hx])).trans kN (fun x hx=>Or.inl (by simp [hx]))) (fun x hx=>?_)⟩
  ·rcases hY b hb with h6 | h6
   ·exact h4 b h6
   ·omega
  ·rcases List.mem_append.1 hx with hx | hx
   ·exact h4 x hx
   ·exact hN x hx
 ·rcases hY b hm with h6 | h6
  ·exact h.ap b hb h6
  ·have:=(ho.own.lt b hb).2; omega
theorem OwnX.cat {X M:List Nat} {w0 w1 wr w W:World} {v v2 v':Value} {ts ss:List (Nat × Value × List En)} (h:OwnX X w0 w v ts) (h2:OwnB w1 wr v2 ss) (k:Kept M wr w) (hM:∀ x∈M,x < w1.heap.size∨wr.heap.size≤x) (h01:w0.heap.size≤w1.heap.size) (hv:∀ b,v.ownBlock = some b→b < w1.heap.size) (hX:∀ b∈X,b < w1.heap.size∨wr.heap.size≤b) (hXl:∀ b∈X,b < w.heap.size)
  (o:W.ownsRow w0.heap.size 129 2 v' (ts.length + ss.length) (cellsB ts++cellsB ss)) (gr:w.grownBy W v.ownBlock) (hg:v'.ownBlock = v.ownBlock∨v'.ownBlock = some w.heap.size) :
  OwnX X w0 W v' (ts++ss):=by
 have kW:Kept v.ownBlock.toList w W:=((Kept.refl _ w)).grown gr (by intro k hk; left; simp [hk])
 refine ⟨by rw [xb4t,List.length_append]; exact o,fun t ht=>?_,Nat.le_trans h.sz kW.size,fun b hb hm=>?_⟩
 ·rcases List.mem_append.1 ht with ht | ht
  ·obtain ⟨B1,C,h1,h2,h3,h4,h5⟩:=h.rd t ht
   refine ⟨B1,C,Nat.le_trans h1 kW.size,h2,fun b hb=>?_,h4,fun N w2 kN hN=>h5 (v.ownBlock.toList++N) w2 ((kW.mono (M:=v.ownBlock.toList++N) (fun x hx=>List.mem_append_left _ hx)).trans kN (fun x hx=>Or.inl (by simp [hx]))) (fun x hx=>?_)⟩
   ·rcases hg with hg | hg
    ·rw [hg] at hb; exact h3 _ hb
    ·rw [hg] at hb; simp only [Option.some.injEq] at hb; omega
   ·rcases List.mem_append.1 hx with hx | hx
    ·exact h3 x (by simpa using hx)
    ·exact hN x hx
  ·obtain ⟨B1,C,h1,h5,h3,h4⟩:=h2.rd t ht
   refine ⟨B1,C,Nat.le_trans h1 (Nat.le_trans k.size kW.size),Nat.le_trans h01 h5,fun b hb=>?_,fun b hb=>?_,fun N w2 kN hN=>h4 ((M++v.ownBlock.toList)++N) w2 (((k.mono (M:=(M++v.ownBlock.toList)++N) (fun x hx=>by simp [hx])).trans (kW.mono (M:=(M++v.ownBlock.toList)++N) (fun x hx=>by simp at hx; simp [hx])) (fun x hx=>Or.inl hx)).trans kN (fun x hx=>Or.inl (by simp [hx]))) (fun x hx=>?_)⟩
   ·have hks:=k.size
    rcases hg with hg | hg
    ·rw [hg] at hb; have:=hv _ hb; exact Or.inl (by omega)
    ·rw [hg] at hb; simp only [Option.some.injEq] at hb; omega
   ·rcases hX b hb with h6 | h6
    ·exact Or.inl (by omega)
    ·exact Or.inr (by omega)
   ·rcases List.mem_append.1 hx with hx | hx
    ·rcases List.mem_append.1 hx with hx | hx
     ·rcases hM x hx with h6 | h6
      ·exact Or.inl (by omega)
      ·exact Or.inr (by omega)
     ·have:=hv x (by simpa using hx); exact Or.inl (by omega)
    ·exact hN x hx
 ·rcases hg with hg | hg
  ·rw [hg] at hb; exact h.ap b hb hm
  ·rw [hg] at hb; simp only [Option.some.injEq] at hb; have:=hXl b hm; omega
def fdC (f:FSt) (sv bv:Value):Array Value:=#[.int .u64 (f.last:Int),.int .u64 (f.ep:Int),.int .u64 (f.sz:Int),sv,bv]
theorem xa1j {w:World} {g:Nat} {f:FSt} {sv bv:Value} {ty:TypeId} (h:w.heap[g]? = some (.cells (fdC f sv bv) ty (0,0))):w.cell? ⟨g,0,none⟩ = some (.int .u64 (f.last:Int))∧w.cell? ⟨g,1,none⟩ = some (.int .u64 (f.ep:Int))∧w.cell? ⟨g,2,none⟩ = some (.int .u64 (f.sz:Int))∧w.cell? ⟨g,3,none⟩ = some sv∧w.cell? ⟨g,4,none⟩ = some bv:=by
 refine ⟨?_,?_,?_,?_,?_⟩ <;> rw [cell_of_row _ _ _ _ _ _ h] <;> rfl
theorem ffroz {w:World} {b:Nat} {cs:Array Value} {t:TypeId} (h:w.heap[b]? = some (.cells cs t (0,0))):w.frozen? ⟨b,0,none⟩ = false∧w.frozen? ⟨b,1,none⟩ = false∧w.frozen? ⟨b,2,none⟩ = false∧w.frozen? ⟨b,3,none⟩ = false∧w.frozen? ⟨b,4,none⟩ = false :=
 ⟨frozen_of_row _ _ _ _ _ h,frozen_of_row _ _ _ _ _ h,frozen_of_row _ _ _ _ _ h,frozen_of_row _ _ _ _ _ h,frozen_of_row _ _ _ _ _ h⟩
structure FK (w0 w:World) (g:Nat) (f:FSt) (sv bv:Value) (ts:List (Nat × Value × List En)):Prop where
 row:w.heap[g]? = some (.cells (fdC f sv bv) 110 (0,0))
 gl:g < w0.heap.size
 sg:w.ownsRow w0.heap.size 9 1 sv f.sg.length (f.sg.map encStr)
 bs:OwnX sv.ownBlock.toList w0 w bv ts
 eq:f.bs = ts.map fun t=>(t.1,t.2.2)
 last:f.last < 18446744073709551616
 ep:f.ep < 18446744073709551616
 szb:f.sz < 18446744073709551616
theorem FK.pass {w0 w w':World} {g:Nat} {f:FSt} {sv bv:Value} {ts:List (Nat × Value × List En)} (h:FK w0 w g f sv bv ts) (k:Kept [] w w'):FK w0 w' g f sv bv ts :=
 { h with row:=k.heap h.row (by simp),sg:=k.owns h.sg (by simp),bs:=h.bs.pass k (by simp) }
set_option maxHeartbeats 2000000 in
theorem xb7z (g a b c:Nat) (z:Int) (f:FSt) (sv bv:Value) (w:World) (hr:w.heap[g]? = some (.cells (fdC f sv bv) 110 (0,0))) (p:List Nat) (hc:(hdC p).c = c) (hb:(hdC p).b = b) :
  Calls Tryz.prog 84 #[.pointer (some ⟨g,0,none⟩),.agg #[.int .u64 (a:Int),.int .u64 (b:Int),.int .u64 (c:Int),.int .i64 z]] w fun e w'=>e = .returned (.bool (goOnF f p))∧Kept [] w w':=by
 have hk:=(Kept.refl [] w).alloc (.cells #[.int .u64 (a:Int),.int .u64 (b:Int),.int .u64 (c:Int),.int .i64 z] 81)
 have hh:=heap_alloc_new w (.cells #[.int .u64 (a:Int),.int .u64 (b:Int),.int .u64 (c:Int),.int .i64 z] 81)
 obtain ⟨c0,c1,c2,c3,c4⟩:=xa1j (hk.heap hr (by simp))
 obtain ⟨q0,q1,q2,q3⟩:=hcells hh
 have HK:=hide hk
 unfold goOnF
 rw [hc,hb]
 clear hk hh hr hc hb c0 c3 c4 q0 q3
 by_cases h1:c = f.sz
 ·rw [decide_eq_true h1,Bool.true_and]
  subst h1
  by_cases h2:f.ep≤b
  ·have g2:(f.ep:Int)≤(b:Int):=by omega
   rw [decide_eq_true h2,Bool.true_and]
   by_cases h3:b < 18446744073709551615
   ·have g3:(b:Int) < 18446744073709551615:=by omega
    rw [decide_eq_true h3]
    go_enter Tryz.func84,Tryz.ntmps84
    go_upto_region 1 with fail
    refine wp_region_quiet_lit (by kernel_rfl) (by kernel_rfl) ?_
    repeat (go_big_quiet_step (fail))
    refine wpQuiet_nil ?_
    rintro _ ⟨m5,rfl⟩
    go_wp2_with fail
    go_ret
    exact ⟨rfl,(uh HK).drewN m5⟩
   ·have g3:¬ (b:Int) < 18446744073709551615:=by omega
    rw [decide_eq_false h3]
    go_enter Tryz.func84,Tryz.ntmps84
    go_upto_region 1 with fail
    refine wp_region_quiet_lit (by kernel_rfl) (by kernel_rfl) ?_
    repeat (go_big_quiet_step (fail))
    refine wpQuiet_nil ?_
    rintro _ ⟨m5,rfl⟩
    go_wp2_with fail
    go_ret
    exact ⟨rfl,(uh HK).drewN m5⟩
  ·have g2:¬ (f.ep:Int)≤(b:Int):=by omega
   rw [decide_eq_false h2,Bool.false_and]
   go_enter Tryz.func84,Tryz.ntmps84
   go_upto_region 1 with fail
   refine wp_region_quiet_lit (by kernel_rfl) (by kernel_rfl) ?_
   repeat (go_big_quiet_step (fail))
   refine wpQuiet_nil ?_
   rintro _ ⟨m5,rfl⟩
   go_wp2_with fail
   go_ret
   exact ⟨rfl,(uh HK).drewN m5⟩
 ·have g1:((c:Int) == (f.sz:Int)) = false:=by simp; omega
  rw [decide_eq_false h1,Bool.false_and,Bool.false_and]
  go_enter Tryz.func84,Tryz.ntmps84
  go_upto_region 1 with fail
  refine wp_region_quiet_lit (by kernel_rfl) (by kernel_rfl) ?_
  repeat (go_big_quiet_step (fail))
  refine wpQuiet_nil ?_
  rintro _ ⟨m5,rfl⟩
  go_wp2_with fail
  go_ret
  exact ⟨rfl,(uh HK).drewN m5⟩
def RdS (w:World) (v:Value) (ss:List (List UInt8)):Prop :=
 ∃ (ao:Option Addr) (len cap:Nat),v = .slice ao len cap∧ss.length = len∧len≤cap∧cap≤9223372036854775807∧(0 < len→∃ b off,ao = some ⟨b,off,none⟩∧∀ i (h:i < ss.length),w.cell? ⟨b,off + i,none⟩ = some (encStr ss[i]))
theorem RdS.kept {L:List Nat} {w w':World} {v:Value} {ss:List (List UInt8)} (h:RdS w v ss) (k:Kept L w w') (hn:∀ x∈blk v,x∉L):RdS w' v ss:=by
 obtain ⟨ao,len,cap,rfl,h1,h2,h3,h4⟩:=h
 refine ⟨ao,len,cap,rfl,h1,h2,h3,fun hp=>?_⟩
 obtain ⟨b,off,rfl,hc⟩:=h4 hp
 exact ⟨b,off,rfl,fun i hi=>k.cell (hc i hi) (hn b (by simp [blk]))⟩
theorem xa3s {w:World} {base:Nat} {v:Value} {ss:List (List UInt8)} (h:w.ownsRow base 9 1 v ss.length (ss.map encStr)):RdS w v ss:=by
 rcases h.2 with ⟨rfl,h0⟩ | ⟨g,cap,cur,rfl,hb,hg,hc,hm,hs,ht⟩
 ·exact ⟨none,0,0,rfl,h0,Nat.le_refl _,by omega,fun h=>by omega⟩
 ·refine ⟨some ⟨g,0,none⟩,ss.length,cap,rfl,rfl,hc,by unfold maxLen at hm; omega,fun hp=>⟨g,0,rfl,fun i hi=>?_⟩⟩
  have h9:=h.cells (g:=g) rfl i (encStr ss[i]) (by rw [List.getElem?_map,List.getElem?_eq_getElem hi]; rfl)
  rw [Addr.add_lit] at h9
  exact h9
end
section
open Go Go.RowKit Go.BigFrame
section
variable {P:Program} {Q:Exit→Act→World→Prop}
theorem wp_c11 {id:Nat} {o0 o1 o2 o3 o4 o5 o6 o7 o8 o9 o10:Oper} {a:Act} {w:World} (hm:P.follows .mixedOrders = true) (hs:Region.noSelect #[o0,o1,o2,o3,o4,o5,o6,o7,o8,o9,o10] = true)
  (f0:Region.free .any #[o0,o1,o2,o3,o4,o5,o6,o7,o8,o9,o10] #[false,false,false,false,false,false,false,false,false,false,false] 0 = true) (r0:(Region.ready .any #[o0,o1,o2,o3,o4,o5,o6,o7,o8,o9,o10] #[false,false,false,false,false,false,false,false,false,false,false]).contains 0 = true) (e0:o10.after.any (fun e=>Region.binds .any e && e.on == 0) = true)
  (f1:Region.free .any #[o0,o1,o2,o3,o4,o5,o6,o7,o8,o9,o10] #[true,false,false,false,false,false,false,false,false,false,false] 1 = true) (r1:(Region.ready .any #[o0,o1,o2,o3,o4,o5,o6,o7,o8,o9,o10] #[true,false,false,false,false,false,false,false,false,false,false]).contains 1 = true) (e1:o10.after.any (fun e=>Region.binds .any e && e.on == 1) = true)
  (f2:Region.free .any #[o0,o1,o2,o3,o4,o5,o6,o7,o8,o9,o10] #[true,true,false,false,false,false,false,false,false,false,false] 2 = true) (r2:(Region.ready .any #[o0,o1,o2,o3,o4,o5,o6,o7,o8,o9,o10] #[true,true,false,false,false,false,false,false,false,false,false]).contains 2 = true) (e2:o10.after.any (fun e=>Region.binds .any e && e.on == 2) = true)
  (f3:Region.free .any #[o0,o1,o2,o3,o4,o5,o6,o7,o8,o9,o10] #[true,true,true,false,false,false,false,false,false,false,false] 3 = true) (r3:(Region.ready .any #[o0,o1,o2,o3,o4,o5,o6,o7,o8,o9,o10] #[true,true,true,false,false,false,false,false,false,false,false]).contains 3 = true) (e3:o10.after.any (fun e=>Region.binds .any e && e.on == 3) = true)
  (f4:Region.free .any #[o0,o1,o2,o3,o4,o5,o6,o7,o8,o9,o10] #[true,true,true,true,false,false,false,false,false,false,false] 4 = true) (r4:(Region.ready .any #[o0,o1,o2,o3,o4,o5,o6,o7,o8,o9,o10] #[true,true,true,true,false,false,false,false,false,false,false]).contains 4 = true) (e4:o10.after.any (fun e=>Region.binds .any e && e.on == 4) = true)
  (f5:Region.free .any #[o0,o1,o2,o3,o4,o5,o6,o7,o8,o9,o10] #[true,true,true,true,true,false,false,false,false,false,false] 5 = true) (r5:(Region.ready .any #[o0,o1,o2,o3,o4,o5,o6,o7,o8,o9,o10] #[true,true,true,true,true,false,false,false,false,false,false]).contains 5 = true) (e5:o10.after.any (fun e=>Region.binds .any e && e.on == 5) = true)
  (f6:Region.free .any #[o0,o1,o2,o3,o4,o5,o6,o7,o8,o9,o10] #[true,true,true,true,true,true,false,false,false,false,false] 6 = true) (r6:(Region.ready .any #[o0,o1,o2,o3,o4,o5,o6,o7,o8,o9,o10] #[true,true,true,true,true,true,false,false,false,false,false]).contains 6 = true) (e6:o10.after.any (fun e=>Region.binds .any e && e.on == 6) = true)
  (q7:Region.ready .any #[o0,o1,o2,o3,o4,o5,o6,o7,o8,o9,o10] #[true,true,true,true,true,true,true,false,false,false,false] = [7]) (g7:o7.guard = none)
  (q8:Region.ready .any #[o0,o1,o2,o3,o4,o5,o6,o7,o8,o9,o10] #[true,true,true,true,true,true,true,true,false,false,false] = [8]) (g8:o8.guard = none)
  (q9:Region.ready .any #[o0,o1,o2,o3,o4,o5,o6,o7,o8,o9,o10] #[true,true,true,true,true,true,true,true,true,false,false] = [9]) (g9:o9.guard = none)
  (q10:Region.ready .any #[o0,o1,o2,o3,o4,o5,o6,o7,o8,o9,o10] #[true,true,true,true,true,true,true,true,true,true,false] = [10]) (g10:o10.guard = none)
  (rr:Region.ready .any #[o0,o1,o2,o3,o4,o5,o6,o7,o8,o9,o10] #[true,true,true,true,true,true,true,true,true,true,true] = [])
  (v0 v1 v2 v3 v4 v5 v6:Value) (A0 A1 A2 A3 A4 A5 A6:Act) (T:World→Prop)
  (I0:World→Prop)
  (I1:Value→World→Prop)
  (I2:Value→Value→World→Prop)
  (I3:Value→Value→Value→World→Prop)
  (IE:Value→Value→Value→World→Prop)
  (p0:a.put o0.dst v0 = A0) (hy0:YieldsIf P #[o0,o1,o2,o3,o4,o5,o6,o7,o8,o9,o10] T o0 v0 a)
  (p1:A0.put o1.dst v1 = A1) (hy1:YieldsIf P #[o0,o1,o2,o3,o4,o5,o6,o7,o8,o9,o10] T o1 v1 A0)
  (p2:A1.put o2.dst v2 = A2) (hy2:YieldsIf P #[o0,o1,o2,o3,o4,o5,o6,o7,o8,o9,o10] T o2 v2 A1)
  (p3:A2.put o3.dst v3 = A3) (hy3:YieldsIf P #[o0,o1,o2,o3,o4,o5,o6,o7,o8,o9,o10] T o3 v3 A2)
  (p4:A3.put o4.dst v4 = A4) (hy4:YieldsIf P #[o0,o1,o2,o3,o4,o5,o6,o7,o8,o9,o10] T o4 v4 A3)
  (p5:A4.put o5.dst v5 = A5) (hy5:YieldsIf P #[o0,o1,o2,o3,o4,o5,o6,o7,o8,o9,o10] T o5 v5 A4)
  (p6:A5.put o6.dst v6 = A6) (hy6:YieldsIf P #[o0,o1,o2,o3,o4,o5,o6,o7,o8,o9,o10] T o6 v6 A5)
  (i0:I0 w.drew)
  (hIT:(∀ w',I0  w'→T w')∧(∀ (u0:Value) w',I1 u0 w'→T w')∧(∀ (u0 u1:Value) w',I2 u0 u1 w'→T w')∧(∀ (u0 u1 u2:Value) w',I3 u0 u1 u2 w'→T w'))
  (s0:∀ w',I0  w'→∀ K:Act→World→Prop,(∀ (u0:Value) w2,I1 u0 w2→K (A6.put o7.dst u0) w2)→o7.wp P A6 w' K (NoPanic Q))
  (s1:∀ (u0:Value) w',I1 u0 w'→∀ K:Act→World→Prop,(∀ (u1:Value) w2,I2 u0 u1 w2→K ((A6.put o7.dst u0).put o8.dst u1) w2)→o8.wp P (A6.put o7.dst u0) w' K (NoPanic Q))
  (s2:∀ (u0 u1:Value) w',I2 u0 u1 w'→∀ K:Act→World→Prop,(∀ (u2:Value) w2,I3 u0 u1 u2 w2→K (((A6.put o7.dst u0).put o8.dst u1).put o9.dst u2) w2)→o9.wp P ((A6.put o7.dst u0).put o8.dst u1) w' K (NoPanic Q))
  (se:∀ (u0 u1 u2:Value) w',I3 u0 u1 u2 w'→∀ K:Act→World→Prop,(∀ w2,IE u0 u1 u2 w2→K (((A6.put o7.dst u0).put o8.dst u1).put o9.dst u2) w2)→o10.wp P (((A6.put o7.dst u0).put o8.dst u1).put o9.dst u2) w' K (NoPanic Q))
  (h:∀ (u0 u1 u2:Value) w',IE u0 u1 u2 w'→Q .normal (((A6.put o7.dst u0).put o8.dst u1).put o9.dst u2) w') :
  (Code.region id #[o0,o1,o2,o3,o4,o5,o6,o7,o8,o9,o10] true).wp P Q a w:=by
 subst p0 p1 p2 p3 p4 p5 p6
 obtain ⟨z0,z1,z2,z3⟩:=hIT
 refine wp_region_noPanic ?_
 refine wp_region_any hm ?_
 refine AnyL.any (S:=fun d w'=>d.getD 10 true = false→T w') _ _ _ _ ?_
 show AnyL P .any #[o0,o1,o2,o3,o4,o5,o6,o7,o8,o9,o10] (NoPanic Q) _ 11 #[false,false,false,false,false,false,false,false,false,false,false] a w.drew
 have hSi:∀ i,i≠10→∀ (d:Array Bool) (w':World),((d.setIfInBounds i true).getD 10 true = false→T w')↔(d.getD 10 true = false→T w'):=by
  intro i h4 d w'
  rw [getD_set_ne true h4]
 refine AnyL.take (i:=0) (t:=10) (oi:=o0) (ot:=o10) (T:=T) rfl rfl (by decide) hs f0 r0 e0 (fun _ _ _ h=>h) (fun d w' h9 hd=>h9 hd) (hSi 0 (by decide)) hy0 rfl (fun _=>z0 _ i0) ?_
 refine AnyL.take (i:=1) (t:=10) (oi:=o1) (ot:=o10) (T:=T) rfl rfl (by decide) hs f1 r1 e1 (fun _ _ _ h=>h) (fun d w' h9 hd=>h9 hd) (hSi 1 (by decide)) hy1 rfl (fun _=>z0 _ i0) ?_
 refine AnyL.take (i:=2) (t:=10) (oi:=o2) (ot:=o10) (T:=T) rfl rfl (by decide) hs f2 r2 e2 (fun _ _ _ h=>h) (fun d w' h9 hd=>h9 hd) (hSi 2 (by decide)) hy2 rfl (fun _=>z0 _ i0) ?_
 refine AnyL.take (i:=3) (t:=10) (oi:=o3) (ot:=o10) (T:=T) rfl rfl (by decide) hs f3 r3 e3 (fun _ _ _ h=>h) (fun d w' h9 hd=>h9 hd) (hSi 3 (by decide)) hy3 rfl (fun _=>z0 _ i0) ?_
 refine AnyL.take (i:=4) (t:=10) (oi:=o4) (ot:=o10) (T:=T) rfl rfl (by decide) hs f4 r4 e4 (fun _ _ _ h=>h) (fun d w' h9 hd=>h9 hd) (hSi 4 (by decide)) hy4 rfl (fun _=>z0 _ i0) ?_
 refine AnyL.take (i:=5) (t:=10) (oi:=o5) (ot:=o10) (T:=T) rfl rfl (by decide) hs f5 r5 e5 (fun _ _ _ h=>h) (fun d w' h9 hd=>h9 hd) (hSi 5 (by decide)) hy5 rfl (fun _=>z0 _ i0) ?_
 refine AnyL.take (i:=6) (t:=10) (oi:=o6) (ot:=o10) (T:=T) rfl rfl (by decide) hs f6 r6 e6 (fun _ _ _ h=>h) (fun d w' h9 hd=>h9 hd) (hSi 6 (by decide)) hy6 rfl (fun _=>z0 _ i0) ?_
 refine AnyL.forced q7 rfl g7 (fun K hK=>s0  w.drew i0 K (fun u0 w1 i1=>hK _ _ (fun _=>z1 u0 w1 i1) ?_))
 refine AnyL.forced q8 rfl g8 (fun K hK=>s1 u0 w1 i1 K (fun u1 w2 i2=>hK _ _ (fun _=>z2 u0 u1 w2 i2) ?_))
 refine AnyL.forced q9 rfl g9 (fun K hK=>s2 u0 u1 w2 i2 K (fun u2 w3 i3=>hK _ _ (fun _=>z3 u0 u1 u2 w3 i3) ?_))
 refine AnyL.forced q10 rfl g10 (fun K hK=>se u0 u1 u2 w3 i3 K (fun we ie=>hK _ _ (fun h9=>(by cases h9)) ?_))
 exact ⟨rr,NoPanic.normal (h u0 u1 u2 we ie)⟩
end
end
section
open Go.RowKit Go.BigFrame Go.Maps Go.Sort
theorem Tryz.infoStr:(Tryz.prog.info? 9).map (fun i=>(i.zero,i.size,i.bytes)) = some (some (.string ⟨#[]⟩),1,16):=by kernel_rfl
theorem xb8n {w:World} {H:Nat} {x:Value} {t:TypeId} (h:w.heap[H]? = some (.cells #[x] t (0,0))):RdC 1 w (.slice (some ⟨H,0,none⟩) 1 1) [[x]]:=by
 refine ⟨_,_,_,rfl,rfl,Nat.le_refl _,by omega,fun _=>⟨H,0,rfl,fun i hi j u hu=>?_⟩⟩
 have hi0:i = 0:=by simp at hi; omega
 subst hi0
 simp only [List.getElem_cons_zero] at hu
 match j with
 | 0 =>
  simp only [List.getElem?_cons_zero,Option.some.injEq] at hu
  subst hu
  have h9:=cell_of_row _ _ 0 _ _ _ h
  simpa using h9
 | j + 1=>simp at hu
theorem xa4t (s:List UInt8):encStr s = .string (strU s):=rfl
theorem OwnX.shape {X:List Nat} {w0 w:World} {v:Value} {ts:List (Nat × Value × List En)} (h:OwnX X w0 w v ts):∃ a c,v = .slice a ts.length c:=xa0t h.own
theorem FK.turn {w0 w w':World} {g:Nat} {f f':FSt} {sv bv:Value} {ts:List (Nat × Value × List En)} (h:FK w0 w g f sv bv ts) (k:Kept [g] w w') (hr:w'.heap[g]? = some (.cells (fdC f' sv bv) 110 (0,0))) (h1:f'.sg = f.sg) (h2:f'.bs = f.bs) (h3:f'.last < 18446744073709551616) (h4:f'.ep < 18446744073709551616) (h5:f'.sz < 18446744073709551616):FK w0 w' g f' sv bv ts:=by
 have hg:∀ x∈[g],x < w0.heap.size:=fun x hx=>by rw [List.mem_singleton.1 hx]; exact h.gl
 exact ⟨hr,h.gl,by rw [h1]; exact k.owns h.sg (fun b hb hm=>by have:=(h.sg.lt b hb).1; have:=hg b hm; omega),h.bs.pass k (fun x hx=>Or.inl (hg x hx)),by rw [h2]; exact h.eq,h3,h4,h5⟩
theorem xb0y (l:List (Nat × List En)) (i:Nat) (h:i < l.length):cntB (l.take (i + 1)) = cntB (l.take i) + l[i].2.length:=by
 unfold cntB
 rw [List.take_succ_eq_append_getElem h,List.map_append,List.sum_append]
 simp only [List.map_cons,List.map_nil,List.sum_cons,List.sum_nil,Nat.add_zero]
theorem xc3e {o:Oper} {a:Act} {w:World} {K:Act→World→Prop} {Q:Exit→Act→World→Prop} (T:Nat) (s x:Operand)
  (ho:o.op = .call { callee:=.builtin .append,args:=#[s,x],argTypes:=#[T,T] }) (hty:o.type = T) (v y:Value) (he:a.eval s = v) (hx:a.eval x = y) (u:Value) (w2:World) (hrun:(Builtin.append_ #[T,T] T #[v,y]).run Tryz.prog w = .ok u w2) (hK:K (a.put o.dst u) w2):o.wp Tryz.prog a w K Q:=by
 unfold Oper.wp execOp
 simp only [ho,hty,resolve,invoke,builtin,Sem.run_bind,Sem.run_pure,Result.andThen_ok,List.map_toArray,List.map_cons,List.map_nil,he,hx,hrun]
 exact hK
set_option maxHeartbeats 8000000 in
theorem xb9z (g a b c u:Nat) (z:Int) (s:List UInt8) (f:FSt) (sv bv v2:Value) (ts ss:List (Nat × Value × List En)) (w0 w1 wR w:World) (M:List Nat) (h:FK w0 w g f sv bv ts) (hk:Kept [g] w0 w) (h2:OwnB w1 wR v2 ss) (k:Kept M wR w) (hM:∀ x∈M,x < w1.heap.size∨wR.heap.size≤x) (h01:w0.heap.size≤w1.heap.size) (hv:∀ x,bv.ownBlock = some x→x < w1.heap.size) (hX:∀ x,sv.ownBlock = some x→x < w1.heap.size)
  (hb:b < 18446744073709551616) (hl:ts.length + ss.length≤1000000000000) (hl2:f.sg.length≤1000000000) :
  Calls Tryz.prog 85 #[.pointer (some ⟨g,0,none⟩),.string (strU s),.agg #[.int .u64 (a:Int),.int .u64 (b:Int),.int .u64 (c:Int),.int .i64 z,v2,.int .i64 (u:Int)]] w fun e w'=>∃ sv' bv',e = .returned (.tuple #[])∧FK w0 w' g ⟨f.last,b,(f.sz + cntB (ss.map fun t=>(t.1,t.2.2))) % 18446744073709551616,f.sg++[s],f.bs++ss.map fun t=>(t.1,t.2.2)⟩ sv' bv' (ts++ss)∧Kept [g] w0 w':=by
 obtain ⟨a2,c2,rfl⟩:=xa0t h2.own
 obtain ⟨sa,sc,rfl⟩:=xa0t h.sg
 obtain ⟨ba,bc,rfl⟩:=h.bs.shape
 have hgw:g < w.heap.size:=lt_of_block h.row
 have k1:=(Kept.refl [] w).alloc (.cells #[.int .u64 (a:Int),.int .u64 (b:Int),.int .u64 (c:Int),.int .i64 z,.slice a2 ss.length c2,.int .i64 (u:Int)] 83)
 have hq:=heap_alloc_new w (.cells #[.int .u64 (a:Int),.int .u64 (b:Int),.int .u64 (c:Int),.int .i64 z,.slice a2 ss.length c2,.int .i64 (u:Int)] 83)
 have hr1:=k1.heap h.row (by simp)
 obtain ⟨s0,s1,s2,s3,s4,s5⟩:=scells hq
 obtain ⟨d0,d1,d2,d3,d4⟩:=xa1j hr1
 obtain ⟨z0,z1,z2,z3,z4⟩:=ffroz hr1
 have H:=hide h
 have HK:=hide hk
 have H2:=hide h2
 have HKR:=hide k
 have HM:=hide hM
 have HV:=hide hv
 have HX:=hide hX
 have HK1:=hide k1
 have HQ:=hide hq
 have HR1:=hide hr1
 have HGW:=hide hgw
 have HSZ:=hide k.size
 clear h hk h2 k hM hv hX k1 hq hr1 hgw
 go_enter Tryz.func85,Tryz.ntmps85
 go_upto_region 2 with fail
 have hS:=heap_setCell_same _ g 1 _ _ (.int .u64 (b:Int)) (uh HR1)
 have kS:=(Kept.refl [g] (w.alloc (.cells #[.int .u64 (a:Int),.int .u64 (b:Int),.int .u64 (c:Int),.int .i64 z,.slice a2 ss.length c2,.int .i64 (u:Int)] 83))).setCell (p:=⟨g,1,none⟩) (.inl (by simp)) (.int .u64 (b:Int))
 have hS2:((w.alloc (.cells #[.int .u64 (a:Int),.int .u64 (b:Int),.int .u64 (c:Int),.int .i64 z,.slice a2 ss.length c2,.int .i64 (u:Int)] 83)).setCell ⟨g,1,none⟩ (.int .u64 (b:Int))).heap[g]? = some (.cells (fdC ⟨f.last,b,f.sz,f.sg,f.bs⟩ (.slice sa f.sg.length sc) (.slice ba ts.length bc)) 110 (0,0)):=by rw [hS]; rfl
 have HF2:=hide (((uh H).pass (uh HK1)).turn kS hS2 rfl rfl (uh H).last hb (uh H).szb)
 have HQ2:=hide (kS.heap (uh HQ) (by intro hm; have:=List.mem_singleton.1 hm; have:=uh HGW; omega))
 have HK2:=hide (((uh HK1).mono (M:=[g]) (by simp)).trans kS (by simp))
 clear hS hS2 kS s0 s1 s2 s3 s4 s5 d0 d1 d2 d3 d4 z0 z1 z2 z3 z4
 generalize (w.alloc (.cells #[.int .u64 (a:Int),.int .u64 (b:Int),.int .u64 (c:Int),.int .i64 z,.slice a2 ss.length c2,.int .i64 (u:Int)] 83)).setCell ⟨g,1,none⟩ (.int .u64 (b:Int)) = W2 at HF2 HQ2 HK2 ⊢
 obtain ⟨d0,d1,d2,d3,d4⟩:=xa1j (uh HF2).row
 have HK3:=hide ((Kept.refl [] W2).alloc (.cells #[.string (strU s)] 9))
 have HN3:=hide (xb8n (heap_alloc_new W2 (.cells #[.string (strU s)] 9)))
 have HF3:=hide ((uh HF2).pass (uh HK3))
 have HZ3:=hide (by have:=lt_of_block (uh HF2).row; exact (uh HF3).gl:g < w0.heap.size)
 go_upto_region 3 with (at_builtin; refine xa2i rfl 76 9 (.tmp 18) (.tmp 20) rfl rfl _ w0.heap.size (.string ⟨#[]⟩) 1 16 Tryz.underlying76 Tryz.infoStr rfl (by decide) (.slice sa f.sg.length sc) f.sg.length (f.sg.map encStr) (uh HF3).sg (some ⟨W2.heap.size,0,none⟩) 1 1 [[.string (strU s)]] (uh HN3) (by simp) (by simp [Value.oneCell']) (by omega) (by omega) (uh HF3).bs.sz rfl rfl ?_; intro a5 cap5 w5 HO5 HGR5 HA5; (have HKA:=hide ((Kept.refl ((Value.slice sa f.sg.length sc).ownBlock.toList) _).grown (uh HGR5) (by intro k hk; left; simp [hk]))); (have HR5:=hide ((uh HKA).heap (uh HF3).row (by intro hm; have h9:=((uh HF3).sg.lt g (by simpa using hm)).1; have:=uh HZ3; omega))); (obtain ⟨e0,e1,e2,e3,e4⟩:=xa1j (uh HR5)); (obtain ⟨z0,z1,z2,z3,z4⟩:=ffroz (uh HR5)))
 have hS:=heap_setCell_same _ g 3 _ _ (.slice a5 (f.sg.length + 1) cap5) (uh HR5)
 have kS:=(Kept.refl [g] w5).setCell (p:=⟨g,3,none⟩) (.inl (by simp)) (.slice a5 (f.sg.length + 1) cap5)
 have hS2:(w5.setCell ⟨g,3,none⟩ (.slice a5 (f.sg.length + 1) cap5)).heap[g]? = some (.cells (fdC ⟨f.last,b,f.sz,f.sg++[s],f.bs⟩ (.slice a5 (f.sg.length + 1) cap5) (.slice ba ts.length bc)) 110 (0,0)):=by rw [hS]; rfl
 have hoX:=(uh HF3).bs.pass (uh HKA) (fun x hx=>Or.inr hx)
 have hoY:OwnX (Value.slice a5 (f.sg.length + 1) cap5).ownBlock.toList w0 w5 (.slice ba ts.length bc) ts:=hoX.turn (n:=(W2.alloc (.cells #[.string (strU s)] 9)).heap.size) (fun x hx=>by
  rcases uh HA5 with h9 | h9
  ·rw [h9] at hx; exact Or.inl hx
  ·rw [h9] at hx; simp only [Option.toList_some,List.mem_singleton] at hx; exact Or.inr (by omega)) rfl (uh HF3).bs (uh HKA)
 have hgl:=(uh HF3).gl
 have HF6:=hide (⟨hS2,hgl,by
   have h9:=uh HO5
   rw [List.length_append,List.map_append]
   refine kS.owns h9 (fun x hx hm=>?_)
   have:=(h9.lt x hx).1
   have:=List.mem_singleton.1 hm
   omega,hoY.pass kS (fun x hx=>Or.inl (by rw [List.mem_singleton.1 hx]; exact hgl)),(uh H).eq,(uh H).last,hb,(uh H).szb⟩:FK w0 (w5.setCell ⟨g,3,none⟩ (.slice a5 (f.sg.length + 1) cap5)) g ⟨f.last,b,f.sz,f.sg++[s],f.bs⟩ (.slice a5 (f.sg.length + 1) cap5) (.slice ba ts.length bc) ts)
 have HX6:=hide (fun x hx=>by
   rcases uh HA5 with h9 | h9
   ·rw [h9] at hx; exact Or.inl (uh HX x hx)
   ·rw [h9] at hx
    have h8:=(uh HK2).size
    have h7:=(uh HKR).size
    simp only [Option.some.injEq] at hx
    have h6:(W2.alloc (.cells #[.string (strU s)] 9)).heap.size = W2.heap.size + 1:=by simp
    exact Or.inr (by omega):∀ x,(Value.slice a5 (f.sg.length + 1) cap5).ownBlock = some x→x < w1.heap.size∨wR.heap.size≤x)
 have kA5:Kept (Value.slice sa f.sg.length sc).ownBlock.toList W2 w5:=((uh HK3).mono (by simp)).trans (uh HKA) (fun x hx=>Or.inl hx)
 have HQ6:=hide (kS.heap (kA5.heap (uh HQ2) (by
   intro hm
   have h9:=((uh HF2).sg.lt w.heap.size (by simpa using hm)).2
   have h8:=uh HX w.heap.size (by simpa using hm)
   have h7:=(uh HKR).size
   have h6:=(uh H2).sz
   omega)) (by intro hm; have:=List.mem_singleton.1 hm; have:=uh HGW; omega))
 have HK6:=hide (by
   have h9:Kept (g :: (Value.slice sa f.sg.length sc).ownBlock.toList) w (w5.setCell ⟨g,3,none⟩ (.slice a5 (f.sg.length + 1) cap5)):=(((uh HK2).mono (M:=g :: (Value.slice sa f.sg.length sc).ownBlock.toList) (by simp)).trans kA5 (fun x hx=>Or.inl (by simp [hx]))).trans kS (fun x hx=>Or.inl (by simp at hx; simp [hx]))
   exact h9)
 have HKW6:=hide ((uh HK).trans (uh HK6) (fun x hx=>by
   rcases List.mem_cons.1 hx with rfl | hx
   ·exact Or.inl (by simp)
   ·exact Or.inr ((uh HF2).sg.lt x (by simpa using hx)).1):Kept [g] w0 (w5.setCell ⟨g,3,none⟩ (.slice a5 (f.sg.length + 1) cap5)))
 have HR6:=hide ((uh HKR).mono (M:=M++(g :: (Value.slice sa f.sg.length sc).ownBlock.toList)) (fun x hx=>by simp [hx]) |>.trans (uh HK6) (fun x hx=>Or.inl (by simp at hx; simp [hx])))
 have HM6:=hide (fun x hx=>by
   rcases List.mem_append.1 hx with hx | hx
   ·exact uh HM x hx
   ·rcases List.mem_cons.1 hx with rfl | hx
    ·exact Or.inl (by omega)
    ·exact Or.inl (uh HX x (by simpa using hx)):∀ x∈M++(g :: (Value.slice sa f.sg.length sc).ownBlock.toList),x < w1.heap.size∨wR.heap.size≤x)
 clear hS hS2 kS hoX hoY kA5 d0 d1 d2 d3 d4 e0 e1 e2 e3 e4 z0 z1 z2 z3 z4 HF2 HF3 HO5 HGR5 HKA HR5 HK3 HN3 HQ2 HK2 HA5 HKR HM HX HK HQ HR1 HK1
 generalize (M++(g :: (Value.slice sa f.sg.length sc).ownBlock.toList)) = M6 at HR6 HM6
 generalize w5.setCell ⟨g,3,none⟩ (.slice a5 (f.sg.length + 1) cap5) = W6 at HF6 HQ6 HK6 HKW6 HR6 ⊢
 obtain ⟨d0,d1,d2,d3,d4⟩:=xa1j (uh HF6).row
 obtain ⟨s0,s1,s2,s3,s4,s5⟩:=scells (uh HQ6)
 have HQL:=hide (by intro x hx; have h9:=uh HV x hx; have h8:=(uh H2).sz; have h7:=uh HSZ; omega:∀ x,(Value.slice ba ts.length bc).ownBlock = some x→x≠w.heap.size)
 have HGB:=hide (by intro hm; have h9:=((uh HF6).bs.own.lt g (by simpa using hm)).1; have:=(uh HF6).gl; omega:g∉(Value.slice ba ts.length bc).ownBlock.toList)
 refine wp_c11 (by kernel_rfl) (by kernel_rfl) (by kernel_rfl) (by kernel_rfl) (by kernel_rfl) (by kernel_rfl) (by kernel_rfl) (by kernel_rfl) (by kernel_rfl) (by kernel_rfl) (by kernel_rfl) (by kernel_rfl) (by kernel_rfl) (by kernel_rfl) (by kernel_rfl) (by kernel_rfl) (by kernel_rfl) (by kernel_rfl) (by kernel_rfl) (by kernel_rfl) (by kernel_rfl) (by kernel_rfl) (by kernel_rfl) (by kernel_rfl) rfl (by kernel_rfl) rfl (by kernel_rfl) rfl (by kernel_rfl) rfl (by kernel_rfl)
  (.pointer (some ⟨g,0,none⟩)) (.pointer (some ⟨g,0,none⟩)) (.pointer (some ⟨g,0,none⟩)) (.pointer (some ⟨g,4,none⟩)) (.slice ba ts.length bc) (.pointer (some ⟨w.heap.size,4,none⟩)) (.slice a2 ss.length c2) _ _ _ _ _ _ _
  (fun w'=>Kept (Value.slice ba ts.length bc).ownBlock.toList W6 w')
  (fun w'=>Kept [] W6 w')
  (fun u0 w'=>∃ a8 cap8 wq,u0 = .slice a8 (ts.length + ss.length) cap8∧Kept [] W6 wq∧w'.ownsRow w0.heap.size 129 2 u0 (ts.length + ss.length) (cellsB ts++cellsB ss)∧wq.grownBy w' (Value.slice ba ts.length bc).ownBlock∧(u0.ownBlock = (Value.slice ba ts.length bc).ownBlock∨u0.ownBlock = some wq.heap.size))
  (fun u0 u1 w'=>u1 = .pointer (some ⟨g,0,none⟩)∧∃ a8 cap8 wq,u0 = .slice a8 (ts.length + ss.length) cap8∧Kept [] W6 wq∧w'.ownsRow w0.heap.size 129 2 u0 (ts.length + ss.length) (cellsB ts++cellsB ss)∧wq.grownBy w' (Value.slice ba ts.length bc).ownBlock∧(u0.ownBlock = (Value.slice ba ts.length bc).ownBlock∨u0.ownBlock = some wq.heap.size))
  (fun u0 u1 u2 w'=>u2 = .pointer (some ⟨g,4,none⟩)∧∃ a8 cap8 wq,u0 = .slice a8 (ts.length + ss.length) cap8∧Kept [] W6 wq∧w'.ownsRow w0.heap.size 129 2 u0 (ts.length + ss.length) (cellsB ts++cellsB ss)∧wq.grownBy w' (Value.slice ba ts.length bc).ownBlock∧(u0.ownBlock = (Value.slice ba ts.length bc).ownBlock∨u0.ownBlock = some wq.heap.size))
  (fun u0 u1 u2 w'=>∃ a8 cap8 wq w8,u0 = .slice a8 (ts.length + ss.length) cap8∧Kept [] W6 wq∧w8.ownsRow w0.heap.size 129 2 u0 (ts.length + ss.length) (cellsB ts++cellsB ss)∧wq.grownBy w8 (Value.slice ba ts.length bc).ownBlock∧(u0.ownBlock = (Value.slice ba ts.length bc).ownBlock∨u0.ownBlock = some wq.heap.size)∧w' = w8.setCell ⟨g,4,none⟩ u0)
  (by simp only [Act.put,sa1,sa2,sa3]; rfl) (by exact Or.inl ⟨by rfl,fun W' hW'=>by go_simp⟩)
  (by simp only [Act.put,sa1,sa2,sa3]; rfl) (by exact Or.inl ⟨by rfl,fun W' hW'=>by go_simp⟩)
  (by simp only [Act.put,sa1,sa2,sa3]; rfl) (by exact Or.inl ⟨by rfl,fun W' hW'=>by go_simp⟩)
  (by simp only [Act.put,sa1,sa2,sa3]; rfl) (by exact Or.inl ⟨by rfl,fun W' hW'=>by go_simp⟩)
  (by simp only [Act.put,sa1,sa2,sa3]; rfl) (by exact Or.inl ⟨by rfl,fun W' hW'=>by have h90:=hW'.cell d4 (uh HGB); go_simp⟩)
  (by simp only [Act.put,sa1,sa2,sa3]; rfl) (by exact Or.inl ⟨by rfl,fun W' hW'=>by go_simp⟩)
  (by simp only [Act.put,sa1,sa2,sa3]; rfl) (by exact Or.inl ⟨by rfl,fun W' hW'=>by have h90:=hW'.cell s4 (by intro hm; exact uh HQL _ (by simpa using hm) rfl); go_simp⟩)
  (Kept.refl [] W6).drew
  ⟨fun w' h=>h.mono (by simp),fun u0 w' h=>by obtain ⟨a8,cap8,wq,_,h1,_,h2,_⟩:=h; exact (h1.mono (by simp)).grown h2 (by intro k hk; left; simp [hk]),fun u0 u1 w' h=>by obtain ⟨_,a8,cap8,wq,_,h1,_,h2,_⟩:=h; exact (h1.mono (by simp)).grown h2 (by intro k hk; left; simp [hk]),fun u0 u1 u2 w' h=>by obtain ⟨_,a8,cap8,wq,_,h1,_,h2,_⟩:=h; exact (h1.mono (by simp)).grown h2 (by intro k hk; left; simp [hk])⟩
  (by
   intro w' k K hK
   have hB7:=(uh H2).stay ((uh HR6).trans k (by simp)) (uh HM6)
   have hF7:=(uh HF6).pass k
   obtain ⟨a8,cap8,w8,hrun,h8,hg8,ha8⟩:=appendC w' w0.heap.size 46 129 (.agg #[.int .u64 0,.slice none 0 0]) 2 32 Tryz.underlying46 Tryz.infoBt rfl (by decide) (.slice ba ts.length bc) ts.length (cellsB ts) hF7.bs.own a2 ss.length c2 (ss.map rowB) hB7.rdC (xa9i ss) hB7.oneC (by omega) (by omega) hF7.bs.sz
   rw [xa4b] at h8
   have hK2:=hK _ _ ⟨a8,cap8,w',rfl,k,h8,hg8,ha8⟩
   clear hK
   simp only [Act.put,sa1,sa2,sa3] at hK2 ⊢
   exact xc3e 46 (.tmp 28) (.tmp 30) rfl rfl (.slice ba ts.length bc) (.slice a2 ss.length c2) rfl rfl _ _ hrun hK2)
  (by rintro u0 w' ⟨a8,cap8,wq,rfl,h1,h2,h3,h4⟩ K hK; unfold Oper.wp execOp; go_simp; exact hK _ _ ⟨rfl,a8,cap8,wq,rfl,h1,h2,h3,h4⟩)
  (by rintro u0 u1 w' ⟨rfl,a8,cap8,wq,rfl,h1,h2,h3,h4⟩ K hK; unfold Oper.wp execOp; go_simp; exact hK _ _ ⟨rfl,a8,cap8,wq,rfl,h1,h2,h3,h4⟩)
  (by
   rintro u0 u1 u2 w' ⟨rfl,a8,cap8,wq,rfl,h1,h2,h3,h4⟩ K hK
   have kk:Kept (Value.slice ba ts.length bc).ownBlock.toList W6 w':=(h1.mono (by simp)).grown h3 (by intro k hk; left; simp [hk])
   have hr9:=kk.heap (uh HF6).row (uh HGB)
   have hw9:=(xa1j hr9).2.2.2.2
   have hz9:=(ffroz hr9).2.2.2.2
   unfold Oper.wp execOp
   go_simp
   exact hK _ ⟨a8,cap8,wq,w',rfl,h1,h2,h3,h4,rfl⟩)
  ?_
 rintro u0 u1 u2 w9 ⟨a8,cap8,wq,w8,rfl,kq,ho8,gr8,ha8,rfl⟩
 simp only [Act.put,sa1,sa2,sa3]
 have kk:Kept (Value.slice ba ts.length bc).ownBlock.toList W6 w8:=(kq.mono (by simp)).grown gr8 (by intro k hk; left; simp [hk])
 have hr8:=kk.heap (uh HF6).row (uh HGB)
 have kS:=(Kept.refl [g] w8).setCell (p:=⟨g,4,none⟩) (.inl (by simp)) (.slice a8 (ts.length + ss.length) cap8)
 have hS2:(w8.setCell ⟨g,4,none⟩ (.slice a8 (ts.length + ss.length) cap8)).heap[g]? = some (.cells (fdC ⟨f.last,b,f.sz,f.sg++[s],f.bs++ss.map fun t=>(t.1,t.2.2)⟩ (.slice a5 (f.sg.length + 1) cap5) (.slice a8 (ts.length + ss.length) cap8)) 110 (0,0)):=by rw [heap_setCell_same _ g 4 _ _ _ hr8]; rfl
 have hgl:=(uh HF6).gl
 have hFq:=(uh HF6).pass kq
 have hcat:=hFq.bs.cat (uh H2) ((uh HR6).trans kq (by simp)) (uh HM6) h01 (uh HV) (fun x hx=>uh HX6 x (by simpa using hx)) (fun x hx=>(hFq.sg.lt x (by simpa using hx)).2) ho8 gr8 ha8
 have kA:Kept (Value.slice ba ts.length bc).ownBlock.toList wq w8:=(Kept.refl _ wq).grown gr8 (by intro k hk; left; simp [hk])
 have hsg8:=kA.owns hFq.sg (fun x hx hm=>hFq.bs.ap x (by simpa using hm) (by simpa using hx))
 have HF9:=hide (⟨hS2,hgl,kS.owns hsg8 (fun x hx hm=>by have:=(hsg8.lt x hx).1; have:=List.mem_singleton.1 hm; omega),hcat.pass kS (fun x hx=>Or.inl (by rw [List.mem_singleton.1 hx]; exact hgl)),by rw [(uh H).eq,List.map_append],(uh H).last,hb,(uh H).szb⟩:FK w0 (w8.setCell ⟨g,4,none⟩ (.slice a8 (ts.length + ss.length) cap8)) g ⟨f.last,b,f.sz,f.sg++[s],f.bs++ss.map fun t=>(t.1,t.2.2)⟩ (.slice a5 (f.sg.length + 1) cap5) (.slice a8 (ts.length + ss.length) cap8) (ts++ss))
 have k69:Kept (g :: (Value.slice ba ts.length bc).ownBlock.toList) W6 (w8.setCell ⟨g,4,none⟩ (.slice a8 (ts.length + ss.length) cap8)):=(kk.mono (fun x hx=>by simp [hx])).trans kS (fun x hx=>Or.inl (by simp at hx; simp [hx]))
 have HKW9:=hide ((uh HKW6).trans k69 (fun x hx=>by
   rcases List.mem_cons.1 hx with rfl | hx
   ·exact Or.inl (by simp)
   ·exact Or.inr (hFq.bs.own.lt x (by simpa using hx)).1))
 have HQ9:=hide (k69.heap (uh HQ6) (by
   intro hm
   rcases List.mem_cons.1 hm with h9 | h9
   ·have:=uh HGW; omega
   ·exact uh HQL _ (by simpa using h9) rfl))
 have HB9:=hide ((uh H2).stay (((uh HR6).mono (M:=M6++(g :: (Value.slice ba ts.length bc).ownBlock.toList)) (fun x hx=>by simp [hx])).trans k69 (fun x hx=>Or.inl (by simp at hx; simp [hx]))) (fun x hx=>by
   rcases List.mem_append.1 hx with hx | hx
   ·exact uh HM6 x hx
   ·rcases List.mem_cons.1 hx with rfl | hx
    ·exact Or.inl (by omega)
    ·exact Or.inl (uh HV x (by simpa using hx))))
 clear kk hr8 kS hS2 hFq hcat kA hsg8 k69 d0 d1 d2 d3 d4 s0 s1 s2 s3 s4 s5 kq ho8 gr8 ha8 HF6 HQ6 HK6 HKW6 HR6 HM6 HX6 HQL HGB H2 HV
 generalize w8.setCell ⟨g,4,none⟩ (.slice a8 (ts.length + ss.length) cap8) = W9 at HF9 HKW9 HQ9 HB9 ⊢
 obtain ⟨s0,s1,s2,s3,s4,s5⟩:=scells (uh HQ9)
 go_wp2_with fail
 clear s0 s1 s2 s3 s4 s5
 go_loopw [37] (fun t37 wr=>∃ i:Nat,i≤ss.length∧t37 = .int .i64 (i:Int)∧Hid (FK w0 wr g ⟨f.last,b,(f.sz + cntB ((ss.map fun t=>(t.1,t.2.2)).take i)) % 18446744073709551616,f.sg++[s],f.bs++ss.map fun t=>(t.1,t.2.2)⟩ (.slice a5 (f.sg.length + 1) cap5) (.slice a8 (ts.length + ss.length) cap8) (ts++ss))∧Hid (Kept [g] w0 wr)∧Hid (OwnB w1 wr (.slice a2 ss.length c2) ss)) (fun t _=>ss.length - (intOf t).toNat)
 case atStart=>exact ⟨0,Nat.zero_le _,rfl,hide (by have h9:=uh HF9; rw [List.take_zero,show cntB [] = 0 from rfl,Nat.add_zero,Nat.mod_eq_of_lt (uh H).szb]; exact h9),HKW9,HB9⟩
 case round =>
  obtain ⟨i,hi,rfl,HF,HK,HB⟩:=hrel
  by_cases hlt:i < ss.length
  ·have hlt':(i:Int) < ss.length:=by omega
   have hmi:i < (ss.map fun t=>(t.1,t.2.2)).length:=by rw [List.length_map]; exact hlt
   have HCN:=hide (xb0y (ss.map fun t=>(t.1,t.2.2)) i hmi)
   rw [List.getElem_map] at HCN
   obtain ⟨qa,ql,qc,hq1,hq2,hq3,hq4,hq5⟩:=(uh HB).rdC
   injection hq1 with e1 e2 e3
   subst e1 e2 e3
   obtain ⟨b2,o2,rfl,hcc⟩:=hq5 (by omega)
   have hri:=hcc i (by rw [List.length_map]; exact hlt)
   rw [List.getElem_map] at hri
   have hrn:=(uh HB).rdN ss[i] (List.getElem_mem hlt)
   generalize ss[i] = X at hri hrn HCN
   obtain ⟨pl,y,es⟩:=X
   dsimp only at hrn HCN
   obtain ⟨ea,en,ec,kv,vv,rfl,hen,hecn,hecm,_⟩:=hrn
   subst hen
   have x0:=hri 0 _ rfl
   have x1:=hri 1 _ rfl
   simp only [Nat.add_zero] at x0
   have HLE:=hide (by omega:es.length≤9223372036854775807)
   clear hcc hri hq2 hq3 hq4 hq5 hmi hecn hecm
   have ha1:IntKind.i64.wrap ((i:Int) + 1) = (i:Int) + 1:=by rw [IntKind.wrap_i64]; omega
   go_upto_region 7 with fail
   have k1:=(Kept.refl [] wr).alloc (.cells #[.int .u64 (pl:Int),.slice ea es.length ec] 129)
   have hh1:=heap_alloc_new wr (.cells #[.int .u64 (pl:Int),.slice ea es.length ec] 129)
   have HF1:=hide ((uh HF).pass k1)
   have HK1:=hide ((uh HK).trans k1 (by simp))
   have HB1:=hide ((uh HB).stay k1 (by simp))
   clear x0 x1
   obtain ⟨W1,hW1⟩:∃ W,wr.alloc (.cells #[.int .u64 (pl:Int),.slice ea es.length ec] 129) = W:=⟨_,rfl⟩
   rw [hW1] at HF1 HK1 HB1 hh1 ⊢
   clear hW1 k1 HF HK HB
   obtain ⟨y0,y1⟩:=bcells hh1
   obtain ⟨d0,d1,d2,d3,d4⟩:=xa1j (uh HF1).row
   dsimp only at d2
   have hw2:IntKind.u64.wrap (es.length:Int) = (es.length:Int):=by rw [IntKind.wrap_u64]; have:=uh HLE; omega
   have hw3:IntKind.u64.wrap ((((f.sz + cntB ((ss.map fun t=>(t.1,t.2.2)).take i)) % 18446744073709551616:Nat):Int) + (es.length:Int)) = (((f.sz + cntB ((ss.map fun t=>(t.1,t.2.2)).take (i + 1))) % 18446744073709551616:Nat):Int):=by
    rw [IntKind.wrap_u64,uh HCN]
    omega
   obtain ⟨SZ,hSZ⟩:∃ SZ,(f.sz + cntB ((ss.map fun t=>(t.1,t.2.2)).take i)) % 18446744073709551616 = SZ:=⟨_,rfl⟩
   obtain ⟨SZ2,hSZ2⟩:∃ SZ2,(f.sz + cntB ((ss.map fun t=>(t.1,t.2.2)).take (i + 1))) % 18446744073709551616 = SZ2:=⟨_,rfl⟩
   rw [hSZ,hSZ2] at hw3
   rw [hSZ] at d2 HF1
   have HSZ2:=hide hSZ2
   have HS2B:=hide (by rw [← hSZ2]; exact Nat.mod_lt _ (by omega):SZ2 < 18446744073709551616)
   clear hSZ hSZ2 hh1 d0 d1 d3 d4 HCN
   refine xa1o 9 (by kernel_rfl) (by kernel_rfl) ?_
   simp only [List.take_succ_cons,List.take_zero,List.drop_succ_cons,List.drop_zero]
   repeat (go_big_quiet_step (fail))
   refine wpQuiet_nil ?_
   rintro _ ⟨n5,rfl⟩
   have kD:Kept [] W1 (W1.drewN n5):=(Kept.refl [] W1).drewN n5
   have HF2:=hide ((uh HF1).pass kD)
   have HK2:=hide ((uh HK1).trans kD (by simp))
   have HB2:=hide ((uh HB1).stay kD (by simp))
   clear kD y0 y1 d2 HF1 HK1 HB1
   generalize W1.drewN n5 = W3 at HF2 HK2 HB2 ⊢
   obtain ⟨d0,d1,d2,d3,d4⟩:=xa1j (uh HF2).row
   obtain ⟨z0,z1,z2,z3,z4⟩:=ffroz (uh HF2).row
   dsimp only at d2
   have hS2:(W3.setCell ⟨g,2,none⟩ (.int .u64 (SZ2:Int))).heap[g]? = some (.cells (fdC ⟨f.last,b,SZ2,f.sg++[s],f.bs++ss.map fun t=>(t.1,t.2.2)⟩ (.slice a5 (f.sg.length + 1) cap5) (.slice a8 (ts.length + ss.length) cap8)) 110 (0,0)):=by rw [heap_setCell_same _ g 2 _ _ _ (uh HF2).row]; rfl
   have kS:=(Kept.refl [g] W3).setCell (p:=⟨g,2,none⟩) (.inl (by simp)) (.int .u64 (SZ2:Int))
   have HF3:=hide ((uh HF2).turn kS hS2 rfl rfl (uh HF2).last (uh HF2).ep (uh HS2B))
   have HK3:=hide ((uh HK2).trans kS (fun x hx=>Or.inl hx))
   have HB3:=hide ((uh HB2).stay kS (fun x hx=>Or.inl (by rw [List.mem_singleton.1 hx]; have:=(uh HF2).gl; omega)))
   clear hS2 kS
   go_wp2_with fail
   go_roundw
   case rel=>exact ⟨i + 1,by omega,by simp,hide (by rw [uh HSZ2]; exact uh HF3),HK3,HB3⟩
   case measure=>simp [intOf]; omega
  ·have hlt':¬ (i:Int) < ss.length:=by omega
   have hie:i = ss.length:=by omega
   subst hie
   have hfin:=uh HF
   rw [List.take_of_length_le (by rw [List.length_map]; exact Nat.le_refl _)] at hfin
   have HFI:=hide hfin
   clear hfin
   go_wp2_with fail
   refine bodyPost_end (v:=.tuple #[]) (results_none rfl _ _ _) rfl ⟨rfl,⟨_,_,uh HFI⟩,uh HK⟩
end
section
open Go.RowKit Go.BigFrame
theorem rdL_le:∀ (k:Nat) (p:List Nat) (z i:Nat),(rdL k p z i).1.length≤k
 | 0,p,z,i=>by simp [rdL]
 | k + 1,p,z,i=>by
  rw [rdL]
  split
  ·have:=rdL_le k p (rbN p z i).toNat ((i + (rbE p z i).length) % 18446744073709551616)
   simp only [List.length_cons]
   omega
  ·simp
theorem sgB_le (p:List Nat):(sgB p).length≤p.length:=by
 unfold sgB
 split
 ·exact rdL_le _ _ _ _
 ·simp
def rdT (σ:DSt) (l:List (List UInt8)):Nat:=(l.map fun s=>(stRead σ (strU s)).1.length).sum
theorem xb5s (σ:DSt) (s:List UInt8) (l:List (List UInt8)):rdT σ (s :: l) = (stRead σ (strU s)).1.length + rdT σ l:=by simp [rdT]
def totA (A:List DF):Nat:=(A.map fun f=>f.bs.length).sum
theorem xb6o {A:List DF} (hd:Dist A) {f:DF} (hf:f∈A):findA A f.nm.data.toList = some f:=by
 unfold findA
 have hd2:A.Pairwise fun a b=>a.nm≠b.nm:=hd
 induction hd2 with
 | nil=>simp at hf
 | @cons y l hy hl ih =>
  rcases List.mem_cons.1 hf with rfl | hf
  ·simp
  ·rw [List.find?_cons]
   have hne:(y.nm.data.toList == f.nm.data.toList) = false:=by
    rw [beq_eq_false_iff_ne]
    intro e
    exact hy f hf (ba_ext e)
   rw [hne]
   exact ih hl hf
theorem rdT_le (σ:DSt) (hd:Dist σ.A):rdT σ (nmsOf σ)≤totA σ.A:=by
 unfold rdT nmsOf
 by_cases ho:σ.off = true
 ·rw [if_pos ho]; simp
 ·rw [if_neg ho]
  have hp:(srtN σ.A).Perm (σ.A.map fun f=>f.nm.data.toList):=List.mergeSort_perm _ _
  rw [(hp.map (fun s=>(stRead σ (strU s)).1.length)).sum_nat,List.map_map]
  unfold totA
  apply Nat.le_of_eq
  congr 1
  apply List.map_congr_left
  intro f hf
  simp only [Function.comp]
  unfold stRead
  rw [if_neg ho]
  have h1:(strU f.nm.data.toList).data.toList = f.nm.data.toList:=by simp [strU]
  rw [h1,xb6o hd hf]
theorem xb0z {σ:DSt} {s:List UInt8} (h:s∈nmsOf σ):∃ f∈σ.A,s = f.nm.data.toList:=by
 unfold nmsOf at h
 by_cases ho:σ.off = true
 ·rw [if_pos ho] at h; simp at h
 ·rw [if_neg ho] at h
  have hp:(srtN σ.A).Perm (σ.A.map fun f=>f.nm.data.toList):=List.mergeSort_perm _ _
  obtain ⟨f,hf,e⟩:=List.mem_map.1 (hp.mem_iff.1 h)
  exact ⟨f,hf,e.symm⟩
theorem xb0p (σ:DSt):(nmsOf σ).length≤σ.A.length:=by
 unfold nmsOf
 split
 ·simp
 ·have hp:(srtN σ.A).Perm (σ.A.map fun f=>f.nm.data.toList):=List.mergeSort_perm _ _
  rw [hp.length_eq,List.length_map]
  exact Nat.le_refl _
theorem hd_lt (p:List Nat):(hdC p).a < 18446744073709551616∧(hdC p).b < 18446744073709551616∧(hdC p).c < 18446744073709551616:=by
 unfold hdC hdF
 split
 ·simp
 ·split
  ·exact ⟨beL_lt _,beL_lt _,beL_lt _⟩
  ·simp
theorem nbU_lt (l:List Nat):nbU l < 18446744073709551616:=by
 unfold nbU
 split
 ·exact dv_lt _ 0 (by omega)
 ·omega
def dH (sec:Nat) (op:Int) (A:List DF):DSt:=⟨sec,0,op,false,fun _=>none,A⟩
theorem opE_h (op:Int) (own:Nat) (h:0≤op):opE (fun _=>none) 0 op own = own:=by
 unfold opE
 rw [if_neg (by omega)]
 by_cases h0:own = 0
 ·simp [h0]
 ·simp [h0]
theorem tick_h (sec:Nat) (op:Int) (A C:List DF) (h:0≤op):tick (dH sec op A) C = dH sec (op + 1) C:=by
 unfold tick dH
 simp only [DSt.mk.injEq,true_and,and_true]
 simp
 omega
theorem xc0p {sec:Nat} {op:Int} {A:List DF} {s:ByteArray} (h:0≤op) (hs:isNm s = true) (hn:findA A s.data.toList = none):stCreate (dH sec op A) s = (0,dH sec (op + 1) (A++[⟨s,[],0,false⟩])):=by
 have ho:ownA A s = 0:=by unfold ownA; rw [hs,hn]; rfl
 unfold stCreate
 rw [tick_h sec op A _ h]
 show (if false = true then _ else (opE (fun _=>none) 0 op (ownA A s),_)) = _
 rw [if_neg (by simp),opE_h op _ h]
 show (ownA A s,dH sec (op + 1) (if ownA A s = 0∧opE (fun _=>none) 0 op (ownA A s)≠7 then A++[⟨s,[],0,false⟩] else A)) = _
 rw [opE_h op _ h,ho]
 simp
theorem xb5k {sec:Nat} {op:Int} {A:List DF} {s:ByteArray} (p:List Nat) (h:0≤op) (hn:(findA A s.data.toList).isSome = true):stAppend (dH sec op A) s p = (0,dH sec (op + 1) (upA A s fun f=>{ f with bs:=f.bs++p })):=by
 have hk:appK (dH sec op A) p = p.length:=by
  unfold appK
  show (if opE (fun _=>none) 0 op 0 = 7 then _ else _) = _
  rw [opE_h op 0 h]; simp
 unfold stAppend
 rw [hk,List.take_length,tick_h sec op A _ h,tick_h sec op A _ h]
 show (if false = true then _ else if (findA A s.data.toList).isSome = true then (opE (fun _=>none) 0 op 0,_) else _) = _
 rw [if_neg (by simp),if_pos hn,opE_h op 0 h]
 rfl
theorem sync_h {sec:Nat} {op:Int} {A:List DF} {s:ByteArray} (h:0≤op) (hn:(findA A s.data.toList).isSome = true):stSync (dH sec op A) s = (0,dH sec (op + 1) (upA A s fun f=>{ f with sy:=f.bs.length })):=by
 unfold stSync
 rw [tick_h sec op A _ h,tick_h sec op A _ h]
 show (if false = true then _ else if (findA A s.data.toList).isSome = true then (opE (fun _=>none) 0 op 0,dH sec (op + 1) (if opE (fun _=>none) 0 op 0 = 0 then _ else _)) else _) = _
 rw [if_neg (by simp),if_pos hn,opE_h op 0 h]
 simp
 rfl
theorem xc3p {sec:Nat} {op:Int} {A:List DF} (h:0≤op):stNames (dH sec op A) = (0,dH sec (op + 1) (ndA A)):=by
 unfold stNames
 rw [tick_h sec op A _ h]
 show (if false = true then _ else (opE (fun _=>none) 0 op 0,dH sec (op + 1) (if opE (fun _=>none) 0 op 0 = 0 then _ else _))) = _
 rw [if_neg (by simp),opE_h op 0 h]
 simp
 rfl
theorem xb1e (A:List DF) (s:ByteArray) (F:DF→DF) (x:DF) (hx:x.nm = s) (hA:∀ f∈A,f.nm≠s):upA (A++[x]) s F = A++[F x]:=by
 unfold upA
 rw [List.map_append]
 congr 1
 ·conv=>rhs; rw [← List.map_id A]
  apply List.map_congr_left
  intro f hf
  rw [if_neg (hA f hf)]
  rfl
 ·simp [hx]
theorem xc0k {A:List DF} {s:ByteArray} (h:∀ f∈A,f.nm≠s):findA A s.data.toList = none:=by
 unfold findA
 rw [List.find?_eq_none]
 intro f hf
 simp only [beq_iff_eq]
 intro e
 exact h f hf (ba_ext e)
theorem xa4o {A:List DF} {s:ByteArray} {x:DF} (hx:x.nm = s):(findA (A++[x]) s.data.toList).isSome = true:=by
 unfold findA
 rw [List.find?_isSome]
 exact ⟨x,by simp,by simp [hx]⟩
theorem nmB_ok (n:Nat):isNm (nmB n) = true:=by
 unfold isNm
 rw [xa4e,Bool.and_eq_true]
 refine ⟨by decide,?_⟩
 rw [List.all_eq_true]
 intro b hb
 unfold nmB strB at hb
 simp only [List.mem_map] at hb
 obtain ⟨x,hx,rfl⟩:=hb
 have hx2:x = 115∨x = 101∨x = 103∨x = 45∨(48≤x∧x≤57):=by
  rcases List.mem_append.1 hx with h | h
  ·simp at h; omega
  ·have:=xb0e 20 n x h; omega
 have hm:(UInt8.ofNat x).toNat = x:=by simp; omega
 rw [hm]
 unfold nameB
 simp only [Bool.or_eq_true,decide_eq_true_eq]
 omega
theorem xb8w {sec:Nat} {op:Int} {A:List DF} (n ep fs:Nat) {wd:Int} (h:0≤op) (hw:wideB wd = true) (hA:∀ f∈A,f.nm≠nmB n) :
  stBegin (dH sec op A) n ep fs wd = (0,dH sec (op + 4) (ndA (A++[⟨nmB n,ehB n ep fs wd,48,false⟩]))):=by
 unfold stBegin
 rw [xc0p h (nmB_ok n) (xc0k hA)]
 rw [xa3f (r:=(0,_)) rfl]
 rw [xb5k _ (by omega) (xa4o rfl),xb1e _ _ _ _ rfl hA]
 rw [xa3f (r:=(0,_)) rfl]
 rw [sync_h (by omega) (xa4o rfl),xb1e _ _ _ _ rfl hA]
 rw [xa3f (r:=(0,_)) rfl]
 rw [xc3p (by omega)]
 simp only [List.nil_append,xb5g hw]
 rw [show op + 1 + 1 + 1 + 1 = op + 4 by omega]
end
section
open Go.RowKit Go.BigFrame Go.Maps Go.Sort

theorem DK.old {w w':World} {d nb bb:Nat} {B:List Nat} {σ:DSt} (h:DK w d B nb bb σ) (k:Kept [] w w'):DK w' d B nb bb σ:=h.kept k (by simp)
theorem Kept.ev {w0 w w':World} {B B':List Nat} (k:Kept [] w0 w) (hb:∀ x∈B,w0.heap.size≤x) (e:Ev w w' B B'):Kept [] w0 w'∧∀ x∈B',w0.heap.size≤x:=by
 refine ⟨k.trans e.1 (fun x hx=>.inr (hb x hx)),?_⟩
 intro x hx
 rcases e.2 x hx with h | h
 ·exact hb x h
 ·exact Nat.le_trans k.size h
end
section
open Go Go.RowKit Go.BigFrame
section
variable {P:Program} {Q:Exit→Act→World→Prop}
theorem xc2i {id:Nat} {o0 o1 o2 o3 o4 o5 o6 o7 o8 o9 o10 o11 o12 o13 o14 o15 o16 o17 o18:Oper} {a:Act} {w:World} (hm:P.follows .mixedOrders = true) (hs:Region.noSelect #[o0,o1,o2,o3,o4,o5,o6,o7,o8,o9,o10,o11,o12,o13,o14,o15,o16,o17,o18] = true)
  (f0:Region.free .any #[o0,o1,o2,o3,o4,o5,o6,o7,o8,o9,o10,o11,o12,o13,o14,o15,o16,o17,o18] #[false,false,false,false,false,false,false,false,false,false,false,false,false,false,false,false,false,false,false] 0 = true) (r0:(Region.ready .any #[o0,o1,o2,o3,o4,o5,o6,o7,o8,o9,o10,o11,o12,o13,o14,o15,o16,o17,o18] #[false,false,false,false,false,false,false,false,false,false,false,false,false,false,false,false,false,false,false]).contains 0 = true)
  (f1:Region.free .any #[o0,o1,o2,o3,o4,o5,o6,o7,o8,o9,o10,o11,o12,o13,o14,o15,o16,o17,o18] #[true,false,false,false,false,false,false,false,false,false,false,false,false,false,false,false,false,false,false] 1 = true) (r1:(Region.ready .any #[o0,o1,o2,o3,o4,o5,o6,o7,o8,o9,o10,o11,o12,o13,o14,o15,o16,o17,o18] #[true,false,false,false,false,false,false,false,false,false,false,false,false,false,false,false,false,false,false]).contains 1 = true)
  (f2:Region.free .any #[o0,o1,o2,o3,o4,o5,o6,o7,o8,o9,o10,o11,o12,o13,o14,o15,o16,o17,o18] #[true,true,false,false,false,false,false,false,false,false,false,false,false,false,false,false,false,false,false] 2 = true) (r2:(Region.ready .any #[o0,o1,o2,o3,o4,o5,o6,o7,o8,o9,o10,o11,o12,o13,o14,o15,o16,o17,o18] #[true,true,false,false,false,false,false,false,false,false,false,false,false,false,false,false,false,false,false]).contains 2 = true)
  (f3:Region.free .any #[o0,o1,o2,o3,o4,o5,o6,o7,o8,o9,o10,o11,o12,o13,o14,o15,o16,o17,o18] #[true,true,true,false,false,false,false,false,false,false,false,false,false,false,false,false,false,false,false] 3 = true) (r3:(Region.ready .any #[o0,o1,o2,o3,o4,o5,o6,o7,o8,o9,o10,o11,o12,o13,o14,o15,o16,o17,o18] #[true,true,true,false,false,false,false,false,false,false,false,false,false,false,false,false,false,false,false]).contains 3 = true)
  (f4:Region.free .any #[o0,o1,o2,o3,o4,o5,o6,o7,o8,o9,o10,o11,o12,o13,o14,o15,o16,o17,o18] #[true,true,true,true,false,false,false,false,false,false,false,false,false,false,false,false,false,false,false] 4 = true) (r4:(Region.ready .any #[o0,o1,o2,o3,o4,o5,o6,o7,o8,o9,o10,o11,o12,o13,o14,o15,o16,o17,o18] #[true,true,true,true,false,false,false,false,false,false,false,false,false,false,false,false,false,false,false]).contains 4 = true)
  (f5:Region.free .any #[o0,o1,o2,o3,o4,o5,o6,o7,o8,o9,o10,o11,o12,o13,o14,o15,o16,o17,o18] #[true,true,true,true,true,false,false,false,false,false,false,false,false,false,false,false,false,false,false] 5 = true) (r5:(Region.ready .any #[o0,o1,o2,o3,o4,o5,o6,o7,o8,o9,o10,o11,o12,o13,o14,o15,o16,o17,o18] #[true,true,true,true,true,false,false,false,false,false,false,false,false,false,false,false,false,false,false]).contains 5 = true)
  (f7:Region.free .any #[o0,o1,o2,o3,o4,o5,o6,o7,o8,o9,o10,o11,o12,o13,o14,o15,o16,o17,o18] #[true,true,true,true,true,true,false,false,false,false,false,false,false,false,false,false,false,false,false] 7 = true) (r7:(Region.ready .any #[o0,o1,o2,o3,o4,o5,o6,o7,o8,o9,o10,o11,o12,o13,o14,o15,o16,o17,o18] #[true,true,true,true,true,true,false,false,false,false,false,false,false,false,false,false,false,false,false]).contains 7 = true)
  (f8:Region.free .any #[o0,o1,o2,o3,o4,o5,o6,o7,o8,o9,o10,o11,o12,o13,o14,o15,o16,o17,o18] #[true,true,true,true,true,true,false,true,false,false,false,false,false,false,false,false,false,false,false] 8 = true) (r8:(Region.ready .any #[o0,o1,o2,o3,o4,o5,o6,o7,o8,o9,o10,o11,o12,o13,o14,o15,o16,o17,o18] #[true,true,true,true,true,true,false,true,false,false,false,false,false,false,false,false,false,false,false]).contains 8 = true)
  (f9:Region.free .any #[o0,o1,o2,o3,o4,o5,o6,o7,o8,o9,o10,o11,o12,o13,o14,o15,o16,o17,o18] #[true,true,true,true,true,true,false,true,true,false,false,false,false,false,false,false,false,false,false] 9 = true) (r9:(Region.ready .any #[o0,o1,o2,o3,o4,o5,o6,o7,o8,o9,o10,o11,o12,o13,o14,o15,o16,o17,o18] #[true,true,true,true,true,true,false,true,true,false,false,false,false,false,false,false,false,false,false]).contains 9 = true)
  (f10:Region.free .any #[o0,o1,o2,o3,o4,o5,o6,o7,o8,o9,o10,o11,o12,o13,o14,o15,o16,o17,o18] #[true,true,true,true,true,true,false,true,true,true,false,false,false,false,false,false,false,false,false] 10 = true) (r10:(Region.ready .any #[o0,o1,o2,o3,o4,o5,o6,o7,o8,o9,o10,o11,o12,o13,o14,o15,o16,o17,o18] #[true,true,true,true,true,true,false,true,true,true,false,false,false,false,false,false,false,false,false]).contains 10 = true)
  (f11:Region.free .any #[o0,o1,o2,o3,o4,o5,o6,o7,o8,o9,o10,o11,o12,o13,o14,o15,o16,o17,o18] #[true,true,true,true,true,true,false,true,true,true,true,false,false,false,false,false,false,false,false] 11 = true) (r11:(Region.ready .any #[o0,o1,o2,o3,o4,o5,o6,o7,o8,o9,o10,o11,o12,o13,o14,o15,o16,o17,o18] #[true,true,true,true,true,true,false,true,true,true,true,false,false,false,false,false,false,false,false]).contains 11 = true)
  (f12:Region.free .any #[o0,o1,o2,o3,o4,o5,o6,o7,o8,o9,o10,o11,o12,o13,o14,o15,o16,o17,o18] #[true,true,true,true,true,true,false,true,true,true,true,true,false,false,false,false,false,false,false] 12 = true) (r12:(Region.ready .any #[o0,o1,o2,o3,o4,o5,o6,o7,o8,o9,o10,o11,o12,o13,o14,o15,o16,o17,o18] #[true,true,true,true,true,true,false,true,true,true,true,true,false,false,false,false,false,false,false]).contains 12 = true)
  (f13:Region.free .any #[o0,o1,o2,o3,o4,o5,o6,o7,o8,o9,o10,o11,o12,o13,o14,o15,o16,o17,o18] #[true,true,true,true,true,true,false,true,true,true,true,true,true,false,false,false,false,false,false] 13 = true) (r13:(Region.ready .any #[o0,o1,o2,o3,o4,o5,o6,o7,o8,o9,o10,o11,o12,o13,o14,o15,o16,o17,o18] #[true,true,true,true,true,true,false,true,true,true,true,true,true,false,false,false,false,false,false]).contains 13 = true)
  (f14:Region.free .any #[o0,o1,o2,o3,o4,o5,o6,o7,o8,o9,o10,o11,o12,o13,o14,o15,o16,o17,o18] #[true,true,true,true,true,true,false,true,true,true,true,true,true,true,false,false,false,false,false] 14 = true) (r14:(Region.ready .any #[o0,o1,o2,o3,o4,o5,o6,o7,o8,o9,o10,o11,o12,o13,o14,o15,o16,o17,o18] #[true,true,true,true,true,true,false,true,true,true,true,true,true,true,false,false,false,false,false]).contains 14 = true)
  (q_:Region.ready .any #[o0,o1,o2,o3,o4,o5,o6,o7,o8,o9,o10,o11,o12,o13,o14,o15,o16,o17,o18] #[true,true,true,true,true,true,false,true,true,true,true,true,true,true,true,false,false,false,false] = [6])
  (f_6_15:Region.free .any #[o0,o1,o2,o3,o4,o5,o6,o7,o8,o9,o10,o11,o12,o13,o14,o15,o16,o17,o18] #[true,true,true,true,true,true,true,true,true,true,true,true,true,true,true,false,false,false,false] 15 = true) (r_6_15:(Region.ready .any #[o0,o1,o2,o3,o4,o5,o6,o7,o8,o9,o10,o11,o12,o13,o14,o15,o16,o17,o18] #[true,true,true,true,true,true,true,true,true,true,true,true,true,true,true,false,false,false,false]).contains 15 = true)
  (q6_:Region.ready .any #[o0,o1,o2,o3,o4,o5,o6,o7,o8,o9,o10,o11,o12,o13,o14,o15,o16,o17,o18] #[true,true,true,true,true,true,true,true,true,true,true,true,true,true,true,true,false,false,false] = [16])
  (q6_16_:Region.ready .any #[o0,o1,o2,o3,o4,o5,o6,o7,o8,o9,o10,o11,o12,o13,o14,o15,o16,o17,o18] #[true,true,true,true,true,true,true,true,true,true,true,true,true,true,true,true,true,false,false] = [17])
  (f6_16_17_18:Region.free .any #[o0,o1,o2,o3,o4,o5,o6,o7,o8,o9,o10,o11,o12,o13,o14,o15,o16,o17,o18] #[true,true,true,true,true,true,true,true,true,true,true,true,true,true,true,true,true,true,false] 18 = true) (r6_16_17_18:(Region.ready .any #[o0,o1,o2,o3,o4,o5,o6,o7,o8,o9,o10,o11,o12,o13,o14,o15,o16,o17,o18] #[true,true,true,true,true,true,true,true,true,true,true,true,true,true,true,true,true,true,false]).contains 18 = true)
  (q6_16_17_:Region.ready .any #[o0,o1,o2,o3,o4,o5,o6,o7,o8,o9,o10,o11,o12,o13,o14,o15,o16,o17,o18] #[true,true,true,true,true,true,true,true,true,true,true,true,true,true,true,true,true,true,true] = [])
  (g6:o6.guard = none)    (g16:o16.guard = none)    (g17:o17.guard = none)
  (v0 v1 v2 v3 v4 v5 v7 v8 v9 v10 v11 v12 v13 v14:Value) (A0 A1 A2 A3 A4 A5 A6 A7 A8 A9 A10 A11 A12 A13:Act)
  (S:World→Prop)
  (I_:World→Prop)
  (I6_:Value→World→Prop)
  (I6_16_:Value→Value→World→Prop)
  (I6_16_17_:Value→Value→Value→World→Prop)
  (v15:Value→Value)
  (v18:Value→Value→Value→Value)
  (p0:a.put o0.dst v0 = A0) (hy0:YieldsIf P #[o0,o1,o2,o3,o4,o5,o6,o7,o8,o9,o10,o11,o12,o13,o14,o15,o16,o17,o18] S o0 v0 a)
  (p1:A0.put o1.dst v1 = A1) (hy1:YieldsIf P #[o0,o1,o2,o3,o4,o5,o6,o7,o8,o9,o10,o11,o12,o13,o14,o15,o16,o17,o18] S o1 v1 A0)
  (p2:A1.put o2.dst v2 = A2) (hy2:YieldsIf P #[o0,o1,o2,o3,o4,o5,o6,o7,o8,o9,o10,o11,o12,o13,o14,o15,o16,o17,o18] S o2 v2 A1)
  (p3:A2.put o3.dst v3 = A3) (hy3:YieldsIf P #[o0,o1,o2,o3,o4,o5,o6,o7,o8,o9,o10,o11,o12,o13,o14,o15,o16,o17,o18] S o3 v3 A2)
  (p4:A3.put o4.dst v4 = A4) (hy4:YieldsIf P #[o0,o1,o2,o3,o4,o5,o6,o7,o8,o9,o10,o11,o12,o13,o14,o15,o16,o17,o18] S o4 v4 A3)
  (p5:A4.put o5.dst v5 = A5) (hy5:YieldsIf P #[o0,o1,o2,o3,o4,o5,o6,o7,o8,o9,o10,o11,o12,o13,o14,o15,o16,o17,o18] S o5 v5 A4)
  (p7:A5.put o7.dst v7 = A6) (hy7:YieldsIf P #[o0,o1,o2,o3,o4,o5,o6,o7,o8,o9,o10,o11,o12,o13,o14,o15,o16,o17,o18] S o7 v7 A5)
  (p8:A6.put o8.dst v8 = A7) (hy8:YieldsIf P #[o0,o1,o2,o3,o4,o5,o6,o7,o8,o9,o10,o11,o12,o13,o14,o15,o16,o17,o18] S o8 v8 A6)
  (p9:A7.put o9.dst v9 = A8) (hy9:YieldsIf P #[o0,o1,o2,o3,o4,o5,o6,o7,o8,o9,o10,o11,o12,o13,o14,o15,o16,o17,o18] S o9 v9 A7)
  (p10:A8.put o10.dst v10 = A9) (hy10:YieldsIf P #[o0,o1,o2,o3,o4,o5,o6,o7,o8,o9,o10,o11,o12,o13,o14,o15,o16,o17,o18] S o10 v10 A8)
  (p11:A9.put o11.dst v11 = A10) (hy11:YieldsIf P #[o0,o1,o2,o3,o4,o5,o6,o7,o8,o9,o10,o11,o12,o13,o14,o15,o16,o17,o18] S o11 v11 A9)
  (p12:A10.put o12.dst v12 = A11) (hy12:YieldsIf P #[o0,o1,o2,o3,o4,o5,o6,o7,o8,o9,o10,o11,o12,o13,o14,o15,o16,o17,o18] S o12 v12 A10)
  (p13:A11.put o13.dst v13 = A12) (hy13:YieldsIf P #[o0,o1,o2,o3,o4,o5,o6,o7,o8,o9,o10,o11,o12,o13,o14,o15,o16,o17,o18] S o13 v13 A11)
  (p14:A12.put o14.dst v14 = A13) (hy14:YieldsIf P #[o0,o1,o2,o3,o4,o5,o6,o7,o8,o9,o10,o11,o12,o13,o14,o15,o16,o17,o18] S o14 v14 A12)
  (i0:I_ w.drew)
  (hIS:(∀ w',I_  w'→S w')∧(∀ (u6:Value) w',I6_ u6 w'→S w')∧(∀ (u6 u16:Value) w',I6_16_ u6 u16 w'→S w')∧(∀ (u6 u16 u17:Value) w',I6_16_17_ u6 u16 u17 w'→S w'))
  (s_6:∀ w',I_  w'→∀ K:Act→World→Prop,(∀ (u6:Value) w2,I6_ u6 w2→K (A13.put o6.dst u6) w2)→o6.wp P A13 w' K (NoPanic Q))
  (s6_16:∀ (u6:Value) w',I6_ u6 w'→∀ K:Act→World→Prop,(∀ (u16:Value) w2,I6_16_ u6 u16 w2→K (((A13.put o6.dst u6).put o15.dst (v15 u6)).put o16.dst u16) w2)→o16.wp P ((A13.put o6.dst u6).put o15.dst (v15 u6)) w' K (NoPanic Q))
  (s6_16_17:∀ (u6 u16:Value) w',I6_16_ u6 u16 w'→∀ K:Act→World→Prop,(∀ (u17:Value) w2,I6_16_17_ u6 u16 u17 w2→K ((((A13.put o6.dst u6).put o15.dst (v15 u6)).put o16.dst u16).put o17.dst u17) w2)→o17.wp P (((A13.put o6.dst u6).put o15.dst (v15 u6)).put o16.dst u16) w' K (NoPanic Q))
  (y_6_15:∀ (u6:Value) w',I6_ u6 w'→YieldsIf P #[o0,o1,o2,o3,o4,o5,o6,o7,o8,o9,o10,o11,o12,o13,o14,o15,o16,o17,o18] S o15 (v15 u6) (A13.put o6.dst u6))
  (y6_16_17_18:∀ (u6 u16 u17:Value) w',I6_16_17_ u6 u16 u17 w'→YieldsIf P #[o0,o1,o2,o3,o4,o5,o6,o7,o8,o9,o10,o11,o12,o13,o14,o15,o16,o17,o18] S o18 (v18 u6 u16 u17) ((((A13.put o6.dst u6).put o15.dst (v15 u6)).put o16.dst u16).put o17.dst u17))
  (h:∀ (u6 u16 u17:Value) w',I6_16_17_ u6 u16 u17 w'→Q .normal (((((A13.put o6.dst u6).put o15.dst (v15 u6)).put o16.dst u16).put o17.dst u17).put o18.dst (v18 u6 u16 u17)) w') :
  (Code.region id #[o0,o1,o2,o3,o4,o5,o6,o7,o8,o9,o10,o11,o12,o13,o14,o15,o16,o17,o18] true).wp P Q a w:=by
 subst p0 p1 p2 p3 p4 p5 p7 p8 p9 p10 p11 p12 p13 p14
 obtain ⟨z_,z6_,z6_16_,z6_16_17_⟩:=hIS
 refine wp_region_noPanic ?_
 refine wp_region_held_drew (S:=S) hm (z_ _ i0) (fun hH=>?_)
 show wpAnyH P .any #[o0,o1,o2,o3,o4,o5,o6,o7,o8,o9,o10,o11,o12,o13,o14,o15,o16,o17,o18] (NoPanic Q) S 19 #[false,false,false,false,false,false,false,false,false,false,false,false,false,false,false,false,false,false,false] a w.drew
 refine wpAnyH_take (i:=0) (oi:=o0) rfl hs f0 r0 (fun _ _ _ h=>h) hy0 hH ?_
 refine wpAnyH_take (i:=1) (oi:=o1) rfl hs f1 r1 (fun _ _ _ h=>h) hy1 hH ?_
 refine wpAnyH_take (i:=2) (oi:=o2) rfl hs f2 r2 (fun _ _ _ h=>h) hy2 hH ?_
 refine wpAnyH_take (i:=3) (oi:=o3) rfl hs f3 r3 (fun _ _ _ h=>h) hy3 hH ?_
 refine wpAnyH_take (i:=4) (oi:=o4) rfl hs f4 r4 (fun _ _ _ h=>h) hy4 hH ?_
 refine wpAnyH_take (i:=5) (oi:=o5) rfl hs f5 r5 (fun _ _ _ h=>h) hy5 hH ?_
 refine wpAnyH_take (i:=7) (oi:=o7) rfl hs f7 r7 (fun _ _ _ h=>h) hy7 hH ?_
 refine wpAnyH_take (i:=8) (oi:=o8) rfl hs f8 r8 (fun _ _ _ h=>h) hy8 hH ?_
 refine wpAnyH_take (i:=9) (oi:=o9) rfl hs f9 r9 (fun _ _ _ h=>h) hy9 hH ?_
 refine wpAnyH_take (i:=10) (oi:=o10) rfl hs f10 r10 (fun _ _ _ h=>h) hy10 hH ?_
 refine wpAnyH_take (i:=11) (oi:=o11) rfl hs f11 r11 (fun _ _ _ h=>h) hy11 hH ?_
 refine wpAnyH_take (i:=12) (oi:=o12) rfl hs f12 r12 (fun _ _ _ h=>h) hy12 hH ?_
 refine wpAnyH_take (i:=13) (oi:=o13) rfl hs f13 r13 (fun _ _ _ h=>h) hy13 hH ?_
 refine wpAnyH_take (i:=14) (oi:=o14) rfl hs f14 r14 (fun _ _ _ h=>h) hy14 hH ?_
 generalize ((((((((((((((a.put o0.dst v0).put o1.dst v1).put o2.dst v2).put o3.dst v3).put o4.dst v4).put o5.dst v5).put o7.dst v7).put o8.dst v8).put o9.dst v9).put o10.dst v10).put o11.dst v11).put o12.dst v12).put o13.dst v13).put o14.dst v14) = B at *
 have wa6:∀ y,Region.wanted o6 y = true:=fun y=>by unfold Region.wanted; rw [g6]
 have wa16:∀ y,Region.wanted o16 y = true:=fun y=>by unfold Region.wanted; rw [g16]
 have wa17:∀ y,Region.wanted o17 y = true:=fun y=>by unfold Region.wanted; rw [g17]
 have t6_16_17_:∀ (u6 u16 u17:Value) w',I6_16_17_ u6 u16 u17 w'→wpAnyH P .any #[o0,o1,o2,o3,o4,o5,o6,o7,o8,o9,o10,o11,o12,o13,o14,o15,o16,o17,o18] (NoPanic Q) S 0 #[true,true,true,true,true,true,true,true,true,true,true,true,true,true,true,true,true,true,true] (((((B.put o6.dst u6).put o15.dst (v15 u6)).put o16.dst u16).put o17.dst u17).put o18.dst (v18 u6 u16 u17)) w':=by
  intro u6 u16 u17 w0 i0
  exact ⟨q6_16_17_,NoPanic.normal (h u6 u16 u17 w0 i0)⟩
 have t6_16_:∀ (u6 u16:Value) w',I6_16_ u6 u16 w'→wpAnyH P .any #[o0,o1,o2,o3,o4,o5,o6,o7,o8,o9,o10,o11,o12,o13,o14,o15,o16,o17,o18] (NoPanic Q) S 2 #[true,true,true,true,true,true,true,true,true,true,true,true,true,true,true,true,true,false,false] (((B.put o6.dst u6).put o15.dst (v15 u6)).put o16.dst u16) w':=by
  intro u6 u16 w0 i0
  refine wpAnyH_ready (rs:=[17]) q6_16_ (by simp) (AllReadyH.cons (o:=o17) rfl (fun K hK=>?_) AllReadyH.nil)
  ·rw [if_pos (wa17 _)]
   refine s6_16_17 u6 u16 w0 i0 K (fun u17 w1 i1=>hK.out _ _ (z6_16_17_ u6 u16 u17 w1 i1) (fun _=>?_))
   clear hK
   refine wpAnyH_take (i:=18) (oi:=o18) rfl hs f6_16_17_18 r6_16_17_18 (fun _ _ _ h=>h) (y6_16_17_18 u6 u16 u17 w1 i1) (z6_16_17_ u6 u16 u17 w1 i1) ?_
   exact t6_16_17_ u6 u16 u17 w1 i1
 have t6_:∀ (u6:Value) w',I6_ u6 w'→wpAnyH P .any #[o0,o1,o2,o3,o4,o5,o6,o7,o8,o9,o10,o11,o12,o13,o14,o15,o16,o17,o18] (NoPanic Q) S 3 #[true,true,true,true,true,true,true,true,true,true,true,true,true,true,true,true,false,false,false] ((B.put o6.dst u6).put o15.dst (v15 u6)) w':=by
  intro u6 w0 i0
  refine wpAnyH_ready (rs:=[16]) q6_ (by simp) (AllReadyH.cons (o:=o16) rfl (fun K hK=>?_) AllReadyH.nil)
  ·rw [if_pos (wa16 _)]
   refine s6_16 u6 w0 i0 K (fun u16 w1 i1=>hK.out _ _ (z6_16_ u6 u16 w1 i1) (fun _=>?_))
   clear hK
   exact t6_16_ u6 u16 w1 i1
 have t_:∀ w',I_  w'→wpAnyH P .any #[o0,o1,o2,o3,o4,o5,o6,o7,o8,o9,o10,o11,o12,o13,o14,o15,o16,o17,o18] (NoPanic Q) S 5 #[true,true,true,true,true,true,false,true,true,true,true,true,true,true,true,false,false,false,false] B w':=by
  intro w0 i0
  refine wpAnyH_ready (rs:=[6]) q_ (by simp) (AllReadyH.cons (o:=o6) rfl (fun K hK=>?_) AllReadyH.nil)
  ·rw [if_pos (wa6 _)]
   refine s_6  w0 i0 K (fun u6 w1 i1=>hK.out _ _ (z6_ u6 w1 i1) (fun _=>?_))
   clear hK
   refine wpAnyH_take (i:=15) (oi:=o15) rfl hs f_6_15 r_6_15 (fun _ _ _ h=>h) (y_6_15 u6 w1 i1) (z6_ u6 w1 i1) ?_
   exact t6_ u6 w1 i1
 exact t_ w.drew i0
theorem xc3k {id:Nat} {o0 o1 o2 o3 o4 o5 o6 o7 o8 o9 o10 o11 o12:Oper} {a:Act} {w:World} (hm:P.follows .mixedOrders = true) (hs:Region.noSelect #[o0,o1,o2,o3,o4,o5,o6,o7,o8,o9,o10,o11,o12] = true)
  (f0:Region.free .any #[o0,o1,o2,o3,o4,o5,o6,o7,o8,o9,o10,o11,o12] #[false,false,false,false,false,false,false,false,false,false,false,false,false] 0 = true) (r0:(Region.ready .any #[o0,o1,o2,o3,o4,o5,o6,o7,o8,o9,o10,o11,o12] #[false,false,false,false,false,false,false,false,false,false,false,false,false]).contains 0 = true)
  (f1:Region.free .any #[o0,o1,o2,o3,o4,o5,o6,o7,o8,o9,o10,o11,o12] #[true,false,false,false,false,false,false,false,false,false,false,false,false] 1 = true) (r1:(Region.ready .any #[o0,o1,o2,o3,o4,o5,o6,o7,o8,o9,o10,o11,o12] #[true,false,false,false,false,false,false,false,false,false,false,false,false]).contains 1 = true)
  (f2:Region.free .any #[o0,o1,o2,o3,o4,o5,o6,o7,o8,o9,o10,o11,o12] #[true,true,false,false,false,false,false,false,false,false,false,false,false] 2 = true) (r2:(Region.ready .any #[o0,o1,o2,o3,o4,o5,o6,o7,o8,o9,o10,o11,o12] #[true,true,false,false,false,false,false,false,false,false,false,false,false]).contains 2 = true)
  (f3:Region.free .any #[o0,o1,o2,o3,o4,o5,o6,o7,o8,o9,o10,o11,o12] #[true,true,true,false,false,false,false,false,false,false,false,false,false] 3 = true) (r3:(Region.ready .any #[o0,o1,o2,o3,o4,o5,o6,o7,o8,o9,o10,o11,o12] #[true,true,true,false,false,false,false,false,false,false,false,false,false]).contains 3 = true)
  (f4:Region.free .any #[o0,o1,o2,o3,o4,o5,o6,o7,o8,o9,o10,o11,o12] #[true,true,true,true,false,false,false,false,false,false,false,false,false] 4 = true) (r4:(Region.ready .any #[o0,o1,o2,o3,o4,o5,o6,o7,o8,o9,o10,o11,o12] #[true,true,true,true,false,false,false,false,false,false,false,false,false]).contains 4 = true)
  (f6:Region.free .any #[o0,o1,o2,o3,o4,o5,o6,o7,o8,o9,o10,o11,o12] #[true,true,true,true,true,false,false,false,false,false,false,false,false] 6 = true) (r6:(Region.ready .any #[o0,o1,o2,o3,o4,o5,o6,o7,o8,o9,o10,o11,o12] #[true,true,true,true,true,false,false,false,false,false,false,false,false]).contains 6 = true)
  (f7:Region.free .any #[o0,o1,o2,o3,o4,o5,o6,o7,o8,o9,o10,o11,o12] #[true,true,true,true,true,false,true,false,false,false,false,false,false] 7 = true) (r7:(Region.ready .any #[o0,o1,o2,o3,o4,o5,o6,o7,o8,o9,o10,o11,o12] #[true,true,true,true,true,false,true,false,false,false,false,false,false]).contains 7 = true)
  (f8:Region.free .any #[o0,o1,o2,o3,o4,o5,o6,o7,o8,o9,o10,o11,o12] #[true,true,true,true,true,false,true,true,false,false,false,false,false] 8 = true) (r8:(Region.ready .any #[o0,o1,o2,o3,o4,o5,o6,o7,o8,o9,o10,o11,o12] #[true,true,true,true,true,false,true,true,false,false,false,false,false]).contains 8 = true)
  (f9:Region.free .any #[o0,o1,o2,o3,o4,o5,o6,o7,o8,o9,o10,o11,o12] #[true,true,true,true,true,false,true,true,true,false,false,false,false] 9 = true) (r9:(Region.ready .any #[o0,o1,o2,o3,o4,o5,o6,o7,o8,o9,o10,o11,o12] #[true,true,true,true,true,false,true,true,true,false,false,false,false]).contains 9 = true)
  (q_:Region.ready .any #[o0,o1,o2,o3,o4,o5,o6,o7,o8,o9,o10,o11,o12] #[true,true,true,true,true,false,true,true,true,true,false,false,false] = [5])
  (f_5_10:Region.free .any #[o0,o1,o2,o3,o4,o5,o6,o7,o8,o9,o10,o11,o12] #[true,true,true,true,true,true,true,true,true,true,false,false,false] 10 = true) (r_5_10:(Region.ready .any #[o0,o1,o2,o3,o4,o5,o6,o7,o8,o9,o10,o11,o12] #[true,true,true,true,true,true,true,true,true,true,false,false,false]).contains 10 = true)
  (q5_:Region.ready .any #[o0,o1,o2,o3,o4,o5,o6,o7,o8,o9,o10,o11,o12] #[true,true,true,true,true,true,true,true,true,true,true,false,false] = [11])
  (q5_11_:Region.ready .any #[o0,o1,o2,o3,o4,o5,o6,o7,o8,o9,o10,o11,o12] #[true,true,true,true,true,true,true,true,true,true,true,true,false] = [12])
  (q5_11_12_:Region.ready .any #[o0,o1,o2,o3,o4,o5,o6,o7,o8,o9,o10,o11,o12] #[true,true,true,true,true,true,true,true,true,true,true,true,true] = [])
  (g5:o5.guard = none)    (g11:o11.guard = none)    (g12:o12.guard = none)
  (v0 v1 v2 v3 v4 v6 v7 v8 v9:Value) (A0 A1 A2 A3 A4 A5 A6 A7 A8:Act)
  (S:World→Prop)
  (I_:World→Prop)
  (I5_:Value→World→Prop)
  (I5_11_:Value→Value→World→Prop)
  (I5_11_12_:Value→Value→Value→World→Prop)
  (v10:Value→Value)
  (p0:a.put o0.dst v0 = A0) (hy0:YieldsIf P #[o0,o1,o2,o3,o4,o5,o6,o7,o8,o9,o10,o11,o12] S o0 v0 a)
  (p1:A0.put o1.dst v1 = A1) (hy1:YieldsIf P #[o0,o1,o2,o3,o4,o5,o6,o7,o8,o9,o10,o11,o12] S o1 v1 A0)
  (p2:A1.put o2.dst v2 = A2) (hy2:YieldsIf P #[o0,o1,o2,o3,o4,o5,o6,o7,o8,o9,o10,o11,o12] S o2 v2 A1)
  (p3:A2.put o3.dst v3 = A3) (hy3:YieldsIf P #[o0,o1,o2,o3,o4,o5,o6,o7,o8,o9,o10,o11,o12] S o3 v3 A2)
  (p4:A3.put o4.dst v4 = A4) (hy4:YieldsIf P #[o0,o1,o2,o3,o4,o5,o6,o7,o8,o9,o10,o11,o12] S o4 v4 A3)
  (p6:A4.put o6.dst v6 = A5) (hy6:YieldsIf P #[o0,o1,o2,o3,o4,o5,o6,o7,o8,o9,o10,o11,o12] S o6 v6 A4)
  (p7:A5.put o7.dst v7 = A6) (hy7:YieldsIf P #[o0,o1,o2,o3,o4,o5,o6,o7,o8,o9,o10,o11,o12] S o7 v7 A5)
  (p8:A6.put o8.dst v8 = A7) (hy8:YieldsIf P #[o0,o1,o2,o3,o4,o5,o6,o7,o8,o9,o10,o11,o12] S o8 v8 A6)
  (p9:A7.put o9.dst v9 = A8) (hy9:YieldsIf P #[o0,o1,o2,o3,o4,o5,o6,o7,o8,o9,o10,o11,o12] S o9 v9 A7)
  (i0:I_ w.drew)
  (hIS:(∀ w',I_  w'→S w')∧(∀ (u5:Value) w',I5_ u5 w'→S w')∧(∀ (u5 u11:Value) w',I5_11_ u5 u11 w'→S w')∧(∀ (u5 u11 u12:Value) w',I5_11_12_ u5 u11 u12 w'→S w'))
  (s_5:∀ w',I_  w'→∀ K:Act→World→Prop,(∀ (u5:Value) w2,I5_ u5 w2→K (A8.put o5.dst u5) w2)→o5.wp P A8 w' K (NoPanic Q))
  (s5_11:∀ (u5:Value) w',I5_ u5 w'→∀ K:Act→World→Prop,(∀ (u11:Value) w2,I5_11_ u5 u11 w2→K (((A8.put o5.dst u5).put o10.dst (v10 u5)).put o11.dst u11) w2)→o11.wp P ((A8.put o5.dst u5).put o10.dst (v10 u5)) w' K (NoPanic Q))
  (s5_11_12:∀ (u5 u11:Value) w',I5_11_ u5 u11 w'→∀ K:Act→World→Prop,(∀ (u12:Value) w2,I5_11_12_ u5 u11 u12 w2→K ((((A8.put o5.dst u5).put o10.dst (v10 u5)).put o11.dst u11).put o12.dst u12) w2)→o12.wp P (((A8.put o5.dst u5).put o10.dst (v10 u5)).put o11.dst u11) w' K (NoPanic Q))
  (y_5_10:∀ (u5:Value) w',I5_ u5 w'→YieldsIf P #[o0,o1,o2,o3,o4,o5,o6,o7,o8,o9,o10,o11,o12] S o10 (v10 u5) (A8.put o5.dst u5))
  (h:∀ (u5 u11 u12:Value) w',I5_11_12_ u5 u11 u12 w'→Q .normal ((((A8.put o5.dst u5).put o10.dst (v10 u5)).put o11.dst u11).put o12.dst u12) w') :
  (Code.region id #[o0,o1,o2,o3,o4,o5,o6,o7,o8,o9,o10,o11,o12] true).wp P Q a w:=by
 subst p0 p1 p2 p3 p4 p6 p7 p8 p9
 obtain ⟨z_,z5_,z5_11_,z5_11_12_⟩:=hIS
 refine wp_region_noPanic ?_
 refine wp_region_held_drew (S:=S) hm (z_ _ i0) (fun hH=>?_)
 show wpAnyH P .any #[o0,o1,o2,o3,o4,o5,o6,o7,o8,o9,o10,o11,o12] (NoPanic Q) S 13 #[false,false,false,false,false,false,false,false,false,false,false,false,false] a w.drew
 refine wpAnyH_take (i:=0) (oi:=o0) rfl hs f0 r0 (fun _ _ _ h=>h) hy0 hH ?_
 refine wpAnyH_take (i:=1) (oi:=o1) rfl hs f1 r1 (fun _ _ _ h=>h) hy1 hH ?_
 refine wpAnyH_take (i:=2) (oi:=o2) rfl hs f2 r2 (fun _ _ _ h=>h) hy2 hH ?_
 refine wpAnyH_take (i:=3) (oi:=o3) rfl hs f3 r3 (fun _ _ _ h=>h) hy3 hH ?_
 refine wpAnyH_take (i:=4) (oi:=o4) rfl hs f4 r4 (fun _ _ _ h=>h) hy4 hH ?_
 refine wpAnyH_take (i:=6) (oi:=o6) rfl hs f6 r6 (fun _ _ _ h=>h) hy6 hH ?_
 refine wpAnyH_take (i:=7) (oi:=o7) rfl hs f7 r7 (fun _ _ _ h=>h) hy7 hH ?_
 refine wpAnyH_take (i:=8) (oi:=o8) rfl hs f8 r8 (fun _ _ _ h=>h) hy8 hH ?_
 refine wpAnyH_take (i:=9) (oi:=o9) rfl hs f9 r9 (fun _ _ _ h=>h) hy9 hH ?_
 generalize (((((((((a.put o0.dst v0).put o1.dst v1).put o2.dst v2).put o3.dst v3).put o4.dst v4).put o6.dst v6).put o7.dst v7).put o8.dst v8).put o9.dst v9) = B at *
 have wa5:∀ y,Region.wanted o5 y = true:=fun y=>by unfold Region.wanted; rw [g5]
 have wa11:∀ y,Region.wanted o11 y = true:=fun y=>by unfold Region.wanted; rw [g11]
 have wa12:∀ y,Region.wanted o12 y = true:=fun y=>by unfold Region.wanted; rw [g12]
 have t5_11_12_:∀ (u5 u11 u12:Value) w',I5_11_12_ u5 u11 u12 w'→wpAnyH P .any #[o0,o1,o2,o3,o4,o5,o6,o7,o8,o9,o10,o11,o12] (NoPanic Q) S 0 #[true,true,true,true,true,true,true,true,true,true,true,true,true] ((((B.put o5.dst u5).put o10.dst (v10 u5)).put o11.dst u11).put o12.dst u12) w':=by
  intro u5 u11 u12 w0 i0
  exact ⟨q5_11_12_,NoPanic.normal (h u5 u11 u12 w0 i0)⟩
 have t5_11_:∀ (u5 u11:Value) w',I5_11_ u5 u11 w'→wpAnyH P .any #[o0,o1,o2,o3,o4,o5,o6,o7,o8,o9,o10,o11,o12] (NoPanic Q) S 1 #[true,true,true,true,true,true,true,true,true,true,true,true,false] (((B.put o5.dst u5).put o10.dst (v10 u5)).put o11.dst u11) w':=by
  intro u5 u11 w0 i0
  refine wpAnyH_ready (rs:=[12]) q5_11_ (by simp) (AllReadyH.cons (o:=o12) rfl (fun K hK=>?_) AllReadyH.nil)
  ·rw [if_pos (wa12 _)]
   refine s5_11_12 u5 u11 w0 i0 K (fun u12 w1 i1=>hK.out _ _ (z5_11_12_ u5 u11 u12 w1 i1) (fun _=>?_))
   clear hK
   exact t5_11_12_ u5 u11 u12 w1 i1
 have t5_:∀ (u5:Value) w',I5_ u5 w'→wpAnyH P .any #[o0,o1,o2,o3,o4,o5,o6,o7,o8,o9,o10,o11,o12] (NoPanic Q) S 2 #[true,true,true,true,true,true,true,true,true,true,true,false,false] ((B.put o5.dst u5).put o10.dst (v10 u5)) w':=by
  intro u5 w0 i0
  refine wpAnyH_ready (rs:=[11]) q5_ (by simp) (AllReadyH.cons (o:=o11) rfl (fun K hK=>?_) AllReadyH.nil)
  ·rw [if_pos (wa11 _)]
   refine s5_11 u5 w0 i0 K (fun u11 w1 i1=>hK.out _ _ (z5_11_ u5 u11 w1 i1) (fun _=>?_))
   clear hK
   exact t5_11_ u5 u11 w1 i1
 have t_:∀ w',I_  w'→wpAnyH P .any #[o0,o1,o2,o3,o4,o5,o6,o7,o8,o9,o10,o11,o12] (NoPanic Q) S 4 #[true,true,true,true,true,false,true,true,true,true,false,false,false] B w':=by
  intro w0 i0
  refine wpAnyH_ready (rs:=[5]) q_ (by simp) (AllReadyH.cons (o:=o5) rfl (fun K hK=>?_) AllReadyH.nil)
  ·rw [if_pos (wa5 _)]
   refine s_5  w0 i0 K (fun u5 w1 i1=>hK.out _ _ (z5_ u5 w1 i1) (fun _=>?_))
   clear hK
   refine wpAnyH_take (i:=10) (oi:=o10) rfl hs f_5_10 r_5_10 (fun _ _ _ h=>h) (y_5_10 u5 w1 i1) (z5_ u5 w1 i1) ?_
   exact t5_ u5 w1 i1
 exact t_ w.drew i0
end
end
section
open Go.RowKit Go.BigFrame Go.Maps Go.Sort
def srtA (A:List DF):List DF:=A.mergeSort fun a b=>decide (a.nm.data.toList≤b.nm.data.toList)
theorem xa6n (A:List DF):(srtA A).Perm A:=List.mergeSort_perm _ _
theorem xb4e {A:List DF} {f:DF}:f∈srtA A↔f∈A:=(xa6n A).mem_iff
theorem xa8t (A:List DF):(srtA A).length = A.length:=(xa6n A).length_eq
theorem xa8r {A:List DF} (hd:Dist A):(srtA A).map (fun f=>f.nm.data.toList) = srtN A:=by
 unfold srtA srtN
 rw [List.map_mergeSort]
 intro a _ b _
 rfl
theorem xa8v {A:List DF} (hd:Dist A) {f:DF} (hf:f∈A):findA A f.nm.data.toList = some f:=by
 cases h:findA A f.nm.data.toList with
 | none=>exact absurd rfl (xa5g h f hf)
 | some g =>
  unfold findA at h
  have h1:=List.mem_of_find?_eq_some h
  have h2:g.nm.data.toList = f.nm.data.toList:=by simpa using List.find?_some h
  have h3:=ba_ext h2
  congr 1
  have hd2:A.Pairwise fun a b=>a.nm≠b.nm:=hd
  clear h hd
  induction hd2 with
  | nil=>simp at hf
  | @cons x l hx hl ih =>
   simp only [List.mem_cons] at hf h1
   rcases hf with rfl | hf
   ·rcases h1 with rfl | h1
    ·rfl
    ·exact absurd h3.symm (hx g h1)
   ·rcases h1 with rfl | h1
    ·exact absurd h3 (hx f hf)
    ·exact ih hf h1
def dfC (t:DF × Value):List Value:=[.string t.1.nm,t.2,.int .i64 (t.1.sy:Int),.bool t.1.nd]
theorem xb4m:∀ (ts:List (DF × Value)) (i:Nat) (h:i < ts.length) (j:Nat) (v:Value),(dfC ts[i])[j]? = some v→(ts.flatMap dfC)[i * 4 + j]? = some v
 | t :: r,0,_,j,v,hv=>by
  have hj:=(List.getElem?_eq_some_iff.1 hv).1
  rw [List.flatMap_cons,List.getElem?_append_left (by simpa using hj)]
  simpa using hv
 | t :: r,i + 1,h,j,v,hv=>by
  have h':i < r.length:=by simpa using h
  have h1:=xb4m r i h' j v (by simpa using hv)
  rw [List.flatMap_cons,List.getElem?_append_right (by simp [dfC]; omega)]
  rw [show (i + 1) * 4 + j - (dfC t).length = i * 4 + j by simp [dfC]; omega]
  exact h1
structure OwnFl (B:Nat) (w:World) (v:Value) (ts:List (DF × Value)):Prop where
 own:w.ownsRow B 74 4 v ts.length (ts.flatMap dfC)
 el:∀ t∈ts,w.ownsRow B 5 1 t.2 t.1.bs.length (t.1.bs.map u8)∧(∀ x∈t.1.bs,x < 256)∧t.1.bs.length≤140737488355328
 ap:ts.Pairwise fun a b=>∀ x∈blk a.2,x∉blk b.2
theorem OwnFl.nil (B:Nat) (w:World):OwnFl B w (.slice none 0 0) []:=⟨World.ownsRow_nil _ _ _ _,by simp,List.Pairwise.nil⟩
def RdFl (w:World) (v:Value) (ts:List (DF × Value)):Prop:=RdC 4 w v (ts.map dfC)∧∀ t∈ts,Rd w t.2 t.1.bs
theorem OwnFl.rd {B:Nat} {w:World} {v:Value} {ts:List (DF × Value)} (h:OwnFl B w v ts):RdFl w v ts:=by
 refine ⟨?_,fun t ht=>xa5n (h.el t ht).1 (h.el t ht).2.1 (h.el t ht).2.2⟩
 rcases h.own.2 with ⟨rfl,h0⟩ | ⟨g,cap,cur,rfl,_,hg,hc,hm',hs,ht⟩
 ·have:ts = []:=List.eq_nil_of_length_eq_zero h0
  subst this
  exact RdC.nil 4 w
 ·refine ⟨some ⟨g,0,none⟩,ts.length,cap,rfl,by simp,hc,by unfold maxLen at hm'; omega,fun _=>⟨g,0,rfl,fun i hi j u hu=>?_⟩⟩
  have hi':i < ts.length:=by simpa using hi
  rw [List.getElem_map] at hu
  have h9:=h.own.cells (g:=g) rfl (i * 4 + j) u (xb4m ts i hi' j u hu)
  rw [Addr.add_lit,Nat.zero_add] at h9
  rw [Nat.zero_add]
  exact h9
theorem OwnFl.kept {L:List Nat} {B:Nat} {w w':World} {v:Value} {ts:List (DF × Value)} (h:OwnFl B w v ts) (k:Kept L w w') (hv:∀ x∈blk v,x∉L) (ht:∀ t∈ts,∀ x∈blk t.2,x∉L):OwnFl B w' v ts :=
 ⟨k.owns h.own (fun x hx=>hv x (xa1a hx)),fun t h1=>⟨k.owns (h.el t h1).1 (fun x hx=>ht t h1 x (xa1a hx)),(h.el t h1).2⟩,h.ap⟩
theorem xb9x {w:World} {base e s n:Nat} {v:Value} {xs:List Value} (h:w.ownsRow base e s v n xs) {x:Nat} (hx:x∈blk v):v.ownBlock = some x:=by
 rcases h.2 with ⟨rfl,_⟩ | ⟨g,cap,cur,rfl,_,hg,_⟩
 ·simp [blk] at hx
 ·simp only [blk,List.mem_singleton] at hx
  subst hx
  rfl
def flB (v:Value) (ts:List (DF × Value)):List Nat:=blk v++ts.flatMap fun t=>blk t.2
theorem OwnFl.ge {B:Nat} {w:World} {v:Value} {ts:List (DF × Value)} (h:OwnFl B w v ts):∀ x∈flB v ts,B≤x∧x < w.heap.size:=by
 intro x hx
 simp only [flB,List.mem_append,List.mem_flatMap] at hx
 rcases hx with hx | ⟨t,ht,hx⟩
 ·exact h.own.lt x (xb9x h.own hx)
 ·exact (h.el t ht).1.lt x (xa3k (h.el t ht).1 hx)
theorem OwnFl.keptF {L:List Nat} {B:Nat} {w w':World} {v:Value} {ts:List (DF × Value)} (h:OwnFl B w v ts) (k:Kept L w w') (hn:∀ x∈flB v ts,x∉L):OwnFl B w' v ts :=
 h.kept k (fun x hx=>hn x (by simp [flB,hx])) (fun t ht x hx=>hn x (by simp only [flB,List.mem_append,List.mem_flatMap]; exact .inr ⟨t,ht,hx⟩))
theorem Tryz.infoF:(Tryz.prog.info? 74).map (fun i=>(i.zero,i.size,i.bytes)) = some (some (.agg #[.string ⟨#[]⟩,.slice none 0 0,.int .i64 0,.bool false]),4,56):=by kernel_rfl
theorem pushFl (w:World) (B:Nat) (v:Value) (ts:List (DF × Value)) (t:DF × Value) (H:Nat) (h:OwnFl B w v ts) (hnew:w.heap[H]? = some (.cells (dfC t).toArray 74 (0,0))) (ho:w.ownsRow B 5 1 t.2 t.1.bs.length (t.1.bs.map u8)∧(∀ x∈t.1.bs,x < 256)∧t.1.bs.length≤140737488355328)
  (ha:∀ a∈ts,∀ x∈blk a.2,x∉blk t.2) (hl:ts.length + 1≤1000000000) (hb:B≤w.heap.size) :
  ∃ g cap w1,(Builtin.append_ #[42,42] 42 #[v,.slice (some ⟨H,0,none⟩) 1 1]).run Tryz.prog w = .ok (.slice (some ⟨g,0,none⟩) (ts.length + 1) cap) w1 ∧
   OwnFl B w1 (.slice (some ⟨g,0,none⟩) (ts.length + 1) cap) (ts++[t])∧w.grownBy w1 v.ownBlock∧(v.ownBlock = some g∨g = w.heap.size):=by
 obtain ⟨i0,hi,hz0,hz1,hz2⟩:=info_parts Tryz.infoF
 obtain ⟨ao,len,cap0,hv2⟩:∃ ao len cap,t.2 = .slice ao len cap:=by
  obtain ⟨a,c,h9⟩:=xa1c ho.1
  exact ⟨a,_,c,h9⟩
 obtain ⟨g,cap,w1,hr,hown,hgrow,hat,hlt⟩:=run_append_lies (P:=Tryz.prog) w 42 42 B 74 i0 (.agg #[.string ⟨#[]⟩,.slice none 0 0,.int .i64 0,.bool false]) 4 56 Tryz.underlying42 hi hz0 hz1 hz2 rfl (by decide)
  v ts.length (ts.flatMap dfC) h.own ⟨H,0,none⟩ 1 1 (dfC t) rfl (World.news_of_block hnew) (by intro u hu; simp only [dfC,List.mem_cons,List.not_mem_nil,or_false] at hu; rcases hu with rfl | rfl | rfl | rfl; rfl; rw [hv2]; rfl; rfl; rfl) (by decide) (by unfold maxLen; omega) (by omega) hb _ rfl
 have k1:Kept v.ownBlock.toList w w1:=(Kept.refl _ w).grown hgrow (by intro k hk; left; simp [hk])
 have hty:∀ {x:Nat} {cs:Array Value},w.heap[x]? = some (.cells cs 5 (0,0))→x∉v.ownBlock.toList:=by
  intro x cs hx hm
  simp only [Option.mem_toList] at hm
  rcases h.own.2 with ⟨hv,_⟩ | ⟨g9,c9,cur9,hv,_,hg9,_⟩
  ·rw [hv] at hm; cases hm
  ·rw [hv] at hm
   injection hm with hm
   subst hm
   exact xa0i hx hg9 (by decide) rfl
 refine ⟨g,cap,w1,hr,⟨?_,?_,?_⟩,hgrow,hat⟩
 ·rw [List.flatMap_append,List.length_append]
  simpa using hown
 ·intro a ha2
  rw [List.mem_append,List.mem_singleton] at ha2
  have h9:w.ownsRow B 5 1 a.2 a.1.bs.length (a.1.bs.map u8)∧(∀ x∈a.1.bs,x < 256)∧a.1.bs.length≤140737488355328:=by
   rcases ha2 with h1 | rfl
   ·exact h.el a h1
   ·exact ho
  refine ⟨k1.owns h9.1 ?_,h9.2⟩
  intro x hx
  obtain ⟨cs,hc⟩:=xa0f h9.1 (xa1a hx)
  exact hty hc
 ·rw [List.pairwise_append]
  exact ⟨h.ap,List.pairwise_singleton _ _,by intro a h1 b h2; rw [List.mem_singleton] at h2; subst h2; exact ha a h1⟩
theorem xb7u {w:World} {b n:Nat} {D:DataW Unit} {f:List UInt8→Option Nat} (hown:w.ownsMap Tryz.prog 9 ptrElem b n D) (hD:MapIs D f) (s:ByteArray) (hk:keyOf Tryz.prog 9 (.string s) = some (.string s.data.toList)) {g:Nat} (hg:f s.data.toList = some g) :
  (Instr.lookup 97 (.map (some b)) (.string s) false).run Tryz.prog w = .ok (.pointer (some ⟨g,0,none⟩)) w:=by
 obtain ⟨v,ps,hrun,hv⟩:=hown.lookup keyS Tryz.underlying97 (zeroPF _) xa6d hk
 rw [(hD _).2,hg] at hv
 rw [hrun]
 rcases xa2y hv with ⟨rfl,h⟩ | ⟨g',rfl,h⟩
 ·simp at h
 ·simp at h
  have:g = g':=by omega
  subst this
  rfl
theorem xa6c {o:Oper} {a:Act} {w:World} {K:Act→World→Prop} {Q:Exit→Act→World→Prop} {s x:Operand} (ho:o.op = .call { callee:=.builtin .append,args:=#[s,x],argTypes:=#[42,42] }) (hty:o.type = 42) {v u r:Value} {w1:World} (hs:a.eval s = v) (hx:a.eval x = u)
  (hrun:(Builtin.append_ #[42,42] 42 #[v,u]).run Tryz.prog w = .ok r w1) (hK:K (a.put o.dst r) w1):o.wp Tryz.prog a w K Q:=by
 unfold Oper.wp execOp
 simp only [ho,hty,resolve,invoke,builtin,Sem.run_bind,Sem.run_pure,Result.andThen_ok,List.map_toArray,List.map_cons,List.map_nil,hs,hx,hrun]
 exact hK
theorem xb4c (a b:List UInt8):(decide (a≤b) || decide (b≤a)) = true:=by
 rcases List.le_total a b with h | h <;> simp [h]
theorem xc3h (A:List DF):(srtA A).Pairwise fun a b=>a.nm.data.toList≤b.nm.data.toList:=by
 have h:=List.pairwise_mergeSort (le:=fun a b:DF=>decide (a.nm.data.toList≤b.nm.data.toList)) (fun a b c h1 h2=>by simp at h1 h2 ⊢; exact List.le_trans h1 h2) (fun a b=>xb4c _ _) A
 exact h.imp (fun h9=>by simpa using h9)
theorem xb1t {A L:List DF} (hd:Dist A) (hp:L.Perm A) (hs:L.Pairwise fun a b=>a.nm.data.toList≤b.nm.data.toList):srtA A = L:=by
 refine List.Perm.eq_of_pairwise (le:=fun a b=>a.nm.data.toList≤b.nm.data.toList) ?_ (xc3h A) hs ((xa6n A).trans hp.symm)
 intro a b ha hb h1 h2
 have ha':=xb4e.1 ha
 have hb':=hp.mem_iff.1 hb
 have hn:=ba_ext (List.le_antisymm h1 h2)
 have e1:=xa8v hd ha'
 have e2:=xa8v hd hb'
 rw [hn,e2] at e1
 exact (Option.some.inj e1).symm
end
section
open Go.RowKit Go.BigFrame
theorem xb3d (σ:DSt):(nmsOf σ).Pairwise (fun a b=>a≤b):=by
 unfold nmsOf
 split
 ·exact List.Pairwise.nil
 ·have h:=List.pairwise_mergeSort (le:=fun a b:List UInt8=>decide (a≤b)) (fun a b c h1 h2=>by simp at h1 h2 ⊢; exact List.le_trans h1 h2) (fun a b=>xb4c _ _) (σ.A.map fun f=>f.nm.data.toList)
  unfold srtN
  exact h.imp (fun h=>by simpa using h)
theorem xb9k:∀ (s t:List UInt8),natL s < natL t→s < t
 | [],[],h=>absurd h (List.lt_irrefl _)
 | [],y :: t,_=>by simp
 | x :: s,[],h=>absurd h (List.not_lt_nil _)
 | x :: s,y :: t,h=>by
  rw [List.cons_lt_cons_iff]
  simp only [natL,List.map_cons] at h
  rcases List.cons_lt_cons_iff.1 h with h | ⟨h1,h2⟩
  ·exact Or.inl (by rw [UInt8.lt_iff_toNat_lt]; exact h)
  ·exact Or.inr ⟨UInt8.toNat_inj.1 h1,xb9k s t h2⟩
theorem xb3m {l:List Nat} (h:nbE l = 0):l = nmL (nbU l):=by
 unfold nbE at h
 unfold nbU
 split at h
 ·rename_i h1; rw [if_pos h1]; exact h1
 ·cases h
theorem num_le {s t:List UInt8} (h:s≤t) (hs:nbE (natL s) = 0) (ht:nbE (natL t) = 0):nbU (natL s)≤nbU (natL t):=by
 by_cases hc:nbU (natL s)≤nbU (natL t)
 ·exact hc
 ·exfalso
  have h1:=nmL_lt (show nbU (natL t) < nbU (natL s) by omega) (nbU_lt _)
  rw [← xb3m hs,← xb3m ht] at h1
  exact (List.not_lt.2 h) (xb9k _ _ h1)
end
section
open Go.RowKit Go.BigFrame Go.Maps Go.Sort
theorem xb1j (s:List UInt8):(strU s).size = s.length:=by simp [strU,ByteArray.size]
theorem xc0s (σ:DSt) (s:ByteArray):(stSync σ s).1 < 100:=xa4q σ s
set_option maxHeartbeats 4000000 in
theorem xb1r (g d nb ob bb:Nat) (B:List Nat) (σ:DSt) (f:FSt) (sv bv:Value) (w:World) (hr:w.heap[g]? = some (.cells (fdC f sv bv) 110 (0,0))) (hs:RdS w sv f.sg) (hsz:∀ s∈f.sg,s.length≤40) (hD:DKf w d B nb ob bb σ) (hsB:∀ x∈blk sv,x∉B) (hn:nb≤1000000000) (hob:ob + f.sg.length≤1000000000) :
  Calls Tryz.prog 47 #[.pointer (some ⟨g,0,none⟩),.pointer (some ⟨d,0,none⟩)] w fun e w'=>∃ B',e = .returned (.int .i64 ((stSyncs σ f.sg).1:Nat))∧DKf w' d B' nb (ob + f.sg.length) bb (stSyncs σ f.sg).2∧Ev w w' B B':=by
 have HS:=hide hs
 obtain ⟨sa,sl,sc,rfl,h1,h2,h3,h4⟩:=hs
 obtain ⟨c0,c1,c2,c3,c4⟩:=xa1j hr
 have H4:=hide h4
 have HSZ:=hide hsz
 have HDK:=hide hD
 have HSB:=hide hsB
 obtain ⟨L,hL⟩:∃ L,f.sg = L:=⟨_,rfl⟩
 rw [hL] at h1 H4 HSZ hob ⊢
 subst h1
 clear hsz hD hsB h4 c0 c1 c2 c4 hr HS hL
 obtain ⟨⟨E0,τ0⟩,hR0⟩:∃ R,stSyncs σ L = R:=⟨_,rfl⟩
 rw [hR0]
 have HR0:=hide hR0
 clear hR0
 dsimp only at *
 go_enter Tryz.func47,Tryz.ntmps47
 go_wp2_with fail
 clear c3
 go_loopw [13] (fun t13 wr=>∃ (i:Nat) (Bi:List Nat) (τ:DSt),i≤L.length∧t13 = .int .i64 (i:Int)∧Hid (stSyncs τ (L.drop i) = (E0,τ0))∧Hid (DKf wr d Bi nb (ob + i) bb τ)∧Hid (Ev w wr B Bi)) (fun t _=>L.length - (intOf t).toNat)
 case atStart=>exact ⟨0,B,σ,Nat.zero_le _,rfl,by rw [List.drop_zero]; exact HR0,HDK,hide (Ev.refl _ _)⟩
 case round =>
  obtain ⟨i,Bi,τ,hi,rfl,HT,HD,HE⟩:=hrel
  by_cases hlt:i < L.length
  ·have hlt':(i:Int) < L.length:=by omega
   obtain ⟨b,off,rfl,hc⟩:=uh H4 (by omega)
   have q0:=(uh HE).1.cell (hc i hlt) (uh HSB b (by simp [blk]))
   have HSI:=hide (uh HSZ L[i] (List.getElem_mem hlt))
   have HDR:=hide (List.drop_eq_getElem_cons hlt)
   generalize L[i] = s at q0 HSI HDR
   have hic:(i:Int) < sc:=by omega
   rw [xa4t] at q0
   have ha1:IntKind.i64.wrap ((i:Int) + 1) = (i:Int) + 1:=by rw [IntKind.wrap_i64]; omega
   clear hc
   have HSY:=hide (sync_F d nb (ob + i) bb Bi τ (strU s) wr (uh HD) (by rw [xb1j]; have:=uh HSI; omega) hn (by omega))
   have HLT:=hide (xc0s τ (strU s))
   obtain ⟨⟨E1,τ1⟩,hR1⟩:∃ R,stSync τ (strU s) = R:=⟨_,rfl⟩
   have HN:=hide (fun (h0:E1≠0)=>(by have h9:=uh HT; rw [uh HDR] at h9; unfold stSyncs at h9; rw [hR1,if_pos h0] at h9; exact h9:(E1,τ1) = (E0,τ0)))
   have HY:=hide (fun (h0:E1 = 0)=>(by have h9:=uh HT; rw [uh HDR] at h9; unfold stSyncs at h9; rw [hR1,if_neg (by simpa using h0)] at h9; exact h9:stSyncs τ1 (L.drop (i + 1)) = (E0,τ0)))
   rw [hR1] at HSY HLT
   clear hR1 HT HDR
   dsimp only at *
   go_wp2_with fail
   refine Calls.mono (uh HSY) ?_
   rintro e w1 ⟨B1,rfl,hd1,ev1⟩
   have HD1:=hide hd1
   have HE1:=hide ((uh HE).trans ev1)
   clear hd1 ev1 q0 HSY HD HE
   by_cases h0:E1 = 0
   ·subst h0
    have HT1:=hide (uh HY rfl)
    go_wp2_with fail
    go_roundw
    case rel=>exact ⟨i + 1,B1,τ1,by omega,by simp,HT1,HD1,HE1⟩
    case measure=>simp [intOf]; omega
   ·have h0':((E1:Int) != 0) = true:=by rw [bne_iff_ne]; omega
    have hz:=uh HN h0
    cases hz
    go_wp2_with fail
    go_ret
    first | exact ⟨B1,rfl,(uh HD1).more (Nat.le_refl _) (by omega) (Nat.le_refl _),uh HE1⟩ | exact ⟨rfl,B1,(uh HD1).more (Nat.le_refl _) (by omega) (Nat.le_refl _),uh HE1⟩
  ·have hlt':¬ (i:Int) < L.length:=by omega
   have hie:i = L.length:=by omega
   subst hie
   have hz:=uh HT
   rw [List.drop_length] at hz
   unfold stSyncs at hz
   cases hz
   go_wp2_with fail
   go_ret
   first | exact ⟨Bi,rfl,uh HD,uh HE⟩ | exact ⟨rfl,Bi,uh HD,uh HE⟩
theorem Tryz.size_found:(Tryz.prog.info? 110).map (·.size) = some 5:=by kernel_rfl
theorem xa1d {w:World} {g:Nat} {a b c d e:Value} {t:TypeId} (h:w.heap[g]? = some (.cells #[a,b,c,d,e] t (0,0))) (x y z u r:Value):(((((w.setCell ⟨g,0,none⟩ x).setCell ⟨g,1,none⟩ y).setCell ⟨g,2,none⟩ z).setCell ⟨g,3,none⟩ u).setCell ⟨g,4,none⟩ r).heap[g]? = some (.cells #[x,y,z,u,r] t (0,0)):=by
 rw [heap_setCell_same _ g 4 _ t _ (heap_setCell_same _ g 3 _ t _ (heap_setCell_same _ g 2 _ t _ (heap_setCell_same _ g 1 _ t _ (heap_setCell_same w g 0 _ t _ h))))]; rfl
theorem xa0w {L:List Nat} {w0 w:World} (k:Kept L w0 w) (g:Nat) (hg:g∈L∨w0.heap.size≤g) (x y z u r:Value):Kept L w0 (((((w.setCell ⟨g,0,none⟩ x).setCell ⟨g,1,none⟩ y).setCell ⟨g,2,none⟩ z).setCell ⟨g,3,none⟩ u).setCell ⟨g,4,none⟩ r):=((((k.setCell hg x).setCell hg y).setCell hg z).setCell hg u).setCell hg r
theorem cells5 {w:World} {g:Nat} {a b c d e:Value} {t:TypeId} (h:w.heap[g]? = some (.cells #[a,b,c,d,e] t (0,0))):w.cell? ⟨g,0,none⟩ = some a∧w.cell? ⟨g,1,none⟩ = some b∧w.cell? ⟨g,2,none⟩ = some c∧w.cell? ⟨g,3,none⟩ = some d∧w.cell? ⟨g,4,none⟩ = some e:=by
 refine ⟨?_,?_,?_,?_,?_⟩ <;> rw [cell_of_row _ _ _ _ _ _ h] <;> rfl
theorem OwnX.base {X:List Nat} {w0 w1 w:World} {v:Value} {ts:List (Nat × Value × List En)} (h:OwnX X w1 w v ts) (hb:w0.heap.size≤w1.heap.size):OwnX X w0 w v ts:=by
 refine ⟨xa3j h.own hb,fun t ht=>?_,Nat.le_trans hb h.sz,h.ap⟩
 obtain ⟨B,C,h1,h2,h3,h4,h5⟩:=h.rd t ht
 exact ⟨B,C,h1,Nat.le_trans hb h2,h3,h4,h5⟩
abbrev zFd:Array Value:=#[.int .u64 0,.int .u64 0,.int .u64 0,.slice none 0 0,.slice none 0 0]
def FindR (w w':World) (R:Option FSt) (e:Ending):Prop :=
 (R = none∧e = .returned (.tuple #[.agg zFd,.bool false])) ∨
 ∃ f sv bv ts,R = some f∧e = .returned (.tuple #[.agg (fdC f sv bv),.bool true])∧w'.ownsRow w.heap.size 9 1 sv f.sg.length (f.sg.map encStr)∧OwnX sv.ownBlock.toList w w' bv ts∧f.bs = ts.map (fun t=>(t.1,t.2.2))∧f.last < 18446744073709551615∧f.ep < 18446744073709551615∧f.sz < 18446744073709551616
theorem xb9e {σ:DSt} {wd:Int} {f:FSt} {s:List UInt8} (h:nbE (natL s)≠0):stepF σ wd f s = some f:=by unfold stepF; rw [if_pos h]
theorem xb9i {σ:DSt} {wd:Int} {f:FSt} {s:List UInt8} (h:nbE (natL s) = 0) (h2:nbU (natL s) = 18446744073709551615):stepF σ wd f s = none:=by unfold stepF; rw [if_neg (by simpa using h),if_pos h2]
theorem xb9s {σ:DSt} {wd:Int} {f:FSt} {s:List UInt8} {p:List Nat} (hp:(stRead σ (strU s)).1 = p) (h:nbE (natL s) = 0) (h2:nbU (natL s)≠18446744073709551615) (h3:sgE p≠0):stepF σ wd f s = some ⟨nbU (natL s),f.ep,f.sz,f.sg,f.bs⟩:=by unfold stepF; rw [if_neg (by simpa using h),if_neg h2,hp,if_pos h3]
theorem xb8o {σ:DSt} {wd:Int} {f:FSt} {s:List UInt8} {p:List Nat} (hp:(stRead σ (strU s)).1 = p) (h:nbE (natL s) = 0) (h2:nbU (natL s)≠18446744073709551615) (h3:sgE p = 0) (h4:¬ ((hdC p).a = nbU (natL s)∧((hdC p).d:Int) = wd∧goOnF f p = true)):stepF σ wd f s = none:=by unfold stepF; rw [if_neg (by simpa using h),if_neg h2,hp,if_neg (by simpa using h3),if_neg h4]
theorem xb8r {σ:DSt} {wd:Int} {f:FSt} {s:List UInt8} {p:List Nat} (hp:(stRead σ (strU s)).1 = p) (h:nbE (natL s) = 0) (h2:nbU (natL s)≠18446744073709551615) (h3:sgE p = 0) (h4:(hdC p).a = nbU (natL s)∧((hdC p).d:Int) = wd∧goOnF f p = true):stepF σ wd f s = some ⟨nbU (natL s),(hdC p).b,(f.sz + cntB (sgB p)) % 18446744073709551616,f.sg++[s],f.bs++sgB p⟩:=by unfold stepF; rw [if_neg (by simpa using h),if_neg h2,hp,if_neg (by simpa using h3),if_pos h4]
theorem xb3i (f:FSt) (n:Nat) (p:List Nat):goOnF ⟨n,f.ep,f.sz,f.sg,f.bs⟩ p = goOnF f p:=rfl
theorem xa5a {σ:DSt} {wd:Int} {f:FSt} {s:List UInt8} {r:List (List UInt8)} {R:Option FSt} (h:findF σ wd f (s :: r) = R) (h2:stepF σ wd f s = none):R = none:=by
 unfold findF at h; rw [h2] at h; exact h.symm
theorem xa3e {σ:DSt} {wd:Int} {f g:FSt} {s:List UInt8} {r:List (List UInt8)} {R:Option FSt} (h:findF σ wd f (s :: r) = R) (h2:stepF σ wd f s = some g):findF σ wd g r = R:=by
 unfold findF at h; rw [h2] at h; exact h
set_option maxHeartbeats 8000000 in
theorem xb8e (d nb ob bb g0:Nat) (wd:Int) (B:List Nat) (σ:DSt) (w:World) (hD:DKf w d B nb ob bb σ) (hv:VarsG g0 w) (hg0:g0≤w.heap.size) (hn:nb≤1000000000) (hob:ob≤1000000000) (hb:bb≤100000000000) (hT:rdT σ (nmsOf σ)≤1000000000000) :
  Calls Tryz.prog 46 #[.pointer (some ⟨d,0,none⟩),.int .i64 wd] w fun e w'=>FindR w w' (findF σ wd fst0 (nmsOf σ)) e∧Kept [] w w':=by
 have HDK:=hide hD
 have HVG:=hide hv
 have kA:=(Kept.refl [] w).alloc (.cells zFd 110)
 have kB:=kA.alloc (.cells zFd 110)
 have hA:=heap_alloc_new w (.cells zFd 110)
 have hA2:=((Kept.refl [] (w.alloc (.cells zFd 110))).alloc (.cells zFd 110)).heap hA (by simp)
 have hB:=heap_alloc_new (w.alloc (.cells zFd 110)) (.cells zFd 110)
 rw [show (w.alloc (.cells zFd 110)).heap.size = w.heap.size + 1 by simp] at hB
 obtain ⟨L,hL⟩:∃ L,nmsOf σ = L:=⟨_,rfl⟩
 have HNL:=hide (by rw [← hL]; exact Nat.le_trans (xb0p σ) (Nat.le_trans hD.len hn):L.length≤1000000000)
 have HNM:=hide (fun s hs=>by
  rw [← hL] at hs
  obtain ⟨f,hf,rfl⟩:=xb0z hs
  have:=(xa3n (hD.nms f hf)).2
  exact Nat.le_trans (Nat.le_of_eq (Array.length_toList)) this:∀ s∈L,s.length≤40)
 have HNC:=hide (xb6k d (max nb ob) bb B σ _ (hD.toDK.kept kB (by simp)) (by omega))
 rw [hL] at hT HNC ⊢
 obtain ⟨R,hR⟩:∃ R,findF σ wd fst0 L = R:=⟨_,rfl⟩
 rw [hR]
 have HR:=hide hR
 have HKB:=hide kB
 have HA:=hide hA2
 have HB:=hide hB
 have HW:=hide (rfl:w.heap.size = w.heap.size)
 clear hD hv kA kB hA hA2 hB hL hR
 go_enter Tryz.func46,Tryz.ntmps46
 go_wp2_with fail
 refine Calls.mono (uh HNC) ?_
 rintro e w1 ⟨v1,rfl,ho1,k1⟩
 have HRS:=hide (xa3s ho1)
 have HBL:=hide (fun x (hx:x∈blk v1)=>ho1.lt x (xa3k ho1 hx))
 have HK1:=hide ((uh HKB).trans k1 (by simp))
 have HA1:=hide (k1.heap (uh HA) (by simp))
 have HB1:=hide (k1.heap (uh HB) (by simp))
 have HZ1:=hide (by have:=k1.size; simp at this; omega:w.heap.size + 2≤w1.heap.size)
 obtain ⟨va,vl,vc,rfl,g1,g2,g3,g4⟩:=uh HRS
 subst g1
 have H4:=hide g4
 clear k1 ho1 g4 HNC HKB HA HB
 go_wp2_with fail
 have HF0:=hide (⟨uh HB1,by have:=uh HZ1; omega,World.ownsRow_nil _ _ _ _,OwnX.start w1,rfl,by decide,by decide,by decide⟩:FK w1 w1 (w.heap.size + 1) fst0 (.slice none 0 0) (.slice none 0 0) [])
 go_loopw [17] (fun t17 wr=>∃ (i:Nat) (f:FSt) (sv bv:Value) (ts:List (Nat × Value × List En)),i≤L.length∧t17 = .int .i64 (i:Int)∧Hid (findF σ wd f (L.drop i) = R)∧Hid (FK w1 wr (w.heap.size + 1) f sv bv ts)∧Hid (Kept [w.heap.size + 1] w1 wr)∧Hid (f.last < 18446744073709551615∧f.ep < 18446744073709551615∧f.sg.length≤i∧ts.length + rdT σ (L.drop i)≤1000000000000)) (fun t _=>L.length - (intOf t).toNat)
 case atStart=>exact ⟨0,fst0,_,_,[],Nat.zero_le _,rfl,by rw [List.drop_zero]; exact HR,HF0,hide (Kept.refl _ _),hide ⟨by decide,by decide,by decide,by rw [List.drop_zero]; simpa using hT⟩⟩
 case round =>
  obtain ⟨i,f,sv,bv,ts,hi,rfl,HT,HF,HK,HBD⟩:=hrel
  have HAR:=hide ((uh HK).heap (uh HA1) (by intro hm; have:=List.mem_singleton.1 hm; omega))
  by_cases hlt:i < L.length
  ·have hlt':(i:Int) < L.length:=by omega
   obtain ⟨b,off,rfl,hc⟩:=uh H4 (by omega)
   have q0:=(uh HK).cell (hc i hlt) (by intro hm; have h9:=(uh HBL b (by simp [blk])).1; have h8:b = w.heap.size + 1:=List.mem_singleton.1 hm; simp at h9; omega)
   have HSI:=hide (uh HNM L[i] (List.getElem_mem hlt))
   have HDR:=hide (List.drop_eq_getElem_cons hlt)
   generalize L[i] = s at q0 HSI HDR
   have hic:(i:Int) < vc:=by omega
   rw [xa4t] at q0
   have ha1:IntKind.i64.wrap ((i:Int) + 1) = (i:Int) + 1:=by rw [IntKind.wrap_i64]; omega
   have HVR:=hide ((((uh HVG).old (uh HK1)).on (uh HK) (fun x hx=>by rw [List.mem_singleton.1 hx]; omega)))
   have HDR2:=hide (((uh HDK).old (uh HK1)).kept (uh HK) (fun x hx hm=>by have h9:=(uh HDK).lt x hx; have:=List.mem_singleton.1 hm; omega))
   clear hc
   have HT2:=hide (by have h9:=uh HT; rw [uh HDR] at h9; exact h9:findF σ wd f (s :: L.drop (i + 1)) = R)
   have HRT:=hide (by have h9:=(uh HBD).2.2.2; rw [uh HDR,xb5s] at h9; exact h9:ts.length + ((stRead σ (strU s)).1.length + rdT σ (L.drop (i + 1)))≤1000000000000)
   have HNU:=hide (xb4g (natL s) wr (xb0s s) (by have:=uh HSI; simp [natL]; omega) (uh HVR).now)
   rw [xb2t] at HNU
   have HUL:=hide (nbU_lt (natL s))
   obtain ⟨P,hP⟩:∃ x,(stRead σ (strU s)).1 = x:=⟨_,rfl⟩
   obtain ⟨NE,hNE⟩:∃ x,nbE (natL s) = x:=⟨_,rfl⟩
   obtain ⟨NU,hNU⟩:∃ x,nbU (natL s) = x:=⟨_,rfl⟩
   have H1:=hide (fun (h:NE≠0)=>xa3e (uh HT2) (xb9e (by rw [hNE]; exact h)))
   have H2:=hide (fun (h:NE = 0) (h2:NU = 18446744073709551615)=>xa5a (uh HT2) (xb9i (by rw [hNE]; exact h) (by rw [hNU]; exact h2)))
   have H3:=hide (fun (h:NE = 0) (h2:NU≠18446744073709551615) (h3:sgE P≠0)=>(by have h9:=xa3e (uh HT2) (xb9s hP (by rw [hNE]; exact h) (by rw [hNU]; exact h2) h3); rw [hNU] at h9; exact h9:findF σ wd ⟨NU,f.ep,f.sz,f.sg,f.bs⟩ (L.drop (i + 1)) = R))
   have H4':=hide (fun (h:NE = 0) (h2:NU≠18446744073709551615) (h3:sgE P = 0) (h4:¬ ((hdC P).a = NU∧((hdC P).d:Int) = wd∧goOnF f P = true))=>xa5a (uh HT2) (xb8o hP (by rw [hNE]; exact h) (by rw [hNU]; exact h2) h3 (by rw [hNU]; exact h4)))
   have H5:=hide (fun (h:NE = 0) (h2:NU≠18446744073709551615) (h3:sgE P = 0) (h4:(hdC P).a = NU∧((hdC P).d:Int) = wd∧goOnF f P = true)=>(by have h9:=xa3e (uh HT2) (xb8r hP (by rw [hNE]; exact h) (by rw [hNU]; exact h2) h3 (by rw [hNU]; exact h4)); rw [hNU] at h9; exact h9:findF σ wd ⟨NU,(hdC P).b,(f.sz + cntB (sgB P)) % 18446744073709551616,f.sg++[s],f.bs++sgB P⟩ (L.drop (i + 1)) = R))
   have HPL:=hide (by
    rw [← hP]
    unfold stRead
    split
    ·simp
    ·split
     ·simp
     ·rename_i x hx
      exact Nat.le_trans ((uh HDK).byt x (List.mem_of_find?_eq_some hx)) hb:P.length≤100000000000)
   rw [hP] at HRT
   rw [hNE,hNU] at HNU
   rw [hNU] at HUL
   have HPQ:=hide hP
   clear hNE hNU hP HT HT2 HDR
   go_wp2_with fail
   refine Calls.mono (uh HNU) ?_
   rintro e w2 ⟨rfl,k2⟩
   have HF2:=hide ((uh HF).pass k2)
   have HK2:=hide ((uh HK).trans k2 (by simp))
   have HA2:=hide (k2.heap (uh HAR) (by simp))
   have HV2:=hide ((uh HVR).old k2)
   have HD2:=hide ((uh HDR2).old k2)
   clear k2 q0 HNU HF HK HAR HVR HDR2
   by_cases hne:NE = 0
   ·subst hne
    by_cases hnu:NU = 18446744073709551615
    ·have hq:((NU:Int) == 18446744073709551615) = true:=by rw [hnu]; rfl
     have HRN:=hide (uh H2 (by simp) hnu)
     obtain ⟨z0,z1,z2,z3,z4⟩:=cells5 (uh HA2)
     obtain ⟨y0,y1,y2,y3,y4⟩:=ffroz (uh HA2)
     clear hnu H1 H2 H3 H4' H5
     go_wp2_with fail
     refine bodyPost_ret (v:=.tuple #[.agg zFd,.bool false]) ?_ rfl ⟨Or.inl ⟨uh HRN,rfl⟩,?_⟩
     ·exact xa0b rfl _ _ w.heap.size _ zFd (0,0) _ rfl (xa1d (uh HA2) _ _ _ _ _) Tryz.underlying110 rfl Tryz.size_found _ rfl
     ·exact xa0w ((uh HK1).trans (uh HK2) (fun x hx=>Or.inr (by rw [List.mem_singleton.1 hx]; omega))) w.heap.size (Or.inr (Nat.le_refl _)) _ _ _ _ _
    ·have hq:((NU:Int) == 18446744073709551615) = false:=by simp; omega
     obtain ⟨c0,c1,c2,c3,c4⟩:=xa1j (uh HF2).row
     obtain ⟨y0,y1,y2,y3,y4⟩:=ffroz (uh HF2).row
     have kS:=(Kept.refl [w.heap.size + 1] w2).setCell (p:=⟨w.heap.size + 1,0,none⟩) (.inl (by simp)) (.int .u64 (NU:Int))
     have hS2:(w2.setCell ⟨w.heap.size + 1,0,none⟩ (.int .u64 (NU:Int))).heap[w.heap.size + 1]? = some (.cells (fdC ⟨NU,f.ep,f.sz,f.sg,f.bs⟩ sv bv) 110 (0,0)):=by rw [heap_setCell_same _ _ 0 _ _ _ (uh HF2).row]; rfl
     have HF3:=hide ((uh HF2).turn (f':=⟨NU,f.ep,f.sz,f.sg,f.bs⟩) kS hS2 rfl rfl (uh HUL) (uh HF2).ep (uh HF2).szb)
     have HK3:=hide ((uh HK2).trans kS (fun x hx=>Or.inl hx))
     have HA3:=hide (kS.heap (uh HA2) (by intro hm; have:=List.mem_singleton.1 hm; omega))
     have HD3:=hide ((uh HD2).kept kS (fun x hx hm=>by have h9:=(uh HDK).lt x hx; have:=List.mem_singleton.1 hm; omega))
     obtain ⟨W3,hW3⟩:∃ W,w2.setCell ⟨w.heap.size + 1,0,none⟩ (.int .u64 (NU:Int)) = W:=⟨_,rfl⟩
     rw [hW3] at HF3 HK3 HA3 HD3
     have HW3:=hide hW3
     have HRD:=hide (read_D d (max nb ob) bb B σ (strU s) W3 (uh HD3).toDK (by rw [xb1j]; have:=uh HSI; omega) (by omega))
     clear hW3 kS hS2 HF2 HK2 HA2 HV2 HD2
     go_upto_region 10 with fail
     rw [uh HW3]
     clear c0 c1 c2 c3 c4 y0 y1 y2 y3 y4
     go_wp2_with fail
     refine Calls.mono (uh HRD) ?_
     rintro e w4 ⟨v4,rfl,hw4,k4⟩
     rw [uh HPQ] at hw4
     have hr4:=hw4.rd
     obtain ⟨a4,n4,c4,rfl,hn4,_⟩:=id hr4
     have HF4:=hide ((uh HF3).pass k4)
     have HK4:=hide ((uh HK3).trans k4 (by simp))
     have HA4:=hide (k4.heap (uh HA3) (by simp))
     have HRO:=hide (xb7m _ P w4 hr4 (uh HPL))
     clear k4 hw4 hr4 hn4 HRD HF3 HK3 HA3 HD3 HW3
     go_wp2_with fail
     refine Calls.mono (uh HRO) ?_
     rintro e w5 ⟨b5,rfl,⟨ss,hss,ho5⟩,k5⟩
     obtain ⟨a5,c5,rfl⟩:=xa0t ho5.own
     obtain ⟨SE,hSE⟩:∃ x,sgE P = x:=⟨_,rfl⟩
     obtain ⟨⟨xa,xb,xc,xd⟩,hX⟩:∃ x,hdC P = x:=⟨_,rfl⟩
     obtain ⟨SU,hSU⟩:∃ x,sgU P = x:=⟨_,rfl⟩
     have HWG:=hide (fun (V:World) (hr:V.heap[w.heap.size + 1]? = some (.cells (fdC ⟨NU,f.ep,f.sz,f.sg,f.bs⟩ sv bv) 110 (0,0)))=>xb7z (w.heap.size + 1) xa xb xc (xd:Int) ⟨NU,f.ep,f.sz,f.sg,f.bs⟩ sv bv V hr P (by rw [hX]) (by rw [hX]))
     have HXB:=hide (by have h9:=(hd_lt P).2.1; rw [hX] at h9; exact h9:xb < 18446744073709551616)
     rw [hSE] at H3 H4' H5
     rw [hX] at H4' H5
     rw [hSE,hX,hSU]
     dsimp only at H4' H5 ⊢
     rw [hss] at H5
     have HGO:=hide (xb3i f NU P)
     have HGE:=hide (fun (h:goOnF f P = true)=>by unfold goOnF at h; rw [hX] at h; simp only [Bool.and_eq_true,decide_eq_true_eq] at h; exact h.2:goOnF f P = true→xb < 18446744073709551615)
     obtain ⟨GO,hGO⟩:∃ x,goOnF f P = x:=⟨_,rfl⟩
     have HSL:=hide (by rw [← List.length_map (f:=fun t:Nat × Value × List En=>(t.1,t.2.2)),← hss]; exact sgB_le P:ss.length≤P.length)
     rw [hGO] at H4' H5 HGO HGE
     rw [uh HGO] at HWG
     have HF5:=hide ((uh HF4).pass k5)
     have HK5:=hide ((uh HK4).trans k5 (by simp))
     have HA5:=hide (k5.heap (uh HA4) (by simp))
     have HO5:=hide ho5
     have HVB:=hide (fun x hx=>((uh HF4).bs.own.lt x hx).2:∀ x,bv.ownBlock = some x→x < w4.heap.size)
     have HVS:=hide (fun x hx=>((uh HF4).sg.lt x hx).2:∀ x,sv.ownBlock = some x→x < w4.heap.size)
     have H01:=hide (uh HK4).size
     have kN:=(Kept.refl [] w5).alloc (.cells #[.int .u64 (xa:Int),.int .u64 (xb:Int),.int .u64 (xc:Int),.int .i64 (xd:Int),.slice a5 ss.length c5,.int .i64 (SU:Int)] 83)
     have hNw:=heap_alloc_new w5 (.cells #[.int .u64 (xa:Int),.int .u64 (xb:Int),.int .u64 (xc:Int),.int .i64 (xd:Int),.slice a5 ss.length c5,.int .i64 (SU:Int)] 83)
     have HF6:=hide ((uh HF5).pass kN)
     have HK6:=hide ((uh HK5).trans kN (by simp))
     have HA6:=hide (kN.heap (uh HA5) (by simp))
     have HKN:=hide kN
     have HNW:=hide hNw
     clear k5 ho5 hSE hX hSU hss hGO kN hNw HRO HF4 HK4 HA4 HF5 HK5 HA5 HPQ HPL H1 H2 HGO
     by_cases hse:SE = 0
     ·subst hse
      go_upto_region 13 with fail
      obtain ⟨W6,hW6⟩:∃ W,w5.alloc (.cells #[.int .u64 (xa:Int),.int .u64 (xb:Int),.int .u64 (xc:Int),.int .i64 (xd:Int),.slice a5 ss.length c5,.int .i64 (SU:Int)] 83) = W:=⟨_,rfl⟩
      rw [hW6] at HF6 HK6 HA6 HKN HNW ⊢
      clear hW6
      obtain ⟨s0,s1,s2,s3,s4,s5⟩:=scells (uh HNW)
      obtain ⟨z0,z1,z2,z3,z4⟩:=cells5 (uh HA6)
      obtain ⟨y0,y1,y2,y3,y4⟩:=ffroz (uh HA6)
      by_cases ha:xa = NU
      ·have ha':((xa:Int) != (NU:Int)) = false:=by rw [ha]; simp
       by_cases hd:(xd:Int) = wd
       ·have hd':((xd:Int) != wd) = false:=by rw [hd]; simp
        by_cases hgo:GO = true
        ·have HT3:=hide (uh H5 (by simp) hnu rfl ⟨ha,hd,hgo⟩)
         have HNM9:=hide hnu
         have HEB:=hide (uh HGE hgo)
         subst hgo
         clear ha hd hnu H3 H4' H5
         go_wp2_with fail
         refine Calls.mono (uh HWG W6 (uh HF6).row) ?_
         rintro e w7 ⟨rfl,k7⟩
         have HF7:=hide ((uh HF6).pass k7)
         have HK7:=hide ((uh HK6).trans k7 (by simp))
         have HN7:=hide (k7.heap (uh HNW) (by simp))
         have HKN7:=hide ((uh HKN).trans k7 (by simp))
         clear k7 s0 s1 s2 s3 s4 s5 z0 z1 z2 z3 z4 y0 y1 y2 y3 y4 HF6 HK6 HNW HKN HWG HA6
         obtain ⟨s0,s1,s2,s3,s4,s5⟩:=scells (uh HN7)
         go_wp2_with fail
         refine Calls.mono (xb9z (w.heap.size + 1) xa xb xc SU (xd:Int) s ⟨NU,f.ep,f.sz,f.sg,f.bs⟩ sv bv (.slice a5 ss.length c5) ts ss w1 w4 w5 w7 [] (uh HF7) (uh HK7) (uh HO5) (uh HKN7) (by simp) (uh H01) (uh HVB) (uh HVS) (uh HXB) (by have:=uh HRT; have:=uh HSL; omega) (by have:=(uh HBD).2.2.1; have:=uh HNL; dsimp only; omega)) ?_
         rintro e w8 ⟨sv8,bv8,rfl,hf8,hk8⟩
         have HF8:=hide hf8
         have HK8:=hide hk8
         have HBX:=hide (by have h9:=uh HXB; have h8:=hf8.ep; exact h8:xb < 18446744073709551616)
         clear hf8 hk8 s0 s1 s2 s3 s4 s5 HF7 HK7 HN7 HKN7 HO5 HVB HVS H01
         go_wp2_with fail
         go_roundw
         case rel=>exact ⟨i + 1,_,sv8,bv8,ts++ss,by omega,by simp,HT3,HF8,HK8,hide ⟨by show NU < 18446744073709551615; have:=uh HUL; have:=uh HNM9; omega,uh HEB,by have:=(uh HBD).2.2.1; simp only [List.length_append,List.length_cons,List.length_nil]; omega,by rw [List.length_append]; have:=uh HRT; have:=uh HSL; omega⟩⟩
         case measure=>simp [intOf]; omega
        ·have HRN:=hide (uh H4' (by simp) hnu rfl (fun h=>hgo h.2.2))
         have hgo2:GO = false:=by simpa using hgo
         subst hgo2
         clear ha hd hnu hgo H3 H4' H5
         go_wp2_with fail
         refine Calls.mono (uh HWG W6 (uh HF6).row) ?_
         rintro e w7 ⟨rfl,k7⟩
         have HK7:=hide ((uh HK6).trans k7 (by simp))
         have HA7:=hide (k7.heap (uh HA6) (by simp))
         clear k7 s0 s1 s2 s3 s4 s5 z0 z1 z2 z3 z4 y0 y1 y2 y3 y4 HF6 HK6 HNW HKN HWG HA6
         obtain ⟨z0,z1,z2,z3,z4⟩:=cells5 (uh HA7)
         obtain ⟨y0,y1,y2,y3,y4⟩:=ffroz (uh HA7)
         go_wp2_with fail
         refine bodyPost_ret (v:=.tuple #[.agg zFd,.bool false]) ?_ rfl ⟨Or.inl ⟨uh HRN,rfl⟩,?_⟩
         ·exact xa0b rfl _ _ w.heap.size _ zFd (0,0) _ rfl (xa1d (uh HA7) _ _ _ _ _) Tryz.underlying110 rfl Tryz.size_found _ rfl
         ·exact xa0w ((uh HK1).trans (uh HK7) (fun x hx=>Or.inr (by rw [List.mem_singleton.1 hx]; omega))) w.heap.size (Or.inr (Nat.le_refl _)) _ _ _ _ _
       ·have hd':((xd:Int) != wd) = true:=by rw [bne_iff_ne]; exact hd
        have HRN:=hide (uh H4' (by simp) hnu rfl (fun h=>hd h.2.1))
        clear ha hd hnu H3 H4' H5
        go_wp2_with fail
        refine bodyPost_ret (v:=.tuple #[.agg zFd,.bool false]) ?_ rfl ⟨Or.inl ⟨uh HRN,rfl⟩,?_⟩
        ·exact xa0b rfl _ _ w.heap.size _ zFd (0,0) _ rfl (xa1d (uh HA6) _ _ _ _ _) Tryz.underlying110 rfl Tryz.size_found _ rfl
        ·exact xa0w ((uh HK1).trans (uh HK6) (fun x hx=>Or.inr (by rw [List.mem_singleton.1 hx]; omega))) w.heap.size (Or.inr (Nat.le_refl _)) _ _ _ _ _
      ·have ha':((xa:Int) != (NU:Int)) = true:=by rw [bne_iff_ne]; omega
       have HRN:=hide (uh H4' (by simp) hnu rfl (fun h=>ha h.1))
       clear ha hnu H3 H4' H5
       go_wp2_with fail
       refine bodyPost_ret (v:=.tuple #[.agg zFd,.bool false]) ?_ rfl ⟨Or.inl ⟨uh HRN,rfl⟩,?_⟩
       ·exact xa0b rfl _ _ w.heap.size _ zFd (0,0) _ rfl (xa1d (uh HA6) _ _ _ _ _) Tryz.underlying110 rfl Tryz.size_found _ rfl
       ·exact xa0w ((uh HK1).trans (uh HK6) (fun x hx=>Or.inr (by rw [List.mem_singleton.1 hx]; omega))) w.heap.size (Or.inr (Nat.le_refl _)) _ _ _ _ _
     ·have hse':((SE:Int) != 0) = true:=by rw [bne_iff_ne]; omega
      have HT3:=hide (uh H3 (by simp) hnu hse)
      have HNL9:=hide (by have:=uh HUL; omega:NU < 18446744073709551615)
      clear hse hnu H3 H4' H5
      go_wp2_with fail
      go_roundw
      case rel=>exact ⟨i + 1,_,sv,bv,ts,by omega,by simp,HT3,HF6,HK6,hide ⟨uh HNL9,(uh HBD).2.1,by have:=(uh HBD).2.2.1; dsimp only; omega,by have:=uh HRT; omega⟩⟩
      case measure=>simp [intOf]; omega
   ·have hne':((NE:Int) != 0) = true:=by rw [bne_iff_ne]; omega
    have HT3:=hide (uh H1 hne)
    go_wp2_with fail
    go_roundw
    case rel=>exact ⟨i + 1,f,sv,bv,ts,by omega,by simp,HT3,HF2,HK2,hide ⟨(uh HBD).1,(uh HBD).2.1,by have:=(uh HBD).2.2.1; omega,by have:=uh HRT; omega⟩⟩
    case measure=>simp [intOf]; omega
  ·have hlt':¬ (i:Int) < L.length:=by omega
   have hie:i = L.length:=by omega
   subst hie
   have hz:=uh HT
   rw [List.drop_length] at hz
   unfold findF at hz
   have HRN:=hide hz.symm
   obtain ⟨sa,sc,rfl⟩:=xa0t (uh HF).sg
   obtain ⟨ba,bc,rfl⟩:=(uh HF).bs.shape
   obtain ⟨z0,z1,z2,z3,z4⟩:=cells5 (uh HAR)
   obtain ⟨y0,y1,y2,y3,y4⟩:=ffroz (uh HAR)
   obtain ⟨c0,c1,c2,c3,c4⟩:=xa1j (uh HF).row
   clear hz HT
   go_wp2_with fail
   have kF:Kept [w.heap.size] wr _:=xa0w (Kept.refl [w.heap.size] wr) w.heap.size (Or.inl (by simp)) (.int .u64 (f.last:Int)) (.int .u64 (f.ep:Int)) (.int .u64 (f.sz:Int)) (.slice sa f.sg.length sc) (.slice ba ts.length bc)
   refine bodyPost_ret (v:=.tuple #[.agg (fdC f (.slice sa f.sg.length sc) (.slice ba ts.length bc)),.bool true]) ?_ rfl ⟨Or.inr ⟨f,_,_,ts,uh HRN,rfl,?_,?_,(uh HF).eq,(uh HBD).1,(uh HBD).2.1,(uh HF).szb⟩,?_⟩
   ·exact xa0b rfl _ _ w.heap.size _ (fdC f (.slice sa f.sg.length sc) (.slice ba ts.length bc)) (0,0) _ rfl (xa1d (uh HAR) _ _ _ _ _) Tryz.underlying110 rfl Tryz.size_found _ rfl
   ·exact xa3j (kF.owns (uh HF).sg (fun x hx hm=>by have h9:=((uh HF).sg.lt x hx).1; have:=List.mem_singleton.1 hm; have:=uh HZ1; omega)) (by have:=uh HZ1; omega)
   ·exact ((uh HF).bs.pass kF (fun x hx=>Or.inl (by rw [List.mem_singleton.1 hx]; have:=uh HZ1; omega))).base (by have:=uh HZ1; omega)
   ·exact xa0w ((uh HK1).trans (uh HK) (fun x hx=>Or.inr (by rw [List.mem_singleton.1 hx]; omega))) w.heap.size (Or.inr (Nat.le_refl _)) _ _ _ _ _
end
section
open Go Go.RowKit Go.BigFrame
section
variable {P:Program} {Q:Exit→Act→World→Prop}
theorem xc2u {id:Nat} {o0 o1 o2 o3 o4 o5 o6 o7 o8 o9 o10:Oper} {a:Act} {w:World} (hm:P.follows .mixedOrders = true) (hs:Region.noSelect #[o0,o1,o2,o3,o4,o5,o6,o7,o8,o9,o10] = true)
  (f0:Region.free .any #[o0,o1,o2,o3,o4,o5,o6,o7,o8,o9,o10] #[false,false,false,false,false,false,false,false,false,false,false] 0 = true) (r0:(Region.ready .any #[o0,o1,o2,o3,o4,o5,o6,o7,o8,o9,o10] #[false,false,false,false,false,false,false,false,false,false,false]).contains 0 = true)
  (f1:Region.free .any #[o0,o1,o2,o3,o4,o5,o6,o7,o8,o9,o10] #[true,false,false,false,false,false,false,false,false,false,false] 1 = true) (r1:(Region.ready .any #[o0,o1,o2,o3,o4,o5,o6,o7,o8,o9,o10] #[true,false,false,false,false,false,false,false,false,false,false]).contains 1 = true)
  (f2:Region.free .any #[o0,o1,o2,o3,o4,o5,o6,o7,o8,o9,o10] #[true,true,false,false,false,false,false,false,false,false,false] 2 = true) (r2:(Region.ready .any #[o0,o1,o2,o3,o4,o5,o6,o7,o8,o9,o10] #[true,true,false,false,false,false,false,false,false,false,false]).contains 2 = true)
  (f3:Region.free .any #[o0,o1,o2,o3,o4,o5,o6,o7,o8,o9,o10] #[true,true,true,false,false,false,false,false,false,false,false] 3 = true) (r3:(Region.ready .any #[o0,o1,o2,o3,o4,o5,o6,o7,o8,o9,o10] #[true,true,true,false,false,false,false,false,false,false,false]).contains 3 = true)
  (f4:Region.free .any #[o0,o1,o2,o3,o4,o5,o6,o7,o8,o9,o10] #[true,true,true,true,false,false,false,false,false,false,false] 4 = true) (r4:(Region.ready .any #[o0,o1,o2,o3,o4,o5,o6,o7,o8,o9,o10] #[true,true,true,true,false,false,false,false,false,false,false]).contains 4 = true)
  (f6:Region.free .any #[o0,o1,o2,o3,o4,o5,o6,o7,o8,o9,o10] #[true,true,true,true,true,false,false,false,false,false,false] 6 = true) (r6:(Region.ready .any #[o0,o1,o2,o3,o4,o5,o6,o7,o8,o9,o10] #[true,true,true,true,true,false,false,false,false,false,false]).contains 6 = true)
  (f7:Region.free .any #[o0,o1,o2,o3,o4,o5,o6,o7,o8,o9,o10] #[true,true,true,true,true,false,true,false,false,false,false] 7 = true) (r7:(Region.ready .any #[o0,o1,o2,o3,o4,o5,o6,o7,o8,o9,o10] #[true,true,true,true,true,false,true,false,false,false,false]).contains 7 = true)
  (q_:Region.ready .any #[o0,o1,o2,o3,o4,o5,o6,o7,o8,o9,o10] #[true,true,true,true,true,false,true,true,false,false,false] = [5])
  (f_5_8:Region.free .any #[o0,o1,o2,o3,o4,o5,o6,o7,o8,o9,o10] #[true,true,true,true,true,true,true,true,false,false,false] 8 = true) (r_5_8:(Region.ready .any #[o0,o1,o2,o3,o4,o5,o6,o7,o8,o9,o10] #[true,true,true,true,true,true,true,true,false,false,false]).contains 8 = true)
  (f_5_9:Region.free .any #[o0,o1,o2,o3,o4,o5,o6,o7,o8,o9,o10] #[true,true,true,true,true,true,true,true,true,false,false] 9 = true) (r_5_9:(Region.ready .any #[o0,o1,o2,o3,o4,o5,o6,o7,o8,o9,o10] #[true,true,true,true,true,true,true,true,true,false,false]).contains 9 = true)
  (f_5_10:Region.free .any #[o0,o1,o2,o3,o4,o5,o6,o7,o8,o9,o10] #[true,true,true,true,true,true,true,true,true,true,false] 10 = true) (r_5_10:(Region.ready .any #[o0,o1,o2,o3,o4,o5,o6,o7,o8,o9,o10] #[true,true,true,true,true,true,true,true,true,true,false]).contains 10 = true)
  (q5_:Region.ready .any #[o0,o1,o2,o3,o4,o5,o6,o7,o8,o9,o10] #[true,true,true,true,true,true,true,true,true,true,true] = [])
  (g5:o5.guard = none)
  (v0 v1 v2 v3 v4 v6 v7:Value) (A0 A1 A2 A3 A4 A5 A6:Act)
  (S:World→Prop)
  (I_:World→Prop)
  (I5_:Value→World→Prop)
  (v8:Value→Value)
  (v9:Value→Value)
  (v10:Value→Value)
  (p0:a.put o0.dst v0 = A0) (hy0:YieldsIf P #[o0,o1,o2,o3,o4,o5,o6,o7,o8,o9,o10] S o0 v0 a)
  (p1:A0.put o1.dst v1 = A1) (hy1:YieldsIf P #[o0,o1,o2,o3,o4,o5,o6,o7,o8,o9,o10] S o1 v1 A0)
  (p2:A1.put o2.dst v2 = A2) (hy2:YieldsIf P #[o0,o1,o2,o3,o4,o5,o6,o7,o8,o9,o10] S o2 v2 A1)
  (p3:A2.put o3.dst v3 = A3) (hy3:YieldsIf P #[o0,o1,o2,o3,o4,o5,o6,o7,o8,o9,o10] S o3 v3 A2)
  (p4:A3.put o4.dst v4 = A4) (hy4:YieldsIf P #[o0,o1,o2,o3,o4,o5,o6,o7,o8,o9,o10] S o4 v4 A3)
  (p6:A4.put o6.dst v6 = A5) (hy6:YieldsIf P #[o0,o1,o2,o3,o4,o5,o6,o7,o8,o9,o10] S o6 v6 A4)
  (p7:A5.put o7.dst v7 = A6) (hy7:YieldsIf P #[o0,o1,o2,o3,o4,o5,o6,o7,o8,o9,o10] S o7 v7 A5)
  (i0:I_ w.drew)
  (hIS:(∀ w',I_  w'→S w')∧(∀ (u5:Value) w',I5_ u5 w'→S w'))
  (s_5:∀ w',I_  w'→∀ K:Act→World→Prop,(∀ (u5:Value) w2,I5_ u5 w2→K (A6.put o5.dst u5) w2)→o5.wp P A6 w' K (NoPanic Q))
  (y_5_8:∀ (u5:Value) w',I5_ u5 w'→YieldsIf P #[o0,o1,o2,o3,o4,o5,o6,o7,o8,o9,o10] S o8 (v8 u5) (A6.put o5.dst u5))
  (y_5_9:∀ (u5:Value) w',I5_ u5 w'→YieldsIf P #[o0,o1,o2,o3,o4,o5,o6,o7,o8,o9,o10] S o9 (v9 u5) ((A6.put o5.dst u5).put o8.dst (v8 u5)))
  (y_5_10:∀ (u5:Value) w',I5_ u5 w'→YieldsIf P #[o0,o1,o2,o3,o4,o5,o6,o7,o8,o9,o10] S o10 (v10 u5) (((A6.put o5.dst u5).put o8.dst (v8 u5)).put o9.dst (v9 u5)))
  (h:∀ (u5:Value) w',I5_ u5 w'→Q .normal ((((A6.put o5.dst u5).put o8.dst (v8 u5)).put o9.dst (v9 u5)).put o10.dst (v10 u5)) w') :
  (Code.region id #[o0,o1,o2,o3,o4,o5,o6,o7,o8,o9,o10] true).wp P Q a w:=by
 subst p0 p1 p2 p3 p4 p6 p7
 obtain ⟨z_,z5_⟩:=hIS
 refine wp_region_noPanic ?_
 refine wp_region_held_drew (S:=S) hm (z_ _ i0) (fun hH=>?_)
 show wpAnyH P .any #[o0,o1,o2,o3,o4,o5,o6,o7,o8,o9,o10] (NoPanic Q) S 11 #[false,false,false,false,false,false,false,false,false,false,false] a w.drew
 refine wpAnyH_take (i:=0) (oi:=o0) rfl hs f0 r0 (fun _ _ _ h=>h) hy0 hH ?_
 refine wpAnyH_take (i:=1) (oi:=o1) rfl hs f1 r1 (fun _ _ _ h=>h) hy1 hH ?_
 refine wpAnyH_take (i:=2) (oi:=o2) rfl hs f2 r2 (fun _ _ _ h=>h) hy2 hH ?_
 refine wpAnyH_take (i:=3) (oi:=o3) rfl hs f3 r3 (fun _ _ _ h=>h) hy3 hH ?_
 refine wpAnyH_take (i:=4) (oi:=o4) rfl hs f4 r4 (fun _ _ _ h=>h) hy4 hH ?_
 refine wpAnyH_take (i:=6) (oi:=o6) rfl hs f6 r6 (fun _ _ _ h=>h) hy6 hH ?_
 refine wpAnyH_take (i:=7) (oi:=o7) rfl hs f7 r7 (fun _ _ _ h=>h) hy7 hH ?_
 generalize (((((((a.put o0.dst v0).put o1.dst v1).put o2.dst v2).put o3.dst v3).put o4.dst v4).put o6.dst v6).put o7.dst v7) = B at *
 have wa5:∀ y,Region.wanted o5 y = true:=fun y=>by unfold Region.wanted; rw [g5]
 have t5_:∀ (u5:Value) w',I5_ u5 w'→wpAnyH P .any #[o0,o1,o2,o3,o4,o5,o6,o7,o8,o9,o10] (NoPanic Q) S 0 #[true,true,true,true,true,true,true,true,true,true,true] ((((B.put o5.dst u5).put o8.dst (v8 u5)).put o9.dst (v9 u5)).put o10.dst (v10 u5)) w':=by
  intro u5 w0 i0
  exact ⟨q5_,NoPanic.normal (h u5 w0 i0)⟩
 have t_:∀ w',I_  w'→wpAnyH P .any #[o0,o1,o2,o3,o4,o5,o6,o7,o8,o9,o10] (NoPanic Q) S 4 #[true,true,true,true,true,false,true,true,false,false,false] B w':=by
  intro w0 i0
  refine wpAnyH_ready (rs:=[5]) q_ (by simp) (AllReadyH.cons (o:=o5) rfl (fun K hK=>?_) AllReadyH.nil)
  ·rw [if_pos (wa5 _)]
   refine s_5  w0 i0 K (fun u5 w1 i1=>hK.out _ _ (z5_ u5 w1 i1) (fun _=>?_))
   clear hK
   refine wpAnyH_take (i:=8) (oi:=o8) rfl hs f_5_8 r_5_8 (fun _ _ _ h=>h) (y_5_8 u5 w1 i1) (z5_ u5 w1 i1) ?_
   refine wpAnyH_take (i:=9) (oi:=o9) rfl hs f_5_9 r_5_9 (fun _ _ _ h=>h) (y_5_9 u5 w1 i1) (z5_ u5 w1 i1) ?_
   refine wpAnyH_take (i:=10) (oi:=o10) rfl hs f_5_10 r_5_10 (fun _ _ _ h=>h) (y_5_10 u5 w1 i1) (z5_ u5 w1 i1) ?_
   exact t5_ u5 w1 i1
 exact t_ w.drew i0
end
end
section
open Go.RowKit Go.BigFrame Go.Maps Go.Sort
theorem OwnX.re {X Y M:List Nat} {w0 wo w:World} {v:Value} {ts:List (Nat × Value × List En)} (h:OwnX X w0 wo v ts) (k:Kept M wo w) (hM:∀ x∈M,x < w0.heap.size∨wo.heap.size≤x) (hY:∀ x∈Y,x < w0.heap.size∨wo.heap.size≤x):OwnX Y w0 w v ts:=by
 refine ⟨k.owns h.own (fun b hb hm=>?_),fun t ht=>?_,Nat.le_trans h.sz k.size,fun b hb hm=>?_⟩
 ·have h1:=h.own.lt b hb
  rcases hM b hm with h2 | h2 <;> omega
 ·obtain ⟨B,C,h1,h2,h3,h4,h5⟩:=h.rd t ht
  refine ⟨B,C,Nat.le_trans h1 k.size,h2,h3,fun b hb=>?_,fun N w2 kN hN=>h5 (M++N) w2 ((k.mono (M:=M++N) (fun x hx=>by simp [hx])).trans kN (fun x hx=>Or.inl (by simp [hx]))) (fun x hx=>?_)⟩
  ·rcases hY b hb with h6 | h6
   ·exact Or.inl (by omega)
   ·exact Or.inr (by omega)
  ·rcases List.mem_append.1 hx with hx | hx
   ·rcases hM x hx with h6 | h6
    ·exact Or.inl (by omega)
    ·exact Or.inr (by omega)
   ·exact hN x hx
 ·have h1:=h.own.lt b hb
  rcases hY b hm with h2 | h2 <;> omega
theorem OwnX.none (X:List Nat) {w0 w:World} (h:w0.heap.size≤w.heap.size):OwnX X w0 w (.slice none 0 0) []:=⟨World.ownsRow_nil _ _ _ _,by simp,h,by simp [Value.ownBlock]⟩
theorem ops_F (d nb ob bb:Nat) (B:List Nat) (σ:DSt) (w:World) (h:DKf w d B nb ob bb σ) :
  Calls Tryz.prog 29 #[.pointer (some ⟨d,0,none⟩)] w fun e w'=>e = .returned (.int .i64 σ.op)∧w' = w:=by
 obtain ⟨m,u,fv,fs,h1,rfl,hA⟩:=h.ex
 exact xc2r d σ.sec m nb w u fv σ.cr σ.op σ.off σ.ft fs h1
theorem off_F (d nb ob bb:Nat) (B:List Nat) (σ:DSt) (w:World) (h:DKf w d B nb ob bb σ) :
  Calls Tryz.prog 31 #[.pointer (some ⟨d,0,none⟩)] w fun e w'=>e = .returned (.bool σ.off)∧w' = w:=by
 obtain ⟨m,u,fv,fs,h1,rfl,hA⟩:=h.ex
 exact xc3f d σ.sec m nb w u fv σ.cr σ.op σ.off σ.ft fs h1
structure OpR (w w':World) (d nb ob bb:Nat) (B B':List Nat) (A:OpA) (lp bv:Value) (ts:List (Nat × Value × List En)):Prop where
 dk:DKf w' d B' (nb + 1) (ob + nb + 4) (bb + 48) A.σ
 ev:Ev w w' B B'
 bs:A.bs = ts.map (fun t=>(t.1,t.2.2))
 ow:OwnX B' w w' bv ts
 no:A.l = none→lp = .pointer none
 so:∀ s,A.l = some s→∃ l,lp = .pointer (some ⟨l,0,none⟩)∧w.heap.size≤l∧LK w' l d B' (nb + 1) (ob + nb + 4) (bb + 48) A.σ s∧OwnX (l :: B') w w' bv ts
theorem OpR.fail {w w':World} {d nb ob bb:Nat} {B B':List Nat} {e:Nat} {τ:DSt} (hd:DKf w' d B' (nb + 1) (ob + nb + 4) (bb + 48) τ) (ev:Ev w w' B B'):OpR w w' d nb ob bb B B' ⟨e,τ,none,[]⟩ (.pointer none) (.slice none 0 0) [] :=
 ⟨hd,ev,rfl,OwnX.none _ ev.1.size,fun _=>rfl,fun s h=>by cases h⟩
def OpP (w:World) (d nb ob bb:Nat) (B:List Nat) (A:OpA) (e:Ending) (w':World):Prop:=∃ B' lp bv ts,e = .returned (.tuple #[lp,bv,.int .i64 (A.e:Nat)])∧OpR w w' d nb ob bb B B' A lp bv ts
def opF2 (σ:DSt) (wd lim:Int):Option FSt→OpA
 | none=>⟨11,σ,none,[]⟩
 | some f=>opOf σ wd lim f
theorem opD_eq {σ:DSt} {wd lim:Int} (h:argOk wd lim = true) (h2:σ.off = false):opD σ wd lim = opF2 σ wd lim (findF σ wd fst0 (nmsOf σ)):=by
 unfold opD
 rw [h,if_neg (by simp),h2,if_neg (by simp)]
 cases findF σ wd fst0 (nmsOf σ) <;> rfl
theorem xa9o {σ:DSt} {wd:Int}:∀ {l:List (List UInt8)} {f g:FSt},findF σ wd f l = some g→g.sg.length≤f.sg.length + l.length∧∀ x∈g.sg,x∈f.sg∨x∈l
 | [],f,g,h=>by unfold findF at h; cases h; exact ⟨by simp,fun x hx=>Or.inl hx⟩
 | s :: r,f,g,h=>by
  cases hs:stepF σ wd f s with
  | none=>have:=xa5a h hs; cases this
  | some q =>
   have ih:=xa9o (xa3e h hs)
   have hq:q.sg.length≤f.sg.length + 1∧∀ x∈q.sg,x∈f.sg∨x = s:=by
    unfold stepF at hs
    split at hs
    ·cases hs; exact ⟨by omega,fun x hx=>Or.inl hx⟩
    ·split at hs
     ·cases hs
     ·split at hs
      ·cases hs; exact ⟨by show f.sg.length≤_; omega,fun x hx=>Or.inl hx⟩
      ·split at hs
       ·cases hs
        exact ⟨by show (f.sg++[s]).length≤_; simp,fun x hx=>by have hx2:x∈f.sg++[s]:=hx; simpa using hx2⟩
       ·cases hs
   refine ⟨by simp only [List.length_cons]; omega,fun x hx=>?_⟩
   rcases ih.2 x hx with h1 | h1
   ·rcases hq.2 x h1 with h2 | h2
    ·exact Or.inl h2
    ·exact Or.inr (by simp [h2])
   ·exact Or.inr (by simp [h1])
set_option maxHeartbeats 2000000 in
theorem xb1m (p:Value) (hp:p = .pointer none∨∃ d,p = .pointer (some ⟨d,0,none⟩)) (wd lim:Int) (w:World) (h:argOk wd lim = false) :
  Calls Tryz.prog 15 #[p,.int .i64 wd,.int .i64 lim] w fun e w'=>e = .returned (.tuple #[.pointer none,.slice none 0 0,.int .i64 1])∧w' = w:=by
 have h0:¬ (1≤wd∧wd≤32∧1≤lim∧lim≤1048576):=by simpa [argOk] using h
 by_cases c1:wd < 1
 ·clear h h0
  go_enter Tryz.func15,Tryz.ntmps15
  go_wp2_with fail
  refine bodyPost_ret (v:=.tuple #[.pointer none,.slice none 0 0,.int .i64 1]) (by rw [results_tmp3 rfl]; rfl) rfl ⟨rfl,rfl⟩
 ·by_cases c2:32 < wd
  ·clear h h0
   go_enter Tryz.func15,Tryz.ntmps15
   go_wp2_with fail
   refine bodyPost_ret (v:=.tuple #[.pointer none,.slice none 0 0,.int .i64 1]) (by rw [results_tmp3 rfl]; rfl) rfl ⟨rfl,rfl⟩
  ·by_cases c3:lim < 1
   ·clear h h0
    go_enter Tryz.func15,Tryz.ntmps15
    go_wp2_with fail
    refine bodyPost_ret (v:=.tuple #[.pointer none,.slice none 0 0,.int .i64 1]) (by rw [results_tmp3 rfl]; rfl) rfl ⟨rfl,rfl⟩
   ·have c4:1048576 < lim:=by omega
    clear h h0
    go_enter Tryz.func15,Tryz.ntmps15
    go_wp2_with fail
    refine bodyPost_ret (v:=.tuple #[.pointer none,.slice none 0 0,.int .i64 1]) (by rw [results_tmp3 rfl]; rfl) rfl ⟨rfl,rfl⟩
set_option maxHeartbeats 2000000 in
theorem xb6r (wd lim:Int) (w:World) (h:argOk wd lim = true) :
  Calls Tryz.prog 15 #[.pointer none,.int .i64 wd,.int .i64 lim] w fun e w'=>e = .returned (.tuple #[.pointer none,.slice none 0 0,.int .i64 5])∧w' = w:=by
 have h0:1≤wd∧wd≤32∧1≤lim∧lim≤1048576:=by simpa [argOk] using h
 have c1:¬ wd < 1:=by omega
 have c2:¬ 32 < wd:=by omega
 have c3:¬ lim < 1:=by omega
 have c4:¬ 1048576 < lim:=by omega
 clear h h0
 go_enter Tryz.func15,Tryz.ntmps15
 go_wp2_with fail
 refine bodyPost_ret (v:=.tuple #[.pointer none,.slice none 0 0,.int .i64 5]) (by rw [results_tmp3 rfl]; rfl) rfl ⟨rfl,rfl⟩
set_option maxHeartbeats 8000000 in
theorem xa9z (d nb ob bb g0:Nat) (wd lim:Int) (B:List Nat) (σ:DSt) (w:World) (hD:DKf w d B nb ob bb σ) (hv:VarsG g0 w) (hB:∀ x∈B,g0≤x) (hg0:g0≤w.heap.size) (hn:nb≤400000000) (hob:ob≤400000000) (hb:bb≤90000000000) (hT:rdT σ (nmsOf σ)≤1000000000000) :
  Calls Tryz.prog 15 #[.pointer (some ⟨d,0,none⟩),.int .i64 wd,.int .i64 lim] w fun e w'=>OpP w d nb ob bb B (opD σ wd lim) e w':=by
 by_cases hag:argOk wd lim = true
 ·have h0:1≤wd∧wd≤32∧1≤lim∧lim≤1048576:=by simpa [argOk] using hag
  have HWB:=hide (by unfold wideB; simp; omega:wideB wd = true)
  have HLB:=hide (⟨h0.2.2.1,h0.2.2.2⟩:1≤lim∧lim≤1048576)
  have c1:¬ wd < 1:=by omega
  have c2:¬ 32 < wd:=by omega
  have c3:¬ lim < 1:=by omega
  have c4:¬ 1048576 < lim:=by omega
  have hof:=off_F d nb ob bb B σ w hD
  by_cases hoff:σ.off = true
  ·have hA:opD σ wd lim = ⟨12,σ,none,[]⟩:=by unfold opD; rw [hag,if_neg (by simp),if_pos hoff]
   rw [hA]
   rw [hoff] at hof
   have HOF:=hide hof
   have HDK:=hide (hD.more (nb':=nb + 1) (ob':=ob + nb + 4) (bb':=bb + 48) (by omega) (by omega) (by omega))
   clear hag h0 hof hoff hA hD hv hB
   go_enter Tryz.func15,Tryz.ntmps15
   go_wp2_with fail
   refine Calls.mono (uh HOF) ?_
   rintro e w' ⟨rfl,rfl⟩
   go_wp2_with fail
   refine bodyPost_ret (v:=.tuple #[.pointer none,.slice none 0 0,.int .i64 12]) (by rw [results_tmp3 rfl]; rfl) rfl ⟨B,_,_,[],rfl,OpR.fail (uh HDK) (Ev.refl _ _)⟩
  ·have hoff':σ.off = false:=by simpa using hoff
   have HA:=hide (opD_eq hag hoff')
   rw [hoff'] at hof
   have HOF:=hide hof
   have HDK:=hide hD
   have HVG:=hide hv
   have HB:=hide hB
   have HFI:=hide (xb8e d nb ob bb g0 wd B σ w hD hv hg0 (by omega) (by omega) (by omega) hT)
   have HSG:=hide (fun f (h:findF σ wd fst0 (nmsOf σ) = some f)=>by
    have h9:=xa9o h
    refine ⟨Nat.le_trans h9.1 (by show 0 + _≤_; rw [Nat.zero_add]; exact Nat.le_trans (xb0p σ) hD.len),fun s hs=>?_⟩
    rcases h9.2 s hs with h8 | h8
    ·cases h8
    ·obtain ⟨q,hq,rfl⟩:=xb0z h8
     exact Nat.le_trans (Nat.le_of_eq (Array.length_toList)) (xa3n (hD.nms q hq)).2:∀ f,findF σ wd fst0 (nmsOf σ) = some f→f.sg.length≤nb∧∀ s∈f.sg,s.length≤40)
   obtain ⟨R,hR⟩:∃ R,findF σ wd fst0 (nmsOf σ) = R:=⟨_,rfl⟩
   obtain ⟨A,hA⟩:∃ A,opD σ wd lim = A:=⟨_,rfl⟩
   rw [hR] at HFI HA
   rw [hA] at HA ⊢
   simp only [hR] at HSG
   clear hag h0 hof hoff hoff' hR hA hD hv hB hT
   go_enter Tryz.func15,Tryz.ntmps15
   go_wp2_with fail
   refine Calls.mono (uh HOF) ?_
   rintro e w' ⟨rfl,rfl⟩
   go_wp2_with fail
   refine Calls.mono (uh HFI) ?_
   rintro e w1 ⟨⟨rfl,rfl⟩ | ⟨f,sv,bv,ts,rfl,rfl,ho,hx,heq,hlast,hep,hsz⟩,k1⟩
   ·have hz:=uh HA
    simp only [opF2] at hz
    subst hz
    have kN:=k1.alloc (.cells zFd 110)
    have HFA:=hide (OpR.fail (e:=11) ((uh HDK).kept kN (by simp) |>.more (nb':=nb + 1) (ob':=ob + nb + 4) (bb':=bb + 48) (by omega) (by omega) (by omega)) (⟨kN.mono (by simp),fun x hx=>Or.inl hx⟩:Ev w' _ B B))
    clear k1 kN HFI HOF HSG
    go_wp2_with fail
    refine bodyPost_ret (v:=.tuple #[.pointer none,.slice none 0 0,.int .i64 11]) (by rw [results_tmp3 rfl]; rfl) rfl ⟨B,_,_,[],rfl,uh HFA⟩
   ·have hz:=uh HA
    simp only [opF2] at hz
    obtain ⟨sa,sc,rfl⟩:=xa0t ho
    obtain ⟨ba,bc,rfl⟩:=hx.shape
    have kN:=(Kept.refl [] w1).alloc (.cells #[.int .u64 (f.last:Int),.int .u64 (f.ep:Int),.int .u64 (f.sz:Int),.slice sa f.sg.length sc,.slice ba ts.length bc] 110)
    have hN:(w1.alloc (.cells #[.int .u64 (f.last:Int),.int .u64 (f.ep:Int),.int .u64 (f.sz:Int),.slice sa f.sg.length sc,.slice ba ts.length bc] 110)).heap[w1.heap.size]? = some (.cells (fdC f (.slice sa f.sg.length sc) (.slice ba ts.length bc)) 110 (0,0)):=heap_alloc_new w1 (.cells #[.int .u64 (f.last:Int),.int .u64 (f.ep:Int),.int .u64 (f.sz:Int),.slice sa f.sg.length sc,.slice ba ts.length bc] 110)
    have HK1:=hide (k1.trans kN (by simp))
    have HZ:=hide hz
    have HSZ1:=hide k1.size
    have HHX:=hide hx
    have HHQ:=hide heq
    have HSF:=hide ((uh HSG) f rfl)
    have HLA:=hide hlast
    have HEP:=hide hep
    have HSZ:=hide hsz
    have HN:=hide hN
    have HD2:=hide ((uh HDK).old (k1.trans kN (by simp)))
    have HRS:=hide ((xa3s ho).kept kN (by simp))
    have HBS:=hide (fun x (hx:x∈blk (.slice sa f.sg.length sc)) (hm:x∈B)=>by
     have h9:=(ho.lt x (xa3k ho hx)).1
     have:=(uh HDK).lt x hm
     omega:∀ x∈blk (.slice sa f.sg.length sc),x∉B)
    clear hz k1 kN hN hx ho heq hlast hep hsz HFI HOF HSG HA
    unfold fdC
    go_upto_region 8 with fail
    obtain ⟨W2,hW2⟩:∃ W,w1.alloc (.cells #[.int .u64 (f.last:Int),.int .u64 (f.ep:Int),.int .u64 (f.sz:Int),.slice sa f.sg.length sc,.slice ba ts.length bc] 110) = W:=⟨_,rfl⟩
    have HS2:=hide (by rw [← hW2]; simp:W2.heap.size = w1.heap.size + 1)
    rw [hW2] at HK1 HN HD2 HRS ⊢
    have HK12:=hide (by rw [← hW2]; exact (Kept.refl [] w1).alloc (.cells #[.int .u64 (f.last:Int),.int .u64 (f.ep:Int),.int .u64 (f.sz:Int),.slice sa f.sg.length sc,.slice ba ts.length bc] 110):Kept [] w1 W2)
    clear hW2
    have HFL:=hide (xb1r w1.heap.size d nb ob bb B σ f (.slice sa f.sg.length sc) (.slice ba ts.length bc) W2 (uh HN) (uh HRS) (uh HSF).2 (uh HD2) (uh HBS) (by omega) (by have:=(uh HSF).1; omega))
    obtain ⟨⟨E3,τ3⟩,hR3⟩:∃ R,stSyncs σ f.sg = R:=⟨_,rfl⟩
    obtain ⟨⟨E5,τ5⟩,hR5⟩:∃ R,stBegin τ3 (f.last + 1) (f.ep + 1) f.sz wd = R:=⟨_,rfl⟩
    have HA1:=hide (fun (h0:E3≠0)=>(by rw [uh HZ]; unfold opOf; rw [hR3]; dsimp only; rw [if_pos h0]:A = ⟨E3,τ3,none,[]⟩))
    have HA2:=hide (fun (h0:E3 = 0) (h1:E5≠0)=>(by rw [uh HZ]; unfold opOf; rw [hR3]; dsimp only; rw [hR5]; dsimp only; rw [if_neg (by simpa using h0),if_pos h1]:A = ⟨E5,τ5,none,[]⟩))
    have HA3:=hide (fun (h0:E3 = 0) (h1:E5 = 0)=>(by rw [uh HZ]; unfold opOf; rw [hR3]; dsimp only; rw [hR5]; dsimp only; rw [if_neg (by simpa using h0),if_neg (by simpa using h1)]:A = ⟨0,τ5,some ⟨f.last + 1,f.ep + 1,f.sz,wd,48,0,lim,f.sz,0⟩,f.bs⟩))
    rw [hR3] at HFL
    have HR5:=hide hR5
    clear hR3 hR5 HZ
    dsimp only at *
    go_wp2_with fail
    refine Calls.mono (uh HFL) ?_
    rintro e w3 ⟨B3,rfl,hd3,ev3⟩
    have HD3:=hide hd3
    have HE3:=hide (Ev.pre (uh HK1) ev3)
    have HN3:=hide (ev3.1.heap (uh HN) (by intro hm; have:=(uh HDK).lt _ hm; have:=uh HSZ1; omega))
    have HS3:=hide ev3.1.size
    have HKE:=hide ev3
    clear hd3 ev3 HFL
    by_cases h3:E3 = 0
    ·subst h3
     obtain ⟨e0,e1,e2,e3,e4⟩:=xa1j (uh HN3)
     have hw1:IntKind.u64.wrap ((f.last:Int) + 1) = ((f.last + 1:Nat):Int):=by rw [IntKind.wrap_u64]; have:=uh HLA; omega
     have hw2:IntKind.u64.wrap ((f.ep:Int) + 1) = ((f.ep + 1:Nat):Int):=by rw [IntKind.wrap_u64]; have:=uh HEP; omega
     have kC:=(Kept.refl [] w3).alloc (.cells (curC d (f.last + 1) (f.ep + 1) f.sz wd 0 0) 115)
     have hC:=heap_alloc_new w3 (.cells (curC d (f.last + 1) (f.ep + 1) f.sz wd 0 0) 115)
     have HD4:=hide ((uh HD3).old kC)
     have HN4:=hide (kC.heap (uh HN3) (by simp))
     have HKC:=hide kC
     have HC:=hide hC
     clear kC hC
     go_upto_region 14 with fail
     clear e0 e1 e2 e3 e4 hw1 hw2
     obtain ⟨W4,hW4⟩:∃ W,w3.alloc (.cells (curC d (f.last + 1) (f.ep + 1) f.sz wd 0 0) 115) = W:=⟨_,rfl⟩
     have HW4':=hide hW4
     have HS4:=hide (by rw [← hW4]; simp:W4.heap.size = w3.heap.size + 1)
     rw [hW4] at HD4 HN4 HKC HC
     have hW5:w3.alloc (.cells #[.pointer (some ⟨d,0,none⟩),.int .u64 ((f.last:Int) + 1),.int .u64 ((f.ep:Int) + 1),.int .u64 (f.sz:Int),.int .i64 wd,.int .i64 0,.int .i64 0] 115) = W4:=by rw [← hW4]; unfold curC; push_cast; rfl
     rw [hW5]
     clear hW5
     clear hW4 HW4'
     have HBG:=hide (xa8q w3.heap.size (f.last + 1) (f.ep + 1) f.sz d nb (ob + f.sg.length) bb g0 wd B3 τ3 W4 (uh HC) (uh HWB) (by have:=uh HLA; omega) (((uh HVG).on (uh HE3).1 (uh HB)).old (uh HKC)) ((uh HE3).ge (uh HB) hg0) (by have:=(uh HE3).1.size; have:=(uh HKC).size; omega) (uh HD4) (fun hm=>by have:=(uh HD3).lt _ hm; omega) (by omega) (by have:=(uh HSF).1; omega) (by omega))
     rw [uh HR5] at HBG
     dsimp only at HBG
     go_wp2_with fail
     refine Calls.mono (uh HBG) ?_
     rintro e w5 ⟨B5,rfl,hd5,k5,hb5,hr5⟩
     dsimp only at hd5
     have HSB:=hide (uh HSF).1
     have HD5:=hide (hd5.more (Nat.le_refl _) (by have:=uh HSB; omega:ob + f.sg.length + 4≤ob + nb + 4) (Nat.le_refl _))
     have HK5:=hide k5
     have HR5':=hide hr5
     have HB5:=hide hb5
     have HN5:=hide (k5.heap (uh HN4) (by
       intro hm
       rcases List.mem_cons.1 hm with h9 | h9
       ·have:=uh HS3
        have:=uh HS2
        omega
       ·have h8:=(uh HD3).lt _ h9
        rcases (uh HKE).2 _ h9 with h7 | h7
        ·have:=(uh HDK).lt _ h7
         have:=uh HSZ1
         omega
        ·have:=uh HS2
         omega))
     have k35:Kept (w3.heap.size :: B3) w3 w5:=((uh HKC).mono (M:=w3.heap.size :: B3) (by simp)).trans k5 (fun x hx=>Or.inl hx)
     have HE5:=hide (⟨(uh HE3).1.trans k35 (fun x hx=>by
       rcases List.mem_cons.1 hx with rfl | hx
       ·exact Or.inr (uh HE3).1.size
       ·exact (uh HE3).2 x hx),fun x hx=>by
       rcases hb5 x hx with h9 | h9
       ·exact (uh HE3).2 x h9
       ·exact Or.inr (by have:=(uh HE3).1.size; have:=(uh HKC).size; omega)⟩:Ev w' w5 B B5)
     have HQ5:=hide (fun x hx=>by
       rcases hb5 x hx with h9 | h9
       ·rcases (uh HKE).2 x h9 with h8 | h8
        ·exact Or.inl ((uh HDK).lt x h8)
        ·exact Or.inr (by have:=uh HS2; omega)
       ·exact Or.inr (by have:=uh HS4; have:=uh HS3; have:=uh HS2; omega):∀ x∈B5,x < w'.heap.size∨w1.heap.size≤x)
     have HKX:=hide (((uh HK12).mono (M:=w3.heap.size :: (B3++B)) (by simp)).trans (((uh HKE).1.mono (M:=w3.heap.size :: (B3++B)) (fun x hx=>by simp [hx])).trans (k35.mono (M:=w3.heap.size :: (B3++B)) (fun x hx=>by
       rcases List.mem_cons.1 hx with rfl | hx
       ·simp
       ·simp [hx])) (fun x hx=>Or.inl hx)) (fun x hx=>Or.inl hx):Kept (w3.heap.size :: (B3++B)) w1 w5)
     have HMX:=hide (fun x hx=>by
       rcases List.mem_cons.1 hx with rfl | hx
       ·exact Or.inr (by have:=uh HS3; have:=uh HS2; omega)
       ·rcases List.mem_append.1 hx with hx | hx
        ·rcases (uh HKE).2 x hx with h8 | h8
         ·exact Or.inl ((uh HDK).lt x h8)
         ·exact Or.inr (by have:=uh HS2; omega)
        ·exact Or.inl ((uh HDK).lt x hx):∀ x∈w3.heap.size :: (B3++B),x < w'.heap.size∨w1.heap.size≤x)
     clear hd5 k5 hb5 hr5 HBG HD4 HN4 HKC HC k35
     by_cases h5:E5 = 0
     ·subst h5
      have hz:=uh HA3 (by simp) (by simp)
      subst hz
      go_upto_region 17 with fail
      obtain ⟨e0,e1,e2,e3,e4⟩:=xa1j (uh HN5)
      obtain ⟨q0,q1,q2,q3,q4,q5,q6⟩:=xa2k (uh HR5')
      refine xc2u (by kernel_rfl) (by kernel_rfl) (by kernel_rfl) (by kernel_rfl) (by kernel_rfl) (by kernel_rfl) (by kernel_rfl) (by kernel_rfl) (by kernel_rfl) (by kernel_rfl) (by kernel_rfl) (by kernel_rfl) (by kernel_rfl) (by kernel_rfl) (by kernel_rfl) (by kernel_rfl) (by kernel_rfl) (by kernel_rfl) (by kernel_rfl) (by kernel_rfl) (by kernel_rfl) (by kernel_rfl) (by kernel_rfl) (by kernel_rfl) rfl
       (.agg (curC d (f.last + 1) (f.ep + 1) f.sz wd 48 0)) (.int .i64 lim) (.pointer (some ⟨w1.heap.size,2,none⟩)) (.int .u64 (f.sz:Int)) (.agg (lgC d ⟨f.last + 1,f.ep + 1,f.sz,wd,48,0,lim,f.sz,0⟩)) (.pointer (some ⟨w1.heap.size,4,none⟩)) (.slice ba ts.length bc) _ _ _ _ _ _ _
       (fun w'=>Kept [] w5 w')
       (fun w'=>Kept [] w5 w')
       (fun u5 w'=>∃ l,u5 = .pointer (some ⟨l,0,none⟩)∧w5.heap.size≤l∧w'.heap[l]? = some (.cells (lgC d ⟨f.last + 1,f.ep + 1,f.sz,wd,48,0,lim,f.sz,0⟩) 117 (0,0))∧Kept [] w5 w')
       (fun u5=>u5) (fun _=>.slice ba ts.length bc) (fun _=>.int .i64 0)
       (by simp only [Act.put,sa1,sa2,sa3]; rfl) (by exact Or.inl ⟨by rfl,fun W' hW'=>by have h0:=hW'.cell q0 (by simp); have h1:=hW'.cell q1 (by simp); have h2:=hW'.cell q2 (by simp); have h3:=hW'.cell q3 (by simp); have h4:=hW'.cell q4 (by simp); have h5:=hW'.cell q5 (by simp); have h6:=hW'.cell q6 (by simp); go_simp; unfold curC; push_cast; rfl⟩)
       (by simp only [Act.put,sa1,sa2,sa3]; rfl) (by exact Or.inl ⟨by rfl,fun W' hW'=>by go_simp⟩)
       (by simp only [Act.put,sa1,sa2,sa3]; rfl) (by exact Or.inl ⟨by rfl,fun W' hW'=>by go_simp⟩)
       (by simp only [Act.put,sa1,sa2,sa3]; rfl) (by exact Or.inl ⟨by rfl,fun W' hW'=>by have h2:=hW'.cell e2 (by simp); go_simp⟩)
       (by simp only [Act.put,sa1,sa2,sa3]; rfl) (by exact Or.inl ⟨by rfl,fun W' hW'=>by unfold curC lgC; go_simp; try (push_cast; rfl)⟩)
       (by simp only [Act.put,sa1,sa2,sa3]; rfl) (by exact Or.inl ⟨by rfl,fun W' hW'=>by go_simp⟩)
       (by simp only [Act.put,sa1,sa2,sa3]; rfl) (by exact Or.inl ⟨by rfl,fun W' hW'=>by have h4:=hW'.cell e4 (by simp); go_simp⟩)
       (Kept.refl [] w5).drew
       ⟨fun w' h=>h,fun u5 w' h=>h.choose_spec.2.2.2⟩
       (by
        intro w' k K hK
        have hK2:=hK _ _ ⟨w'.heap.size,rfl,k.size,heap_alloc_new w' (.cells (lgC d ⟨f.last + 1,f.ep + 1,f.sz,wd,48,0,lim,f.sz,0⟩) 117),k.alloc _⟩
        clear hK
        simp only [Act.put,sa1,sa2,sa3] at hK2 ⊢
        unfold Oper.wp execOp
        go_simp
        exact hK2)
       (by rintro u5 w' ⟨l,rfl,_⟩; exact Or.inl ⟨by rfl,fun W' hW'=>by go_simp⟩)
       (by rintro u5 w' ⟨l,rfl,_⟩; exact Or.inl ⟨by rfl,fun W' hW'=>by go_simp⟩)
       (by rintro u5 w' ⟨l,rfl,_⟩; exact Or.inl ⟨by rfl,fun W' hW'=>by go_simp⟩)
       ?_
      rintro u5 w6 ⟨l,rfl,hl,hrl,k6⟩
      simp only [Act.put,sa1,sa2,sa3]
      clear e0 e1 e2 e3 e4 q0 q1 q2 q3 q4 q5 q6
      have hdk:=(uh HD5).old k6
      have hlB:l∉B5:=fun hm=>by have:=(uh HD5).lt _ hm; omega
      have HFN:=hide (⟨hdk,⟨(uh HE5).1.trans k6 (by simp),(uh HE5).2⟩,(uh HHQ),(uh HHX).re ((uh HKX).trans k6 (by simp)) (uh HMX) (uh HQ5),(fun h=>(by cases h)),fun s hs=>by
        cases hs
        exact ⟨l,rfl,by have:=(uh HE5).1.size; omega,⟨hrl,hdk,hlB,by have:=uh HLA; show f.last + 1 < _; omega,by have:=uh HEP; show f.ep + 1 < _; omega,uh HSZ,uh HWB,by show 0≤_; omega,by show 48≤_; omega,uh HLB,by show 0 < 100; omega⟩,(uh HHX).re ((uh HKX).trans k6 (by simp)) (uh HMX) (fun x hx=>by
         rcases List.mem_cons.1 hx with rfl | hx
         ·exact Or.inr (by have:=(uh HKX).size; omega)
         ·exact uh HQ5 x hx)⟩⟩:OpR w' w6 d nb ob bb B B5 ⟨0,τ5,some ⟨f.last + 1,f.ep + 1,f.sz,wd,48,0,lim,f.sz,0⟩,f.bs⟩ (.pointer (some ⟨l,0,none⟩)) (.slice ba ts.length bc) ts)
      clear hdk hlB hl hrl k6
      go_wp2_with fail
      refine bodyPost_ret (v:=.tuple #[.pointer (some ⟨l,0,none⟩),.slice ba ts.length bc,.int .i64 0]) (by rw [results_tmp3 rfl]; rfl) rfl ⟨B5,_,_,ts,rfl,uh HFN⟩
     ·have h5':((E5:Int) != 0) = true:=by rw [bne_iff_ne]; omega
      have hz:=uh HA2 (by simp) h5
      subst hz
      clear h5
      go_wp2_with fail
      refine bodyPost_ret (v:=.tuple #[.pointer none,.slice none 0 0,.int .i64 (E5:Int)]) (by rw [results_tmp3 rfl]; rfl) rfl ⟨B5,_,_,[],rfl,OpR.fail (uh HD5) (uh HE5)⟩
    ·have h3':((E3:Int) != 0) = true:=by rw [bne_iff_ne]; omega
     have hz:=uh HA1 h3
     subst hz
     have HD9:=hide ((uh HD3).more (nb':=nb + 1) (ob':=ob + nb + 4) (bb':=bb + 48) (by omega) (by have:=(uh HSF).1; omega) (by omega))
     clear h3
     go_wp2_with fail
     refine bodyPost_ret (v:=.tuple #[.pointer none,.slice none 0 0,.int .i64 (E3:Int)]) (by rw [results_tmp3 rfl]; rfl) rfl ⟨B3,_,_,[],rfl,OpR.fail (uh HD9) (uh HE3)⟩
 ·have hag':argOk wd lim = false:=by simpa using hag
  have hA:opD σ wd lim = ⟨1,σ,none,[]⟩:=by unfold opD; rw [if_pos hag']
  rw [hA]
  refine Calls.mono (xb1m _ (Or.inr ⟨d,rfl⟩) wd lim w hag') ?_
  rintro e w' ⟨rfl,rfl⟩
  exact ⟨B,_,_,[],rfl,OpR.fail (hD.more (by omega) (by omega) (by omega)) (Ev.refl _ _)⟩
theorem nmB_ne {a b:Nat} (ha:a < 18446744073709551616) (hb:b < 18446744073709551616) (h:a≠b):nmB a≠nmB b:=by
 intro e
 exact h (xc1q ha hb (xa9c (xa6q a) (xa6q b) e))
theorem awk1:opD (dH 16 0 []) 4 1 = ⟨0,dH 16 4 [⟨nmB 1,ehB 1 1 0 4,48,true⟩],some ⟨1,1,0,4,48,0,1,0,0⟩,[]⟩:=by
 rw [opD_eq (by decide) rfl]
 have h1:nmsOf (dH 16 0 []) = []:=by simp [nmsOf,srtN,dH]
 rw [h1]
 show opOf (dH 16 0 []) 4 1 fst0 = _
 unfold opOf
 have h2:stSyncs (dH 16 0 []) fst0.sg = (0,dH 16 0 []):=rfl
 rw [h2]
 dsimp only
 have h3:=xb8w (sec:=16) (op:=0) (A:=[]) (fst0.last + 1) (fst0.ep + 1) fst0.sz (wd:=4) (by omega) (by decide) (by simp)
 rw [h3]
 rfl
theorem lay_h {sec:Nat} {op:Int} {A:List DF} {s:LSt} (p:List Nat) (h:0≤op) (hn:(findA A (nmB s.num).data.toList).isSome = true):lgLay (dH sec op A) s p = (0,dH sec (op + 1) (upA A (nmB s.num) fun f=>{ f with bs:=f.bs++p }),{ s with byt:=s.byt + p.length,bt:=s.bt + 1 }):=by
 unfold lgLay
 rw [xb5k p h hn]
 rfl
theorem xb2x {x:DF} {s:ByteArray} (hx:x.nm = s):(findA [x] s.data.toList).isSome = true:=xa4o (A:=[]) hx
theorem awk2:∃ n p,lgAppend (dH 16 4 [⟨nmB 1,ehB 1 1 0 4,48,true⟩]) ⟨1,1,0,4,48,0,1,0,0⟩ [⟨1,[1],[2]⟩] = (0,dH 16 5 [⟨nmB 1,p,48,true⟩],⟨1,1,0,4,48 + n,1,1,1,0⟩):=by
 have hc:chkB 0 [⟨1,[1],[2]⟩] = 0:=by decide
 refine ⟨(sbB 0 [⟨1,[1],[2]⟩]).length,ehB 1 1 0 4++sbB 0 [⟨1,[1],[2]⟩],?_⟩
 have hw:lgWrite (dH 16 4 [⟨nmB 1,ehB 1 1 0 4,48,true⟩]) ⟨1,1,0,4,48,0,1,0,0⟩ (sbB 0 [⟨1,[1],[2]⟩]) = (0,dH 16 5 [⟨nmB 1,ehB 1 1 0 4++sbB 0 [⟨1,[1],[2]⟩],48,true⟩],⟨1,1,0,4,48 + (sbB 0 [⟨1,[1],[2]⟩]).length,1,1,0,0⟩):=by
  unfold lgWrite
  rw [if_neg (by decide),lay_h _ (by omega) (xb2x rfl)]
  have hu:=xb1e [] (nmB 1) (fun f=>{ f with bs:=f.bs++sbB 0 [⟨1,[1],[2]⟩] }) ⟨nmB 1,ehB 1 1 0 4,48,true⟩ rfl (by simp)
  rw [List.nil_append,List.nil_append] at hu
  dsimp only
  rw [hu]
  rfl
 unfold lgAppend
 dsimp only
 rw [if_neg (by simp [hc]),if_neg (by decide),hw]
 rfl
theorem awk3 (n:Nat) (p:List Nat):∃ A m,lgAppend (dH 16 5 [⟨nmB 1,p,48,true⟩]) ⟨1,1,0,4,48 + n,1,1,1,0⟩ [⟨1,[3],[4]⟩] = (0,dH 16 11 A,⟨2,1,1,4,m,1,1,2,0⟩)∧(findA A (nmB 2).data.toList).isSome = true:=by
 have hc:chkB 1 [⟨1,[3],[4]⟩] = 0:=by decide
 have hs:=sync_h (sec:=16) (op:=5) (A:=[⟨nmB 1,p,48,true⟩]) (s:=nmB 1) (by omega) (xb2x rfl)
 have hu:=xb1e [] (nmB 1) (fun f=>{ f with sy:=f.bs.length }) ⟨nmB 1,p,48,true⟩ rfl (by simp)
 rw [List.nil_append,List.nil_append] at hu
 rw [hu] at hs
 dsimp only at hs
 have hb:=xb8w (sec:=16) (op:=5 + 1) (A:=[⟨nmB 1,p,p.length,true⟩]) 2 1 1 (wd:=4) (by omega) (by decide) (fun f hf=>by
  rw [List.mem_singleton] at hf
  subst hf
  exact nmB_ne (by omega) (by omega) (by omega))
 have hr:lgRot (dH 16 5 [⟨nmB 1,p,48,true⟩]) ⟨1,1,0,4,48 + n,1,1,1,0⟩ = (0,dH 16 10 [⟨nmB 1,p,p.length,true⟩,⟨nmB 2,ehB 2 1 1 4,48,true⟩],⟨2,1,1,4,48,0,1,1,0⟩):=by
  unfold lgRot
  dsimp only
  rw [hs]
  dsimp only
  rw [hb]
  rfl
 have hl:=lay_h (sec:=16) (op:=10) (A:=[⟨nmB 1,p,p.length,true⟩,⟨nmB 2,ehB 2 1 1 4,48,true⟩]) (s:=⟨2,1,1,4,48,0,1,1,0⟩) (sbB 1 [⟨1,[3],[4]⟩]) (by omega) (xa4o (A:=[⟨nmB 1,p,p.length,true⟩]) rfl)
 refine ⟨upA [⟨nmB 1,p,p.length,true⟩,⟨nmB 2,ehB 2 1 1 4,48,true⟩] (nmB 2) fun f=>{ f with bs:=f.bs++sbB 1 [⟨1,[3],[4]⟩] },48 + (sbB 1 [⟨1,[3],[4]⟩]).length,?_,?_⟩
 ·have hw:lgWrite (dH 16 5 [⟨nmB 1,p,48,true⟩]) ⟨1,1,0,4,48 + n,1,1,1,0⟩ (sbB 1 [⟨1,[3],[4]⟩]) = (0,dH 16 11 (upA [⟨nmB 1,p,p.length,true⟩,⟨nmB 2,ehB 2 1 1 4,48,true⟩] (nmB 2) fun f=>{ f with bs:=f.bs++sbB 1 [⟨1,[3],[4]⟩] }),⟨2,1,1,4,48 + (sbB 1 [⟨1,[3],[4]⟩]).length,1,1,1,0⟩):=by
   unfold lgWrite
   have hf:lgFull ⟨1,1,0,4,48 + n,1,1,1,0⟩ = true:=by unfold lgFull; simp; omega
   rw [if_pos hf,hr]
   dsimp only
   rw [if_neg (by simp),hl]
   rfl
  unfold lgAppend
  dsimp only
  rw [if_neg (by simp [hc]),if_neg (by simp [lgFail]),hw]
  rfl
 ·unfold findA upA
  rw [List.find?_isSome]
  exact ⟨{ (⟨nmB 2,ehB 2 1 1 4,48,true⟩:DF) with bs:=ehB 2 1 1 4++sbB 1 [⟨1,[3],[4]⟩] },by simp,by simp⟩
theorem awk4 (A:List DF) (m:Nat) (h:(findA A (nmB 2).data.toList).isSome = true):∃ C,lgSync (dH 16 11 A) ⟨2,1,1,4,m,1,1,2,0⟩ = (0,dH 16 12 C,⟨2,1,1,4,m,1,1,2,0⟩):=by
 unfold lgSync
 rw [if_neg (by simp [lgFail])]
 dsimp only
 rw [sync_h (by omega) h]
 exact ⟨_,rfl⟩
theorem LK.varsG {g0:Nat} {w w':World} {l:Nat} {B B':List Nat} (hv:VarsG g0 w) (ev:EvL w w' l B B') (hB:∀ x∈B,g0≤x) (hl:g0≤l):VarsG g0 w':=hv.on ev.1 (fun x hx=>by
 rcases List.mem_cons.1 hx with rfl | hx
 ·exact hl
 ·exact hB x hx)
set_option maxHeartbeats 2000000 in
theorem xb4z (k v:Nat) (w:World) (hk:k < 256) (hv:v < 256) :
  Calls Tryz.prog 37 #[.int .u8 (k:Int),.int .u8 (v:Int)] w fun e w'=>∃ ka kc va vc,e = .returned (.agg #[.int .u8 1,.slice ka 1 kc,.slice va 1 vc])∧OkE w' ⟨1,[k],[v]⟩ (.slice ka 1 kc) (.slice va 1 vc)∧Kept [] w w':=by
 have HE:=hide (xa2l w (.cells #[.int .u8 1,.slice (some ⟨w.heap.size + 1,0,none⟩) 1 1,.slice (some ⟨w.heap.size + 1 + 1,0,none⟩) 1 1] 89) (.cells #[.int .u8 (k:Int)] 5) (.cells #[.int .u8 (v:Int)] 5))
 have HK:=hide ((((Kept.refl [] w).alloc (.cells #[.int .u8 1,.slice (some ⟨w.heap.size + 1,0,none⟩) 1 1,.slice (some ⟨w.heap.size + 1 + 1,0,none⟩) 1 1] 89)).alloc (.cells #[.int .u8 (k:Int)] 5)).alloc (.cells #[.int .u8 (v:Int)] 5))
 go_enter Tryz.func37,Tryz.ntmps37
 go_wp2_with fail
 obtain ⟨h1,h2,h3⟩:=uh HE
 refine bodyPost_ret (v:=.agg #[.int .u8 1,.slice (some ⟨w.heap.size + 1,0,none⟩) 1 1,.slice (some ⟨w.heap.size + 1 + 1,0,none⟩) 1 1]) ?_ rfl ⟨_,_,_,_,rfl,⟨by show (1:Nat) < 256; omega,rd_row [k] h2 rfl (by simpa using hk) 1 rfl (by omega),rd_row [v] h3 rfl (by simpa using hv) 1 rfl (by omega)⟩,uh HK⟩
 exact xa4g rfl _ _ w.heap.size _ #[.int .u8 1,.slice (some ⟨w.heap.size + 1,0,none⟩) 1 1,.slice (some ⟨w.heap.size + 1 + 1,0,none⟩) 1 1] (0,0) _ rfl h1 Tryz.underlying89 rfl Tryz.size_entry
set_option maxHeartbeats 4000000 in
theorem xb5l (w:World) (hv:VarsS w):Calls Tryz.prog 9 #[] w fun e w'=>e = .returned (.bool true)∧Kept [] w w':=by
 have HVG:=hide (VarsG.start hv)
 have HN:=hide (newM_D 16 w (by omega) (by omega))
 clear hv
 go_enter Tryz.func9,Tryz.ntmps9
 go_wp2_with fail
 refine Calls.mono (uh HN) ?_
 rintro e w1 ⟨d,B,rfl,hD,k1,hB⟩
 have hF:DKf w1 d B 0 0 0 (dH 16 0 []):=hD.toF (by show (0:Int)≤0; omega)
 have HOP:=hide (xa9z d 0 0 0 w.heap.size 4 1 B (dH 16 0 []) w1 hF ((uh HVG).old k1) hB k1.size (by omega) (by omega) (by omega) (Nat.le_trans (rdT_le _ hF.dist) (by show 0≤_; omega)))
 rw [awk1] at HOP
 have HK1:=hide k1
 have HB1:=hide hB
 clear hD hF k1 hB HN
 go_wp2_with fail
 refine Calls.mono (uh HOP) ?_
 rintro e w2 ⟨B2,lp,bv,ts,rfl,hR⟩
 obtain ⟨l,rfl,hl,hLK,_⟩:=hR.so _ rfl
 have hts:ts = []:=by have h9:=hR.bs; cases ts with | nil=>rfl | cons a b=>cases h9
 subst hts
 obtain ⟨ba,bc,rfl⟩:=hR.ow.shape
 have HLK2:=hide hLK
 have HK2:=hide ((uh HK1).trans hR.ev.1 (fun x hx=>Or.inr (uh HB1 x hx)))
 have HB2:=hide (hR.ev.ge (uh HB1) (uh HK1).size)
 have HV2:=hide (((uh HVG).old (uh HK1)).on hR.ev.1 (uh HB1))
 have HL:=hide (Nat.le_trans (uh HK1).size hl)
 have HOS:=hide (ops_F _ _ _ _ _ _ w2 hLK.dk)
 clear hR hLK hl HOP HK1 HB1
 go_wp2_with fail
 refine Calls.mono (uh HOS) ?_
 rintro e w3 ⟨rfl,rfl⟩
 have HP1:=hide (xb4z 1 2 w3 (by omega) (by omega))
 clear HOS
 go_wp2_with fail
 refine Calls.mono (uh HP1) ?_
 rintro e w4 ⟨ka,kc,va,vc,rfl,ok4,k4⟩
 have hN4:=heap_alloc_new w4 (.cells #[.int .u8 1,.slice ka 1 kc,.slice va 1 vc] 89)
 have kA4:=(Kept.refl [] w4).alloc (.cells #[.int .u8 1,.slice ka 1 kc,.slice va 1 vc] 89)
 have hrn:=RdN.one (e:=⟨1,[1],[2]⟩) hN4 (ok4.old kA4)
 have HAP:=hide (xa5w l d _ _ _ w.heap.size B2 _ _ _ _ _ (((uh HLK2).old k4).old kA4) (((uh HV2).old k4).old kA4) (uh HB2) (uh HL) (Nat.le_trans (uh HK2).size (Nat.le_trans k4.size kA4.size)) hrn (by omega) (by omega) (by omega))
 have HKA:=hide (k4.trans kA4 (by simp))
 clear hN4 kA4 hrn ok4 k4 HP1
 obtain ⟨n5,p5,hw5⟩:=awk2
 rw [hw5] at HAP
 clear hw5
 go_wp2_with fail
 refine Calls.mono (uh HAP) ?_
 rintro e w5 ⟨B5,rfl,hLK5,ev5⟩
 have HLK5:=hide hLK5
 have HK5:=hide (((uh HK2).trans (uh HKA) (by simp)).trans ev5.1 (fun x hx=>Or.inr (by
  rcases List.mem_cons.1 hx with rfl | hx
  ·exact uh HL
  ·exact uh HB2 x hx)))
 have HB5:=hide (ev5.ge (uh HB2) (Nat.le_trans (uh HK2).size (uh HKA).size))
 have HV5:=hide (LK.varsG ((uh HV2).old (uh HKA)) ev5 (uh HB2) (uh HL))
 clear hLK5 ev5 HAP HKA HB2 HV2 HLK2 HK2
 have HP1:=hide (xb4z 3 4 w5 (by omega) (by omega))
 go_wp2_with fail
 refine Calls.mono (uh HP1) ?_
 rintro e w6 ⟨ka,kc,va,vc,rfl,ok4,k4⟩
 have hN4:=heap_alloc_new w6 (.cells #[.int .u8 1,.slice ka 1 kc,.slice va 1 vc] 89)
 have kA4:=(Kept.refl [] w6).alloc (.cells #[.int .u8 1,.slice ka 1 kc,.slice va 1 vc] 89)
 have hrn:=RdN.one (e:=⟨1,[3],[4]⟩) hN4 (ok4.old kA4)
 have HAP:=hide (xa5w l d _ _ _ w.heap.size B5 _ _ _ _ _ (((uh HLK5).old k4).old kA4) (((uh HV5).old k4).old kA4) (uh HB5) (uh HL) (Nat.le_trans (uh HK5).size (Nat.le_trans k4.size kA4.size)) hrn (by omega) (by omega) (by omega))
 have HKA:=hide (k4.trans kA4 (by simp))
 clear hN4 kA4 hrn ok4 k4 HP1
 try dsimp only at HAP
 obtain ⟨A7,m7,hw7,hf7⟩:=awk3 n5 p5
 rw [hw7] at HAP
 clear hw7
 go_wp2_with fail
 refine Calls.mono (uh HAP) ?_
 rintro e w7 ⟨B7,rfl,hLK7,ev7⟩
 have HLK7:=hide hLK7
 have HK7:=hide (((uh HK5).trans (uh HKA) (by simp)).trans ev7.1 (fun x hx=>Or.inr (by
  rcases List.mem_cons.1 hx with rfl | hx
  ·exact uh HL
  ·exact uh HB5 x hx)))
 have HB7:=hide (ev7.ge (uh HB5) (Nat.le_trans (uh HK5).size (uh HKA).size))
 have HV7:=hide (LK.varsG ((uh HV5).old (uh HKA)) ev7 (uh HB5) (uh HL))
 clear hLK7 ev7 HAP HKA HB5 HV5 HLK5 HK5
 have HSY:=hide (xb7v l d _ _ _ w.heap.size B7 _ _ w7 (uh HLK7) (uh HV7) (by omega) (by omega))
 try dsimp only at HSY
 obtain ⟨C8,hw8⟩:=awk4 A7 m7 hf7
 rw [hw8] at HSY
 clear hw8 hf7
 go_wp2_with fail
 refine Calls.mono (uh HSY) ?_
 rintro e w8 ⟨B8,rfl,hLK8,ev8⟩
 have HLK8:=hide hLK8
 have HK8:=hide ((uh HK7).trans ev8.1 (fun x hx=>Or.inr (by
  rcases List.mem_cons.1 hx with rfl | hx
  ·exact uh HL
  ·exact uh HB7 x hx)))
 clear hLK8 ev8 HSY HB7 HV7 HLK7 HK7
 go_wp2_with fail
 refine Calls.mono (xb0t l d _ w8 (uh HLK8).row) ?_
 rintro e w9 ⟨rfl,rfl⟩
 go_wp2_with fail
 refine Calls.mono (xa8a l d _ w9 (uh HLK8).row) ?_
 rintro e w10 ⟨rfl,rfl⟩
 go_wp2_with fail
 refine Calls.mono (xa8e l d _ w10 (uh HLK8).row) ?_
 rintro e w11 ⟨rfl,rfl⟩
 go_wp2_with fail
 refine Calls.mono (xa8b l d _ w11 (uh HLK8).row) ?_
 rintro e w12 ⟨rfl,rfl⟩
 go_wp2_with fail
 refine Calls.mono (ops_F _ _ _ _ _ _ w12 (uh HLK8).dk) ?_
 rintro e w13 ⟨rfl,rfl⟩
 go_wp2_with fail
 go_ret
 exact ⟨rfl,uh HK8⟩
end
section
open Go.RowKit Go.BigFrame
set_option maxHeartbeats 2000000 in
theorem xa2u (pl:Nat) (v:Value) (p:List Nat) (w:World) (h:Rd w v p) (hpl:pl < 18446744073709551616) (hl:p.length≤100000000) :
  Calls Tryz.prog 110 #[.int .u64 pl,v] w fun e w'=>∃ v',e = .returned v'∧Rd w' v' (frB pl p)∧Kept [] w w'∧∀ x∈blk v',w.heap.size≤x:=by
 have H:=hide h
 obtain ⟨a1,n1,c1,rfl,hn1,hc1,⟨hc2,hc3⟩,_⟩:=id h
 subst hn1
 clear h
 go_enter Tryz.func110,Tryz.ntmps110
 go_wp2_with fail
 refine Calls.mono (xa0z p.length 4 _ (by omega) (by decide)) ?_
 rintro e w1 ⟨rfl,k1,g1⟩
 have HK1:=hide k1
 have HR1:=hide (xa2g g1 (xa0o _ _) (by rw [xa0c]; omega))
 rw [xa0c] at HR1
 clear k1 g1
 go_wp2_with fail
 refine Calls.mono (xa0z pl 8 _ hpl (by decide)) ?_
 rintro e w2 ⟨rfl,k2,g2⟩
 have HK2:=hide ((uh HK1).trans k2 (by simp))
 have HR2:=hide (xa2g g2 (xa0o _ _) (by rw [xa0c]; omega))
 rw [xa0c] at HR2
 have HR1':=hide ((uh HR1).old k2 (by simp))
 clear k2 g2
 go_wp2_with fail
 refine Calls.mono (xa1e _ _ _ _ w2 (uh HR1') (uh HR2) (by simp [xa0c])) ?_
 rintro e w3 ⟨v3,rfl,r3,k3,_⟩
 have HK3:=hide ((uh HK2).trans k3 (by simp))
 have HR3:=hide r3
 clear r3 k3
 go_wp2_with fail
 refine Calls.mono (xa1e _ _ _ p w3 (uh HR3) ((uh H).old (uh HK3) (by simp)) (by simp [xa0c]; omega)) ?_
 rintro e w4 ⟨v4,rfl,r4,k4,_⟩
 have HK4:=hide ((uh HK3).trans k4 (by simp))
 have HR4:=hide r4
 have HR3':=hide ((uh HR3).old k4 (by simp))
 clear r4 k4
 go_wp2_with fail
 refine Calls.mono (xc1i v4 _ w4 (uh HR4)) ?_
 rintro e w5 ⟨rfl,rfl⟩
 have hs:upd 0 (wide p.length 4++wide pl 8++p) = sumF pl p:=by simp [sumF,txF,List.append_assoc]
 rw [hs]
 have hsl:sumF pl p < 4294967296:=xb3c (uh H).byte
 clear hs
 obtain ⟨S,hS⟩:∃ S,sumF pl p = S:=⟨_,rfl⟩
 have HS:=hide hS
 rw [hS] at hsl ⊢
 clear hS
 go_wp2_with fail
 refine Calls.mono (xa0z S 4 w5 (by omega) (by decide)) ?_
 rintro e w6 ⟨rfl,k6,g6⟩
 have HK6:=hide ((uh HK4).trans k6 (by simp))
 have HR6:=hide (xa2g g6 (xa0o _ _) (by rw [xa0c]; omega))
 rw [xa0c] at HR6
 have HR36:=hide ((uh HR3').old k6 (by simp))
 clear k6 g6
 go_wp2_with fail
 refine Calls.mono (xa1e _ _ [245] _ _ (rd_lit (heap_alloc_new _ _) rfl (by decide) 1 rfl (by decide)) ((uh HR36).old ((Kept.refl [] w6).alloc _) (by simp)) (by simp [xa0c])) ?_
 rintro e w7 ⟨v7,rfl,r7,k7,_⟩
 have HK7:=hide (((uh HK6).alloc _).trans k7 (by simp))
 have HR7:=hide r7
 have HR67:=hide ((uh HR6).old (((Kept.refl [] w6).alloc _).trans k7 (by simp)) (by simp))
 clear r7 k7
 go_wp2_with fail
 refine Calls.mono (xa1e _ _ p [95] _ ((uh H).old ((uh HK7).alloc _) (by simp)) (rd_lit (heap_alloc_new _ _) rfl (by decide) 1 rfl (by decide)) (by simp; omega)) ?_
 rintro e w8 ⟨v8,rfl,r8,k8,_⟩
 have HK8:=hide (((uh HK7).alloc _).trans k8 (by simp))
 have HR8:=hide r8
 have HR68:=hide ((uh HR67).old (((Kept.refl [] w7).alloc _).trans k8 (by simp)) (by simp))
 have HR78:=hide ((uh HR7).old (((Kept.refl [] w7).alloc _).trans k8 (by simp)) (by simp))
 clear r8 k8
 go_wp2_with fail
 refine Calls.mono (xa1e _ _ _ _ w8 (uh HR68) (uh HR8) (by simp [xa0c]; omega)) ?_
 rintro e w9 ⟨v9,rfl,r9,k9,_⟩
 have HK9:=hide ((uh HK8).trans k9 (by simp))
 have HR9:=hide r9
 have HR79:=hide ((uh HR78).old k9 (by simp))
 clear r9 k9
 go_wp2_with fail
 refine Calls.mono (xa1e _ _ _ _ w9 (uh HR79) (uh HR9) (by simp [xa0c]; omega)) ?_
 rintro e w10 ⟨v10,rfl,r10,k10,b10⟩
 have HB10:=hide (fun x hx=>Nat.le_trans (uh HK9).size (b10 x hx):∀ x∈blk v10,w.heap.size≤x)
 have HK10:=hide ((uh HK9).trans k10 (by simp))
 have HR10:=hide r10
 clear r10 k10 b10
 go_wp2
 go_ret
 refine ⟨_,rfl,?_,uh HK10,uh HB10⟩
 have e9:[245]++(wide p.length 4++wide pl 8)++(wide S 4++(p++[95])) = frB pl p:=by
  rw [← uh HS]; simp [frB,List.append_assoc]
 rw [e9] at HR10
 exact uh HR10
end
section
open Go Go.RowKit Go.BigFrame
section
variable {P:Program} {Q:Exit→Act→World→Prop}
theorem wp_hb2 {id:Nat} {o0 o1 o2 o3 o4 o5 o6 o7 o8 o9:Oper} {a:Act} {w:World} (hm:P.follows .mixedOrders = true) (hs:Region.noSelect #[o0,o1,o2,o3,o4,o5,o6,o7,o8,o9] = true)
  (f0:Region.free .any #[o0,o1,o2,o3,o4,o5,o6,o7,o8,o9] #[false,false,false,false,false,false,false,false,false,false] 0 = true) (r0:(Region.ready .any #[o0,o1,o2,o3,o4,o5,o6,o7,o8,o9] #[false,false,false,false,false,false,false,false,false,false]).contains 0 = true)
  (f1:Region.free .any #[o0,o1,o2,o3,o4,o5,o6,o7,o8,o9] #[true,false,false,false,false,false,false,false,false,false] 1 = true) (r1:(Region.ready .any #[o0,o1,o2,o3,o4,o5,o6,o7,o8,o9] #[true,false,false,false,false,false,false,false,false,false]).contains 1 = true)
  (f2:Region.free .any #[o0,o1,o2,o3,o4,o5,o6,o7,o8,o9] #[true,true,false,false,false,false,false,false,false,false] 2 = true) (r2:(Region.ready .any #[o0,o1,o2,o3,o4,o5,o6,o7,o8,o9] #[true,true,false,false,false,false,false,false,false,false]).contains 2 = true)
  (f4:Region.free .any #[o0,o1,o2,o3,o4,o5,o6,o7,o8,o9] #[true,true,true,false,false,false,false,false,false,false] 4 = true) (r4:(Region.ready .any #[o0,o1,o2,o3,o4,o5,o6,o7,o8,o9] #[true,true,true,false,false,false,false,false,false,false]).contains 4 = true)
  (f5:Region.free .any #[o0,o1,o2,o3,o4,o5,o6,o7,o8,o9] #[true,true,true,false,true,false,false,false,false,false] 5 = true) (r5:(Region.ready .any #[o0,o1,o2,o3,o4,o5,o6,o7,o8,o9] #[true,true,true,false,true,false,false,false,false,false]).contains 5 = true)
  (q_:Region.ready .any #[o0,o1,o2,o3,o4,o5,o6,o7,o8,o9] #[true,true,true,false,true,true,false,false,false,false] = [3])
  (q3_:Region.ready .any #[o0,o1,o2,o3,o4,o5,o6,o7,o8,o9] #[true,true,true,true,true,true,false,false,false,false] = [6])
  (q3_6_:Region.ready .any #[o0,o1,o2,o3,o4,o5,o6,o7,o8,o9] #[true,true,true,true,true,true,true,false,false,false] = [7])
  (q3_6_7_:Region.ready .any #[o0,o1,o2,o3,o4,o5,o6,o7,o8,o9] #[true,true,true,true,true,true,true,true,false,false] = [8])
  (f3_6_7_8_9:Region.free .any #[o0,o1,o2,o3,o4,o5,o6,o7,o8,o9] #[true,true,true,true,true,true,true,true,true,false] 9 = true) (r3_6_7_8_9:(Region.ready .any #[o0,o1,o2,o3,o4,o5,o6,o7,o8,o9] #[true,true,true,true,true,true,true,true,true,false]).contains 9 = true)
  (q3_6_7_8_:Region.ready .any #[o0,o1,o2,o3,o4,o5,o6,o7,o8,o9] #[true,true,true,true,true,true,true,true,true,true] = [])
  (g3:o3.guard = none)    (g6:o6.guard = none)    (g7:o7.guard = none)    (g8:o8.guard = none)
  (v0 v1 v2 v4 v5:Value) (A0 A1 A2 A3 A4:Act)
  (S:World→Prop)
  (I_:World→Prop)
  (I3_:Value→World→Prop)
  (I3_6_:Value→Value→World→Prop)
  (I3_6_7_:Value→Value→Value→World→Prop)
  (I3_6_7_8_:Value→Value→Value→Value→World→Prop)
  (v9:Value→Value→Value→Value→Value)
  (p0:a.put o0.dst v0 = A0) (hy0:YieldsIf P #[o0,o1,o2,o3,o4,o5,o6,o7,o8,o9] S o0 v0 a)
  (p1:A0.put o1.dst v1 = A1) (hy1:YieldsIf P #[o0,o1,o2,o3,o4,o5,o6,o7,o8,o9] S o1 v1 A0)
  (p2:A1.put o2.dst v2 = A2) (hy2:YieldsIf P #[o0,o1,o2,o3,o4,o5,o6,o7,o8,o9] S o2 v2 A1)
  (p4:A2.put o4.dst v4 = A3) (hy4:YieldsIf P #[o0,o1,o2,o3,o4,o5,o6,o7,o8,o9] S o4 v4 A2)
  (p5:A3.put o5.dst v5 = A4) (hy5:YieldsIf P #[o0,o1,o2,o3,o4,o5,o6,o7,o8,o9] S o5 v5 A3)
  (i0:I_ w.drew)
  (hIS:(∀ w',I_  w'→S w')∧(∀ (u3:Value) w',I3_ u3 w'→S w')∧(∀ (u3 u6:Value) w',I3_6_ u3 u6 w'→S w')∧(∀ (u3 u6 u7:Value) w',I3_6_7_ u3 u6 u7 w'→S w')∧(∀ (u3 u6 u7 u8:Value) w',I3_6_7_8_ u3 u6 u7 u8 w'→S w'))
  (s_3:∀ w',I_  w'→∀ K:Act→World→Prop,(∀ (u3:Value) w2,I3_ u3 w2→K (A4.put o3.dst u3) w2)→o3.wp P A4 w' K (NoPanic Q))
  (s3_6:∀ (u3:Value) w',I3_ u3 w'→∀ K:Act→World→Prop,(∀ (u6:Value) w2,I3_6_ u3 u6 w2→K ((A4.put o3.dst u3).put o6.dst u6) w2)→o6.wp P (A4.put o3.dst u3) w' K (NoPanic Q))
  (s3_6_7:∀ (u3 u6:Value) w',I3_6_ u3 u6 w'→∀ K:Act→World→Prop,(∀ (u7:Value) w2,I3_6_7_ u3 u6 u7 w2→K (((A4.put o3.dst u3).put o6.dst u6).put o7.dst u7) w2)→o7.wp P ((A4.put o3.dst u3).put o6.dst u6) w' K (NoPanic Q))
  (s3_6_7_8:∀ (u3 u6 u7:Value) w',I3_6_7_ u3 u6 u7 w'→∀ K:Act→World→Prop,(∀ (u8:Value) w2,I3_6_7_8_ u3 u6 u7 u8 w2→K ((((A4.put o3.dst u3).put o6.dst u6).put o7.dst u7).put o8.dst u8) w2)→o8.wp P (((A4.put o3.dst u3).put o6.dst u6).put o7.dst u7) w' K (NoPanic Q))
  (y3_6_7_8_9:∀ (u3 u6 u7 u8:Value) w',I3_6_7_8_ u3 u6 u7 u8 w'→YieldsIf P #[o0,o1,o2,o3,o4,o5,o6,o7,o8,o9] S o9 (v9 u3 u6 u7 u8) ((((A4.put o3.dst u3).put o6.dst u6).put o7.dst u7).put o8.dst u8))
  (h:∀ (u3 u6 u7 u8:Value) w',I3_6_7_8_ u3 u6 u7 u8 w'→Q .normal (((((A4.put o3.dst u3).put o6.dst u6).put o7.dst u7).put o8.dst u8).put o9.dst (v9 u3 u6 u7 u8)) w') :
  (Code.region id #[o0,o1,o2,o3,o4,o5,o6,o7,o8,o9] true).wp P Q a w:=by
 subst p0 p1 p2 p4 p5
 obtain ⟨z_,z3_,z3_6_,z3_6_7_,z3_6_7_8_⟩:=hIS
 refine wp_region_noPanic ?_
 refine wp_region_held_drew (S:=S) hm (z_ _ i0) (fun hH=>?_)
 show wpAnyH P .any #[o0,o1,o2,o3,o4,o5,o6,o7,o8,o9] (NoPanic Q) S 10 #[false,false,false,false,false,false,false,false,false,false] a w.drew
 refine wpAnyH_take (i:=0) (oi:=o0) rfl hs f0 r0 (fun _ _ _ h=>h) hy0 hH ?_
 refine wpAnyH_take (i:=1) (oi:=o1) rfl hs f1 r1 (fun _ _ _ h=>h) hy1 hH ?_
 refine wpAnyH_take (i:=2) (oi:=o2) rfl hs f2 r2 (fun _ _ _ h=>h) hy2 hH ?_
 refine wpAnyH_take (i:=4) (oi:=o4) rfl hs f4 r4 (fun _ _ _ h=>h) hy4 hH ?_
 refine wpAnyH_take (i:=5) (oi:=o5) rfl hs f5 r5 (fun _ _ _ h=>h) hy5 hH ?_
 generalize (((((a.put o0.dst v0).put o1.dst v1).put o2.dst v2).put o4.dst v4).put o5.dst v5) = B at *
 have wa3:∀ y,Region.wanted o3 y = true:=fun y=>by unfold Region.wanted; rw [g3]
 have wa6:∀ y,Region.wanted o6 y = true:=fun y=>by unfold Region.wanted; rw [g6]
 have wa7:∀ y,Region.wanted o7 y = true:=fun y=>by unfold Region.wanted; rw [g7]
 have wa8:∀ y,Region.wanted o8 y = true:=fun y=>by unfold Region.wanted; rw [g8]
 have t3_6_7_8_:∀ (u3 u6 u7 u8:Value) w',I3_6_7_8_ u3 u6 u7 u8 w'→wpAnyH P .any #[o0,o1,o2,o3,o4,o5,o6,o7,o8,o9] (NoPanic Q) S 0 #[true,true,true,true,true,true,true,true,true,true] (((((B.put o3.dst u3).put o6.dst u6).put o7.dst u7).put o8.dst u8).put o9.dst (v9 u3 u6 u7 u8)) w':=by
  intro u3 u6 u7 u8 w0 i0
  exact ⟨q3_6_7_8_,NoPanic.normal (h u3 u6 u7 u8 w0 i0)⟩
 have t3_6_7_:∀ (u3 u6 u7:Value) w',I3_6_7_ u3 u6 u7 w'→wpAnyH P .any #[o0,o1,o2,o3,o4,o5,o6,o7,o8,o9] (NoPanic Q) S 2 #[true,true,true,true,true,true,true,true,false,false] (((B.put o3.dst u3).put o6.dst u6).put o7.dst u7) w':=by
  intro u3 u6 u7 w0 i0
  refine wpAnyH_ready (rs:=[8]) q3_6_7_ (by simp) (AllReadyH.cons (o:=o8) rfl (fun K hK=>?_) AllReadyH.nil)
  ·rw [if_pos (wa8 _)]
   refine s3_6_7_8 u3 u6 u7 w0 i0 K (fun u8 w1 i1=>hK.out _ _ (z3_6_7_8_ u3 u6 u7 u8 w1 i1) (fun _=>?_))
   clear hK
   refine wpAnyH_take (i:=9) (oi:=o9) rfl hs f3_6_7_8_9 r3_6_7_8_9 (fun _ _ _ h=>h) (y3_6_7_8_9 u3 u6 u7 u8 w1 i1) (z3_6_7_8_ u3 u6 u7 u8 w1 i1) ?_
   exact t3_6_7_8_ u3 u6 u7 u8 w1 i1
 have t3_6_:∀ (u3 u6:Value) w',I3_6_ u3 u6 w'→wpAnyH P .any #[o0,o1,o2,o3,o4,o5,o6,o7,o8,o9] (NoPanic Q) S 3 #[true,true,true,true,true,true,true,false,false,false] ((B.put o3.dst u3).put o6.dst u6) w':=by
  intro u3 u6 w0 i0
  refine wpAnyH_ready (rs:=[7]) q3_6_ (by simp) (AllReadyH.cons (o:=o7) rfl (fun K hK=>?_) AllReadyH.nil)
  ·rw [if_pos (wa7 _)]
   refine s3_6_7 u3 u6 w0 i0 K (fun u7 w1 i1=>hK.out _ _ (z3_6_7_ u3 u6 u7 w1 i1) (fun _=>?_))
   clear hK
   exact t3_6_7_ u3 u6 u7 w1 i1
 have t3_:∀ (u3:Value) w',I3_ u3 w'→wpAnyH P .any #[o0,o1,o2,o3,o4,o5,o6,o7,o8,o9] (NoPanic Q) S 4 #[true,true,true,true,true,true,false,false,false,false] (B.put o3.dst u3) w':=by
  intro u3 w0 i0
  refine wpAnyH_ready (rs:=[6]) q3_ (by simp) (AllReadyH.cons (o:=o6) rfl (fun K hK=>?_) AllReadyH.nil)
  ·rw [if_pos (wa6 _)]
   refine s3_6 u3 w0 i0 K (fun u6 w1 i1=>hK.out _ _ (z3_6_ u3 u6 w1 i1) (fun _=>?_))
   clear hK
   exact t3_6_ u3 u6 w1 i1
 have t_:∀ w',I_  w'→wpAnyH P .any #[o0,o1,o2,o3,o4,o5,o6,o7,o8,o9] (NoPanic Q) S 5 #[true,true,true,false,true,true,false,false,false,false] B w':=by
  intro w0 i0
  refine wpAnyH_ready (rs:=[3]) q_ (by simp) (AllReadyH.cons (o:=o3) rfl (fun K hK=>?_) AllReadyH.nil)
  ·rw [if_pos (wa3 _)]
   refine s_3  w0 i0 K (fun u3 w1 i1=>hK.out _ _ (z3_ u3 w1 i1) (fun _=>?_))
   clear hK
   exact t3_ u3 w1 i1
 exact t_ w.drew i0
theorem wp_hb3 {id:Nat} {o0 o1 o2 o3 o4 o5 o6 o7 o8 o9:Oper} {a:Act} {w:World} (hm:P.follows .mixedOrders = true) (hs:Region.noSelect #[o0,o1,o2,o3,o4,o5,o6,o7,o8,o9] = true)
  (f0:Region.free .any #[o0,o1,o2,o3,o4,o5,o6,o7,o8,o9] #[false,false,false,false,false,false,false,false,false,false] 0 = true) (r0:(Region.ready .any #[o0,o1,o2,o3,o4,o5,o6,o7,o8,o9] #[false,false,false,false,false,false,false,false,false,false]).contains 0 = true)
  (f1:Region.free .any #[o0,o1,o2,o3,o4,o5,o6,o7,o8,o9] #[true,false,false,false,false,false,false,false,false,false] 1 = true) (r1:(Region.ready .any #[o0,o1,o2,o3,o4,o5,o6,o7,o8,o9] #[true,false,false,false,false,false,false,false,false,false]).contains 1 = true)
  (f2:Region.free .any #[o0,o1,o2,o3,o4,o5,o6,o7,o8,o9] #[true,true,false,false,false,false,false,false,false,false] 2 = true) (r2:(Region.ready .any #[o0,o1,o2,o3,o4,o5,o6,o7,o8,o9] #[true,true,false,false,false,false,false,false,false,false]).contains 2 = true)
  (f3:Region.free .any #[o0,o1,o2,o3,o4,o5,o6,o7,o8,o9] #[true,true,true,false,false,false,false,false,false,false] 3 = true) (r3:(Region.ready .any #[o0,o1,o2,o3,o4,o5,o6,o7,o8,o9] #[true,true,true,false,false,false,false,false,false,false]).contains 3 = true)
  (f4:Region.free .any #[o0,o1,o2,o3,o4,o5,o6,o7,o8,o9] #[true,true,true,true,false,false,false,false,false,false] 4 = true) (r4:(Region.ready .any #[o0,o1,o2,o3,o4,o5,o6,o7,o8,o9] #[true,true,true,true,false,false,false,false,false,false]).contains 4 = true)
  (f5:Region.free .any #[o0,o1,o2,o3,o4,o5,o6,o7,o8,o9] #[true,true,true,true,true,false,false,false,false,false] 5 = true) (r5:(Region.ready .any #[o0,o1,o2,o3,o4,o5,o6,o7,o8,o9] #[true,true,true,true,true,false,false,false,false,false]).contains 5 = true)
  (q_:Region.ready .any #[o0,o1,o2,o3,o4,o5,o6,o7,o8,o9] #[true,true,true,true,true,true,false,false,false,false] = [6])
  (q6_:Region.ready .any #[o0,o1,o2,o3,o4,o5,o6,o7,o8,o9] #[true,true,true,true,true,true,true,false,false,false] = [7])
  (q6_7_:Region.ready .any #[o0,o1,o2,o3,o4,o5,o6,o7,o8,o9] #[true,true,true,true,true,true,true,true,false,false] = [8])
  (f6_7_8_9:Region.free .any #[o0,o1,o2,o3,o4,o5,o6,o7,o8,o9] #[true,true,true,true,true,true,true,true,true,false] 9 = true) (r6_7_8_9:(Region.ready .any #[o0,o1,o2,o3,o4,o5,o6,o7,o8,o9] #[true,true,true,true,true,true,true,true,true,false]).contains 9 = true)
  (q6_7_8_:Region.ready .any #[o0,o1,o2,o3,o4,o5,o6,o7,o8,o9] #[true,true,true,true,true,true,true,true,true,true] = [])
  (g6:o6.guard = none)    (g7:o7.guard = none)    (g8:o8.guard = none)
  (v0 v1 v2 v3 v4 v5:Value) (A0 A1 A2 A3 A4 A5:Act)
  (S:World→Prop)
  (I_:World→Prop)
  (I6_:Value→World→Prop)
  (I6_7_:Value→Value→World→Prop)
  (I6_7_8_:Value→Value→Value→World→Prop)
  (v9:Value→Value→Value→Value)
  (p0:a.put o0.dst v0 = A0) (hy0:YieldsIf P #[o0,o1,o2,o3,o4,o5,o6,o7,o8,o9] S o0 v0 a)
  (p1:A0.put o1.dst v1 = A1) (hy1:YieldsIf P #[o0,o1,o2,o3,o4,o5,o6,o7,o8,o9] S o1 v1 A0)
  (p2:A1.put o2.dst v2 = A2) (hy2:YieldsIf P #[o0,o1,o2,o3,o4,o5,o6,o7,o8,o9] S o2 v2 A1)
  (p3:A2.put o3.dst v3 = A3) (hy3:YieldsIf P #[o0,o1,o2,o3,o4,o5,o6,o7,o8,o9] S o3 v3 A2)
  (p4:A3.put o4.dst v4 = A4) (hy4:YieldsIf P #[o0,o1,o2,o3,o4,o5,o6,o7,o8,o9] S o4 v4 A3)
  (p5:A4.put o5.dst v5 = A5) (hy5:YieldsIf P #[o0,o1,o2,o3,o4,o5,o6,o7,o8,o9] S o5 v5 A4)
  (i0:I_ w.drew)
  (hIS:(∀ w',I_  w'→S w')∧(∀ (u6:Value) w',I6_ u6 w'→S w')∧(∀ (u6 u7:Value) w',I6_7_ u6 u7 w'→S w')∧(∀ (u6 u7 u8:Value) w',I6_7_8_ u6 u7 u8 w'→S w'))
  (s_6:∀ w',I_  w'→∀ K:Act→World→Prop,(∀ (u6:Value) w2,I6_ u6 w2→K (A5.put o6.dst u6) w2)→o6.wp P A5 w' K (NoPanic Q))
  (s6_7:∀ (u6:Value) w',I6_ u6 w'→∀ K:Act→World→Prop,(∀ (u7:Value) w2,I6_7_ u6 u7 w2→K ((A5.put o6.dst u6).put o7.dst u7) w2)→o7.wp P (A5.put o6.dst u6) w' K (NoPanic Q))
  (s6_7_8:∀ (u6 u7:Value) w',I6_7_ u6 u7 w'→∀ K:Act→World→Prop,(∀ (u8:Value) w2,I6_7_8_ u6 u7 u8 w2→K (((A5.put o6.dst u6).put o7.dst u7).put o8.dst u8) w2)→o8.wp P ((A5.put o6.dst u6).put o7.dst u7) w' K (NoPanic Q))
  (y6_7_8_9:∀ (u6 u7 u8:Value) w',I6_7_8_ u6 u7 u8 w'→YieldsIf P #[o0,o1,o2,o3,o4,o5,o6,o7,o8,o9] S o9 (v9 u6 u7 u8) (((A5.put o6.dst u6).put o7.dst u7).put o8.dst u8))
  (h:∀ (u6 u7 u8:Value) w',I6_7_8_ u6 u7 u8 w'→Q .normal ((((A5.put o6.dst u6).put o7.dst u7).put o8.dst u8).put o9.dst (v9 u6 u7 u8)) w') :
  (Code.region id #[o0,o1,o2,o3,o4,o5,o6,o7,o8,o9] true).wp P Q a w:=by
 subst p0 p1 p2 p3 p4 p5
 obtain ⟨z_,z6_,z6_7_,z6_7_8_⟩:=hIS
 refine wp_region_noPanic ?_
 refine wp_region_held_drew (S:=S) hm (z_ _ i0) (fun hH=>?_)
 show wpAnyH P .any #[o0,o1,o2,o3,o4,o5,o6,o7,o8,o9] (NoPanic Q) S 10 #[false,false,false,false,false,false,false,false,false,false] a w.drew
 refine wpAnyH_take (i:=0) (oi:=o0) rfl hs f0 r0 (fun _ _ _ h=>h) hy0 hH ?_
 refine wpAnyH_take (i:=1) (oi:=o1) rfl hs f1 r1 (fun _ _ _ h=>h) hy1 hH ?_
 refine wpAnyH_take (i:=2) (oi:=o2) rfl hs f2 r2 (fun _ _ _ h=>h) hy2 hH ?_
 refine wpAnyH_take (i:=3) (oi:=o3) rfl hs f3 r3 (fun _ _ _ h=>h) hy3 hH ?_
 refine wpAnyH_take (i:=4) (oi:=o4) rfl hs f4 r4 (fun _ _ _ h=>h) hy4 hH ?_
 refine wpAnyH_take (i:=5) (oi:=o5) rfl hs f5 r5 (fun _ _ _ h=>h) hy5 hH ?_
 generalize ((((((a.put o0.dst v0).put o1.dst v1).put o2.dst v2).put o3.dst v3).put o4.dst v4).put o5.dst v5) = B at *
 have wa6:∀ y,Region.wanted o6 y = true:=fun y=>by unfold Region.wanted; rw [g6]
 have wa7:∀ y,Region.wanted o7 y = true:=fun y=>by unfold Region.wanted; rw [g7]
 have wa8:∀ y,Region.wanted o8 y = true:=fun y=>by unfold Region.wanted; rw [g8]
 have t6_7_8_:∀ (u6 u7 u8:Value) w',I6_7_8_ u6 u7 u8 w'→wpAnyH P .any #[o0,o1,o2,o3,o4,o5,o6,o7,o8,o9] (NoPanic Q) S 0 #[true,true,true,true,true,true,true,true,true,true] ((((B.put o6.dst u6).put o7.dst u7).put o8.dst u8).put o9.dst (v9 u6 u7 u8)) w':=by
  intro u6 u7 u8 w0 i0
  exact ⟨q6_7_8_,NoPanic.normal (h u6 u7 u8 w0 i0)⟩
 have t6_7_:∀ (u6 u7:Value) w',I6_7_ u6 u7 w'→wpAnyH P .any #[o0,o1,o2,o3,o4,o5,o6,o7,o8,o9] (NoPanic Q) S 2 #[true,true,true,true,true,true,true,true,false,false] ((B.put o6.dst u6).put o7.dst u7) w':=by
  intro u6 u7 w0 i0
  refine wpAnyH_ready (rs:=[8]) q6_7_ (by simp) (AllReadyH.cons (o:=o8) rfl (fun K hK=>?_) AllReadyH.nil)
  ·rw [if_pos (wa8 _)]
   refine s6_7_8 u6 u7 w0 i0 K (fun u8 w1 i1=>hK.out _ _ (z6_7_8_ u6 u7 u8 w1 i1) (fun _=>?_))
   clear hK
   refine wpAnyH_take (i:=9) (oi:=o9) rfl hs f6_7_8_9 r6_7_8_9 (fun _ _ _ h=>h) (y6_7_8_9 u6 u7 u8 w1 i1) (z6_7_8_ u6 u7 u8 w1 i1) ?_
   exact t6_7_8_ u6 u7 u8 w1 i1
 have t6_:∀ (u6:Value) w',I6_ u6 w'→wpAnyH P .any #[o0,o1,o2,o3,o4,o5,o6,o7,o8,o9] (NoPanic Q) S 3 #[true,true,true,true,true,true,true,false,false,false] (B.put o6.dst u6) w':=by
  intro u6 w0 i0
  refine wpAnyH_ready (rs:=[7]) q6_ (by simp) (AllReadyH.cons (o:=o7) rfl (fun K hK=>?_) AllReadyH.nil)
  ·rw [if_pos (wa7 _)]
   refine s6_7 u6 w0 i0 K (fun u7 w1 i1=>hK.out _ _ (z6_7_ u6 u7 w1 i1) (fun _=>?_))
   clear hK
   exact t6_7_ u6 u7 w1 i1
 have t_:∀ w',I_  w'→wpAnyH P .any #[o0,o1,o2,o3,o4,o5,o6,o7,o8,o9] (NoPanic Q) S 4 #[true,true,true,true,true,true,false,false,false,false] B w':=by
  intro w0 i0
  refine wpAnyH_ready (rs:=[6]) q_ (by simp) (AllReadyH.cons (o:=o6) rfl (fun K hK=>?_) AllReadyH.nil)
  ·rw [if_pos (wa6 _)]
   refine s_6  w0 i0 K (fun u6 w1 i1=>hK.out _ _ (z6_ u6 w1 i1) (fun _=>?_))
   clear hK
   exact t6_ u6 w1 i1
 exact t_ w.drew i0
end
end
section
open Go.RowKit Go.BigFrame
theorem xa3q (z:Int) (w:World):Calls Tryz.prog 49 #[.int .i64 z] w fun e w'=>e = .returned (.bool (wideB z))∧w' = w:=by
 by_cases h1:1≤z
 ·by_cases h2:z≤32
  ·rw [show wideB z = true by simp [wideB,h1,h2]]
   go_enter Tryz.func49,Tryz.ntmps49
   go_wp2
   go_ret
   simp
  ·rw [show wideB z = false by simp [wideB,h2]]
   go_enter Tryz.func49,Tryz.ntmps49
   go_wp2
   go_ret
   simp
 ·rw [show wideB z = false by simp [wideB,h1]]
  go_enter Tryz.func49,Tryz.ntmps49
  go_wp2
  go_ret
  simp
theorem xb0b (w:World):Calls Tryz.prog 141 #[] w fun e w'=>e = .returned (.slice (some ⟨w.heap.size,0,none⟩) 5 5)∧Rd w' (.slice (some ⟨w.heap.size,0,none⟩) 5 5) [78,84,82,89,49]∧Kept [] w w':=by
 have kc:=Lib.run_convert_bytes_const (P:=Tryz.prog) w 72 5 #[.int .u8 78,.int .u8 84,.int .u8 82,.int .u8 89,.int .u8 49] 5 5 Tryz.underlying72 Tryz.underlying5
 go_enter Tryz.func141,Tryz.ntmps141
 go_wp2
 go_ret
 exact ⟨rfl,rd_row [78,84,82,89,49] (heap_alloc_new w _) rfl (by decide) 5 rfl (by decide),(Kept.refl [] w).alloc _⟩
theorem xb8y {o:Oper} {a:Act} {w:World} {K:Act→World→Prop} {Q:Exit→Act→World→Prop} (x:Operand) (ho:o.op = .buildSlice 72 1 #[(0,x)]) (y:Nat) (hx:a.eval x = .int .u8 (y:Int))
  (h:K (a.put o.dst (.slice (some ⟨w.heap.size,0,none⟩) 1 1)) (w.alloc (.cells #[.int .u8 (y:Int)] 5))):o.wp Tryz.prog a w K Q:=by
 unfold Oper.wp execOp
 simp only [ho,List.map_toArray,List.map_cons,List.map_nil,hx]
 go_simp
 exact h
set_option maxHeartbeats 4000000 in
theorem xa7g (a b c:Nat) (z:Int) (w:World) (ha:a < 18446744073709551616) (hb:b < 18446744073709551616) (hc:c < 18446744073709551616) (hz:-9223372036854775808≤z∧z≤9223372036854775807) :
  Calls Tryz.prog 99 #[.agg #[.int .u64 a,.int .u64 b,.int .u64 c,.int .i64 z]] w fun e w'=>∃ v',e = .returned v'∧Rd w' v' (frB a (headB a b c z))∧Kept [] w w':=by
 have HB0:=hide (heap_alloc_new w (.cells #[.int .u64 (a:Int),.int .u64 (b:Int),.int .u64 (c:Int),.int .i64 z] 174))
 have HK0:=hide ((Kept.refl [] w).alloc (.cells #[.int .u64 (a:Int),.int .u64 (b:Int),.int .u64 (c:Int),.int .i64 z] 174))
 obtain ⟨W1,hW1⟩:∃ W,w.alloc (.cells #[.int .u64 (a:Int),.int .u64 (b:Int),.int .u64 (c:Int),.int .i64 z] 174) = W:=⟨_,rfl⟩
 rw [hW1] at HB0 HK0
 go_enter Tryz.func99,Tryz.ntmps99
 go_upto_region 1 with fail
 clear hW1
 obtain ⟨d0,d1,d2,d3⟩:=hcells (uh HB0)
 have HD0:=hide d0
 go_region_held3 (fun w'=>w'.cell? ⟨w.heap.size,0,none⟩ = some (.int .u64 (a:Int))) (go_keep) (first
  | (go_at_call 141; refine (xb0b W1.drew).mono ?_; rintro e w2 ⟨rfl,r2,k2⟩; have HR2:=hide r2; have K2:=(Kept.refl [] W1).drew.trans k2 (by simp); have HK2:=hide K2; have y0:=K2.cell (uh HD0) (by simp); clear r2 k2 K2)
  | (go_at_call 142; refine (xa0z a 8 _ ha (by omega)).mono ?_; rintro e w3 ⟨rfl,k3,h3⟩; have HR3:=hide (rd_lit h3 rfl (xa0o a 8) 8 (xa0c a 8) (by omega)); have HR23:=hide ((uh HR2).old k3 (by simp)); have HK3:=hide ((uh HK2).trans k3 (by simp)); have z0:=k3.cell y0 (by simp); clear k3 h3)
  | (go_at_call 140; refine (xa1e _ _ _ (wide a 8) _ (by exact uh HR23) (by exact uh HR3) (by simp [xa0c])).mono ?_; rintro e w4 ⟨v4,rfl,r4,k4,_⟩; have HR4:=hide r4; have HK4:=hide ((uh HK3).trans k4 (by simp)); have j0:=k4.cell z0 (by simp); clear k4 r4))
 clear d0 d1 d2 d3 y0 z0 j0 HD0 HR2 HR23 HR3 HK2 HK3
 have HB4:=hide ((uh HK4).heap (uh HB0) (by simp))
 have HKw4:=hide ((uh HK0).trans (uh HK4) (by simp))
 obtain ⟨a4,m4,c4,rfl,hm4,_⟩:=id (uh HR4)
 clear hm4
 clear HK4 HB0 HK0
 go_upto_region 2 with fail
 have HS4:=hide (fun w' (k:Kept [] w4 w')=>by
  obtain ⟨d0,d1,d2,d3⟩:=hcells (uh HB4)
  exact ⟨k.cell d1 (by simp),k.cell d2 (by simp)⟩:∀ w',Kept [] w4 w'→w'.cell? ⟨w.heap.size,1,none⟩ = some (.int .u64 (b:Int))∧w'.cell? ⟨w.heap.size,2,none⟩ = some (.int .u64 (c:Int)))
 refine wp_hb2 (by kernel_rfl) (by kernel_rfl) (by kernel_rfl) (by kernel_rfl) (by kernel_rfl) (by kernel_rfl) (by kernel_rfl) (by kernel_rfl) (by kernel_rfl) (by kernel_rfl) (by kernel_rfl) (by kernel_rfl) (by kernel_rfl) (by kernel_rfl) (by kernel_rfl) (by kernel_rfl) (by kernel_rfl) (by kernel_rfl) (by kernel_rfl) rfl rfl rfl rfl
  (.slice a4 m4 c4) (.pointer (some ⟨w.heap.size,1,none⟩)) (.int .u64 (b:Int)) (.pointer (some ⟨w.heap.size,2,none⟩)) (.int .u64 (c:Int)) _ _ _ _ _
  (fun w'=>w'.cell? ⟨w.heap.size,1,none⟩ = some (.int .u64 (b:Int))∧w'.cell? ⟨w.heap.size,2,none⟩ = some (.int .u64 (c:Int)))
  (fun w'=>Kept [] w4 w')
  (fun u3 w'=>Kept [] w4 w'∧Rd w' u3 (wide b 8))
  (fun u3 u6 w'=>Kept [] w4 w'∧Rd w' u3 (wide b 8)∧Rd w' u6 (wide c 8))
  (fun u3 u6 u7 w'=>Kept [] w4 w'∧Rd w' u7 (wide b 8++wide c 8))
  (fun u3 u6 u7 u8 w'=>Kept [] w4 w'∧Rd w' u8 ([78,84,82,89,49]++wide a 8++(wide b 8++wide c 8)))
  (fun u3 u6 u7 u8=>u8)
  (by simp only [Act.put,sa1,sa2,sa3]; rfl) (by exact Or.inl ⟨by rfl,fun W' hW'=>by go_simp⟩)
  (by simp only [Act.put,sa1,sa2,sa3]; rfl) (by exact Or.inl ⟨by rfl,fun W' hW'=>by go_simp⟩)
  (by simp only [Act.put,sa1,sa2,sa3]; rfl) (by exact Or.inl ⟨by rfl,fun W' hW'=>xa0s 59 _ rfl ⟨w.heap.size,1,none⟩ rfl W' _ .u64 Tryz.underlying59 hW'.1⟩)
  (by simp only [Act.put,sa1,sa2,sa3]; rfl) (by exact Or.inl ⟨by rfl,fun W' hW'=>by go_simp⟩)
  (by simp only [Act.put,sa1,sa2,sa3]; rfl) (by exact Or.inl ⟨by rfl,fun W' hW'=>xa0s 59 _ rfl ⟨w.heap.size,2,none⟩ rfl W' _ .u64 Tryz.underlying59 hW'.2⟩)
  ((Kept.refl [] w4).drew)
  ⟨fun w' h=>uh HS4 w' h,fun u3 w' h=>uh HS4 w' h.1,fun u3 u6 w' h=>uh HS4 w' h.1,fun u3 u6 u7 w' h=>uh HS4 w' h.1,fun u3 u6 u7 u8 w' h=>uh HS4 w' h.1⟩
  (by
   rintro w' k K hK
   refine xa0e rfl Tryz.call142 [.int .u64 (b:Int),.int .i64 8] rfl (xa0z b 8 w' hb (by omega)) ?_
   rintro e w2 ⟨rfl,k2,g2⟩
   exact ⟨_,rfl,hK _ _ ⟨k.trans k2 (by simp),rd_lit g2 rfl (xa0o b 8) 8 (xa0c b 8) (by omega)⟩⟩)
  (by
   rintro u3 w' ⟨k,r3⟩ K hK
   refine xa0e rfl Tryz.call142 [.int .u64 (c:Int),.int .i64 8] rfl (xa0z c 8 w' hc (by omega)) ?_
   rintro e w2 ⟨rfl,k2,g2⟩
   exact ⟨_,rfl,hK _ _ ⟨k.trans k2 (by simp),r3.old k2 (by simp),rd_lit g2 rfl (xa0o c 8) 8 (xa0c c 8) (by omega)⟩⟩)
  (by
   rintro u3 u6 w' ⟨k,r3,r6⟩ K hK
   refine xa0e rfl Tryz.call140 [u3,u6] rfl (xa1e _ _ (wide b 8) (wide c 8) w' r3 r6 (by simp [xa0c])) ?_
   rintro e w2 ⟨v7,rfl,r7,k2,_⟩
   exact ⟨_,rfl,hK _ _ ⟨k.trans k2 (by simp),r7⟩⟩)
  (by
   rintro u3 u6 u7 w' ⟨k,r7⟩ K hK
   refine xa0e rfl Tryz.call140 [.slice a4 m4 c4,u7] rfl (xa1e _ _ ([78,84,82,89,49]++wide a 8) (wide b 8++wide c 8) w' ((uh HR4).old k (by simp)) r7 (by simp [xa0c])) ?_
   rintro e w2 ⟨v8,rfl,r8,k2,_⟩
   exact ⟨_,rfl,hK _ _ ⟨k.trans k2 (by simp),r8⟩⟩)
  (by rintro u3 u6 u7 u8 w' ⟨k,r8⟩; exact Or.inl ⟨by rfl,fun W' hW'=>by go_simp⟩)
  ?_
 rintro u3 u6 u7 v8 w8 ⟨k8,r8⟩
 simp only [Act.put,sa1,sa2,sa3]
 have HK8:=hide k8
 have HR8:=hide r8
 clear k8 r8
 have HB8:=hide ((uh HK8).heap (uh HB4) (by simp))
 have HKw8:=hide ((uh HKw4).trans (uh HK8) (by simp))
 obtain ⟨a8,m8,c8,rfl,hm8,_⟩:=id (uh HR8)
 clear hm8
 clear HK8 HB4 HKw4
 obtain ⟨y,hy⟩:∃ y,(z % 256).toNat = y:=⟨_,rfl⟩
 have hyl:y < 256:=by omega
 have hval:IntKind.u8.wrap z = (y:Int):=by rw [IntKind.wrap_u8']; omega
 have HY:=hide (And.intro hy hyl)
 clear hy hyl
 go_upto_region 3 with fail
 have HS8:=hide (fun w' (k:Kept [] w8 w')=>by
  obtain ⟨d0,d1,d2,d3⟩:=hcells (uh HB8)
  exact ⟨k.cell d0 (by simp),k.cell d3 (by simp)⟩:∀ w',Kept [] w8 w'→w'.cell? ⟨w.heap.size,0,none⟩ = some (.int .u64 (a:Int))∧w'.cell? ⟨w.heap.size,3,none⟩ = some (.int .i64 z))
 obtain ⟨P,hP⟩:∃ P,[78,84,82,89,49]++wide a 8++(wide b 8++wide c 8) = P:=⟨_,rfl⟩
 have HPL:=hide (by rw [← hP]; simp [xa0c]:P.length = 29)
 have HPE:=hide (by unfold headB; rw [← hP,(uh HY).1]; simp:headB a b c z = P++[y])
 rw [hP] at HR8
 clear hP
 refine wp_hb3 (by kernel_rfl) (by kernel_rfl) (by kernel_rfl) (by kernel_rfl) (by kernel_rfl) (by kernel_rfl) (by kernel_rfl) (by kernel_rfl) (by kernel_rfl) (by kernel_rfl) (by kernel_rfl) (by kernel_rfl) (by kernel_rfl) (by kernel_rfl) (by kernel_rfl) (by kernel_rfl) (by kernel_rfl) (by kernel_rfl) (by kernel_rfl) (by kernel_rfl) rfl rfl rfl
  (.pointer (some ⟨w.heap.size,0,none⟩)) (.int .u64 (a:Int)) (.slice a8 m8 c8) (.pointer (some ⟨w.heap.size,3,none⟩)) (.int .i64 z) (.int .u8 (y:Int)) _ _ _ _ _ _
  (fun w'=>w'.cell? ⟨w.heap.size,0,none⟩ = some (.int .u64 (a:Int))∧w'.cell? ⟨w.heap.size,3,none⟩ = some (.int .i64 z))
  (fun w'=>Kept [] w8 w')
  (fun u6 w'=>Kept [] w8 w'∧Rd w' u6 [y])
  (fun u6 u7 w'=>Kept [] w8 w'∧Rd w' u7 (P++[y]))
  (fun u6 u7 u8 w'=>Kept [] w8 w'∧Rd w' u8 (frB a (P++[y])))
  (fun u6 u7 u8=>u8)
  (by simp only [Act.put,sa1,sa2,sa3]; rfl) (by exact Or.inl ⟨by rfl,fun W' hW'=>by go_simp⟩)
  (by simp only [Act.put,sa1,sa2,sa3]; rfl) (by exact Or.inl ⟨by rfl,fun W' hW'=>xa0s 59 _ rfl ⟨w.heap.size,0,none⟩ rfl W' _ .u64 Tryz.underlying59 hW'.1⟩)
  (by simp only [Act.put,sa1,sa2,sa3]; rfl) (by exact Or.inl ⟨by rfl,fun W' hW'=>by go_simp⟩)
  (by simp only [Act.put,sa1,sa2,sa3]; rfl) (by exact Or.inl ⟨by rfl,fun W' hW'=>by go_simp⟩)
  (by simp only [Act.put,sa1,sa2,sa3]; rfl) (by exact Or.inl ⟨by rfl,fun W' hW'=>xa0s 3 _ rfl ⟨w.heap.size,3,none⟩ rfl W' _ .i64 (by kernel_rfl) hW'.2⟩)
  (by simp only [Act.put,sa1,sa2,sa3]; rfl) (by exact Or.inl ⟨by rfl,fun W' hW'=>by go_simp⟩)
  ((Kept.refl [] w8).drew)
  ⟨fun w' h=>uh HS8 w' h,fun u3 w' h=>uh HS8 w' h.1,fun u3 u6 w' h=>uh HS8 w' h.1,fun u3 u6 u7 w' h=>uh HS8 w' h.1⟩
  (by
   rintro w' k K hK
   exact xb8y _ rfl y rfl (hK _ _ ⟨k.alloc _,rd_row [y] (heap_alloc_new w' _) rfl (by intro x hx; rw [List.mem_singleton] at hx; subst hx; exact (uh HY).2) 1 rfl (by decide)⟩))
  (by
   rintro u6 w' ⟨k,r6⟩ K hK
   refine xa0e rfl Tryz.call140 [.slice a8 m8 c8,u6] rfl (xa1e _ _ P [y] w' ((uh HR8).old k (by simp)) r6 (by rw [uh HPL]; simp)) ?_
   rintro e w2 ⟨v7,rfl,r7,k2,_⟩
   exact ⟨_,rfl,hK _ _ ⟨k.trans k2 (by simp),r7⟩⟩)
  (by
   rintro u6 u7 w' ⟨k,r7⟩ K hK
   refine xa0e rfl Tryz.call110 [.int .u64 (a:Int),u7] rfl (xa2u a _ (P++[y]) w' r7 ha (by rw [List.length_append,uh HPL]; simp)) ?_
   rintro e w2 ⟨v8,rfl,r8,k2,_⟩
   exact ⟨_,rfl,hK _ _ ⟨k.trans k2 (by simp),r8⟩⟩)
  (by rintro u6 u7 u8 w' ⟨k,r8⟩; exact Or.inl ⟨by rfl,fun W' hW'=>by go_simp⟩)
  ?_
 rintro u6 u7 v9 w9 ⟨k9,r9⟩
 simp only [Act.put,sa1,sa2,sa3]
 have HK9:=hide ((uh HKw8).trans k9 (by simp))
 have HR9:=hide r9
 clear k9 r9
 go_wp2
 go_ret
 exact ⟨_,rfl,by rw [uh HPE]; exact uh HR9,uh HK9⟩
end
section
open Go.RowKit Go.BigFrame Go.Maps Go.Sort
set_option maxHeartbeats 2000000 in
theorem xa8c (p:Value) (hp:p = .pointer none∨∃ d,p = .pointer (some ⟨d,0,none⟩)) (wd lim:Int) (w:World) (h:argOk wd lim = false) :
  Calls Tryz.prog 16 #[p,.int .i64 wd,.int .i64 lim] w fun e w'=>e = .returned (.tuple #[.pointer none,.slice none 0 0,.int .i64 1])∧w' = w:=by
 have h0:¬ (1≤wd∧wd≤32∧1≤lim∧lim≤1048576):=by simpa [argOk] using h
 have HW:=hide (xa3q wd w)
 by_cases c1:wideB wd = true
 ·have c2:1≤wd∧wd≤32:=by unfold wideB at c1; simpa using c1
  rw [c1] at HW
  by_cases c3:lim < 1
  ·clear h h0 c1 c2
   go_enter Tryz.func16,Tryz.ntmps16
   go_wp2_with fail
   refine Calls.mono (uh HW) ?_
   rintro e w' ⟨rfl,rfl⟩
   go_wp2_with fail
   refine bodyPost_ret (v:=.tuple #[.pointer none,.slice none 0 0,.int .i64 1]) (by rw [results_tmp3 rfl]; rfl) rfl ⟨rfl,rfl⟩
  ·have c4:1048576 < lim:=by omega
   clear h h0 c1 c2
   go_enter Tryz.func16,Tryz.ntmps16
   go_wp2_with fail
   refine Calls.mono (uh HW) ?_
   rintro e w' ⟨rfl,rfl⟩
   go_wp2_with fail
   refine bodyPost_ret (v:=.tuple #[.pointer none,.slice none 0 0,.int .i64 1]) (by rw [results_tmp3 rfl]; rfl) rfl ⟨rfl,rfl⟩
 ·rw [show wideB wd = false by simpa using c1] at HW
  clear h h0 c1
  go_enter Tryz.func16,Tryz.ntmps16
  go_wp2_with fail
  refine Calls.mono (uh HW) ?_
  rintro e w' ⟨rfl,rfl⟩
  go_wp2_with fail
  refine bodyPost_ret (v:=.tuple #[.pointer none,.slice none 0 0,.int .i64 1]) (by rw [results_tmp3 rfl]; rfl) rfl ⟨rfl,rfl⟩
set_option maxHeartbeats 2000000 in
theorem xb3w (wd lim:Int) (w:World) (h:argOk wd lim = true) :
  Calls Tryz.prog 16 #[.pointer none,.int .i64 wd,.int .i64 lim] w fun e w'=>e = .returned (.tuple #[.pointer none,.slice none 0 0,.int .i64 5])∧w' = w:=by
 have h0:1≤wd∧wd≤32∧1≤lim∧lim≤1048576:=by simpa [argOk] using h
 have HW:=hide (xa3q wd w)
 rw [show wideB wd = true by unfold wideB; simp; omega] at HW
 have c3:¬ lim < 1:=by omega
 have c4:¬ 1048576 < lim:=by omega
 clear h h0
 go_enter Tryz.func16,Tryz.ntmps16
 go_wp2_with fail
 refine Calls.mono (uh HW) ?_
 rintro e w' ⟨rfl,rfl⟩
 go_wp2_with fail
 refine bodyPost_ret (v:=.tuple #[.pointer none,.slice none 0 0,.int .i64 5]) (by rw [results_tmp3 rfl]; rfl) rfl ⟨rfl,rfl⟩
end
section
open Go.RowKit Go.BigFrame

set_option maxHeartbeats 1000000 in
theorem xb7n (f n:Nat) (w:World) (hf:f < 18446744073709551616) (hn:n < 9223372036854775808) :
  Calls Tryz.prog 184 #[.int .u64 f,.int .i64 n] w fun r w'=>r = .returned (.bool (decide (f + n < 18446744073709551616)))∧w' = w:=by
 have h1:IntKind.u64.wrap (n:Int) = n:=by simp [IntKind.wrap,IntKind.signed,IntKind.bits]; omega
 by_cases h:f + n < 18446744073709551616
 ·have h2:IntKind.u64.wrap ((f:Int) + n) = f + n:=by simp [IntKind.wrap,IntKind.signed,IntKind.bits]; omega
  have h2':((f:Int) + n) % 18446744073709551616 = f + n:=by omega
  have h3:(f:Int)≤f + n:=by omega
  have HD:=hide (decide_eq_true h)
  go_enter Tryz.func184,Tryz.ntmps184
  go_wp2
  go_ret
  exact ⟨by first | rfl | (rw [uh HD]; rfl),rfl⟩
 ·have h2:IntKind.u64.wrap ((f:Int) + n) = f + n - 18446744073709551616:=by simp [IntKind.wrap,IntKind.signed,IntKind.bits]; omega
  have h2':((f:Int) + n) % 18446744073709551616 = f + n - 18446744073709551616:=by omega
  have h3:¬ (f:Int)≤f + n - 18446744073709551616:=by omega
  have HD:=hide (decide_eq_false h)
  go_enter Tryz.func184,Tryz.ntmps184
  go_wp2
  go_ret
  exact ⟨by first | rfl | (rw [uh HD]; rfl),rfl⟩
theorem Tryz.size_rhead:(Tryz.prog.info? 174).map (·.size) = some 4:=by kernel_rfl

end

section
open Go.RowKit
attribute [local go_sem ↓] Go.wp_at_zero Go.wp_at_succ
theorem three {w:World} {b:Nat} {v0 v1 v2:Value} {t:TypeId} (h:w.heap[b]? = some (.cells #[v0,v1,v2] t (0,0))) :
  (w.cell? ⟨b,0,none⟩ = some v0∧w.cell? ⟨b,1,none⟩ = some v1∧w.cell? ⟨b,2,none⟩ = some v2)∧(w.frozen? ⟨b,0,none⟩ = false∧w.frozen? ⟨b,1,none⟩ = false∧w.frozen? ⟨b,2,none⟩ = false):=by
 refine ⟨⟨?_,?_,?_⟩,?_,?_,?_⟩ <;> first | (rw [cell_of_row _ _ _ _ _ _ h]; rfl) | exact frozen_of_row _ _ _ _ _ h
abbrev rrV (gv:Value) (i e:Int):Value:=.agg #[gv,.int .i64 i,.int .i64 e]
set_option maxHeartbeats 1000000 in
theorem xa1m (ao:Option Addr) (n c:Nat) (i e f:Int) (w:World) :
  Calls Tryz.prog 230 #[rrV (.slice ao n c) i e,.int .i64 f] w fun r w'=>r = .returned (rrV (.slice ao n c) i f)∧Kept [] w w':=by
 go_enter Tryz.func230,Tryz.ntmps230
 go_wp2
 exact bodyPost_ret (v:=.agg #[.slice ao n c,.int .i64 i,.int .i64 f]) (by simp [results,Tryz.results230,go_sem]) rfl ⟨rfl,((Kept.refl [] w).alloc _).alloc _⟩
set_option maxHeartbeats 4000000 in
theorem xa0k (ao:Option Addr) (c:Nat) (p:List Nat) (i e n:Nat) (w:World) (h:Rd w (.slice ao p.length c) p) (hi:i≤p.length) (hn:n≤8) :
  Calls Tryz.prog 180 #[rrV (.slice ao p.length c) i e,.int .i64 n] w fun r w'=>r = .returned (.tuple #[.int .u64 (rNum p i e n).1,rrV (.slice ao p.length c) (rNum p i e n).2.1 (rNum p i e n).2.2])∧Kept [] w w':=by
 have hl:=h.len
 by_cases he:e = 0
 ·subst he
  by_cases hs:p.length - i < n
  ·have HV:=hide (by simp [rNum,hs]:rNum p i 0 n = (0,i,3))
   have hs':(p.length:Int) - i < n:=by omega
   clear h
   go_enter Tryz.func180,Tryz.ntmps180
   go_wp2_with fail
   refine (xa1m ao p.length c i 0 3 _).mono ?_
   rintro r w1 ⟨rfl,k1⟩
   obtain ⟨⟨c0,c1,c2⟩,f0,f1,f2⟩:=three (k1.heap (heap_alloc2_new w _ _) (by simp))
   have HK1:=hide ((((Kept.refl [] w).alloc _).alloc _).trans k1 (by simp))
   have hsz:w.heap.size≤w.heap.size + 1:=by omega
   clear k1
   go_wp2
   refine bodyPost_ret (v:=.tuple #[.int .u64 0,rrV (.slice ao p.length c) i 3]) (by simp [results,Tryz.results180,go_sem,c0,c1,c2]) rfl ⟨by rw [uh HV]; rfl,?_⟩
   exact (((uh HK1).setCell (by simp) _).setCell (by simp) _).setCell (by simp) _
  ·have HV:=hide (by simp [rNum,hs]:rNum p i 0 n = (beL ((p.drop i).take n),i + n,0))
   have hs':¬ (p.length:Int) - i < n:=by omega
   have hq:∀ k,k < n→(p.drop i).getD k 0 = p.getD (i + k) 0:=fun k hk=>by simp [List.getD_eq_getElem?_getD]
   have hsn:∀ k,k < n→beL (((p.drop i).take n).take (k + 1)) = (beL (((p.drop i).take n).take k) * 256 + p.getD (i + k) 0) % 18446744073709551616:=fun k hk=>by
    rw [xa9s _ k (by simp; omega)]
    congr 2
    simp [List.getD_eq_getElem?_getD,List.getElem?_take,hk]
   have hlt64:∀ k,beL (((p.drop i).take n).take k) < 18446744073709551616:=fun k=>beL_lt _
   have hfull:((p.drop i).take n).take n = (p.drop i).take n:=by rw [List.take_take,Nat.min_self]
   obtain ⟨ao',len',cap',hE,_,h2,⟨h3,h3'⟩,h4,h5,h6⟩:=h
   cases hE
   have hgb:=fun k=>xa4v h5 k
   have H6:=hide h6
   have Hsn:=hide hsn
   have Hlt:=hide hlt64
   have Hgb:=hide hgb
   obtain ⟨q,hqq⟩:∃ q,(p.drop i).take n = q:=⟨_,rfl⟩
   rw [hqq] at HV Hsn Hlt hfull
   have Hfull:=hide hfull
   clear h6 h4 h5 hsn hlt64 hgb hq hqq hfull
   go_enter Tryz.func180,Tryz.ntmps180
   go_wp2_with fail
   go_loopw [6,7] (fun t6 t7 wr=>∃ k:Nat,k≤n∧t7 = .int .i64 k∧t6 = .int .u64 (beL (q.take k))∧wr = (w.alloc (.cells #[.slice ao p.length c,.int .i64 i,.int .i64 0] 272)).alloc (.cells #[.slice none 0 0,.int .i64 0,.int .i64 0] 272)) (fun _ i _=>n - (intOf i).toNat)
   case atStart=>exact ⟨0,Nat.zero_le _,rfl,by simp [beL],rfl⟩
   case round =>
    obtain ⟨k,hk,rfl,rfl,rfl⟩:=hrel
    by_cases hlt:k < n
    ·obtain ⟨bb,oo,rfl,hc⟩:=uh H6 (by omega)
     have hck:=hc (i + k) (by omega)
     have hbb:bb < w.heap.size:=block_lt_of_cell hck
     have hb1:=uh Hgb (i + k)
     have hs1:=uh Hsn k hlt
     have ha1:=uh Hlt k
     obtain ⟨z,hz⟩:∃ z,p.getD (i + k) 0 = z:=⟨_,rfl⟩
     obtain ⟨a,ha⟩:∃ a,beL (q.take k) = a:=⟨_,rfl⟩
     obtain ⟨a',ha'⟩:∃ a',beL (q.take (k + 1)) = a':=⟨_,rfl⟩
     rw [hz] at hck hb1 hs1
     rw [ha] at hs1 ha1 ⊢
     rw [ha'] at hs1
     have Ha':=hide ha'
     have hval:IntKind.u64.wrap (IntKind.u64.wrap ((a:Int) * 256) + (z:Int)) = (a':Int):=by rw [hs1,IntKind.wrap_u64,IntKind.wrap_u64]; omega
     have hval2:IntKind.u64.wrap ((a:Int) * 256 % 18446744073709551616 + (z:Int)) = (a':Int):=by rw [hs1,IntKind.wrap_u64]; omega
     have hi0:(0:Int)≤(i:Int) + k:=by omega
     have hi1:(i:Int) + k < p.length:=by omega
     have hlt':(k:Int) < n:=by omega
     have Hv:=hide hval
     have Hs1:=hide hs1
     clear hc hz ha ha' hs1
     go_wp2
     go_roundw
     case rel=>exact ⟨k + 1,by omega,by go_num,by rw [uh Ha'],trivial⟩
     case measure=>simp [intOf]; omega
    ·have hkn:k = n:=by omega
     subst hkn
     have hlt':¬ (k:Int) < k:=by omega
     rw [uh Hfull]
     obtain ⟨a,ha⟩:∃ a,beL q = a:=⟨_,rfl⟩
     rw [ha] at HV ⊢
     clear ha
     go_wp2_with fail
     go_region
     all_goals go_wp2
     refine bodyPost_ret (v:=.tuple #[.int .u64 a,rrV (.slice ao p.length c) ((i:Int) + k) 0]) (by simp [results,Tryz.results180,go_sem]) rfl ⟨by rw [uh HV]; simp,(by repeat (first | exact Kept.refl _ _ | apply Kept.drew | apply Kept.alloc | (refine Kept.setCell ?_ (by simp) _)))⟩
 ·have he':((e:Int) != 0) = true:=by rw [bne_iff_ne]; omega
  have HV:=hide (by simp [rNum,he]:rNum p i e n = (0,i,e))
  clear he h
  go_enter Tryz.func180,Tryz.ntmps180
  go_wp2_with fail
  go_region
  all_goals go_wp2
  refine bodyPost_ret (v:=.tuple #[.int .u64 0,rrV (.slice ao p.length c) i e]) (by simp [results,Tryz.results180,go_sem]) rfl ⟨by rw [uh HV]; rfl,(by repeat (first | exact Kept.refl _ _ | apply Kept.drew | apply Kept.alloc | (refine Kept.setCell ?_ (by simp) _)))⟩
set_option maxHeartbeats 4000000 in
theorem xa1h (ao:Option Addr) (c:Nat) (p:List Nat) (i e:Nat) (w:World) (h:Rd w (.slice ao p.length c) p) (hi:i≤p.length) :
  Calls Tryz.prog 182 #[rrV (.slice ao p.length c) i e] w fun r w'=>r = .returned (.tuple #[.int .u64 (rUvar p i e).1,rrV (.slice ao p.length c) (rUvar p i e).2.1 (rUvar p i e).2.2])∧Kept [] w w':=by
 have hl:=h.len
 by_cases he:e = 0
 ·subst he
  have HV:=hide (by simp [rUvar]:rUvar p i 0 = if (fuv (p.drop i) 0 0).2 = 0 then (0,i,3) else ((fuv (p.drop i) 0 0).1,i + (fuv (p.drop i) 0 0).2,0))
  obtain ⟨ao',len',cap',hE,_,h2,⟨h3,h3'⟩,h4,h5,h6⟩:=h
  cases hE
  have hgb:=fun k=>xa4v h5 k
  have H6:=hide h6
  have Hgb:=hide hgb
  obtain ⟨F,hF⟩:∃ F,fuv (p.drop i) 0 0 = F:=⟨_,rfl⟩
  rw [hF] at HV
  have HF:=hide hF
  clear h6 h4 h5 hgb hF
  go_enter Tryz.func182,Tryz.ntmps182
  go_wp2_with fail
  go_loopw [4,5,6,7] (fun t4 t5 t6 t7 wr=>∃ k a u:Nat,k≤9∧i + k≤p.length∧u≤9223372036854775808∧t6 = .int .i64 k∧t4 = .int .u64 a∧t5 = .int .u64 u∧Hid (u = 128 ^ k)∧Hid (a < 128 ^ k)∧Hid (fuv (p.drop (i + k)) k a = F)∧wr = (w.alloc (.cells #[.slice ao p.length c,.int .i64 i,.int .i64 0] 272)).alloc (.cells #[.slice none 0 0,.int .i64 0,.int .i64 0] 272)) (fun _ _ i _ _=>10 - (intOf i).toNat)
  case atStart=>exact ⟨0,0,1,by omega,by omega,by omega,rfl,rfl,rfl,hide (by simp),hide (by simp),HF,rfl⟩
  case round =>
   obtain ⟨k,a,u,hk9,hik,hu,rfl,rfl,rfl,Hu,Ha,Hf,rfl⟩:=hrel
   have hk10:(k:Int) < 10:=by omega
   by_cases hlt:i + k < p.length
   ·obtain ⟨bb,oo,rfl,hc⟩:=uh H6 (by omega)
    have hck:=hc (i + k) hlt
    have hbb:bb < w.heap.size:=block_lt_of_cell hck
    have hcb:=uh Hgb (i + k)
    have hfk:=uh Hf
    rw [xb1g hlt,fuv] at hfk
    obtain ⟨z,hz⟩:∃ z,p.getD (i + k) 0 = z:=⟨_,rfl⟩
    rw [hz] at hck hcb hfk
    have hi0:(0:Int)≤(i:Int) + k:=by omega
    have hi1:(i:Int) + k < p.length:=by omega
    have hi2:¬ (p.length:Int)≤(i:Int) + k:=by omega
    clear hc hz
    by_cases h9:k = 9∧z≠1
    ·rw [if_pos h9] at hfk
     have t9:((k:Int) == 9) = true:=by simp; omega
     have t1:((z:Int) != 1) = true:=by rw [bne_iff_ne]; omega
     have HF0:=hide hfk
     clear hfk h9
     go_wp2_with fail
     refine (xa1m _ p.length c i 0 3 _).mono ?_
     rintro r w1 ⟨rfl,k1⟩
     obtain ⟨⟨c0,c1,c2⟩,f0,f1,f2⟩:=three (k1.heap (heap_alloc2_new w _ _) (by simp))
     have HK1:=hide ((((Kept.refl [] w).alloc _).alloc _).trans k1 (by simp))
     clear k1
     go_wp2
     refine bodyPost_ret (v:=.tuple #[.int .u64 0,rrV (.slice (some ⟨bb,oo,none⟩) p.length c) i 3]) (by simp [results,Tryz.results182,go_sem,c0,c1,c2]) rfl ⟨by rw [uh HV,← uh HF0]; rfl,?_⟩
     exact (((uh HK1).setCell (by simp) _).setCell (by simp) _).setCell (by simp) _
    ·rw [if_neg h9] at hfk
     have h9':k = 9→z = 1:=by intro h; omega
     have hgl:=xa9n k z hk9 h9'
     have hgn:=xa5h k z a (uh Ha)
     rw [← uh Hu] at hgl
     have hp9:128 ^ k≤128 ^ 9:=Nat.pow_le_pow_right (by omega) hk9
     have h99:(128:Nat) ^ 9 = 9223372036854775808:=(by decide)
     have haa:=uh Ha
     obtain ⟨s,hs⟩:∃ s,z % 128 * u = s:=⟨_,rfl⟩
     rw [hs] at hgl
     have hs2:z % 128 * 128 ^ k = s:=by rw [← uh Hu]; exact hs
     rw [hs2] at hfk hgn
     have hm:IntKind.u64.wrap ((z:Int) % 128 * (u:Int)) = (s:Int):=by
      rw [show ((z:Int) % 128 * (u:Int)) = ((z % 128 * u:Nat):Int) from by simp,hs,IntKind.wrap_u64]; omega
     have hsum:(a:Int) + s≤18446744073709551615:=by
      rcases Nat.lt_or_ge k 9 with h | h
      ·have:128 ^ (k + 1)≤128 ^ 9:=Nat.pow_le_pow_right (by omega) (by omega)
       omega
      ·have hk:k = 9:=by omega
       have hz1:=h9' hk
       subst hz1
       have:s = u:=by rw [← hs]; simp
       have hu9:=uh Hu
       rw [hk,h99] at hu9
       rw [hk,h99] at haa
       omega
     clear hp9 haa
     by_cases hbig:128≤z
     ·rw [if_pos hbig] at hfk
      have hk8:k≤8:=by omega
      have t9:((k:Int) == 9) = false:=by simp; omega
      have tb:¬ (z:Int) < 128:=by omega
      have hu8:u≤72057594037927936:=by
       rw [uh Hu]
       have:128 ^ k≤128 ^ 8:=Nat.pow_le_pow_right (by omega) hk8
       have h88:(128:Nat) ^ 8 = 72057594037927936:=(by decide)
       omega
      have HF1:=hide hfk
      have Hgn:=hide hgn
      clear hfk hgn h9 h9' hs hs2
      go_wp2
      go_roundw
      case rel=>exact ⟨k + 1,a + s,u * 128,by omega,by omega,by omega,by go_num,by go_num,by go_num,hide (by rw [uh Hu,Nat.pow_succ]),Hgn,hide (by have:=uh HF1; rwa [show i + (k + 1) = i + k + 1 from by omega]),trivial⟩
      case measure=>simp [intOf]; omega
     ·rw [if_neg hbig] at hfk
      have tb:(z:Int) < 128:=by omega
      by_cases hz:z = 0∧0 < k
      ·rw [if_pos hz] at hfk
       have HF0:=hide hfk
       have t0:((z:Int) == 0) = true:=by simp; omega
       have tk:(0:Int) < k:=by omega
       have t9:((k:Int) == 9) = false:=by simp; omega
       clear hfk hgn h9 h9' hs hs2 hz
       go_wp2_with fail
       refine (xa1m _ p.length c i 0 3 _).mono ?_
       rintro r w1 ⟨rfl,k1⟩
       obtain ⟨⟨c0,c1,c2⟩,f0,f1,f2⟩:=three (k1.heap (heap_alloc2_new w _ _) (by simp))
       have HK1:=hide ((((Kept.refl [] w).alloc _).alloc _).trans k1 (by simp))
       clear k1
       go_wp2
       refine bodyPost_ret (v:=.tuple #[.int .u64 0,rrV (.slice (some ⟨bb,oo,none⟩) p.length c) i 3]) (by simp [results,Tryz.results182,go_sem,c0,c1,c2]) rfl ⟨by rw [uh HV,← uh HF0]; rfl,?_⟩
       exact (((uh HK1).setCell (by simp) _).setCell (by simp) _).setCell (by simp) _
      ·rw [if_neg hz] at hfk
       have HF1:=hide hfk
       clear hgn hs hs2 hfk
       have T:=(show (((z:Int) == 0) = true∧¬ (0:Int) < k∧((k:Int) == 9) = false)∨(((z:Int) == 0) = false∧((k:Int) == 9) = false)∨(((z:Int) == 0) = false∧((k:Int) == 9) = true∧((z:Int) != 1) = false) from by
        by_cases hz0:z = 0
        ·left; refine ⟨by simp; omega,by omega,by simp; omega⟩
        ·by_cases hk':k = 9
         ·right; right; have:=h9' hk'; refine ⟨by simp; omega,by simp; omega,by simp; omega⟩
         ·right; left; exact ⟨by simp; omega,by simp; omega⟩)
       clear h9 h9' hz
       rcases T with ⟨t0,tk,t9⟩ | ⟨t0,t9⟩ | ⟨t0,t9,t1⟩
       all_goals
        go_wp2_with fail
        go_region
        all_goals go_wp2
        refine bodyPost_ret (v:=.tuple #[.int .u64 ((a:Int) + s),rrV (.slice (some ⟨bb,oo,none⟩) p.length c) ((i:Int) + ((k:Int) + 1)) 0]) (by simp [results,Tryz.results182,go_sem]) rfl ⟨by rw [uh HV,← uh HF1]; simp,(by repeat (first | exact Kept.refl _ _ | apply Kept.drew | apply Kept.alloc | (refine Kept.setCell ?_ (by simp) _)))⟩
   ·have e0:p.drop (i + k) = []:=List.drop_eq_nil_of_le (by omega)
    have HF0:=hide (by rw [← uh Hf,e0,fuv]:(0,0) = F)
    have hi2:(p.length:Int)≤(i:Int) + k:=by omega
    clear e0
    go_wp2_with fail
    refine (xa1m _ p.length c i 0 3 _).mono ?_
    rintro r w1 ⟨rfl,k1⟩
    obtain ⟨⟨c0,c1,c2⟩,f0,f1,f2⟩:=three (k1.heap (heap_alloc2_new w _ _) (by simp))
    have HK1:=hide ((((Kept.refl [] w).alloc _).alloc _).trans k1 (by simp))
    clear k1
    go_wp2
    refine bodyPost_ret (v:=.tuple #[.int .u64 0,rrV (.slice ao p.length c) i 3]) (by simp [results,Tryz.results182,go_sem,c0,c1,c2]) rfl ⟨by rw [uh HV,← uh HF0]; rfl,?_⟩
    exact (((uh HK1).setCell (by simp) _).setCell (by simp) _).setCell (by simp) _
 ·have he':((e:Int) != 0) = true:=by rw [bne_iff_ne]; omega
  have HV:=hide (by simp [rUvar,he]:rUvar p i e = (0,i,e))
  clear he h
  go_enter Tryz.func182,Tryz.ntmps182
  go_wp2_with fail
  go_region
  all_goals go_wp2
  refine bodyPost_ret (v:=.tuple #[.int .u64 0,rrV (.slice ao p.length c) i e]) (by simp [results,Tryz.results182,go_sem]) rfl ⟨by rw [uh HV]; rfl,(by repeat (first | exact Kept.refl _ _ | apply Kept.drew | apply Kept.alloc | (refine Kept.setCell ?_ (by simp) _)))⟩
attribute [local go_sem ↓] Go.wp_at_zero Go.wp_at_succ
set_option maxHeartbeats 4000000 in
theorem xa3u (ao:Option Addr) (c:Nat) (p:List Nat) (i e:Nat) (n:Int) (w:World) (h:Rd w (.slice ao p.length c) p) (hi:i≤p.length) (hn:-9223372036854775808≤n∧n≤9223372036854775807) :
  Calls Tryz.prog 181 #[rrV (.slice ao p.length c) i e,.int .i64 n] w fun r w'=>∃ rv,r = .returned (.tuple #[rv,rrV (.slice ao p.length c) (rRaw p i e n).2.1 (rRaw p i e n).2.2])∧Rd w' rv (rRaw p i e n).1∧Kept [] w w'∧∀ x∈blk rv,w.heap.size≤x:=by
 have hl:=h.len
 by_cases he:e = 0
 ·subst he
  by_cases hn0:n < 0
  ·have HV:=hide (by simp [rRaw,hn0]:rRaw p i 0 n = ([],i,1))
   clear h
   go_enter Tryz.func181,Tryz.ntmps181
   go_wp2_with fail
   refine (xa1m _ p.length c i 0 1 _).mono ?_
   rintro r w1 ⟨rfl,k1⟩
   obtain ⟨⟨c0,c1,c2⟩,f0,f1,f2⟩:=three (k1.heap (heap_alloc2_new w _ _) (by simp))
   have HK1:=hide ((((Kept.refl [] w).alloc _).alloc _).trans k1 (by simp))
   clear k1
   go_wp2
   refine bodyPost_ret (v:=.tuple #[.slice none 0 0,rrV (.slice ao p.length c) i 1]) (by simp [results,Tryz.results181,go_sem,c0,c1,c2]) rfl ?_
   rw [uh HV]
   exact ⟨_,rfl,Rd.nil _,(((uh HK1).setCell (by simp) _).setCell (by simp) _).setCell (by simp) _,by simp [blk]⟩
  ·obtain ⟨k,rfl⟩:∃ k:Nat,n = k:=⟨n.toNat,by omega⟩
   by_cases hs:p.length - i < k
   ·have HV:=hide (by have h2:(p.length:Int) - i < k:=(by omega); simp [rRaw,h2]:rRaw p i 0 k = ([],i,3))
    have hs':(p.length:Int) - i < k:=by omega
    clear h
    go_enter Tryz.func181,Tryz.ntmps181
    go_wp2_with fail
    refine (xa1m _ p.length c i 0 3 _).mono ?_
    rintro r w1 ⟨rfl,k1⟩
    obtain ⟨⟨c0,c1,c2⟩,f0,f1,f2⟩:=three (k1.heap (heap_alloc2_new w _ _) (by simp))
    have HK1:=hide ((((Kept.refl [] w).alloc _).alloc _).trans k1 (by simp))
    clear k1
    go_wp2
    refine bodyPost_ret (v:=.tuple #[.slice none 0 0,rrV (.slice ao p.length c) i 3]) (by simp [results,Tryz.results181,go_sem,c0,c1,c2]) rfl ?_
    rw [uh HV]
    exact ⟨_,rfl,Rd.nil _,(((uh HK1).setCell (by simp) _).setCell (by simp) _).setCell (by simp) _,by simp [blk]⟩
   ·have HV:=hide (by have h2:¬ (p.length:Int) - i < k:=(by omega); simp [rRaw,h2]:rRaw p i 0 k = ((p.drop i).take k,i + k,0))
    have hs':¬ (p.length:Int) - i < k:=by omega
    have hik:(i:Int) + k≤p.length:=by omega
    have hi0:(0:Int)≤i:=by omega
    have hk0:(0:Int)≤k:=by omega
    have HR:=hide h
    have hcc:(p.length:Int)≤c:=by obtain ⟨_,_,_,hE,_,h2,_⟩:=h; cases hE; omega
    have hc2:(c:Int)≤9223372036854775807:=by obtain ⟨_,_,_,hE,_,_,⟨h3,_⟩,_⟩:=h; cases hE; omega
    clear h
    go_enter Tryz.func181,Tryz.ntmps181
    go_wp2_with fail
    all_goals
     have hl2:((p.drop i).take k).length = k:=by simp; omega
     have hby:∀ y∈(p.drop i).take k,y < 256:=fun y hy=>(uh HR).byte y (List.mem_of_mem_drop (List.mem_of_mem_take hy))
     refine (xa9g _ ((p.drop i).take k) _ (by first | exact ((uh HR).sub0 (by assumption) (by omega)).old (((Kept.refl [] w).alloc _).alloc _) (by simp) | exact ((uh HR).sub (by omega)).old (((Kept.refl [] w).alloc _).alloc _) (by simp))).mono ?_
     rintro r w1 ⟨rfl,k1,h1⟩
     have hfr:=xa2g h1 hby (by omega)
     rw [hl2] at hfr ⊢
     have HRf:=hide hfr
     obtain ⟨⟨b0,b1,b2⟩,g0,g1,g2⟩:=three (k1.heap (heap_alloc2_old w _ _) (by simp))
     obtain ⟨⟨c0,c1,c2⟩,f0,f1,f2⟩:=three (k1.heap (heap_alloc2_new w _ _) (by simp))
     have hlt1:=lt_of_block h1
     have HK1:=hide ((((Kept.refl [] w).alloc _).alloc _).trans k1 (by simp))
     have hsz1:w.heap.size + 2 < w1.heap.size:=by simp at hlt1; omega
     clear k1 h1 hfr hlt1
     go_wp2_with fail
     go_region
     all_goals go_wp2
     refine bodyPost_ret (v:=.tuple #[.slice (some ⟨w.heap.size + 1 + 1,0,none⟩) k k,rrV (.slice ao p.length c) ((i:Int) + k) 0]) (by simp [results,Tryz.results181,go_sem,b0,b1,b2,c0,c1,c2] <;> omega) rfl ?_
     rw [uh HV]
     refine ⟨.slice (some ⟨w.heap.size + 1 + 1,0,none⟩) k k,by simp,?_,?_,by simp [blk]; omega⟩
     ·have h7:=uh HRf
      have h7':Rd w1 (.slice (some ⟨w.heap.size + 1 + 1,0,none⟩) k k) ((p.drop i).take k):=by simpa using h7
      exact h7'.kept (L:=[w.heap.size,w.heap.size + 1]) (by repeat (first | exact Kept.refl _ _ | apply Kept.drew | apply Kept.alloc | (refine Kept.setCell ?_ (by simp) _))) (by simp [blk]; omega)
     ·exact (uh HK1).trans (M:=[w.heap.size,w.heap.size + 1]) (by repeat (first | exact Kept.refl _ _ | apply Kept.drew | apply Kept.alloc | (refine Kept.setCell ?_ (by simp) _))) (by simp)
 ·have he':((e:Int) != 0) = true:=by rw [bne_iff_ne]; omega
  have HV:=hide (by simp [rRaw,he]:rRaw p i e n = ([],i,e))
  clear he h
  go_enter Tryz.func181,Tryz.ntmps181
  go_wp2_with fail
  go_region
  all_goals go_wp2
  refine bodyPost_ret (v:=.tuple #[.slice none 0 0,rrV (.slice ao p.length c) i e]) (by simp [results,Tryz.results181,go_sem]) rfl ?_
  rw [uh HV]
  exact ⟨_,rfl,Rd.nil _,(by repeat (first | exact Kept.refl _ _ | apply Kept.drew | apply Kept.alloc | (refine Kept.setCell ?_ (by simp) _))),by simp [blk]⟩
end
end Go.Proofs.YtejchncdimcdbaaGreatDoor
