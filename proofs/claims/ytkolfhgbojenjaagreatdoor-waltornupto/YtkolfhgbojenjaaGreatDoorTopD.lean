import Derived.Test.YtkolfhgbojenjaaGreatDoorTopC
namespace Go.Proofs.YtkolfhgbojenjaaGreatDoor
set_option linter.unusedVariables false
set_option linter.unusedSimpArgs false
set_option maxRecDepth 100000
section
open Go Go.RowKit Go.BigFrame
section
variable {P:Program} {Q:Exit→Act→World→Prop}
theorem wp_k11 {id:Nat} {o0 o1 o2 o3 o4 o5 o6 o7 o8 o9 o10:Oper} {a:Act} {w:World} (hm:P.follows .mixedOrders = true) (hs:Region.noSelect #[o0,o1,o2,o3,o4,o5,o6,o7,o8,o9,o10] = true)
  (f0:Region.free .any #[o0,o1,o2,o3,o4,o5,o6,o7,o8,o9,o10] #[false,false,false,false,false,false,false,false,false,false,false] 0 = true) (r0:(Region.ready .any #[o0,o1,o2,o3,o4,o5,o6,o7,o8,o9,o10] #[false,false,false,false,false,false,false,false,false,false,false]).contains 0 = true) (e0:o10.after.any (fun e=>Region.binds .any e && e.on == 0) = true)
  (f1:Region.free .any #[o0,o1,o2,o3,o4,o5,o6,o7,o8,o9,o10] #[true,false,false,false,false,false,false,false,false,false,false] 1 = true) (r1:(Region.ready .any #[o0,o1,o2,o3,o4,o5,o6,o7,o8,o9,o10] #[true,false,false,false,false,false,false,false,false,false,false]).contains 1 = true) (e1:o10.after.any (fun e=>Region.binds .any e && e.on == 1) = true)
  (f2:Region.free .any #[o0,o1,o2,o3,o4,o5,o6,o7,o8,o9,o10] #[true,true,false,false,false,false,false,false,false,false,false] 2 = true) (r2:(Region.ready .any #[o0,o1,o2,o3,o4,o5,o6,o7,o8,o9,o10] #[true,true,false,false,false,false,false,false,false,false,false]).contains 2 = true) (e2:o10.after.any (fun e=>Region.binds .any e && e.on == 2) = true)
  (f3:Region.free .any #[o0,o1,o2,o3,o4,o5,o6,o7,o8,o9,o10] #[true,true,true,false,false,false,false,false,false,false,false] 3 = true) (r3:(Region.ready .any #[o0,o1,o2,o3,o4,o5,o6,o7,o8,o9,o10] #[true,true,true,false,false,false,false,false,false,false,false]).contains 3 = true) (e3:o10.after.any (fun e=>Region.binds .any e && e.on == 3) = true)
  (f4:Region.free .any #[o0,o1,o2,o3,o4,o5,o6,o7,o8,o9,o10] #[true,true,true,true,false,false,false,false,false,false,false] 4 = true) (r4:(Region.ready .any #[o0,o1,o2,o3,o4,o5,o6,o7,o8,o9,o10] #[true,true,true,true,false,false,false,false,false,false,false]).contains 4 = true) (e4:o10.after.any (fun e=>Region.binds .any e && e.on == 4) = true)
  (f5:Region.free .any #[o0,o1,o2,o3,o4,o5,o6,o7,o8,o9,o10] #[true,true,true,true,true,false,false,false,false,false,false] 5 = true) (r5:(Region.ready .any #[o0,o1,o2,o3,o4,o5,o6,o7,o8,o9,o10] #[true,true,true,true,true,false,false,false,false,false,false]).contains 5 = true) (e5:o10.after.any (fun e=>Region.binds .any e && e.on == 5) = true)
  (q6:Region.ready .any #[o0,o1,o2,o3,o4,o5,o6,o7,o8,o9,o10] #[true,true,true,true,true,true,false,false,false,false,false] = [6]) (g6:o6.guard = none)
  (q7:Region.ready .any #[o0,o1,o2,o3,o4,o5,o6,o7,o8,o9,o10] #[true,true,true,true,true,true,true,false,false,false,false] = [7]) (g7:o7.guard = none)
  (q8:Region.ready .any #[o0,o1,o2,o3,o4,o5,o6,o7,o8,o9,o10] #[true,true,true,true,true,true,true,true,false,false,false] = [8]) (g8:o8.guard = none)
  (q9:Region.ready .any #[o0,o1,o2,o3,o4,o5,o6,o7,o8,o9,o10] #[true,true,true,true,true,true,true,true,true,false,false] = [9]) (g9:o9.guard = none)
  (q10:Region.ready .any #[o0,o1,o2,o3,o4,o5,o6,o7,o8,o9,o10] #[true,true,true,true,true,true,true,true,true,true,false] = [10]) (g10:o10.guard = none)
  (rr:Region.ready .any #[o0,o1,o2,o3,o4,o5,o6,o7,o8,o9,o10] #[true,true,true,true,true,true,true,true,true,true,true] = [])
  (v0 v1 v2 v3 v4 v5:Value) (A0 A1 A2 A3 A4 A5:Act) (T:World→Prop)
  (I0:World→Prop)
  (I1:Value→World→Prop)
  (I2:Value→Value→World→Prop)
  (I3:Value→Value→Value→World→Prop)
  (I4:Value→Value→Value→Value→World→Prop)
  (IE:Value→Value→Value→Value→World→Prop)
  (p0:a.put o0.dst v0 = A0) (hy0:YieldsIf P #[o0,o1,o2,o3,o4,o5,o6,o7,o8,o9,o10] T o0 v0 a)
  (p1:A0.put o1.dst v1 = A1) (hy1:YieldsIf P #[o0,o1,o2,o3,o4,o5,o6,o7,o8,o9,o10] T o1 v1 A0)
  (p2:A1.put o2.dst v2 = A2) (hy2:YieldsIf P #[o0,o1,o2,o3,o4,o5,o6,o7,o8,o9,o10] T o2 v2 A1)
  (p3:A2.put o3.dst v3 = A3) (hy3:YieldsIf P #[o0,o1,o2,o3,o4,o5,o6,o7,o8,o9,o10] T o3 v3 A2)
  (p4:A3.put o4.dst v4 = A4) (hy4:YieldsIf P #[o0,o1,o2,o3,o4,o5,o6,o7,o8,o9,o10] T o4 v4 A3)
  (p5:A4.put o5.dst v5 = A5) (hy5:YieldsIf P #[o0,o1,o2,o3,o4,o5,o6,o7,o8,o9,o10] T o5 v5 A4)
  (i0:I0 w.drew)
  (hIT:(∀ w',I0  w'→T w')∧(∀ (u0:Value) w',I1 u0 w'→T w')∧(∀ (u0 u1:Value) w',I2 u0 u1 w'→T w')∧(∀ (u0 u1 u2:Value) w',I3 u0 u1 u2 w'→T w')∧(∀ (u0 u1 u2 u3:Value) w',I4 u0 u1 u2 u3 w'→T w'))
  (s0:∀ w',I0  w'→∀ K:Act→World→Prop,(∀ (u0:Value) w2,I1 u0 w2→K (A5.put o6.dst u0) w2)→o6.wp P A5 w' K (NoPanic Q))
  (s1:∀ (u0:Value) w',I1 u0 w'→∀ K:Act→World→Prop,(∀ (u1:Value) w2,I2 u0 u1 w2→K ((A5.put o6.dst u0).put o7.dst u1) w2)→o7.wp P (A5.put o6.dst u0) w' K (NoPanic Q))
  (s2:∀ (u0 u1:Value) w',I2 u0 u1 w'→∀ K:Act→World→Prop,(∀ (u2:Value) w2,I3 u0 u1 u2 w2→K (((A5.put o6.dst u0).put o7.dst u1).put o8.dst u2) w2)→o8.wp P ((A5.put o6.dst u0).put o7.dst u1) w' K (NoPanic Q))
  (s3:∀ (u0 u1 u2:Value) w',I3 u0 u1 u2 w'→∀ K:Act→World→Prop,(∀ (u3:Value) w2,I4 u0 u1 u2 u3 w2→K ((((A5.put o6.dst u0).put o7.dst u1).put o8.dst u2).put o9.dst u3) w2)→o9.wp P (((A5.put o6.dst u0).put o7.dst u1).put o8.dst u2) w' K (NoPanic Q))
  (se:∀ (u0 u1 u2 u3:Value) w',I4 u0 u1 u2 u3 w'→∀ K:Act→World→Prop,(∀ w2,IE u0 u1 u2 u3 w2→K ((((A5.put o6.dst u0).put o7.dst u1).put o8.dst u2).put o9.dst u3) w2)→o10.wp P ((((A5.put o6.dst u0).put o7.dst u1).put o8.dst u2).put o9.dst u3) w' K (NoPanic Q))
  (h:∀ (u0 u1 u2 u3:Value) w',IE u0 u1 u2 u3 w'→Q .normal ((((A5.put o6.dst u0).put o7.dst u1).put o8.dst u2).put o9.dst u3) w') :
  (Code.region id #[o0,o1,o2,o3,o4,o5,o6,o7,o8,o9,o10] true).wp P Q a w:=by
 subst p0 p1 p2 p3 p4 p5
 obtain ⟨z0,z1,z2,z3,z4⟩:=hIT
 refine wp_region_noPanic ?_
 refine wp_region_any hm ?_
 refine AnyL.any (S:=fun d w'=>d.getD 10 true = false→T w') _ _ _ _ ?_
 show AnyL P .any #[o0,o1,o2,o3,o4,o5,o6,o7,o8,o9,o10] (NoPanic Q) _ 11 #[false,false,false,false,false,false,false,false,false,false,false] a w.drew
 have hSi:∀ i,i≠10→∀ (d:Array Bool) (w':World),((d.setIfInBounds i true).getD 10 true = false→T w')↔(d.getD 10 true = false→T w'):=by
  intro i h4 d w'
  rw [getD_set_ne true h4]
 refine AnyL.take (i:=0) (t:=10) (oi:=o0) (ot:=o10) (T:=T) rfl rfl (by decide) hs f0 r0 e0 (fun _ _ _ h=>h) (fun d w' h9 hd=>h9 hd) (hSi 0 (by decide)) hy0 rfl (fun _=>z0 _ i0) ?_
 refine AnyL.take (i:=1) (t:=10) (oi:=o1) (ot:=o10) (T:=T) rfl rfl (by decide) hs f1 r1 e1 (fun _ _ _ h=>h) (fun d w' h9 hd=>h9 hd) (hSi 1 (by decide)) hy1 rfl (fun _=>z0 _ i0) ?_
 refine AnyL.take (i:=2) (t:=10) (oi:=o2) (ot:=o10) (T:=T) rfl rfl (by decide) hs f2 r2 e2 (fun _ _ _ h=>h) (fun d w' h9 hd=>h9 hd) (hSi 2 (by decide)) hy2 rfl (fun _=>z0 _ i0) ?_
 refine AnyL.take (i:=3) (t:=10) (oi:=o3) (ot:=o10) (T:=T) rfl rfl (by decide) hs f3 r3 e3 (fun _ _ _ h=>h) (fun d w' h9 hd=>h9 hd) (hSi 3 (by decide)) hy3 rfl (fun _=>z0 _ i0) ?_
 refine AnyL.take (i:=4) (t:=10) (oi:=o4) (ot:=o10) (T:=T) rfl rfl (by decide) hs f4 r4 e4 (fun _ _ _ h=>h) (fun d w' h9 hd=>h9 hd) (hSi 4 (by decide)) hy4 rfl (fun _=>z0 _ i0) ?_
 refine AnyL.take (i:=5) (t:=10) (oi:=o5) (ot:=o10) (T:=T) rfl rfl (by decide) hs f5 r5 e5 (fun _ _ _ h=>h) (fun d w' h9 hd=>h9 hd) (hSi 5 (by decide)) hy5 rfl (fun _=>z0 _ i0) ?_
 refine AnyL.forced q6 rfl g6 (fun K hK=>s0  w.drew i0 K (fun u0 w1 i1=>hK _ _ (fun _=>z1 u0 w1 i1) ?_))
 refine AnyL.forced q7 rfl g7 (fun K hK=>s1 u0 w1 i1 K (fun u1 w2 i2=>hK _ _ (fun _=>z2 u0 u1 w2 i2) ?_))
 refine AnyL.forced q8 rfl g8 (fun K hK=>s2 u0 u1 w2 i2 K (fun u2 w3 i3=>hK _ _ (fun _=>z3 u0 u1 u2 w3 i3) ?_))
 refine AnyL.forced q9 rfl g9 (fun K hK=>s3 u0 u1 u2 w3 i3 K (fun u3 w4 i4=>hK _ _ (fun _=>z4 u0 u1 u2 u3 w4 i4) ?_))
 refine AnyL.forced q10 rfl g10 (fun K hK=>se u0 u1 u2 u3 w4 i4 K (fun we ie=>hK _ _ (fun h9=>(by cases h9)) ?_))
 exact ⟨rr,NoPanic.normal (h u0 u1 u2 u3 we ie)⟩
end
end
section
open Go.RowKit Go.BigFrame Go.Maps Go.Sort
def TW (W w:World) (u:Value) (es:List En) (X:List Nat):Prop:=∃ B C,C≤w.heap.size∧W.heap.size≤B∧(∀ b∈X,b < B∨C≤b)∧∀ M w2,Kept M w w2→(∀ x∈M,x < B∨C≤x)→RdN w2 u es
theorem TW.of {W w w2:World} {u:Value} {es:List En} (h:NewN w.heap.size w2 u es) (k:Kept [] W w) (k2:Kept [] w w2) {X:List Nat} (hX:∀ b∈X,b < w.heap.size):TW W w2 u es X :=
 ⟨w.heap.size,w2.heap.size,Nat.le_refl _,k.size,fun b hb=>Or.inl (hX b hb),fun M w3 k3 hM=>h.stay k3 hM⟩
theorem TW.pass {W w w':World} {u:Value} {es:List En} {X M:List Nat} (h:TW W w u es X) (k:Kept M w w') (hM:∀ x∈M,x∈X∨x < W.heap.size) {Y:List Nat} (hY:∀ x∈Y,x∈X∨x < W.heap.size∨w.heap.size≤x):TW W w' u es Y:=by
 obtain ⟨B,C,h1,h2,h3,h4⟩:=h
 refine ⟨B,C,Nat.le_trans h1 k.size,h2,fun b hb=>?_,fun N w2 k2 hN=>h4 (M++N) w2 ((k.mono (M:=M++N) (fun x hx=>by simp [hx])).trans k2 (fun x hx=>Or.inl (by simp [hx]))) (fun x hx=>?_)⟩
 ·rcases hY b hb with h5 | h5 | h5
  ·exact h3 b h5
  ·exact Or.inl (by omega)
  ·exact Or.inr (by omega)
 ·rcases List.mem_append.1 hx with hx | hx
  ·rcases hM x hx with h5 | h5
   ·exact h3 x h5
   ·exact Or.inl (by omega)
  ·exact hN x hx
theorem OwnX.push {X:List Nat} {w0 w W:World} {v v':Value} {ts:List (Nat × Value × List En)} {t:Nat × Value × List En} (h:OwnX X w0 w v ts) (tw:∃ B C,C≤w.heap.size∧w0.heap.size≤B∧(∀ b,v.ownBlock = some b→b < B∨C≤b)∧(∀ b∈X,b < B∨C≤b)∧∀ M w2,Kept M w w2→(∀ x∈M,x < B∨C≤x)→RdN w2 t.2.1 t.2.2) (hXl:∀ b∈X,b < w.heap.size)
  (o:W.ownsRow w0.heap.size 75 2 v' (ts.length + 1) (cellsB ts++cellsB [t])) (gr:w.grownBy W v.ownBlock) (hg:v'.ownBlock = v.ownBlock∨v'.ownBlock = some w.heap.size):OwnX X w0 W v' (ts++[t]):=by
 have kW:Kept v.ownBlock.toList w W:=((Kept.refl _ w)).grown gr (by intro k hk; left; simp [hk])
 refine ⟨by rw [xa6m,List.length_append]; exact o,fun x hx=>?_,Nat.le_trans h.sz kW.size,fun b hb hm=>?_⟩
 ·have key:∃ B C,C≤w.heap.size∧w0.heap.size≤B∧(∀ b,v.ownBlock = some b→b < B∨C≤b)∧(∀ b∈X,b < B∨C≤b)∧∀ M w2,Kept M w w2→(∀ x∈M,x < B∨C≤x)→RdN w2 x.2.1 x.2.2:=by
   rcases List.mem_append.1 hx with hx | hx
   ·exact h.rd x hx
   ·rw [List.mem_singleton.1 hx]; exact tw
  obtain ⟨B1,C,h1,h2,h3,h4,h5⟩:=key
  refine ⟨B1,C,Nat.le_trans h1 kW.size,h2,fun b hb=>?_,h4,fun N w2 kN hN=>h5 (v.ownBlock.toList++N) w2 ((kW.mono (M:=v.ownBlock.toList++N) (fun x hx=>List.mem_append_left _ hx)).trans kN (fun x hx=>Or.inl (by simp [hx]))) (fun x hx=>?_)⟩
  ·rcases hg with hg | hg
   ·rw [hg] at hb; exact h3 _ hb
   ·rw [hg] at hb; simp only [Option.some.injEq] at hb; omega
  ·rcases List.mem_append.1 hx with hx | hx
   ·exact h3 x (by simpa using hx)
   ·exact hN x hx
 ·rcases hg with hg | hg
  ·rw [hg] at hb; exact h.ap b hb hm
  ·rw [hg] at hb; simp only [Option.some.injEq] at hb; have:=hXl b hm; omega
def Alb (W:World) (u:Value) (cs:Array Value) (w:World):Prop:=∃ g,u = .pointer (some ⟨g,0,none⟩)∧W.heap.size≤g∧g < w.heap.size∧w.heap[g]? = some (.cells cs 75 (0,0))
theorem xb7d {W w:World} (k:Kept [] W w):Alb W (.pointer (some ⟨w.heap.size,0,none⟩)) #[.int .u64 0,.slice none 0 0] (w.alloc (.cells #[.int .u64 0,.slice none 0 0] 75)):=⟨_,rfl,k.size,by simp,heap_alloc_new _ _⟩
theorem xa5f {o:Oper} {a:Act} {w:World} {K:Act→World→Prop} {Q:Exit→Act→World→Prop} (ho:o.op = .alloc 75) (h:K (a.put o.dst (.pointer (some ⟨w.heap.size,0,none⟩))) (w.alloc (.cells #[.int .u64 0,.slice none 0 0] 75))):o.wp Tryz.prog a w K Q:=by
 unfold Oper.wp execOp
 simp only [ho]
 go_simp
 exact h
theorem bput2 {w:World} {g:Nat} {a b:Value} {t:TypeId} (h:w.heap[g]? = some (.cells #[a,b] t (0,0))) (x y:Value):((w.setCell ⟨g,0,none⟩ x).setCell ⟨g,1,none⟩ y).heap[g]? = some (.cells #[x,y] t (0,0)):=by
 rw [heap_setCell_same _ g 1 _ t _ (heap_setCell_same w g 0 _ t _ h)]; rfl
theorem xb4t {w:World} {H:Nat} {x y:Value} {t:TypeId} (h:w.heap[H]? = some (.cells #[x,y] t (0,0))):RdC 2 w (.slice (some ⟨H,0,none⟩) 1 1) [[x,y]]:=by
 refine ⟨_,_,_,rfl,rfl,Nat.le_refl _,by omega,fun _=>⟨H,0,rfl,fun i hi j u hu=>?_⟩⟩
 have hi0:i = 0:=by simp at hi; omega
 subst hi0
 simp only [List.getElem_cons_zero] at hu
 match j with
 | 0=>simp only [List.getElem?_cons_zero,Option.some.injEq] at hu; subst hu; have h9:=cell_of_row _ _ 0 _ _ _ h; simpa using h9
 | 1=>simp only [List.getElem?_cons_succ,List.getElem?_cons_zero,Option.some.injEq] at hu; subst hu; have h9:=cell_of_row _ _ 1 _ _ _ h; simpa using h9
 | j + 2=>simp at hu
theorem bcells2 {w:World} {b:Nat} {x0 x1:Value} {t:TypeId} (h:w.heap[b]? = some (.cells #[x0,x1] t (0,0))):w.cell? ⟨b,0,none⟩ = some x0∧w.cell? ⟨b,1,none⟩ = some x1:=by
 refine ⟨?_,?_⟩ <;> rw [cell_of_row _ _ _ _ _ _ h] <;> rfl
theorem froz2 {w:World} {b:Nat} {cs:Array Value} {t:TypeId} (h:w.heap[b]? = some (.cells cs t (0,0))):w.frozen? ⟨b,0,none⟩ = false∧w.frozen? ⟨b,1,none⟩ = false:=⟨frozen_of_row _ _ _ _ _ h,frozen_of_row _ _ _ _ _ h⟩
def ScP (w0 w w':World) (l d kb nb ob bb:Nat) (mv:Value) (B:List Nat) (c:ScS) (e:Ending):Prop:=∃ B' mv' ts',e = .returned (.tuple #[])∧LK w' l d B' nb ob bb c.σ c.s∧Kept (kb :: l :: (mv.ownBlock.toList++B)) w w'∧(∀ x∈B',x∈B∨w.heap.size≤x)∧KS w0 w' kb (l :: B') mv' ts' c.must∧ts'.map (fun t=>(t.1,t.2.2)) = c.may
set_option maxHeartbeats 8000000 in
theorem xb2h (l d nb ob bb g0 kb must:Nat) (B:List Nat) (σ:DSt) (s:LSt) (v mv:Value) (os:List (Bool × List En)) (ts:List (Nat × Value × List En)) (w0 w:World) (h:LK w l d B nb ob bb σ s) (hv:VarsG g0 w) (hB:∀ x∈B,g0≤x) (hl0:g0≤l) (hg0:g0≤w.heap.size) (hO:OldO g0 w v os) (hk:KS w0 w kb (l :: B) mv ts must) (hkb:g0≤kb) (hw0:w0.heap.size≤w.heap.size) (hgw:g0≤w0.heap.size)
  (h1:nb + os.length≤700000000) (h2:ob + 6 * os.length≤700000000) (h3:bb + 40048 * os.length≤140737488000000) (h4:ts.length + os.length≤1000000000) :
  Calls Tryz.prog 23 #[.pointer (some ⟨l,0,none⟩),v,.pointer (some ⟨kb,0,none⟩)] w fun e w'=>ScP w0 w w' l d kb (nb + os.length) (ob + 6 * os.length) (bb + 40048 * os.length) mv B (scR ⟨σ,s,ts.map (fun t=>(t.1,t.2.2)),must⟩ os) e:=by
 obtain ⟨t0,hos0,hrc0,_⟩:=hO [] w (Kept.refl _ _) (by simp)
 obtain ⟨va,vl,vc,rfl,hvl,hvc,hvm,_⟩:=hrc0
 have hvl2:vl = os.length:=by rw [← hvl,hos0,List.length_map,List.length_map]
 subst hvl2
 have H:=hide h
 have HVG:=hide hv
 have HB:=hide hB
 have HO:=hide hO
 have HKS:=hide hk
 obtain ⟨c0,hc0⟩:∃ c,(⟨σ,s,ts.map (fun t=>(t.1,t.2.2)),must⟩:ScS) = c:=⟨_,rfl⟩
 rw [hc0]
 have HC1:=hide (by rw [← hc0]:c0.σ = σ)
 have HC2:=hide (by rw [← hc0]:c0.s = s)
 have HC3:=hide (by rw [← hc0]:c0.must = must)
 have HC4:=hide (by rw [← hc0]:c0.may = ts.map (fun t=>(t.1,t.2.2)))
 have HKL:=hide (fun x (hx:x∈kb :: l :: (mv.ownBlock.toList++B))=>(by rcases List.mem_cons.1 hx with rfl | hx; exact hkb; rcases List.mem_cons.1 hx with rfl | hx; exact hl0; rcases List.mem_append.1 hx with hx | hx; exact Nat.le_trans hgw (hk.ow.own.lt x (by simpa using hx)).1; exact hB x hx:g0≤x))
 clear h hv hB hO hk hos0 hvl hc0
 go_enter Tryz.func23,Tryz.ntmps23
 go_wp2_with fail
 go_loopw [13] (fun t13 wr=>∃ (i:Nat) (Bi:List Nat) (mvi:Value) (tsi:List (Nat × Value × List En)),i≤os.length∧t13 = .int .i64 (i:Int)∧Hid (LK wr l d Bi (nb + i) (ob + 6 * i) (bb + 40048 * i) (scR c0 (os.take i)).σ (scR c0 (os.take i)).s)∧Hid (Kept (kb :: l :: (mv.ownBlock.toList++B)) w wr)∧Hid (∀ x∈Bi,x∈B∨w.heap.size≤x)∧Hid (KS w0 wr kb (l :: Bi) mvi tsi (scR c0 (os.take i)).must)∧Hid (tsi.map (fun t=>(t.1,t.2.2)) = (scR c0 (os.take i)).may)∧Hid (tsi.length≤ts.length + i)∧Hid (∀ b,mvi.ownBlock = some b→mv.ownBlock = some b∨w.heap.size≤b)) (fun t _=>os.length - (intOf t).toNat)
 case atStart=>exact ⟨0,B,mv,ts,Nat.zero_le _,rfl,hide (by rw [List.take_zero]; show LK w l d B (nb + 0) (ob + 6 * 0) (bb + 40048 * 0) c0.σ c0.s; rw [uh HC1,uh HC2]; exact uh H),hide (Kept.refl _ _),hide (fun x hx=>Or.inl hx),hide (by rw [List.take_zero]; show KS w0 w kb (l :: B) mv ts c0.must; rw [uh HC3]; exact uh HKS),hide (by rw [List.take_zero]; show _ = c0.may; rw [uh HC4]),hide (by omega),hide (fun b hb=>Or.inl hb)⟩
 case round =>
  obtain ⟨i,Bi,mvi,tsi,hi,rfl,HLK,HK,HBN,HKS,HMY,HTL,HMV⟩:=hrel
  by_cases hlt:i < os.length
  ·have hlt':(i:Int) < os.length:=by omega
   have HSC:=hide (xb8y c0 os i hlt)
   obtain ⟨t9,hos,hrc,hrn⟩:=uh HO _ wr (uh HK) (uh HKL)
   have HVR:=hide ((uh HVG).on (uh HK) (uh HKL))
   obtain ⟨qa,ql,qc,hq1,hq2,hq3,hq4,hq5⟩:=hrc
   injection hq1 with r1 r2 r3
   subst r1 r2 r3
   have hl9:i < t9.length:=by rw [hos,List.length_map] at hlt; exact hlt
   obtain ⟨b2,o2,rfl,hcc⟩:=hq5 (by omega)
   have hri:=hcc i (by rw [List.length_map]; exact hl9)
   rw [List.getElem_map] at hri
   have hr9:=hrn t9[i] (List.getElem_mem hl9)
   have hoi:os[i] = (t9[i].1,t9[i].2.2):=by subst hos; rw [List.getElem_map]
   rw [hoi] at HSC
   clear hoi hrn hcc hq2 hq3 hq4 hq5
   generalize t9[i] = T9 at hri hr9 HSC
   obtain ⟨o1,ov,es⟩:=T9
   obtain ⟨hr9a,hr9b⟩:=hr9
   dsimp only at hr9a hr9b HSC
   obtain ⟨ea,en,ec,kv,vv,rfl,hen,hecn,hecm,_⟩:=id hr9a
   subst hen
   have x0:=hri 0 _ rfl
   have x1:=hri 1 _ rfl
   simp only [Nat.add_zero] at x0
   have hic:(i:Int) < vc:=by omega
   have ha1:IntKind.i64.wrap ((i:Int) + 1) = (i:Int) + 1:=by rw [IntKind.wrap_i64]; omega
   have HRN:=hide hr9a
   have HEL:=hide hr9b
   clear hri hr9a hr9b hecn hecm hos
   obtain ⟨⟨σi,si,mayi,musti⟩,hci⟩:∃ c,scR c0 (os.take i) = c:=⟨_,rfl⟩
   rw [hci] at HLK HKS HMY HSC
   dsimp only at HLK HKS HMY
   clear hci
   go_upto_region 3 with fail
   have kA:=(Kept.refl [] wr).alloc (.cells #[.bool o1,.slice ea es.length ec] 100)
   have hA:=heap_alloc_new wr (.cells #[.bool o1,.slice ea es.length ec] 100)
   have HLK1:=hide ((uh HLK).old kA)
   have HK1:=hide ((uh HK).trans kA (by simp))
   have HKS1:=hide (⟨kA.heap (uh HKS).row (by simp),(uh HKS).ow.pass kA (by simp),(uh HKS).kx,(uh HKS).kl⟩:KS w0 _ kb (l :: Bi) mvi tsi musti)
   have HOB:=hide hA
   have HRN1:=hide ((uh HRN).old kA)
   have HVR1:=hide ((uh HVR).old kA)
   have HSZ:=hide (kA.size)
   obtain ⟨W1,hW1⟩:∃ W,wr.alloc (.cells #[.bool o1,.slice ea es.length ec] 100) = W:=⟨_,rfl⟩
   have HS1:=hide (by rw [← hW1]; simp:W1.heap.size = wr.heap.size + 1)
   rw [hW1] at HLK1 HK1 HKS1 HOB HRN1 HVR1 ⊢
   clear hW1 kA hA x0 x1 HLK HK HKS HRN HVR
   have HKB:=hide (by have h9:=(uh HKS1).kl; exact h9:kb < w0.heap.size)
   go_wp2_with fail
   refine Calls.mono (xa3e l d si W1 (uh HLK1).row) ?_
   rintro e w2 ⟨rfl,rfl⟩
   obtain ⟨p0,p1⟩:=bcells2 (uh HOB)
   cases o1
   ·go_upto_region 7 with fail
    have HBG:=hide (fun x hx=>by
     rcases uh HBN x hx with h9 | h9
     ·exact uh HB x h9
     ·omega:∀ x∈Bi,g0≤x)
    have HLB:=hide (fun x (hx:x∈l :: Bi)=>(by
     rcases List.mem_cons.1 hx with h9 | h9
     ·rw [h9]; exact (uh HLK1).lt
     ·exact (uh HLK1).dk.lt x h9:x < w2.heap.size))
    refine wp_sc8 (by kernel_rfl) (by kernel_rfl) (by kernel_rfl) (by kernel_rfl) (by kernel_rfl) (by kernel_rfl) (by kernel_rfl) (by kernel_rfl) (by kernel_rfl) (by kernel_rfl) (by kernel_rfl) (by kernel_rfl) (by kernel_rfl) (by kernel_rfl) (by kernel_rfl) (by kernel_rfl) (by kernel_rfl) (by kernel_rfl) (by kernel_rfl) rfl rfl rfl rfl (by simp) (by simp) (by simp)
     (.pointer (some ⟨l,0,none⟩)) (.pointer (some ⟨wr.heap.size,1,none⟩)) (.slice ea es.length ec) _ _ _
     (fun w'=>Kept [] w2 w')
     (fun w'=>Kept [] w2 w')
     (fun u1 w'=>u1 = .int .u64 (si.nx:Int)∧Kept [] w2 w')
     (fun u6 w'=>Alb w2 u6 #[.int .u64 0,.slice none 0 0] w'∧Kept [] w2 w')
     (fun u1 u4 w'=>u1 = .int .u64 (si.nx:Int)∧(∃ a c,u4 = .slice a es.length c)∧TW w2 w' u4 es []∧Kept [] w2 w')
     (fun u1 u6 w'=>u1 = .int .u64 (si.nx:Int)∧Alb w2 u6 #[.int .u64 0,.slice none 0 0] w'∧Kept [] w2 w')
     (fun u1 u4 u6 w'=>u1 = .int .u64 (si.nx:Int)∧(∃ a c,u4 = .slice a es.length c)∧(∃ g,u6 = .pointer (some ⟨g,0,none⟩)∧w2.heap.size≤g∧w'.heap[g]? = some (.cells #[.int .u64 0,.slice none 0 0] 75 (0,0))∧TW w2 w' u4 es [g])∧Kept [] w2 w')
     (fun u1 u4 u6 u7 w'=>u1 = .int .u64 (si.nx:Int)∧(∃ a c g,u4 = .slice a es.length c∧u6 = .pointer (some ⟨g,0,none⟩)∧w2.heap.size≤g∧w'.heap[g]? = some (.cells #[.int .u64 (si.nx:Int),u4] 75 (0,0))∧TW w2 w' u4 es [g])∧Kept [] w2 w')
     (fun u1 u4=>.agg #[u1,u4])
     (by simp only [Act.put,sa1,sa2,sa3]; rfl) (by exact Or.inl ⟨by rfl,fun W' hW'=>by go_simp⟩)
     (by simp only [Act.put,sa1,sa2,sa3]; rfl) (by exact Or.inl ⟨by rfl,fun W' hW'=>by go_simp⟩)
     (by simp only [Act.put,sa1,sa2,sa3]; rfl) (by exact Or.inl ⟨by rfl,fun W' hW'=>by have h9:=hW'.cell p1 (by simp); go_simp⟩)
     (Kept.refl [] w2).drew
     ⟨fun w' h=>h,fun u1 w' h=>h.2,fun u6 w' h=>h.2,fun u1 u4 w' h=>h.2.2.2,fun u1 u6 w' h=>h.2.2,fun u1 u4 u6 w' h=>h.2.2.2,fun u1 u4 u6 u7 w' h=>h.2.2⟩
     (by
      intro w' k K hK
      simp only [Act.put,sa1,sa2,sa3] at hK ⊢
      refine xa0f rfl Tryz.call20 [.pointer (some ⟨l,0,none⟩)] rfl (xa2t l d si w' (k.heap (uh HLK1).row (by simp))) ?_
      rintro e w3 ⟨rfl,rfl⟩
      exact ⟨_,rfl,hK _ _ ⟨rfl,k⟩⟩)
     (by
      intro w' k K hK
      exact xa5f rfl (hK _ _ ⟨xb7d k,k.alloc _⟩))
     (by
      rintro u1 w' ⟨rfl,k⟩ K hK
      simp only [Act.put,sa1,sa2,sa3] at hK ⊢
      refine xa0f rfl Tryz.call55 [.slice ea es.length ec] rfl (xa1u _ es w' ((uh HRN1).old k) (uh HEL)) ?_
      rintro e w3 ⟨v',rfl,hn,k3⟩
      obtain ⟨a,n,c,_,_,hv',hl',_⟩:=id hn.rdN
      subst hv'
      subst hl'
      exact ⟨_,rfl,hK _ _ ⟨by trivial,⟨_,_,rfl⟩,TW.of hn k k3 (by simp),k.trans k3 (by simp)⟩⟩)
     (by
      rintro u1 w' ⟨rfl,k⟩ K hK
      exact xa5f rfl (hK _ _ ⟨rfl,xb7d k,k.alloc _⟩))
     (by
      rintro u6 w' ⟨ha,k⟩ K hK
      simp only [Act.put,sa1,sa2,sa3] at hK ⊢
      refine xa0f rfl Tryz.call20 [.pointer (some ⟨l,0,none⟩)] rfl (xa2t l d si w' (k.heap (uh HLK1).row (by simp))) ?_
      rintro e w3 ⟨rfl,rfl⟩
      exact ⟨_,rfl,hK _ _ ⟨rfl,ha,k⟩⟩)
     (by
      rintro u1 u4 w' ⟨rfl,⟨a,c,rfl⟩,tw,k⟩ K hK
      exact xa5f rfl (hK _ _ ⟨rfl,⟨a,c,rfl⟩,⟨w'.heap.size,rfl,k.size,heap_alloc_new _ _,tw.pass ((Kept.refl [] w').alloc _) (by simp) (fun x hx=>Or.inr (Or.inr (by rw [List.mem_singleton.1 hx]; exact Nat.le_refl _)))⟩,k.alloc _⟩))
     (by
      rintro u1 u6 w' ⟨rfl,⟨g,rfl,hg1,hg2,hg3⟩,k⟩ K hK
      simp only [Act.put,sa1,sa2,sa3] at hK ⊢
      refine xa0f rfl Tryz.call55 [.slice ea es.length ec] rfl (xa1u _ es w' ((uh HRN1).old k) (uh HEL)) ?_
      rintro e w3 ⟨v',rfl,hn,k3⟩
      obtain ⟨a,n,c,_,_,hv',hl',_⟩:=id hn.rdN
      subst hv'
      subst hl'
      exact ⟨_,rfl,hK _ _ ⟨by trivial,⟨_,_,rfl⟩,⟨g,by trivial,hg1,k3.heap hg3 (by simp),TW.of hn k k3 (fun b hb=>by rw [List.mem_singleton.1 hb]; exact hg2)⟩,k.trans k3 (by simp)⟩⟩)
     (by
      rintro u1 u4 u6 w' ⟨rfl,⟨a,c,rfl⟩,⟨g,rfl,hg1,hg3,tw⟩,k⟩ K hK
      obtain ⟨b0,b1⟩:=bcells2 hg3
      obtain ⟨z0,z1⟩:=froz2 hg3
      have kS:Kept [g] w' ((w'.setCell ⟨g,0,none⟩ (.int .u64 (si.nx:Int))).setCell ⟨g,1,none⟩ (.slice a es.length c)):=((Kept.refl [g] w').setCell (p:=⟨g,0,none⟩) (.inl (by simp)) _).setCell (p:=⟨g,1,none⟩) (.inl (by simp)) _
      have hK2:=hK (.bool true) _ ⟨rfl,⟨a,c,g,rfl,rfl,hg1,bput2 hg3 _ _,tw.pass kS (fun x hx=>Or.inl hx) (fun x hx=>Or.inl hx)⟩,(k.setCell (p:=⟨g,0,none⟩) (.inr hg1) _).setCell (p:=⟨g,1,none⟩) (.inr hg1) _⟩
      clear hK
      simp only [Act.put,sa1,sa2,sa3] at hK2 ⊢
      unfold Oper.wp execOp
      go_simp
      exact hK2)
     (by rintro u1 u4 w' ⟨rfl,⟨a,c,rfl⟩,_⟩; exact Or.inl ⟨by rfl,fun W' hW'=>by go_simp⟩)
     (by rintro u1 u4 u6 w' ⟨rfl,⟨a,c,rfl⟩,_⟩; exact Or.inl ⟨by rfl,fun W' hW'=>by go_simp⟩)
     ?_
    rintro u1 u4 u6 u7 w3 ⟨rfl,⟨ua,uc,g,rfl,rfl,hg1,hg3,tw⟩,k3⟩
    simp only [Act.put,sa1,sa2,sa3]
    have HG3:=hide hg3
    have HG1:=hide hg1
    have HTW3:=hide tw
    have HKK3:=hide k3
    have p1':=k3.cell p1 (by simp)
    have HAP:=hide (xa1o l d _ _ _ g0 Bi σi si _ es w3 ((uh HLK1).old k3) ((uh HVR1).old k3) (uh HBG) hl0 (by have:=k3.size; have:=(uh HK1).size; omega) ((uh HRN1).old k3) (by omega) (by omega) (by omega))
    obtain ⟨⟨E,τ,s'⟩,hE⟩:∃ r,lgAppend σi si es = r:=⟨_,rfl⟩
    have HEC:=hide (by unfold scStep; rw [if_neg (by simp)]; dsimp only; rw [hE]:scStep ⟨σi,si,mayi,musti⟩ (false,es) = ⟨τ,s',if E = 0∨(si.st = 0∧s'.st≠0) then mayi++[(si.nx,es)] else mayi,musti⟩)
    rw [hE] at HAP
    dsimp only at HAP
    clear hE k3 hg3 hg1 tw p0 p1
    go_wp2_with fail
    refine Calls.mono (uh HAP) ?_
    rintro e w4 ⟨B4,rfl,hl4,ev4⟩
    clear p1'
    have HLK4:=hide (hl4.more (nb':=nb + (i + 1)) (ob':=ob + 6 * (i + 1)) (bb':=bb + 40048 * (i + 1)) (by omega) (by omega) (by omega))
    have HB4:=hide (fun x hx=>by
     rcases ev4.2 x hx with h9 | h9
     ·exact uh HBN x h9
     ·exact Or.inr (by have:=(uh HK1).size; have:=(uh HKK3).size; omega):∀ x∈B4,x∈B∨w.heap.size≤x)
    have HKX:=hide (((uh HK1).trans (uh HKK3) (by simp)).trans ev4.1 (fun x hx=>by
     rcases List.mem_cons.1 hx with rfl | hx
     ·exact Or.inl (by simp)
     ·rcases uh HBN x hx with h9 | h9
      ·exact Or.inl (by simp [h9])
      ·exact Or.inr h9))
    have hks4:KS w0 w4 kb (l :: B4) mvi tsi musti:=⟨ev4.1.heap ((uh HKK3).heap (uh HKS1).row (by simp)) (uh HKS1).kx,((uh HKS1).ow.pass (uh HKK3) (by simp)).mv ev4.1 (fun x hx=>by
     rcases List.mem_cons.1 hx with rfl | hx
     ·exact Or.inl (by simp)
     ·rcases ev4.2 x hx with h9 | h9
      ·exact Or.inl (by simp [h9])
      ·exact Or.inr h9),fun hm=>by
     rcases List.mem_cons.1 hm with h9 | h9
     ·exact (uh HKS1).kx (by simp [h9])
     ·rcases ev4.2 kb h9 with h8 | h8
      ·exact (uh HKS1).kx (by simp [h8])
      ·have:=uh HKB; have:=(uh HK1).size; have:=(uh HKK3).size; omega,(uh HKS1).kl⟩
    have HKS4:=hide hks4
    have HG4:=hide (ev4.1.heap (uh HG3) (fun hm=>by have:=uh HLB g hm; have:=uh HG1; omega))
    have HTW4:=hide ((uh HTW3).pass ev4.1 (fun x hx=>Or.inr (uh HLB x hx)) (Y:=l :: B4) (fun x hx=>by
     rcases List.mem_cons.1 hx with h9 | h9
     ·exact Or.inr (Or.inl (uh HLB x (by simp [h9])))
     ·rcases ev4.2 x h9 with h8 | h8
      ·exact Or.inr (Or.inl (uh HLB x (by simp [h8])))
      ·exact Or.inr (Or.inr h8)))
    have HLB4:=hide (fun x (hx:x∈l :: B4)=>(by
     rcases List.mem_cons.1 hx with h9 | h9
     ·rw [h9]; exact (uh HLK4).lt
     ·exact (uh HLK4).dk.lt x h9:x < w4.heap.size))
    have HMB:=hide (fun b hb=>((uh HKS1).ow.own.lt b hb).2:∀ b,mvi.ownBlock = some b→b < w2.heap.size)
    have HW02:=hide (by have:=(uh HK1).size; omega:w0.heap.size≤w2.heap.size)
    have HROW:=hide (uh HLK4).row
    have HGG:=uh HG1
    obtain ⟨ma,mc,rfl⟩:=(uh HKS4).ow.shape
    clear hl4 ev4 hks4 HAP HTW3 HG3
    by_cases hE0:E = 0
    ·subst hE0
     rw [if_pos (Or.inl rfl)] at HEC
     have HKBX:=hide (fun hm=>by have h9:=((uh HKS4).ow.own.lt kb (by simpa using hm)).1; have:=(uh HKS4).kl; omega:kb∉(Value.slice ma tsi.length mc).ownBlock.toList)
     have HGX:=hide (fun hm=>by have h9:=uh HMB g (by simpa using hm); omega:g∉(Value.slice ma tsi.length mc).ownBlock.toList)
     obtain ⟨d0,d1⟩:=bcells2 (uh HKS4).row
     obtain ⟨q0,q1⟩:=bcells2 (uh HG4)
     go_upto_region 10 with fail
     refine wp_k11 (by kernel_rfl) (by kernel_rfl) (by kernel_rfl) (by kernel_rfl) (by kernel_rfl) (by kernel_rfl) (by kernel_rfl) (by kernel_rfl) (by kernel_rfl) (by kernel_rfl) (by kernel_rfl) (by kernel_rfl) (by kernel_rfl) (by kernel_rfl) (by kernel_rfl) (by kernel_rfl) (by kernel_rfl) (by kernel_rfl) (by kernel_rfl) (by kernel_rfl) (by kernel_rfl) rfl (by kernel_rfl) rfl (by kernel_rfl) rfl (by kernel_rfl) rfl (by kernel_rfl) rfl (by kernel_rfl)
      (.pointer (some ⟨kb,0,none⟩)) (.pointer (some ⟨kb,0,none⟩)) (.pointer (some ⟨kb,0,none⟩)) (.pointer (some ⟨kb,0,none⟩)) (.slice ma tsi.length mc) (.agg #[.int .u64 (si.nx:Int),.slice ua es.length uc]) _ _ _ _ _ _
      (fun w'=>Kept (Value.slice ma tsi.length mc).ownBlock.toList w4 w')
      (fun w'=>Kept [] w4 w')
      (fun u0 w'=>∃ h,u0 = .slice (some ⟨h,0,none⟩) 1 1∧w'.heap[h]? = some (.cells #[.int .u64 (si.nx:Int),.slice ua es.length uc] 75 (0,0))∧Kept [] w4 w')
      (fun u0 u1 w'=>∃ a8 cap8 wq,u1 = .slice a8 (tsi.length + 1) cap8∧Kept [] w4 wq∧w'.ownsRow w0.heap.size 75 2 u1 (tsi.length + 1) (cellsB tsi++cellsB [(si.nx,.slice ua es.length uc,es)])∧wq.grownBy w' (Value.slice ma tsi.length mc).ownBlock∧(u1.ownBlock = (Value.slice ma tsi.length mc).ownBlock∨u1.ownBlock = some wq.heap.size))
      (fun u0 u1 u2 w'=>u2 = .pointer (some ⟨kb,0,none⟩)∧∃ a8 cap8 wq,u1 = .slice a8 (tsi.length + 1) cap8∧Kept [] w4 wq∧w'.ownsRow w0.heap.size 75 2 u1 (tsi.length + 1) (cellsB tsi++cellsB [(si.nx,.slice ua es.length uc,es)])∧wq.grownBy w' (Value.slice ma tsi.length mc).ownBlock∧(u1.ownBlock = (Value.slice ma tsi.length mc).ownBlock∨u1.ownBlock = some wq.heap.size))
      (fun u0 u1 u2 u3 w'=>u3 = .pointer (some ⟨kb,0,none⟩)∧∃ a8 cap8 wq,u1 = .slice a8 (tsi.length + 1) cap8∧Kept [] w4 wq∧w'.ownsRow w0.heap.size 75 2 u1 (tsi.length + 1) (cellsB tsi++cellsB [(si.nx,.slice ua es.length uc,es)])∧wq.grownBy w' (Value.slice ma tsi.length mc).ownBlock∧(u1.ownBlock = (Value.slice ma tsi.length mc).ownBlock∨u1.ownBlock = some wq.heap.size))
      (fun u0 u1 u2 u3 w'=>∃ a8 cap8 wq w8,u1 = .slice a8 (tsi.length + 1) cap8∧Kept [] w4 wq∧w8.ownsRow w0.heap.size 75 2 u1 (tsi.length + 1) (cellsB tsi++cellsB [(si.nx,.slice ua es.length uc,es)])∧wq.grownBy w8 (Value.slice ma tsi.length mc).ownBlock∧(u1.ownBlock = (Value.slice ma tsi.length mc).ownBlock∨u1.ownBlock = some wq.heap.size)∧w' = w8.setCell ⟨kb,0,none⟩ u1)
      (by simp only [Act.put,sa1,sa2,sa3]; rfl) (by exact Or.inl ⟨by rfl,fun W' hW'=>by go_simp⟩)
      (by simp only [Act.put,sa1,sa2,sa3]; rfl) (by exact Or.inl ⟨by rfl,fun W' hW'=>by go_simp⟩)
      (by simp only [Act.put,sa1,sa2,sa3]; rfl) (by exact Or.inl ⟨by rfl,fun W' hW'=>by go_simp⟩)
      (by simp only [Act.put,sa1,sa2,sa3]; rfl) (by exact Or.inl ⟨by rfl,fun W' hW'=>by go_simp⟩)
      (by simp only [Act.put,sa1,sa2,sa3]; rfl) (by exact Or.inl ⟨by rfl,fun W' hW'=>by have h90:=hW'.cell d0 (uh HKBX); go_simp⟩)
      (by simp only [Act.put,sa1,sa2,sa3]; rfl) (by exact Or.inl ⟨by rfl,fun W' hW'=>by have h90:=hW'.cell q0 (uh HGX); have h91:=hW'.cell q1 (uh HGX); go_simp⟩)
      (Kept.refl [] w4).drew
      ⟨fun w' h=>h.mono (by simp),fun u0 w' h=>by obtain ⟨_,_,_,h1⟩:=h; exact h1.mono (by simp),fun u0 u1 w' h=>by obtain ⟨a8,cap8,wq,_,h1,_,h2,_⟩:=h; exact (h1.mono (by simp)).grown h2 (by intro k hk; left; simp [hk]),fun u0 u1 u2 w' h=>by obtain ⟨_,a8,cap8,wq,_,h1,_,h2,_⟩:=h; exact (h1.mono (by simp)).grown h2 (by intro k hk; left; simp [hk]),fun u0 u1 u2 u3 w' h=>by obtain ⟨_,a8,cap8,wq,_,h1,_,h2,_⟩:=h; exact (h1.mono (by simp)).grown h2 (by intro k hk; left; simp [hk])⟩
      (by
       intro w' k K hK
       have hK2:=hK _ _ ⟨w'.heap.size,rfl,heap_alloc_new w' (.cells #[.int .u64 (si.nx:Int),.slice ua es.length uc] 75),k.alloc _⟩
       clear hK
       simp only [Act.put,sa1,sa2,sa3] at hK2 ⊢
       unfold Oper.wp execOp
       go_simp
       exact hK2)
      (by
       rintro u0 w' ⟨hh,rfl,hr0,k⟩ K hK
       have hS7:=(uh HKS4).ow.pass k (by simp)
       have hrc:RdC 2 w' (.slice (some ⟨hh,0,none⟩) 1 1) [[.int .u64 (si.nx:Int),.slice ua es.length uc]]:=xb4t hr0
       obtain ⟨a8,cap8,w8,hrun,h8,hg8,ha8⟩:=appendC w' w0.heap.size 42 75 (.agg #[.int .u64 0,.slice none 0 0]) 2 32 Tryz.underlying42 Tryz.infoBt rfl (by decide) (.slice ma tsi.length mc) tsi.length (cellsB tsi) hS7.own (some ⟨hh,0,none⟩) 1 1 [[.int .u64 (si.nx:Int),.slice ua es.length uc]] hrc (by simp) (by simp [Value.oneCell']) (by have:=uh HTL; omega) (by have:=uh HTL; omega) hS7.sz
       have hK2:=hK _ _ ⟨a8,cap8,w',rfl,k,h8,hg8,ha8⟩
       clear hK
       simp only [Act.put,sa1,sa2,sa3] at hK2 ⊢
       exact xa8f 42 (.tmp 57) (.tmp 59) rfl rfl (.slice ma tsi.length mc) (.slice (some ⟨hh,0,none⟩) 1 1) rfl rfl _ _ hrun hK2)
      (by rintro u0 u1 w' ⟨a8,cap8,wq,rfl,h1,h2,h3,h4⟩ K hK; unfold Oper.wp execOp; go_simp; exact hK _ _ ⟨rfl,a8,cap8,wq,rfl,h1,h2,h3,h4⟩)
      (by rintro u0 u1 u2 w' ⟨rfl,a8,cap8,wq,rfl,h1,h2,h3,h4⟩ K hK; unfold Oper.wp execOp; go_simp; exact hK _ _ ⟨rfl,a8,cap8,wq,rfl,h1,h2,h3,h4⟩)
      (by
       rintro u0 u1 u2 u3 w' ⟨rfl,a8,cap8,wq,rfl,h1,h2,h3,h4⟩ K hK
       have kk:Kept (Value.slice ma tsi.length mc).ownBlock.toList w4 w':=(h1.mono (by simp)).grown h3 (by intro k hk; left; simp [hk])
       have hr9:=kk.heap (uh HKS4).row (uh HKBX)
       obtain ⟨hw9,_⟩:=bcells2 hr9
       obtain ⟨hz9,_⟩:=froz2 hr9
       unfold Oper.wp execOp
       go_simp
       exact hK _ ⟨a8,cap8,wq,w',rfl,h1,h2,h3,h4,rfl⟩)
      ?_
     rintro u0 u1 u2 u3 w9 ⟨a8,cap8,wq,w8,rfl,kq,ho8,gr8,ha8,rfl⟩
     simp only [Act.put,sa1,sa2,sa3]
     have kk:Kept (Value.slice ma tsi.length mc).ownBlock.toList w4 w8:=(kq.mono (by simp)).grown gr8 (by intro k hk; left; simp [hk])
     have hr8:=kk.heap (uh HKS4).row (uh HKBX)
     have kS:=(Kept.refl [kb] w8).setCell (p:=⟨kb,0,none⟩) (.inl (by simp)) (.slice a8 (tsi.length + 1) cap8)
     have htw:=(uh HTW4).pass kq (by simp) (Y:=l :: B4) (fun x hx=>Or.inl hx)
     have hpush:=((uh HKS4).ow.pass kq (by simp)).push (t:=(si.nx,.slice ua es.length uc,es)) (by
      obtain ⟨B9,C9,j1,j2,j3,j4⟩:=htw
      exact ⟨B9,C9,j1,by have:=uh HW02; omega,fun b hb=>Or.inl (by have:=uh HMB b hb; omega),j3,j4⟩) (fun b hb=>Nat.lt_of_lt_of_le (uh HLB4 b hb) kq.size) ho8 gr8 ha8
     have k49:Kept (kb :: (Value.slice ma tsi.length mc).ownBlock.toList) w4 (w8.setCell ⟨kb,0,none⟩ (.slice a8 (tsi.length + 1) cap8)):=(kk.mono (fun x hx=>by simp [hx])).trans kS (fun x hx=>Or.inl (by simp at hx; simp [hx]))
     have HKS5:=hide (⟨by rw [heap_setCell_same _ kb 0 _ _ _ hr8]; rfl,hpush.pass kS (fun x hx=>Or.inl (by rw [List.mem_singleton.1 hx]; exact (uh HKS4).kl)),(uh HKS4).kx,(uh HKS4).kl⟩:KS w0 (w8.setCell ⟨kb,0,none⟩ (.slice a8 (tsi.length + 1) cap8)) kb (l :: B4) (.slice a8 (tsi.length + 1) cap8) (tsi++[(si.nx,.slice ua es.length uc,es)]) musti)
     have HMV5:=hide (fun b hb=>by
      rcases ha8 with h9 | h9
      ·rw [h9] at hb; exact uh HMV b hb
      ·rw [h9] at hb; simp only [Option.some.injEq] at hb; exact Or.inr (by have:=(uh HKX).size; have:=kq.size; omega):∀ b,(Value.slice a8 (tsi.length + 1) cap8).ownBlock = some b→mv.ownBlock = some b∨w.heap.size≤b)
     have HLK5:=hide ((uh HLK4).kept k49 (fun hm=>by
      rcases List.mem_cons.1 hm with h9 | h9
      ·exact (uh HKS4).kx (by simp [h9])
      ·exact (uh HKS4).ow.ap l (by simpa using h9) (by simp)) (fun x hx hm=>by
      rcases List.mem_cons.1 hm with h9 | h9
      ·exact (uh HKS4).kx (by rw [← h9]; simp [hx])
      ·exact (uh HKS4).ow.ap x (by simpa using h9) (by simp [hx])))
     have HKX5:=hide ((uh HKX).trans k49 (fun x hx=>by
      rcases List.mem_cons.1 hx with rfl | hx
      ·exact Or.inl (by simp)
      ·rcases uh HMV x (by simpa using hx) with h9 | h9
       ·exact Or.inl (by simp [h9])
       ·exact Or.inr h9))
     clear kk hr8 kS htw hpush k49 kq ho8 gr8 ha8 d0 d1 q0 q1
     go_wp2_with fail
     go_roundw
     case rel=>exact ⟨i + 1,B4,_,_,by omega,by simp,hide (by rw [uh HSC,uh HEC]; exact uh HLK5),HKX5,HB4,hide (by rw [uh HSC,uh HEC]; exact uh HKS5),hide (by rw [uh HSC,uh HEC,List.map_append,uh HMY]; rfl),hide (by rw [List.length_append]; have:=uh HTL; simp only [List.length_cons,List.length_nil]; omega),HMV5⟩
     case measure=>simp [intOf]; omega
    ·have hE0':((E:Int) == 0) = false:=by simp; omega
     by_cases hs0:si.st = 0
     ·have hs0':((si.st:Int) == 0) = true:=by rw [hs0]; rfl
      have HST:=hide (xa3e l d s' w4 (uh HROW))
      by_cases hs1:s'.st = 0
      ·have hs1':((s'.st:Int) != 0) = false:=by rw [hs1]; rfl
       rw [if_neg (by rintro (h9 | h9); exact hE0 h9; exact h9.2 hs1)] at HEC
       clear hE0 hs0 hs1
       go_wp2_with fail
       refine Calls.mono (uh HST) ?_
       rintro e w5 ⟨rfl,hw5⟩
       rw [hw5]
       clear hw5
       clear HTW4 HG4
       go_wp2_with fail
       go_roundw
       case rel=>exact ⟨i + 1,B4,_,tsi,by omega,by simp,hide (by rw [uh HSC,uh HEC]; exact uh HLK4),HKX,HB4,hide (by rw [uh HSC,uh HEC]; exact uh HKS4),hide (by rw [uh HSC,uh HEC]; exact uh HMY),hide (by have:=uh HTL; omega),HMV⟩
       case measure=>simp [intOf]; omega
      ·have hs1':((s'.st:Int) != 0) = true:=by rw [bne_iff_ne]; omega
       rw [if_pos (Or.inr ⟨hs0,hs1⟩)] at HEC
       clear hE0 hs0 hs1
       go_wp2_with fail
       refine Calls.mono (uh HST) ?_
       rintro e w5 ⟨rfl,hw5⟩
       rw [hw5]
       clear hw5
       have HKBX:=hide (fun hm=>by have h9:=((uh HKS4).ow.own.lt kb (by simpa using hm)).1; have:=(uh HKS4).kl; omega:kb∉(Value.slice ma tsi.length mc).ownBlock.toList)
       have HGX:=hide (fun hm=>by have h9:=uh HMB g (by simpa using hm); omega:g∉(Value.slice ma tsi.length mc).ownBlock.toList)
       obtain ⟨d0,d1⟩:=bcells2 (uh HKS4).row
       obtain ⟨q0,q1⟩:=bcells2 (uh HG4)
       go_upto_region 10 with fail
       refine wp_k11 (by kernel_rfl) (by kernel_rfl) (by kernel_rfl) (by kernel_rfl) (by kernel_rfl) (by kernel_rfl) (by kernel_rfl) (by kernel_rfl) (by kernel_rfl) (by kernel_rfl) (by kernel_rfl) (by kernel_rfl) (by kernel_rfl) (by kernel_rfl) (by kernel_rfl) (by kernel_rfl) (by kernel_rfl) (by kernel_rfl) (by kernel_rfl) (by kernel_rfl) (by kernel_rfl) rfl (by kernel_rfl) rfl (by kernel_rfl) rfl (by kernel_rfl) rfl (by kernel_rfl) rfl (by kernel_rfl)
        (.pointer (some ⟨kb,0,none⟩)) (.pointer (some ⟨kb,0,none⟩)) (.pointer (some ⟨kb,0,none⟩)) (.pointer (some ⟨kb,0,none⟩)) (.slice ma tsi.length mc) (.agg #[.int .u64 (si.nx:Int),.slice ua es.length uc]) _ _ _ _ _ _
        (fun w'=>Kept (Value.slice ma tsi.length mc).ownBlock.toList w4 w')
        (fun w'=>Kept [] w4 w')
        (fun u0 w'=>∃ h,u0 = .slice (some ⟨h,0,none⟩) 1 1∧w'.heap[h]? = some (.cells #[.int .u64 (si.nx:Int),.slice ua es.length uc] 75 (0,0))∧Kept [] w4 w')
        (fun u0 u1 w'=>∃ a8 cap8 wq,u1 = .slice a8 (tsi.length + 1) cap8∧Kept [] w4 wq∧w'.ownsRow w0.heap.size 75 2 u1 (tsi.length + 1) (cellsB tsi++cellsB [(si.nx,.slice ua es.length uc,es)])∧wq.grownBy w' (Value.slice ma tsi.length mc).ownBlock∧(u1.ownBlock = (Value.slice ma tsi.length mc).ownBlock∨u1.ownBlock = some wq.heap.size))
        (fun u0 u1 u2 w'=>u2 = .pointer (some ⟨kb,0,none⟩)∧∃ a8 cap8 wq,u1 = .slice a8 (tsi.length + 1) cap8∧Kept [] w4 wq∧w'.ownsRow w0.heap.size 75 2 u1 (tsi.length + 1) (cellsB tsi++cellsB [(si.nx,.slice ua es.length uc,es)])∧wq.grownBy w' (Value.slice ma tsi.length mc).ownBlock∧(u1.ownBlock = (Value.slice ma tsi.length mc).ownBlock∨u1.ownBlock = some wq.heap.size))
        (fun u0 u1 u2 u3 w'=>u3 = .pointer (some ⟨kb,0,none⟩)∧∃ a8 cap8 wq,u1 = .slice a8 (tsi.length + 1) cap8∧Kept [] w4 wq∧w'.ownsRow w0.heap.size 75 2 u1 (tsi.length + 1) (cellsB tsi++cellsB [(si.nx,.slice ua es.length uc,es)])∧wq.grownBy w' (Value.slice ma tsi.length mc).ownBlock∧(u1.ownBlock = (Value.slice ma tsi.length mc).ownBlock∨u1.ownBlock = some wq.heap.size))
        (fun u0 u1 u2 u3 w'=>∃ a8 cap8 wq w8,u1 = .slice a8 (tsi.length + 1) cap8∧Kept [] w4 wq∧w8.ownsRow w0.heap.size 75 2 u1 (tsi.length + 1) (cellsB tsi++cellsB [(si.nx,.slice ua es.length uc,es)])∧wq.grownBy w8 (Value.slice ma tsi.length mc).ownBlock∧(u1.ownBlock = (Value.slice ma tsi.length mc).ownBlock∨u1.ownBlock = some wq.heap.size)∧w' = w8.setCell ⟨kb,0,none⟩ u1)
        (by simp only [Act.put,sa1,sa2,sa3]; rfl) (by exact Or.inl ⟨by rfl,fun W' hW'=>by go_simp⟩)
        (by simp only [Act.put,sa1,sa2,sa3]; rfl) (by exact Or.inl ⟨by rfl,fun W' hW'=>by go_simp⟩)
        (by simp only [Act.put,sa1,sa2,sa3]; rfl) (by exact Or.inl ⟨by rfl,fun W' hW'=>by go_simp⟩)
        (by simp only [Act.put,sa1,sa2,sa3]; rfl) (by exact Or.inl ⟨by rfl,fun W' hW'=>by go_simp⟩)
        (by simp only [Act.put,sa1,sa2,sa3]; rfl) (by exact Or.inl ⟨by rfl,fun W' hW'=>by have h90:=hW'.cell d0 (uh HKBX); go_simp⟩)
        (by simp only [Act.put,sa1,sa2,sa3]; rfl) (by exact Or.inl ⟨by rfl,fun W' hW'=>by have h90:=hW'.cell q0 (uh HGX); have h91:=hW'.cell q1 (uh HGX); go_simp⟩)
        (Kept.refl [] w4).drew
        ⟨fun w' h=>h.mono (by simp),fun u0 w' h=>by obtain ⟨_,_,_,h1⟩:=h; exact h1.mono (by simp),fun u0 u1 w' h=>by obtain ⟨a8,cap8,wq,_,h1,_,h2,_⟩:=h; exact (h1.mono (by simp)).grown h2 (by intro k hk; left; simp [hk]),fun u0 u1 u2 w' h=>by obtain ⟨_,a8,cap8,wq,_,h1,_,h2,_⟩:=h; exact (h1.mono (by simp)).grown h2 (by intro k hk; left; simp [hk]),fun u0 u1 u2 u3 w' h=>by obtain ⟨_,a8,cap8,wq,_,h1,_,h2,_⟩:=h; exact (h1.mono (by simp)).grown h2 (by intro k hk; left; simp [hk])⟩
        (by
         intro w' k K hK
         have hK2:=hK _ _ ⟨w'.heap.size,rfl,heap_alloc_new w' (.cells #[.int .u64 (si.nx:Int),.slice ua es.length uc] 75),k.alloc _⟩
         clear hK
         simp only [Act.put,sa1,sa2,sa3] at hK2 ⊢
         unfold Oper.wp execOp
         go_simp
         exact hK2)
        (by
         rintro u0 w' ⟨hh,rfl,hr0,k⟩ K hK
         have hS7:=(uh HKS4).ow.pass k (by simp)
         have hrc:RdC 2 w' (.slice (some ⟨hh,0,none⟩) 1 1) [[.int .u64 (si.nx:Int),.slice ua es.length uc]]:=xb4t hr0
         obtain ⟨a8,cap8,w8,hrun,h8,hg8,ha8⟩:=appendC w' w0.heap.size 42 75 (.agg #[.int .u64 0,.slice none 0 0]) 2 32 Tryz.underlying42 Tryz.infoBt rfl (by decide) (.slice ma tsi.length mc) tsi.length (cellsB tsi) hS7.own (some ⟨hh,0,none⟩) 1 1 [[.int .u64 (si.nx:Int),.slice ua es.length uc]] hrc (by simp) (by simp [Value.oneCell']) (by have:=uh HTL; omega) (by have:=uh HTL; omega) hS7.sz
         have hK2:=hK _ _ ⟨a8,cap8,w',rfl,k,h8,hg8,ha8⟩
         clear hK
         simp only [Act.put,sa1,sa2,sa3] at hK2 ⊢
         exact xa8f 42 (.tmp 57) (.tmp 59) rfl rfl (.slice ma tsi.length mc) (.slice (some ⟨hh,0,none⟩) 1 1) rfl rfl _ _ hrun hK2)
        (by rintro u0 u1 w' ⟨a8,cap8,wq,rfl,h1,h2,h3,h4⟩ K hK; unfold Oper.wp execOp; go_simp; exact hK _ _ ⟨rfl,a8,cap8,wq,rfl,h1,h2,h3,h4⟩)
        (by rintro u0 u1 u2 w' ⟨rfl,a8,cap8,wq,rfl,h1,h2,h3,h4⟩ K hK; unfold Oper.wp execOp; go_simp; exact hK _ _ ⟨rfl,a8,cap8,wq,rfl,h1,h2,h3,h4⟩)
        (by
         rintro u0 u1 u2 u3 w' ⟨rfl,a8,cap8,wq,rfl,h1,h2,h3,h4⟩ K hK
         have kk:Kept (Value.slice ma tsi.length mc).ownBlock.toList w4 w':=(h1.mono (by simp)).grown h3 (by intro k hk; left; simp [hk])
         have hr9:=kk.heap (uh HKS4).row (uh HKBX)
         obtain ⟨hw9,_⟩:=bcells2 hr9
         obtain ⟨hz9,_⟩:=froz2 hr9
         unfold Oper.wp execOp
         go_simp
         exact hK _ ⟨a8,cap8,wq,w',rfl,h1,h2,h3,h4,rfl⟩)
        ?_
       rintro u0 u1 u2 u3 w9 ⟨a8,cap8,wq,w8,rfl,kq,ho8,gr8,ha8,rfl⟩
       simp only [Act.put,sa1,sa2,sa3]
       have kk:Kept (Value.slice ma tsi.length mc).ownBlock.toList w4 w8:=(kq.mono (by simp)).grown gr8 (by intro k hk; left; simp [hk])
       have hr8:=kk.heap (uh HKS4).row (uh HKBX)
       have kS:=(Kept.refl [kb] w8).setCell (p:=⟨kb,0,none⟩) (.inl (by simp)) (.slice a8 (tsi.length + 1) cap8)
       have htw:=(uh HTW4).pass kq (by simp) (Y:=l :: B4) (fun x hx=>Or.inl hx)
       have hpush:=((uh HKS4).ow.pass kq (by simp)).push (t:=(si.nx,.slice ua es.length uc,es)) (by
        obtain ⟨B9,C9,j1,j2,j3,j4⟩:=htw
        exact ⟨B9,C9,j1,by have:=uh HW02; omega,fun b hb=>Or.inl (by have:=uh HMB b hb; omega),j3,j4⟩) (fun b hb=>Nat.lt_of_lt_of_le (uh HLB4 b hb) kq.size) ho8 gr8 ha8
       have k49:Kept (kb :: (Value.slice ma tsi.length mc).ownBlock.toList) w4 (w8.setCell ⟨kb,0,none⟩ (.slice a8 (tsi.length + 1) cap8)):=(kk.mono (fun x hx=>by simp [hx])).trans kS (fun x hx=>Or.inl (by simp at hx; simp [hx]))
       have HKS5:=hide (⟨by rw [heap_setCell_same _ kb 0 _ _ _ hr8]; rfl,hpush.pass kS (fun x hx=>Or.inl (by rw [List.mem_singleton.1 hx]; exact (uh HKS4).kl)),(uh HKS4).kx,(uh HKS4).kl⟩:KS w0 (w8.setCell ⟨kb,0,none⟩ (.slice a8 (tsi.length + 1) cap8)) kb (l :: B4) (.slice a8 (tsi.length + 1) cap8) (tsi++[(si.nx,.slice ua es.length uc,es)]) musti)
       have HMV5:=hide (fun b hb=>by
        rcases ha8 with h9 | h9
        ·rw [h9] at hb; exact uh HMV b hb
        ·rw [h9] at hb; simp only [Option.some.injEq] at hb; exact Or.inr (by have:=(uh HKX).size; have:=kq.size; omega):∀ b,(Value.slice a8 (tsi.length + 1) cap8).ownBlock = some b→mv.ownBlock = some b∨w.heap.size≤b)
       have HLK5:=hide ((uh HLK4).kept k49 (fun hm=>by
        rcases List.mem_cons.1 hm with h9 | h9
        ·exact (uh HKS4).kx (by simp [h9])
        ·exact (uh HKS4).ow.ap l (by simpa using h9) (by simp)) (fun x hx hm=>by
        rcases List.mem_cons.1 hm with h9 | h9
        ·exact (uh HKS4).kx (by rw [← h9]; simp [hx])
        ·exact (uh HKS4).ow.ap x (by simpa using h9) (by simp [hx])))
       have HKX5:=hide ((uh HKX).trans k49 (fun x hx=>by
        rcases List.mem_cons.1 hx with rfl | hx
        ·exact Or.inl (by simp)
        ·rcases uh HMV x (by simpa using hx) with h9 | h9
         ·exact Or.inl (by simp [h9])
         ·exact Or.inr h9))
       clear kk hr8 kS htw hpush k49 kq ho8 gr8 ha8 d0 d1 q0 q1
       go_wp2_with fail
       go_roundw
       case rel=>exact ⟨i + 1,B4,_,_,by omega,by simp,hide (by rw [uh HSC,uh HEC]; exact uh HLK5),HKX5,HB4,hide (by rw [uh HSC,uh HEC]; exact uh HKS5),hide (by rw [uh HSC,uh HEC,List.map_append,uh HMY]; rfl),hide (by rw [List.length_append]; have:=uh HTL; simp only [List.length_cons,List.length_nil]; omega),HMV5⟩
       case measure=>simp [intOf]; omega
     ·have hs0':((si.st:Int) == 0) = false:=by simp; omega
      rw [if_neg (by rintro (h9 | h9); exact hE0 h9; exact hs0 h9.1)] at HEC
      clear hE0 hs0
      clear HTW4 HG4
      go_wp2_with fail
      go_roundw
      case rel=>exact ⟨i + 1,B4,_,tsi,by omega,by simp,hide (by rw [uh HSC,uh HEC]; exact uh HLK4),HKX,HB4,hide (by rw [uh HSC,uh HEC]; exact uh HKS4),hide (by rw [uh HSC,uh HEC]; exact uh HMY),hide (by have:=uh HTL; omega),HMV⟩
      case measure=>simp [intOf]; omega
   ·have HSY:=hide (xa8t l d _ _ _ g0 Bi σi si w2 (uh HLK1) (uh HVR1) (by omega) (by omega))
    obtain ⟨⟨E,τ,s'⟩,hE⟩:∃ r,lgSync σi si = r:=⟨_,rfl⟩
    have HEC:=hide (by unfold scStep; rw [if_pos rfl]; dsimp only; rw [hE]:scStep ⟨σi,si,mayi,musti⟩ (true,es) = ⟨τ,s',mayi,if E = 0 then mayi.length else musti⟩)
    rw [hE] at HSY
    dsimp only at HSY
    clear hE
    go_wp2_with fail
    refine Calls.mono (uh HSY) ?_
    rintro e w3 ⟨B3,rfl,hl3,ev3⟩
    have HLK3:=hide (hl3.more (nb':=nb + (i + 1)) (ob':=ob + 6 * (i + 1)) (bb':=bb + 40048 * (i + 1)) (by omega) (by omega) (by omega))
    have HB3:=hide (fun x hx=>by
     rcases ev3.2 x hx with h9 | h9
     ·exact uh HBN x h9
     ·exact Or.inr (by have:=(uh HK1).size; omega):∀ x∈B3,x∈B∨w.heap.size≤x)
    have HKX:=hide ((uh HK1).trans ev3.1 (fun x hx=>by
     rcases List.mem_cons.1 hx with rfl | hx
     ·exact Or.inl (by simp)
     ·rcases uh HBN x hx with h9 | h9
      ·exact Or.inl (by simp [h9])
      ·exact Or.inr h9))
    have hks3:KS w0 w3 kb (l :: B3) mvi tsi musti:=⟨ev3.1.heap (uh HKS1).row (uh HKS1).kx,(uh HKS1).ow.mv ev3.1 (fun x hx=>by
     rcases List.mem_cons.1 hx with rfl | hx
     ·exact Or.inl (by simp)
     ·rcases ev3.2 x hx with h9 | h9
      ·exact Or.inl (by simp [h9])
      ·exact Or.inr h9),fun hm=>by
     rcases List.mem_cons.1 hm with h9 | h9
     ·exact (uh HKS1).kx (by simp [h9])
     ·rcases ev3.2 kb h9 with h8 | h8
      ·exact (uh HKS1).kx (by simp [h8])
      ·have:=uh HKB; have:=(uh HK1).size; omega,(uh HKS1).kl⟩
    have HKS3:=hide hks3
    clear hl3 ev3 hks3 HSY p0 p1
    obtain ⟨ma,mc,rfl⟩:=(uh HKS3).ow.shape
    by_cases hE0:E = 0
    ·subst hE0
     rw [if_pos rfl] at HEC
     obtain ⟨k0,k1⟩:=bcells2 (uh HKS3).row
     obtain ⟨z0,z1⟩:=froz2 (uh HKS3).row
     have HML:=hide (by rw [← uh HMY,List.length_map]:mayi.length = tsi.length)
     have kS:=(Kept.refl [kb] w3).setCell (p:=⟨kb,1,none⟩) (.inl (by simp)) (.int .i64 (tsi.length:Int))
     have HKS4:=hide (⟨by rw [heap_setCell_same _ kb 1 _ _ _ (uh HKS3).row]; rfl,(uh HKS3).ow.pass kS (fun x hx=>Or.inl (by rw [List.mem_singleton.1 hx]; exact (uh HKS3).kl)),(uh HKS3).kx,(uh HKS3).kl⟩:KS w0 (w3.setCell ⟨kb,1,none⟩ (.int .i64 (tsi.length:Int))) kb (l :: B3) (.slice ma tsi.length mc) tsi tsi.length)
     have HLK4:=hide ((uh HLK3).kept kS (fun hm=>(uh HKS3).kx (by rw [← List.mem_singleton.1 hm]; simp)) (fun x hx hm=>(uh HKS3).kx (by rw [← List.mem_singleton.1 hm]; simp [hx])))
     have HKX4:=hide ((uh HKX).trans kS (fun x hx=>Or.inl (by rw [List.mem_singleton.1 hx]; simp)))
     clear kS
     go_wp2_with fail
     go_roundw
     case rel=>exact ⟨i + 1,B3,_,tsi,by omega,by simp,hide (by rw [uh HSC,uh HEC]; exact uh HLK4),HKX4,HB3,hide (by rw [uh HSC,uh HEC,uh HML]; exact uh HKS4),hide (by rw [uh HSC,uh HEC]; exact uh HMY),hide (by have:=uh HTL; omega),HMV⟩
     case measure=>simp [intOf]; omega
    ·have hE0':((E:Int) == 0) = false:=by simp; omega
     rw [if_neg hE0] at HEC
     clear hE0
     go_wp2_with fail
     go_roundw
     case rel=>exact ⟨i + 1,B3,_,tsi,by omega,by simp,hide (by rw [uh HSC,uh HEC]; exact uh HLK3),HKX,HB3,hide (by rw [uh HSC,uh HEC]; exact uh HKS3),hide (by rw [uh HSC,uh HEC]; exact uh HMY),hide (by have:=uh HTL; omega),HMV⟩
     case measure=>simp [intOf]; omega
  ·have hlt':¬ (i:Int) < os.length:=by omega
   have hie:i = os.length:=by omega
   subst hie
   rw [List.take_length] at HLK HKS HMY
   go_wp2_with fail
   refine bodyPost_end (v:=.tuple #[]) (results_none rfl _ _ _) rfl ⟨Bi,mvi,tsi,rfl,uh HLK,uh HK,uh HBN,uh HKS,uh HMY⟩
end
section
open Go Go.RowKit Go.BigFrame
section
variable {P:Program} {Q:Exit→Act→World→Prop}
end
end
section
open Go.RowKit Go.BigFrame Go.Maps Go.Sort



end
section
open Go Go.RowKit Go.BigFrame
section
variable {P:Program} {Q:Exit→Act→World→Prop}
end
end
section
open Go.RowKit Go.BigFrame Go.Maps Go.Sort
theorem LK.lts {w:World} {l d nb ob bb:Nat} {B:List Nat} {σ:DSt} {s:LSt} (h:LK w l d B nb ob bb σ s):∀ x∈l :: B,x < w.heap.size:=by
 intro x hx
 rcases List.mem_cons.1 hx with rfl | hx
 ·exact h.lt
 ·exact h.dk.lt x hx





theorem OwnX.sub {X Y:List Nat} {w0 w:World} {v:Value} {ts:List (Nat × Value × List En)} (h:OwnX X w0 w v ts) (hs:∀ x∈Y,x∈X):OwnX Y w0 w v ts :=
 ⟨h.own,fun t ht=>by obtain ⟨B,C,h1,h2,h3,h4,h5⟩:=h.rd t ht; exact ⟨B,C,h1,h2,h3,fun b hb=>h4 b (hs b hb),h5⟩,h.sz,fun b hb hm=>h.ap b hb (hs b hm)⟩
theorem xb1f {c:ScS} (hd:Dist c.σ.A) (hn:c.s.nx < 18446744073709551616) (o:Bool × List En):phi (scStep c o).σ.A≤phi c.σ.A + 48240∧Dist (scStep c o).σ.A∧(scStep c o).s.nx < 18446744073709551616∧(scStep c o).may.length≤c.may.length + 1:=by
 unfold scStep
 split
 ·have h:=xb4k hd c.s
  refine ⟨by have:=h.1; dsimp only; omega,h.2,?_,by dsimp only; omega⟩
  dsimp only
  unfold lgSync
  split <;> exact hn
 ·have h:=xa3p hd c.s o.2 hn
  refine ⟨h.1,h.2,?_,by dsimp only; split <;> simp⟩
  dsimp only
  unfold lgAppend
  split
  ·exact hn
  ·split
   ·exact hn
   ·dsimp only
    split
    ·omega
    ·exact hn
theorem xb6x:∀ (os:List (Bool × List En)) {c:ScS},Dist c.σ.A→c.s.nx < 18446744073709551616→phi (scR c os).σ.A≤phi c.σ.A + 48240 * os.length∧(scR c os).may.length≤c.may.length + os.length
 | [],c,_,_=>⟨Nat.le_refl _,Nat.le_refl _⟩
 | o :: r,c,hd,hn=>by
  obtain ⟨h1,h2,h3,h4⟩:=xb1f hd hn o
  obtain ⟨i1,i2⟩:=xb6x r h2 h3
  have e:scR c (o :: r) = scR (scStep c o) r:=rfl
  rw [e,List.length_cons]
  omega
def Pd (wd:Int) (n e:Nat) (A:List DF):Prop:=∃ f∈A,f.nd = true∧48≤f.sy∧f.sy≤f.bs.length∧∃ u e' fs q,f.nm = nmB u∧u < 18446744073709551616∧n≤u∧e≤e'∧e' < 18446744073709551616∧fs < 18446744073709551616∧f.bs = ehB u e' fs wd++q
def cnR (A:List DF):Nat:=(A.filter fun f=>decide (sgE f.bs = 0)).length
theorem xb7j {sec:Nat}:∀ (l:List (List UInt8)) (op:Int) (A:List DF),0≤op→(∀ s∈l,strU s∈A.map DF.nm)→∃ A',stSyncs (dH sec op A) l = (0,dH sec (op + l.length) A')∧A'.map DF.nm = A.map DF.nm
 | [],op,A,h,_=>⟨A,by simp [stSyncs],rfl⟩
 | s :: r,op,A,h,hs=>by
  have h1:=sync_h (sec:=sec) (A:=A) h ((xa1v A (strU s)).2 (hs s (by simp)))
  have hn:(upA A (strU s) fun f=>{ f with sy:=f.bs.length }).map DF.nm = A.map DF.nm:=upA_nm (fun x=>rfl)
  obtain ⟨A',q1,q2⟩:=xb7j (sec:=sec) r (op + 1) (upA A (strU s) fun f=>{ f with sy:=f.bs.length }) (by omega) (fun t ht=>by rw [hn]; exact hs t (by simp [ht]))
  refine ⟨A',?_,by rw [q2,hn]⟩
  unfold stSyncs
  rw [h1]
  simp only [ne_eq,not_true_eq_false,if_false]
  rw [q1,List.length_cons]
  congr 2
  omega
theorem xb6a {A:List DF} {x:DF} {s:ByteArray} (hx:x.nm = s) (h:∀ f∈A,f.nm≠s):findA (A++[x]) s.data.toList = some x:=by
 have h1:=xb1l h
 unfold findA at h1 ⊢
 rw [List.find?_append,h1]
 simp [hx]
theorem xa5d {sec:Nat} {op:Int} {wd lim:Int} {N:Nat} {A:List DF} {may:List (Nat × List En)} {must:Nat} (h:Inv wd N A may must) (hag:argOk wd lim = true) (hN:N + 1 < 18446744073709551615) (hop0:0≤op) :
  ∃ s B',opD (dH sec op A) wd lim = ⟨0,dH sec (op + (cnR A:Nat) + 4) B',some s,Rb A⟩∧s.nx = cntB (Rb A)∧s.fst = s.nx∧s.wd = wd∧(∀ n e,Pd wd n e A→n < s.num∧e < s.ep)∧0 < s.num∧0 < s.ep∧Pd wd s.num s.ep B'∧stRead (dH sec (op + (cnR A:Nat) + 4) B') (nmB s.num) = (ehB s.num s.ep s.nx wd,0)∧s.num < 18446744073709551616∧s.ep < 18446744073709551616∧s.nx < 18446744073709551616∧s.st = 0:=by
 have hz:wideB wd = true:=by unfold argOk at hag; unfold wideB; simp at hag ⊢; omega
 have ho:(dH sec op A).off = false:=rfl
 have hcR:cntB (Rb A)≤cntB may:=by
  obtain ⟨t,ht⟩:=h.2.1
  rw [← ht,xa1a]; omega
 have hcm:=h.2.2.2
 have hC:Ch wd N 0 0 0 (dH sec op A).A:=h.1
 obtain ⟨G,g1,g2,g3,g4,g5,g6,g7,g8⟩:=xa8w (σ:=dH sec op A) (N:=N) ho hC.pair.2 (by omega) fst0 hC (fun x hx=>hx) rfl rfl (Nat.zero_le _) (Nat.zero_le _) (by show 0 + cntB (Rb A) < _; omega)
 rw [opD_eq hag ho,hC.names ho,g1]
 have hlast:=xa1y g1 (hC.pair.1) (fun s _ _=>Nat.zero_le _)
 have g2':G.bs = Rb A:=by rw [g2]; rfl
 have g3':G.sz = cntB (Rb A):=by rw [g3]; show 0 + cntB (Rb A) = _; omega
 have g4':G.sg = (A.filter fun f=>decide (sgE f.bs = 0)).map (fun f=>f.nm.data.toList):=by rw [g4]; rfl
 have hgl:G.sg.length = cnR A:=by rw [g4',List.length_map]; rfl
 have hsg:∀ s∈G.sg,strU s∈A.map DF.nm:=by
  intro s hs
  rw [g4'] at hs
  obtain ⟨x,hx,rfl⟩:=List.mem_map.1 hs
  have h1:strU x.nm.data.toList = x.nm:=ba_ext (by simp [strU])
  rw [h1]
  exact List.mem_map.2 ⟨x,(List.mem_filter.1 hx).1,rfl⟩
 obtain ⟨A',s1,s2⟩:=xb7j (sec:=sec) G.sg op A hop0 hsg
 have hfr:∀ f∈A',f.nm≠nmB (G.last + 1):=by
  intro f hf e
  have hm:nmB (G.last + 1)∈A.map DF.nm:=by rw [← s2,← e]; exact List.mem_map.2 ⟨f,hf,rfl⟩
  obtain ⟨x,hx,ex⟩:=List.mem_map.1 hm
  have h8:=xa4c (u:=G.last + 1) (by omega)
  have h7:=hlast.2 (nmB (G.last + 1)).data.toList (List.mem_map.2 ⟨x,hx,by rw [ex]⟩) h8.1
  rw [h8.2] at h7
  omega
 have hb:=xa7v (sec:=sec) (op:=op + (G.sg.length:Nat)) (A:=A') (G.last + 1) (G.ep + 1) G.sz (by omega) hz hfr
 have hop:opOf (dH sec op A) wd lim G = ⟨0,dH sec (op + (G.sg.length:Nat) + 4) (ndA (A'++[⟨nmB (G.last + 1),ehB (G.last + 1) (G.ep + 1) G.sz wd,48,false⟩])),some ⟨G.last + 1,G.ep + 1,G.sz,wd,48,0,lim,G.sz,0⟩,G.bs⟩:=by
  unfold opOf
  rw [s1]
  simp only [ne_eq,not_true_eq_false,if_false]
  rw [hb]
  simp only [not_true_eq_false,if_false]
 have hnd:ndA (A'++[⟨nmB (G.last + 1),ehB (G.last + 1) (G.ep + 1) G.sz wd,48,false⟩]) = ndA A'++[⟨nmB (G.last + 1),ehB (G.last + 1) (G.ep + 1) G.sz wd,48,true⟩]:=by simp [ndA]
 rw [hnd,hgl] at hop
 refine ⟨⟨G.last + 1,G.ep + 1,G.sz,wd,48,0,lim,G.sz,0⟩,ndA A'++[⟨nmB (G.last + 1),ehB (G.last + 1) (G.ep + 1) G.sz wd,48,true⟩],?_,g3',rfl,rfl,fun n e hp=>?_,Nat.succ_pos _,Nat.succ_pos _,?_,?_,?_,?_,?_,rfl⟩
 ·show opOf (dH sec op A) wd lim G = _
  rw [hop,g2']
 ·obtain ⟨f,hf,p1,p2,p3,u,e',fs,q,p4,p5,p6,p7,p8,p9,p10⟩:=hp
  have h8:=xa4c p5
  have h7:=hlast.2 (nmB u).data.toList (List.mem_map.2 ⟨f,hf,by rw [p4]⟩) h8.1
  rw [h8.2] at h7
  have hh:=xb3q p5 p8 p9 hz q
  rw [← p10] at hh
  have hE:sgE f.bs = 0:=by unfold sgE; rw [hh]; rfl
  have hD:(hdC f.bs).b = e':=by unfold hdC; rw [hh]; rfl
  have h6:=g8 f hf hE
  rw [hD] at h6
  exact ⟨by show n < G.last + 1; omega,by show e < G.ep + 1; omega⟩
 ·exact ⟨⟨nmB (G.last + 1),ehB (G.last + 1) (G.ep + 1) G.sz wd,48,true⟩,List.mem_append_right _ (by simp),rfl,Nat.le_refl _,by show 48≤(ehB (G.last + 1) (G.ep + 1) G.sz wd).length; rw [xa1z hz]; exact Nat.le_refl _,G.last + 1,G.ep + 1,G.sz,[],rfl,by omega,Nat.le_refl _,Nat.le_refl _,by omega,by omega,by simp⟩
 ·unfold stRead
  have hfl:=xb6a (A:=ndA A') (x:=⟨nmB (G.last + 1),ehB (G.last + 1) (G.ep + 1) G.sz wd,48,true⟩) (s:=nmB (G.last + 1)) rfl (fun f hf=>by
   obtain ⟨x,hx,rfl⟩:=List.mem_map.1 hf
   exact hfr x hx)
  show (if false = true then _ else match findA (ndA A'++_) _ with | none=>_ | some f=>_) = _
  rw [if_neg (by simp),hfl]
 ·show G.last + 1 < _; omega
 ·show G.ep + 1 < _; omega
 ·show G.sz < _; omega
def HhD (sec:Nat) (σ:DSt):Prop:=∃ (op:Nat) (A:List DF),σ = dH sec (op:Int) A
theorem xb2n (sec op:Nat) (A:List DF):HhD sec (dH sec ((op:Int) + 1) A):=⟨op + 1,A,by rw [show ((op + 1:Nat):Int) = (op:Int) + 1 by omega]⟩
theorem xc0s {u v:Nat} (hu:u < 18446744073709551616) (hv:v < 18446744073709551616) (h:u≠v):nmB u≠nmB v:=by
 intro e
 have h1:=(xa4c hu).2
 rw [e,(xa4c hv).2] at h1
 exact h h1.symm
theorem lay_h2 {sec op:Nat} {A:List DF} {s:LSt} (p:List Nat) (hl:nmB s.num∈A.map DF.nm):(lgLay (dH sec (op:Int) A) s p).1 = 0∧HhD sec (lgLay (dH sec (op:Int) A) s p).2.1:=by
 have h1:=xa5c (sec:=sec) (op:=(op:Int)) p (by omega) ((xa1v A (nmB s.num)).2 hl)
 unfold lgLay
 rw [h1]
 exact ⟨rfl,xb2n _ _ _⟩
theorem rot_h2 {sec op:Nat} {A:List DF} {s:LSt} (hl:nmB s.num∈A.map DF.nm) (hz:wideB s.wd = true) (hn:s.num < 18446744073709551615) (hno:∀ f∈A,f.nm≠nmB (s.num + 1)):(lgRot (dH sec (op:Int) A) s).1 = 0∧∃ (op':Nat) (A':List DF),(lgRot (dH sec (op:Int) A) s).2.1 = dH sec (op':Int) A'∧nmB (lgRot (dH sec (op:Int) A) s).2.2.num∈A'.map DF.nm:=by
 have h1:=sync_h (sec:=sec) (op:=(op:Int)) (by omega) ((xa1v A (nmB s.num)).2 hl)
 have h2:=xa7v (sec:=sec) (op:=(op:Int) + 1) (A:=upA A (nmB s.num) fun f=>{ f with sy:=f.bs.length }) (s.num + 1) s.ep s.nx (by omega) hz (fun f hf e=>by
  have hm:nmB (s.num + 1)∈(upA A (nmB s.num) fun f=>{ f with sy:=f.bs.length }).map DF.nm:=by rw [← e]; exact List.mem_map.2 ⟨f,hf,rfl⟩
  rw [upA_nm (F:=fun f=>{ f with sy:=f.bs.length }) (fun x=>rfl)] at hm
  obtain ⟨x,hx,hx2⟩:=List.mem_map.1 hm
  exact hno x hx hx2)
 unfold lgRot
 rw [h1]
 simp only [ne_eq,not_true_eq_false,if_false]
 rw [if_neg (by omega),h2]
 simp only [not_true_eq_false,if_false]
 refine ⟨by trivial,op + 5,_,by rw [show ((op + 5:Nat):Int) = (op:Int) + 1 + 4 by omega],?_⟩
 simp only [ndA,List.map_append,List.map_cons,List.map_nil]
 exact List.mem_append_right _ (by simp)
theorem xb4b {sec op:Nat} {A:List DF} {s:LSt} (p:List Nat) (hl:nmB s.num∈A.map DF.nm) (hz:wideB s.wd = true) (hn:s.num < 18446744073709551615) (hno:∀ f∈A,f.nm≠nmB (s.num + 1)):(lgWrite (dH sec (op:Int) A) s p).1 = 0∧HhD sec (lgWrite (dH sec (op:Int) A) s p).2.1:=by
 unfold lgWrite
 split
 ·obtain ⟨h1,op',A',h2,h3⟩:=rot_h2 (sec:=sec) (op:=op) hl hz hn hno
  rw [h1,h2]
  simp only [ne_eq,not_true_eq_false,if_false]
  exact lay_h2 p h3
 ·exact lay_h2 p hl
theorem SJ.names {wd:Int} {N:Nat} {A:List DF} {s:LSt} {may:List (Nat × List En)} {must:Nat} {A0:List DF} {f:DF} {L:List (List En)} (h:SJ wd N A s may must A0 f L) (hN:N < 18446744073709551615):nmB s.num∈A.map DF.nm∧wideB s.wd = true∧s.num < 18446744073709551615∧∀ x∈A,x.nm≠nmB (s.num + 1):=by
 have h1:=h.hn
 refine ⟨?_,by rw [h.wd]; exact h.gd.z,by omega,fun x hx e=>?_⟩
 ·rw [h.eq,List.map_append]
  exact List.mem_append_right _ (by simp [h.nm])
 ·rw [h.eq] at hx
  rcases List.mem_append.1 hx with hx | hx
  ·have:=h.hi x hx (s.num + 1) (by omega) e
   omega
  ·rw [List.mem_singleton.1 hx,h.nm] at e
   exact xc0s (by omega) (by omega) (by omega) e
theorem xa5l {wd:Int} {N sec:Nat} {σ:DSt} {s:LSt} {may:List (Nat × List En)} {must:Nat} (h:ScI wd N ⟨σ,s,may,must⟩) (h0:s.st = 0) (hh:HhD sec σ) (hN:N < 18446744073709551615) (es:List En):(lgAppend σ s es).1 = chkB s.nx es∧HhD sec (lgAppend σ s es).2.1∧(lgAppend σ s es).2.2.st = 0:=by
 rcases h with ⟨_,A0,f,L,h⟩ | ⟨h1,_⟩
 ·obtain ⟨n1,n2,n3,n4⟩:=h.names hN
  obtain ⟨op,A,rfl⟩:=hh
  have hf:lgFail s = 0:=by unfold lgFail; rw [if_pos (Or.inl h0)]; exact h0
  unfold lgAppend
  by_cases hc:chkB s.nx es = 0
  ·obtain ⟨w1,w2⟩:=xb4b (sec:=sec) (op:=op) (A:=A) (sbB s.nx es) n1 n2 n3 n4
   rw [if_neg (by simp [hc]),if_neg (by simp [hf])]
   exact ⟨by rw [hc]; exact w1,w2,w1⟩
  ·rw [if_pos hc]
   exact ⟨rfl,⟨op,A,rfl⟩,h0⟩
 ·exact absurd h0 h1
theorem xb2z {wd:Int} {N sec:Nat} {c:ScS} (h:ScI wd N c) (h0:c.s.st = 0) (hh:HhD sec c.σ) (hN:N < 18446744073709551615) (o:Bool × List En):HhD sec (scStep c o).σ∧(scStep c o).s.st = 0:=by
 obtain ⟨σ,s,may,must⟩:=c
 obtain ⟨b,es⟩:=o
 cases b with
 | false =>
  have h1:=xa5l h h0 hh hN es
  exact ⟨h1.2.1,h1.2.2⟩
 | true =>
  rcases h with ⟨_,A0,f,L,h⟩ | ⟨h1,_⟩
  ·obtain ⟨n1,n2,n3,n4⟩:=h.names hN
   obtain ⟨op,A,hA⟩:=hh
   dsimp only at hA h0 n1
   subst hA
   have hf:lgFail s = 0:=by unfold lgFail; rw [if_pos (Or.inl h0)]; exact h0
   have h1:=sync_h (sec:=sec) (op:=(op:Int)) (by omega) ((xa1v A (nmB s.num)).2 n1)
   unfold scStep lgSync
   simp only [if_true]
   rw [if_neg (by simp [hf]),h1]
   exact ⟨xb2n _ _ _,rfl⟩
  ·exact absurd h0 h1
theorem scR_h {wd:Int} {sec:Nat}:∀ (os:List (Bool × List En)) {N:Nat} {c:ScS},ScI wd N c→c.s.st = 0→HhD sec c.σ→(∀ o∈os,byN o.2)→N + os.length < 18446744073709551615→HhD sec (scR c os).σ∧(scR c os).s.st = 0
 | [],N,c,_,h0,hh,_,_=>⟨hh,h0⟩
 | o :: r,N,c,h,h0,hh,hy,hN=>by
  rw [List.length_cons] at hN
  have h1:=xb2z h h0 hh (by omega) o
  exact scR_h r (h.step o (hy o (by simp)) (by omega)) h1.2 h1.1 (fun x hx=>hy x (by simp [hx])) (by omega)
theorem SJ.junk {wd:Int} {N:Nat} {A:List DF} {s:LSt} {may:List (Nat × List En)} {must:Nat} {A0:List DF} {f:DF} {L:List (List En)} (h:SJ wd N A s may must A0 f L) {z:List Nat} (hz:z.head?≠some 245):Inv wd N (A0++[{ f with bs:=f.bs++z }]) may 0∧Rb (A0++[{ f with bs:=f.bs++z }]) = may:=by
 have hj:=xb2t h.gd hz
 have hfl:Fl wd N { f with bs:=f.bs++z } s.num s.ep s.fst L (laidB s.num s.ep s.fst wd L).length z :=
  ⟨h.gd,h.nm,h.hn,h.he,Nat.le_refl _,by show f.bs++z = _; rw [h.bs,List.take_length],by show f.sy≤(f.bs++z).length; rw [List.length_append]; have:=h.sy; omega,Or.inr ⟨Nat.le_refl _,hz⟩⟩
 have hrb:Rb (A0++[{ f with bs:=f.bs++z }]) = may:=by
  rw [Rb_app,h.my]
  congr 1
  simp only [Rb,List.flatMap_cons,List.flatMap_nil,List.append_nil]
  rw [h.bs]
  exact hj.2.2
 refine ⟨⟨?_,by rw [hrb]; exact List.prefix_refl _,Nat.zero_le _,h.cn⟩,hrb⟩
 exact Ch.snoc hfl (fun _=>h.nd) h.ch h.st h.h1 h.hi (fun _=>⟨by rw [h.fs]; omega,Nat.zero_le _,h.ep⟩)
theorem xb8v {sec op:Nat} {wd:Int} {N:Nat} {A:List DF} {s:LSt} {may:List (Nat × List En)} {must:Nat} (h:ScI wd N ⟨dH sec (op:Int) A,s,may,must⟩) (h0:s.st = 0) (hN:N < 18446744073709551615) {z:List Nat} (hz:z.head?≠some 245):∃ A1,stAppend (dH sec (op:Int) A) (nmB s.num) z = (0,dH sec ((op + 1:Nat):Int) A1)∧Inv wd N A1 may 0∧Rb A1 = may∧s.nx = cntB may:=by
 rcases h with ⟨_,A0,f,L,h⟩ | ⟨h1,_⟩
 ·have h':SJ wd N A s may must A0 f L:=h
  have n:=h'.names hN
  have h1:=xa5c (sec:=sec) (op:=(op:Int)) z (by omega) ((xa1v A (nmB s.num)).2 n.1)
  have h2:=h'.junk hz
  refine ⟨A0++[{ f with bs:=f.bs++z }],?_,h2.1,h2.2,h'.nx⟩
  rw [h1]
  congr 2
  ·rw [h'.eq]
   unfold upA
   rw [List.map_append]
   congr 1
   ·conv=>rhs; rw [← List.map_id A0]
    refine List.map_congr_left (fun x hx=>?_)
    have hne:x.nm≠nmB s.num:=fun e=>by
     have:=h'.hi x hx s.num h'.gd.n e
     omega
    simp [hne]
   ·simp [h'.nm]
 ·exact absurd h0 h1
theorem xb9o {a b:Nat} (h:leastE a b = 0):a = 0:=by
 unfold leastE at h
 split at h
 ·rename_i h1
  rcases h1 with h1 | h1
  ·exact h1
  ·omega
 ·exact h
theorem xb7o:∀ (es:List En) (a:Nat),es.foldl (fun a e=>leastE a (chkE e)) a = 0→a = 0
 | [],a,h=>h
 | e :: r,a,h=>xb9o (xb7o r _ h)
theorem xb8c {f:Nat} {es:List En} (h:chkB f es = 0):es.length≤64:=by
 have h1:=xb7o es _ h
 unfold Go.Proofs.YtkolfhgbojenjaaGreatDoor.cntE at h1
 split at h1
 ·omega
 ·omega
theorem xa9x {wd:Int} {N sec:Nat} {σ:DSt} {s:LSt} {may:List (Nat × List En)} {must:Nat} (h:ScI wd N ⟨σ,s,may,must⟩) (h0:s.st = 0) (hh:HhD sec σ) (hN:N < 18446744073709551615) (es:List En):(lgAppend σ s es).2.2.nx≤s.nx + 64:=by
 rcases h with ⟨_,A0,f,L,h⟩ | ⟨h1,_⟩
 ·obtain ⟨n1,n2,n3,n4⟩:=h.names hN
  obtain ⟨op,A,rfl⟩:=hh
  have hf:lgFail s = 0:=by unfold lgFail; rw [if_pos (Or.inl h0)]; exact h0
  unfold lgAppend
  by_cases hc:chkB s.nx es = 0
  ·obtain ⟨w1,w2⟩:=xb4b (sec:=sec) (op:=op) (A:=A) (sbB s.nx es) n1 n2 n3 n4
   rw [if_neg (by simp [hc]),if_neg (by simp [hf])]
   dsimp only
   rw [if_pos w1]
   have:=xb8c hc
   have:=Nat.mod_le (s.nx + es.length) 18446744073709551616
   omega
  ·rw [if_pos hc]
   exact Nat.le_add_right _ _
 ·exact absurd h0 h1
theorem scR_nx {wd:Int} {sec:Nat}:∀ (os:List (Bool × List En)) {N:Nat} {c:ScS},ScI wd N c→c.s.st = 0→HhD sec c.σ→(∀ o∈os,byN o.2)→N + os.length < 18446744073709551615→(scR c os).s.nx≤c.s.nx + 64 * os.length
 | [],N,c,_,_,_,_,_=>Nat.le_add_right _ _
 | o :: r,N,c,h,h0,hh,hy,hN=>by
  rw [List.length_cons] at hN ⊢
  have h1:=xb2z h h0 hh (by omega) o
  have h2:=scR_nx r (h.step o (hy o (by simp)) (by omega)) h1.2 h1.1 (fun x hx=>hy x (by simp [hx])) (by omega)
  have h3:(scStep c o).s.nx≤c.s.nx + 64:=by
   obtain ⟨σ,s,may,must⟩:=c
   obtain ⟨b,es⟩:=o
   cases b with
   | false=>exact xa9x h h0 hh (by omega) es
   | true =>
    unfold scStep lgSync
    simp only [if_true]
    split <;> exact Nat.le_add_right _ _
  have e:scR c (o :: r) = scR (scStep c o) r:=rfl
  rw [e]
  omega
theorem xc0z (nx:Nat) (h:nx < 18446744073709551615):chkB nx [⟨1,[5],[6]⟩] = 0:=by
 unfold chkB
 simp [leastE,chkE,Go.Proofs.YtkolfhgbojenjaaGreatDoor.cntE]
 try omega
theorem xb6g:∃ σ1 s1,opD (dH 32 0 []) 8 65536 = ⟨0,σ1,some s1,[]⟩∧ScI 8 1 ⟨σ1,s1,[],0⟩∧HhD 32 σ1∧s1.st = 0∧s1.nx = 0∧phi σ1.A≤4144∧Dist σ1.A:=by
 have hI:Inv 8 0 [] [] 0:=xb5p 8
 have hag:argOk 8 65536 = true:=by decide
 obtain ⟨s,B',h1,h2,_,_,_,_,_,_,_,_,_,_,h3⟩:=xa5d (sec:=32) (op:=0) (lim:=65536) hI hag (by omega) (Int.le_refl _)
 have h4:=xb0l (σ:=dH 32 0 []) (lim:=65536) hI hag (by omega)
 have h5:=xb1r (σ:=dH 32 0 []) List.Pairwise.nil 8 65536
 rw [h1] at h4 h5
 obtain ⟨_,_,_,s9,e9,_,_,_,h8⟩:=h4.2.2 rfl
 have hs9:s = s9:=by simpa using e9
 subst hs9
 exact ⟨_,s,h1,h8,⟨4,B',by rfl⟩,h3,h2,h5.1,h5.2⟩
theorem xb5j {N P:Nat} {c:ScS} (h:ScI 8 N c) (h0:c.s.st = 0) (hh:HhD 32 c.σ) (hN:N + 3 < 18446744073709551615) (hx:c.s.nx < 18446744073709551615) (hd:Dist c.σ.A) (hP:phi c.σ.A≤P) {z:List Nat} (hz:z.head?≠some 245) :
  ∃ σ3 σ4 σ5 σ6 s4 s5 s6,stAppend c.σ (nmB c.s.num) z = (0,σ3)∧opD σ3 8 65536 = ⟨0,σ4,some s4,c.may⟩∧lgAppend σ4 s4 [⟨1,[5],[6]⟩] = (0,σ5,s5)∧opD σ5 8 65536 = ⟨0,σ6,some s6,c.may++[(c.s.nx,[⟨1,[5],[6]⟩])]⟩∧phi σ3.A≤P + z.length + 4096∧phi σ5.A≤P + z.length + 60000∧Dist σ3.A∧Dist σ5.A:=by
 obtain ⟨σ,s,may,must⟩:=c
 dsimp only at h0 hh hx hd hP ⊢
 have hag:argOk 8 65536 = true:=by decide
 have hpa:=xa3m hd (nmB s.num) z
 have hda:=xa2n hd (nmB s.num) z
 obtain ⟨op,A,hA⟩:=hh
 subst hA
 obtain ⟨A1,a1,a2,a3,a4⟩:=xb8v h h0 (by omega) hz
 rw [a1] at hpa hda
 obtain ⟨s4,B',h1,h2,_,_,_,_,_,_,_,_,_,_,h3⟩:=xa5d (sec:=32) (op:=((op + 1:Nat):Int)) (lim:=65536) a2 hag (by omega) (by omega)
 have h4:=xb0l (σ:=dH 32 ((op + 1:Nat):Int) A1) (lim:=65536) a2 hag (by omega)
 have h5:=xb1r (σ:=dH 32 ((op + 1:Nat):Int) A1) hda 8 65536
 rw [h1] at h4 h5
 obtain ⟨_,_,_,s9,e9,_,_,_,h8⟩:=h4.2.2 rfl
 have hs9:s4 = s9:=by simpa using e9
 subst hs9
 rw [a3] at h1 h2 h8
 dsimp only at h5 h8
 have hh4:HhD 32 (dH 32 (((op + 1:Nat):Int) + (cnR A1:Nat) + 4) B'):=⟨op + 1 + cnR A1 + 4,B',by rw [show ((op + 1 + cnR A1 + 4:Nat):Int) = ((op + 1:Nat):Int) + (cnR A1:Nat) + 4 by omega]⟩
 have hsx:s4.nx = s.nx:=by rw [h2,a4]
 have h9:=xa5l h8 h3 hh4 (by omega) [⟨1,[5],[6]⟩]
 rw [hsx,xc0z _ hx] at h9
 have h10:=xa3p (σ:=dH 32 (((op + 1:Nat):Int) + (cnR A1:Nat) + 4) B') h5.2 s4 [⟨1,[5],[6]⟩] (by omega)
 have h11:=h8.step (false,[⟨1,[5],[6]⟩]) (by intro e he; rw [List.mem_singleton.1 he]; exact ⟨by decide,by decide,by decide⟩) (by omega)
 obtain ⟨⟨E,σ5,s5⟩,hE⟩:∃ r,lgAppend (dH 32 (((op + 1:Nat):Int) + (cnR A1:Nat) + 4) B') s4 [⟨1,[5],[6]⟩] = r:=⟨_,rfl⟩
 have hst:scStep ⟨dH 32 (((op + 1:Nat):Int) + (cnR A1:Nat) + 4) B',s4,may,may.length⟩ (false,[⟨1,[5],[6]⟩]) = ⟨σ5,s5,may++[(s4.nx,[⟨1,[5],[6]⟩])],may.length⟩:=by
  rw [hE] at h9
  unfold scStep
  rw [if_neg (by simp)]
  dsimp only
  rw [hE]
  dsimp only
  rw [if_pos (Or.inl h9.1)]
 rw [hst] at h11
 rw [hE] at h9 h10
 dsimp only at h9 h10
 obtain ⟨h12,⟨op5,A5,h13⟩,h14⟩:=h9
 subst h12
 subst h13
 rcases h11 with ⟨_,A0,f,L,hj⟩ | ⟨hj,_⟩
 ·have hj':SJ 8 (N + 1 + 1) A5 s5 (may++[(s4.nx,[⟨1,[5],[6]⟩])]) may.length A0 f L:=hj
  have hr:=hj'.rb
  obtain ⟨s6,B6,k1,_⟩:=xa5d (sec:=32) (op:=(op5:Int)) (lim:=65536) hj'.inv hag (by omega) (by omega)
  rw [hr,hsx] at k1
  exact ⟨_,_,_,_,s4,s5,s6,a1,h1,hE,k1,by dsimp only at hpa; omega,by have:=h10.1; have:=h5.1; dsimp only at hpa; omega,hda,h10.2⟩
 ·exact absurd h14 hj

structure Lf where
 fv:Value
 cr:Int
 sv:Value
 cut:Bool
 n:Int
 kv:Value
 fl:List (Int × Int)
 os:List (Bool × List En)
 ks:List KeepD

end
section
open Go Go.RowKit Go.BigFrame
section
variable {P:Program} {Q:Exit→Act→World→Prop}
theorem xc0k {id:Nat} {o0 o1 o2 o3 o4 o5 o6 o7 o8 o9 o10:Oper} {a:Act} {w:World} (hm:P.follows .mixedOrders = true) (hs:Region.noSelect #[o0,o1,o2,o3,o4,o5,o6,o7,o8,o9,o10] = true)
  (f0:Region.free .any #[o0,o1,o2,o3,o4,o5,o6,o7,o8,o9,o10] #[false,false,false,false,false,false,false,false,false,false,false] 0 = true) (r0:(Region.ready .any #[o0,o1,o2,o3,o4,o5,o6,o7,o8,o9,o10] #[false,false,false,false,false,false,false,false,false,false,false]).contains 0 = true) (e0:o10.after.any (fun e=>Region.binds .any e && e.on == 0) = true)
  (f1:Region.free .any #[o0,o1,o2,o3,o4,o5,o6,o7,o8,o9,o10] #[true,false,false,false,false,false,false,false,false,false,false] 1 = true) (r1:(Region.ready .any #[o0,o1,o2,o3,o4,o5,o6,o7,o8,o9,o10] #[true,false,false,false,false,false,false,false,false,false,false]).contains 1 = true) (e1:o10.after.any (fun e=>Region.binds .any e && e.on == 1) = true)
  (f2:Region.free .any #[o0,o1,o2,o3,o4,o5,o6,o7,o8,o9,o10] #[true,true,false,false,false,false,false,false,false,false,false] 2 = true) (r2:(Region.ready .any #[o0,o1,o2,o3,o4,o5,o6,o7,o8,o9,o10] #[true,true,false,false,false,false,false,false,false,false,false]).contains 2 = true) (e2:o10.after.any (fun e=>Region.binds .any e && e.on == 2) = true)
  (q3:Region.ready .any #[o0,o1,o2,o3,o4,o5,o6,o7,o8,o9,o10] #[true,true,true,false,false,false,false,false,false,false,false] = [3]) (g3:o3.guard = none)
  (q4:Region.ready .any #[o0,o1,o2,o3,o4,o5,o6,o7,o8,o9,o10] #[true,true,true,true,false,false,false,false,false,false,false] = [4]) (g4:o4.guard = none)
  (q5:Region.ready .any #[o0,o1,o2,o3,o4,o5,o6,o7,o8,o9,o10] #[true,true,true,true,true,false,false,false,false,false,false] = [5]) (g5:o5.guard = none)
  (q6:Region.ready .any #[o0,o1,o2,o3,o4,o5,o6,o7,o8,o9,o10] #[true,true,true,true,true,true,false,false,false,false,false] = [6]) (g6:o6.guard = none)
  (q7:Region.ready .any #[o0,o1,o2,o3,o4,o5,o6,o7,o8,o9,o10] #[true,true,true,true,true,true,true,false,false,false,false] = [7]) (g7:o7.guard = none)
  (q8:Region.ready .any #[o0,o1,o2,o3,o4,o5,o6,o7,o8,o9,o10] #[true,true,true,true,true,true,true,true,false,false,false] = [8]) (g8:o8.guard = none)
  (q9:Region.ready .any #[o0,o1,o2,o3,o4,o5,o6,o7,o8,o9,o10] #[true,true,true,true,true,true,true,true,true,false,false] = [9]) (g9:o9.guard = none)
  (q10:Region.ready .any #[o0,o1,o2,o3,o4,o5,o6,o7,o8,o9,o10] #[true,true,true,true,true,true,true,true,true,true,false] = [10]) (g10:o10.guard = none)
  (rr:Region.ready .any #[o0,o1,o2,o3,o4,o5,o6,o7,o8,o9,o10] #[true,true,true,true,true,true,true,true,true,true,true] = [])
  (v0 v1 v2:Value) (A0 A1 A2:Act) (T:World→Prop)
  (I0:World→Prop)
  (I1:Value→World→Prop)
  (I2:Value→Value→World→Prop)
  (I3:Value→Value→Value→World→Prop)
  (I4:Value→Value→Value→Value→World→Prop)
  (I5:Value→Value→Value→Value→Value→World→Prop)
  (I6:Value→Value→Value→Value→Value→Value→World→Prop)
  (I7:Value→Value→Value→Value→Value→Value→Value→World→Prop)
  (IE:Value→Value→Value→Value→Value→Value→Value→World→Prop)
  (p0:a.put o0.dst v0 = A0) (hy0:YieldsIf P #[o0,o1,o2,o3,o4,o5,o6,o7,o8,o9,o10] T o0 v0 a)
  (p1:A0.put o1.dst v1 = A1) (hy1:YieldsIf P #[o0,o1,o2,o3,o4,o5,o6,o7,o8,o9,o10] T o1 v1 A0)
  (p2:A1.put o2.dst v2 = A2) (hy2:YieldsIf P #[o0,o1,o2,o3,o4,o5,o6,o7,o8,o9,o10] T o2 v2 A1)
  (i0:I0 w.drew)
  (hIT:(∀ w',I0  w'→T w')∧(∀ (u0:Value) w',I1 u0 w'→T w')∧(∀ (u0 u1:Value) w',I2 u0 u1 w'→T w')∧(∀ (u0 u1 u2:Value) w',I3 u0 u1 u2 w'→T w')∧(∀ (u0 u1 u2 u3:Value) w',I4 u0 u1 u2 u3 w'→T w')∧(∀ (u0 u1 u2 u3 u4:Value) w',I5 u0 u1 u2 u3 u4 w'→T w')∧(∀ (u0 u1 u2 u3 u4 u5:Value) w',I6 u0 u1 u2 u3 u4 u5 w'→T w')∧(∀ (u0 u1 u2 u3 u4 u5 u6:Value) w',I7 u0 u1 u2 u3 u4 u5 u6 w'→T w'))
  (s0:∀ w',I0  w'→∀ K:Act→World→Prop,(∀ (u0:Value) w2,I1 u0 w2→K (A2.put o3.dst u0) w2)→o3.wp P A2 w' K (NoPanic Q))
  (s1:∀ (u0:Value) w',I1 u0 w'→∀ K:Act→World→Prop,(∀ (u1:Value) w2,I2 u0 u1 w2→K ((A2.put o3.dst u0).put o4.dst u1) w2)→o4.wp P (A2.put o3.dst u0) w' K (NoPanic Q))
  (s2:∀ (u0 u1:Value) w',I2 u0 u1 w'→∀ K:Act→World→Prop,(∀ (u2:Value) w2,I3 u0 u1 u2 w2→K (((A2.put o3.dst u0).put o4.dst u1).put o5.dst u2) w2)→o5.wp P ((A2.put o3.dst u0).put o4.dst u1) w' K (NoPanic Q))
  (s3:∀ (u0 u1 u2:Value) w',I3 u0 u1 u2 w'→∀ K:Act→World→Prop,(∀ (u3:Value) w2,I4 u0 u1 u2 u3 w2→K ((((A2.put o3.dst u0).put o4.dst u1).put o5.dst u2).put o6.dst u3) w2)→o6.wp P (((A2.put o3.dst u0).put o4.dst u1).put o5.dst u2) w' K (NoPanic Q))
  (s4:∀ (u0 u1 u2 u3:Value) w',I4 u0 u1 u2 u3 w'→∀ K:Act→World→Prop,(∀ (u4:Value) w2,I5 u0 u1 u2 u3 u4 w2→K (((((A2.put o3.dst u0).put o4.dst u1).put o5.dst u2).put o6.dst u3).put o7.dst u4) w2)→o7.wp P ((((A2.put o3.dst u0).put o4.dst u1).put o5.dst u2).put o6.dst u3) w' K (NoPanic Q))
  (s5:∀ (u0 u1 u2 u3 u4:Value) w',I5 u0 u1 u2 u3 u4 w'→∀ K:Act→World→Prop,(∀ (u5:Value) w2,I6 u0 u1 u2 u3 u4 u5 w2→K ((((((A2.put o3.dst u0).put o4.dst u1).put o5.dst u2).put o6.dst u3).put o7.dst u4).put o8.dst u5) w2)→o8.wp P (((((A2.put o3.dst u0).put o4.dst u1).put o5.dst u2).put o6.dst u3).put o7.dst u4) w' K (NoPanic Q))
  (s6:∀ (u0 u1 u2 u3 u4 u5:Value) w',I6 u0 u1 u2 u3 u4 u5 w'→∀ K:Act→World→Prop,(∀ (u6:Value) w2,I7 u0 u1 u2 u3 u4 u5 u6 w2→K (((((((A2.put o3.dst u0).put o4.dst u1).put o5.dst u2).put o6.dst u3).put o7.dst u4).put o8.dst u5).put o9.dst u6) w2)→o9.wp P ((((((A2.put o3.dst u0).put o4.dst u1).put o5.dst u2).put o6.dst u3).put o7.dst u4).put o8.dst u5) w' K (NoPanic Q))
  (se:∀ (u0 u1 u2 u3 u4 u5 u6:Value) w',I7 u0 u1 u2 u3 u4 u5 u6 w'→∀ K:Act→World→Prop,(∀ w2,IE u0 u1 u2 u3 u4 u5 u6 w2→K (((((((A2.put o3.dst u0).put o4.dst u1).put o5.dst u2).put o6.dst u3).put o7.dst u4).put o8.dst u5).put o9.dst u6) w2)→o10.wp P (((((((A2.put o3.dst u0).put o4.dst u1).put o5.dst u2).put o6.dst u3).put o7.dst u4).put o8.dst u5).put o9.dst u6) w' K (NoPanic Q))
  (h:∀ (u0 u1 u2 u3 u4 u5 u6:Value) w',IE u0 u1 u2 u3 u4 u5 u6 w'→Q .normal (((((((A2.put o3.dst u0).put o4.dst u1).put o5.dst u2).put o6.dst u3).put o7.dst u4).put o8.dst u5).put o9.dst u6) w') :
  (Code.region id #[o0,o1,o2,o3,o4,o5,o6,o7,o8,o9,o10] true).wp P Q a w:=by
 subst p0 p1 p2
 obtain ⟨z0,z1,z2,z3,z4,z5,z6,z7⟩:=hIT
 refine wp_region_noPanic ?_
 refine wp_region_any hm ?_
 refine AnyL.any (S:=fun d w'=>d.getD 10 true = false→T w') _ _ _ _ ?_
 show AnyL P .any #[o0,o1,o2,o3,o4,o5,o6,o7,o8,o9,o10] (NoPanic Q) _ 11 #[false,false,false,false,false,false,false,false,false,false,false] a w.drew
 have hSi:∀ i,i≠10→∀ (d:Array Bool) (w':World),((d.setIfInBounds i true).getD 10 true = false→T w')↔(d.getD 10 true = false→T w'):=by
  intro i h4 d w'
  rw [getD_set_ne true h4]
 refine AnyL.take (i:=0) (t:=10) (oi:=o0) (ot:=o10) (T:=T) rfl rfl (by decide) hs f0 r0 e0 (fun _ _ _ h=>h) (fun d w' h9 hd=>h9 hd) (hSi 0 (by decide)) hy0 rfl (fun _=>z0 _ i0) ?_
 refine AnyL.take (i:=1) (t:=10) (oi:=o1) (ot:=o10) (T:=T) rfl rfl (by decide) hs f1 r1 e1 (fun _ _ _ h=>h) (fun d w' h9 hd=>h9 hd) (hSi 1 (by decide)) hy1 rfl (fun _=>z0 _ i0) ?_
 refine AnyL.take (i:=2) (t:=10) (oi:=o2) (ot:=o10) (T:=T) rfl rfl (by decide) hs f2 r2 e2 (fun _ _ _ h=>h) (fun d w' h9 hd=>h9 hd) (hSi 2 (by decide)) hy2 rfl (fun _=>z0 _ i0) ?_
 refine AnyL.forced q3 rfl g3 (fun K hK=>s0  w.drew i0 K (fun u0 w1 i1=>hK _ _ (fun _=>z1 u0 w1 i1) ?_))
 refine AnyL.forced q4 rfl g4 (fun K hK=>s1 u0 w1 i1 K (fun u1 w2 i2=>hK _ _ (fun _=>z2 u0 u1 w2 i2) ?_))
 refine AnyL.forced q5 rfl g5 (fun K hK=>s2 u0 u1 w2 i2 K (fun u2 w3 i3=>hK _ _ (fun _=>z3 u0 u1 u2 w3 i3) ?_))
 refine AnyL.forced q6 rfl g6 (fun K hK=>s3 u0 u1 u2 w3 i3 K (fun u3 w4 i4=>hK _ _ (fun _=>z4 u0 u1 u2 u3 w4 i4) ?_))
 refine AnyL.forced q7 rfl g7 (fun K hK=>s4 u0 u1 u2 u3 w4 i4 K (fun u4 w5 i5=>hK _ _ (fun _=>z5 u0 u1 u2 u3 u4 w5 i5) ?_))
 refine AnyL.forced q8 rfl g8 (fun K hK=>s5 u0 u1 u2 u3 u4 w5 i5 K (fun u5 w6 i6=>hK _ _ (fun _=>z6 u0 u1 u2 u3 u4 u5 w6 i6) ?_))
 refine AnyL.forced q9 rfl g9 (fun K hK=>s6 u0 u1 u2 u3 u4 u5 w6 i6 K (fun u6 w7 i7=>hK _ _ (fun _=>z7 u0 u1 u2 u3 u4 u5 u6 w7 i7) ?_))
 refine AnyL.forced q10 rfl g10 (fun K hK=>se u0 u1 u2 u3 u4 u5 u6 w7 i7 K (fun we ie=>hK _ _ (fun h9=>(by cases h9)) ?_))
 exact ⟨rr,NoPanic.normal (h u0 u1 u2 u3 u4 u5 u6 we ie)⟩
end
end
section
open Go.RowKit Go.BigFrame Go.Maps Go.Sort
theorem xb6j {w:World} {g base:Nat} (h:w.heap[g]? = some (.cells #[.int .u8 0] 5 (0,0))) (hb:base≤g):w.ownsRow base 5 1 (.slice (some ⟨g,0,none⟩) 1 1) 1 [u8 0] :=
 ⟨by simp,Or.inr ⟨g,1,#[.int .u8 0],rfl,hb,h,Nat.le_refl _,by decide,by simp,by simp [u8]⟩⟩
abbrev e56:En:=⟨1,[5],[6]⟩
theorem xb6t (k v:Nat) (w:World) (hk:k < 256) (hv:v < 256) :
  Calls Tryz.prog 27 #[.int .u8 (k:Int),.int .u8 (v:Int)] w fun e w'=>∃ ka kc va vc,e = .returned (.agg #[.int .u8 1,.slice ka 1 kc,.slice va 1 vc])∧(∀ M w2,Kept M w' w2→(∀ x∈M,x < w.heap.size∨w'.heap.size≤x)→OkE w2 ⟨1,[k],[v]⟩ (.slice ka 1 kc) (.slice va 1 vc))∧Kept [] w w':=by
 have HE:=hide (xa3v w (.cells #[.int .u8 1,.slice (some ⟨w.heap.size + 1,0,none⟩) 1 1,.slice (some ⟨w.heap.size + 1 + 1,0,none⟩) 1 1] 71) (.cells #[.int .u8 (k:Int)] 5) (.cells #[.int .u8 (v:Int)] 5))
 have HK:=hide ((((Kept.refl [] w).alloc (.cells #[.int .u8 1,.slice (some ⟨w.heap.size + 1,0,none⟩) 1 1,.slice (some ⟨w.heap.size + 1 + 1,0,none⟩) 1 1] 71)).alloc (.cells #[.int .u8 (k:Int)] 5)).alloc (.cells #[.int .u8 (v:Int)] 5))
 go_enter Tryz.func27,Tryz.ntmps27
 go_wp2_with fail
 obtain ⟨h1,h2,h3⟩:=uh HE
 refine bodyPost_ret (v:=.agg #[.int .u8 1,.slice (some ⟨w.heap.size + 1,0,none⟩) 1 1,.slice (some ⟨w.heap.size + 1 + 1,0,none⟩) 1 1]) ?_ rfl ⟨_,_,_,_,rfl,fun M w2 kM hM=>?_,uh HK⟩
 ·exact xa1m rfl _ _ w.heap.size _ #[.int .u8 1,.slice (some ⟨w.heap.size + 1,0,none⟩) 1 1,.slice (some ⟨w.heap.size + 1 + 1,0,none⟩) 1 1] (0,0) _ rfl h1 Tryz.underlying71 rfl Tryz.size_entry
 ·have hl2:=lt_of_block h2
  have hl3:=lt_of_block h3
  refine ⟨by show (1:Nat) < 256; omega,rd_row [k] (kM.heap h2 (fun hm=>?_)) rfl (by simpa using hk) 1 rfl (by omega),rd_row [v] (kM.heap h3 (fun hm=>?_)) rfl (by simpa using hv) 1 rfl (by omega)⟩
  ·rcases hM _ hm with h9 | h9 <;> omega
  ·rcases hM _ hm with h9 | h9 <;> omega
def PN (W0 w':World) (u:Value):Prop:=∃ ka kc va vc B C,u = .agg #[.int .u8 1,.slice ka 1 kc,.slice va 1 vc]∧W0.heap.size≤B∧C≤w'.heap.size∧∀ M w2,Kept M w' w2→(∀ x∈M,x < B∨C≤x)→OkE w2 e56 (.slice ka 1 kc) (.slice va 1 vc)
def RN (W0 w':World) (u:Value):Prop:=∃ h B C,u = .slice (some ⟨h,0,none⟩) 1 1∧W0.heap.size≤B∧C≤w'.heap.size∧∀ M w2,Kept M w' w2→(∀ x∈M,x < B∨C≤x)→RdN w2 u [e56]
theorem RN.old {W0 w w':World} {u:Value} (h:RN W0 w u) (k:Kept [] w w'):RN W0 w' u:=by
 obtain ⟨a,B,C,h1,h2,h3,h4⟩:=h
 have:=k.size
 exact ⟨a,B,C,h1,h2,by omega,fun M w2 kM hM=>h4 M w2 ((k.mono (M:=M) (by simp)).trans kM (fun x hx=>Or.inl hx)) hM⟩
theorem PN.row {W0 w':World} {ka kc va vc} (hW:W0.heap.size≤w'.heap.size) (h:PN W0 w' (.agg #[.int .u8 1,.slice ka 1 kc,.slice va 1 vc])):RN W0 (w'.alloc (.cells #[.int .u8 1,.slice ka 1 kc,.slice va 1 vc] 71)) (.slice (some ⟨w'.heap.size,0,none⟩) 1 1):=by
 obtain ⟨ka',kc',va',vc',B,C,h1,h2,h3,h4⟩:=h
 have e:ka' = ka∧kc' = kc∧va' = va∧vc' = vc:=by
  simp only [Value.agg.injEq,Array.mk.injEq,List.cons.injEq,Value.slice.injEq] at h1
  simp_all
 obtain ⟨rfl,rfl,rfl,rfl⟩:=e
 have kA:=(Kept.refl [] w').alloc (.cells #[.int .u8 1,.slice ka' 1 kc',.slice va' 1 vc'] 71)
 have hN:=heap_alloc_new w' (.cells #[.int .u8 1,.slice ka' 1 kc',.slice va' 1 vc'] 71)
 have hs:(w'.alloc (.cells #[.int .u8 1,.slice ka' 1 kc',.slice va' 1 vc'] 71)).heap.size = w'.heap.size + 1:=by simp
 refine ⟨w'.heap.size,min B w'.heap.size,w'.heap.size + 1,rfl,by omega,by omega,fun M w2 kM hM=>?_⟩
 have hok:=h4 M w2 ((kA.mono (M:=M) (by simp)).trans kM (fun x hx=>Or.inl hx)) (fun x hx=>by rcases hM x hx with h9 | h9 <;> omega)
 exact RdN.one (e:=e56) (kM.heap hN (fun hm=>by rcases hM _ hm with h9 | h9 <;> omega)) hok
set_option maxHeartbeats 8000000 in
theorem walTorn_walk (v:Value) (ms:List (Bool × List En)) (jv:Value) (js:List Nat) (W:World) (hmo:∃ ts:List (Bool × Value × List En),ms = ts.map (fun t=>(t.1,t.2.2))∧ms.length≤1048576∧(∀ t∈ts,t.2.2.length≤1048576)∧RdC 2 W v (ts.map o9C)∧∀ t∈ts,RdN W t.2.1 t.2.2) (hj:Rd W jv js) (hjl:js.length≤1048576) (hv:VarsS W) :
  Calls Tryz.prog 5 #[v,jv] W fun r w'=>r = .returned (.bool true)∧Below W.heap.size W w':=by
 obtain ⟨t8,hms,hml,hmt,hm1,hm2⟩:=hmo
 have HOO:=hide (OldO.start ⟨t8,hms,hm1,fun t ht=>⟨hm2 t ht,hmt t ht⟩⟩:OldO W.heap.size W v ms)
 have HYB:=hide (fun o (ho:o∈ms)=>by rw [hms] at ho; obtain ⟨t,ht,rfl⟩:=List.mem_map.1 ho; exact (hm2 t ht).byN:∀ o∈ms,byN o.2)
 have HML:=hide hml
 obtain ⟨va,vl,vc,hve,_⟩:=id hm1
 subst hve
 obtain ⟨ja,jn,jc,rfl,hjn,_⟩:=id hj
 have HJ:=hide hj
 have HJL:=hide hjl
 have HJN:=hide hjn
 have HVG:=hide (VarsG.start hv)
 have HAW:=hide (xb4q W hv)
 obtain ⟨σ1,s1,ho1,hsc1,hh1,hst1,hnx1,hph1,hdi1⟩:=xb6g
 have HO1:=hide ho1
 have HSC1:=hide hsc1
 have HH1:=hide hh1
 have HST1:=hide hst1
 have HNX1:=hide hnx1
 have HPH1:=hide hph1
 have HDI1:=hide hdi1
 clear hms hmt hm1 hm2 hml hj hjl hv ho1 hsc1 hh1 hst1 hnx1 hph1 hdi1 hjn
 go_enter Tryz.func5,Tryz.ntmps5
 go_wp2_with fail
 refine Calls.mono (uh HAW) ?_
 rintro e w1 ⟨rfl,k1⟩
 have HK1:=hide k1
 have HN:=hide (newM_D 32 w1 (by omega) (by omega))
 clear k1 HAW
 go_wp2_with fail
 refine Calls.mono (uh HN) ?_
 rintro e w2 ⟨d,B,rfl,hD,k2,hB⟩
 have hF:DKf w2 d B 0 0 0 (dH 32 0 []):=hD.toF (by show (0:Int)≤0; omega)
 have HK2:=hide ((uh HK1).trans k2 (by simp))
 have HB2:=hide (fun x (hx:x∈B)=>by have:=hB x hx; have:=(uh HK1).size; omega:∀ x∈B,W.heap.size≤x)
 have hOP:=xa3c d 0 0 0 W.heap.size 8 65536 B (dH 32 0 []) w2 hF ((uh HVG).old (uh HK2)) (uh HB2) (uh HK2).size (by omega) (by omega) (by omega) (Nat.le_trans (rdT_le _ hF.dist) (by show 0≤_; omega))
 rw [uh HO1] at hOP
 have HOP:=hide hOP
 clear hD hF k2 hB HN hOP
 go_wp2_with fail
 refine Calls.mono (uh HOP) ?_
 rintro e w3 ⟨B3,lp,bv,ts3,rfl,hR⟩
 obtain ⟨l,rfl,hl,hLK,_⟩:=hR.so s1 rfl
 obtain ⟨ba,bc,rfl⟩:=hR.ow.shape
 have HK3:=hide ((uh HK2).trans hR.ev.1 (fun x hx=>Or.inr (uh HB2 x hx)))
 have HB3:=hide (hR.ev.ge (uh HB2) (uh HK2).size)
 have HL3:=hide (Nat.le_trans (uh HK2).size hl)
 have kA:=(Kept.refl [] w3).alloc (.cells #[.slice none 0 0,.int .i64 0] 44)
 have hA:=heap_alloc_new w3 (.cells #[.slice none 0 0,.int .i64 0] 44)
 have HLK3:=hide hLK
 clear hR hLK hl HOP
 go_upto_region 8 with fail
 obtain ⟨w4,hw4⟩:∃ X,w3.alloc (.cells #[.slice none 0 0,.int .i64 0] 44) = X:=⟨_,rfl⟩
 have HZ4:=hide (by rw [← hw4]; simp:w4.heap.size = w3.heap.size + 1)
 rw [hw4] at kA hA ⊢
 have HK4:=hide ((uh HK3).trans kA (by simp))
 have hks:KS w4 w4 w3.heap.size (l :: B3) (.slice none 0 0) [] 0:=⟨hA,OwnX.none _ (Nat.le_refl _),fun hm=>by have h9:=(uh HLK3).lts _ hm; omega,by have:=uh HZ4; omega⟩
 have hSR:=xb2h l d (0 + 1) (0 + 0 + 4) (0 + 48) W.heap.size w3.heap.size 0 B3 σ1 s1 (.slice va vl vc) (.slice none 0 0) ms [] w4 w4 ((uh HLK3).old kA) ((uh HVG).old (uh HK4)) (uh HB3) (uh HL3) (uh HK4).size ((uh HOO).on (uh HK4) (by simp)) hks (uh HK3).size (Nat.le_refl _) (uh HK4).size (by have:=uh HML; omega) (by have:=uh HML; omega) (by have:=uh HML; omega) (by have:=uh HML; simp; omega)
 rw [List.map_nil] at hSR
 have hSI:=ScI.run ms (uh HSC1) (uh HYB) (by have:=uh HML; omega)
 have hSH:=scR_h ms (uh HSC1) (uh HST1) (uh HH1) (uh HYB) (by have:=uh HML; omega)
 have hSX:=scR_nx ms (uh HSC1) (uh HST1) (uh HH1) (uh HYB) (by have:=uh HML; omega)
 have hSP:=xb6x ms (c:=⟨σ1,s1,[],0⟩) (uh HDI1) (by rw [show (⟨σ1,s1,[],0⟩:ScS).s.nx = 0 from uh HNX1]; omega)
 obtain ⟨c,hc⟩:∃ c,scR ⟨σ1,s1,[],0⟩ ms = c:=⟨_,rfl⟩
 rw [hc] at hSR hSI hSH hSX hSP
 have HSR:=hide hSR
 have HSI:=hide hSI
 have HSH:=hide hSH
 have HSX:Hid (c.s.nx < 18446744073709551615):=hide (by have h9:=uh HNX1; have h8:=uh HML; dsimp only at hSX; omega)
 have HSP:Hid (phi c.σ.A≤4144 + 48240 * ms.length):=hide (by have h9:=hSP.1; have h8:=uh HPH1; dsimp only at h9; omega)
 have HTKl:Hid (c.may.length≤ms.length):=hide (by have h9:=hSP.2; simpa using h9)
 obtain ⟨kb,hkb⟩:∃ k,w3.heap.size = k:=⟨_,rfl⟩
 rw [hkb] at HSR
 have HKB:=hide (by have:=uh HZ4; omega:kb < w4.heap.size)
 have HKB2:=hide (by have:=(uh HK3).size; omega:W.heap.size≤kb)
 rw [hkb]
 clear kA hA hw4 hks hSR hSI hSH hSX hSP hc hkb HLK3 HZ4 HO1 HSC1 HH1 HST1 HNX1 HPH1 HDI1 HK1
 go_wp2_with fail
 refine Calls.mono (uh HSR) ?_
 rintro e w5 ⟨B5,mv,tk,rfl,hk5,k5,hn5,hks5,hm5⟩
 obtain ⟨ma,mc,rfl⟩:=hks5.ow.shape
 have HK5:=hide ((uh HK4).trans k5 (fun x hx=>Or.inr (by
  simp only [Value.ownBlock,Option.toList_none,List.nil_append,List.mem_cons] at hx
  rcases hx with rfl | rfl | hx
  ·exact uh HKB2
  ·exact uh HL3
  ·exact uh HB3 x hx)))
 have HB5:=hide (fun x (hx:x∈B5)=>by
  rcases hn5 x hx with h9 | h9
  ·exact uh HB3 x h9
  ·have:=(uh HK4).size; omega:∀ x∈B5,W.heap.size≤x)
 have HLK5:=hide hk5
 have HKS5:=hide hks5
 have HMY:=hide hm5
 have HTL:=hide (by have h9:=uh HTKl; rw [← hm5,List.length_map] at h9; have:=uh HML; omega:tk.length≤1048576)
 have HJ5:=hide ((uh HJ).old (uh HK5) (by simp))
 have HJB:=hide (fun x (hx:x∈zblk (.slice ja jn jc) js) hm=>by have h9:=Rd.ltZ (uh HJ) x hx; have h8:=uh HB5 x hm; omega:∀ x∈zblk (.slice ja jn jc) js,x∉B5)
 clear hk5 k5 hn5 hks5 hm5 HSR HK4 HK3 HB3
 have HJD:=hide (uh HJ5)
 by_cases hj245:js.head? = some 245
 case' pos =>
  obtain ⟨r,rfl⟩:∃ r,js = 245 :: r:=by
   cases js with
   | nil=>simp at hj245
   | cons x r=>simp at hj245; exact ⟨r,by rw [hj245]⟩
  obtain ⟨ja',jn',jc',e9,hb1,hb2,hb3,hb4,hb5,hb6⟩:=uh HJ5
  injection e9 with q1 q2 q3
  subst q1 q2 q3
  have hjp2:0 < jn:=by rw [← hb1]; simp
  have hjp:(0:Int) < (jn:Int):=by omega
  obtain ⟨b9,o9,rfl,hc9⟩:=hb6 hjp2
  have x0:=hc9 0 hjp2
  simp only [Nat.add_zero,List.getD_cons_zero,u8] at x0
  have hjc:(0:Int) < (jc:Int):=by omega
  have HOL:=hide (xb6j (heap_alloc_new w5 (.cells #[.int .u8 0] 5)) (Nat.le_refl w5.heap.size))
  have HKL:=hide ((Kept.refl [] w5).alloc (.cells #[.int .u8 0] 5))
  have HJ5b:=hide ((uh HJ5).old (uh HKL) (by simp))
  have HBy:=hide hb5
  clear hb1 hb2 hb3 hb4 hb5 hb6 hc9 hj245
  go_upto_region 11 with (at_builtin; refine xa0q rfl (.tmp 53) (.tmp 54) rfl rfl (w5.alloc (.cells #[.int .u8 0] 5)) w5.heap.size (.slice (some ⟨w5.heap.size,0,none⟩) 1 1) [0] (245 :: r) (some ⟨b9,o9,none⟩) jn jc (uh HOL) (uh HJ5b) (by have:=uh HJL; simp at this ⊢; omega) (by simp) rfl rfl ?_; intro a6 cap6 w6 HO6 HG6 HA6; obtain ⟨zn,hzn⟩:∃ n,[0].length + (245 :: r).length = n:=⟨_,rfl⟩; rw [hzn] at HO6 HA6 ⊢; (have HZN:=hide hzn); clear hzn)
  obtain ⟨z,hz⟩:∃ z,0 :: 245 :: r = z:=⟨_,rfl⟩
  have HZH:=hide (by rw [← hz]; simp:z.head?≠some 245)
  have HZL:=hide (by rw [← hz]; have:=uh HJL; simp at this ⊢; omega:z.length≤1048577)
  have ho6:w6.ownsRow w5.heap.size 5 1 (.slice a6 zn cap6) z.length (z.map u8):=by rw [← hz]; exact uh HO6
  have HZR:=hide (xa6h ho6 (by rw [← hz]; intro x hx; rcases List.mem_cons.1 hx with rfl | hx; omega; exact uh HBy x hx) (by have:=uh HZL; omega))
  have HZB:=hide (fun x (hx:x∈zblk (.slice a6 zn cap6) z) hm=>by
   have h9:x∈blk (.slice a6 zn cap6):=by unfold zblk at hx; split at hx <;> first | exact hx | simp at hx
   have h8:=(ho6.lt x (xa5m ho6 h9)).1
   have h7:=(uh HLK5).dk.lt x hm
   omega:∀ x∈zblk (.slice a6 zn cap6) z,x∉B5)
  have HK56:=hide ((uh HKL).trans ((Kept.refl [w5.heap.size] _).grown (uh HG6) (by intro k hk; left; simp [Value.ownBlock] at hk; simp [hk])) (fun x hx=>Or.inr (by rw [List.mem_singleton.1 hx]; exact Nat.le_refl _)))
  clear ho6 hz HZN HO6 HG6 HA6 HOL HKL HJ5b HBy x0 hjp hjp2 hjc
 case' neg =>
  by_cases hj0:js = []
  case' pos =>
   have hjn0:jn = 0:=by rw [← uh HJN,hj0]; rfl
   subst hjn0
   go_upto_region 11 with fail
   clear hj0
   obtain ⟨w6,hw6⟩:∃ x,x = w5:=⟨_,rfl⟩
   have HK56:=hide (by rw [hw6]; exact Kept.refl [] w5:Kept [] w5 w6)
   rw [← hw6]
  case' neg =>
   obtain ⟨ja',jn',jc',e9,hb1,hb2,hb3,hb4,hb5,hb6⟩:=uh HJ5
   injection e9 with q1 q2 q3
   subst q1 q2 q3
   have hjp2:0 < jn:=by rw [← hb1]; exact List.length_pos_iff.2 hj0
   have hjp:(0:Int) < (jn:Int):=by omega
   obtain ⟨b9,o9,rfl,hc9⟩:=hb6 hjp2
   have x0:=hc9 0 hjp2
   obtain ⟨y0,hy0,hy1⟩:∃ y,js.getD 0 0 = y∧y≠245:=by
    cases js with
    | nil=>exact absurd rfl hj0
    | cons x r=>exact ⟨x,rfl,fun e=>hj245 (by rw [e]; rfl)⟩
   rw [hy0] at x0
   simp only [Nat.add_zero,u8] at x0
   have hjc:(0:Int) < (jc:Int):=by omega
   have hne:((y0:Int) == 245) = false:=by rw [beq_eq_false_iff_ne]; omega
   clear hb1 hb2 hb3 hb4 hb5 hb6 hc9 hy0
   go_upto_region 11 with fail
   clear hj0 hy1 hne hjc hjp hjp2 x0
   obtain ⟨w6,hw6⟩:∃ x,x = w5:=⟨_,rfl⟩
   have HK56:=hide (by rw [hw6]; exact Kept.refl [] w5:Kept [] w5 w6)
   rw [← hw6]
  all_goals
   have HZH:=hide hj245
   have HZL:=hide (by have:=uh HJL; omega:js.length≤1048577)
   have HZR:=hide ((uh HJ5).old (uh HK56) (by simp))
   have HZB:=hide (uh HJB)
   clear hw6
 all_goals
  have HLK6:=hide ((uh HLK5).old (uh HK56))
  have HK6:=hide ((uh HK5).trans (uh HK56) (by simp))
  have HKS6:=hide (⟨(uh HK56).heap (uh HKS5).row (by simp),(uh HKS5).ow.pass (uh HK56) (by simp),(uh HKS5).kx,(uh HKS5).kl⟩:KS w4 w6 kb (l :: B5) (.slice ma tk.length mc) tk c.must)
  have HS46:=hide (by have h9:=(uh HKS6).ow.sz; omega:w4.heap.size≤w6.heap.size)
  have HN6:=hide (xa5u l d c.s w6 (uh HLK6).row)
  have HM6:=hide (xa5a c.s.num w6 (uh HLK6).num ((uh HVG).old (uh HK6)).now)
  have HDc:=hide ((uh HLK6).dk.dist)
  obtain ⟨σ3,σ4,σ5,σ6,s4,s5,s6,t1,t2,t3,t4,t5,t6,t7,t9⟩:=xb5j (P:=4144 + 48240 * ms.length) (uh HSI) (uh HSH).2 (uh HSH).1 (by have:=uh HML; omega) (uh HSX) (uh HDc) (uh HSP) (uh HZH)
  have HT1:=hide t1
  have HT2:=hide t2
  have HT3:=hide t3
  have HT4:=hide t4
  have HT5:=hide t5
  have HT6:=hide t6
  have HT7:=hide t7
  have HT9:=hide t9
  clear t1 t2 t3 t4 t5 t6 t7 t9
  go_wp2_with fail
  refine Calls.mono (uh HN6) ?_
  rintro e v8 ⟨rfl,h8⟩
  rw [h8]
  clear h8 v8 HN6
  go_wp2_with fail
  refine Calls.mono (uh HM6) ?_
  rintro e w7 ⟨rfl,k7⟩
  have hAP:=xa7f d _ _ _ B5 c.σ (strB (nmL c.s.num)) _ _ w7 ((uh HLK6).dk.old k7) (by rw [xa0n,xb2m]; omega) (by have:=uh HML; omega) (by have:=uh HML; omega) ((uh HZR).old k7 (by simp)) (uh HZB) (by have:=uh HML; have:=uh HZL; omega)
  have hT1:=uh HT1
  unfold nmB at hT1
  rw [hT1] at hAP
  have HAP:=hide hAP
  have HK7:=hide ((uh HK6).trans k7 (by simp))
  have HK67:=hide k7
  clear hAP hT1 k7 HM6 HZR HZB
  go_wp2_with fail
  refine Calls.mono (uh HAP) ?_
  rintro e w8 ⟨B8,rfl,hd8,ev8⟩
  have HB8:=hide (ev8.ge (uh HB5) (uh HK7).size)
  have HK8:=hide ((uh HK7).trans ev8.1 (fun x hx=>Or.inr (uh HB5 x hx)))
  have HKB8:=hide (((uh HK67).mono (M:=B5) (by simp)).trans ev8.1 (fun x hx=>Or.inl hx))
  have HN8:=hide (fun x (hx:x∈B8)=>(ev8.2 x hx).imp id (fun h9=>by have:=(uh HK67).size; omega):∀ x∈B8,x∈B5∨w6.heap.size≤x)
  have hOP:=xa3c d _ _ _ W.heap.size 8 65536 B8 σ3 w8 hd8 ((uh HVG).old (uh HK8)) (uh HB8) (uh HK8).size (by have:=uh HML; omega) (by have:=uh HML; omega) (by have:=uh HML; have:=uh HZL; omega) (Nat.le_trans (rdT_le _ hd8.dist) (Nat.le_trans (xb1z _) (by have:=uh HML; have:=uh HZL; have:=uh HT5; omega)))
  rw [uh HT2] at hOP
  have HOP:=hide hOP
  clear hd8 ev8 hOP HAP
  go_wp2_with fail
  refine Calls.mono (uh HOP) ?_
  rintro e w9 ⟨B9,lp9,av,ts9,rfl,hR9⟩
  obtain ⟨m,rfl,hm9,hLK9,hOX9⟩:=hR9.so s4 rfl
  obtain ⟨aa,ac,rfl⟩:=hR9.ow.shape
  have hb9:c.may = ts9.map (fun t=>(t.1,t.2.2)):=hR9.bs
  have HB9:=hide (hR9.ev.ge (uh HB8) (uh HK8).size)
  have HK9:=hide ((uh HK8).trans hR9.ev.1 (fun x hx=>Or.inr (uh HB8 x hx)))
  have HKB9:=hide ((uh HKB8).trans hR9.ev.1 (fun x hx=>uh HN8 x hx))
  have HN9:=hide (fun x (hx:x∈B9)=>by
   rcases hR9.ev.2 x hx with h9 | h9
   ·exact uh HN8 x h9
   ·have:=(uh HKB8).size; exact Or.inr (by omega):∀ x∈B9,x∈B5∨w6.heap.size≤x)
  have HM9:=hide (by have:=(uh HKB8).size; omega:w6.heap.size≤m)
  have HMW:=hide (by have:=(uh HK8).size; omega:W.heap.size≤m)
  have HLK9:=hide hLK9
  have hkn:kb∉B5:=fun hm=>(uh HKS6).kx (List.mem_cons_of_mem _ hm)
  have HKN:=hide hkn
  have hr9:=(uh HKB9).heap (uh HKS6).row hkn
  have hok9:=((uh HKS6).ow.sub (Y:=B5) (fun x hx=>List.mem_cons_of_mem _ hx)).mv (Y:=[]) (uh HKB9) (by simp)
  have HBQ:Hid (Calls Tryz.prog 21 #[.slice aa ts9.length ac,.slice ma tk.length mc] w9 fun e w'=>e = .returned (.bool true)∧Kept [] w9 w'):=hide (by
   have h9:=xa3k (.slice aa ts9.length ac) (.slice ma tk.length mc) _ _ w9 hOX9.toB.rdB hok9.toB.rdB
   rw [← hb9,uh HMY,decide_eq_true rfl] at h9
   exact h9)
  obtain ⟨d0,d1⟩:=bcells2 hr9
  clear hm9 hLK9 hOX9 hR9 hb9 hkn hr9 hok9 HOP
  go_wp2_with fail
  refine Calls.mono (uh HBQ) ?_
  rintro e w10 ⟨rfl,k10⟩
  have HK10:=hide k10
  have HP:=hide (xa7o 5 6 w10 (by omega) (by omega))
  clear k10 HBQ d0 d1
  go_wp2_with fail
  refine Calls.mono (uh HP) ?_
  rintro e w11 ⟨ka,kc,va',vc',rfl,ok11,k11⟩
  have hN12:=heap_alloc_new w11 (.cells #[.int .u8 1,.slice ka 1 kc,.slice va' 1 vc'] 71)
  have kA12:=(Kept.refl [] w11).alloc (.cells #[.int .u8 1,.slice ka 1 kc,.slice va' 1 vc'] 71)
  have hrn:=RdN.one (e:=e56) hN12 (ok11.old kA12)
  have hK12:=((uh HK10).trans k11 (by simp)).trans kA12 (by simp)
  have hAP:=xa1o m d _ _ _ W.heap.size B9 σ4 s4 _ [e56] _ ((uh HLK9).old hK12) ((uh HVG).old ((uh HK9).trans hK12 (by simp))) (uh HB9) (uh HMW) (by have:=hK12.size; have:=(uh HK9).size; omega) hrn (by have:=uh HML; omega) (by have:=uh HML; omega) (by have:=uh HML; have:=uh HZL; omega)
  rw [uh HT3] at hAP
  have HAP:=hide hAP
  have HK12:=hide hK12
  clear hN12 kA12 hrn ok11 k11 hAP hK12 HP HK10
  go_wp2_with fail
  refine Calls.mono (uh HAP) ?_
  rintro e w13 ⟨B13,rfl,hLK13,ev13⟩
  have HB13:=hide (fun x (hx:x∈B13)=>by
   rcases ev13.2 x hx with h9 | h9
   ·exact uh HB9 x h9
   ·have:=(uh HK12).size; have:=(uh HK9).size; omega:∀ x∈B13,W.heap.size≤x)
  have HK13:=hide (((uh HK9).trans (uh HK12) (by simp)).trans ev13.1 (fun x hx=>Or.inr (by
   rcases List.mem_cons.1 hx with rfl | hx
   ·exact uh HMW
   ·exact uh HB9 x hx)))
  have HKB13:=hide (((uh HKB9).trans (uh HK12) (by simp)).trans ev13.1 (fun x hx=>by
   rcases List.mem_cons.1 hx with rfl | hx
   ·exact Or.inr (uh HM9)
   ·exact uh HN9 x hx))
  have HN13:=hide (fun x (hx:x∈B13)=>by
   rcases ev13.2 x hx with h9 | h9
   ·exact uh HN9 x h9
   ·have:=(uh HKB9).size; have:=(uh HK12).size; exact Or.inr (by omega):∀ x∈B13,x∈B5∨w6.heap.size≤x)
  have hOP:=xa3c d _ _ _ W.heap.size 8 65536 B13 σ5 w13 hLK13.dk ((uh HVG).old (uh HK13)) (uh HB13) (uh HK13).size (by have:=uh HML; omega) (by have:=uh HML; omega) (by have:=uh HML; have:=uh HZL; omega) (Nat.le_trans (rdT_le _ hLK13.dk.dist) (Nat.le_trans (xb1z _) (by have:=uh HML; have:=uh HZL; have:=uh HT6; omega)))
  rw [uh HT4] at hOP
  have HOP:=hide hOP
  clear hLK13 ev13 hOP HAP
  go_wp2_with fail
  refine Calls.mono (uh HOP) ?_
  rintro e w14 ⟨B14,lp,bv,ts14,rfl,hR14⟩
  obtain ⟨m2,rfl,_⟩:=hR14.so s6 rfl
  have hb14:c.may++[(c.s.nx,[e56])] = ts14.map (fun t=>(t.1,t.2.2)):=hR14.bs
  have HB14:=hide hb14
  have HK14:=hide ((uh HK13).trans hR14.ev.1 (fun x hx=>Or.inr (uh HB13 x hx)))
  have hkb14:=(uh HKB13).trans hR14.ev.1 (fun x hx=>uh HN13 x hx)
  have HR14:=hide (hkb14.heap (uh HKS6).row (uh HKN))
  have HL14:=hide (hkb14.heap (uh HLK6).row (uh HLK6).nl)
  have HO14:=hide (((uh HKS6).ow.sub (Y:=B5) (fun x hx=>List.mem_cons_of_mem _ hx)).mv (Y:=[]) hkb14 (by simp))
  have HOB:=hide hR14.ow
  have HS614:=hide (hkb14.size)
  have HS613:=hide (uh HKB13).size
  obtain ⟨ba',bc',rfl⟩:=hR14.ow.shape
  have HOWN:=hide (fun b (hb:b∈(Value.slice ma tk.length mc).ownBlock.toList)=>(uh HKS6).ow.own.lt b (by simpa using hb):∀ b∈(Value.slice ma tk.length mc).ownBlock.toList,w4.heap.size≤b∧b < w6.heap.size)
  have HKBX:=hide (fun hm=>by have h9:=uh HOWN kb hm; have:=uh HKB; omega:kb∉(Value.slice ma tk.length mc).ownBlock.toList)
  obtain ⟨d0,d1⟩:=bcells2 (uh HR14)
  clear hb14 hkb14 hR14 HOP
  go_upto_region 17 with fail
  refine xc0k (by kernel_rfl) (by kernel_rfl) (by kernel_rfl) (by kernel_rfl) (by kernel_rfl) (by kernel_rfl) (by kernel_rfl) (by kernel_rfl) (by kernel_rfl) (by kernel_rfl) (by kernel_rfl) (by kernel_rfl) rfl (by kernel_rfl) rfl (by kernel_rfl) rfl (by kernel_rfl) rfl (by kernel_rfl) rfl (by kernel_rfl) rfl (by kernel_rfl) rfl (by kernel_rfl) rfl (by kernel_rfl)
   (.pointer (some ⟨kb,0,none⟩)) (.slice ma tk.length mc) (.pointer (some ⟨l,0,none⟩)) _ _ _
   (fun w'=>Kept (Value.slice ma tk.length mc).ownBlock.toList w14 w')
   (fun w'=>Kept [] w14 w')
   (fun u0 w'=>u0 = .int .u64 (c.s.nx:Int)∧Kept [] w14 w')
   (fun u0 u1 w'=>u0 = .int .u64 (c.s.nx:Int)∧PN w14 w' u1∧Kept [] w14 w')
   (fun u0 u1 u2 w'=>u0 = .int .u64 (c.s.nx:Int)∧RN w14 w' u2∧Kept [] w14 w')
   (fun u0 u1 u2 u3 w'=>u3 = .agg #[.int .u64 (c.s.nx:Int),u2]∧RN w14 w' u2∧Kept [] w14 w')
   (fun u0 u1 u2 u3 u4 w'=>(∃ h,u4 = .slice (some ⟨h,0,none⟩) 1 1∧w'.heap[h]? = some (.cells #[.int .u64 (c.s.nx:Int),u2] 75 (0,0)))∧RN w14 w' u2∧Kept [] w14 w')
   (fun u0 u1 u2 u3 u4 u5 w'=>(∃ a cap,u5 = .slice a (tk.length + 1) cap)∧OwnX [] w4 w' u5 (tk++[(c.s.nx,u2,[e56])])∧Kept (Value.slice ma tk.length mc).ownBlock.toList w14 w')
   (fun u0 u1 u2 u3 u4 u5 u6 w'=>u6 = .pointer (some ⟨kb,0,none⟩)∧(∃ a cap,u5 = .slice a (tk.length + 1) cap)∧OwnX [] w4 w' u5 (tk++[(c.s.nx,u2,[e56])])∧Kept (Value.slice ma tk.length mc).ownBlock.toList w14 w')
   (fun u0 u1 u2 u3 u4 u5 u6 w'=>∃ a cap,w'.heap[kb]? = some (.cells #[.slice a (tk.length + 1) cap,.int .i64 (c.must:Int)] 44 (0,0))∧OwnX [] w4 w' (.slice a (tk.length + 1) cap) (tk++[(c.s.nx,u2,[e56])])∧Kept (kb :: (Value.slice ma tk.length mc).ownBlock.toList) w14 w')
   (by simp only [Act.put,sa1,sa2,sa3]; rfl) (by exact Or.inl ⟨by rfl,fun W' hW'=>by go_simp⟩)
   (by simp only [Act.put,sa1,sa2,sa3]; rfl) (by exact Or.inl ⟨by rfl,fun W' hW'=>by have h90:=hW'.cell d0 (uh HKBX); go_simp⟩)
   (by simp only [Act.put,sa1,sa2,sa3]; rfl) (by exact Or.inl ⟨by rfl,fun W' hW'=>by go_simp⟩)
   (Kept.refl [] w14).drew
   ⟨fun w' h=>h.mono (by simp),fun u0 w' h=>h.2.mono (by simp),fun u0 u1 w' h=>h.2.2.mono (by simp),fun u0 u1 u2 w' h=>h.2.2.mono (by simp),fun u0 u1 u2 u3 w' h=>h.2.2.mono (by simp),fun u0 u1 u2 u3 u4 w' h=>h.2.2.mono (by simp),fun u0 u1 u2 u3 u4 u5 w' h=>h.2.2,fun u0 u1 u2 u3 u4 u5 u6 w' h=>h.2.2.2⟩
   (by
    intro w' k K hK
    simp only [Act.put,sa1,sa2,sa3] at hK ⊢
    refine xa0f rfl Tryz.call20 [.pointer (some ⟨l,0,none⟩)] rfl (xa2t l d c.s w' (k.heap (uh HL14) (by simp))) ?_
    rintro e w3 ⟨rfl,rfl⟩
    exact ⟨_,rfl,hK _ _ ⟨rfl,k⟩⟩)
   (by
    intro u0 w' hI K hK
    simp only [Act.put,sa1,sa2,sa3] at hK ⊢
    obtain ⟨rfl,k⟩:=hI
    refine xa0f rfl Tryz.call27 [.int .u8 ((5:Nat):Int),.int .u8 ((6:Nat):Int)] rfl (xb6t 5 6 w' (by omega) (by omega)) ?_
    rintro e w3 ⟨ka,kc,va',vc',rfl,ho,k3⟩
    exact ⟨_,rfl,hK _ _ ⟨rfl,⟨ka,kc,va',vc',w'.heap.size,w3.heap.size,rfl,k.size,Nat.le_refl _,ho⟩,k.trans k3 (by simp)⟩⟩)
   (by
    intro u0 u1 w' hI K hK
    simp only [Act.put,sa1,sa2,sa3] at hK ⊢
    obtain ⟨rfl,hP,k⟩:=hI
    obtain ⟨ka,kc,va',vc',B',C',rfl,_⟩:=id hP
    have hK2:=hK _ _ ⟨rfl,PN.row k.size hP,k.alloc _⟩
    clear hK hP k
    unfold Oper.wp execOp
    go_simp
    exact hK2)
   (by
    intro u0 u1 u2 w' hI K hK
    simp only [Act.put,sa1,sa2,sa3] at hK ⊢
    obtain ⟨rfl,hP,k⟩:=hI
    have hK2:=hK _ _ ⟨rfl,hP,k⟩
    obtain ⟨h,B',C',rfl,_⟩:=id hP
    clear hK hP k
    unfold Oper.wp execOp
    go_simp
    exact hK2)
   (by
    intro u0 u1 u2 u3 w' hI K hK
    simp only [Act.put,sa1,sa2,sa3] at hK ⊢
    obtain ⟨rfl,hP,k⟩:=hI
    obtain ⟨h,B',C',rfl,_⟩:=id hP
    have hK2:=hK _ _ ⟨⟨w'.heap.size,rfl,heap_alloc_new w' (.cells #[.int .u64 (c.s.nx:Int),.slice (some ⟨h,0,none⟩) 1 1] 75)⟩,hP.old ((Kept.refl [] w').alloc _),k.alloc _⟩
    clear hK hP k
    unfold Oper.wp execOp
    go_simp
    exact hK2)
   (by
    intro u0 u1 u2 u3 u4 w' hI K hK
    simp only [Act.put,sa1,sa2,sa3] at hK ⊢
    obtain ⟨⟨hh,rfl,hr0⟩,hP,k⟩:=hI
    obtain ⟨h,B',C',rfl,b1,b2,b3⟩:=id hP
    have hS7:=(uh HO14).pass k (by simp)
    have hrc:RdC 2 w' (.slice (some ⟨hh,0,none⟩) 1 1) [[.int .u64 (c.s.nx:Int),.slice (some ⟨h,0,none⟩) 1 1]]:=xb4t hr0
    obtain ⟨a8,cap8,w8,hrun,h8,hg8,ha8⟩:=appendC w' w4.heap.size 42 75 (.agg #[.int .u64 0,.slice none 0 0]) 2 32 Tryz.underlying42 Tryz.infoBt rfl (by decide) (.slice ma tk.length mc) tk.length (cellsB tk) hS7.own (some ⟨hh,0,none⟩) 1 1 [[.int .u64 (c.s.nx:Int),.slice (some ⟨h,0,none⟩) 1 1]] hrc (by simp) (by simp [Value.oneCell']) (by have:=uh HTL; omega) (by have:=uh HTL; omega) hS7.sz
    have hpush:=hS7.push (t:=(c.s.nx,.slice (some ⟨h,0,none⟩) 1 1,[e56])) ⟨B',C',b2,by have:=uh HS46; have:=uh HS614; omega,fun b hb=>Or.inl (by have h9:=uh HOWN b (by simp [hb]); have:=uh HS614; omega),by simp,b3⟩ (by simp) h8 hg8 ha8
    have hK2:=hK _ _ ⟨⟨a8,cap8,rfl⟩,hpush,(k.mono (by simp)).grown hg8 (by intro k hk; left; simp [hk])⟩
    clear hK
    exact xa8f 42 (.tmp 96) (.tmp 102) rfl rfl (.slice ma tk.length mc) (.slice (some ⟨hh,0,none⟩) 1 1) rfl rfl _ _ hrun hK2)
   (by
    intro u0 u1 u2 u3 u4 u5 w' hI K hK
    simp only [Act.put,sa1,sa2,sa3] at hK ⊢
    obtain ⟨⟨a8,cap8,rfl⟩,hP,k⟩:=hI
    have hK2:=hK _ _ ⟨rfl,⟨a8,cap8,rfl⟩,hP,k⟩
    clear hK hP k
    unfold Oper.wp execOp
    go_simp
    exact hK2)
   (by
    intro u0 u1 u2 u3 u4 u5 u6 w' hI K hK
    simp only [Act.put,sa1,sa2,sa3] at hK ⊢
    obtain ⟨rfl,⟨a8,cap8,rfl⟩,hP,k⟩:=hI
    have hr9:=k.heap (uh HR14) (uh HKBX)
    obtain ⟨hw9,_⟩:=bcells2 hr9
    obtain ⟨hz9,_⟩:=froz2 hr9
    have kS:=(Kept.refl [kb] w').setCell (p:=⟨kb,0,none⟩) (.inl (by simp)) (.slice a8 (tk.length + 1) cap8)
    have hK2:=hK (w'.setCell ⟨kb,0,none⟩ (.slice a8 (tk.length + 1) cap8)) ⟨a8,cap8,by rw [heap_setCell_same _ kb 0 _ _ _ hr9]; rfl,hP.pass kS (fun x hx=>Or.inl (by rw [List.mem_singleton.1 hx]; exact uh HKB)),(k.mono (M:=kb :: (Value.slice ma tk.length mc).ownBlock.toList) (fun x hx=>by simp [hx])).trans kS (fun x hx=>Or.inl (by simp at hx; simp [hx]))⟩
    clear hK hP k kS
    unfold Oper.wp execOp
    go_simp
    exact hK2)
   ?_
  rintro u0 u1 u2 u3 u4 u5 u6 w15 ⟨a8,cap8,hr15,ho15,k15⟩
  simp only [Act.put,sa1,sa2,sa3]
  have hLs:∀ x∈kb :: (Value.slice ma tk.length mc).ownBlock.toList,x < w6.heap.size∧W.heap.size≤x:=fun x hx=>by
   rcases List.mem_cons.1 hx with rfl | hx
   ·exact ⟨by have:=uh HKB; have:=uh HS46; omega,uh HKB2⟩
   ·have h9:=uh HOWN x hx; exact ⟨h9.2,by have:=uh HKB; have:=uh HKB2; omega⟩
  have HBQ2:Hid (Calls Tryz.prog 21 #[.slice ba' ts14.length bc',.slice a8 (tk.length + 1) cap8] w15 fun e w'=>e = .returned (.bool true)∧Kept [] w15 w'):=hide (by
   have h9:=xa3k (.slice ba' ts14.length bc') (.slice a8 (tk.length + 1) cap8) _ _ w15 ((uh HOB).pass k15 (fun x hx=>Or.inl (by have:=(hLs x hx).1; have:=uh HS613; omega))).toB.rdB ho15.toB.rdB
   rw [← uh HB14,List.map_append,uh HMY,List.map_cons,List.map_nil,decide_eq_true rfl] at h9
   exact h9)
  have HK15:=hide ((uh HK14).trans k15 (fun x hx=>Or.inr (hLs x hx).2))
  obtain ⟨d0',d1'⟩:=bcells2 hr15
  clear hr15 ho15 k15 hLs d0 d1
  go_wp2_with fail
  refine Calls.mono (uh HBQ2) ?_
  rintro e w16 ⟨rfl,k16⟩
  have HK16:=hide ((uh HK15).trans k16 (by simp))
  clear k16 HBQ2
  go_wp2_with fail
  go_ret
  exact ⟨rfl,(uh HK16).below (Nat.le_refl _) (by simp)⟩
end
section
open Go.ChangeShapes Go.WideShapes Go.ChangeAt Go.RowKit Go.Deep
section
variable {H:Type} {enc:TypeId × Value→H} {W:World}
theorem xb0g {d:DataW H} {l:List (DataW H)} (h:d∈l):Rows.uptoBulk d≤Rows.uptoBulkAll l:=by
 induction l with
 | nil=>simp at h
 | cons a l ih =>
  simp only [Rows.uptoBulkAll]
  rcases List.mem_cons.1 h with rfl | h
  ·omega
  ·have:=ih h; omega
theorem xb3r (D:Nat→DataW H) (l:List Nat) (h:∀ i∈l,1≤Rows.uptoBulk (D i)):l.length≤Rows.uptoBulkAll (l.map D):=by
 induction l with
 | nil=>simp
 | cons a l ih =>
  have h1:=h a (by simp)
  have h2:=ih (fun i hi=>h i (by simp [hi]))
  simp only [List.map_cons,Rows.uptoBulkAll,List.length_cons]
  omega
theorem xb2e (cs:List Value) (a n:Nat):cs.drop a = (cs.drop a).take n++cs.drop (a + n):=by
 rw [← List.drop_drop,List.take_append_drop]
theorem xb1p {fuel:Nat} {cs:List Value} {x:DataW H × List MemPlace} (h:DataW.trod enc Tryz.prog W 0 (fun _=>true) true fuel 71 cs = some x) (hB:Rows.uptoBulk x.1≤1048576) :
  ∃ (e:En) (kv vv:Value),cs = (enC e kv vv).toList∧OkE W e kv vv∧e.key.length + e.val.length + 2≤Rows.uptoBulk x.1:=by
 obtain ⟨xs,n,_,rfl,hl,hlen,hf⟩:=DataW.trod_struct Tryz.underlying71 h
 rw [show Tryz.prog.cellsOf 71 = 3 from by kernel_rfl] at hl
 match xs,hlen with
 | [y0,y1,y2],_ =>
  have ci:Tryz.prog.cellsOf 5 = 1:=by kernel_rfl
  have cb:Tryz.prog.cellsOf 49 = 1:=by kernel_rfl
  have f0:DataW.trod enc Tryz.prog W 0 (fun _=>true) true n 5 ((cs.drop 0).take 1) = some y0:=by rw [← ci]; exact hf 0 _ rfl
  have f1:DataW.trod enc Tryz.prog W 0 (fun _=>true) true n 49 ((cs.drop 1).take 1) = some y1:=by have this:DataW.trod enc Tryz.prog W 0 (fun _=>true) true n 49 ((cs.drop 1).take (Tryz.prog.cellsOf 49)) = some y1:=hf 1 _ rfl; rw [cb] at this; exact this
  have f2:DataW.trod enc Tryz.prog W 0 (fun _=>true) true n 49 ((cs.drop 2).take 1) = some y2:=by have this:DataW.trod enc Tryz.prog W 0 (fun _=>true) true n 49 ((cs.drop 2).take (Tryz.prog.cellsOf 49)) = some y2:=hf 2 _ rfl; rw [cb] at this; exact this
  simp only [List.map_cons,List.map_nil,Rows.uptoBulk,Rows.uptoBulkAll] at hB ⊢
  obtain ⟨k,e0,_,w0⟩:=DataW.trod_int Tryz.underlying5 f0
  obtain ⟨kv,key,e1,hr1,hb1⟩:=xa3r f1
  obtain ⟨vv,val,e2,hr2,hb2⟩:=xa3r f2
  have g1:=xa3u hb1
  have g2:=xa3u hb2
  have hk:=xa3d w0
  refine ⟨⟨k.toNat,key,val⟩,kv,vv,?_,⟨by show k.toNat < 256; omega,hr1 (by omega),hr2 (by omega)⟩,by show key.length + val.length + 2≤_; omega⟩
  have hd:cs.drop 3 = []:=List.drop_eq_nil_of_le (by omega)
  have this:=xb2e cs 0 1
  rw [e0,xb2e cs 1 1,e1,xb2e cs 2 1,e2,hd,List.drop_zero] at this
  rw [this]
  simp [enC,Int.toNat_of_nonneg hk.1]
instance:Inhabited En:=⟨⟨0,[],[]⟩⟩
theorem xa6z {fuel:Nat} {cs:List Value} {x:DataW H × List MemPlace} (h:DataW.trod enc Tryz.prog W 0 (fun _=>true) true fuel 73 cs = some x) (hB:Rows.uptoBulk x.1≤1048576) :
  ∃ v es,cs = [v]∧RdN W v es∧es.length≤1048576:=by
 rcases open_slice Tryz.underlying73 h with ⟨rfl,rfl⟩ | ⟨a,len,cap,m,n,D,Pl,rfl,_,hl,hm,hmm,rfl,hx⟩
 ·exact ⟨_,[],rfl,RdN.nil W,by simp⟩
 ·have hC:Tryz.prog.cellsOf 71 = 3:=by kernel_rfl
  rw [hC] at hx
  simp only [if_true] at hmm
  simp only [Rows.uptoBulk] at hB
  obtain ⟨f,hf⟩:=choose_lt (α:=En × Value × Value) (n:=len) (p:=fun i o=>((∀ j v,(enC o.1 o.2.1 o.2.2).toList[j]? = some v→W.cell? ((a.add (i * 3)).add j) = some v)∧OkE W o.1 o.2.1 o.2.2)∧1≤Rows.uptoBulk (D i)) (by
   intro i hi
   obtain ⟨cs',h1,h2⟩:=hx i (by omega)
   have hDi:Rows.uptoBulk (D i)≤Rows.uptoBulkAll ((List.range len).map D):=xb0g (List.mem_map.2 ⟨i,List.mem_range.2 hi,rfl⟩)
   obtain ⟨o,kv,vv,rfl,ho,hbb⟩:=xb1p h2 (by simp only; omega)
   obtain ⟨_,hlen,hc⟩:=World.cells?_some h1
   refine ⟨(o,kv,vv),⟨fun j v hv=>?_,ho⟩,by simp only at hbb; omega⟩
   have hj:=(List.getElem?_eq_some_iff.1 hv).1
   have:=hc j hj
   rw [this,← hv,List.getElem?_eq_getElem hj])
  refine ⟨_,(List.range len).map fun i=>(f i).1,rfl,⟨some a,len,cap,fun i=>(f i).2.1,fun i=>(f i).2.2,rfl,by simp,hl,by unfold maxLen at hm; omega,?_,?_⟩,?_⟩
  ·intro i hi
   have hi':i < len:=by simpa using hi
   have:=(hf i hi').1.2
   simpa using this
  ·intro hp
   obtain ⟨b,off,spot⟩:=a
   have h0:=(hf 0 hp).1
   have hc0:=h0.1 0 _ rfl
   have hspot:spot = none:=by simpa [Addr.add] using World.cell?_spot hc0
   subst hspot
   refine ⟨b,off,rfl,fun i hi j v hv=>?_⟩
   have hi':i < len:=by simpa using hi
   have e9:((List.range len).map fun i=>(f i).1)[i] = (f i).1:=by simp
   rw [e9] at hv
   have:=(hf i hi').1.1 j v hv
   rw [Addr.add_mid,Addr.add_mid] at this
   exact this
  ·have:=xb3r D (List.range len) (fun i hi=>(hf i (List.mem_range.1 hi)).2)
   simp only [List.length_map,List.length_range] at this ⊢
   omega
end
def OkO9 (W:World) (t:Bool × Value × List En):Prop:=RdN W t.2.1 t.2.2∧t.2.2.length≤1048576
instance:Inhabited Lf:=⟨⟨undef,0,undef,false,0,undef,[],[],[]⟩⟩
instance:Inhabited (Bool × Value × List En):=⟨(false,undef,[])⟩
theorem xb9b {α:Type} (l:List α):(l.map fun _=>1).sum = l.length:=by
 induction l with
 | nil=>rfl
 | cons a r ih=>simp only [List.map_cons,List.sum_cons,List.length_cons,ih]; omega
section
variable {H:Type} {enc:TypeId × Value→H} {W:World}
theorem xb8a {fuel:Nat} {cs:List Value} {x:DataW H × List MemPlace} (h:DataW.trod enc Tryz.prog W 0 (fun _=>true) true fuel 100 cs = some x) (hB:Rows.uptoBulk x.1≤1048576) :
  ∃ t:Bool × Value × List En,cs = o9C t∧OkO9 W t∧1≤Rows.uptoBulk x.1:=by
 obtain ⟨xs,n,_,rfl,hl,hlen,hf⟩:=DataW.trod_struct Tryz.underlying100 h
 rw [show Tryz.prog.cellsOf 100 = 2 from by kernel_rfl] at hl
 match xs,hlen with
 | [y0,y1],_ =>
  have f0:DataW.trod enc Tryz.prog W 0 (fun _=>true) true n 4 ((cs.drop 0).take 1) = some y0:=by have this:DataW.trod enc Tryz.prog W 0 (fun _=>true) true n 4 ((cs.drop 0).take (Tryz.prog.cellsOf 4)) = some y0:=hf 0 _ rfl; rw [show Tryz.prog.cellsOf 4 = 1 from by kernel_rfl] at this; exact this
  have f1:DataW.trod enc Tryz.prog W 0 (fun _=>true) true n 73 ((cs.drop 1).take 1) = some y1:=by have this:DataW.trod enc Tryz.prog W 0 (fun _=>true) true n 73 ((cs.drop 1).take (Tryz.prog.cellsOf 73)) = some y1:=hf 1 _ rfl; rw [show Tryz.prog.cellsOf 73 = 1 from by kernel_rfl] at this; exact this
  simp only [List.map_cons,List.map_nil,Rows.uptoBulk,Rows.uptoBulkAll] at hB ⊢
  obtain ⟨z0,e0,q0⟩:=DataW.trod_bool Tryz.underlying4 f0
  have b0:=xa7h y0.1
  obtain ⟨v1,z1,e1,r1,a1⟩:=xa6z f1 (by omega)
  have b1:=xa7h y1.1
  have hd:cs.drop 2 = []:=List.drop_eq_nil_of_le (by omega)
  have this:=xb7z cs 0 1
  rw [e0,xb7z cs 1 1,e1,hd,List.drop_zero] at this
  exact ⟨(z0,v1,z1),by rw [this]; rfl,⟨r1,a1⟩,by omega⟩
theorem xb6w {fuel:Nat} {cs:List Value} {x:DataW H × List MemPlace} (h:DataW.trod enc Tryz.prog W 0 (fun _=>true) true fuel 34 cs = some x) (hB:Rows.uptoBulk x.1≤1048576) :
  ∃ (v:Value) (l:List (Bool × Value × List En)),cs = [v]∧RdC 2 W v (l.map o9C)∧(∀ a∈l,OkO9 W a)∧(l.map fun _=>1).sum + 1≤Rows.uptoBulk x.1 :=
 xb6r Tryz.underlying34 (by kernel_rfl:Tryz.prog.cellsOf 100 = 2) o9C (by intro a; rfl) (by decide) (OkO9 W) (fun _=>1) (fun n cs y h hB=>xb8a h hB) h hB
end
end
end Go.Proofs.YtkolfhgbojenjaaGreatDoor
