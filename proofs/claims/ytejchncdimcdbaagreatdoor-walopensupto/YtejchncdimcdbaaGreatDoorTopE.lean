import Derived.Test.YtejchncdimcdbaaGreatDoorTopD
namespace Go.Proofs.YtejchncdimcdbaaGreatDoor
set_option linter.unusedVariables false
set_option linter.unusedSimpArgs false
set_option maxRecDepth 100000
section
open Go Go.RowKit Go.BigFrame
section
variable {P:Program} {Q:Exit→Act→World→Prop}
theorem xc3c {id:Nat} {o0 o1 o2 o3 o4 o5 o6 o7 o8 o9 o10 o11 o12 o13 o14 o15 o16 o17:Oper} {a:Act} {w:World} (hm:P.follows .mixedOrders = true) (hs:Region.noSelect #[o0,o1,o2,o3,o4,o5,o6,o7,o8,o9,o10,o11,o12,o13,o14,o15,o16,o17] = true)
  (f0:Region.free .any #[o0,o1,o2,o3,o4,o5,o6,o7,o8,o9,o10,o11,o12,o13,o14,o15,o16,o17] #[false,false,false,false,false,false,false,false,false,false,false,false,false,false,false,false,false,false] 0 = true) (r0:(Region.ready .any #[o0,o1,o2,o3,o4,o5,o6,o7,o8,o9,o10,o11,o12,o13,o14,o15,o16,o17] #[false,false,false,false,false,false,false,false,false,false,false,false,false,false,false,false,false,false]).contains 0 = true) (e0:o17.after.any (fun e=>Region.binds .any e && e.on == 0) = true)
  (f1:Region.free .any #[o0,o1,o2,o3,o4,o5,o6,o7,o8,o9,o10,o11,o12,o13,o14,o15,o16,o17] #[true,false,false,false,false,false,false,false,false,false,false,false,false,false,false,false,false,false] 1 = true) (r1:(Region.ready .any #[o0,o1,o2,o3,o4,o5,o6,o7,o8,o9,o10,o11,o12,o13,o14,o15,o16,o17] #[true,false,false,false,false,false,false,false,false,false,false,false,false,false,false,false,false,false]).contains 1 = true) (e1:o17.after.any (fun e=>Region.binds .any e && e.on == 1) = true)
  (f2:Region.free .any #[o0,o1,o2,o3,o4,o5,o6,o7,o8,o9,o10,o11,o12,o13,o14,o15,o16,o17] #[true,true,false,false,false,false,false,false,false,false,false,false,false,false,false,false,false,false] 2 = true) (r2:(Region.ready .any #[o0,o1,o2,o3,o4,o5,o6,o7,o8,o9,o10,o11,o12,o13,o14,o15,o16,o17] #[true,true,false,false,false,false,false,false,false,false,false,false,false,false,false,false,false,false]).contains 2 = true) (e2:o17.after.any (fun e=>Region.binds .any e && e.on == 2) = true)
  (f3:Region.free .any #[o0,o1,o2,o3,o4,o5,o6,o7,o8,o9,o10,o11,o12,o13,o14,o15,o16,o17] #[true,true,true,false,false,false,false,false,false,false,false,false,false,false,false,false,false,false] 3 = true) (r3:(Region.ready .any #[o0,o1,o2,o3,o4,o5,o6,o7,o8,o9,o10,o11,o12,o13,o14,o15,o16,o17] #[true,true,true,false,false,false,false,false,false,false,false,false,false,false,false,false,false,false]).contains 3 = true) (e3:o17.after.any (fun e=>Region.binds .any e && e.on == 3) = true)
  (f4:Region.free .any #[o0,o1,o2,o3,o4,o5,o6,o7,o8,o9,o10,o11,o12,o13,o14,o15,o16,o17] #[true,true,true,true,false,false,false,false,false,false,false,false,false,false,false,false,false,false] 4 = true) (r4:(Region.ready .any #[o0,o1,o2,o3,o4,o5,o6,o7,o8,o9,o10,o11,o12,o13,o14,o15,o16,o17] #[true,true,true,true,false,false,false,false,false,false,false,false,false,false,false,false,false,false]).contains 4 = true) (e4:o17.after.any (fun e=>Region.binds .any e && e.on == 4) = true)
  (f5:Region.free .any #[o0,o1,o2,o3,o4,o5,o6,o7,o8,o9,o10,o11,o12,o13,o14,o15,o16,o17] #[true,true,true,true,true,false,false,false,false,false,false,false,false,false,false,false,false,false] 5 = true) (r5:(Region.ready .any #[o0,o1,o2,o3,o4,o5,o6,o7,o8,o9,o10,o11,o12,o13,o14,o15,o16,o17] #[true,true,true,true,true,false,false,false,false,false,false,false,false,false,false,false,false,false]).contains 5 = true) (e5:o17.after.any (fun e=>Region.binds .any e && e.on == 5) = true)
  (f6:Region.free .any #[o0,o1,o2,o3,o4,o5,o6,o7,o8,o9,o10,o11,o12,o13,o14,o15,o16,o17] #[true,true,true,true,true,true,false,false,false,false,false,false,false,false,false,false,false,false] 6 = true) (r6:(Region.ready .any #[o0,o1,o2,o3,o4,o5,o6,o7,o8,o9,o10,o11,o12,o13,o14,o15,o16,o17] #[true,true,true,true,true,true,false,false,false,false,false,false,false,false,false,false,false,false]).contains 6 = true) (e6:o17.after.any (fun e=>Region.binds .any e && e.on == 6) = true)
  (f7:Region.free .any #[o0,o1,o2,o3,o4,o5,o6,o7,o8,o9,o10,o11,o12,o13,o14,o15,o16,o17] #[true,true,true,true,true,true,true,false,false,false,false,false,false,false,false,false,false,false] 7 = true) (r7:(Region.ready .any #[o0,o1,o2,o3,o4,o5,o6,o7,o8,o9,o10,o11,o12,o13,o14,o15,o16,o17] #[true,true,true,true,true,true,true,false,false,false,false,false,false,false,false,false,false,false]).contains 7 = true) (e7:o17.after.any (fun e=>Region.binds .any e && e.on == 7) = true)
  (f8:Region.free .any #[o0,o1,o2,o3,o4,o5,o6,o7,o8,o9,o10,o11,o12,o13,o14,o15,o16,o17] #[true,true,true,true,true,true,true,true,false,false,false,false,false,false,false,false,false,false] 8 = true) (r8:(Region.ready .any #[o0,o1,o2,o3,o4,o5,o6,o7,o8,o9,o10,o11,o12,o13,o14,o15,o16,o17] #[true,true,true,true,true,true,true,true,false,false,false,false,false,false,false,false,false,false]).contains 8 = true) (e8:o17.after.any (fun e=>Region.binds .any e && e.on == 8) = true)
  (f9:Region.free .any #[o0,o1,o2,o3,o4,o5,o6,o7,o8,o9,o10,o11,o12,o13,o14,o15,o16,o17] #[true,true,true,true,true,true,true,true,true,false,false,false,false,false,false,false,false,false] 9 = true) (r9:(Region.ready .any #[o0,o1,o2,o3,o4,o5,o6,o7,o8,o9,o10,o11,o12,o13,o14,o15,o16,o17] #[true,true,true,true,true,true,true,true,true,false,false,false,false,false,false,false,false,false]).contains 9 = true) (e9:o17.after.any (fun e=>Region.binds .any e && e.on == 9) = true)
  (f10:Region.free .any #[o0,o1,o2,o3,o4,o5,o6,o7,o8,o9,o10,o11,o12,o13,o14,o15,o16,o17] #[true,true,true,true,true,true,true,true,true,true,false,false,false,false,false,false,false,false] 10 = true) (r10:(Region.ready .any #[o0,o1,o2,o3,o4,o5,o6,o7,o8,o9,o10,o11,o12,o13,o14,o15,o16,o17] #[true,true,true,true,true,true,true,true,true,true,false,false,false,false,false,false,false,false]).contains 10 = true) (e10:o17.after.any (fun e=>Region.binds .any e && e.on == 10) = true)
  (f11:Region.free .any #[o0,o1,o2,o3,o4,o5,o6,o7,o8,o9,o10,o11,o12,o13,o14,o15,o16,o17] #[true,true,true,true,true,true,true,true,true,true,true,false,false,false,false,false,false,false] 11 = true) (r11:(Region.ready .any #[o0,o1,o2,o3,o4,o5,o6,o7,o8,o9,o10,o11,o12,o13,o14,o15,o16,o17] #[true,true,true,true,true,true,true,true,true,true,true,false,false,false,false,false,false,false]).contains 11 = true) (e11:o17.after.any (fun e=>Region.binds .any e && e.on == 11) = true)
  (f12:Region.free .any #[o0,o1,o2,o3,o4,o5,o6,o7,o8,o9,o10,o11,o12,o13,o14,o15,o16,o17] #[true,true,true,true,true,true,true,true,true,true,true,true,false,false,false,false,false,false] 12 = true) (r12:(Region.ready .any #[o0,o1,o2,o3,o4,o5,o6,o7,o8,o9,o10,o11,o12,o13,o14,o15,o16,o17] #[true,true,true,true,true,true,true,true,true,true,true,true,false,false,false,false,false,false]).contains 12 = true) (e12:o17.after.any (fun e=>Region.binds .any e && e.on == 12) = true)
  (f13:Region.free .any #[o0,o1,o2,o3,o4,o5,o6,o7,o8,o9,o10,o11,o12,o13,o14,o15,o16,o17] #[true,true,true,true,true,true,true,true,true,true,true,true,true,false,false,false,false,false] 13 = true) (r13:(Region.ready .any #[o0,o1,o2,o3,o4,o5,o6,o7,o8,o9,o10,o11,o12,o13,o14,o15,o16,o17] #[true,true,true,true,true,true,true,true,true,true,true,true,true,false,false,false,false,false]).contains 13 = true) (e13:o17.after.any (fun e=>Region.binds .any e && e.on == 13) = true)
  (q14:Region.ready .any #[o0,o1,o2,o3,o4,o5,o6,o7,o8,o9,o10,o11,o12,o13,o14,o15,o16,o17] #[true,true,true,true,true,true,true,true,true,true,true,true,true,true,false,false,false,false] = [14]) (g14:o14.guard = none)
  (q15:Region.ready .any #[o0,o1,o2,o3,o4,o5,o6,o7,o8,o9,o10,o11,o12,o13,o14,o15,o16,o17] #[true,true,true,true,true,true,true,true,true,true,true,true,true,true,true,false,false,false] = [15]) (g15:o15.guard = none)
  (q16:Region.ready .any #[o0,o1,o2,o3,o4,o5,o6,o7,o8,o9,o10,o11,o12,o13,o14,o15,o16,o17] #[true,true,true,true,true,true,true,true,true,true,true,true,true,true,true,true,false,false] = [16]) (g16:o16.guard = none)
  (q17:Region.ready .any #[o0,o1,o2,o3,o4,o5,o6,o7,o8,o9,o10,o11,o12,o13,o14,o15,o16,o17] #[true,true,true,true,true,true,true,true,true,true,true,true,true,true,true,true,true,false] = [17]) (g17:o17.guard = none)
  (rr:Region.ready .any #[o0,o1,o2,o3,o4,o5,o6,o7,o8,o9,o10,o11,o12,o13,o14,o15,o16,o17] #[true,true,true,true,true,true,true,true,true,true,true,true,true,true,true,true,true,true] = [])
  (v0 v1 v2 v3 v4 v5 v6 v7 v8 v9 v10 v11 v12 v13:Value) (A0 A1 A2 A3 A4 A5 A6 A7 A8 A9 A10 A11 A12 A13:Act) (T:World→Prop)
  (I0:World→Prop)
  (I1:Value→World→Prop)
  (I2:Value→Value→World→Prop)
  (I3:Value→Value→Value→World→Prop)
  (IE:Value→Value→Value→World→Prop)
  (p0:a.put o0.dst v0 = A0) (hy0:YieldsIf P #[o0,o1,o2,o3,o4,o5,o6,o7,o8,o9,o10,o11,o12,o13,o14,o15,o16,o17] T o0 v0 a)
  (p1:A0.put o1.dst v1 = A1) (hy1:YieldsIf P #[o0,o1,o2,o3,o4,o5,o6,o7,o8,o9,o10,o11,o12,o13,o14,o15,o16,o17] T o1 v1 A0)
  (p2:A1.put o2.dst v2 = A2) (hy2:YieldsIf P #[o0,o1,o2,o3,o4,o5,o6,o7,o8,o9,o10,o11,o12,o13,o14,o15,o16,o17] T o2 v2 A1)
  (p3:A2.put o3.dst v3 = A3) (hy3:YieldsIf P #[o0,o1,o2,o3,o4,o5,o6,o7,o8,o9,o10,o11,o12,o13,o14,o15,o16,o17] T o3 v3 A2)
  (p4:A3.put o4.dst v4 = A4) (hy4:YieldsIf P #[o0,o1,o2,o3,o4,o5,o6,o7,o8,o9,o10,o11,o12,o13,o14,o15,o16,o17] T o4 v4 A3)
  (p5:A4.put o5.dst v5 = A5) (hy5:YieldsIf P #[o0,o1,o2,o3,o4,o5,o6,o7,o8,o9,o10,o11,o12,o13,o14,o15,o16,o17] T o5 v5 A4)
  (p6:A5.put o6.dst v6 = A6) (hy6:YieldsIf P #[o0,o1,o2,o3,o4,o5,o6,o7,o8,o9,o10,o11,o12,o13,o14,o15,o16,o17] T o6 v6 A5)
  (p7:A6.put o7.dst v7 = A7) (hy7:YieldsIf P #[o0,o1,o2,o3,o4,o5,o6,o7,o8,o9,o10,o11,o12,o13,o14,o15,o16,o17] T o7 v7 A6)
  (p8:A7.put o8.dst v8 = A8) (hy8:YieldsIf P #[o0,o1,o2,o3,o4,o5,o6,o7,o8,o9,o10,o11,o12,o13,o14,o15,o16,o17] T o8 v8 A7)
  (p9:A8.put o9.dst v9 = A9) (hy9:YieldsIf P #[o0,o1,o2,o3,o4,o5,o6,o7,o8,o9,o10,o11,o12,o13,o14,o15,o16,o17] T o9 v9 A8)
  (p10:A9.put o10.dst v10 = A10) (hy10:YieldsIf P #[o0,o1,o2,o3,o4,o5,o6,o7,o8,o9,o10,o11,o12,o13,o14,o15,o16,o17] T o10 v10 A9)
  (p11:A10.put o11.dst v11 = A11) (hy11:YieldsIf P #[o0,o1,o2,o3,o4,o5,o6,o7,o8,o9,o10,o11,o12,o13,o14,o15,o16,o17] T o11 v11 A10)
  (p12:A11.put o12.dst v12 = A12) (hy12:YieldsIf P #[o0,o1,o2,o3,o4,o5,o6,o7,o8,o9,o10,o11,o12,o13,o14,o15,o16,o17] T o12 v12 A11)
  (p13:A12.put o13.dst v13 = A13) (hy13:YieldsIf P #[o0,o1,o2,o3,o4,o5,o6,o7,o8,o9,o10,o11,o12,o13,o14,o15,o16,o17] T o13 v13 A12)
  (i0:I0 w.drew)
  (hIT:(∀ w',I0  w'→T w')∧(∀ (u0:Value) w',I1 u0 w'→T w')∧(∀ (u0 u1:Value) w',I2 u0 u1 w'→T w')∧(∀ (u0 u1 u2:Value) w',I3 u0 u1 u2 w'→T w'))
  (s0:∀ w',I0  w'→∀ K:Act→World→Prop,(∀ (u0:Value) w2,I1 u0 w2→K (A13.put o14.dst u0) w2)→o14.wp P A13 w' K (NoPanic Q))
  (s1:∀ (u0:Value) w',I1 u0 w'→∀ K:Act→World→Prop,(∀ (u1:Value) w2,I2 u0 u1 w2→K ((A13.put o14.dst u0).put o15.dst u1) w2)→o15.wp P (A13.put o14.dst u0) w' K (NoPanic Q))
  (s2:∀ (u0 u1:Value) w',I2 u0 u1 w'→∀ K:Act→World→Prop,(∀ (u2:Value) w2,I3 u0 u1 u2 w2→K (((A13.put o14.dst u0).put o15.dst u1).put o16.dst u2) w2)→o16.wp P ((A13.put o14.dst u0).put o15.dst u1) w' K (NoPanic Q))
  (se:∀ (u0 u1 u2:Value) w',I3 u0 u1 u2 w'→∀ K:Act→World→Prop,(∀ w2,IE u0 u1 u2 w2→K (((A13.put o14.dst u0).put o15.dst u1).put o16.dst u2) w2)→o17.wp P (((A13.put o14.dst u0).put o15.dst u1).put o16.dst u2) w' K (NoPanic Q))
  (h:∀ (u0 u1 u2:Value) w',IE u0 u1 u2 w'→Q .normal (((A13.put o14.dst u0).put o15.dst u1).put o16.dst u2) w') :
  (Code.region id #[o0,o1,o2,o3,o4,o5,o6,o7,o8,o9,o10,o11,o12,o13,o14,o15,o16,o17] true).wp P Q a w:=by
 subst p0 p1 p2 p3 p4 p5 p6 p7 p8 p9 p10 p11 p12 p13
 obtain ⟨z0,z1,z2,z3⟩:=hIT
 refine wp_region_noPanic ?_
 refine wp_region_any hm ?_
 refine AnyL.any (S:=fun d w'=>d.getD 17 true = false→T w') _ _ _ _ ?_
 show AnyL P .any #[o0,o1,o2,o3,o4,o5,o6,o7,o8,o9,o10,o11,o12,o13,o14,o15,o16,o17] (NoPanic Q) _ 18 #[false,false,false,false,false,false,false,false,false,false,false,false,false,false,false,false,false,false] a w.drew
 have hSi:∀ i,i≠17→∀ (d:Array Bool) (w':World),((d.setIfInBounds i true).getD 17 true = false→T w')↔(d.getD 17 true = false→T w'):=by
  intro i h4 d w'
  rw [getD_set_ne true h4]
 refine AnyL.take (i:=0) (t:=17) (oi:=o0) (ot:=o17) (T:=T) rfl rfl (by decide) hs f0 r0 e0 (fun _ _ _ h=>h) (fun d w' h9 hd=>h9 hd) (hSi 0 (by decide)) hy0 rfl (fun _=>z0 _ i0) ?_
 refine AnyL.take (i:=1) (t:=17) (oi:=o1) (ot:=o17) (T:=T) rfl rfl (by decide) hs f1 r1 e1 (fun _ _ _ h=>h) (fun d w' h9 hd=>h9 hd) (hSi 1 (by decide)) hy1 rfl (fun _=>z0 _ i0) ?_
 refine AnyL.take (i:=2) (t:=17) (oi:=o2) (ot:=o17) (T:=T) rfl rfl (by decide) hs f2 r2 e2 (fun _ _ _ h=>h) (fun d w' h9 hd=>h9 hd) (hSi 2 (by decide)) hy2 rfl (fun _=>z0 _ i0) ?_
 refine AnyL.take (i:=3) (t:=17) (oi:=o3) (ot:=o17) (T:=T) rfl rfl (by decide) hs f3 r3 e3 (fun _ _ _ h=>h) (fun d w' h9 hd=>h9 hd) (hSi 3 (by decide)) hy3 rfl (fun _=>z0 _ i0) ?_
 refine AnyL.take (i:=4) (t:=17) (oi:=o4) (ot:=o17) (T:=T) rfl rfl (by decide) hs f4 r4 e4 (fun _ _ _ h=>h) (fun d w' h9 hd=>h9 hd) (hSi 4 (by decide)) hy4 rfl (fun _=>z0 _ i0) ?_
 refine AnyL.take (i:=5) (t:=17) (oi:=o5) (ot:=o17) (T:=T) rfl rfl (by decide) hs f5 r5 e5 (fun _ _ _ h=>h) (fun d w' h9 hd=>h9 hd) (hSi 5 (by decide)) hy5 rfl (fun _=>z0 _ i0) ?_
 refine AnyL.take (i:=6) (t:=17) (oi:=o6) (ot:=o17) (T:=T) rfl rfl (by decide) hs f6 r6 e6 (fun _ _ _ h=>h) (fun d w' h9 hd=>h9 hd) (hSi 6 (by decide)) hy6 rfl (fun _=>z0 _ i0) ?_
 refine AnyL.take (i:=7) (t:=17) (oi:=o7) (ot:=o17) (T:=T) rfl rfl (by decide) hs f7 r7 e7 (fun _ _ _ h=>h) (fun d w' h9 hd=>h9 hd) (hSi 7 (by decide)) hy7 rfl (fun _=>z0 _ i0) ?_
 refine AnyL.take (i:=8) (t:=17) (oi:=o8) (ot:=o17) (T:=T) rfl rfl (by decide) hs f8 r8 e8 (fun _ _ _ h=>h) (fun d w' h9 hd=>h9 hd) (hSi 8 (by decide)) hy8 rfl (fun _=>z0 _ i0) ?_
 refine AnyL.take (i:=9) (t:=17) (oi:=o9) (ot:=o17) (T:=T) rfl rfl (by decide) hs f9 r9 e9 (fun _ _ _ h=>h) (fun d w' h9 hd=>h9 hd) (hSi 9 (by decide)) hy9 rfl (fun _=>z0 _ i0) ?_
 refine AnyL.take (i:=10) (t:=17) (oi:=o10) (ot:=o17) (T:=T) rfl rfl (by decide) hs f10 r10 e10 (fun _ _ _ h=>h) (fun d w' h9 hd=>h9 hd) (hSi 10 (by decide)) hy10 rfl (fun _=>z0 _ i0) ?_
 refine AnyL.take (i:=11) (t:=17) (oi:=o11) (ot:=o17) (T:=T) rfl rfl (by decide) hs f11 r11 e11 (fun _ _ _ h=>h) (fun d w' h9 hd=>h9 hd) (hSi 11 (by decide)) hy11 rfl (fun _=>z0 _ i0) ?_
 refine AnyL.take (i:=12) (t:=17) (oi:=o12) (ot:=o17) (T:=T) rfl rfl (by decide) hs f12 r12 e12 (fun _ _ _ h=>h) (fun d w' h9 hd=>h9 hd) (hSi 12 (by decide)) hy12 rfl (fun _=>z0 _ i0) ?_
 refine AnyL.take (i:=13) (t:=17) (oi:=o13) (ot:=o17) (T:=T) rfl rfl (by decide) hs f13 r13 e13 (fun _ _ _ h=>h) (fun d w' h9 hd=>h9 hd) (hSi 13 (by decide)) hy13 rfl (fun _=>z0 _ i0) ?_
 refine AnyL.forced q14 rfl g14 (fun K hK=>s0  w.drew i0 K (fun u0 w1 i1=>hK _ _ (fun _=>z1 u0 w1 i1) ?_))
 refine AnyL.forced q15 rfl g15 (fun K hK=>s1 u0 w1 i1 K (fun u1 w2 i2=>hK _ _ (fun _=>z2 u0 u1 w2 i2) ?_))
 refine AnyL.forced q16 rfl g16 (fun K hK=>s2 u0 u1 w2 i2 K (fun u2 w3 i3=>hK _ _ (fun _=>z3 u0 u1 u2 w3 i3) ?_))
 refine AnyL.forced q17 rfl g17 (fun K hK=>se u0 u1 u2 w3 i3 K (fun we ie=>hK _ _ (fun h9=>(by cases h9)) ?_))
 exact ⟨rr,NoPanic.normal (h u0 u1 u2 we ie)⟩
theorem xc1o {id:Nat} {o0 o1 o2 o3 o4 o5 o6 o7 o8 o9 o10 o11 o12 o13 o14 o15 o16:Oper} {a:Act} {w:World} (hm:P.follows .mixedOrders = true) (hs:Region.noSelect #[o0,o1,o2,o3,o4,o5,o6,o7,o8,o9,o10,o11,o12,o13,o14,o15,o16] = true)
  (f0:Region.free .any #[o0,o1,o2,o3,o4,o5,o6,o7,o8,o9,o10,o11,o12,o13,o14,o15,o16] #[false,false,false,false,false,false,false,false,false,false,false,false,false,false,false,false,false] 0 = true) (r0:(Region.ready .any #[o0,o1,o2,o3,o4,o5,o6,o7,o8,o9,o10,o11,o12,o13,o14,o15,o16] #[false,false,false,false,false,false,false,false,false,false,false,false,false,false,false,false,false]).contains 0 = true) (e0:o16.after.any (fun e=>Region.binds .any e && e.on == 0) = true)
  (f1:Region.free .any #[o0,o1,o2,o3,o4,o5,o6,o7,o8,o9,o10,o11,o12,o13,o14,o15,o16] #[true,false,false,false,false,false,false,false,false,false,false,false,false,false,false,false,false] 1 = true) (r1:(Region.ready .any #[o0,o1,o2,o3,o4,o5,o6,o7,o8,o9,o10,o11,o12,o13,o14,o15,o16] #[true,false,false,false,false,false,false,false,false,false,false,false,false,false,false,false,false]).contains 1 = true) (e1:o16.after.any (fun e=>Region.binds .any e && e.on == 1) = true)
  (f2:Region.free .any #[o0,o1,o2,o3,o4,o5,o6,o7,o8,o9,o10,o11,o12,o13,o14,o15,o16] #[true,true,false,false,false,false,false,false,false,false,false,false,false,false,false,false,false] 2 = true) (r2:(Region.ready .any #[o0,o1,o2,o3,o4,o5,o6,o7,o8,o9,o10,o11,o12,o13,o14,o15,o16] #[true,true,false,false,false,false,false,false,false,false,false,false,false,false,false,false,false]).contains 2 = true) (e2:o16.after.any (fun e=>Region.binds .any e && e.on == 2) = true)
  (f3:Region.free .any #[o0,o1,o2,o3,o4,o5,o6,o7,o8,o9,o10,o11,o12,o13,o14,o15,o16] #[true,true,true,false,false,false,false,false,false,false,false,false,false,false,false,false,false] 3 = true) (r3:(Region.ready .any #[o0,o1,o2,o3,o4,o5,o6,o7,o8,o9,o10,o11,o12,o13,o14,o15,o16] #[true,true,true,false,false,false,false,false,false,false,false,false,false,false,false,false,false]).contains 3 = true) (e3:o16.after.any (fun e=>Region.binds .any e && e.on == 3) = true)
  (f4:Region.free .any #[o0,o1,o2,o3,o4,o5,o6,o7,o8,o9,o10,o11,o12,o13,o14,o15,o16] #[true,true,true,true,false,false,false,false,false,false,false,false,false,false,false,false,false] 4 = true) (r4:(Region.ready .any #[o0,o1,o2,o3,o4,o5,o6,o7,o8,o9,o10,o11,o12,o13,o14,o15,o16] #[true,true,true,true,false,false,false,false,false,false,false,false,false,false,false,false,false]).contains 4 = true) (e4:o16.after.any (fun e=>Region.binds .any e && e.on == 4) = true)
  (f5:Region.free .any #[o0,o1,o2,o3,o4,o5,o6,o7,o8,o9,o10,o11,o12,o13,o14,o15,o16] #[true,true,true,true,true,false,false,false,false,false,false,false,false,false,false,false,false] 5 = true) (r5:(Region.ready .any #[o0,o1,o2,o3,o4,o5,o6,o7,o8,o9,o10,o11,o12,o13,o14,o15,o16] #[true,true,true,true,true,false,false,false,false,false,false,false,false,false,false,false,false]).contains 5 = true) (e5:o16.after.any (fun e=>Region.binds .any e && e.on == 5) = true)
  (f6:Region.free .any #[o0,o1,o2,o3,o4,o5,o6,o7,o8,o9,o10,o11,o12,o13,o14,o15,o16] #[true,true,true,true,true,true,false,false,false,false,false,false,false,false,false,false,false] 6 = true) (r6:(Region.ready .any #[o0,o1,o2,o3,o4,o5,o6,o7,o8,o9,o10,o11,o12,o13,o14,o15,o16] #[true,true,true,true,true,true,false,false,false,false,false,false,false,false,false,false,false]).contains 6 = true) (e6:o16.after.any (fun e=>Region.binds .any e && e.on == 6) = true)
  (f7:Region.free .any #[o0,o1,o2,o3,o4,o5,o6,o7,o8,o9,o10,o11,o12,o13,o14,o15,o16] #[true,true,true,true,true,true,true,false,false,false,false,false,false,false,false,false,false] 7 = true) (r7:(Region.ready .any #[o0,o1,o2,o3,o4,o5,o6,o7,o8,o9,o10,o11,o12,o13,o14,o15,o16] #[true,true,true,true,true,true,true,false,false,false,false,false,false,false,false,false,false]).contains 7 = true) (e7:o16.after.any (fun e=>Region.binds .any e && e.on == 7) = true)
  (f8:Region.free .any #[o0,o1,o2,o3,o4,o5,o6,o7,o8,o9,o10,o11,o12,o13,o14,o15,o16] #[true,true,true,true,true,true,true,true,false,false,false,false,false,false,false,false,false] 8 = true) (r8:(Region.ready .any #[o0,o1,o2,o3,o4,o5,o6,o7,o8,o9,o10,o11,o12,o13,o14,o15,o16] #[true,true,true,true,true,true,true,true,false,false,false,false,false,false,false,false,false]).contains 8 = true) (e8:o16.after.any (fun e=>Region.binds .any e && e.on == 8) = true)
  (f9:Region.free .any #[o0,o1,o2,o3,o4,o5,o6,o7,o8,o9,o10,o11,o12,o13,o14,o15,o16] #[true,true,true,true,true,true,true,true,true,false,false,false,false,false,false,false,false] 9 = true) (r9:(Region.ready .any #[o0,o1,o2,o3,o4,o5,o6,o7,o8,o9,o10,o11,o12,o13,o14,o15,o16] #[true,true,true,true,true,true,true,true,true,false,false,false,false,false,false,false,false]).contains 9 = true) (e9:o16.after.any (fun e=>Region.binds .any e && e.on == 9) = true)
  (f10:Region.free .any #[o0,o1,o2,o3,o4,o5,o6,o7,o8,o9,o10,o11,o12,o13,o14,o15,o16] #[true,true,true,true,true,true,true,true,true,true,false,false,false,false,false,false,false] 10 = true) (r10:(Region.ready .any #[o0,o1,o2,o3,o4,o5,o6,o7,o8,o9,o10,o11,o12,o13,o14,o15,o16] #[true,true,true,true,true,true,true,true,true,true,false,false,false,false,false,false,false]).contains 10 = true) (e10:o16.after.any (fun e=>Region.binds .any e && e.on == 10) = true)
  (f11:Region.free .any #[o0,o1,o2,o3,o4,o5,o6,o7,o8,o9,o10,o11,o12,o13,o14,o15,o16] #[true,true,true,true,true,true,true,true,true,true,true,false,false,false,false,false,false] 11 = true) (r11:(Region.ready .any #[o0,o1,o2,o3,o4,o5,o6,o7,o8,o9,o10,o11,o12,o13,o14,o15,o16] #[true,true,true,true,true,true,true,true,true,true,true,false,false,false,false,false,false]).contains 11 = true) (e11:o16.after.any (fun e=>Region.binds .any e && e.on == 11) = true)
  (f12:Region.free .any #[o0,o1,o2,o3,o4,o5,o6,o7,o8,o9,o10,o11,o12,o13,o14,o15,o16] #[true,true,true,true,true,true,true,true,true,true,true,true,false,false,false,false,false] 12 = true) (r12:(Region.ready .any #[o0,o1,o2,o3,o4,o5,o6,o7,o8,o9,o10,o11,o12,o13,o14,o15,o16] #[true,true,true,true,true,true,true,true,true,true,true,true,false,false,false,false,false]).contains 12 = true) (e12:o16.after.any (fun e=>Region.binds .any e && e.on == 12) = true)
  (f13:Region.free .any #[o0,o1,o2,o3,o4,o5,o6,o7,o8,o9,o10,o11,o12,o13,o14,o15,o16] #[true,true,true,true,true,true,true,true,true,true,true,true,true,false,false,false,false] 13 = true) (r13:(Region.ready .any #[o0,o1,o2,o3,o4,o5,o6,o7,o8,o9,o10,o11,o12,o13,o14,o15,o16] #[true,true,true,true,true,true,true,true,true,true,true,true,true,false,false,false,false]).contains 13 = true) (e13:o16.after.any (fun e=>Region.binds .any e && e.on == 13) = true)
  (q14:Region.ready .any #[o0,o1,o2,o3,o4,o5,o6,o7,o8,o9,o10,o11,o12,o13,o14,o15,o16] #[true,true,true,true,true,true,true,true,true,true,true,true,true,true,false,false,false] = [14]) (g14:o14.guard = none)
  (q15:Region.ready .any #[o0,o1,o2,o3,o4,o5,o6,o7,o8,o9,o10,o11,o12,o13,o14,o15,o16] #[true,true,true,true,true,true,true,true,true,true,true,true,true,true,true,false,false] = [15]) (g15:o15.guard = none)
  (q16:Region.ready .any #[o0,o1,o2,o3,o4,o5,o6,o7,o8,o9,o10,o11,o12,o13,o14,o15,o16] #[true,true,true,true,true,true,true,true,true,true,true,true,true,true,true,true,false] = [16]) (g16:o16.guard = none)
  (rr:Region.ready .any #[o0,o1,o2,o3,o4,o5,o6,o7,o8,o9,o10,o11,o12,o13,o14,o15,o16] #[true,true,true,true,true,true,true,true,true,true,true,true,true,true,true,true,true] = [])
  (v0 v1 v2 v3 v4 v5 v6 v7 v8 v9 v10 v11 v12 v13:Value) (A0 A1 A2 A3 A4 A5 A6 A7 A8 A9 A10 A11 A12 A13:Act) (T:World→Prop)
  (I0:World→Prop)
  (I1:Value→World→Prop)
  (I2:Value→Value→World→Prop)
  (IE:Value→Value→World→Prop)
  (p0:a.put o0.dst v0 = A0) (hy0:YieldsIf P #[o0,o1,o2,o3,o4,o5,o6,o7,o8,o9,o10,o11,o12,o13,o14,o15,o16] T o0 v0 a)
  (p1:A0.put o1.dst v1 = A1) (hy1:YieldsIf P #[o0,o1,o2,o3,o4,o5,o6,o7,o8,o9,o10,o11,o12,o13,o14,o15,o16] T o1 v1 A0)
  (p2:A1.put o2.dst v2 = A2) (hy2:YieldsIf P #[o0,o1,o2,o3,o4,o5,o6,o7,o8,o9,o10,o11,o12,o13,o14,o15,o16] T o2 v2 A1)
  (p3:A2.put o3.dst v3 = A3) (hy3:YieldsIf P #[o0,o1,o2,o3,o4,o5,o6,o7,o8,o9,o10,o11,o12,o13,o14,o15,o16] T o3 v3 A2)
  (p4:A3.put o4.dst v4 = A4) (hy4:YieldsIf P #[o0,o1,o2,o3,o4,o5,o6,o7,o8,o9,o10,o11,o12,o13,o14,o15,o16] T o4 v4 A3)
  (p5:A4.put o5.dst v5 = A5) (hy5:YieldsIf P #[o0,o1,o2,o3,o4,o5,o6,o7,o8,o9,o10,o11,o12,o13,o14,o15,o16] T o5 v5 A4)
  (p6:A5.put o6.dst v6 = A6) (hy6:YieldsIf P #[o0,o1,o2,o3,o4,o5,o6,o7,o8,o9,o10,o11,o12,o13,o14,o15,o16] T o6 v6 A5)
  (p7:A6.put o7.dst v7 = A7) (hy7:YieldsIf P #[o0,o1,o2,o3,o4,o5,o6,o7,o8,o9,o10,o11,o12,o13,o14,o15,o16] T o7 v7 A6)
  (p8:A7.put o8.dst v8 = A8) (hy8:YieldsIf P #[o0,o1,o2,o3,o4,o5,o6,o7,o8,o9,o10,o11,o12,o13,o14,o15,o16] T o8 v8 A7)
  (p9:A8.put o9.dst v9 = A9) (hy9:YieldsIf P #[o0,o1,o2,o3,o4,o5,o6,o7,o8,o9,o10,o11,o12,o13,o14,o15,o16] T o9 v9 A8)
  (p10:A9.put o10.dst v10 = A10) (hy10:YieldsIf P #[o0,o1,o2,o3,o4,o5,o6,o7,o8,o9,o10,o11,o12,o13,o14,o15,o16] T o10 v10 A9)
  (p11:A10.put o11.dst v11 = A11) (hy11:YieldsIf P #[o0,o1,o2,o3,o4,o5,o6,o7,o8,o9,o10,o11,o12,o13,o14,o15,o16] T o11 v11 A10)
  (p12:A11.put o12.dst v12 = A12) (hy12:YieldsIf P #[o0,o1,o2,o3,o4,o5,o6,o7,o8,o9,o10,o11,o12,o13,o14,o15,o16] T o12 v12 A11)
  (p13:A12.put o13.dst v13 = A13) (hy13:YieldsIf P #[o0,o1,o2,o3,o4,o5,o6,o7,o8,o9,o10,o11,o12,o13,o14,o15,o16] T o13 v13 A12)
  (i0:I0 w.drew)
  (hIT:(∀ w',I0  w'→T w')∧(∀ (u0:Value) w',I1 u0 w'→T w')∧(∀ (u0 u1:Value) w',I2 u0 u1 w'→T w'))
  (s0:∀ w',I0  w'→∀ K:Act→World→Prop,(∀ (u0:Value) w2,I1 u0 w2→K (A13.put o14.dst u0) w2)→o14.wp P A13 w' K (NoPanic Q))
  (s1:∀ (u0:Value) w',I1 u0 w'→∀ K:Act→World→Prop,(∀ (u1:Value) w2,I2 u0 u1 w2→K ((A13.put o14.dst u0).put o15.dst u1) w2)→o15.wp P (A13.put o14.dst u0) w' K (NoPanic Q))
  (se:∀ (u0 u1:Value) w',I2 u0 u1 w'→∀ K:Act→World→Prop,(∀ w2,IE u0 u1 w2→K ((A13.put o14.dst u0).put o15.dst u1) w2)→o16.wp P ((A13.put o14.dst u0).put o15.dst u1) w' K (NoPanic Q))
  (h:∀ (u0 u1:Value) w',IE u0 u1 w'→Q .normal ((A13.put o14.dst u0).put o15.dst u1) w') :
  (Code.region id #[o0,o1,o2,o3,o4,o5,o6,o7,o8,o9,o10,o11,o12,o13,o14,o15,o16] true).wp P Q a w:=by
 subst p0 p1 p2 p3 p4 p5 p6 p7 p8 p9 p10 p11 p12 p13
 obtain ⟨z0,z1,z2⟩:=hIT
 refine wp_region_noPanic ?_
 refine wp_region_any hm ?_
 refine AnyL.any (S:=fun d w'=>d.getD 16 true = false→T w') _ _ _ _ ?_
 show AnyL P .any #[o0,o1,o2,o3,o4,o5,o6,o7,o8,o9,o10,o11,o12,o13,o14,o15,o16] (NoPanic Q) _ 17 #[false,false,false,false,false,false,false,false,false,false,false,false,false,false,false,false,false] a w.drew
 have hSi:∀ i,i≠16→∀ (d:Array Bool) (w':World),((d.setIfInBounds i true).getD 16 true = false→T w')↔(d.getD 16 true = false→T w'):=by
  intro i h4 d w'
  rw [getD_set_ne true h4]
 refine AnyL.take (i:=0) (t:=16) (oi:=o0) (ot:=o16) (T:=T) rfl rfl (by decide) hs f0 r0 e0 (fun _ _ _ h=>h) (fun d w' h9 hd=>h9 hd) (hSi 0 (by decide)) hy0 rfl (fun _=>z0 _ i0) ?_
 refine AnyL.take (i:=1) (t:=16) (oi:=o1) (ot:=o16) (T:=T) rfl rfl (by decide) hs f1 r1 e1 (fun _ _ _ h=>h) (fun d w' h9 hd=>h9 hd) (hSi 1 (by decide)) hy1 rfl (fun _=>z0 _ i0) ?_
 refine AnyL.take (i:=2) (t:=16) (oi:=o2) (ot:=o16) (T:=T) rfl rfl (by decide) hs f2 r2 e2 (fun _ _ _ h=>h) (fun d w' h9 hd=>h9 hd) (hSi 2 (by decide)) hy2 rfl (fun _=>z0 _ i0) ?_
 refine AnyL.take (i:=3) (t:=16) (oi:=o3) (ot:=o16) (T:=T) rfl rfl (by decide) hs f3 r3 e3 (fun _ _ _ h=>h) (fun d w' h9 hd=>h9 hd) (hSi 3 (by decide)) hy3 rfl (fun _=>z0 _ i0) ?_
 refine AnyL.take (i:=4) (t:=16) (oi:=o4) (ot:=o16) (T:=T) rfl rfl (by decide) hs f4 r4 e4 (fun _ _ _ h=>h) (fun d w' h9 hd=>h9 hd) (hSi 4 (by decide)) hy4 rfl (fun _=>z0 _ i0) ?_
 refine AnyL.take (i:=5) (t:=16) (oi:=o5) (ot:=o16) (T:=T) rfl rfl (by decide) hs f5 r5 e5 (fun _ _ _ h=>h) (fun d w' h9 hd=>h9 hd) (hSi 5 (by decide)) hy5 rfl (fun _=>z0 _ i0) ?_
 refine AnyL.take (i:=6) (t:=16) (oi:=o6) (ot:=o16) (T:=T) rfl rfl (by decide) hs f6 r6 e6 (fun _ _ _ h=>h) (fun d w' h9 hd=>h9 hd) (hSi 6 (by decide)) hy6 rfl (fun _=>z0 _ i0) ?_
 refine AnyL.take (i:=7) (t:=16) (oi:=o7) (ot:=o16) (T:=T) rfl rfl (by decide) hs f7 r7 e7 (fun _ _ _ h=>h) (fun d w' h9 hd=>h9 hd) (hSi 7 (by decide)) hy7 rfl (fun _=>z0 _ i0) ?_
 refine AnyL.take (i:=8) (t:=16) (oi:=o8) (ot:=o16) (T:=T) rfl rfl (by decide) hs f8 r8 e8 (fun _ _ _ h=>h) (fun d w' h9 hd=>h9 hd) (hSi 8 (by decide)) hy8 rfl (fun _=>z0 _ i0) ?_
 refine AnyL.take (i:=9) (t:=16) (oi:=o9) (ot:=o16) (T:=T) rfl rfl (by decide) hs f9 r9 e9 (fun _ _ _ h=>h) (fun d w' h9 hd=>h9 hd) (hSi 9 (by decide)) hy9 rfl (fun _=>z0 _ i0) ?_
 refine AnyL.take (i:=10) (t:=16) (oi:=o10) (ot:=o16) (T:=T) rfl rfl (by decide) hs f10 r10 e10 (fun _ _ _ h=>h) (fun d w' h9 hd=>h9 hd) (hSi 10 (by decide)) hy10 rfl (fun _=>z0 _ i0) ?_
 refine AnyL.take (i:=11) (t:=16) (oi:=o11) (ot:=o16) (T:=T) rfl rfl (by decide) hs f11 r11 e11 (fun _ _ _ h=>h) (fun d w' h9 hd=>h9 hd) (hSi 11 (by decide)) hy11 rfl (fun _=>z0 _ i0) ?_
 refine AnyL.take (i:=12) (t:=16) (oi:=o12) (ot:=o16) (T:=T) rfl rfl (by decide) hs f12 r12 e12 (fun _ _ _ h=>h) (fun d w' h9 hd=>h9 hd) (hSi 12 (by decide)) hy12 rfl (fun _=>z0 _ i0) ?_
 refine AnyL.take (i:=13) (t:=16) (oi:=o13) (ot:=o16) (T:=T) rfl rfl (by decide) hs f13 r13 e13 (fun _ _ _ h=>h) (fun d w' h9 hd=>h9 hd) (hSi 13 (by decide)) hy13 rfl (fun _=>z0 _ i0) ?_
 refine AnyL.forced q14 rfl g14 (fun K hK=>s0  w.drew i0 K (fun u0 w1 i1=>hK _ _ (fun _=>z1 u0 w1 i1) ?_))
 refine AnyL.forced q15 rfl g15 (fun K hK=>s1 u0 w1 i1 K (fun u1 w2 i2=>hK _ _ (fun _=>z2 u0 u1 w2 i2) ?_))
 refine AnyL.forced q16 rfl g16 (fun K hK=>se u0 u1 w2 i2 K (fun we ie=>hK _ _ (fun h9=>(by cases h9)) ?_))
 exact ⟨rr,NoPanic.normal (h u0 u1 we ie)⟩
theorem xc2o {id:Nat} {o0 o1 o2 o3 o4 o5 o6 o7 o8 o9 o10 o11:Oper} {a:Act} {w:World} (hm:P.follows .mixedOrders = true) (hs:Region.noSelect #[o0,o1,o2,o3,o4,o5,o6,o7,o8,o9,o10,o11] = true)
  (f0:Region.free .any #[o0,o1,o2,o3,o4,o5,o6,o7,o8,o9,o10,o11] #[false,false,false,false,false,false,false,false,false,false,false,false] 0 = true) (r0:(Region.ready .any #[o0,o1,o2,o3,o4,o5,o6,o7,o8,o9,o10,o11] #[false,false,false,false,false,false,false,false,false,false,false,false]).contains 0 = true) (e0:o11.after.any (fun e=>Region.binds .any e && e.on == 0) = true)
  (f1:Region.free .any #[o0,o1,o2,o3,o4,o5,o6,o7,o8,o9,o10,o11] #[true,false,false,false,false,false,false,false,false,false,false,false] 1 = true) (r1:(Region.ready .any #[o0,o1,o2,o3,o4,o5,o6,o7,o8,o9,o10,o11] #[true,false,false,false,false,false,false,false,false,false,false,false]).contains 1 = true) (e1:o11.after.any (fun e=>Region.binds .any e && e.on == 1) = true)
  (f2:Region.free .any #[o0,o1,o2,o3,o4,o5,o6,o7,o8,o9,o10,o11] #[true,true,false,false,false,false,false,false,false,false,false,false] 2 = true) (r2:(Region.ready .any #[o0,o1,o2,o3,o4,o5,o6,o7,o8,o9,o10,o11] #[true,true,false,false,false,false,false,false,false,false,false,false]).contains 2 = true) (e2:o11.after.any (fun e=>Region.binds .any e && e.on == 2) = true)
  (f3:Region.free .any #[o0,o1,o2,o3,o4,o5,o6,o7,o8,o9,o10,o11] #[true,true,true,false,false,false,false,false,false,false,false,false] 3 = true) (r3:(Region.ready .any #[o0,o1,o2,o3,o4,o5,o6,o7,o8,o9,o10,o11] #[true,true,true,false,false,false,false,false,false,false,false,false]).contains 3 = true) (e3:o11.after.any (fun e=>Region.binds .any e && e.on == 3) = true)
  (f4:Region.free .any #[o0,o1,o2,o3,o4,o5,o6,o7,o8,o9,o10,o11] #[true,true,true,true,false,false,false,false,false,false,false,false] 4 = true) (r4:(Region.ready .any #[o0,o1,o2,o3,o4,o5,o6,o7,o8,o9,o10,o11] #[true,true,true,true,false,false,false,false,false,false,false,false]).contains 4 = true) (e4:o11.after.any (fun e=>Region.binds .any e && e.on == 4) = true)
  (f5:Region.free .any #[o0,o1,o2,o3,o4,o5,o6,o7,o8,o9,o10,o11] #[true,true,true,true,true,false,false,false,false,false,false,false] 5 = true) (r5:(Region.ready .any #[o0,o1,o2,o3,o4,o5,o6,o7,o8,o9,o10,o11] #[true,true,true,true,true,false,false,false,false,false,false,false]).contains 5 = true) (e5:o11.after.any (fun e=>Region.binds .any e && e.on == 5) = true)
  (q6:Region.ready .any #[o0,o1,o2,o3,o4,o5,o6,o7,o8,o9,o10,o11] #[true,true,true,true,true,true,false,false,false,false,false,false] = [6]) (g6:o6.guard = none)
  (q7:Region.ready .any #[o0,o1,o2,o3,o4,o5,o6,o7,o8,o9,o10,o11] #[true,true,true,true,true,true,true,false,false,false,false,false] = [7]) (g7:o7.guard = none)
  (q8:Region.ready .any #[o0,o1,o2,o3,o4,o5,o6,o7,o8,o9,o10,o11] #[true,true,true,true,true,true,true,true,false,false,false,false] = [8]) (g8:o8.guard = none)
  (q9:Region.ready .any #[o0,o1,o2,o3,o4,o5,o6,o7,o8,o9,o10,o11] #[true,true,true,true,true,true,true,true,true,false,false,false] = [9]) (g9:o9.guard = none)
  (q10:Region.ready .any #[o0,o1,o2,o3,o4,o5,o6,o7,o8,o9,o10,o11] #[true,true,true,true,true,true,true,true,true,true,false,false] = [10]) (g10:o10.guard = none)
  (q11:Region.ready .any #[o0,o1,o2,o3,o4,o5,o6,o7,o8,o9,o10,o11] #[true,true,true,true,true,true,true,true,true,true,true,false] = [11]) (g11:o11.guard = none)
  (rr:Region.ready .any #[o0,o1,o2,o3,o4,o5,o6,o7,o8,o9,o10,o11] #[true,true,true,true,true,true,true,true,true,true,true,true] = [])
  (v0 v1 v2 v3 v4 v5:Value) (A0 A1 A2 A3 A4 A5:Act) (T:World→Prop)
  (I0:World→Prop)
  (I1:Value→World→Prop)
  (I2:Value→Value→World→Prop)
  (I3:Value→Value→Value→World→Prop)
  (I4:Value→Value→Value→Value→World→Prop)
  (I5:Value→Value→Value→Value→Value→World→Prop)
  (IE:Value→Value→Value→Value→Value→World→Prop)
  (p0:a.put o0.dst v0 = A0) (hy0:YieldsIf P #[o0,o1,o2,o3,o4,o5,o6,o7,o8,o9,o10,o11] T o0 v0 a)
  (p1:A0.put o1.dst v1 = A1) (hy1:YieldsIf P #[o0,o1,o2,o3,o4,o5,o6,o7,o8,o9,o10,o11] T o1 v1 A0)
  (p2:A1.put o2.dst v2 = A2) (hy2:YieldsIf P #[o0,o1,o2,o3,o4,o5,o6,o7,o8,o9,o10,o11] T o2 v2 A1)
  (p3:A2.put o3.dst v3 = A3) (hy3:YieldsIf P #[o0,o1,o2,o3,o4,o5,o6,o7,o8,o9,o10,o11] T o3 v3 A2)
  (p4:A3.put o4.dst v4 = A4) (hy4:YieldsIf P #[o0,o1,o2,o3,o4,o5,o6,o7,o8,o9,o10,o11] T o4 v4 A3)
  (p5:A4.put o5.dst v5 = A5) (hy5:YieldsIf P #[o0,o1,o2,o3,o4,o5,o6,o7,o8,o9,o10,o11] T o5 v5 A4)
  (i0:I0 w.drew)
  (hIT:(∀ w',I0  w'→T w')∧(∀ (u0:Value) w',I1 u0 w'→T w')∧(∀ (u0 u1:Value) w',I2 u0 u1 w'→T w')∧(∀ (u0 u1 u2:Value) w',I3 u0 u1 u2 w'→T w')∧(∀ (u0 u1 u2 u3:Value) w',I4 u0 u1 u2 u3 w'→T w')∧(∀ (u0 u1 u2 u3 u4:Value) w',I5 u0 u1 u2 u3 u4 w'→T w'))
  (s0:∀ w',I0  w'→∀ K:Act→World→Prop,(∀ (u0:Value) w2,I1 u0 w2→K (A5.put o6.dst u0) w2)→o6.wp P A5 w' K (NoPanic Q))
  (s1:∀ (u0:Value) w',I1 u0 w'→∀ K:Act→World→Prop,(∀ (u1:Value) w2,I2 u0 u1 w2→K ((A5.put o6.dst u0).put o7.dst u1) w2)→o7.wp P (A5.put o6.dst u0) w' K (NoPanic Q))
  (s2:∀ (u0 u1:Value) w',I2 u0 u1 w'→∀ K:Act→World→Prop,(∀ (u2:Value) w2,I3 u0 u1 u2 w2→K (((A5.put o6.dst u0).put o7.dst u1).put o8.dst u2) w2)→o8.wp P ((A5.put o6.dst u0).put o7.dst u1) w' K (NoPanic Q))
  (s3:∀ (u0 u1 u2:Value) w',I3 u0 u1 u2 w'→∀ K:Act→World→Prop,(∀ (u3:Value) w2,I4 u0 u1 u2 u3 w2→K ((((A5.put o6.dst u0).put o7.dst u1).put o8.dst u2).put o9.dst u3) w2)→o9.wp P (((A5.put o6.dst u0).put o7.dst u1).put o8.dst u2) w' K (NoPanic Q))
  (s4:∀ (u0 u1 u2 u3:Value) w',I4 u0 u1 u2 u3 w'→∀ K:Act→World→Prop,(∀ (u4:Value) w2,I5 u0 u1 u2 u3 u4 w2→K (((((A5.put o6.dst u0).put o7.dst u1).put o8.dst u2).put o9.dst u3).put o10.dst u4) w2)→o10.wp P ((((A5.put o6.dst u0).put o7.dst u1).put o8.dst u2).put o9.dst u3) w' K (NoPanic Q))
  (se:∀ (u0 u1 u2 u3 u4:Value) w',I5 u0 u1 u2 u3 u4 w'→∀ K:Act→World→Prop,(∀ w2,IE u0 u1 u2 u3 u4 w2→K (((((A5.put o6.dst u0).put o7.dst u1).put o8.dst u2).put o9.dst u3).put o10.dst u4) w2)→o11.wp P (((((A5.put o6.dst u0).put o7.dst u1).put o8.dst u2).put o9.dst u3).put o10.dst u4) w' K (NoPanic Q))
  (h:∀ (u0 u1 u2 u3 u4:Value) w',IE u0 u1 u2 u3 u4 w'→Q .normal (((((A5.put o6.dst u0).put o7.dst u1).put o8.dst u2).put o9.dst u3).put o10.dst u4) w') :
  (Code.region id #[o0,o1,o2,o3,o4,o5,o6,o7,o8,o9,o10,o11] true).wp P Q a w:=by
 subst p0 p1 p2 p3 p4 p5
 obtain ⟨z0,z1,z2,z3,z4,z5⟩:=hIT
 refine wp_region_noPanic ?_
 refine wp_region_any hm ?_
 refine AnyL.any (S:=fun d w'=>d.getD 11 true = false→T w') _ _ _ _ ?_
 show AnyL P .any #[o0,o1,o2,o3,o4,o5,o6,o7,o8,o9,o10,o11] (NoPanic Q) _ 12 #[false,false,false,false,false,false,false,false,false,false,false,false] a w.drew
 have hSi:∀ i,i≠11→∀ (d:Array Bool) (w':World),((d.setIfInBounds i true).getD 11 true = false→T w')↔(d.getD 11 true = false→T w'):=by
  intro i h4 d w'
  rw [getD_set_ne true h4]
 refine AnyL.take (i:=0) (t:=11) (oi:=o0) (ot:=o11) (T:=T) rfl rfl (by decide) hs f0 r0 e0 (fun _ _ _ h=>h) (fun d w' h9 hd=>h9 hd) (hSi 0 (by decide)) hy0 rfl (fun _=>z0 _ i0) ?_
 refine AnyL.take (i:=1) (t:=11) (oi:=o1) (ot:=o11) (T:=T) rfl rfl (by decide) hs f1 r1 e1 (fun _ _ _ h=>h) (fun d w' h9 hd=>h9 hd) (hSi 1 (by decide)) hy1 rfl (fun _=>z0 _ i0) ?_
 refine AnyL.take (i:=2) (t:=11) (oi:=o2) (ot:=o11) (T:=T) rfl rfl (by decide) hs f2 r2 e2 (fun _ _ _ h=>h) (fun d w' h9 hd=>h9 hd) (hSi 2 (by decide)) hy2 rfl (fun _=>z0 _ i0) ?_
 refine AnyL.take (i:=3) (t:=11) (oi:=o3) (ot:=o11) (T:=T) rfl rfl (by decide) hs f3 r3 e3 (fun _ _ _ h=>h) (fun d w' h9 hd=>h9 hd) (hSi 3 (by decide)) hy3 rfl (fun _=>z0 _ i0) ?_
 refine AnyL.take (i:=4) (t:=11) (oi:=o4) (ot:=o11) (T:=T) rfl rfl (by decide) hs f4 r4 e4 (fun _ _ _ h=>h) (fun d w' h9 hd=>h9 hd) (hSi 4 (by decide)) hy4 rfl (fun _=>z0 _ i0) ?_
 refine AnyL.take (i:=5) (t:=11) (oi:=o5) (ot:=o11) (T:=T) rfl rfl (by decide) hs f5 r5 e5 (fun _ _ _ h=>h) (fun d w' h9 hd=>h9 hd) (hSi 5 (by decide)) hy5 rfl (fun _=>z0 _ i0) ?_
 refine AnyL.forced q6 rfl g6 (fun K hK=>s0  w.drew i0 K (fun u0 w1 i1=>hK _ _ (fun _=>z1 u0 w1 i1) ?_))
 refine AnyL.forced q7 rfl g7 (fun K hK=>s1 u0 w1 i1 K (fun u1 w2 i2=>hK _ _ (fun _=>z2 u0 u1 w2 i2) ?_))
 refine AnyL.forced q8 rfl g8 (fun K hK=>s2 u0 u1 w2 i2 K (fun u2 w3 i3=>hK _ _ (fun _=>z3 u0 u1 u2 w3 i3) ?_))
 refine AnyL.forced q9 rfl g9 (fun K hK=>s3 u0 u1 u2 w3 i3 K (fun u3 w4 i4=>hK _ _ (fun _=>z4 u0 u1 u2 u3 w4 i4) ?_))
 refine AnyL.forced q10 rfl g10 (fun K hK=>s4 u0 u1 u2 u3 w4 i4 K (fun u4 w5 i5=>hK _ _ (fun _=>z5 u0 u1 u2 u3 u4 w5 i5) ?_))
 refine AnyL.forced q11 rfl g11 (fun K hK=>se u0 u1 u2 u3 u4 w5 i5 K (fun we ie=>hK _ _ (fun h9=>(by cases h9)) ?_))
 exact ⟨rr,NoPanic.normal (h u0 u1 u2 u3 u4 we ie)⟩
end
end
section
open Go.RowKit Go.BigFrame Go.Maps Go.Sort
theorem xb9g {t:DF × Value} {u:Value} {j:Nat} (hj:j < 4):∀ {ts:List (DF × Value)} {i:Nat} (hi:i < ts.length) (he:dfC t = (dfC ts[i]).set j u),(ts.flatMap dfC).set (i * 4 + j) u = (ts.set i t).flatMap dfC
 | a :: r,0,hi,he=>by
  simp only [List.getElem_cons_zero] at he
  rw [List.set_cons_zero,List.flatMap_cons,List.flatMap_cons,he,Nat.zero_mul,Nat.zero_add,List.set_append_left _ _ (by simp [dfC]; omega)]
 | a :: r,i + 1,hi,he=>by
  have hi':i < r.length:=by simpa using hi
  have ih:=xb9g hj hi' (by simpa using he)
  rw [List.set_cons_succ,List.flatMap_cons,List.flatMap_cons,List.set_append_right _ _ (by simp [dfC]; omega),← ih]
  congr 2
  simp [dfC]; omega
theorem OwnFl.row {B:Nat} {w:World} {g n cap:Nat} {ts:List (DF × Value)} (h:OwnFl B w (.slice (some ⟨g,0,none⟩) n cap) ts):∃ cur,w.heap[g]? = some (.cells cur 74 (0,0)):=by
 rcases h.own.2 with ⟨hv,_⟩ | ⟨g9,c9,cur9,hv,_,hg9,_⟩
 ·cases hv
 ·cases hv; exact ⟨_,hg9⟩
theorem OwnFl.five {B:Nat} {w:World} {v:Value} {ts:List (DF × Value)} (h:OwnFl B w v ts) {t:DF × Value} (ht:t∈ts) {x:Nat} (hx:x∈blk t.2):∃ cs,w.heap[x]? = some (.cells cs 5 (0,0)):=xa0f (h.el t ht).1 hx
theorem OwnFl.set {B:Nat} {w:World} {g cap:Nat} {ts:List (DF × Value)} (h:OwnFl B w (.slice (some ⟨g,0,none⟩) ts.length cap) ts) {i:Nat} (hi:i < ts.length) {j:Nat} (hj:j < 4) {t:DF × Value} {u:Value} (he:dfC t = (dfC ts[i]).set j u)
  (hel:w.ownsRow B 5 1 t.2 t.1.bs.length (t.1.bs.map u8)∧(∀ x∈t.1.bs,x < 256)∧t.1.bs.length≤140737488355328) (hap:∀ k (hk:k < ts.length),k≠i→∀ x∈blk ts[k].2,x∉blk t.2) :
  OwnFl B (w.setCell ⟨g,i * 4 + j,none⟩ u) (.slice (some ⟨g,0,none⟩) ts.length cap) (ts.set i t):=by
 have kz:=(Kept.refl [g] w).setCell (p:=⟨g,i * 4 + j,none⟩) (.inl (by simp)) u
 obtain ⟨cur,hrow⟩:=h.row
 have h5:∀ {v:Value} {n:Nat} {xs:List Value},w.ownsRow B 5 1 v n xs→∀ x,v.ownBlock = some x→x∉[g]:=by
  intro v n xs ho x hx
  obtain ⟨cs,hc⟩:=xa0f ho (xa1a hx)
  simp only [List.mem_singleton]
  exact xa0i hc hrow (by decide)
 refine ⟨?_,?_,?_⟩
 ·have h1:=(h.own.stored (i * 4 + j) u).1
  rw [xb9g hj hi he] at h1
  rw [List.length_set]
  exact h1
 ·intro a ha
  rcases List.mem_or_eq_of_mem_set ha with h1 | rfl
  ·exact ⟨kz.owns (h.el a h1).1 (h5 (h.el a h1).1),(h.el a h1).2⟩
  ·exact ⟨kz.owns hel.1 (h5 hel.1),hel.2⟩
 ·rw [List.pairwise_iff_getElem]
  have hp:=List.pairwise_iff_getElem.1 h.ap
  intro a b ha hb hab
  rw [List.length_set] at ha hb
  rw [List.getElem_set,List.getElem_set]
  split
  ·rename_i h1
   subst h1
   rw [if_neg (by omega)]
   intro x hx hy
   exact hap b hb (by omega) x hy hx
  ·rename_i h1
   split
   ·rename_i h2
    subst h2
    exact hap a ha (by omega)
   ·exact hp a b ha hb hab
theorem OwnFl.frz {B:Nat} {w:World} {g n cap:Nat} {ts:List (DF × Value)} (h:OwnFl B w (.slice (some ⟨g,0,none⟩) n cap) ts) (k:Nat):w.frozen? ⟨g,k,none⟩ = false:=by
 obtain ⟨cur,hrow⟩:=h.row
 exact frozen_of_row _ _ k _ _ hrow
theorem rk_ne {w:World} {c:Nat} {cs:Array Value} {fsv:Value} {ts:List (DF × Value)} (h1:w.heap[c]? = some (.cells cs 94 (0,0))) (h2:OwnFl 0 w fsv ts):∀ x∈flB fsv ts,x≠c:=by
 intro x hx
 simp only [flB,List.mem_append,List.mem_flatMap] at hx
 rcases hx with hx | ⟨t,ht,hx⟩
 ·obtain ⟨cs9,hc⟩:=xa0f h2.own hx
  exact xa0i hc h1 (by decide)
 ·obtain ⟨cs9,hc⟩:=h2.five ht hx
  exact xa0i hc h1 (by decide)
theorem RK.turn {w w':World} {c nb bb:Nat} {R:List Nat} {σ:DSt} (h:RK w c R nb bb σ) (k:Kept [c] w w') (cr op:Int) (off:Bool) (hop:0≤op∧op≤nb)
  (hr:∀ fsv fav,w.heap[c]? = some (.cells #[.int .i64 (σ.sec:Int),fsv,fav,.int .i64 σ.cr,.int .i64 σ.op,.bool σ.off] 94 (0,0))→w'.heap[c]? = some (.cells #[.int .i64 (σ.sec:Int),fsv,fav,.int .i64 cr,.int .i64 op,.bool off] 94 (0,0))) :
  RK w' c R nb bb ⟨σ.sec,cr,op,off,σ.ft,σ.A⟩:=by
 obtain ⟨fsv,ts,fav,fl,h1,h2,h3,h4,h5,h6,h7,h8,h9,rfl⟩:=h.ex
 refine ⟨⟨fsv,ts,fav,fl,hr _ _ h1,h2.keptF k (fun x hx=>by simpa using rk_ne h1 h2 x hx),h3,h4.keptZ k (fun x hx e=>by simp at e; subst e; exact h7 hx),h5,h6,h7,h8,fun x hx=>Nat.lt_of_lt_of_le (h9 x hx) k.size,rfl⟩,hop,h.len,h.byt,h.secb,h.syl,h.dist⟩
theorem xb4v (A:List DF) (s:List UInt8):(fndI A s < 0) = ((findA A s).isSome = false):=by
 rw [← xa3w]
 unfold fndI
 cases fndA A s with
 | none=>simp
 | some i=>simp
theorem xb9c {A:List DF} (hd:Dist A) {s:ByteArray} {i:Nat} (h:fndA A s.data.toList = some i) (F:DF→DF):∃ hi:i < A.length,upA A s F = A.set i (F A[i])∧A[i].nm = s:=by
 obtain ⟨hi,h1,h2⟩:=xb5r h
 have hnm:A[i].nm = s:=ba_ext h1
 refine ⟨hi,?_,hnm⟩
 unfold upA
 apply List.ext_getElem
 ·simp
 ·intro k hk hk2
  rw [List.getElem_map,List.getElem_set]
  by_cases e:i = k
  ·subst e
   rw [if_pos hnm,if_pos rfl]
  ·rw [if_neg e,if_neg]
   intro e2
   have hp:=List.pairwise_iff_getElem.1 hd
   simp at hk
   rcases Nat.lt_or_gt_of_ne e with h9 | h9
   ·exact hp i k hi hk h9 (by rw [hnm,e2])
   ·exact hp k i hk hi h9 (by rw [hnm,e2])
set_option maxHeartbeats 1000000 in
theorem xb7l (c nb bb:Nat) (R:List Nat) (σ:DSt) (s:ByteArray) (w:World) (h:RK w c R nb bb σ) (hs:s.size≤140737488355328) (hn:nb≤1000000000) :
  Calls Tryz.prog 137 #[.pointer (some ⟨c,0,none⟩),.int .i64 1,.string s] w fun e w'=>e = .returned (.int .i64 (ownA σ.A s:Nat))∧w' = w:=by
 have HN:=hide (xb0l s w hs)
 have HF:=hide (xa3o c nb bb R σ s w h hn)
 have HI:=hide (xb4v σ.A s.data.toList)
 clear h
 obtain ⟨E,hE⟩:∃ E,ownA σ.A s = E:=⟨_,rfl⟩
 rw [hE]
 unfold ownA at hE
 have HE:=hide hE
 clear hE
 cases hN:isNm s
 ·rw [hN] at HN HE
  clear hN
  go_enter Tryz.func137,Tryz.ntmps137
  go_wp2_with fail
  refine Calls.mono (uh HN) ?_
  rintro e w1 ⟨rfl,hw1⟩
  rw [hw1]
  clear hw1 w1
  go_wp2_with fail
  go_ret
  exact ⟨by rw [← uh HE]; rfl,rfl⟩
 ·rw [hN] at HN HE
  clear hN
  go_enter Tryz.func137,Tryz.ntmps137
  go_wp2_with fail
  refine Calls.mono (uh HN) ?_
  rintro e w1 ⟨rfl,hw1⟩
  rw [hw1]
  clear hw1 w1
  go_wp2_with fail
  refine Calls.mono (uh HF) ?_
  rintro e w1 ⟨rfl,hw1⟩
  rw [hw1]
  clear hw1 w1
  cases hq:(findA σ.A s.data.toList).isSome
  ·have h9:fndI σ.A s.data.toList < 0:=by rw [uh HI]; exact hq
   generalize fndI σ.A s.data.toList = I at h9
   have h8:¬ 0≤I:=by omega
   rw [hq] at HE
   clear hq HI
   go_wp2_with fail
   go_ret
   exact ⟨by rw [← uh HE]; rfl,rfl⟩
  ·have h9:¬ fndI σ.A s.data.toList < 0:=by rw [uh HI]; simp [hq]
   generalize fndI σ.A s.data.toList = I at h9
   have h8:0≤I:=by omega
   rw [hq] at HE
   clear hq HI
   go_wp2_with fail
   go_ret
   exact ⟨by rw [← uh HE]; rfl,rfl⟩
set_option maxHeartbeats 1000000 in
theorem xb1l (kd:Nat) (hkd:kd = 2∨kd = 3) (c nb bb:Nat) (R:List Nat) (σ:DSt) (s:ByteArray) (w:World) (h:RK w c R nb bb σ) (hn:nb≤1000000000) :
  Calls Tryz.prog 137 #[.pointer (some ⟨c,0,none⟩),.int .i64 kd,.string s] w fun e w'=>e = .returned (.int .i64 ((if (findA σ.A s.data.toList).isSome then 0 else 5:Nat):Nat))∧w' = w:=by
 have HF:=hide (xa3o c nb bb R σ s w h hn)
 have HI:=hide (xb4v σ.A s.data.toList)
 clear h
 obtain ⟨E,hE⟩:∃ E,(if (findA σ.A s.data.toList).isSome then 0 else 5:Nat) = E:=⟨_,rfl⟩
 rw [hE]
 have HE:=hide hE
 clear hE
 rcases hkd with rfl | rfl
 all_goals
  go_enter Tryz.func137,Tryz.ntmps137
  go_wp2_with fail
  refine Calls.mono (uh HF) ?_
  rintro e w1 ⟨rfl,hw1⟩
  rw [hw1]
  clear hw1 w1
  cases hq:(findA σ.A s.data.toList).isSome
  ·have h9:fndI σ.A s.data.toList < 0:=by rw [uh HI]; exact hq
   generalize fndI σ.A s.data.toList = I at h9
   rw [hq] at HE
   clear hq HI
   go_wp2_with fail
   go_ret
   exact ⟨by rw [← uh HE]; rfl,rfl⟩
  ·have h9:¬ fndI σ.A s.data.toList < 0:=by rw [uh HI]; simp [hq]
   generalize fndI σ.A s.data.toList = I at h9
   rw [hq] at HE
   clear hq HI
   go_wp2_with fail
   go_ret
   exact ⟨by rw [← uh HE]; rfl,rfl⟩
set_option maxHeartbeats 1000000 in
theorem xb7t (c:Nat) (s:ByteArray) (w:World) :
  Calls Tryz.prog 137 #[.pointer (some ⟨c,0,none⟩),.int .i64 4,.string s] w fun e w'=>e = .returned (.int .i64 0)∧w' = w:=by
 go_enter Tryz.func137,Tryz.ntmps137
 go_wp2_with fail
 go_ret
 exact ⟨rfl,rfl⟩
theorem xa4k {ops:Array Oper} {rest:List Oper} {o:Oper} {a:Act} {Q:Exit→Act→World→Prop} (hgd:o.guard = none) (s x:Operand)
  (ho:o.op = .call { callee:=.builtin .append,args:=#[s,x],argTypes:=#[42,42] }) (hty:o.type = 42)
  (w:World) (B:Nat) (v:Value) (ts:List (DF × Value)) (t:DF × Value) (H:Nat) (h:OwnFl B w v ts) (hnew:w.heap[H]? = some (.cells (dfC t).toArray 74 (0,0))) (ho2:w.ownsRow B 5 1 t.2 t.1.bs.length (t.1.bs.map u8)∧(∀ x∈t.1.bs,x < 256)∧t.1.bs.length≤140737488355328)
  (ha:∀ a∈ts,∀ x∈blk a.2,x∉blk t.2) (hl:ts.length + 1≤1000000000) (hb:B≤w.heap.size) (hs:a.eval s = v) (hx:a.eval x = .slice (some ⟨H,0,none⟩) 1 1)
  (hK:∀ g cap w1,Hid (OwnFl B w1 (.slice (some ⟨g,0,none⟩) (ts.length + 1) cap) (ts++[t]))→Hid (w.grownBy w1 v.ownBlock)→Hid (v.ownBlock = some g∨g = w.heap.size) →
   wpList Tryz.prog ops Q rest (a.put o.dst (.slice (some ⟨g,0,none⟩) (ts.length + 1) cap)) w1) :
  wpList Tryz.prog ops Q (o :: rest) a w:=by
 obtain ⟨g,cap,w1,hrun,h2,h3,h4⟩:=pushFl w B v ts t H h hnew ho2 ha hl hb
 refine wpList_plain hgd fun K hK'=>?_
 unfold Oper.wp execOp
 simp only [ho,hty,resolve,invoke,builtin,Sem.run_bind,Sem.run_pure,Result.andThen_ok,List.map_toArray,List.map_cons,List.map_nil,hs,hx,hrun]
 exact hK' _ _ (hK g cap w1 h2 h3 h4)
def rkC (σ:DSt) (fsv fav:Value):Array Value:=#[.int .i64 (σ.sec:Int),fsv,fav,.int .i64 σ.cr,.int .i64 σ.op,.bool σ.off]
structure RP (w:World) (c:Nat) (σ:DSt) (fsv:Value) (ts:List (DF × Value)) (fav:Value) (fl:List (Int × Int)) (nb:Nat):Prop where
 row:w.heap[c]? = some (.cells (rkC σ fsv fav) 94 (0,0))
 own:OwnFl 0 w fsv ts
 fst:ts.map Prod.fst = σ.A
 rd:RdC 2 w fav (fl.map faC)
 fll:fl.length≤1048576
 ft:fstF fl = σ.ft
 ca:c∉zblk fav (fl.map faC)
 fa:∀ x∈blk fsv,x∉zblk fav (fl.map faC)
 lt:∀ x∈zblk fav (fl.map faC),x < w.heap.size
def rkB (c:Nat) (fsv:Value) (ts:List (DF × Value)) (fav:Value) (fl:List (Int × Int)):List Nat:=c :: (flB fsv ts++zblk fav (fl.map faC))
theorem RK.parts {w:World} {c nb bb:Nat} {R:List Nat} {σ:DSt} (h:RK w c R nb bb σ):∃ fsv ts fav fl,RP w c σ fsv ts fav fl nb∧R = rkB c fsv ts fav fl:=by
 obtain ⟨fsv,ts,fav,fl,h1,h2,h3,h4,h5,h6,h7,h8,h9,h10⟩:=h.ex
 exact ⟨fsv,ts,fav,fl,⟨h1,h2,h3,h4,h5,h6,h7,h8,h9⟩,h10⟩
theorem RP.rk {w:World} {c nb bb:Nat} {σ:DSt} {fsv:Value} {ts:List (DF × Value)} {fav:Value} {fl:List (Int × Int)} (h:RP w c σ fsv ts fav fl nb) (opb:0≤σ.op∧σ.op≤nb) (len:σ.A.length≤nb) (byt:∀ f∈σ.A,f.bs.length≤bb) (secb:1≤σ.sec∧σ.sec≤4096) (syl:∀ f∈σ.A,f.sy≤f.bs.length) (dist:Dist σ.A):RK w c (rkB c fsv ts fav fl) nb bb σ :=
 ⟨⟨fsv,ts,fav,fl,h.row,h.own,h.fst,h.rd,h.fll,h.ft,h.ca,h.fa,h.lt,rfl⟩,opb,len,byt,secb,syl,dist⟩
theorem RP.old {w w':World} {c nb:Nat} {σ:DSt} {fsv:Value} {ts:List (DF × Value)} {fav:Value} {fl:List (Int × Int)} (h:RP w c σ fsv ts fav fl nb) (k:Kept [] w w'):RP w' c σ fsv ts fav fl nb :=
 ⟨k.heap h.row (by simp),h.own.keptF k (by simp),h.fst,h.rd.keptZ k (by simp),h.fll,h.ft,h.ca,h.fa,fun x hx=>Nat.lt_of_lt_of_le (h.lt x hx) k.size⟩
theorem RP.len {w:World} {c nb:Nat} {σ:DSt} {fsv:Value} {ts:List (DF × Value)} {fav:Value} {fl:List (Int × Int)} (h:RP w c σ fsv ts fav fl nb):ts.length = σ.A.length:=by
 have:=congrArg List.length h.fst; simpa using this
theorem RP.row_push {w W w5:World} {c nb:Nat} {σ:DSt} {fsv:Value} {ts:List (DF × Value)} {fav:Value} {fl:List (Int × Int)} (h:RP w c σ fsv ts fav fl nb) (k:Kept [] w W) (hg:W.grownBy w5 fsv.ownBlock):w5.heap[c]? = some (.cells (rkC σ fsv fav) 94 (0,0)):=by
 have k5:Kept fsv.ownBlock.toList W w5:=(Kept.refl _ W).grown hg (by intro x hx; left; simp [hx])
 refine k5.heap (k.heap h.row (by simp)) ?_
 intro hm
 simp only [Option.mem_toList] at hm
 exact rk_ne h.row h.own c (by simp only [flB,List.mem_append]; exact .inl (xa1a hm)) rfl
theorem RP.push {w W w5:World} {c nb:Nat} {σ:DSt} {fsv:Value} {ts:List (DF × Value)} {fav:Value} {fl:List (Int × Int)} (h:RP w c σ fsv ts fav fl nb) (k:Kept [] w W) {g cap:Nat} {t:DF × Value} (ho:OwnFl 0 w5 (.slice (some ⟨g,0,none⟩) (ts.length + 1) cap) (ts++[t])) (hg:W.grownBy w5 fsv.ownBlock) (hat:fsv.ownBlock = some g∨g = W.heap.size) (hnew:∀ x∈blk t.2,w.heap.size≤x) :
  RP (w5.setCell ⟨c,1,none⟩ (.slice (some ⟨g,0,none⟩) (ts.length + 1) cap)) c ⟨σ.sec,σ.cr,σ.op,σ.off,σ.ft,σ.A++[t.1]⟩ (.slice (some ⟨g,0,none⟩) (ts.length + 1) cap) (ts++[t]) fav fl nb ∧
   Ev w (w5.setCell ⟨c,1,none⟩ (.slice (some ⟨g,0,none⟩) (ts.length + 1) cap)) (rkB c fsv ts fav fl) (rkB c (.slice (some ⟨g,0,none⟩) (ts.length + 1) cap) (ts++[t]) fav fl):=by
 have hrow:=h.row_push k hg
 have k5:Kept fsv.ownBlock.toList w w5:=(k.mono (by simp)).grown hg (by intro x hx; left; simp [hx])
 have kz:=(Kept.refl [c] w5).setCell (p:=⟨c,1,none⟩) (.inl (by simp)) (.slice (some ⟨g,0,none⟩) (ts.length + 1) cap)
 have hne:=rk_ne hrow ho
 refine ⟨⟨?_,ho.keptF kz (fun x hx=>by simpa using hne x hx),by rw [List.map_append,h.fst]; rfl,?_,h.fll,h.ft,h.ca,?_,fun x hx=>Nat.lt_of_lt_of_le (h.lt x hx) (Nat.le_trans k5.size kz.size)⟩,?_,?_⟩
 ·rw [heap_setCell_same _ _ 1 _ _ _ hrow]; rfl
 ·refine (h.rd.keptZ k5 (fun x hx hm=>?_)).keptZ kz (fun x hx hm=>?_)
  ·simp only [Option.mem_toList] at hm
   exact h.fa x (xa1a hm) hx
  ·simp at hm; subst hm; exact h.ca hx
 ·intro x hx hm
  simp only [blk,List.mem_singleton] at hx
  subst hx
  rcases hat with h1 | h1
  ·exact h.fa _ (xa1a h1) hm
  ·have:=h.lt _ hm; have:=k.size; omega
 ·refine (k5.mono ?_).setCell (.inl (by simp [rkB])) _
  intro x hx
  simp only [Option.mem_toList] at hx
  simp only [rkB,flB,List.mem_cons,List.mem_append]
  exact .inr (.inl (.inl (xa1a hx)))
 ·intro x hx
  simp only [rkB,flB,List.mem_cons,List.mem_append,List.mem_flatMap,List.mem_singleton,List.not_mem_nil,or_false] at hx ⊢
  rcases hx with rfl | (hx | ⟨a,ha,hx⟩) | hx
  ·exact .inl (.inl rfl)
  ·simp only [blk,List.mem_singleton] at hx
   subst hx
   rcases hat with h1 | h1
   ·exact .inl (.inr (.inl (.inl (xa1a h1))))
   ·right; have:=k.size; omega
  ·rcases ha with ha | rfl
   ·exact .inl (.inr (.inl (.inr ⟨a,ha,hx⟩)))
   ·exact .inr (hnew x hx)
  ·exact .inl (.inr (.inr hx))
set_option maxHeartbeats 1000000 in
theorem xb3u (c nb bb:Nat) (R:List Nat) (σ:DSt) (s:ByteArray) (pv:Value) (w:World) (h:RK w c R nb bb σ) (hn:nb≤900000000) (hnew:∀ f∈σ.A,f.nm≠s) :
  Calls Tryz.prog 138 #[.pointer (some ⟨c,0,none⟩),.int .i64 1,.string s,pv] w fun e w'=>e = .returned (.tuple #[])∧∃ R',RK w' c R' (nb + 1) bb ⟨σ.sec,σ.cr,σ.op,σ.off,σ.ft,σ.A++[⟨s,[],0,false⟩]⟩∧Ev w w' R R':=by
 obtain ⟨fsv,ts,fav,fl,hp,rfl⟩:=h.parts
 obtain ⟨a3,c3,hv3,hg3⟩:=hp.own.shapeL
 subst hv3
 have hl:=hp.len
 have hll:=h.len
 have q1:=cell_of_row _ _ 1 _ _ _ hp.row
 simp [rkC] at q1
 have HP:=hide hp
 have H:=hide h
 have HNW:=hide hnew
 have HO:=hide (hp.own.keptF ((Kept.refl [] w).alloc (.cells #[.string s,.slice none 0 0,.int .i64 0,.bool false] 74 (0,0))) (by simp))
 have HG:=hide (heap_alloc_new w (.cells #[.string s,.slice none 0 0,.int .i64 0,.bool false] 74 (0,0)))
 have HL:=hide (by omega:ts.length + 1≤1000000000)
 clear hp h hnew hl hll hg3
 go_enter Tryz.func138,Tryz.ntmps138
 go_wp2_with (at_builtin; refine xa4k rfl (.tmp 18) (.tmp 21) rfl rfl _ 0 (.slice a3 ts.length c3) ts (⟨s,[],0,false⟩,.slice none 0 0) w.heap.size (uh HO) (uh HG) ⟨World.ownsRow_nil _ _ _ _,by simp,by simp⟩ (by simp [blk]) (uh HL) (Nat.zero_le _) rfl rfl ?_; intro g5 cap5 w5 HO5 HGR5 HA5; have HROW:=hide ((uh HP).row_push ((Kept.refl [] w).alloc _) (uh HGR5)); have r1:=cell_of_row _ _ 1 _ _ _ (uh HROW); simp [rkC] at r1; have z1:=frozen_of_row _ _ 1 _ _ (uh HROW))
 have hfin:=(uh HP).push ((Kept.refl [] w).alloc _) (uh HO5) (uh HGR5) (uh HA5) (by simp [blk])
 refine bodyPost_end (v:=.tuple #[]) (results_none rfl _ _ _) rfl ⟨rfl,_,?_,hfin.2⟩
 have h9:=uh H
 refine RP.rk ⟨hfin.1.row,hfin.1.own,hfin.1.fst,hfin.1.rd,by have:=hfin.1.fll; omega,hfin.1.ft,hfin.1.ca,hfin.1.fa,hfin.1.lt⟩ ⟨h9.opb.1,by have:=h9.opb.2; show σ.op≤_; omega⟩ (by have:=h9.len; simp; omega) ?_ h9.secb ?_ ?_
 ·intro f hf
  simp only [List.mem_append,List.mem_singleton] at hf
  rcases hf with hf | rfl
  ·exact h9.byt f hf
  ·simp
 ·intro f hf
  simp only [List.mem_append,List.mem_singleton] at hf
  rcases hf with hf | rfl
  ·exact h9.syl f hf
  ·simp
 ·unfold Dist
  rw [List.pairwise_append]
  exact ⟨h9.dist,List.pairwise_singleton _ _,by intro a ha b hb; simp only [List.mem_singleton] at hb; subst hb; exact uh HNW a ha⟩
theorem RP.setf {w W:World} {c nb:Nat} {σ:DSt} {g cap:Nat} {ts:List (DF × Value)} {fav:Value} {fl:List (Int × Int)} (h:RP w c σ (.slice (some ⟨g,0,none⟩) ts.length cap) ts fav fl nb) (k:Kept [] w W) {i:Nat} (hi:i < ts.length) {j:Nat} (hj:j < 4) {t:DF × Value} {u:Value} (he:dfC t = (dfC ts[i]).set j u)
  (hel:W.ownsRow 0 5 1 t.2 t.1.bs.length (t.1.bs.map u8)∧(∀ x∈t.1.bs,x < 256)∧t.1.bs.length≤140737488355328) (hnew:∀ x∈blk t.2,x∈blk ts[i].2∨w.heap.size≤x) :
  RP (W.setCell ⟨g,i * 4 + j,none⟩ u) c ⟨σ.sec,σ.cr,σ.op,σ.off,σ.ft,σ.A.set i t.1⟩ (.slice (some ⟨g,0,none⟩) ts.length cap) (ts.set i t) fav fl nb ∧
   Ev w (W.setCell ⟨g,i * 4 + j,none⟩ u) (rkB c (.slice (some ⟨g,0,none⟩) ts.length cap) ts fav fl) (rkB c (.slice (some ⟨g,0,none⟩) ts.length cap) (ts.set i t) fav fl):=by
 have hW:=h.old k
 have hgb:g∈blk (.slice (some ⟨g,0,none⟩) ts.length cap):=by simp [blk]
 have hcg:c≠g:=fun e=>rk_ne h.row h.own g (by simp only [flB,List.mem_append]; exact .inl hgb) e.symm
 have kz:=(Kept.refl [g] W).setCell (p:=⟨g,i * 4 + j,none⟩) (.inl (by simp)) u
 have hp:=List.pairwise_iff_getElem.1 h.own.ap
 have hap:∀ k (hk:k < ts.length),k≠i→∀ x∈blk ts[k].2,x∉blk t.2:=by
  intro k hk hne x hx hy
  rcases hnew x hy with h1 | h1
  ·rcases Nat.lt_or_gt_of_ne hne with h2 | h2
   ·exact hp k i hk hi h2 x hx h1
   ·exact hp i k hi hk h2 x h1 hx
  ·have:=(h.own.ge x (by simp only [flB,List.mem_append,List.mem_flatMap]; exact .inr ⟨ts[k],List.getElem_mem hk,hx⟩)).2
   omega
 refine ⟨⟨kz.heap hW.row (by simpa using hcg),hW.own.set hi hj he hel hap,by rw [List.map_set,h.fst],?_,h.fll,h.ft,h.ca,h.fa,fun x hx=>Nat.lt_of_lt_of_le (hW.lt x hx) kz.size⟩,?_,?_⟩
 ·exact hW.rd.keptZ kz (fun x hx hm=>by simp at hm; subst hm; exact h.fa _ hgb hx)
 ·refine (k.mono (by simp)).setCell (.inl ?_) _
  simp [rkB,flB,blk]
 ·intro x hx
  simp only [rkB,flB,List.mem_cons,List.mem_append,List.mem_flatMap] at hx ⊢
  rcases hx with rfl | (hx | ⟨a,ha,hx⟩) | hx
  ·exact .inl (.inl rfl)
  ·exact .inl (.inr (.inl (.inl hx)))
  ·rcases List.mem_or_eq_of_mem_set ha with h1 | rfl
   ·exact .inl (.inr (.inl (.inr ⟨a,h1,hx⟩)))
   ·rcases hnew x hx with h2 | h2
    ·exact .inl (.inr (.inl (.inr ⟨ts[i],List.getElem_mem hi,h2⟩)))
    ·exact .inr h2
  ·exact .inl (.inr (.inr hx))
set_option maxHeartbeats 2000000 in
theorem xb6g (c nb bb:Nat) (R:List Nat) (σ:DSt) (s:ByteArray) (pv:Value) (ps:List Nat) (i:Nat) (w:World) (h:RK w c R nb bb σ) (hn:nb≤1000000000) (hf:fndA σ.A s.data.toList = some i) (hpr:Rd w pv ps) (hb:bb + ps.length≤140737488350000) :
  Calls Tryz.prog 138 #[.pointer (some ⟨c,0,none⟩),.int .i64 2,.string s,pv] w fun e w'=>e = .returned (.tuple #[])∧∃ R',RK w' c R' nb (bb + ps.length) ⟨σ.sec,σ.cr,σ.op,σ.off,σ.ft,upA σ.A s fun f=>{ f with bs:=f.bs++ps }⟩∧Ev w w' R R':=by
 obtain ⟨pa,pl,pc,hpv⟩:∃ a l c,pv = .slice a l c:=by obtain ⟨a,l,c,h1,_⟩:=hpr; exact ⟨a,l,c,h1⟩
 subst hpv
 obtain ⟨fsv,ts,fav,fl,hp,rfl⟩:=h.parts
 obtain ⟨a3,c3,hv3,hg3⟩:=hp.own.shapeL
 subst hv3
 have hl:=hp.len
 have hll:=h.len
 obtain ⟨hi,hup,hnm⟩:=xb9c h.dist hf (fun f=>{ f with bs:=f.bs++ps })
 have hit:i < ts.length:=by omega
 obtain ⟨g,rfl⟩:=hg3 (by omega)
 have q1:=cell_of_row _ _ 1 _ _ _ hp.row
 simp [rkC] at q1
 obtain ⟨p0,p1,p2,p3⟩:=xa4x hp.own.rd hit
 have hx:=fst_at hp.fst hit hi
 have hrd:=hp.own.rd.2 ts[i] (List.getElem_mem hit)
 obtain ⟨xa,xl,xc,hxv,hxl,_⟩:=id hrd
 have hfi:fndI σ.A s.data.toList = (i:Int):=by unfold fndI; rw [hf]
 have HFI:=hide (fun W (k:Kept [] w W)=>by have h9:=xa3o c nb bb _ σ s W (h.old k) hn; rw [hfi] at h9; exact h9)
 rw [hxv] at p1
 have z1:=hp.own.frz (i * 4 + 1)
 have HZ:=hide (fun (W:World) (k:Kept [] w W)=>(hp.old k).own.frz (i * 4 + 1))
 have HP:=hide hp
 have H:=hide h
 have hib:(i:Int) < ts.length:=by omega
 have HUP:=hide hup
 have HX:=hide hx
 have HXV:=hide hxv
 have HRD:=hide hrd
 have HXL:=hide hxl
 have HPR:=hide hpr
 have HBL:=hide (by rw [hx]; exact h.byt _ (List.getElem_mem hi):ts[i].1.bs.length≤bb)
 clear hp h hl hll hg3 hf hup hnm hx hfi hrd hxl hxv z1 p0 p2 p3 hpr
 go_enter Tryz.func138,Tryz.ntmps138
 go_wp2_with fail
 refine Calls.mono (uh HFI _ (Kept.refl _ _)) ?_
 rintro e w1 ⟨rfl,hw1⟩
 rw [hw1]
 clear hw1 w1
 go_upto_region 5 with fail
 refine xc3c (by kernel_rfl) (by kernel_rfl) (by kernel_rfl) (by kernel_rfl) (by kernel_rfl) (by kernel_rfl) (by kernel_rfl) (by kernel_rfl) (by kernel_rfl) (by kernel_rfl) (by kernel_rfl) (by kernel_rfl) (by kernel_rfl) (by kernel_rfl) (by kernel_rfl) (by kernel_rfl) (by kernel_rfl) (by kernel_rfl) (by kernel_rfl) (by kernel_rfl) (by kernel_rfl) (by kernel_rfl) (by kernel_rfl) (by kernel_rfl) (by kernel_rfl) (by kernel_rfl) (by kernel_rfl) (by kernel_rfl) (by kernel_rfl) (by kernel_rfl) (by kernel_rfl) (by kernel_rfl) (by kernel_rfl) (by kernel_rfl) (by kernel_rfl) (by kernel_rfl) (by kernel_rfl) (by kernel_rfl) (by kernel_rfl) (by kernel_rfl) (by kernel_rfl) (by kernel_rfl) (by kernel_rfl) (by kernel_rfl) (by kernel_rfl) rfl (by kernel_rfl) rfl (by kernel_rfl) rfl (by kernel_rfl) rfl (by kernel_rfl)
  (.pointer (some ⟨c,0,none⟩)) (.pointer (some ⟨c,0,none⟩)) (.pointer (some ⟨c,1,none⟩)) (.slice (some ⟨g,0,none⟩) ts.length c3) (.int .i64 (i:Int)) (.pointer (some ⟨c,0,none⟩)) (.pointer (some ⟨c,0,none⟩)) (.pointer (some ⟨c,1,none⟩)) (.slice (some ⟨g,0,none⟩) ts.length c3) (.int .i64 (i:Int)) (.pointer (some ⟨g,i * 4,none⟩)) (.pointer (some ⟨g,i * 4 + 1,none⟩)) (.slice xa xl xc) (.slice pa pl pc) _ _ _ _ _ _ _ _ _ _ _ _ _ _
  (fun w'=>Kept [] w w')
  (fun w'=>Kept [] w w')
  (fun u0 w'=>(w'.ownsRow w.heap.size 5 1 u0 (ts[i].1.bs++ps).length ((ts[i].1.bs++ps).map u8)∧∃ aa nn cc,u0 = .slice aa nn cc)∧Kept [] w w')
  (fun u0 u1 w'=>u1 = .pointer (some ⟨g,i * 4,none⟩)∧(w'.ownsRow w.heap.size 5 1 u0 (ts[i].1.bs++ps).length ((ts[i].1.bs++ps).map u8)∧∃ aa nn cc,u0 = .slice aa nn cc)∧Kept [] w w')
  (fun u0 u1 u2 w'=>u2 = .pointer (some ⟨g,i * 4 + 1,none⟩)∧(w'.ownsRow w.heap.size 5 1 u0 (ts[i].1.bs++ps).length ((ts[i].1.bs++ps).map u8)∧∃ aa nn cc,u0 = .slice aa nn cc)∧Kept [] w w')
  (fun u0 u1 u2 w'=>∃ R',RK w' c R' nb (bb + ps.length) ⟨σ.sec,σ.cr,σ.op,σ.off,σ.ft,upA σ.A s fun f=>{ f with bs:=f.bs++ps }⟩∧Ev w w' (rkB c (.slice (some ⟨g,0,none⟩) ts.length c3) ts fav fl) R')
  (by simp only [Act.put,sa1,sa2,sa3]; rfl) (by exact Or.inl ⟨by rfl,fun W' hW'=>by  go_simp⟩)
  (by simp only [Act.put,sa1,sa2,sa3]; rfl) (by exact Or.inl ⟨by rfl,fun W' hW'=>by  go_simp⟩)
  (by simp only [Act.put,sa1,sa2,sa3]; rfl) (by exact Or.inl ⟨by rfl,fun W' hW'=>by  go_simp⟩)
  (by simp only [Act.put,sa1,sa2,sa3]; rfl) (by exact Or.inl ⟨by rfl,fun W' hW'=>by have h90:=hW'.cell q1 (by simp); go_simp⟩)
  (by simp only [Act.put,sa1,sa2,sa3]; rfl) (by exact Or.inl ⟨by rfl,fun W' hW'=>by  go_simp⟩)
  (by simp only [Act.put,sa1,sa2,sa3]; rfl) (by exact Or.inl ⟨by rfl,fun W' hW'=>by  go_simp⟩)
  (by simp only [Act.put,sa1,sa2,sa3]; rfl) (by exact Or.inl ⟨by rfl,fun W' hW'=>by  go_simp⟩)
  (by simp only [Act.put,sa1,sa2,sa3]; rfl) (by exact Or.inl ⟨by rfl,fun W' hW'=>by  go_simp⟩)
  (by simp only [Act.put,sa1,sa2,sa3]; rfl) (by exact Or.inl ⟨by rfl,fun W' hW'=>by have h90:=hW'.cell q1 (by simp); go_simp⟩)
  (by simp only [Act.put,sa1,sa2,sa3]; rfl) (by exact Or.inl ⟨by rfl,fun W' hW'=>by  go_simp⟩)
  (by simp only [Act.put,sa1,sa2,sa3]; rfl) (by exact Or.inl ⟨by rfl,fun W' hW'=>by  go_simp⟩)
  (by simp only [Act.put,sa1,sa2,sa3]; rfl) (by exact Or.inl ⟨by rfl,fun W' hW'=>by  go_simp⟩)
  (by simp only [Act.put,sa1,sa2,sa3]; rfl) (by exact Or.inl ⟨by rfl,fun W' hW'=>by have h90:=hW'.cell p1 (by simp); go_simp⟩)
  (by simp only [Act.put,sa1,sa2,sa3]; rfl) (by exact Or.inl ⟨by rfl,fun W' hW'=>by  go_simp⟩)
  (Kept.refl [] w).drew
  ⟨fun w' h=>h,fun u0 w' h=>h.2,fun u0 u1 w' h=>h.2.2,fun u0 u1 u2 w' h=>h.2.2⟩
  (by
   intro w' k K hK
   refine xa0e rfl Tryz.call140 [.slice xa xl xc,.slice pa pl pc] rfl (xb6v (.slice xa xl xc) (.slice pa pl pc) ts[i].1.bs ps w' (by have h9:=(uh HRD).kept k (by simp); rw [uh HXV] at h9; exact h9) ((uh HPR).kept k (by simp)) (by have:=uh HBL; omega)) ?_
   rintro e w2 ⟨lv,rfl,ho,k2⟩
   obtain ⟨a9,c9,h9⟩:=xa1c ho
   exact ⟨_,rfl,hK _ _ ⟨⟨ownsB k.size ho,a9,_,c9,h9⟩,k.trans k2 (by simp)⟩⟩)
  (by rintro u0 w' ⟨⟨ho,aa,nn,cc,rfl⟩,k⟩ K hK; unfold Oper.wp execOp; go_simp; exact hK _ _ ⟨rfl,⟨ho,_,_,_,rfl⟩,k⟩)
  (by rintro u0 u1 w' ⟨rfl,⟨ho,aa,nn,cc,rfl⟩,k⟩ K hK; unfold Oper.wp execOp; go_simp; exact hK _ _ ⟨rfl,⟨ho,_,_,_,rfl⟩,k⟩)
  (by
   rintro u0 u1 u2 w' ⟨rfl,⟨ho,aa,nn,cc,rfl⟩,k⟩ K hK
   have hw9:=k.cell p1 (by simp)
   have hz9:=uh HZ w' k
   unfold Oper.wp execOp
   go_simp
   refine hK _ ?_
   have h0:=uh H
   have hbyte:∀ x∈ts[i].1.bs++ps,x < 256:=by
    intro x hx
    rcases List.mem_append.1 hx with h1 | h1
    ·exact (uh HRD).byte x h1
    ·exact (uh HPR).byte x h1
   have hlen:(ts[i].1.bs++ps).length≤bb + ps.length:=by rw [List.length_append]; have:=uh HBL; omega
   have hfin:=(uh HP).setf k hit (j:=1) (by omega) (t:=(⟨ts[i].1.nm,ts[i].1.bs++ps,ts[i].1.sy,ts[i].1.nd⟩,.slice aa nn cc)) (u:=.slice aa nn cc) rfl ⟨xb0a ho,hbyte,by show (ts[i].1.bs++ps).length≤_; omega⟩ (fun x hx=>.inr (ho.lt x (xa3k ho hx)).1)
   rw [uh HUP]
   have hsx:σ.A.set i ⟨ts[i].1.nm,ts[i].1.bs++ps,ts[i].1.sy,ts[i].1.nd⟩ = σ.A.set i { σ.A[i] with bs:=σ.A[i].bs++ps }:=by rw [uh HX]
   rw [← hsx]
   refine ⟨_,?_,hfin.2⟩
   refine RP.rk hfin.1 h0.opb (by show (σ.A.set i _).length≤nb; rw [List.length_set]; exact h0.len) ?_ h0.secb ?_ ?_
   ·intro f hf
    rcases List.mem_or_eq_of_mem_set hf with h1 | rfl
    ·have:=h0.byt f h1; omega
    ·exact hlen
   ·intro f hf
    rcases List.mem_or_eq_of_mem_set hf with h1 | rfl
    ·exact h0.syl f h1
    ·have h8:ts[i].1.sy≤ts[i].1.bs.length:=by rw [uh HX]; exact h0.syl _ (List.getElem_mem _)
     show ts[i].1.sy≤(ts[i].1.bs++ps).length
     rw [List.length_append]; omega
   ·show Dist (σ.A.set i _)
    rw [hsx,← uh HUP]
    exact xb1h (fun x=>rfl) h0.dist)
  ?_
 rintro u0 u1 u2 w9 ⟨R',h9⟩
 simp only [Act.put,sa1,sa2,sa3]
 have HF:=hide h9
 clear h9 q1 p1
 go_wp2_with fail
 refine bodyPost_end (v:=.tuple #[]) (results_none rfl _ _ _) rfl ⟨rfl,R',uh HF⟩
set_option maxHeartbeats 2000000 in
theorem xb3v (c nb bb:Nat) (R:List Nat) (σ:DSt) (s:ByteArray) (pv:Value) (i:Nat) (w:World) (h:RK w c R nb bb σ) (hn:nb≤1000000000) (hf:fndA σ.A s.data.toList = some i) :
  Calls Tryz.prog 138 #[.pointer (some ⟨c,0,none⟩),.int .i64 3,.string s,pv] w fun e w'=>e = .returned (.tuple #[])∧∃ R',RK w' c R' nb bb ⟨σ.sec,σ.cr,σ.op,σ.off,σ.ft,upA σ.A s fun f=>{ f with sy:=f.bs.length }⟩∧Ev w w' R R':=by
 obtain ⟨fsv,ts,fav,fl,hp,rfl⟩:=h.parts
 obtain ⟨a3,c3,hv3,hg3⟩:=hp.own.shapeL
 subst hv3
 have hl:=hp.len
 have hll:=h.len
 obtain ⟨hi,hup,hnm⟩:=xb9c h.dist hf (fun f=>{ f with sy:=f.bs.length })
 have hit:i < ts.length:=by omega
 obtain ⟨g,rfl⟩:=hg3 (by omega)
 have q1:=cell_of_row _ _ 1 _ _ _ hp.row
 simp [rkC] at q1
 obtain ⟨p0,p1,p2,p3⟩:=xa4x hp.own.rd hit
 have hx:=fst_at hp.fst hit hi
 have hrd:=hp.own.rd.2 ts[i] (List.getElem_mem hit)
 obtain ⟨xa,xl,xc,hxv,hxl,_⟩:=id hrd
 have hfi:fndI σ.A s.data.toList = (i:Int):=by unfold fndI; rw [hf]
 have HFI:=hide (fun W (k:Kept [] w W)=>by have h9:=xa3o c nb bb _ σ s W (h.old k) hn; rw [hfi] at h9; exact h9)
 rw [hxv] at p1
 have z1:=hp.own.frz (i * 4 + 2)
 have HZ:=hide (fun (W:World) (k:Kept [] w W)=>(hp.old k).own.frz (i * 4 + 2))
 have HP:=hide hp
 have H:=hide h
 have hib:(i:Int) < ts.length:=by omega
 have HUP:=hide hup
 have HX:=hide hx
 have HXV:=hide hxv
 have HRD:=hide hrd
 have HXL:=hide hxl
 have HP2:=hide p2
 clear hp h hl hll hg3 hf hup hnm hx hfi hrd hxl hxv z1 p0 p2 p3
 go_enter Tryz.func138,Tryz.ntmps138
 go_wp2_with fail
 refine Calls.mono (uh HFI _ (Kept.refl _ _)) ?_
 rintro e w1 ⟨rfl,hw1⟩
 rw [hw1]
 clear hw1 w1
 go_upto_region 8 with fail
 refine xc1o (by kernel_rfl) (by kernel_rfl) (by kernel_rfl) (by kernel_rfl) (by kernel_rfl) (by kernel_rfl) (by kernel_rfl) (by kernel_rfl) (by kernel_rfl) (by kernel_rfl) (by kernel_rfl) (by kernel_rfl) (by kernel_rfl) (by kernel_rfl) (by kernel_rfl) (by kernel_rfl) (by kernel_rfl) (by kernel_rfl) (by kernel_rfl) (by kernel_rfl) (by kernel_rfl) (by kernel_rfl) (by kernel_rfl) (by kernel_rfl) (by kernel_rfl) (by kernel_rfl) (by kernel_rfl) (by kernel_rfl) (by kernel_rfl) (by kernel_rfl) (by kernel_rfl) (by kernel_rfl) (by kernel_rfl) (by kernel_rfl) (by kernel_rfl) (by kernel_rfl) (by kernel_rfl) (by kernel_rfl) (by kernel_rfl) (by kernel_rfl) (by kernel_rfl) (by kernel_rfl) (by kernel_rfl) (by kernel_rfl) (by kernel_rfl) rfl (by kernel_rfl) rfl (by kernel_rfl) rfl (by kernel_rfl)
  (.pointer (some ⟨c,0,none⟩)) (.pointer (some ⟨c,0,none⟩)) (.pointer (some ⟨c,1,none⟩)) (.slice (some ⟨g,0,none⟩) ts.length c3) (.int .i64 (i:Int)) (.pointer (some ⟨c,0,none⟩)) (.pointer (some ⟨c,0,none⟩)) (.pointer (some ⟨c,1,none⟩)) (.slice (some ⟨g,0,none⟩) ts.length c3) (.int .i64 (i:Int)) (.pointer (some ⟨g,i * 4,none⟩)) (.pointer (some ⟨g,i * 4 + 1,none⟩)) (.slice xa xl xc) (.int .i64 (xl:Int)) _ _ _ _ _ _ _ _ _ _ _ _ _ _
  (fun w'=>Kept [] w w')
  (fun w'=>Kept [] w w')
  (fun u0 w'=>u0 = .pointer (some ⟨g,i * 4,none⟩)∧Kept [] w w')
  (fun u0 u1 w'=>u1 = .pointer (some ⟨g,i * 4 + 2,none⟩)∧Kept [] w w')
  (fun u0 u1 w'=>∃ R',RK w' c R' nb bb ⟨σ.sec,σ.cr,σ.op,σ.off,σ.ft,upA σ.A s fun f=>{ f with sy:=f.bs.length }⟩∧Ev w w' (rkB c (.slice (some ⟨g,0,none⟩) ts.length c3) ts fav fl) R')
  (by simp only [Act.put,sa1,sa2,sa3]; rfl) (by exact Or.inl ⟨by rfl,fun W' hW'=>by  go_simp⟩)
  (by simp only [Act.put,sa1,sa2,sa3]; rfl) (by exact Or.inl ⟨by rfl,fun W' hW'=>by  go_simp⟩)
  (by simp only [Act.put,sa1,sa2,sa3]; rfl) (by exact Or.inl ⟨by rfl,fun W' hW'=>by  go_simp⟩)
  (by simp only [Act.put,sa1,sa2,sa3]; rfl) (by exact Or.inl ⟨by rfl,fun W' hW'=>by have h90:=hW'.cell q1 (by simp); go_simp⟩)
  (by simp only [Act.put,sa1,sa2,sa3]; rfl) (by exact Or.inl ⟨by rfl,fun W' hW'=>by  go_simp⟩)
  (by simp only [Act.put,sa1,sa2,sa3]; rfl) (by exact Or.inl ⟨by rfl,fun W' hW'=>by  go_simp⟩)
  (by simp only [Act.put,sa1,sa2,sa3]; rfl) (by exact Or.inl ⟨by rfl,fun W' hW'=>by  go_simp⟩)
  (by simp only [Act.put,sa1,sa2,sa3]; rfl) (by exact Or.inl ⟨by rfl,fun W' hW'=>by  go_simp⟩)
  (by simp only [Act.put,sa1,sa2,sa3]; rfl) (by exact Or.inl ⟨by rfl,fun W' hW'=>by have h90:=hW'.cell q1 (by simp); go_simp⟩)
  (by simp only [Act.put,sa1,sa2,sa3]; rfl) (by exact Or.inl ⟨by rfl,fun W' hW'=>by  go_simp⟩)
  (by simp only [Act.put,sa1,sa2,sa3]; rfl) (by exact Or.inl ⟨by rfl,fun W' hW'=>by  go_simp⟩)
  (by simp only [Act.put,sa1,sa2,sa3]; rfl) (by exact Or.inl ⟨by rfl,fun W' hW'=>by  go_simp⟩)
  (by simp only [Act.put,sa1,sa2,sa3]; rfl) (by exact Or.inl ⟨by rfl,fun W' hW'=>by have h90:=hW'.cell p1 (by simp); go_simp⟩)
  (by simp only [Act.put,sa1,sa2,sa3]; rfl) (by exact Or.inl ⟨by rfl,fun W' hW'=>by  go_simp⟩)
  (Kept.refl [] w).drew
  ⟨fun w' h=>h,fun u0 w' h=>h.2,fun u0 u1 w' h=>h.2⟩
  (by rintro w' k K hK; unfold Oper.wp execOp; go_simp; exact hK _ _ ⟨rfl,k⟩)
  (by rintro u0 w' ⟨rfl,k⟩ K hK; unfold Oper.wp execOp; go_simp; exact hK _ _ ⟨rfl,k⟩)
  (by
   rintro u0 u1 w' ⟨rfl,k⟩ K hK
   have hw9:=k.cell (uh HP2) (by simp)
   have hz9:=uh HZ w' k
   unfold Oper.wp execOp
   go_simp
   refine hK _ ?_
   have h0:=uh H
   have hel:=(uh HP).own.el ts[i] (List.getElem_mem hit)
   have hfin:=(uh HP).setf k hit (j:=2) (by omega) (t:=(⟨ts[i].1.nm,ts[i].1.bs,xl,ts[i].1.nd⟩,ts[i].2)) (u:=.int .i64 (xl:Int)) rfl ⟨k.owns hel.1 (by simp),hel.2⟩ (fun x hx=>.inl hx)
   rw [uh HUP]
   have hsx:σ.A.set i ⟨ts[i].1.nm,ts[i].1.bs,xl,ts[i].1.nd⟩ = σ.A.set i { σ.A[i] with sy:=σ.A[i].bs.length }:=by rw [← uh HX,uh HXL]
   rw [← hsx]
   refine ⟨_,?_,hfin.2⟩
   refine RP.rk hfin.1 h0.opb (by show (σ.A.set i _).length≤nb; rw [List.length_set]; exact h0.len) ?_ h0.secb ?_ ?_
   ·intro f hf
    rcases List.mem_or_eq_of_mem_set hf with h1 | rfl
    ·exact h0.byt f h1
    ·show ts[i].1.bs.length≤bb
     rw [uh HX]; exact h0.byt _ (List.getElem_mem _)
   ·intro f hf
    rcases List.mem_or_eq_of_mem_set hf with h1 | rfl
    ·exact h0.syl f h1
    ·show xl≤ts[i].1.bs.length
     rw [uh HXL]; exact Nat.le_refl _
   ·show Dist (σ.A.set i _)
    rw [hsx,← uh HUP]
    exact xb1h (fun x=>rfl) h0.dist)
  ?_
 rintro u0 u1 w9 ⟨R',h9⟩
 simp only [Act.put,sa1,sa2,sa3]
 have HF:=hide h9
 clear h9 q1 p1
 go_wp2_with fail
 refine bodyPost_end (v:=.tuple #[]) (results_none rfl _ _ _) rfl ⟨rfl,R',uh HF⟩
def ndQ (k:Nat) (A:List DF):List DF:=(A.take k).map (fun f=>{ f with nd:=true })++A.drop k
theorem xb9v (A:List DF):ndQ 0 A = A:=by simp [ndQ]
theorem xc1p (A:List DF):ndQ A.length A = ndA A:=by simp [ndQ,ndA]
theorem xc3l (k:Nat) (A:List DF):(ndQ k A).length = A.length:=by simp [ndQ]; omega
theorem xc1r {k:Nat} {A:List DF} (h:k < A.length) (h2:k < (ndQ k A).length):(ndQ k A)[k] = A[k]:=by
 have e:((A.take k).map (fun f:DF=>({ f with nd:=true }:DF))).length = k:=by simp; omega
 simp only [ndQ]
 rw [List.getElem_append_right (by omega)]
 have h9:min k A.length = k:=by omega
 simp [h9]
theorem xb9u {k:Nat} {A:List DF} (h:k < A.length):(ndQ k A).set k { A[k] with nd:=true } = ndQ (k + 1) A:=by
 have e:((A.take k).map (fun f:DF=>({ f with nd:=true }:DF))).length = k:=by simp; omega
 unfold ndQ
 rw [List.set_append_right _ _ (by omega),e,Nat.sub_self,List.drop_eq_getElem_cons h,List.set_cons_zero,List.take_succ_eq_append_getElem h,List.map_append,List.append_assoc]
 rfl
theorem xb9n {A:List DF} {f:DF} (h:f∈ndA A):∃ a∈A,f.nm = a.nm∧f.bs = a.bs∧f.sy = a.sy:=by
 obtain ⟨a,ha,rfl⟩:=List.mem_map.1 h
 exact ⟨a,ha,rfl,rfl,rfl⟩
theorem xc1e {A:List DF} (h:Dist A):Dist (ndA A):=by
 rw [xa5k] at h ⊢
 have:(ndA A).map DF.nm = A.map DF.nm:=by unfold ndA; rw [List.map_map]; rfl
 rw [this]
 exact h
set_option maxHeartbeats 2000000 in
theorem xb5j (c nb bb:Nat) (R:List Nat) (σ:DSt) (s:ByteArray) (pv:Value) (w:World) (h:RK w c R nb bb σ) (hn:nb≤1000000000) :
  Calls Tryz.prog 138 #[.pointer (some ⟨c,0,none⟩),.int .i64 4,.string s,pv] w fun e w'=>e = .returned (.tuple #[])∧∃ R',RK w' c R' nb bb ⟨σ.sec,σ.cr,σ.op,σ.off,σ.ft,ndA σ.A⟩∧Ev w w' R R':=by
 obtain ⟨fsv,ts,fav,fl,hp,rfl⟩:=h.parts
 obtain ⟨a3,c3,hv3,hg3⟩:=hp.own.shapeL
 subst hv3
 have hl:=hp.len
 have hll:=h.len
 have q1:=cell_of_row _ _ 1 _ _ _ hp.row
 simp [rkC] at q1
 have HP:=hide hp
 have H:=hide h
 have HG:=hide hg3
 have HL:=hide hl
 have hlb:ts.length≤1000000000:=by omega
 clear hp h hl hll hg3
 go_enter Tryz.func138,Tryz.ntmps138
 go_wp2_with fail
 go_loopw [75] (fun t75 wr=>∃ (k:Nat) (tk:List (DF × Value)),k≤ts.length∧t75 = .int .i64 k∧Hid (tk.length = ts.length)∧Hid (RP wr c ⟨σ.sec,σ.cr,σ.op,σ.off,σ.ft,ndQ k σ.A⟩ (.slice a3 ts.length c3) tk fav fl nb)∧Hid (Ev w wr (rkB c (.slice a3 ts.length c3) ts fav fl) (rkB c (.slice a3 ts.length c3) tk fav fl))) (fun t _=>ts.length - (intOf t).toNat)
 case atStart=>exact ⟨0,ts,Nat.zero_le _,rfl,hide rfl,hide (by rw [xb9v]; exact uh HP),hide (Ev.refl _ _)⟩
 case round =>
  obtain ⟨k,tk,hk,rfl,HTL,HPK,HE⟩:=hrel
  have q1:=cell_of_row _ _ 1 _ _ _ (uh HPK).row
  simp [rkC] at q1
  by_cases hlt:k < ts.length
  ·have hlt':(k:Int) < ts.length:=by omega
   obtain ⟨g,rfl⟩:=uh HG (by omega)
   have hkt:k < tk.length:=by rw [uh HTL]; exact hlt
   have hka:k < σ.A.length:=by rw [← uh HL]; exact hlt
   have hkn:k < (ndQ k σ.A).length:=by rw [xc3l]; exact hka
   obtain ⟨_,_,_,p3⟩:=xa4x (uh HPK).own.rd hkt
   have z3:=(uh HPK).own.frz (k * 4 + 3)
   have hx:=fst_at (uh HPK).fst hkt hkn
   rw [xc1r hka] at hx
   have HX:=hide hx
   have hel:=(uh HPK).own.el tk[k] (List.getElem_mem hkt)
   have HFIN:=hide (by
    have h7:=uh HPK
    rw [← uh HTL] at h7
    have h9:=h7.setf (Kept.refl [] wr) hkt (j:=3) (by omega) (t:=({ tk[k].1 with nd:=true },tk[k].2)) (u:=.bool true) rfl hel (fun x hx=>.inl hx)
    dsimp only at h9
    rw [hx,xb9u hka,uh HTL] at h9
    exact h9)
   clear hx hel
   go_wp2_with fail
   refine ⟨⟨k + 1,_,by omega,by simp,hide ?_,hide (uh HFIN).1,hide ((uh HE).trans (uh HFIN).2)⟩,?_⟩
   ·rw [List.length_set]; exact uh HTL
   ·simp [intOf]; omega
  ·have hlt':¬ (k:Int) < ts.length:=by omega
   have hke:k = ts.length:=by omega
   subst hke
   have h0:=uh H
   have HFIN:=hide (by
    have h7:=uh HPK
    rw [uh HL,xc1p] at h7
    exact RP.rk (bb:=bb) h7 h0.opb (by show (ndA σ.A).length≤nb; unfold ndA; rw [List.length_map]; exact h0.len) (fun f hf=>by obtain ⟨a,ha,e1,e2,e3⟩:=xb9n hf; rw [e2]; exact h0.byt a ha) h0.secb (fun f hf=>by obtain ⟨a,ha,e1,e2,e3⟩:=xb9n hf; rw [e2,e3]; exact h0.syl a ha) (xc1e h0.dist))
   have HFE:=hide (by have h7:=uh HE; rw [uh HL] at h7; exact h7)
   clear h0
   go_wp2_with fail
   exact bodyPost_end (v:=.tuple #[]) (results_none rfl _ _ _) rfl ⟨rfl,_,uh HFIN,by rw [uh HL]; exact uh HFE⟩
set_option maxHeartbeats 1000000 in
theorem xb8b (c nb bb:Nat) (R:List Nat) (σ:DSt) (s:ByteArray) (w:World) (h:RK w c R nb bb σ) (hn:nb≤1000000000) :
  Calls Tryz.prog 94 #[.pointer (some ⟨c,0,none⟩),.string s] w fun e w'=>∃ v,e = .returned (.tuple #[v,.int .i64 ((stRead σ s).2:Nat)])∧Rd w' v (stRead σ s).1∧Kept [] w w':=by
 obtain ⟨fsv,ts,fav,fl,hp,hR⟩:=h.parts
 obtain ⟨a3,c3,hv3,hg3⟩:=hp.own.shapeL
 subst hv3
 have r5:=cell_of_row _ _ 5 _ _ _ hp.row
 have r1:=cell_of_row _ _ 1 _ _ _ hp.row
 simp [rkC] at r5 r1
 have HF:=hide (xa3o c nb bb R σ s w h hn)
 have hl:=hp.len
 have hll:=h.len
 obtain ⟨rd,hrd⟩:∃ rd,stRead σ s = rd:=⟨_,rfl⟩
 rw [hrd]
 unfold stRead at hrd
 have HP:=hide hp
 clear h hR
 cases ho:σ.off
 ·rw [ho] at r5 hrd
  simp only [Bool.false_eq_true,if_false] at hrd
  cases hf:fndA σ.A s.data.toList with
  | none =>
   have hq:findA σ.A s.data.toList = none:=by have:=xa3w σ.A s.data.toList; rw [hf] at this; simpa using this
   rw [hq] at hrd
   subst hrd
   have hfi:fndI σ.A s.data.toList = -1:=by unfold fndI; rw [hf]
   rw [hfi] at HF
   clear ho hf hq hfi hl hll hp hg3
   go_enter Tryz.func94,Tryz.ntmps94
   go_wp2_with fail
   refine Calls.mono (uh HF) ?_
   rintro e w1 ⟨rfl,hw1⟩
   rw [hw1]
   clear hw1 w1
   go_wp2_with fail
   go_ret2
   exact ⟨_,rfl,Rd.nil _,Kept.refl _ _⟩
  | some i =>
   obtain ⟨hi,h1,h2⟩:=xb5r hf
   rw [h2] at hrd
   subst hrd
   dsimp only
   have hfi:fndI σ.A s.data.toList = (i:Int):=by unfold fndI; rw [hf]
   rw [hfi] at HF
   have hit:i < ts.length:=by omega
   have hib:(i:Int) < ts.length:=by omega
   obtain ⟨g,rfl⟩:=hg3 (by omega)
   obtain ⟨_,p1,_,_⟩:=xa4x hp.own.rd hit
   have hx:=fst_at hp.fst hit hi
   have hrd:=hp.own.rd.2 ts[i] (List.getElem_mem hit)
   rw [hx] at hrd
   obtain ⟨xa,xl,xc,hxv,hxl,_⟩:=id hrd
   rw [hxv] at p1 hrd
   have HRD:=hide hrd
   have HTW:=hide (xa9g (.slice xa xl xc) σ.A[i].bs w hrd)
   have HLN:=hide (by obtain ⟨_,_,_,_,h9,_,h8,_⟩:=hrd; omega:σ.A[i].bs.length≤140737488355328)
   clear ho hf h1 h2 hfi hl hll hp hg3 hx hrd hxv hxl
   generalize σ.A[i].bs = B at HRD HTW HLN ⊢
   go_enter Tryz.func94,Tryz.ntmps94
   go_wp2_with fail
   refine Calls.mono (uh HF) ?_
   rintro e w1 ⟨rfl,hw1⟩
   rw [hw1]
   clear hw1 w1
   go_wp2_with fail
   refine Calls.mono (uh HTW) ?_
   rintro e w2 ⟨rfl,k2,hh2⟩
   have HH:=hide (xa2g hh2 (uh HRD).byte (uh HLN))
   have HK2:=hide k2
   clear k2 hh2
   go_wp2_with fail
   go_ret2
   exact ⟨_,rfl,uh HH,uh HK2⟩
 ·rw [ho] at r5 hrd
  simp only [if_true] at hrd
  subst hrd
  clear ho hl hll hp hg3
  go_enter Tryz.func94,Tryz.ntmps94
  go_wp2_with fail
  go_ret2
  exact ⟨_,rfl,Rd.nil _,Kept.refl _ _⟩
def oA (σ:DSt) (kd E0:Nat) (car:List Nat→List DF) (ps:List Nat):List DF :=
 if E0 = 0 then (if σ.op + 1 = σ.cr then (if kd = 1∨kd = 2 then car ps else σ.A) else if (σ.ft (σ.op + 1)).isSome then (if kd = 2 then car (ps.take (wtn ((σ.ft (σ.op + 1)).getD 0) ps.length).toNat) else σ.A) else car ps) else σ.A
theorem RK.count {w:World} {c nb bb:Nat} {R:List Nat} {σ:DSt} (h:RK w c R nb bb σ):RK (w.setCell ⟨c,4,none⟩ (.int .i64 (σ.op + 1))) c R (nb + 1) bb ⟨σ.sec,σ.cr,σ.op + 1,σ.off,σ.ft,σ.A⟩∧Ev w (w.setCell ⟨c,4,none⟩ (.int .i64 (σ.op + 1))) R R:=by
 have k9:=(Kept.refl [c] w).setCell (p:=⟨c,4,none⟩) (.inl (by simp)) (.int .i64 (σ.op + 1))
 refine ⟨(h.more (nb':=nb + 1) (bb':=bb) (by omega) (Nat.le_refl _)).turn k9 σ.cr (σ.op + 1) σ.off (by have:=h.opb; constructor <;> omega) (fun fsv fav hr=>by rw [heap_setCell_same _ c 4 _ _ _ hr]; rfl),k9.mono ?_,fun x hx=>.inl hx⟩
 intro x hx
 simp only [List.mem_singleton] at hx
 subst hx
 obtain ⟨fsv,ts,fav,fl,hp,hR⟩:=h.parts
 rw [hR]
 simp [rkB]
theorem RK.gone {w:World} {c nb bb:Nat} {R:List Nat} {σ:DSt} (h:RK w c R nb bb σ):RK (w.setCell ⟨c,5,none⟩ (.bool true)) c R nb bb ⟨σ.sec,σ.cr,σ.op,true,σ.ft,σ.A⟩∧Ev w (w.setCell ⟨c,5,none⟩ (.bool true)) R R:=by
 have k9:=(Kept.refl [c] w).setCell (p:=⟨c,5,none⟩) (.inl (by simp)) (.bool true)
 refine ⟨h.turn k9 σ.cr σ.op true h.opb (fun fsv fav hr=>by rw [heap_setCell_same _ c 5 _ _ _ hr]; rfl),k9.mono ?_,fun x hx=>.inl hx⟩
 intro x hx
 simp only [List.mem_singleton] at hx
 subst hx
 obtain ⟨fsv,ts,fav,fl,hp,hR⟩:=h.parts
 rw [hR]
 simp [rkB]
theorem RK.cells {w:World} {c nb bb:Nat} {R:List Nat} {σ:DSt} (h:RK w c R nb bb σ):w.cell? ⟨c,3,none⟩ = some (.int .i64 σ.cr)∧w.cell? ⟨c,4,none⟩ = some (.int .i64 σ.op)∧w.cell? ⟨c,5,none⟩ = some (.bool σ.off)∧w.frozen? ⟨c,4,none⟩ = false∧w.frozen? ⟨c,5,none⟩ = false:=by
 obtain ⟨fsv,ts,fav,fl,hp,hR⟩:=h.parts
 have r3:=cell_of_row _ _ 3 _ _ _ hp.row
 have r4:=cell_of_row _ _ 4 _ _ _ hp.row
 have r5:=cell_of_row _ _ 5 _ _ _ hp.row
 simp [rkC] at r3 r4 r5
 exact ⟨r3,r4,r5,frozen_of_row _ _ 4 _ _ hp.row,frozen_of_row _ _ 5 _ _ hp.row⟩
set_option maxHeartbeats 4000000 in
theorem xa2s (kd:Nat) (c nb bb:Nat) (R:List Nat) (σ:DSt) (s:ByteArray) (pv:Value) (ps:List Nat) (w:World) (h:RK w c R nb bb σ) (hn:nb≤800000000) (hpr:Rd w pv ps) (hpd:∀ x∈zblk pv ps,x∉R) (E0:Nat) (hE0:E0≤20)
  (hown:∀ W σ1,RK W c R (nb + 1) bb σ1→σ1.A = σ.A→Calls Tryz.prog 137 #[.pointer (some ⟨c,0,none⟩),.int .i64 kd,.string s] W (fun e w'=>e = .returned (.int .i64 (E0:Nat))∧w' = W))
  (car:List Nat→List DF)
  (hcar:E0 = 0→∀ W σ1 pv' ps',RK W c R (nb + 1) bb σ1→σ1.A = σ.A→Rd W pv' ps'→ps'.length≤ps.length→Calls Tryz.prog 138 #[.pointer (some ⟨c,0,none⟩),.int .i64 kd,.string s,pv'] W (fun e w'=>e = .returned (.tuple #[])∧∃ R',RK w' c R' (nb + 2) (bb + ps.length) ⟨σ1.sec,σ1.cr,σ1.op,σ1.off,σ1.ft,car ps'⟩∧Ev W w' R R')) :
  Calls Tryz.prog 96 #[.pointer (some ⟨c,0,none⟩),.int .i64 kd,.string s,pv] w fun e w'=>e = .returned (.int .i64 ((if σ.off then 12 else opE σ.ft σ.cr σ.op E0:Nat):Nat))∧∃ R',RK w' c R' (nb + 2) (bb + ps.length) (if σ.off then σ else tick σ (oA σ kd E0 car ps))∧Ev w w' R R':=by
 obtain ⟨pa,pl,pc,hpv,hpl,hplc,_⟩:=id hpr
 subst hpv
 obtain ⟨r3,r4,r5,z4,z5⟩:=h.cells
 cases hoff:σ.off
 ·simp only [Bool.false_eq_true,if_false]
  rw [hoff] at r5
  obtain ⟨c1,e1⟩:=h.count
  have hopb:=h.opb
  have HN1:=hide hn
  have HW1:=hide (fun W σ1 h1 h2=>hown W σ1 h1 h2)
  have HCA:=hide hcar
  have HPR:=hide (hpr.keptZ e1.1 hpd)
  have HPD:=hide hpd
  have H:=hide h
  have HC1:=hide c1
  have HE1:=hide e1
  obtain ⟨W1,hW1⟩:∃ W,w.setCell ⟨c,4,none⟩ (.int .i64 (σ.op + 1)) = W:=⟨_,rfl⟩
  rw [hW1] at HPR HC1 HE1
  have HW:=hide hW1
  have hop1:-9223372036854775808≤σ.op + 1∧σ.op + 1≤9223372036854775807:=by omega
  obtain ⟨s3,s4,s5,y4,y5⟩:=(uh HC1).cells
  dsimp only at s3 s4 s5
  rw [hoff] at s5
  obtain ⟨P1,hP1⟩:∃ P,σ.op + 1 = P:=⟨_,rfl⟩
  rw [hP1] at hop1 s4 HW HC1
  have HP1:=hide hP1
  have HOF:=hide hoff
  clear h hown hcar hpr c1 e1 hW1
  have hr1:RK W1 c R (nb + 1) bb ⟨σ.sec,σ.cr,P1,σ.off,σ.ft,σ.A⟩:=uh HC1
  have HREF:=hide (fun W (k:Kept [] W1 W)=>xb2j c (nb + 1) bb R ⟨σ.sec,σ.cr,P1,σ.off,σ.ft,σ.A⟩ P1 W (hr1.old k) (by omega))
  clear hr1
  go_enter Tryz.func96,Tryz.ntmps96
  go_upto_region 6 with (first | (rw [uh HW]) | fail)
  go_wp2_with fail
  refine Calls.mono (uh HW1 _ _ (uh HC1) rfl) ?_
  rintro e w1 ⟨rfl,hw1⟩
  rw [hw1]
  clear hw1 w1
  go_upto_region 7 with fail
  by_cases hcr:P1 = σ.cr
  ·have hcb:(P1 == σ.cr) = true:=by simp [hcr]
   have HOPE:=hide (by unfold opE; rw [hP1,if_pos hcr]:opE σ.ft σ.cr σ.op E0 = 12)
   have HTK:=hide (by intro A; unfold tick; rw [hP1,decide_eq_true hcr]:∀ A,tick σ A = ⟨σ.sec,σ.cr,P1,true,σ.ft,A⟩)
   have HCRR:=hide hcr
   clear hcr hP1
   refine wp_region_quiet_lit (by kernel_rfl) (by kernel_rfl) ?_
   repeat (go_big_quiet_step (fail))
   refine wpQuiet_nil ?_
   rintro _ ⟨m5,rfl⟩
   have HK2:=hide ((Kept.refl [] W1).drewN m5)
   obtain ⟨W2,hW2⟩:∃ W,W1.drewN m5 = W:=⟨_,rfl⟩
   rw [hW2] at HK2 ⊢
   clear hW2
   have s5:=(uh HK2).cell s5 (by simp)
   have HC2:=hide ((uh HC1).old (uh HK2))
   have HEV2:=hide ((uh HE1).trans (⟨(uh HK2).mono (by simp),fun x hx=>.inl hx⟩:Ev W1 W2 R R))
   have HPR2:=hide ((uh HPR).keptZ (uh HK2) (by simp))
   by_cases hE:E0 = 0
   ·have hEb:((E0:Int) == 0) = true:=by simp; omega
    by_cases hk:kd = 1∨kd = 2
    ·have HOA:=hide (by unfold oA; rw [if_pos hE,uh HP1,if_pos (uh HCRR),if_pos hk]:oA σ kd E0 car ps = car ps)
     have HCAR:=hide (uh HCA hE W2 _ (.slice pa pl pc) ps (uh HC2) rfl (uh HPR2) (Nat.le_refl _))
     rcases hk with hk | hk
     case' inl =>
      have hk1:((kd:Int) == 1) = true:=by simp; omega
      clear hk hE
      go_wp2_with fail
     case' inr =>
      have hk1:((kd:Int) == 1) = false:=by simp; omega
      have hk2:((kd:Int) == 2) = true:=by simp; omega
      clear hk hE
      go_wp2_with fail
     all_goals
      refine Calls.mono (uh HCAR) ?_
      rintro e w3 ⟨rfl,R3,h3,ev3⟩
      obtain ⟨_,_,t5,_,y5⟩:=h3.cells
      have HG:=hide h3.gone
      have HEV3:=hide ((uh HEV2).trans ev3)
      clear h3 ev3 s5
      go_wp2_with fail
      go_ret
      exact ⟨by rw [uh HOPE]; rfl,R3,by rw [uh HTK,uh HOA]; exact (uh HG).1,(uh HEV3).trans (uh HG).2⟩
    ·have HOA:=hide (by unfold oA; rw [if_pos hE,uh HP1,if_pos (uh HCRR),if_neg hk]:oA σ kd E0 car ps = σ.A)
     have hk1:((kd:Int) == 1) = false:=by simp; omega
     have hk2:((kd:Int) == 2) = false:=by simp; omega
     obtain ⟨_,_,t5,_,y5⟩:=(uh HC2).cells
     have HG:=hide (uh HC2).gone
     clear hk hE s5
     go_wp2_with fail
     go_ret
     exact ⟨by rw [uh HOPE]; rfl,R,by rw [uh HTK,uh HOA]; exact (uh HG).1.more (by omega) (by omega),(uh HEV2).trans (uh HG).2⟩
   ·have hEb:((E0:Int) == 0) = false:=by simp; omega
    have HOA:=hide (by unfold oA; rw [if_neg hE]:oA σ kd E0 car ps = σ.A)
    obtain ⟨_,_,t5,_,y5⟩:=(uh HC2).cells
    have HG:=hide (uh HC2).gone
    clear hE s5
    go_wp2_with fail
    go_ret
    exact ⟨by rw [uh HOPE]; rfl,R,by rw [uh HTK,uh HOA]; exact (uh HG).1.more (by omega) (by omega),(uh HEV2).trans (uh HG).2⟩
  ·have hcb:(P1 == σ.cr) = false:=by simp [hcr]
   have HTK:=hide (by intro A; unfold tick; rw [hP1,decide_eq_false hcr,uh HOF]:∀ A,tick σ A = ⟨σ.sec,σ.cr,P1,σ.off,σ.ft,A⟩)
   have HCRR:=hide hcr
   clear hcr hP1
   refine wp_region_quiet_lit (by kernel_rfl) (by kernel_rfl) ?_
   repeat (go_big_quiet_step (fail))
   refine wpQuiet_nil ?_
   rintro _ ⟨m5,rfl⟩
   have HK2:=hide ((Kept.refl [] W1).drewN m5)
   obtain ⟨W2,hW2⟩:∃ W,W1.drewN m5 = W:=⟨_,rfl⟩
   rw [hW2] at HK2 ⊢
   clear hW2
   have s5:=(uh HK2).cell s5 (by simp)
   have HC2:=hide ((uh HC1).old (uh HK2))
   have HEV2:=hide ((uh HE1).trans (⟨(uh HK2).mono (by simp),fun x hx=>.inl hx⟩:Ev W1 W2 R R))
   have HPR2:=hide ((uh HPR).keptZ (uh HK2) (by simp))
   by_cases hE:E0 = 0
   ·have hEb:((E0:Int) != 0) = false:=by simp; omega
    obtain ⟨fo,hfo⟩:∃ fo,σ.ft P1 = fo:=⟨_,rfl⟩
    have HREF2:=hide (uh HREF W2 (uh HK2))
    try dsimp only at HREF2
    rw [hfo] at HREF2
    obtain ⟨_,u4,_,_,_⟩:=(uh HC2).cells
    dsimp only at u4
    go_wp2_with fail
    refine Calls.mono (uh HREF2) ?_
    rintro e w3 ⟨b3,rfl,k3⟩
    have HC3:=hide ((uh HC2).old k3)
    have HEV3:=hide ((uh HEV2).trans (⟨k3.mono (by simp),fun x hx=>.inl hx⟩:Ev W2 w3 R R))
    have HPR3:=hide ((uh HPR2).keptZ k3 (by simp))
    clear k3 u4 s5
    cases fo with
    | none =>
     have HOPE:=hide (by unfold opE; rw [uh HP1,if_neg (uh HCRR),if_neg (by simpa using hE),hfo]; rfl:opE σ.ft σ.cr σ.op E0 = 0)
     have HOA:=hide (by unfold oA; rw [if_pos hE,uh HP1,if_neg (uh HCRR),hfo]; rfl:oA σ kd E0 car ps = car ps)
     have k4:=(Kept.refl [] w3).alloc (.cells #[.int .i64 b3,.int .i64 0] 141 (0,0))
     have HCAR:=hide (uh HCA hE _ _ (.slice pa pl pc) ps ((uh HC3).old k4) rfl ((uh HPR3).keptZ k4 (by simp)) (Nat.le_refl _))
     have HEV4:=hide ((uh HEV3).trans (⟨k4.mono (by simp),fun x hx=>.inl hx⟩:Ev w3 _ R R))
     simp only [Option.getD_none,Option.isSome_none]
     clear hE hfo k4
     go_wp2_with fail
     refine Calls.mono (uh HCAR) ?_
     rintro e w5 ⟨rfl,R5,h5,ev5⟩
     have H5:=hide h5
     have HEV5:=hide ((uh HEV4).trans ev5)
     clear h5 ev5
     go_wp2_with fail
     go_ret
     exact ⟨by rw [uh HOPE]; rfl,R5,by rw [uh HTK,uh HOA]; exact uh H5,uh HEV5⟩
    | some kp =>
     have HOPE:=hide (by unfold opE; rw [uh HP1,if_neg (uh HCRR),if_neg (by simpa using hE),hfo]; rfl:opE σ.ft σ.cr σ.op E0 = 7)
     simp only [Option.getD_some,Option.isSome_some]
     have k4:=(Kept.refl [] w3).alloc (.cells #[.int .i64 b3,.int .i64 kp] 141 (0,0))
     have g4:=heap_alloc_new w3 (.cells #[.int .i64 b3,.int .i64 kp] 141 (0,0))
     by_cases hk:kd = 2
     ·have hk2:((kd:Int) == 2) = true:=by simp; omega
      have HOA:=hide (by unfold oA; rw [if_pos hE,uh HP1,if_neg (uh HCRR),hfo,if_pos (by rfl),if_pos hk]; rfl:oA σ kd E0 car ps = car (ps.take (wtn kp ps.length).toNat))
      have hq0:0≤wtn kp ps.length∧wtn kp ps.length≤ps.length:=by unfold wtn; omega
      obtain ⟨q,hq⟩:∃ q:Nat,wtn kp ps.length = q:=⟨(wtn kp ps.length).toNat,by omega⟩
      have HWI:=hide (fun W=>by have h9:=xb2d kp ps.length W (by omega); rw [hq] at h9; exact h9)
      rw [hq] at HOA
      have hqp:q≤pc:=by omega
      have HCAR:=hide (uh HCA hE _ _ (.slice pa q pc) (ps.take q) ((uh HC3).old k4) rfl (Rd.take0D (by rw [hpl]; exact (uh HPR3).keptZ k4 (by simp)) (by omega)) (by rw [List.length_take]; omega))
      have HEV4:=hide ((uh HEV3).trans (⟨k4.mono (by simp),fun x hx=>.inl hx⟩:Ev w3 _ R R))
      have f1:=cell_of_row _ _ 1 _ _ _ g4
      simp at f1
      have HPL:=hide hpl
      rw [← hpl] at *
      clear hE hfo k4 g4 hk hq hq0
      go_wp2_with fail
      refine Calls.mono (uh HWI _) ?_
      rintro e w5 ⟨rfl,hw5⟩
      rw [hw5]
      clear hw5 w5
      go_wp2_with fail
      refine Calls.mono (uh HCAR) ?_
      rintro e w5 ⟨rfl,R5,h5,ev5⟩
      have H5:=hide h5
      have HEV5:=hide ((uh HEV4).trans ev5)
      clear h5 ev5
      go_wp2_with fail
      go_ret
      exact ⟨by rw [uh HOPE]; rfl,R5,by rw [uh HTK,uh HOA]; exact uh H5,uh HEV5⟩
     ·have hk2:((kd:Int) == 2) = false:=by simp; omega
      have HOA:=hide (by unfold oA; rw [if_pos hE,uh HP1,if_neg (uh HCRR),hfo,if_pos (by rfl),if_neg hk]:oA σ kd E0 car ps = σ.A)
      have HC4:=hide ((uh HC3).old k4)
      have HEV4:=hide ((uh HEV3).trans (⟨k4.mono (by simp),fun x hx=>.inl hx⟩:Ev w3 _ R R))
      clear hE hfo k4 g4 hk
      go_wp2_with fail
      go_ret
      exact ⟨by rw [uh HOPE]; rfl,R,by rw [uh HTK,uh HOA]; exact (uh HC4).more (by omega) (by omega),uh HEV4⟩
   ·have hEb:((E0:Int) != 0) = true:=by simp; omega
    have HOPE:=hide (by unfold opE; rw [uh HP1,if_neg (uh HCRR),if_pos hE]:opE σ.ft σ.cr σ.op E0 = E0)
    have HOA:=hide (by unfold oA; rw [if_neg hE]:oA σ kd E0 car ps = σ.A)
    clear hE s5
    go_wp2_with fail
    go_ret
    exact ⟨by rw [uh HOPE]; rfl,R,by rw [uh HTK,uh HOA]; exact (uh HC2).more (by omega) (by omega),uh HEV2⟩
 ·simp only [if_true]
  rw [hoff] at r5
  have H:=hide (h.more (nb':=nb + 2) (bb':=bb + ps.length) (by omega) (by omega))
  clear h hown hcar hoff
  go_enter Tryz.func96,Tryz.ntmps96
  go_wp2_with fail
  go_ret
  exact ⟨rfl,R,uh H,Ev.refl _ _⟩
theorem xb7h {A:List DF} {s:ByteArray} (h:(findA A s.data.toList).isSome = false):∀ f∈A,f.nm≠s:=by
 intro f hf e
 have h9:findA A s.data.toList = none:=by simpa using h
 exact xa5g h9 f hf (by rw [e])
theorem xb1c (σ:DSt) (s:ByteArray):((if σ.off then 12 else opE σ.ft σ.cr σ.op (ownA σ.A s)),(if σ.off then σ else tick σ (oA σ 1 (ownA σ.A s) (fun _=>σ.A++[⟨s,[],0,false⟩]) []))) = stCreate σ s:=by
 unfold stCreate oA opE
 cases σ.off
 ·simp only [Bool.false_eq_true,if_false]
  by_cases h0:ownA σ.A s = 0
  ·by_cases hc:σ.op + 1 = σ.cr
   ·simp [h0,hc]
   ·cases hf:(σ.ft (σ.op + 1)).isSome <;> simp [h0,hc,hf]
  ·simp [h0]
 ·simp
theorem xb0k (σ:DSt) (s:ByteArray) (ps:List Nat):((if σ.off then 12 else opE σ.ft σ.cr σ.op (if (findA σ.A s.data.toList).isSome then 0 else 5)),(if σ.off then σ else tick σ (oA σ 2 (if (findA σ.A s.data.toList).isSome then 0 else 5) (fun p=>upA σ.A s fun f=>{ f with bs:=f.bs++p }) ps))) = stAppend σ s ps:=by
 unfold stAppend oA appK opE
 cases σ.off
 ·simp only [Bool.false_eq_true,if_false]
  cases hq:(findA σ.A s.data.toList).isSome
  ·simp
  ·by_cases hc:σ.op + 1 = σ.cr
   ·simp [hc]
   ·cases hf:(σ.ft (σ.op + 1)).isSome <;> simp [hc,hf]
 ·simp
theorem xb9j (σ:DSt) (s:ByteArray):((if σ.off then 12 else opE σ.ft σ.cr σ.op (if (findA σ.A s.data.toList).isSome then 0 else 5)),(if σ.off then σ else tick σ (oA σ 3 (if (findA σ.A s.data.toList).isSome then 0 else 5) (fun _=>upA σ.A s fun f=>{ f with sy:=f.bs.length }) []))) = stSync σ s:=by
 unfold stSync oA opE
 cases σ.off
 ·simp only [Bool.false_eq_true,if_false]
  cases hq:(findA σ.A s.data.toList).isSome
  ·simp
  ·by_cases hc:σ.op + 1 = σ.cr
   ·simp [hc]
   ·cases hf:(σ.ft (σ.op + 1)).isSome <;> simp [hc,hf]
 ·simp
theorem xb3q (σ:DSt):((if σ.off then 12 else opE σ.ft σ.cr σ.op 0),(if σ.off then σ else tick σ (oA σ 4 0 (fun _=>ndA σ.A) []))) = stNames σ:=by
 unfold stNames oA opE
 cases σ.off
 ·simp only [Bool.false_eq_true,if_false]
  by_cases hc:σ.op + 1 = σ.cr
  ·simp [hc]
  ·cases hf:(σ.ft (σ.op + 1)).isSome <;> simp [hc,hf]
 ·simp
theorem xc2m (A:List DF) (s:ByteArray):ownA A s≤20:=by unfold ownA; (repeat' split) <;> omega
theorem fnd_of {A:List DF} {s:ByteArray} (h:(findA A s.data.toList).isSome = true):∃ i,fndA A s.data.toList = some i:=by
 rw [← xa3w] at h
 exact Option.isSome_iff_exists.1 h
set_option maxHeartbeats 1000000 in
theorem xb2f (c nb bb:Nat) (R:List Nat) (σ:DSt) (s:ByteArray) (w:World) (h:RK w c R nb bb σ) (hs:s.size≤140737488355328) (hn:nb≤800000000) :
  Calls Tryz.prog 98 #[.pointer (some ⟨c,0,none⟩),.string s] w fun e w'=>e = .returned (.int .i64 ((stCreate σ s).1:Nat))∧∃ R',RK w' c R' (nb + 2) bb (stCreate σ s).2∧Ev w w' R R':=by
 have h9:=xa2s 1 c nb bb R σ s (.slice none 0 0) [] w h hn (Rd.nil w) (by simp [zblk]) (ownA σ.A s) (xc2m _ _)
  (fun W σ1 h1 h2=>by rw [← h2]; exact xb7l c (nb + 1) bb R σ1 s W h1 hs (by omega)) (fun _=>σ.A++[⟨s,[],0,false⟩])
  (fun h0 W σ1 pv' ps' h1 h2 h3 h4=>by
   have h8:=xb3u c (nb + 1) bb R σ1 s pv' W h1 (by omega) (by rw [h2]; exact xb7h (by rw [(xa7a h0).2]; rfl))
   rw [h2] at h8
   exact h8)
 have e1:=congrArg Prod.fst (xb1c σ s)
 have e2:=congrArg Prod.snd (xb1c σ s)
 simp only at e1 e2
 rw [e1,e2] at h9
 generalize stCreate σ s = X at h9 ⊢
 have H:=hide h9
 clear h9 h e1 e2
 go_enter Tryz.func98,Tryz.ntmps98
 go_wp2_with fail
 refine Calls.mono (uh H) ?_
 rintro e w1 ⟨rfl,R1,h1,ev⟩
 have H1:=hide h1
 have HE:=hide ev
 clear h1 ev
 go_wp2_with fail
 go_ret
 exact ⟨rfl,R1,uh H1,uh HE⟩
set_option maxHeartbeats 1000000 in
theorem xb2e (c nb bb:Nat) (R:List Nat) (σ:DSt) (s:ByteArray) (pv:Value) (ps:List Nat) (w:World) (h:RK w c R nb bb σ) (hn:nb≤800000000) (hpr:Rd w pv ps) (hpd:∀ x∈zblk pv ps,x∉R) (hb:bb + ps.length≤140737488350000) :
  Calls Tryz.prog 100 #[.pointer (some ⟨c,0,none⟩),.string s,pv] w fun e w'=>e = .returned (.int .i64 ((stAppend σ s ps).1:Nat))∧∃ R',RK w' c R' (nb + 2) (bb + ps.length) (stAppend σ s ps).2∧Ev w w' R R':=by
 have h9:=xa2s 2 c nb bb R σ s pv ps w h hn hpr hpd (if (findA σ.A s.data.toList).isSome then 0 else 5) (by split <;> omega)
  (fun W σ1 h1 h2=>by rw [← h2]; exact xb1l 2 (.inl rfl) c (nb + 1) bb R σ1 s W h1 (by omega)) (fun p=>upA σ.A s fun f=>{ f with bs:=f.bs++p })
  (fun h0 W σ1 pv' ps' h1 h2 h3 h4=>by
   have hq:(findA σ.A s.data.toList).isSome = true:=by
    cases hq:(findA σ.A s.data.toList).isSome
    ·rw [hq] at h0; simp at h0
    ·rfl
   obtain ⟨i,hi⟩:=fnd_of hq
   have h8:=xb6g c (nb + 1) bb R σ1 s pv' ps' i W h1 (by omega) (by rw [h2]; exact hi) h3 (by omega)
   rw [h2] at h8
   refine h8.mono ?_
   rintro e w' ⟨rfl,R',h5,h6⟩
   exact ⟨rfl,R',h5.more (by omega) (by omega),h6⟩)
 have e1:=congrArg Prod.fst (xb0k σ s ps)
 have e2:=congrArg Prod.snd (xb0k σ s ps)
 simp only at e1 e2
 rw [e1,e2] at h9
 generalize stAppend σ s ps = X at h9 ⊢
 obtain ⟨pa,pl,pc,hpv⟩:∃ a l c,pv = .slice a l c:=by obtain ⟨a,l,c,h1,_⟩:=hpr; exact ⟨a,l,c,h1⟩
 subst hpv
 have H:=hide h9
 clear h9 h e1 e2 hpr hpd
 go_enter Tryz.func100,Tryz.ntmps100
 go_wp2_with fail
 refine Calls.mono (uh H) ?_
 rintro e w1 ⟨rfl,R1,h1,ev⟩
 have H1:=hide h1
 have HE:=hide ev
 clear h1 ev
 go_wp2_with fail
 go_ret
 exact ⟨rfl,R1,uh H1,uh HE⟩
set_option maxHeartbeats 1000000 in
theorem xb1a (c nb bb:Nat) (R:List Nat) (σ:DSt) (s:ByteArray) (w:World) (h:RK w c R nb bb σ) (hn:nb≤800000000) :
  Calls Tryz.prog 51 #[.pointer (some ⟨c,0,none⟩),.string s] w fun e w'=>e = .returned (.int .i64 ((stSync σ s).1:Nat))∧∃ R',RK w' c R' (nb + 2) bb (stSync σ s).2∧Ev w w' R R':=by
 have h9:=xa2s 3 c nb bb R σ s (.slice none 0 0) [] w h hn (Rd.nil w) (by simp [zblk]) (if (findA σ.A s.data.toList).isSome then 0 else 5) (by split <;> omega)
  (fun W σ1 h1 h2=>by rw [← h2]; exact xb1l 3 (.inr rfl) c (nb + 1) bb R σ1 s W h1 (by omega)) (fun _=>upA σ.A s fun f=>{ f with sy:=f.bs.length })
  (fun h0 W σ1 pv' ps' h1 h2 h3 h4=>by
   have hq:(findA σ.A s.data.toList).isSome = true:=by
    cases hq:(findA σ.A s.data.toList).isSome
    ·rw [hq] at h0; simp at h0
    ·rfl
   obtain ⟨i,hi⟩:=fnd_of hq
   have h8:=xb3v c (nb + 1) bb R σ1 s pv' i W h1 (by omega) (by rw [h2]; exact hi)
   rw [h2] at h8
   refine h8.mono ?_
   rintro e w' ⟨rfl,R',h5,h6⟩
   exact ⟨rfl,R',h5.more (by omega) (by omega),h6⟩)
 have e1:=congrArg Prod.fst (xb9j σ s)
 have e2:=congrArg Prod.snd (xb9j σ s)
 simp only at e1 e2
 rw [e1,e2] at h9
 generalize stSync σ s = X at h9 ⊢
 have H:=hide h9
 clear h9 h e1 e2
 go_enter Tryz.func51,Tryz.ntmps51
 go_wp2_with fail
 refine Calls.mono (uh H) ?_
 rintro e w1 ⟨rfl,R1,h1,ev⟩
 have H1:=hide h1
 have HE:=hide ev
 clear h1 ev
 go_wp2_with fail
 go_ret
 exact ⟨rfl,R1,uh H1,uh HE⟩
set_option maxHeartbeats 1000000 in
theorem xb5m (c nb bb:Nat) (R:List Nat) (σ:DSt) (w:World) (h:RK w c R nb bb σ) (hn:nb≤800000000) :
  Calls Tryz.prog 101 #[.pointer (some ⟨c,0,none⟩)] w fun e w'=>e = .returned (.int .i64 ((stNames σ).1:Nat))∧∃ R',RK w' c R' (nb + 2) bb (stNames σ).2∧Ev w w' R R':=by
 have h9:=xa2s 4 c nb bb R σ ⟨#[]⟩ (.slice none 0 0) [] w h hn (Rd.nil w) (by simp [zblk]) 0 (by omega)
  (fun W σ1 h1 h2=>xb7t c ⟨#[]⟩ W) (fun _=>ndA σ.A)
  (fun h0 W σ1 pv' ps' h1 h2 h3 h4=>by
   have h8:=xb5j c (nb + 1) bb R σ1 ⟨#[]⟩ pv' W h1 (by omega)
   rw [h2] at h8
   refine h8.mono ?_
   rintro e w' ⟨rfl,R',h5,h6⟩
   exact ⟨rfl,R',h5.more (by omega) (by omega),h6⟩)
 have e1:=congrArg Prod.fst (xb3q σ)
 have e2:=congrArg Prod.snd (xb3q σ)
 simp only at e1 e2
 rw [e1,e2] at h9
 generalize stNames σ = X at h9 ⊢
 have H:=hide h9
 clear h9 h e1 e2
 go_enter Tryz.func101,Tryz.ntmps101
 go_wp2_with fail
 refine Calls.mono (uh H) ?_
 rintro e w1 ⟨rfl,R1,h1,ev⟩
 have H1:=hide h1
 have HE:=hide ev
 clear h1 ev
 go_wp2_with fail
 go_ret
 exact ⟨rfl,R1,uh H1,uh HE⟩
end
section
open Go Go.RowKit Go.BigFrame
section
variable {P:Program} {Q:Exit→Act→World→Prop}
theorem xc3j {id:Nat} {o0 o1 o2 o3 o4 o5 o6 o7 o8 o9 o10 o11 o12 o13 o14 o15 o16 o17:Oper} {a:Act} {w:World} (hm:P.follows .mixedOrders = true) (hs:Region.noSelect #[o0,o1,o2,o3,o4,o5,o6,o7,o8,o9,o10,o11,o12,o13,o14,o15,o16,o17] = true)
  (f0:Region.free .any #[o0,o1,o2,o3,o4,o5,o6,o7,o8,o9,o10,o11,o12,o13,o14,o15,o16,o17] #[false,false,false,false,false,false,false,false,false,false,false,false,false,false,false,false,false,false] 0 = true) (r0:(Region.ready .any #[o0,o1,o2,o3,o4,o5,o6,o7,o8,o9,o10,o11,o12,o13,o14,o15,o16,o17] #[false,false,false,false,false,false,false,false,false,false,false,false,false,false,false,false,false,false]).contains 0 = true) (e0:o15.after.any (fun e=>Region.binds .any e && e.on == 0) = true)
  (f1:Region.free .any #[o0,o1,o2,o3,o4,o5,o6,o7,o8,o9,o10,o11,o12,o13,o14,o15,o16,o17] #[true,false,false,false,false,false,false,false,false,false,false,false,false,false,false,false,false,false] 1 = true) (r1:(Region.ready .any #[o0,o1,o2,o3,o4,o5,o6,o7,o8,o9,o10,o11,o12,o13,o14,o15,o16,o17] #[true,false,false,false,false,false,false,false,false,false,false,false,false,false,false,false,false,false]).contains 1 = true) (e1:o15.after.any (fun e=>Region.binds .any e && e.on == 1) = true)
  (f2:Region.free .any #[o0,o1,o2,o3,o4,o5,o6,o7,o8,o9,o10,o11,o12,o13,o14,o15,o16,o17] #[true,true,false,false,false,false,false,false,false,false,false,false,false,false,false,false,false,false] 2 = true) (r2:(Region.ready .any #[o0,o1,o2,o3,o4,o5,o6,o7,o8,o9,o10,o11,o12,o13,o14,o15,o16,o17] #[true,true,false,false,false,false,false,false,false,false,false,false,false,false,false,false,false,false]).contains 2 = true) (e2:o15.after.any (fun e=>Region.binds .any e && e.on == 2) = true)
  (f3:Region.free .any #[o0,o1,o2,o3,o4,o5,o6,o7,o8,o9,o10,o11,o12,o13,o14,o15,o16,o17] #[true,true,true,false,false,false,false,false,false,false,false,false,false,false,false,false,false,false] 3 = true) (r3:(Region.ready .any #[o0,o1,o2,o3,o4,o5,o6,o7,o8,o9,o10,o11,o12,o13,o14,o15,o16,o17] #[true,true,true,false,false,false,false,false,false,false,false,false,false,false,false,false,false,false]).contains 3 = true) (e3:o17.after.any (fun e=>Region.binds .any e && e.on == 3) = true)
  (f4:Region.free .any #[o0,o1,o2,o3,o4,o5,o6,o7,o8,o9,o10,o11,o12,o13,o14,o15,o16,o17] #[true,true,true,true,false,false,false,false,false,false,false,false,false,false,false,false,false,false] 4 = true) (r4:(Region.ready .any #[o0,o1,o2,o3,o4,o5,o6,o7,o8,o9,o10,o11,o12,o13,o14,o15,o16,o17] #[true,true,true,true,false,false,false,false,false,false,false,false,false,false,false,false,false,false]).contains 4 = true) (e4:o17.after.any (fun e=>Region.binds .any e && e.on == 4) = true)
  (f5:Region.free .any #[o0,o1,o2,o3,o4,o5,o6,o7,o8,o9,o10,o11,o12,o13,o14,o15,o16,o17] #[true,true,true,true,true,false,false,false,false,false,false,false,false,false,false,false,false,false] 5 = true) (r5:(Region.ready .any #[o0,o1,o2,o3,o4,o5,o6,o7,o8,o9,o10,o11,o12,o13,o14,o15,o16,o17] #[true,true,true,true,true,false,false,false,false,false,false,false,false,false,false,false,false,false]).contains 5 = true) (e5:o15.after.any (fun e=>Region.binds .any e && e.on == 5) = true)
  (f6:Region.free .any #[o0,o1,o2,o3,o4,o5,o6,o7,o8,o9,o10,o11,o12,o13,o14,o15,o16,o17] #[true,true,true,true,true,true,false,false,false,false,false,false,false,false,false,false,false,false] 6 = true) (r6:(Region.ready .any #[o0,o1,o2,o3,o4,o5,o6,o7,o8,o9,o10,o11,o12,o13,o14,o15,o16,o17] #[true,true,true,true,true,true,false,false,false,false,false,false,false,false,false,false,false,false]).contains 6 = true) (e6:o15.after.any (fun e=>Region.binds .any e && e.on == 6) = true)
  (f7:Region.free .any #[o0,o1,o2,o3,o4,o5,o6,o7,o8,o9,o10,o11,o12,o13,o14,o15,o16,o17] #[true,true,true,true,true,true,true,false,false,false,false,false,false,false,false,false,false,false] 7 = true) (r7:(Region.ready .any #[o0,o1,o2,o3,o4,o5,o6,o7,o8,o9,o10,o11,o12,o13,o14,o15,o16,o17] #[true,true,true,true,true,true,true,false,false,false,false,false,false,false,false,false,false,false]).contains 7 = true) (e7:o15.after.any (fun e=>Region.binds .any e && e.on == 7) = true)
  (f8:Region.free .any #[o0,o1,o2,o3,o4,o5,o6,o7,o8,o9,o10,o11,o12,o13,o14,o15,o16,o17] #[true,true,true,true,true,true,true,true,false,false,false,false,false,false,false,false,false,false] 8 = true) (r8:(Region.ready .any #[o0,o1,o2,o3,o4,o5,o6,o7,o8,o9,o10,o11,o12,o13,o14,o15,o16,o17] #[true,true,true,true,true,true,true,true,false,false,false,false,false,false,false,false,false,false]).contains 8 = true) (e8:o15.after.any (fun e=>Region.binds .any e && e.on == 8) = true)
  (f9:Region.free .any #[o0,o1,o2,o3,o4,o5,o6,o7,o8,o9,o10,o11,o12,o13,o14,o15,o16,o17] #[true,true,true,true,true,true,true,true,true,false,false,false,false,false,false,false,false,false] 9 = true) (r9:(Region.ready .any #[o0,o1,o2,o3,o4,o5,o6,o7,o8,o9,o10,o11,o12,o13,o14,o15,o16,o17] #[true,true,true,true,true,true,true,true,true,false,false,false,false,false,false,false,false,false]).contains 9 = true) (e9:o17.after.any (fun e=>Region.binds .any e && e.on == 9) = true)
  (f10:Region.free .any #[o0,o1,o2,o3,o4,o5,o6,o7,o8,o9,o10,o11,o12,o13,o14,o15,o16,o17] #[true,true,true,true,true,true,true,true,true,true,false,false,false,false,false,false,false,false] 10 = true) (r10:(Region.ready .any #[o0,o1,o2,o3,o4,o5,o6,o7,o8,o9,o10,o11,o12,o13,o14,o15,o16,o17] #[true,true,true,true,true,true,true,true,true,true,false,false,false,false,false,false,false,false]).contains 10 = true) (e10:o17.after.any (fun e=>Region.binds .any e && e.on == 10) = true)
  (f11:Region.free .any #[o0,o1,o2,o3,o4,o5,o6,o7,o8,o9,o10,o11,o12,o13,o14,o15,o16,o17] #[true,true,true,true,true,true,true,true,true,true,true,false,false,false,false,false,false,false] 11 = true) (r11:(Region.ready .any #[o0,o1,o2,o3,o4,o5,o6,o7,o8,o9,o10,o11,o12,o13,o14,o15,o16,o17] #[true,true,true,true,true,true,true,true,true,true,true,false,false,false,false,false,false,false]).contains 11 = true) (e11:o17.after.any (fun e=>Region.binds .any e && e.on == 11) = true)
  (f12:Region.free .any #[o0,o1,o2,o3,o4,o5,o6,o7,o8,o9,o10,o11,o12,o13,o14,o15,o16,o17] #[true,true,true,true,true,true,true,true,true,true,true,true,false,false,false,false,false,false] 12 = true) (r12:(Region.ready .any #[o0,o1,o2,o3,o4,o5,o6,o7,o8,o9,o10,o11,o12,o13,o14,o15,o16,o17] #[true,true,true,true,true,true,true,true,true,true,true,true,false,false,false,false,false,false]).contains 12 = true) (e12:o17.after.any (fun e=>Region.binds .any e && e.on == 12) = true)
  (f13:Region.free .any #[o0,o1,o2,o3,o4,o5,o6,o7,o8,o9,o10,o11,o12,o13,o14,o15,o16,o17] #[true,true,true,true,true,true,true,true,true,true,true,true,true,false,false,false,false,false] 13 = true) (r13:(Region.ready .any #[o0,o1,o2,o3,o4,o5,o6,o7,o8,o9,o10,o11,o12,o13,o14,o15,o16,o17] #[true,true,true,true,true,true,true,true,true,true,true,true,true,false,false,false,false,false]).contains 13 = true) (e13:o15.after.any (fun e=>Region.binds .any e && e.on == 13) = true)
  (q14:Region.ready .any #[o0,o1,o2,o3,o4,o5,o6,o7,o8,o9,o10,o11,o12,o13,o14,o15,o16,o17] #[true,true,true,true,true,true,true,true,true,true,true,true,true,true,false,false,false,false] = [14]) (g14:o14.guard = none)
  (q15:Region.ready .any #[o0,o1,o2,o3,o4,o5,o6,o7,o8,o9,o10,o11,o12,o13,o14,o15,o16,o17] #[true,true,true,true,true,true,true,true,true,true,true,true,true,true,true,false,false,false] = [15]) (g15:o15.guard = none)
  (q16:Region.ready .any #[o0,o1,o2,o3,o4,o5,o6,o7,o8,o9,o10,o11,o12,o13,o14,o15,o16,o17] #[true,true,true,true,true,true,true,true,true,true,true,true,true,true,true,true,false,false] = [16]) (g16:o16.guard = none)
  (q17:Region.ready .any #[o0,o1,o2,o3,o4,o5,o6,o7,o8,o9,o10,o11,o12,o13,o14,o15,o16,o17] #[true,true,true,true,true,true,true,true,true,true,true,true,true,true,true,true,true,false] = [17]) (g17:o17.guard = none)
  (rr:Region.ready .any #[o0,o1,o2,o3,o4,o5,o6,o7,o8,o9,o10,o11,o12,o13,o14,o15,o16,o17] #[true,true,true,true,true,true,true,true,true,true,true,true,true,true,true,true,true,true] = [])
  (v0 v1 v2 v3 v4 v5 v6 v7 v8 v9 v10 v11 v12 v13 u14 u16:Value) (A0 A1 A2 A3 A4 A5 A6 A7 A8 A9 A10 A11 A12 A13:Act) (T:World→Prop) (W1 W2:World)
  (p0:a.put o0.dst v0 = A0) (hy0:YieldsIf P #[o0,o1,o2,o3,o4,o5,o6,o7,o8,o9,o10,o11,o12,o13,o14,o15,o16,o17] T o0 v0 a)
  (p1:A0.put o1.dst v1 = A1) (hy1:YieldsIf P #[o0,o1,o2,o3,o4,o5,o6,o7,o8,o9,o10,o11,o12,o13,o14,o15,o16,o17] T o1 v1 A0)
  (p2:A1.put o2.dst v2 = A2) (hy2:YieldsIf P #[o0,o1,o2,o3,o4,o5,o6,o7,o8,o9,o10,o11,o12,o13,o14,o15,o16,o17] T o2 v2 A1)
  (p3:A2.put o3.dst v3 = A3) (hy3:YieldsIf P #[o0,o1,o2,o3,o4,o5,o6,o7,o8,o9,o10,o11,o12,o13,o14,o15,o16,o17] (fun _=>True) o3 v3 A2)
  (p4:A3.put o4.dst v4 = A4) (hy4:YieldsIf P #[o0,o1,o2,o3,o4,o5,o6,o7,o8,o9,o10,o11,o12,o13,o14,o15,o16,o17] (fun _=>True) o4 v4 A3)
  (p5:A4.put o5.dst v5 = A5) (hy5:YieldsIf P #[o0,o1,o2,o3,o4,o5,o6,o7,o8,o9,o10,o11,o12,o13,o14,o15,o16,o17] T o5 v5 A4)
  (p6:A5.put o6.dst v6 = A6) (hy6:YieldsIf P #[o0,o1,o2,o3,o4,o5,o6,o7,o8,o9,o10,o11,o12,o13,o14,o15,o16,o17] T o6 v6 A5)
  (p7:A6.put o7.dst v7 = A7) (hy7:YieldsIf P #[o0,o1,o2,o3,o4,o5,o6,o7,o8,o9,o10,o11,o12,o13,o14,o15,o16,o17] T o7 v7 A6)
  (p8:A7.put o8.dst v8 = A8) (hy8:YieldsIf P #[o0,o1,o2,o3,o4,o5,o6,o7,o8,o9,o10,o11,o12,o13,o14,o15,o16,o17] T o8 v8 A7)
  (p9:A8.put o9.dst v9 = A9) (hy9:YieldsIf P #[o0,o1,o2,o3,o4,o5,o6,o7,o8,o9,o10,o11,o12,o13,o14,o15,o16,o17] (fun _=>True) o9 v9 A8)
  (p10:A9.put o10.dst v10 = A10) (hy10:YieldsIf P #[o0,o1,o2,o3,o4,o5,o6,o7,o8,o9,o10,o11,o12,o13,o14,o15,o16,o17] (fun _=>True) o10 v10 A9)
  (p11:A10.put o11.dst v11 = A11) (hy11:YieldsIf P #[o0,o1,o2,o3,o4,o5,o6,o7,o8,o9,o10,o11,o12,o13,o14,o15,o16,o17] (fun _=>True) o11 v11 A10)
  (p12:A11.put o12.dst v12 = A12) (hy12:YieldsIf P #[o0,o1,o2,o3,o4,o5,o6,o7,o8,o9,o10,o11,o12,o13,o14,o15,o16,o17] (fun _=>True) o12 v12 A11)
  (p13:A12.put o13.dst v13 = A13) (hy13:YieldsIf P #[o0,o1,o2,o3,o4,o5,o6,o7,o8,o9,o10,o11,o12,o13,o14,o15,o16,o17] T o13 v13 A12)
  (hT:T w.drew)
  (s14:∀ K:Act→World→Prop,K (A13.put o14.dst u14) w.drew→o14.wp P A13 w.drew K (NoPanic Q))
  (s15:∀ K:Act→World→Prop,K (A13.put o14.dst u14) W1→o15.wp P (A13.put o14.dst u14) w.drew K (NoPanic Q))
  (s16:∀ K:Act→World→Prop,K ((A13.put o14.dst u14).put o16.dst u16) W1→o16.wp P (A13.put o14.dst u14) W1 K (NoPanic Q))
  (s17:∀ K:Act→World→Prop,K ((A13.put o14.dst u14).put o16.dst u16) W2→o17.wp P ((A13.put o14.dst u14).put o16.dst u16) W1 K (NoPanic Q))
  (h:Q .normal ((A13.put o14.dst u14).put o16.dst u16) W2) :
  (Code.region id #[o0,o1,o2,o3,o4,o5,o6,o7,o8,o9,o10,o11,o12,o13,o14,o15,o16,o17] true).wp P Q a w:=by
 subst p0 p1 p2 p3 p4 p5 p6 p7 p8 p9 p10 p11 p12 p13
 refine wp_region_noPanic ?_
 refine wp_region_any hm ?_
 refine AnyL.any (S:=fun d w'=>d.getD 15 true = false→T w') _ _ _ _ ?_
 show AnyL P .any #[o0,o1,o2,o3,o4,o5,o6,o7,o8,o9,o10,o11,o12,o13,o14,o15,o16,o17] (NoPanic Q) _ 18 #[false,false,false,false,false,false,false,false,false,false,false,false,false,false,false,false,false,false] a w.drew
 have hSi:∀ i,i≠15→∀ (d:Array Bool) (w':World),((d.setIfInBounds i true).getD 15 true = false→T w')↔(d.getD 15 true = false→T w'):=by
  intro i h4 d w'
  rw [getD_set_ne true h4]
 refine AnyL.take (i:=0) (t:=15) (oi:=o0) (ot:=o15) (T:=T) rfl rfl (by decide) hs f0 r0 e0 (fun _ _ _ h=>h) (fun d w' h9 hd=>h9 hd) (hSi 0 (by decide)) hy0 rfl (fun _=>hT) ?_
 refine AnyL.take (i:=1) (t:=15) (oi:=o1) (ot:=o15) (T:=T) rfl rfl (by decide) hs f1 r1 e1 (fun _ _ _ h=>h) (fun d w' h9 hd=>h9 hd) (hSi 1 (by decide)) hy1 rfl (fun _=>hT) ?_
 refine AnyL.take (i:=2) (t:=15) (oi:=o2) (ot:=o15) (T:=T) rfl rfl (by decide) hs f2 r2 e2 (fun _ _ _ h=>h) (fun d w' h9 hd=>h9 hd) (hSi 2 (by decide)) hy2 rfl (fun _=>hT) ?_
 refine AnyL.take (i:=3) (t:=17) (oi:=o3) (ot:=o17) (T:=(fun _=>True)) rfl rfl (by decide) hs f3 r3 e3 (fun _ _ _ h=>h) (fun d w' h9 hd=>trivial) (hSi 3 (by decide)) hy3 rfl (fun _=>hT) ?_
 refine AnyL.take (i:=4) (t:=17) (oi:=o4) (ot:=o17) (T:=(fun _=>True)) rfl rfl (by decide) hs f4 r4 e4 (fun _ _ _ h=>h) (fun d w' h9 hd=>trivial) (hSi 4 (by decide)) hy4 rfl (fun _=>hT) ?_
 refine AnyL.take (i:=5) (t:=15) (oi:=o5) (ot:=o15) (T:=T) rfl rfl (by decide) hs f5 r5 e5 (fun _ _ _ h=>h) (fun d w' h9 hd=>h9 hd) (hSi 5 (by decide)) hy5 rfl (fun _=>hT) ?_
 refine AnyL.take (i:=6) (t:=15) (oi:=o6) (ot:=o15) (T:=T) rfl rfl (by decide) hs f6 r6 e6 (fun _ _ _ h=>h) (fun d w' h9 hd=>h9 hd) (hSi 6 (by decide)) hy6 rfl (fun _=>hT) ?_
 refine AnyL.take (i:=7) (t:=15) (oi:=o7) (ot:=o15) (T:=T) rfl rfl (by decide) hs f7 r7 e7 (fun _ _ _ h=>h) (fun d w' h9 hd=>h9 hd) (hSi 7 (by decide)) hy7 rfl (fun _=>hT) ?_
 refine AnyL.take (i:=8) (t:=15) (oi:=o8) (ot:=o15) (T:=T) rfl rfl (by decide) hs f8 r8 e8 (fun _ _ _ h=>h) (fun d w' h9 hd=>h9 hd) (hSi 8 (by decide)) hy8 rfl (fun _=>hT) ?_
 refine AnyL.take (i:=9) (t:=17) (oi:=o9) (ot:=o17) (T:=(fun _=>True)) rfl rfl (by decide) hs f9 r9 e9 (fun _ _ _ h=>h) (fun d w' h9 hd=>trivial) (hSi 9 (by decide)) hy9 rfl (fun _=>hT) ?_
 refine AnyL.take (i:=10) (t:=17) (oi:=o10) (ot:=o17) (T:=(fun _=>True)) rfl rfl (by decide) hs f10 r10 e10 (fun _ _ _ h=>h) (fun d w' h9 hd=>trivial) (hSi 10 (by decide)) hy10 rfl (fun _=>hT) ?_
 refine AnyL.take (i:=11) (t:=17) (oi:=o11) (ot:=o17) (T:=(fun _=>True)) rfl rfl (by decide) hs f11 r11 e11 (fun _ _ _ h=>h) (fun d w' h9 hd=>trivial) (hSi 11 (by decide)) hy11 rfl (fun _=>hT) ?_
 refine AnyL.take (i:=12) (t:=17) (oi:=o12) (ot:=o17) (T:=(fun _=>True)) rfl rfl (by decide) hs f12 r12 e12 (fun _ _ _ h=>h) (fun d w' h9 hd=>trivial) (hSi 12 (by decide)) hy12 rfl (fun _=>hT) ?_
 refine AnyL.take (i:=13) (t:=15) (oi:=o13) (ot:=o15) (T:=T) rfl rfl (by decide) hs f13 r13 e13 (fun _ _ _ h=>h) (fun d w' h9 hd=>h9 hd) (hSi 13 (by decide)) hy13 rfl (fun _=>hT) ?_
 refine AnyL.forced q14 rfl g14 (fun K hK=>s14 K (hK _ _ (fun _=>hT) ?_))
 refine AnyL.forced q15 rfl g15 (fun K hK=>s15 K (hK _ _ (fun h9=>(by cases h9)) ?_))
 refine AnyL.forced q16 rfl g16 (fun K hK=>s16 K (hK _ _ (fun h9=>(by cases h9)) ?_))
 refine AnyL.forced q17 rfl g17 (fun K hK=>s17 K (hK _ _ (fun h9=>(by cases h9)) ?_))
 exact ⟨rr,NoPanic.normal h⟩
end
end
section
open Go.RowKit Go.BigFrame Go.Maps Go.Sort
theorem xb4x {t:DF × Value}:∀ {ts:List (DF × Value)} {i:Nat} (hi:i < ts.length),((((ts.flatMap dfC).set (i * 4) (.string t.1.nm)).set (i * 4 + 1) t.2).set (i * 4 + 2) (.int .i64 (t.1.sy:Int))).set (i * 4 + 3) (.bool t.1.nd) = (ts.set i t).flatMap dfC
 | a :: r,0,hi=>by simp [dfC]
 | a :: r,i + 1,hi=>by
  have hi':i < r.length:=by simpa using hi
  have ih:=xb4x (t:=t) hi'
  have e:(dfC a).length = 4:=rfl
  rw [List.set_cons_succ,List.flatMap_cons,List.flatMap_cons,List.set_append_right _ _ (by omega),List.set_append_right _ _ (by omega),List.set_append_right _ _ (by omega),List.set_append_right _ _ (by omega),← ih,e]
  rw [show (i + 1) * 4 - 4 = i * 4 by omega,show (i + 1) * 4 + 1 - 4 = i * 4 + 1 by omega,show (i + 1) * 4 + 2 - 4 = i * 4 + 2 by omega,show (i + 1) * 4 + 3 - 4 = i * 4 + 3 by omega]
def put4 (w:World) (g i:Nat) (t:DF × Value):World:=(((w.setCell ⟨g,i * 4,none⟩ (.string t.1.nm)).setCell ⟨g,i * 4 + 1,none⟩ t.2).setCell ⟨g,i * 4 + 2,none⟩ (.int .i64 (t.1.sy:Int))).setCell ⟨g,i * 4 + 3,none⟩ (.bool t.1.nd)
theorem xa3p {L:List Nat} {w0 w:World} (k:Kept L w0 w) (g i:Nat) (t:DF × Value) (hg:g∈L∨w0.heap.size≤g):Kept L w0 (put4 w g i t):=(((k.setCell (p:=⟨g,i * 4,none⟩) hg _).setCell (p:=⟨g,i * 4 + 1,none⟩) hg _).setCell (p:=⟨g,i * 4 + 2,none⟩) hg _).setCell (p:=⟨g,i * 4 + 3,none⟩) hg _
theorem xa6g {w:World} {B g n cap:Nat} {ts:List (DF × Value)} (h:w.ownsRow B 74 4 (.slice (some ⟨g,0,none⟩) n cap) n (ts.flatMap dfC)) {i:Nat} (hi:i < ts.length) (t:DF × Value):(put4 w g i t).ownsRow B 74 4 (.slice (some ⟨g,0,none⟩) n cap) n ((ts.set i t).flatMap dfC):=by
 have h1:=(h.stored (i * 4) (.string t.1.nm)).1
 have h2:=(h1.stored (i * 4 + 1) t.2).1
 have h3:=(h2.stored (i * 4 + 2) (.int .i64 (t.1.sy:Int))).1
 have h4:=(h3.stored (i * 4 + 3) (.bool t.1.nd)).1
 rw [xb4x hi] at h4
 exact h4
theorem xa5m {w:World} {B g n cap:Nat} {ts:List (DF × Value)} (h:w.ownsRow B 74 4 (.slice (some ⟨g,0,none⟩) n cap) n (ts.flatMap dfC)) {i:Nat} (hi:i < ts.length) :
  (w.cell? ⟨g,i * 4,none⟩ = some (.string ts[i].1.nm)∧w.cell? ⟨g,i * 4 + 1,none⟩ = some ts[i].2∧w.cell? ⟨g,i * 4 + 2,none⟩ = some (.int .i64 (ts[i].1.sy:Int))∧w.cell? ⟨g,i * 4 + 3,none⟩ = some (.bool ts[i].1.nd))∧∀ k,w.frozen? ⟨g,k,none⟩ = false:=by
 have hc:∀ j v,(dfC ts[i])[j]? = some v→w.cell? ⟨g,i * 4 + j,none⟩ = some v:=by
  intro j v hv
  have h9:=h.cells (g:=g) rfl (i * 4 + j) v (xb4m ts i hi j v hv)
  rw [Addr.add_lit,Nat.zero_add] at h9
  exact h9
 refine ⟨⟨hc 0 _ rfl,hc 1 _ rfl,hc 2 _ rfl,hc 3 _ rfl⟩,fun k=>?_⟩
 rcases h.2 with ⟨hv,_⟩ | ⟨g9,c9,cur9,hv,_,hg9,_⟩
 ·cases hv
 ·cases hv; exact frozen_of_row _ _ k _ _ hg9
theorem xb0q {w:World} {B g n cap:Nat} {ts:List (DF × Value)} (h:w.ownsRow B 74 4 (.slice (some ⟨g,0,none⟩) n cap) n (ts.flatMap dfC)) {i:Nat} (hi:i < ts.length) :
  ∃ y:DF × Value,(w.cell? ⟨g,i * 4,none⟩ = some (.string y.1.nm)∧w.cell? ⟨g,i * 4 + 1,none⟩ = some y.2∧w.cell? ⟨g,i * 4 + 2,none⟩ = some (.int .i64 (y.1.sy:Int))∧w.cell? ⟨g,i * 4 + 3,none⟩ = some (.bool y.1.nd))∧∀ k,w.frozen? ⟨g,k,none⟩ = false:=⟨_,xa5m h hi⟩
theorem OwnFl.swap {B:Nat} {w:World} {g n cap:Nat} {P S:List (DF × Value)} {a x:DF × Value} (h:OwnFl B w (.slice (some ⟨g,0,none⟩) n cap) (P++a :: x :: S)) (hn:(P++a :: x :: S).length = n) :
  OwnFl B (put4 (put4 w g P.length x) g (P.length + 1) a) (.slice (some ⟨g,0,none⟩) n cap) (P++x :: a :: S):=by
 have ho:=h.own
 rw [hn] at ho
 have h1:=xa6g ho (i:=P.length) (by simp) x
 have h2:=xa6g h1 (i:=P.length + 1) (by simp) a
 have e1:(P++a :: x :: S).set P.length x = P++x :: x :: S:=by rw [List.set_append_right _ _ (Nat.le_refl _),Nat.sub_self]; rfl
 have e2:(P++x :: x :: S).set (P.length + 1) a = P++x :: a :: S:=by rw [List.set_append_right _ _ (by omega),show P.length + 1 - P.length = 1 by omega]; rfl
 rw [e1,e2] at h2
 have hp:(P++x :: a :: S).Perm (P++a :: x :: S):=List.Perm.append_left P (List.Perm.swap a x S)
 have kz:Kept [g] w (put4 (put4 w g P.length x) g (P.length + 1) a):=xa3p (xa3p (Kept.refl _ _) g _ x (.inl (by simp))) g _ a (.inl (by simp))
 obtain ⟨cur,hrow⟩:=h.row
 refine ⟨?_,?_,?_⟩
 ·rw [hp.length_eq,hn]; exact h2
 ·intro t ht
  have h9:=h.el t (hp.mem_iff.1 ht)
  refine ⟨kz.owns h9.1 (fun y hy=>?_),h9.2⟩
  obtain ⟨cs,hc⟩:=xa0f h9.1 (xa1a hy)
  simp only [List.mem_singleton]
  exact xa0i hc hrow (by decide)
 ·exact hp.symm.pairwise h.ap (fun hab y hy hz=>hab y hz hy)
theorem gt_str (a b:ByteArray):(!decide (a.data.toList < b.data.toList) && !a.toList == b.toList) = decide (b.data.toList < a.data.toList):=by
 rw [xa1p,xa1p]
 by_cases h1:a.data.toList < b.data.toList
 ·rw [decide_eq_true h1,decide_eq_false (fun h2=>List.lt_irrefl _ (List.lt_trans h1 h2))]; rfl
 ·by_cases h2:a.data.toList = b.data.toList
  ·rw [h2,decide_eq_false (List.lt_irrefl _)]; simp
  ·have h3:b.data.toList < a.data.toList:=by
    rcases Classical.em (b.data.toList < a.data.toList) with h | h
    ·exact h
    ·exact absurd (List.le_antisymm (List.not_lt.1 h) (List.not_lt.1 h1)) h2
   rw [decide_eq_false h1,decide_eq_true h3,beq_eq_false_iff_ne.2 h2]
   rfl
structure Ins (A:List DF) (k:Nat) (P S:List (DF × Value)) (x:DF × Value):Prop where
 perm:((P++x :: S).map Prod.fst).Perm (A.take (k + 1))
 srt:((P++S).map Prod.fst).Pairwise fun a b=>a.nm.data.toList≤b.nm.data.toList
 gt:∀ y∈S,x.1.nm.data.toList≤y.1.nm.data.toList
theorem Ins.down {A:List DF} {k:Nat} {P S:List (DF × Value)} {x p:DF × Value} (h:Ins A k (P++[p]) S x) (hl:x.1.nm.data.toList < p.1.nm.data.toList):Ins A k P (p :: S) x:=by
 refine ⟨?_,?_,?_⟩
 ·refine List.Perm.trans ?_ h.perm
  rw [List.append_assoc]
  exact (List.Perm.append_left P (List.Perm.swap p x S)).map _
 ·have:=h.srt
  rw [List.append_assoc] at this
  exact this
 ·intro y hy
  rcases List.mem_cons.1 hy with rfl | hy
  ·exact List.le_of_lt hl
  ·exact h.gt y hy
theorem Ins.done {A:List DF} {k:Nat} {P S:List (DF × Value)} {x:DF × Value} (h:Ins A k P S x) (hl:∀ P' p,P = P'++[p]→p.1.nm.data.toList≤x.1.nm.data.toList):((P++x :: S).map Prod.fst).Pairwise fun a b=>a.nm.data.toList≤b.nm.data.toList:=by
 have hs:=h.srt
 rw [List.map_append,List.pairwise_append] at hs ⊢
 obtain ⟨h1,h2,h3⟩:=hs
 refine ⟨h1,?_,?_⟩
 ·rw [List.map_cons,List.pairwise_cons]
  refine ⟨?_,h2⟩
  intro a ha
  obtain ⟨y,hy,rfl⟩:=List.mem_map.1 ha
  exact h.gt y hy
 ·intro a ha b hb
  rw [List.map_cons,List.mem_cons] at hb
  rcases hb with rfl | hb
  ·obtain ⟨y,hy,rfl⟩:=List.mem_map.1 ha
   rcases List.eq_nil_or_concat P with rfl | ⟨P',p,rfl⟩
   ·simp at hy
   ·rw [List.concat_eq_append] at *
    have hp:=hl P' p rfl
    rcases List.mem_append.1 hy with h9 | h9
    ·have h8:((P'++[p]).map Prod.fst).Pairwise fun a b=>a.nm.data.toList≤b.nm.data.toList:=h1
     rw [List.map_append,List.pairwise_append] at h8
     exact List.le_trans (h8.2.2 y.1 (List.mem_map.2 ⟨y,h9,rfl⟩) p.1 (by simp)) hp
    ·simp at h9; subst h9; exact hp
  ·exact h3 a ha b hb
set_option maxHeartbeats 4000000 in
theorem xa8g (c nb bb:Nat) (R:List Nat) (σ:DSt) (w:World) (h:RK w c R nb bb σ) (hn:nb≤900000000) (hb:bb≤140737488350000) :
  Calls Tryz.prog 55 #[.pointer (some ⟨c,0,none⟩)] w fun e w'=>∃ v ts,e = .returned v∧OwnFl w.heap.size w' v ts∧ts.map Prod.fst = srtA σ.A∧Kept [] w w':=by
 obtain ⟨fsv,ts,fav,fl,hp,hR⟩:=h.parts
 obtain ⟨a3,c3,hv3,hg3⟩:=hp.own.shapeL
 subst hv3
 have q1:=cell_of_row _ _ 1 _ _ _ hp.row
 simp [rkC] at q1
 have hl:=hp.len
 have hll:=h.len
 have HR:=hide hp.own.rd
 have HT:=hide hp.fst
 have HG:=hide hg3
 have HL:=hide hl
 have HD:=hide h.dist
 have HBY:=hide h.byt
 have htl:ts.length≤900000000:=by omega
 clear hp hg3 hl hll h hR
 go_enter Tryz.func55,Tryz.ntmps55
 go_wp2_with fail
 go_loopw [3,15] (fun v t15 wr=>∃ (k:Nat) (us:List (DF × Value)),k≤ts.length∧t15 = .int .i64 k∧Hid (OwnFl w.heap.size wr v us)∧Hid ((us.map Prod.fst).Perm (σ.A.take k))∧Hid ((us.map Prod.fst).Pairwise fun a b=>a.nm.data.toList≤b.nm.data.toList)∧Hid (Kept [] w wr)) (fun _ t _=>ts.length - (intOf t).toNat)
 case atStart=>exact ⟨0,[],Nat.zero_le _,rfl,hide (OwnFl.nil _ _),hide (by simp),hide (by simp),hide (Kept.refl _ _)⟩
 case round =>
  obtain ⟨k,us,hk,rfl,HOW,HPM,HSR,HK⟩:=hrel
  obtain ⟨va,vc,hv,hvg⟩:=(uh HOW).shapeL
  subst hv
  have HUL:=hide (by have h9:=(uh HPM).length_eq; rw [List.length_map,List.length_take,← uh HL] at h9; omega:us.length = k)
  by_cases hlt:k < ts.length
  ·have hlt':(k:Int) < ts.length:=by omega
   obtain ⟨g3,rfl⟩:=uh HG (by omega)
   have hka:k < σ.A.length:=by rw [← uh HL]; exact hlt
   obtain ⟨p0,p1,p2,p3⟩:=xa4x (uh HR) hlt
   have x3:=fst_at (uh HT) hlt hka
   have hrd:=(uh HR).2 ts[k] (List.getElem_mem hlt)
   obtain ⟨xa,xl,xc,hxv,hxl,_⟩:=id hrd
   have p0:=(uh HK).cell p0 (by simp)
   have p1:=(uh HK).cell p1 (by simp)
   have p2:=(uh HK).cell p2 (by simp)
   have p3:=(uh HK).cell p3 (by simp)
   rw [hxv] at p1 hrd
   rw [x3] at p0 p2 p3 hrd hxl
   have HRX:=hide (hrd.kept (uh HK) (by simp))
   have HTK:=hide (List.take_succ_eq_append_getElem hka)
   have HXB:=hide (uh HBY σ.A[k] (List.getElem_mem hka))
   clear hrd hxv x3
   generalize σ.A[k] = X at p0 p1 p2 p3 HRX HTK HXB hxl
   subst hxl
   go_upto_region 7 with fail
   have HKV:=hide ((uh HK).alloc (.cells #[.string X.nm,.slice xa X.bs.length xc,.int .i64 (X.sy:Int),.bool X.nd] 74 (0,0)))
   have HKV1:=hide ((Kept.refl [] wr).alloc (.cells #[.string X.nm,.slice xa X.bs.length xc,.int .i64 (X.sy:Int),.bool X.nd] 74 (0,0)))
   have HGV:=hide (heap_alloc_new wr (.cells #[.string X.nm,.slice xa X.bs.length xc,.int .i64 (X.sy:Int),.bool X.nd] 74 (0,0)))
   obtain ⟨V,hV⟩:∃ W,wr.alloc (.cells #[.string X.nm,.slice xa X.bs.length xc,.int .i64 (X.sy:Int),.bool X.nd] 74 (0,0)) = W:=⟨_,rfl⟩
   rw [hV] at HKV HGV HKV1 ⊢
   clear hV p0 p1 p2 p3
   have z0:=cell_of_row _ _ 0 _ _ _ (uh HGV)
   have z1:=cell_of_row _ _ 1 _ _ _ (uh HGV)
   have z2:=cell_of_row _ _ 2 _ _ _ (uh HGV)
   have z3:=cell_of_row _ _ 3 _ _ _ (uh HGV)
   simp at z0 z1 z2 z3
   go_wp2_with fail
   refine Calls.mono (xb1i X (.slice xa X.bs.length xc) V ((uh HRX).kept (uh HKV1) (by simp))) ?_
   rintro e w2 ⟨g2,rfl,ho2,k2⟩
   have HK2:=hide ((uh HKV).trans k2 (by simp))
   have HK2r:=hide ((uh HKV1).trans k2 (by simp))
   have HO2:=hide ho2
   have HBX:=hide (uh HRX).byte
   clear ho2 k2 z0 z1 z2 z3
   have k3:=(Kept.refl [] w2).alloc (.cells #[.string X.nm,.slice (some ⟨g2,0,none⟩) X.bs.length X.bs.length,.int .i64 (X.sy:Int),.bool X.nd] 74 (0,0))
   have HN3:=hide (heap_alloc_new w2 (.cells #[.string X.nm,.slice (some ⟨g2,0,none⟩) X.bs.length X.bs.length,.int .i64 (X.sy:Int),.bool X.nd] 74 (0,0)))
   have HO3:=hide (((uh HOW).keptF (uh HK2r) (by simp)).keptF k3 (by simp))
   have HE3:=hide (ownsB (B':=w.heap.size) (uh HKV).size (k3.owns (uh HO2) (by simp)))
   have HK3:=hide ((uh HK2).trans k3 (by simp))
   have haa:∀ a∈us,∀ y∈blk a.2,y∉blk (.slice (some ⟨g2,0,none⟩) X.bs.length X.bs.length):=by
    intro a ha y hy hz
    have h1:=((uh HOW).ge y (by simp only [flB,List.mem_append,List.mem_flatMap]; exact .inr ⟨a,ha,hy⟩)).2
    have h2:=((uh HO2).lt y (xa3k (uh HO2) hz)).1
    have h3:=(uh HKV1).size
    omega
   have HAA:=hide haa
   clear haa
   have HUB:=hide (by have:=uh HUL; omega:us.length + 1≤1000000000)
   clear k3
   go_wp2_with (at_builtin; refine xa4k rfl (.tmp 19) (.tmp 22) rfl rfl _ w.heap.size (.slice va us.length vc) us (X,.slice (some ⟨g2,0,none⟩) X.bs.length X.bs.length) w2.heap.size (uh HO3) (uh HN3) ⟨uh HE3,uh HBX,by have:=uh HXB; show X.bs.length≤_; omega⟩ (uh HAA) (uh HUB) (uh HK3).size rfl rfl ?_; intro g5 cap5 w5 HO5 HGR5 HA5)
   have HK5:=hide ((uh HK3).grown (uh HGR5) (by intro y hy; right; exact ((uh HOW).own.lt y hy).1))
   have HINS:=hide (⟨by rw [List.map_append,uh HTK]; exact (List.Perm.append_right _ (uh HPM)),by rw [List.append_nil]; exact uh HSR,by simp⟩:Ins σ.A k us [] (X,.slice (some ⟨g2,0,none⟩) X.bs.length X.bs.length))
   obtain ⟨R0,hR0⟩:∃ R,R = wr:=⟨_,rfl⟩
   subst hR0
   obtain ⟨x,hx⟩:∃ x,(X,Value.slice (some ⟨g2,0,none⟩) X.bs.length X.bs.length) = x:=⟨_,rfl⟩
   rw [hx] at HINS HO5
   clear hx
   rw [uh HUL] at HO5 ⊢
   have hkb:(k:Int) + 1 - 1 = k:=by omega
   have HUS:=hide (uh HUL)
   go_wp2_with fail
   go_loopw [6] (fun t6 wr=>∃ (i:Nat) (P S:List (DF × Value)),t6 = .int .i64 i∧Hid (P.length = i)∧Hid ((P++x :: S).length = k + 1)∧Hid (OwnFl w.heap.size wr (.slice (some ⟨g5,0,none⟩) (k + 1) cap5) (P++x :: S))∧Hid (Ins σ.A k P S x)∧Hid (Kept [] w wr)) (fun t _=>(intOf t).toNat)
   case atStart=>exact ⟨k,us,[],by simp [wrap64]; omega,HUS,hide (by rw [List.length_append,uh HUS]; rfl),HO5,HINS,HK5⟩
   case round =>
    obtain ⟨i,P,S,rfl,HPL,HTL,HOI,HIN,HKI⟩:=hrel
    have HIK:=hide (by have h9:=uh HTL; rw [List.length_append,List.length_cons,uh HPL] at h9; omega:i≤k)
    have hik:=uh HIK
    have HOO:=hide (by have h9:=(uh HOI).own; rw [uh HTL] at h9; exact h9)
    by_cases hi0:0 < i
    ·obtain ⟨P',p,hPP⟩:∃ P' p,P = P'++[p]:=by
      rcases List.eq_nil_or_concat P with h9 | ⟨P',p,h9⟩
      ·have:=uh HPL; subst h9; simp at this; omega
      ·exact ⟨P',p,by rw [h9,List.concat_eq_append]⟩
     obtain ⟨j,hj⟩:∃ j,i = j + 1:=⟨i - 1,by omega⟩
     have hPj:P'.length = j:=by have h9:=uh HPL; rw [hPP,List.length_append] at h9; simp at h9; omega
     have hlen:(P++x :: S).length = k + 1:=uh HTL
     have hxi:(P++x :: S)[i]'(by rw [hlen]; omega) = x:=by
      rw [List.getElem_append_right (by rw [uh HPL]; exact Nat.le_refl _)]
      simp [uh HPL]
     have hpj:(P++x :: S)[j]'(by rw [hlen]; omega) = p:=by
      rw [List.getElem_append_left (by rw [uh HPL]; omega)]
      simp only [hPP]
      rw [List.getElem_append_right (by omega)]
      simp [hPj]
     obtain ⟨⟨x0,x1,x2,x3⟩,zf⟩:=xa5m (uh HOO) (i:=i) (by rw [hlen]; omega)
     obtain ⟨⟨a0,a1,a2,a3⟩,_⟩:=xa5m (uh HOO) (i:=j) (by rw [hlen]; omega)
     rw [hxi] at x0 x1 x2 x3
     rw [hpj] at a0 a1 a2 a3
     have hx2:=((uh HOI).el x (by simp)).1
     have hp2:=((uh HOI).el p (by rw [hPP]; simp)).1
     obtain ⟨ya,yc,hyv⟩:=xa1c hx2
     obtain ⟨ra,rc,hrv⟩:=xa1c hp2
     rw [hyv] at x1
     rw [hrv] at a1
     have hip:(0:Int) < (i:Int):=by omega
     have hsub:(i:Int) - 1 = (j:Int):=by omega
     have hib:(i:Int) < (k:Int) + 1:=by omega
     have hjb:(j:Int) < (k:Int) + 1:=by omega
     have HPP:=hide hPP
     have HPJ:=hide hPj
     have HJ:=hide hj
     have HYV:=hide hyv
     have HRV:=hide hrv
     have HX1:=hide x1
     have HA1:=hide a1
     have HZF:=hide zf
     clear hPP hPj hlen hxi hpj hx2 hp2 hj hyv hrv zf
     go_upto_region 9 with fail
     by_cases hls:x.1.nm.data.toList < p.1.nm.data.toList
     ·refine wp_region_quiet_lit (by kernel_rfl) (by kernel_rfl) ?_
      repeat (go_big_quiet_step (fail))
      refine wpQuiet_nil ?_
      rintro _ ⟨m5,rfl⟩
      rw [xa5q,gt_str,decide_eq_true hls]
      have HLS:=hide hls
      clear hls
      have x0:=((Kept.refl [] wr).drewN m5).cell x0 (by simp)
      have x1:=((Kept.refl [] wr).drewN m5).cell x1 (by simp)
      have x2:=((Kept.refl [] wr).drewN m5).cell x2 (by simp)
      have x3:=((Kept.refl [] wr).drewN m5).cell x3 (by simp)
      have a0:=((Kept.refl [] wr).drewN m5).cell a0 (by simp)
      have a1:=((Kept.refl [] wr).drewN m5).cell a1 (by simp)
      have a2:=((Kept.refl [] wr).drewN m5).cell a2 (by simp)
      have a3:=((Kept.refl [] wr).drewN m5).cell a3 (by simp)
      have HO0:=hide (((Kept.refl [] wr).drewN m5).owns (uh HOO) (by simp))
      have HO9:=hide (((Kept.refl [] wr).drewN m5).drew.owns (uh HOO) (by simp))
      have HOL:=hide ((uh HOI).keptF ((Kept.refl [] wr).drewN m5).drew (by simp))
      have HK9:=hide ((uh HKI).drewN m5).drew
      obtain ⟨V0,hV0⟩:∃ W,wr.drewN m5 = W:=⟨_,rfl⟩
      rw [hV0] at x0 x1 x2 x3 a0 a1 a2 a3 HO0 HO9 HOL HK9 ⊢
      clear hV0
      go_upto_region 11 with fail
      have hlen:(P++x :: S).length = k + 1:=uh HTL
      have ho1:=xa6g (uh HO9) (i:=j) (by rw [hlen]; omega) x
      obtain ⟨yj,hc1⟩:=xb0q (uh HO0) (i:=j) (by rw [hlen]; omega)
      obtain ⟨yi,hc2⟩:=xb0q ho1 (i:=i) (by rw [List.length_set,hlen]; omega)
      have HC1:=hide hc1
      have HC2:=hide hc2
      have e1:put4 V0.drew g5 j x = ((((V0.setCell ⟨g5,j * 4,none⟩ (.string x.1.nm)).setCell ⟨g5,j * 4 + 1,none⟩ (.slice ya x.1.bs.length yc)).setCell ⟨g5,j * 4 + 2,none⟩ (.int .i64 (x.1.sy:Int))).setCell ⟨g5,j * 4 + 3,none⟩ (.bool x.1.nd)).drew:=by unfold put4; rw [uh HYV]; rfl
      obtain ⟨W1,hW1⟩:∃ W,put4 V0.drew g5 j x = W:=⟨_,rfl⟩
      rw [hW1] at HC2 e1
      have e2:put4 W1 g5 i p = (((W1.setCell ⟨g5,i * 4,none⟩ (.string p.1.nm)).setCell ⟨g5,i * 4 + 1,none⟩ (.slice ra p.1.bs.length rc)).setCell ⟨g5,i * 4 + 2,none⟩ (.int .i64 (p.1.sy:Int))).setCell ⟨g5,i * 4 + 3,none⟩ (.bool p.1.nd):=by unfold put4; rw [uh HRV]
      have HFIN:=hide (by
       have h8:=uh HOL
       have hpp:=uh HPP
       have hpj:=uh HPJ
       rw [hpp,List.append_assoc] at h8
       have h9:=h8.swap (by have h7:=hlen; rw [hpp,List.append_assoc] at h7; exact h7)
       rw [hpj,hW1,← uh HJ] at h9
       exact h9:OwnFl w.heap.size (put4 W1 g5 i p) (.slice (some ⟨g5,0,none⟩) (k + 1) cap5) (P'++x :: p :: S))
      have HKF:=hide (by
       have h8:=xa3p (xa3p (uh HK9) g5 j x (.inr ((uh HO9).lt g5 rfl).1)) g5 i p (.inr ((uh HO9).lt g5 rfl).1)
       rw [hW1] at h8
       exact h8:Kept [] w (put4 W1 g5 i p))
      have HE1:=hide e1
      have HE2:=hide e2
      clear hc1 hc2 ho1 hlen e1 e2 hW1
      have hwj:IntKind.i64.wrap (j:Int) = (j:Int):=by rw [IntKind.wrap_i64]; omega
      refine xc3j (by kernel_rfl) (by kernel_rfl) (by kernel_rfl) (by kernel_rfl) (by kernel_rfl) (by kernel_rfl) (by kernel_rfl) (by kernel_rfl) (by kernel_rfl) (by kernel_rfl) (by kernel_rfl) (by kernel_rfl) (by kernel_rfl) (by kernel_rfl) (by kernel_rfl) (by kernel_rfl) (by kernel_rfl) (by kernel_rfl) (by kernel_rfl) (by kernel_rfl) (by kernel_rfl) (by kernel_rfl) (by kernel_rfl) (by kernel_rfl) (by kernel_rfl) (by kernel_rfl) (by kernel_rfl) (by kernel_rfl) (by kernel_rfl) (by kernel_rfl) (by kernel_rfl) (by kernel_rfl) (by kernel_rfl) (by kernel_rfl) (by kernel_rfl) (by kernel_rfl) (by kernel_rfl) (by kernel_rfl) (by kernel_rfl) (by kernel_rfl) (by kernel_rfl) (by kernel_rfl) (by kernel_rfl) (by kernel_rfl) (by kernel_rfl) rfl (by kernel_rfl) rfl (by kernel_rfl) rfl (by kernel_rfl) rfl (by kernel_rfl)
       (.slice (some ⟨g5,0,none⟩) (k + 1) cap5) (.int .i64 (i:Int)) (.int .i64 (j:Int)) (.slice (some ⟨g5,0,none⟩) (k + 1) cap5) (.int .i64 (i:Int)) (.slice (some ⟨g5,0,none⟩) (k + 1) cap5) (.int .i64 (i:Int)) (.pointer (some ⟨g5,i * 4,none⟩)) (.agg #[.string x.1.nm,.slice ya x.1.bs.length yc,.int .i64 (x.1.sy:Int),.bool x.1.nd]) (.slice (some ⟨g5,0,none⟩) (k + 1) cap5) (.int .i64 (i:Int)) (.int .i64 (j:Int)) (.pointer (some ⟨g5,j * 4,none⟩)) (.agg #[.string p.1.nm,.slice ra p.1.bs.length rc,.int .i64 (p.1.sy:Int),.bool p.1.nd]) (.pointer (some ⟨g5,j * 4,none⟩)) (.pointer (some ⟨g5,i * 4,none⟩)) _ _ _ _ _ _ _ _ _ _ _ _ _ _
       (fun w'=>Kept [] V0 w') W1 (put4 W1 g5 i p)
       (by simp only [Act.put,sa1,sa2,sa3]; rfl) (by exact Or.inl ⟨by rfl,fun W' hW'=>by  go_simp⟩)
       (by simp only [Act.put,sa1,sa2,sa3]; rfl) (by exact Or.inl ⟨by rfl,fun W' hW'=>by  go_simp⟩)
       (by simp only [Act.put,sa1,sa2,sa3]; rfl) (by exact Or.inl ⟨by rfl,fun W' hW'=>by  go_simp⟩)
       (by simp only [Act.put,sa1,sa2,sa3]; rfl) (by exact Or.inl ⟨by rfl,fun W' hW'=>by  go_simp⟩)
       (by simp only [Act.put,sa1,sa2,sa3]; rfl) (by exact Or.inl ⟨by rfl,fun W' hW'=>by  go_simp⟩)
       (by simp only [Act.put,sa1,sa2,sa3]; rfl) (by exact Or.inl ⟨by rfl,fun W' hW'=>by  go_simp⟩)
       (by simp only [Act.put,sa1,sa2,sa3]; rfl) (by exact Or.inl ⟨by rfl,fun W' hW'=>by  go_simp⟩)
       (by simp only [Act.put,sa1,sa2,sa3]; rfl) (by exact Or.inl ⟨by rfl,fun W' hW'=>by  go_simp⟩)
       (by simp only [Act.put,sa1,sa2,sa3]; rfl) (by exact Or.inl ⟨by rfl,fun W' hW'=>by have h90:=hW'.cell x0 (by simp); have h91:=hW'.cell x1 (by simp); have h92:=hW'.cell x2 (by simp); have h93:=hW'.cell x3 (by simp); go_simp⟩)
       (by simp only [Act.put,sa1,sa2,sa3]; rfl) (by exact Or.inl ⟨by rfl,fun W' hW'=>by  go_simp⟩)
       (by simp only [Act.put,sa1,sa2,sa3]; rfl) (by exact Or.inl ⟨by rfl,fun W' hW'=>by  go_simp⟩)
       (by simp only [Act.put,sa1,sa2,sa3]; rfl) (by exact Or.inl ⟨by rfl,fun W' hW'=>by  go_simp⟩)
       (by simp only [Act.put,sa1,sa2,sa3]; rfl) (by exact Or.inl ⟨by rfl,fun W' hW'=>by  go_simp⟩)
       (by simp only [Act.put,sa1,sa2,sa3]; rfl) (by exact Or.inl ⟨by rfl,fun W' hW'=>by have h90:=hW'.cell a0 (by simp); have h91:=hW'.cell a1 (by simp); have h92:=hW'.cell a2 (by simp); have h93:=hW'.cell a3 (by simp); go_simp⟩)
       (Kept.refl [] V0).drew
       (by intro K hK; unfold Oper.wp execOp; go_simp; exact hK)
       (by
        intro K hK
        obtain ⟨⟨b0,b1,b2,b3⟩,zz⟩:=uh HC1
        have f0:=zz (j * 4)
        have f1:=zz (j * 4 + 1)
        have f2:=zz (j * 4 + 2)
        have f3:=zz (j * 4 + 3)
        rw [uh HE1] at hK
        unfold Oper.wp execOp
        go_simp
        exact hK)
       (by intro K hK; unfold Oper.wp execOp; go_simp; exact hK)
       (by
        intro K hK
        obtain ⟨⟨b0,b1,b2,b3⟩,zz⟩:=uh HC2
        have f0:=zz (i * 4)
        have f1:=zz (i * 4 + 1)
        have f2:=zz (i * 4 + 2)
        have f3:=zz (i * 4 + 3)
        rw [uh HE2] at hK
        unfold Oper.wp execOp
        go_simp
        exact hK)
       ?_
      simp only [Act.put,sa1,sa2,sa3]
      clear x0 x1 x2 x3 a0 a1 a2 a3
      have HIN2:=hide (by have h9:=uh HIN; rw [uh HPP] at h9; exact h9.down (uh HLS))
      go_wp2_with fail
      refine ⟨⟨j,P',p :: S,by simp [hsub],HPJ,hide ?_,HFIN,HIN2,HKF⟩,?_⟩
      ·have h9:=uh HTL; rw [uh HPP,List.append_assoc] at h9; simp at h9 ⊢; omega
      ·simp [intOf]; omega
     ·refine wp_region_quiet_lit (by kernel_rfl) (by kernel_rfl) ?_
      repeat (go_big_quiet_step (fail))
      refine wpQuiet_nil ?_
      rintro _ ⟨m5,rfl⟩
      rw [xa5q,gt_str,decide_eq_false hls]
      have HFS:=hide ((uh HIN).done (fun P2 p2 e9=>by
       have h9:=(uh HPP).symm.trans e9
       have h8:=List.append_inj_right' h9 rfl
       simp at h8
       rw [← h8]
       exact List.not_lt.1 hls))
      clear hls x0 x1 x2 x3 a0 a1 a2 a3
      go_wp2
      go_roundw
      case rel=>exact ⟨k + 1,P++x :: S,by omega,by simp,hide ((uh HOI).keptF ((Kept.refl [] wr).drewN m5) (by simp)),hide (uh HIN).perm,HFS,hide ((uh HKI).drewN m5)⟩
      case measure=>simp [intOf]; omega
    ·have hip:¬ (0:Int) < (i:Int):=by omega
     have HFS:=hide ((uh HIN).done (fun P2 p2 e9=>by
      have h9:=uh HPL
      rw [e9,List.length_append] at h9
      simp at h9
      omega))
     go_upto_region 9 with fail
     refine wp_region_quiet_lit (by kernel_rfl) (by kernel_rfl) ?_
     repeat (go_big_quiet_step (fail))
     refine wpQuiet_nil ?_
     rintro _ ⟨m5,rfl⟩
     go_wp2
     go_roundw
     case rel=>exact ⟨k + 1,P++x :: S,by omega,by simp,hide ((uh HOI).keptF ((Kept.refl [] wr).drewN m5) (by simp)),hide (uh HIN).perm,HFS,hide ((uh HKI).drewN m5)⟩
     case measure=>simp [intOf]; omega
  ·have hlt':¬ (k:Int) < ts.length:=by omega
   have hke:k = ts.length:=by omega
   subst hke
   have HFIN:=hide (by
    have h9:=uh HPM
    rw [uh HL,List.take_length] at h9
    exact (xb1t (uh HD) h9 (uh HSR)).symm:us.map Prod.fst = srtA σ.A)
   go_wp2_with fail
   go_ret
   exact ⟨_,rfl,us,uh HOW,uh HFIN,uh HK⟩
end
section
open Go Go.RowKit Go.BigFrame
section
variable {P:Program} {Q:Exit→Act→World→Prop}
end
end
section
open Go.RowKit Go.BigFrame Go.Maps Go.Sort
set_option maxHeartbeats 2000000 in
theorem xb3l (c nb bb:Nat) (R:List Nat) (σ:DSt) (w:World) (h:RK w c R nb bb σ) (hn:nb≤900000000) (hb:bb≤140737488350000) :
  Calls Tryz.prog 92 #[.pointer (some ⟨c,0,none⟩)] w fun e w'=>∃ v,e = .returned v∧w'.ownsRow w.heap.size 9 1 v (nmsOf σ).length ((nmsOf σ).map encStr)∧Kept [] w w':=by
 obtain ⟨_,_,r5,_,_⟩:=h.cells
 obtain ⟨i0,hi,hz0,hz1,hz2⟩:=info_parts (show (Tryz.prog.info? 9).map (fun i=>(i.zero,i.size,i.bytes)) = some (some (.string ⟨#[]⟩),1,16) by kernel_rfl)
 have HI:=hide hi
 have HZ0:=hide hz0
 have HZ1:=hide hz1
 have HZ2:=hide hz2
 clear hi hz0 hz1 hz2
 cases ho:σ.off
 ·have HF:=hide (xa8g c nb bb R σ w h hn hb)
  have HNM:=hide (xa8r h.dist)
  have HLB:=hide (by rw [xa8t]; exact h.len:(srtA σ.A).length≤nb)
  rw [ho] at r5
  have e0:nmsOf σ = srtN σ.A:=by unfold nmsOf; rw [ho]; rfl
  rw [e0]
  clear h ho e0
  generalize srtA σ.A = SA at HF HNM HLB
  generalize srtN σ.A = SN at HNM ⊢
  go_enter Tryz.func92,Tryz.ntmps92
  go_wp2_with fail
  refine Calls.mono (uh HF) ?_
  rintro e w1 ⟨v1,ts,rfl,ho1,ht1,k1⟩
  have HR:=hide ho1.rd
  obtain ⟨a3,c3,hv3,hg3⟩:=ho1.shapeL
  subst hv3
  have HG:=hide hg3
  have HK1:=hide k1
  have HSL:=hide (by rw [← uh HNM,List.length_map,← ht1,List.length_map]:SN.length = ts.length)
  have HAT:=hide (fun (i:Nat) (h1:i < ts.length) (h2:i < SN.length)=>by
   have h3:i < SA.length:=by rw [← ht1,List.length_map]; exact h1
   have e1:=fst_at ht1 h1 h3
   have e2:SN[i] = SA[i].nm.data.toList:=by
    have h9:=congrArg (fun l=>l[i]?) (uh HNM)
    simp only [List.getElem?_map,List.getElem?_eq_getElem h3,List.getElem?_eq_getElem h2,Option.map_some] at h9
    exact (Option.some.inj h9).symm
   rw [e2,e1]:∀ (i:Nat) (h1:i < ts.length) (h2:i < SN.length),SN[i] = ts[i].1.nm.data.toList)
  have htl:ts.length≤900000000:=by have:=uh HLB; rw [← ht1,List.length_map] at this; omega
  clear ho1 ht1 k1 hg3
  go_wp2_with fail
  go_loopw [3,18] (fun v t18 wr=>∃ (k:Nat),k≤ts.length∧t18 = .int .i64 k∧Hid (wr.ownsRow w1.heap.size 9 1 v k ((SN.take k).map encStr))∧Hid (Kept [] w1 wr)) (fun _ t _=>ts.length - (intOf t).toNat)
  case atStart=>exact ⟨0,Nat.zero_le _,rfl,hide (World.ownsRow_nil _ _ _ _),hide (Kept.refl _ _)⟩
  case round =>
   obtain ⟨k,hk,rfl,HO,HK⟩:=hrel
   obtain ⟨va,vc,hv⟩:=xa0t (uh HO)
   subst hv
   by_cases hlt:k < ts.length
   ·have hlt':(k:Int) < ts.length:=by omega
    obtain ⟨g3,rfl⟩:=uh HG (by omega)
    obtain ⟨p0,p1,p2,p3⟩:=xa4x (uh HR) hlt
    have hks:k < SN.length:=by rw [uh HSL]; exact hlt
    have HE:=hide (by rw [List.take_succ_eq_append_getElem hks,List.map_append,uh HAT k hlt hks]; rfl:(SN.take (k + 1)).map encStr = (SN.take k).map encStr++[encStr ts[k].1.nm.data.toList])
    have hrd:=(uh HR).2 ts[k] (List.getElem_mem hlt)
    obtain ⟨xa,xl,xc,hxv,_⟩:=id hrd
    rw [hxv] at p1
    have p0:=(uh HK).cell p0 (by simp)
    have p1:=(uh HK).cell p1 (by simp)
    have p2:=(uh HK).cell p2 (by simp)
    have p3:=(uh HK).cell p3 (by simp)
    clear hrd hxv
    generalize ts[k].1 = X at p0 p2 p3 HE
    go_upto_region 7 with fail
    have HGV:=hide (heap_alloc_new wr (.cells #[.string X.nm,.slice xa xl xc,.int .i64 (X.sy:Int),.bool X.nd] 74 (0,0)))
    have HKV:=hide ((Kept.refl [] wr).alloc (.cells #[.string X.nm,.slice xa xl xc,.int .i64 (X.sy:Int),.bool X.nd] 74 (0,0)))
    obtain ⟨V,hV⟩:∃ W,wr.alloc (.cells #[.string X.nm,.slice xa xl xc,.int .i64 (X.sy:Int),.bool X.nd] 74 (0,0)) = W:=⟨_,rfl⟩
    rw [hV] at HGV HKV ⊢
    clear hV p0 p1 p2 p3
    have z0:=cell_of_row _ _ 0 _ _ _ (uh HGV)
    simp at z0
    have HOV:=hide ((uh HKV).owns (uh HO) (by simp))
    have HSZ:=hide (Nat.le_trans (uh HK).size (uh HKV).size)
    go_wp2_with (at_builtin; refine wpList_append_own_at _ rfl _ _ 76 rfl w1.heap.size 9 i0 (.string ⟨#[]⟩) 1 16 Tryz.underlying76 (uh HI) (uh HZ0) (uh HZ1) (uh HZ2) rfl (by decide) _ _ _ rfl ((uh HOV).alloc _) ⟨V.heap.size,0,none⟩ 1 1 [encStr X.nm.data.toList] rfl rfl (cell_one_new _ _ _) (by simp [Value.oneCell',encStr]) (by unfold maxLen; omega) (by omega) (by have:=uh HSZ; simp; omega) ?_; intro v' w3 hown' hg3 hnil3 hat3; have HOW3:=hide hown'; have HG3:=hide hg3; clear hown' hg3 hnil3 hat3)
    have HK3:=hide ((((uh HK).trans (uh HKV) (by simp)).alloc (.cells #[.string X.nm] 9 (0,0))).grown (uh HG3) (by intro x hx; exact .inr ((uh HO).lt x hx).1))
    refine ⟨⟨k + 1,by omega,by simp,hide (by rw [uh HE]; exact uh HOW3),HK3⟩,?_⟩
    simp [intOf]; omega
   ·have hlt':¬ (k:Int) < ts.length:=by omega
    have hke:k = ts.length:=by omega
    subst hke
    have HFIN:=hide (by
     have h9:=uh HO
     rw [← uh HSL,List.take_length] at h9
     exact ownsB (uh HK1).size h9)
    rw [uh HSL] at HFIN
    have HSL2:=hide (uh HSL)
    go_wp2_with fail
    go_ret
    exact ⟨_,rfl,by rw [uh HSL2]; exact uh HFIN,(uh HK1).trans (uh HK) (by simp)⟩
 ·rw [ho] at r5
  have e0:nmsOf σ = []:=by unfold nmsOf; rw [ho]; rfl
  rw [e0]
  clear h ho e0
  go_enter Tryz.func92,Tryz.ntmps92
  go_wp2_with fail
  go_ret
  exact ⟨_,rfl,World.ownsRow_nil _ _ _ _,Kept.refl _ _⟩
theorem Tryz.size_rfound:(Tryz.prog.info? 120).map (·.size) = some 5:=by kernel_rfl
def rfC (f:FSt) (sv bv:Value):Array Value:=#[sv,bv,.int .u64 (f.last:Int),.int .u64 (f.ep:Int),.int .u64 (f.sz:Int)]
structure RFK (w0 w:World) (g:Nat) (f:FSt) (sv bv:Value) (ts:List (Nat × Value × List En)):Prop where
 row:w.heap[g]? = some (.cells (rfC f sv bv) 120 (0,0))
 gl:g < w0.heap.size
 sg:w.ownsRow w0.heap.size 9 1 sv f.sg.length (f.sg.map encStr)
 bs:OwnX sv.ownBlock.toList w0 w bv ts
 eq:f.bs = ts.map fun t=>(t.1,t.2.2)
 last:f.last < 18446744073709551616
 ep:f.ep < 18446744073709551616
 szb:f.sz < 18446744073709551616
theorem RFK.pass {w0 w w':World} {g:Nat} {f:FSt} {sv bv:Value} {ts:List (Nat × Value × List En)} (h:RFK w0 w g f sv bv ts) (k:Kept [] w w'):RFK w0 w' g f sv bv ts :=
 { h with row:=k.heap h.row (by simp),sg:=k.owns h.sg (by simp),bs:=h.bs.pass k (by simp) }
theorem xa1g {w:World} {g:Nat} {f:FSt} {sv bv:Value} {ty:TypeId} (h:w.heap[g]? = some (.cells (rfC f sv bv) ty (0,0))):w.cell? ⟨g,0,none⟩ = some sv∧w.cell? ⟨g,1,none⟩ = some bv∧w.cell? ⟨g,2,none⟩ = some (.int .u64 (f.last:Int))∧w.cell? ⟨g,3,none⟩ = some (.int .u64 (f.ep:Int))∧w.cell? ⟨g,4,none⟩ = some (.int .u64 (f.sz:Int)):=by
 refine ⟨?_,?_,?_,?_,?_⟩ <;> rw [cell_of_row _ _ _ _ _ _ h] <;> rfl
theorem RFK.turn {w0 w w':World} {g:Nat} {f f':FSt} {sv bv:Value} {ts:List (Nat × Value × List En)} (h:RFK w0 w g f sv bv ts) (k:Kept [g] w w') (hr:w'.heap[g]? = some (.cells (rfC f' sv bv) 120 (0,0))) (h1:f'.sg = f.sg) (h2:f'.bs = f.bs) (h3:f'.last < 18446744073709551616) (h4:f'.ep < 18446744073709551616) (h5:f'.sz < 18446744073709551616):RFK w0 w' g f' sv bv ts:=by
 have hg:∀ x∈[g],x < w0.heap.size:=fun x hx=>by rw [List.mem_singleton.1 hx]; exact h.gl
 exact ⟨hr,h.gl,by rw [h1]; exact k.owns h.sg (fun b hb hm=>by have:=(h.sg.lt b hb).1; have:=hg b hm; omega),h.bs.pass k (fun x hx=>Or.inl (hg x hx)),by rw [h2]; exact h.eq,h3,h4,h5⟩
abbrev zRf:Array Value:=#[.slice none 0 0,.slice none 0 0,.int .u64 0,.int .u64 0,.int .u64 0]
def LookR (w w':World) (R:Option FSt) (e:Ending):Prop :=
 (R = none∧∃ f sa sl sc ba bl bc,e = .returned (.tuple #[.agg (rfC f (.slice sa sl sc) (.slice ba bl bc)),.bool false])) ∨
 ∃ f sv bv ts,R = some f∧e = .returned (.tuple #[.agg (rfC f sv bv),.bool true])∧w'.ownsRow w.heap.size 9 1 sv f.sg.length (f.sg.map encStr)∧OwnX sv.ownBlock.toList w w' bv ts∧f.bs = ts.map (fun t=>(t.1,t.2.2))∧f.last < 18446744073709551615∧f.ep < 18446744073709551615∧f.sz < 18446744073709551616
theorem xb4f (f:FSt) (p:List Nat):goOnF f p = true↔((hdC p).c = f.sz∧f.ep≤(hdC p).b∧(hdC p).b < 18446744073709551615):=by
 unfold goOnF
 simp only [Bool.and_eq_true,decide_eq_true_eq]
 exact ⟨fun h=>⟨h.1.1,h.1.2,h.2⟩,fun h=>⟨⟨h.1,h.2.1⟩,h.2.2⟩⟩
set_option maxHeartbeats 8000000 in
theorem xb8f (c nb bb:Nat) (wd:Int) (B:List Nat) (σ:DSt) (w:World) (hD:RK w c B nb bb σ) (hds:∀ f∈σ.A,isNm f.nm = true) (hn:nb≤900000000) (hb:bb≤100000000000) (hT:rdT σ (nmsOf σ)≤1000000000000) :
  Calls Tryz.prog 50 #[.pointer (some ⟨c,0,none⟩),.int .i64 wd] w fun e w'=>LookR w w' (findF σ wd fst0 (nmsOf σ)) e∧Kept [] w w':=by
 have HDK:=hide hD
 have kA:=(Kept.refl [] w).alloc (.cells zRf 120)
 have kB:=kA.alloc (.cells zRf 120)
 have hA:=heap_alloc_new w (.cells zRf 120)
 have hA2:=((Kept.refl [] (w.alloc (.cells zRf 120))).alloc (.cells zRf 120)).heap hA (by simp)
 have hB:=heap_alloc_new (w.alloc (.cells zRf 120)) (.cells zRf 120)
 rw [show (w.alloc (.cells zRf 120)).heap.size = w.heap.size + 1 by simp] at hB
 have HPW:=hide (xb3d σ)
 obtain ⟨L,hL⟩:∃ L,nmsOf σ = L:=⟨_,rfl⟩
 have HNL:=hide (by rw [← hL]; exact Nat.le_trans (xb0p σ) (Nat.le_trans hD.len hn):L.length≤900000000)
 have HNM:=hide (fun s hs=>by
  rw [← hL] at hs
  obtain ⟨f,hf,rfl⟩:=xb0z hs
  have:=(xa3n (hds f hf)).2
  exact Nat.le_trans (Nat.le_of_eq (Array.length_toList)) this:∀ s∈L,s.length≤40)
 have HNC:=hide (xb3l c nb bb B σ _ (hD.old kB) (by omega) (by omega))
 rw [hL] at hT HNC HPW ⊢
 obtain ⟨R,hR⟩:∃ R,findF σ wd fst0 L = R:=⟨_,rfl⟩
 rw [hR]
 have HR:=hide hR
 have HKB:=hide kB
 have HA:=hide hA2
 have HB:=hide hB
 clear hD kA kB hA hA2 hB hL hR hds
 go_enter Tryz.func50,Tryz.ntmps50
 go_wp2_with fail
 refine Calls.mono (uh HNC) ?_
 rintro e w1 ⟨v1,rfl,ho1,k1⟩
 have HRS:=hide (xa3s ho1)
 have HBL:=hide (fun x (hx:x∈blk v1)=>ho1.lt x (xa3k ho1 hx))
 have HK1:=hide ((uh HKB).trans k1 (by simp))
 have HA1:=hide (k1.heap (uh HA) (by simp))
 have HB1:=hide (k1.heap (uh HB) (by simp))
 have HZ1:=hide (by have:=k1.size; simp at this; omega:w.heap.size + 2≤w1.heap.size)
 obtain ⟨va,vl,vc,rfl,g1,g2,g3,g4⟩:=uh HRS
 subst g1
 have H4:=hide g4
 clear k1 ho1 g4 HNC HKB HA HB
 go_wp2_with fail
 have HF0:=hide (⟨uh HB1,by have:=uh HZ1; omega,World.ownsRow_nil _ _ _ _,OwnX.start w1,rfl,by decide,by decide,by decide⟩:RFK w1 w1 (w.heap.size + 1) fst0 (.slice none 0 0) (.slice none 0 0) [])
 go_loopw [20] (fun t20 wr=>∃ (i:Nat) (f:FSt) (sv bv:Value) (ts:List (Nat × Value × List En)),i≤L.length∧t20 = .int .i64 (i:Int)∧Hid (findF σ wd f (L.drop i) = R)∧Hid (RFK w1 wr (w.heap.size + 1) f sv bv ts)∧Hid (Kept [w.heap.size + 1] w1 wr)∧Hid (f.last < 18446744073709551615∧f.ep < 18446744073709551615∧f.sg.length≤i∧ts.length + rdT σ (L.drop i)≤1000000000000)∧Hid (∀ s∈L.drop i,nbE (natL s) = 0→f.last≤nbU (natL s))) (fun t _=>L.length - (intOf t).toNat)
 case atStart=>exact ⟨0,fst0,_,_,[],Nat.zero_le _,rfl,by rw [List.drop_zero]; exact HR,HF0,hide (Kept.refl _ _),hide ⟨by decide,by decide,by decide,by rw [List.drop_zero]; simpa using hT⟩,hide (fun s _ _=>Nat.zero_le _)⟩
 case round =>
  obtain ⟨i,f,sv,bv,ts,hi,rfl,HT,HF,HK,HBD,HMX⟩:=hrel
  have HAR:=hide ((uh HK).heap (uh HA1) (by intro hm; have:=List.mem_singleton.1 hm; omega))
  obtain ⟨sa,sc,rfl⟩:=xa0t (uh HF).sg
  obtain ⟨ba,bc,rfl⟩:=(uh HF).bs.shape
  by_cases hlt:i < L.length
  ·have hlt':(i:Int) < L.length:=by omega
   obtain ⟨b,off,rfl,hc⟩:=uh H4 (by omega)
   have q0:=(uh HK).cell (hc i hlt) (by intro hm; have h9:=(uh HBL b (by simp [blk])).1; have h8:b = w.heap.size + 1:=List.mem_singleton.1 hm; simp at h9; omega)
   have HSI:=hide (uh HNM L[i] (List.getElem_mem hlt))
   have HDR:=hide (List.drop_eq_getElem_cons hlt)
   have HPR:=hide (by have h9:=(uh HPW).sublist (List.drop_sublist i L); rw [uh HDR] at h9; exact (List.pairwise_cons.1 h9).1:∀ t∈L.drop (i + 1),L[i]≤t)
   generalize L[i] = s at q0 HSI HDR HPR
   have hic:(i:Int) < vc:=by omega
   rw [xa4t] at q0
   have ha1:IntKind.i64.wrap ((i:Int) + 1) = (i:Int) + 1:=by rw [IntKind.wrap_i64]; omega
   have HDR2:=hide (((uh HDK).old (uh HK1)).kept (uh HK) (fun x hx hm=>by have h9:=(uh HDK).lt x hx; have:=List.mem_singleton.1 hm; omega))
   clear hc
   have HT2:=hide (by have h9:=uh HT; rw [uh HDR] at h9; exact h9:findF σ wd f (s :: L.drop (i + 1)) = R)
   have HRT:=hide (by have h9:=(uh HBD).2.2.2; rw [uh HDR,xb5s] at h9; exact h9:ts.length + ((stRead σ (strU s)).1.length + rdT σ (L.drop (i + 1)))≤1000000000000)
   have HM1:=hide (fun t ht he=>uh HMX t (by rw [uh HDR]; exact List.mem_cons_of_mem _ ht) he:∀ t∈L.drop (i + 1),nbE (natL t) = 0→f.last≤nbU (natL t))
   have HM0:=hide (fun he=>uh HMX s (by rw [uh HDR]; simp) he:nbE (natL s) = 0→f.last≤nbU (natL s))
   have HM2:=hide (fun (he:nbE (natL s) = 0) t ht h2=>num_le (uh HPR t ht) he h2:nbE (natL s) = 0→∀ t∈L.drop (i + 1),nbE (natL t) = 0→nbU (natL s)≤nbU (natL t))
   have HNU:=hide (xa7n (natL s) wr (xb0s s) (by have:=uh HSI; simp [natL]; omega))
   rw [xb2t] at HNU
   have HUL:=hide (nbU_lt (natL s))
   obtain ⟨P,hP⟩:∃ x,(stRead σ (strU s)).1 = x:=⟨_,rfl⟩
   obtain ⟨NE,hNE⟩:∃ x,nbE (natL s) = x:=⟨_,rfl⟩
   obtain ⟨NU,hNU⟩:∃ x,nbU (natL s) = x:=⟨_,rfl⟩
   have H1:=hide (fun (h:NE≠0)=>xa3e (uh HT2) (xb9e (by rw [hNE]; exact h)))
   have H2:=hide (fun (h:NE = 0) (h2:NU = 18446744073709551615)=>xa5a (uh HT2) (xb9i (by rw [hNE]; exact h) (by rw [hNU]; exact h2)))
   have H3:=hide (fun (h:NE = 0) (h2:NU≠18446744073709551615) (h3:sgE P≠0)=>(by have h9:=xa3e (uh HT2) (xb9s hP (by rw [hNE]; exact h) (by rw [hNU]; exact h2) h3); rw [hNU] at h9; exact h9:findF σ wd ⟨NU,f.ep,f.sz,f.sg,f.bs⟩ (L.drop (i + 1)) = R))
   have H4':=hide (fun (h:NE = 0) (h2:NU≠18446744073709551615) (h3:sgE P = 0) (h4:¬ ((hdC P).a = NU∧((hdC P).d:Int) = wd∧goOnF f P = true))=>xa5a (uh HT2) (xb8o hP (by rw [hNE]; exact h) (by rw [hNU]; exact h2) h3 (by rw [hNU]; exact h4)))
   have H5:=hide (fun (h:NE = 0) (h2:NU≠18446744073709551615) (h3:sgE P = 0) (h4:(hdC P).a = NU∧((hdC P).d:Int) = wd∧goOnF f P = true)=>(by have h9:=xa3e (uh HT2) (xb8r hP (by rw [hNE]; exact h) (by rw [hNU]; exact h2) h3 (by rw [hNU]; exact h4)); rw [hNU] at h9; exact h9:findF σ wd ⟨NU,(hdC P).b,(f.sz + cntB (sgB P)) % 18446744073709551616,f.sg++[s],f.bs++sgB P⟩ (L.drop (i + 1)) = R))
   rw [xb4f] at H4' H5
   have HPL:=hide (by
    rw [← hP]
    unfold stRead
    split
    ·simp
    ·split
     ·simp
     ·rename_i x hx
      exact Nat.le_trans ((uh HDK).byt x (List.mem_of_find?_eq_some hx)) hb:P.length≤100000000000)
   rw [hP] at HRT
   rw [hNE,hNU] at HNU HM0 HM2
   rw [hNU] at HUL
   have HPQ:=hide hP
   clear hNE hNU hP HT HT2 HDR HMX HPR
   go_wp2_with fail
   refine Calls.mono (uh HNU) ?_
   rintro e w2 ⟨rfl,k2⟩
   have HF2:=hide ((uh HF).pass k2)
   have HK2:=hide ((uh HK).trans k2 (by simp))
   have HA2:=hide (k2.heap (uh HAR) (by simp))
   have HD2:=hide ((uh HDR2).old k2)
   clear k2 q0 HNU HF HK HAR HDR2
   by_cases hne:NE = 0
   ·subst hne
    have HM0':=hide (uh HM0 rfl)
    have HM2':=hide (uh HM2 rfl)
    clear HM0 HM2
    by_cases hnu:NU = 18446744073709551615
    ·have hq:((NU:Int) == 18446744073709551615) = true:=by rw [hnu]; rfl
     have HRN:=hide (uh H2 (by simp) hnu)
     obtain ⟨c0,c1,c2,c3,c4⟩:=xa1g (uh HF2).row
     obtain ⟨z0,z1,z2,z3,z4⟩:=cells5 (uh HA2)
     obtain ⟨y0,y1,y2,y3,y4⟩:=ffroz (uh HA2)
     clear hnu H1 H2 H3 H4' H5
     go_wp2_with fail
     refine bodyPost_ret (v:=.tuple #[.agg (rfC f (.slice sa f.sg.length sc) (.slice ba ts.length bc)),.bool false]) ?_ rfl ⟨Or.inl ⟨uh HRN,f,sa,f.sg.length,sc,ba,ts.length,bc,rfl⟩,?_⟩
     ·exact xa0b rfl _ _ w.heap.size _ (rfC f (.slice sa f.sg.length sc) (.slice ba ts.length bc)) (0,0) _ rfl (xa1d (uh HA2) _ _ _ _ _) Tryz.underlying120 rfl Tryz.size_rfound _ rfl
     ·exact xa0w ((uh HK1).trans (uh HK2) (fun x hx=>Or.inr (by rw [List.mem_singleton.1 hx]; omega))) w.heap.size (Or.inr (Nat.le_refl _)) _ _ _ _ _
    ·have hq:((NU:Int) == 18446744073709551615) = false:=by simp; omega
     obtain ⟨c0,c1,c2,c3,c4⟩:=xa1g (uh HF2).row
     obtain ⟨y0,y1,y2,y3,y4⟩:=ffroz (uh HF2).row
     have kS:=(Kept.refl [w.heap.size + 1] w2).setCell (p:=⟨w.heap.size + 1,2,none⟩) (.inl (by simp)) (.int .u64 (NU:Int))
     have hS2:(w2.setCell ⟨w.heap.size + 1,2,none⟩ (.int .u64 (NU:Int))).heap[w.heap.size + 1]? = some (.cells (rfC ⟨NU,f.ep,f.sz,f.sg,f.bs⟩ (.slice sa f.sg.length sc) (.slice ba ts.length bc)) 120 (0,0)):=by rw [heap_setCell_same _ _ 2 _ _ _ (uh HF2).row]; rfl
     have HF3:=hide ((uh HF2).turn (f':=⟨NU,f.ep,f.sz,f.sg,f.bs⟩) kS hS2 rfl rfl (uh HUL) (uh HF2).ep (uh HF2).szb)
     have HK3:=hide ((uh HK2).trans kS (fun x hx=>Or.inl hx))
     have HA3:=hide (kS.heap (uh HA2) (by intro hm; have:=List.mem_singleton.1 hm; omega))
     have HD3:=hide ((uh HD2).kept kS (fun x hx hm=>by have h9:=(uh HDK).lt x hx; have:=List.mem_singleton.1 hm; omega))
     obtain ⟨W3,hW3⟩:∃ W,w2.setCell ⟨w.heap.size + 1,2,none⟩ (.int .u64 (NU:Int)) = W:=⟨_,rfl⟩
     rw [hW3] at HF3 HK3 HA3 HD3
     have HW3:=hide hW3
     have HRD:=hide (xb8b c nb bb B σ (strU s) W3 (uh HD3) (by omega))
     have hmx:max (f.last:Int) (NU:Int) = (NU:Int):=Int.max_eq_right (by have:=uh HM0'; omega)
     clear hW3 kS hS2 HF2 HK2 HA2 HD2
     go_upto_region 10 with fail
     try rw [hmx]
     rw [uh HW3]
     clear c0 c1 c2 c3 c4 y0 y1 y2 y3 y4 hmx
     go_wp2_with fail
     refine Calls.mono (uh HRD) ?_
     rintro e w4 ⟨v4,rfl,hr4,k4⟩
     rw [uh HPQ] at hr4
     obtain ⟨a4,n4,c4,rfl,hn4,_⟩:=id hr4
     have HF4:=hide ((uh HF3).pass k4)
     have HK4:=hide ((uh HK3).trans k4 (by simp))
     have HA4:=hide (k4.heap (uh HA3) (by simp))
     have HRO:=hide (xa9p _ P w4 hr4 (uh HPL))
     clear k4 hr4 hn4 HRD HF3 HK3 HA3 HD3 HW3
     go_wp2_with fail
     refine Calls.mono (uh HRO) ?_
     rintro e w5 ⟨b5,rfl,⟨ss,hss,ho5⟩,k5⟩
     obtain ⟨a5,c5,rfl⟩:=xa0t ho5.own
     obtain ⟨SE,hSE⟩:∃ x,sgE P = x:=⟨_,rfl⟩
     have HXB:=hide (hd_lt P).2.1
     obtain ⟨⟨xa,xb,xc,xd⟩,hX⟩:∃ x,hdC P = x:=⟨_,rfl⟩
     obtain ⟨SU,hSU⟩:∃ x,sgU P = x:=⟨_,rfl⟩
     rw [hX] at HXB
     dsimp only at HXB
     rw [hSE] at H3 H4' H5
     rw [hX] at H4' H5
     rw [hSE,hX,hSU]
     dsimp only at H4' H5 ⊢
     rw [hss] at H5
     have HSL:=hide (by rw [← List.length_map (f:=fun t:Nat × Value × List En=>(t.1,t.2.2)),← hss]; exact sgB_le P:ss.length≤P.length)
     have HF5:=hide ((uh HF4).pass k5)
     have HK5:=hide ((uh HK4).trans k5 (by simp))
     have HA5:=hide (k5.heap (uh HA4) (by simp))
     have HO5:=hide ho5
     have HVB:=hide (fun x hx=>((uh HF4).bs.own.lt x hx).2:∀ x,(Value.slice ba ts.length bc).ownBlock = some x→x < w4.heap.size)
     have HVS:=hide (fun x hx=>((uh HF4).sg.lt x hx).2:∀ x,(Value.slice sa f.sg.length sc).ownBlock = some x→x < w4.heap.size)
     have H01:=hide (uh HK4).size
     have H45:=hide k5.size
     have kN:=(Kept.refl [] w5).alloc (.cells #[.int .u64 (xa:Int),.int .u64 (xb:Int),.int .u64 (xc:Int),.int .i64 (xd:Int),.slice a5 ss.length c5,.int .i64 (SU:Int)] 176)
     have hNw:=heap_alloc_new w5 (.cells #[.int .u64 (xa:Int),.int .u64 (xb:Int),.int .u64 (xc:Int),.int .i64 (xd:Int),.slice a5 ss.length c5,.int .i64 (SU:Int)] 176)
     have HF6:=hide ((uh HF5).pass kN)
     have HK6:=hide ((uh HK5).trans kN (by simp))
     have HA6:=hide (kN.heap (uh HA5) (by simp))
     have HKN:=hide kN
     have HNW:=hide hNw
     clear k5 ho5 hSE hX hSU hss kN hNw HRO HF4 HK4 HA4 HF5 HK5 HA5 HPQ HPL H1 H2
     by_cases hse:SE = 0
     ·subst hse
      go_upto_region 13 with fail
      obtain ⟨W6,hW6⟩:∃ W,w5.alloc (.cells #[.int .u64 (xa:Int),.int .u64 (xb:Int),.int .u64 (xc:Int),.int .i64 (xd:Int),.slice a5 ss.length c5,.int .i64 (SU:Int)] 176) = W:=⟨_,rfl⟩
      have HS6:=hide (by rw [← hW6]; simp:W6.heap.size = w5.heap.size + 1)
      rw [hW6] at HF6 HK6 HA6 HKN HNW ⊢
      clear hW6
      obtain ⟨s0,s1,s2,s3,s4,s5⟩:=scells (uh HNW)
      go_upto_region 14 with fail
      clear s0 s1 s2 s3 s4 s5
      have kH:=(Kept.refl [] W6).alloc (.cells #[.int .u64 (xa:Int),.int .u64 (xb:Int),.int .u64 (xc:Int),.int .i64 (xd:Int)] 174)
      have hH:=heap_alloc_new W6 (.cells #[.int .u64 (xa:Int),.int .u64 (xb:Int),.int .u64 (xc:Int),.int .i64 (xd:Int)] 174)
      have HF7:=hide ((uh HF6).pass kH)
      have HK7:=hide ((uh HK6).trans kH (by simp))
      have HA7:=hide (kH.heap (uh HA6) (by simp))
      have HN7:=hide (kH.heap (uh HNW) (by simp))
      have HKN7:=hide ((uh HKN).trans kH (by simp))
      have HH7:=hide hH
      obtain ⟨W7,hW7⟩:∃ W,W6.alloc (.cells #[.int .u64 (xa:Int),.int .u64 (xb:Int),.int .u64 (xc:Int),.int .i64 (xd:Int)] 174) = W:=⟨_,rfl⟩
      rw [hW7] at HF7 HK7 HA7 HN7 HKN7 HH7 ⊢
      clear hW7 kH hH HF6 HK6 HA6 HKN HNW
      obtain ⟨p0,p1,p2,p3⟩:=hcells (uh HH7)
      obtain ⟨c0,c1,c2,c3,c4⟩:=xa1g (uh HF7).row
      obtain ⟨z0,z1,z2,z3,z4⟩:=cells5 (uh HA7)
      obtain ⟨y0,y1,y2,y3,y4⟩:=ffroz (uh HA7)
      dsimp only at c3 c4
      by_cases ha:xa = NU
      ·have ha':((xa:Int) != (NU:Int)) = false:=by rw [ha]; simp
       by_cases hd:(xd:Int) = wd
       ·have hd':((xd:Int) != wd) = false:=by rw [hd]; simp
        by_cases he:f.ep≤xb
        ·have he':¬ (xb:Int) < (f.ep:Int):=by omega
         by_cases hm:xb < 18446744073709551615
         ·have hm':((xb:Int) == 18446744073709551615) = false:=by simp; omega
          by_cases hz:xc = f.sz
          ·have hz':((xc:Int) != (f.sz:Int)) = false:=by rw [hz]; simp
           have HT3:=hide (uh H5 (by simp) hnu (by simp) ⟨ha,hd,hz,he,hm⟩)
           have HNM9:=hide hnu
           have HEB:=hide hm
           clear ha hd he hm hz hnu H3 H4' H5
           go_upto_region 16 with fail
           clear ha' hd' he' hm' hz'
           have hS2:(W7.setCell ⟨w.heap.size + 1,3,none⟩ (.int .u64 (xb:Int))).heap[w.heap.size + 1]? = some (.cells (rfC ⟨NU,xb,f.sz,f.sg,f.bs⟩ (.slice sa f.sg.length sc) (.slice ba ts.length bc)) 120 (0,0)):=by rw [heap_setCell_same _ _ 3 _ _ _ (uh HF7).row]; rfl
           have kS:=(Kept.refl [w.heap.size + 1] W7).setCell (p:=⟨w.heap.size + 1,3,none⟩) (.inl (by simp)) (.int .u64 (xb:Int))
           have HF8:=hide ((uh HF7).turn (f':=⟨NU,xb,f.sz,f.sg,f.bs⟩) kS hS2 rfl rfl (uh HUL) (uh HXB) (uh HF7).szb)
           have HK8:=hide ((uh HK7).trans kS (fun x hx=>Or.inl hx))
           have HN8:=hide (kS.heap (uh HN7) (by intro hm; have:=List.mem_singleton.1 hm; have:=uh HZ1; have:=uh H01; have:=uh H45; omega))
           have HKN8:=hide (((uh HKN7).mono (M:=[w.heap.size + 1]) (by simp)).trans kS (fun x hx=>Or.inl hx))
           obtain ⟨v0,v1,v2,v3,v4⟩:=ffroz (uh HF7).row
           go_upto_region 17 with fail
           clear hS2 kS v0 v1 v2 v3 v4 c0 c1 c2 c3 c4 p0 p1 p2 p3 z0 z1 z2 z3 z4 y0 y1 y2 y3 y4 HF7 HK7 HN7 HKN7 HA7 HH7
           generalize W7.setCell ⟨w.heap.size + 1,3,none⟩ (.int .u64 (xb:Int)) = W2 at HF8 HK8 HN8 HKN8 ⊢
           obtain ⟨d0,d1,d2,d3,d4⟩:=xa1g (uh HF8).row
           have HK3:=hide ((Kept.refl [] W2).alloc (.cells #[.string (strU s)] 9))
           have HN3:=hide (xb8n (heap_alloc_new W2 (.cells #[.string (strU s)] 9)))
           have HF3:=hide ((uh HF8).pass (uh HK3))
           have HSL1:=hide (by have:=(uh HBD).2.2.1; have:=uh HNL; omega:f.sg.length≤1000000000)
           have HSG3:=hide (uh HF3).sg
           dsimp only at HSG3
           have hsl1:=uh HSL1
           go_upto_region 18 with (at_builtin; refine xa2i rfl 76 9 (.tmp 88) (.tmp 90) rfl rfl _ w1.heap.size (.string ⟨#[]⟩) 1 16 Tryz.underlying76 Tryz.infoStr rfl (by decide) (.slice sa f.sg.length sc) f.sg.length (f.sg.map encStr) (uh HSG3) (some ⟨W2.heap.size,0,none⟩) 1 1 [[.string (strU s)]] (uh HN3) (by simp) (by simp [Value.oneCell']) (by omega) (by omega) (uh HF3).bs.sz rfl rfl ?_; intro a6 cap6 w6 HO6 HGR6 HAA6; (have HKA:=hide ((Kept.refl ((Value.slice sa f.sg.length sc).ownBlock.toList) _).grown (uh HGR6) (by intro k hk; left; simp [hk]))); (have HR6:=hide ((uh HKA).heap (uh HF3).row (by intro hm; have h9:=((uh HF3).sg.lt (w.heap.size + 1) (by simpa using hm)).1; have:=uh HZ1; omega))); (obtain ⟨e0,e1,e2,e3,e4⟩:=xa1g (uh HR6)); (obtain ⟨v0,v1,v2,v3,v4⟩:=ffroz (uh HR6)))
           have hS2:(w6.setCell ⟨w.heap.size + 1,0,none⟩ (.slice a6 (f.sg.length + 1) cap6)).heap[w.heap.size + 1]? = some (.cells (rfC ⟨NU,xb,f.sz,f.sg++[s],f.bs⟩ (.slice a6 (f.sg.length + 1) cap6) (.slice ba ts.length bc)) 120 (0,0)):=by rw [heap_setCell_same _ _ 0 _ _ _ (uh HR6)]; rfl
           have kS:=(Kept.refl [w.heap.size + 1] w6).setCell (p:=⟨w.heap.size + 1,0,none⟩) (.inl (by simp)) (.slice a6 (f.sg.length + 1) cap6)
           have hoX:=(uh HF3).bs.pass (uh HKA) (fun x hx=>Or.inr hx)
           have hoY:OwnX (Value.slice a6 (f.sg.length + 1) cap6).ownBlock.toList w1 w6 (.slice ba ts.length bc) ts:=hoX.turn (n:=(W2.alloc (.cells #[.string (strU s)] 9)).heap.size) (fun x hx=>by
            rcases uh HAA6 with h9 | h9
            ·rw [h9] at hx; exact Or.inl hx
            ·rw [h9] at hx; simp only [Option.toList_some,List.mem_singleton] at hx; exact Or.inr (by omega)) rfl (uh HF3).bs (uh HKA)
           have hgl:=(uh HF3).gl
           have HF9:=hide (⟨hS2,hgl,by
             have h9:=uh HO6
             rw [List.length_append,List.map_append]
             refine kS.owns h9 (fun x hx hm=>?_)
             have:=(h9.lt x hx).1
             have:=List.mem_singleton.1 hm
             omega,hoY.pass kS (fun x hx=>Or.inl (by rw [List.mem_singleton.1 hx]; exact hgl)),(uh HF3).eq,(uh HF3).last,(uh HF3).ep,(uh HF3).szb⟩:RFK w1 (w6.setCell ⟨w.heap.size + 1,0,none⟩ (.slice a6 (f.sg.length + 1) cap6)) (w.heap.size + 1) ⟨NU,xb,f.sz,f.sg++[s],f.bs⟩ (.slice a6 (f.sg.length + 1) cap6) (.slice ba ts.length bc) ts)
           have kA6:Kept (Value.slice sa f.sg.length sc).ownBlock.toList W2 w6:=((uh HK3).mono (by simp)).trans (uh HKA) (fun x hx=>Or.inl hx)
           have k26:Kept ((w.heap.size + 1) :: (Value.slice sa f.sg.length sc).ownBlock.toList) W2 (w6.setCell ⟨w.heap.size + 1,0,none⟩ (.slice a6 (f.sg.length + 1) cap6)):=(kA6.mono (fun x hx=>by simp [hx])).trans kS (fun x hx=>Or.inl (by simp at hx; simp [hx]))
           have HK9:=hide ((uh HK8).trans k26 (fun x hx=>by
             rcases List.mem_cons.1 hx with rfl | hx
             ·exact Or.inl (by simp)
             ·exact Or.inr ((uh HF8).sg.lt x (by simpa using hx)).1):Kept [w.heap.size + 1] w1 _)
           have HN9:=hide (k26.heap (uh HN8) (by
             intro hm
             rcases List.mem_cons.1 hm with h9 | h9
             ·have:=uh HZ1; have:=uh H01; have:=uh H45; omega
             ·have h8:=uh HVS w5.heap.size (by simpa using h9); have:=uh H45; omega))
           have HKN9:=hide (((uh HKN8).mono (M:=(w.heap.size + 1) :: (Value.slice sa f.sg.length sc).ownBlock.toList) (by simp)).trans k26 (fun x hx=>Or.inl hx))
           have HX9:=hide (fun x hx=>by
             rcases uh HAA6 with h9 | h9
             ·rw [h9] at hx; exact Or.inl (uh HVS x hx)
             ·rw [h9] at hx
              have h8:=(uh HKN8).size
              simp only [Option.some.injEq] at hx
              have h6:(W2.alloc (.cells #[.string (strU s)] 9)).heap.size = W2.heap.size + 1:=by simp
              exact Or.inr (by omega):∀ x,(Value.slice a6 (f.sg.length + 1) cap6).ownBlock = some x→x < w4.heap.size∨w5.heap.size≤x)
           have HM9:=hide (fun x hx=>by
             rcases List.mem_cons.1 hx with rfl | hx
             ·exact Or.inl (by have:=uh HZ1; have:=uh H01; omega)
             ·exact Or.inl (uh HVS x (by simpa using hx)):∀ x∈(w.heap.size + 1) :: (Value.slice sa f.sg.length sc).ownBlock.toList,x < w4.heap.size∨w5.heap.size≤x)
           clear hS2 kS hoX hoY kA6 k26 d0 d1 d2 d3 d4 e0 e1 e2 e3 e4 v0 v1 v2 v3 v4 HF8 HF3 HO6 HGR6 HKA HR6 HK3 HN3 HN8 HKN8 HK8 HAA6 HSG3
           generalize ((w.heap.size + 1) :: (Value.slice sa f.sg.length sc).ownBlock.toList) = M9 at HKN9 HM9
           generalize w6.setCell ⟨w.heap.size + 1,0,none⟩ (.slice a6 (f.sg.length + 1) cap6) = W9 at HF9 HK9 HN9 HKN9 ⊢
           obtain ⟨d0,d1,d2,d3,d4⟩:=xa1g (uh HF9).row
           obtain ⟨s0,s1,s2,s3,s4,s5⟩:=scells (uh HN9)
           have HB9:=hide ((uh HO5).stay (uh HKN9) (uh HM9))
           have HTL:=hide (by have:=uh HRT; have:=uh HSL; omega:ts.length + ss.length≤1000000000000)
           have htl:=uh HTL
           go_upto_region 19 with (at_builtin; refine xa2i rfl 46 129 (.tmp 94) (.tmp 96) rfl rfl _ w1.heap.size (.agg #[.int .u64 0,.slice none 0 0]) 2 32 Tryz.underlying46 Tryz.infoBt rfl (by decide) (.slice ba ts.length bc) ts.length (cellsB ts) (uh HF9).bs.own a5 ss.length c5 (ss.map rowB) (uh HB9).rdC (xa9i ss) (uh HB9).oneC (by omega) (by omega) (uh HF9).bs.sz rfl rfl ?_; intro a8 cap8 w8 HO8 HGR8 HAA8; (have HGB:=hide (by intro hm; have h9:=((uh HF9).bs.own.lt (w.heap.size + 1) (by simpa using hm)).1; have:=uh HZ1; omega:(w.heap.size + 1)∉(Value.slice ba ts.length bc).ownBlock.toList)); (have HKA:=hide ((Kept.refl ((Value.slice ba ts.length bc).ownBlock.toList) _).grown (uh HGR8) (by intro k hk; left; simp [hk]))); (have HR8:=hide ((uh HKA).heap (uh HF9).row (uh HGB))); (obtain ⟨e0,e1,e2,e3,e4⟩:=xa1g (uh HR8)); (obtain ⟨v0,v1,v2,v3,v4⟩:=ffroz (uh HR8)))
           rw [xa4b] at HO8
           have hS2:(w8.setCell ⟨w.heap.size + 1,1,none⟩ (.slice a8 (ts.length + ss.length) cap8)).heap[w.heap.size + 1]? = some (.cells (rfC ⟨NU,xb,f.sz,f.sg++[s],f.bs++ss.map fun t=>(t.1,t.2.2)⟩ (.slice a6 (f.sg.length + 1) cap6) (.slice a8 (ts.length + ss.length) cap8)) 120 (0,0)):=by rw [heap_setCell_same _ _ 1 _ _ _ (uh HR8)]; rfl
           have kS:=(Kept.refl [w.heap.size + 1] w8).setCell (p:=⟨w.heap.size + 1,1,none⟩) (.inl (by simp)) (.slice a8 (ts.length + ss.length) cap8)
           have hgl:=(uh HF9).gl
           have hcat:=(uh HF9).bs.cat (uh HO5) (uh HKN9) (uh HM9) (uh H01) (uh HVB) (fun x hx=>uh HX9 x (by simpa using hx)) (fun x hx=>((uh HF9).sg.lt x (by simpa using hx)).2) (uh HO8) (uh HGR8) (uh HAA8)
           have hsg8:=(uh HKA).owns (uh HF9).sg (fun x hx hm=>(uh HF9).bs.ap x (by simpa using hm) (by simpa using hx))
           have HFx:=hide (⟨hS2,hgl,kS.owns hsg8 (fun x hx hm=>by have:=(hsg8.lt x hx).1; have:=List.mem_singleton.1 hm; omega),hcat.pass kS (fun x hx=>Or.inl (by rw [List.mem_singleton.1 hx]; exact hgl)),by rw [(uh HF9).eq,List.map_append],(uh HF9).last,(uh HF9).ep,(uh HF9).szb⟩:RFK w1 (w8.setCell ⟨w.heap.size + 1,1,none⟩ (.slice a8 (ts.length + ss.length) cap8)) (w.heap.size + 1) ⟨NU,xb,f.sz,f.sg++[s],f.bs++ss.map fun t=>(t.1,t.2.2)⟩ (.slice a6 (f.sg.length + 1) cap6) (.slice a8 (ts.length + ss.length) cap8) (ts++ss))
           have k69:Kept ((w.heap.size + 1) :: (Value.slice ba ts.length bc).ownBlock.toList) W9 (w8.setCell ⟨w.heap.size + 1,1,none⟩ (.slice a8 (ts.length + ss.length) cap8)):=((uh HKA).mono (fun x hx=>by simp [hx])).trans kS (fun x hx=>Or.inl (by simp at hx; simp [hx]))
           have HK10:=hide ((uh HK9).trans k69 (fun x hx=>by
             rcases List.mem_cons.1 hx with rfl | hx
             ·exact Or.inl (by simp)
             ·exact Or.inr ((uh HF9).bs.own.lt x (by simpa using hx)).1):Kept [w.heap.size + 1] w1 _)
           have HN10:=hide (k69.heap (uh HN9) (by
             intro hm
             rcases List.mem_cons.1 hm with h9 | h9
             ·have:=uh HZ1; have:=uh H01; have:=uh H45; omega
             ·have h8:=uh HVB w5.heap.size (by simpa using h9); have:=uh H45; omega))
           have HB10:=hide ((uh HO5).stay (((uh HKN9).mono (M:=M9++((w.heap.size + 1) :: (Value.slice ba ts.length bc).ownBlock.toList)) (fun x hx=>by simp [hx])).trans k69 (fun x hx=>Or.inl (by simp at hx; simp [hx]))) (fun x hx=>by
             rcases List.mem_append.1 hx with hx | hx
             ·exact uh HM9 x hx
             ·rcases List.mem_cons.1 hx with rfl | hx
              ·exact Or.inl (by have:=uh HZ1; have:=uh H01; omega)
              ·exact Or.inl (uh HVB x (by simpa using hx))))
           clear hS2 kS hcat hsg8 k69 d0 d1 d2 d3 d4 e0 e1 e2 e3 e4 s0 s1 s2 s3 s4 s5 v0 v1 v2 v3 v4 HF9 HK9 HN9 HKN9 HX9 HM9 HGB HKA HR8 HO8 HGR8 HAA8 HB9 HVB HVS
           generalize w8.setCell ⟨w.heap.size + 1,1,none⟩ (.slice a8 (ts.length + ss.length) cap8) = W10 at HFx HK10 HN10 HB10 ⊢
           obtain ⟨s0,s1,s2,s3,s4,s5⟩:=scells (uh HN10)
           go_wp2_with fail
           clear s0 s1 s2 s3 s4 s5
           go_loopw [102] (fun t102 wq=>∃ j:Nat,j≤ss.length∧t102 = .int .i64 (j:Int)∧Hid (RFK w1 wq (w.heap.size + 1) ⟨NU,xb,(f.sz + cntB ((ss.map fun t=>(t.1,t.2.2)).take j)) % 18446744073709551616,f.sg++[s],f.bs++ss.map fun t=>(t.1,t.2.2)⟩ (.slice a6 (f.sg.length + 1) cap6) (.slice a8 (ts.length + ss.length) cap8) (ts++ss))∧Hid (Kept [w.heap.size + 1] w1 wq)∧Hid (OwnB w4 wq (.slice a5 ss.length c5) ss)) (fun t _=>ss.length - (intOf t).toNat)
           case atStart=>exact ⟨0,Nat.zero_le _,rfl,hide (by have h9:=uh HFx; rw [List.take_zero,show cntB [] = 0 from rfl,show (f.sz + 0) % 18446744073709551616 = f.sz from by rw [Nat.add_zero]; exact Nat.mod_eq_of_lt (uh HFx).szb]; exact h9),HK10,HB10⟩
           case round =>
            obtain ⟨j,hj,rfl,HF,HK,HB⟩:=hrel
            by_cases hlj:j < ss.length
            ·have hlj':(j:Int) < ss.length:=by omega
             have hmi:j < (ss.map fun t=>(t.1,t.2.2)).length:=by rw [List.length_map]; exact hlj
             have HCN:=hide (xb0y (ss.map fun t=>(t.1,t.2.2)) j hmi)
             rw [List.getElem_map] at HCN
             obtain ⟨qa,ql,qc,hq1,hq2,hq3,hq4,hq5⟩:=(uh HB).rdC
             injection hq1 with r1 r2 r3
             subst r1 r2 r3
             obtain ⟨b2,o2,rfl,hcc⟩:=hq5 (by omega)
             have hri:=hcc j (by rw [List.length_map]; exact hlj)
             rw [List.getElem_map] at hri
             have hrn:=(uh HB).rdN ss[j] (List.getElem_mem hlj)
             generalize ss[j] = X at hri hrn HCN
             obtain ⟨pl,y,es⟩:=X
             dsimp only at hrn HCN
             obtain ⟨ea,en,ec,kv,vv,rfl,hen,hecn,hecm,_⟩:=hrn
             subst hen
             have x0:=hri 0 _ rfl
             have x1:=hri 1 _ rfl
             simp only [Nat.add_zero] at x0
             have HLE:=hide (by omega:es.length≤9223372036854775807)
             have hjc:(j:Int) < c5:=by rw [List.length_map] at hq2; omega
             clear hcc hri hq2 hq3 hq4 hq5 hmi hecn hecm
             have hb1:IntKind.i64.wrap ((j:Int) + 1) = (j:Int) + 1:=by rw [IntKind.wrap_i64]; omega
             go_upto_region 22 with fail
             have k1:=(Kept.refl [] wr).alloc (.cells #[.int .u64 (pl:Int),.slice ea es.length ec] 129)
             have hh1:=heap_alloc_new wr (.cells #[.int .u64 (pl:Int),.slice ea es.length ec] 129)
             have HF1q:=hide ((uh HF).pass k1)
             have HK1q:=hide ((uh HK).trans k1 (by simp))
             have HB1q:=hide ((uh HB).stay k1 (by simp))
             clear x0 x1
             obtain ⟨W1,hW1⟩:∃ W,wr.alloc (.cells #[.int .u64 (pl:Int),.slice ea es.length ec] 129) = W:=⟨_,rfl⟩
             rw [hW1] at HF1q HK1q HB1q hh1 ⊢
             clear hW1 k1 HF HK HB
             obtain ⟨y0,y1⟩:=bcells hh1
             obtain ⟨d0,d1,d2,d3,d4⟩:=xa1g (uh HF1q).row
             obtain ⟨v0,v1,v2,v3,v4⟩:=ffroz (uh HF1q).row
             dsimp only at d4
             have hw2:IntKind.u64.wrap (es.length:Int) = (es.length:Int):=by rw [IntKind.wrap_u64]; have:=uh HLE; omega
             have hw3:IntKind.u64.wrap ((((f.sz + cntB ((ss.map fun t=>(t.1,t.2.2)).take j)) % 18446744073709551616:Nat):Int) + (es.length:Int)) = (((f.sz + cntB ((ss.map fun t=>(t.1,t.2.2)).take (j + 1))) % 18446744073709551616:Nat):Int):=by
              rw [IntKind.wrap_u64,uh HCN]
              omega
             obtain ⟨SZ,hSZ⟩:∃ SZ,(f.sz + cntB ((ss.map fun t=>(t.1,t.2.2)).take j)) % 18446744073709551616 = SZ:=⟨_,rfl⟩
             obtain ⟨SZ2,hSZ2⟩:∃ SZ2,(f.sz + cntB ((ss.map fun t=>(t.1,t.2.2)).take (j + 1))) % 18446744073709551616 = SZ2:=⟨_,rfl⟩
             rw [hSZ,hSZ2] at hw3
             rw [hSZ] at d4 HF1q
             have HSZ2:=hide hSZ2
             have HS2B:=hide (by rw [← hSZ2]; exact Nat.mod_lt _ (by omega):SZ2 < 18446744073709551616)
             have hS2:(W1.setCell ⟨w.heap.size + 1,4,none⟩ (.int .u64 (SZ2:Int))).heap[w.heap.size + 1]? = some (.cells (rfC ⟨NU,xb,SZ2,f.sg++[s],f.bs++ss.map fun t=>(t.1,t.2.2)⟩ (.slice a6 (f.sg.length + 1) cap6) (.slice a8 (ts.length + ss.length) cap8)) 120 (0,0)):=by rw [heap_setCell_same _ _ 4 _ _ _ (uh HF1q).row]; rfl
             have kS:=(Kept.refl [w.heap.size + 1] W1).setCell (p:=⟨w.heap.size + 1,4,none⟩) (.inl (by simp)) (.int .u64 (SZ2:Int))
             have HF3:=hide ((uh HF1q).turn (f':=⟨NU,xb,SZ2,f.sg++[s],f.bs++ss.map fun t=>(t.1,t.2.2)⟩) kS hS2 rfl rfl (uh HF1q).last (uh HF1q).ep (uh HS2B))
             have HK3:=hide ((uh HK1q).trans kS (fun x hx=>Or.inl hx))
             have HB3:=hide ((uh HB1q).stay kS (fun x hx=>Or.inl (by rw [List.mem_singleton.1 hx]; have:=uh HZ1; have:=uh H01; omega)))
             clear hSZ hSZ2 hh1 d0 d1 d2 d3 HCN hS2 kS
             go_wp2_with fail
             go_roundw
             case rel=>exact ⟨j + 1,by omega,by simp,hide (by rw [uh HSZ2]; exact uh HF3),HK3,HB3⟩
             case measure=>simp [intOf]; omega
            ·have hlj':¬ (j:Int) < ss.length:=by omega
             have hie:j = ss.length:=by omega
             subst hie
             have hfin:=uh HF
             rw [List.take_of_length_le (by rw [List.length_map]; exact Nat.le_refl _)] at hfin
             have HFI:=hide hfin
             clear hfin
             go_wp2_with fail
             go_roundw
             case rel=>exact ⟨i + 1,_,_,_,ts++ss,by omega,by simp,HT3,HFI,HK,hide ⟨by show NU < 18446744073709551615; have:=uh HUL; have:=uh HNM9; omega,uh HEB,by have:=(uh HBD).2.2.1; simp only [List.length_append,List.length_cons,List.length_nil]; omega,by rw [List.length_append]; have:=uh HRT; have:=uh HSL; omega⟩,HM2'⟩
             case measure=>simp [intOf]; omega
          ·have hz':((xc:Int) != (f.sz:Int)) = true:=by rw [bne_iff_ne]; omega
           have HRN:=hide (uh H4' (by simp) hnu (by simp) (fun h=>hz h.2.2.1))
           clear ha hd he hm hz hnu H3 H4' H5
           go_wp2_with fail
           refine bodyPost_ret (v:=.tuple #[.agg (rfC ⟨NU,f.ep,f.sz,f.sg,f.bs⟩ (.slice sa f.sg.length sc) (.slice ba ts.length bc)),.bool false]) ?_ rfl ⟨Or.inl ⟨uh HRN,⟨NU,f.ep,f.sz,f.sg,f.bs⟩,sa,f.sg.length,sc,ba,ts.length,bc,rfl⟩,?_⟩
           ·exact xa0b rfl _ _ w.heap.size _ (rfC ⟨NU,f.ep,f.sz,f.sg,f.bs⟩ (.slice sa f.sg.length sc) (.slice ba ts.length bc)) (0,0) _ rfl (xa1d (uh HA7) _ _ _ _ _) Tryz.underlying120 rfl Tryz.size_rfound _ rfl
           ·exact xa0w ((uh HK1).trans (uh HK7) (fun x hx=>Or.inr (by rw [List.mem_singleton.1 hx]; omega))) w.heap.size (Or.inr (Nat.le_refl _)) _ _ _ _ _
         ·have hm':((xb:Int) == 18446744073709551615) = true:=by simp; have:=uh HXB; omega
          have HRN:=hide (uh H4' (by simp) hnu (by simp) (fun h=>hm h.2.2.2.2))
          clear ha hd he hm hnu H3 H4' H5
          go_wp2_with fail
          refine bodyPost_ret (v:=.tuple #[.agg (rfC ⟨NU,f.ep,f.sz,f.sg,f.bs⟩ (.slice sa f.sg.length sc) (.slice ba ts.length bc)),.bool false]) ?_ rfl ⟨Or.inl ⟨uh HRN,⟨NU,f.ep,f.sz,f.sg,f.bs⟩,sa,f.sg.length,sc,ba,ts.length,bc,rfl⟩,?_⟩
          ·exact xa0b rfl _ _ w.heap.size _ (rfC ⟨NU,f.ep,f.sz,f.sg,f.bs⟩ (.slice sa f.sg.length sc) (.slice ba ts.length bc)) (0,0) _ rfl (xa1d (uh HA7) _ _ _ _ _) Tryz.underlying120 rfl Tryz.size_rfound _ rfl
          ·exact xa0w ((uh HK1).trans (uh HK7) (fun x hx=>Or.inr (by rw [List.mem_singleton.1 hx]; omega))) w.heap.size (Or.inr (Nat.le_refl _)) _ _ _ _ _
        ·have he':(xb:Int) < (f.ep:Int):=by omega
         have HRN:=hide (uh H4' (by simp) hnu (by simp) (fun h=>he h.2.2.2.1))
         clear ha hd he hnu H3 H4' H5
         go_wp2_with fail
         refine bodyPost_ret (v:=.tuple #[.agg (rfC ⟨NU,f.ep,f.sz,f.sg,f.bs⟩ (.slice sa f.sg.length sc) (.slice ba ts.length bc)),.bool false]) ?_ rfl ⟨Or.inl ⟨uh HRN,⟨NU,f.ep,f.sz,f.sg,f.bs⟩,sa,f.sg.length,sc,ba,ts.length,bc,rfl⟩,?_⟩
         ·exact xa0b rfl _ _ w.heap.size _ (rfC ⟨NU,f.ep,f.sz,f.sg,f.bs⟩ (.slice sa f.sg.length sc) (.slice ba ts.length bc)) (0,0) _ rfl (xa1d (uh HA7) _ _ _ _ _) Tryz.underlying120 rfl Tryz.size_rfound _ rfl
         ·exact xa0w ((uh HK1).trans (uh HK7) (fun x hx=>Or.inr (by rw [List.mem_singleton.1 hx]; omega))) w.heap.size (Or.inr (Nat.le_refl _)) _ _ _ _ _
       ·have hd':((xd:Int) != wd) = true:=by rw [bne_iff_ne]; exact hd
        have HRN:=hide (uh H4' (by simp) hnu (by simp) (fun h=>hd h.2.1))
        clear ha hd hnu H3 H4' H5
        go_wp2_with fail
        refine bodyPost_ret (v:=.tuple #[.agg (rfC ⟨NU,f.ep,f.sz,f.sg,f.bs⟩ (.slice sa f.sg.length sc) (.slice ba ts.length bc)),.bool false]) ?_ rfl ⟨Or.inl ⟨uh HRN,⟨NU,f.ep,f.sz,f.sg,f.bs⟩,sa,f.sg.length,sc,ba,ts.length,bc,rfl⟩,?_⟩
        ·exact xa0b rfl _ _ w.heap.size _ (rfC ⟨NU,f.ep,f.sz,f.sg,f.bs⟩ (.slice sa f.sg.length sc) (.slice ba ts.length bc)) (0,0) _ rfl (xa1d (uh HA7) _ _ _ _ _) Tryz.underlying120 rfl Tryz.size_rfound _ rfl
        ·exact xa0w ((uh HK1).trans (uh HK7) (fun x hx=>Or.inr (by rw [List.mem_singleton.1 hx]; omega))) w.heap.size (Or.inr (Nat.le_refl _)) _ _ _ _ _
      ·have ha':((xa:Int) != (NU:Int)) = true:=by rw [bne_iff_ne]; omega
       have HRN:=hide (uh H4' (by simp) hnu (by simp) (fun h=>ha h.1))
       clear ha hnu H3 H4' H5
       go_wp2_with fail
       refine bodyPost_ret (v:=.tuple #[.agg (rfC ⟨NU,f.ep,f.sz,f.sg,f.bs⟩ (.slice sa f.sg.length sc) (.slice ba ts.length bc)),.bool false]) ?_ rfl ⟨Or.inl ⟨uh HRN,⟨NU,f.ep,f.sz,f.sg,f.bs⟩,sa,f.sg.length,sc,ba,ts.length,bc,rfl⟩,?_⟩
       ·exact xa0b rfl _ _ w.heap.size _ (rfC ⟨NU,f.ep,f.sz,f.sg,f.bs⟩ (.slice sa f.sg.length sc) (.slice ba ts.length bc)) (0,0) _ rfl (xa1d (uh HA7) _ _ _ _ _) Tryz.underlying120 rfl Tryz.size_rfound _ rfl
       ·exact xa0w ((uh HK1).trans (uh HK7) (fun x hx=>Or.inr (by rw [List.mem_singleton.1 hx]; omega))) w.heap.size (Or.inr (Nat.le_refl _)) _ _ _ _ _
     ·have hse':((SE:Int) != 0) = true:=by rw [bne_iff_ne]; omega
      have HT3:=hide (uh H3 (by simp) hnu hse)
      have HNL9:=hide (by have:=uh HUL; omega:NU < 18446744073709551615)
      clear hse hnu H3 H4' H5
      go_wp2_with fail
      go_roundw
      case rel=>exact ⟨i + 1,_,_,_,ts,by omega,by simp,HT3,HF6,HK6,hide ⟨uh HNL9,(uh HBD).2.1,by have:=(uh HBD).2.2.1; dsimp only; omega,by have:=uh HRT; omega⟩,HM2'⟩
      case measure=>simp [intOf]; omega
   ·have hne':((NE:Int) != 0) = true:=by rw [bne_iff_ne]; omega
    have HT3:=hide (uh H1 hne)
    go_wp2_with fail
    go_roundw
    case rel=>exact ⟨i + 1,f,_,_,ts,by omega,by simp,HT3,HF2,HK2,hide ⟨(uh HBD).1,(uh HBD).2.1,by have:=(uh HBD).2.2.1; omega,by have:=uh HRT; omega⟩,HM1⟩
    case measure=>simp [intOf]; omega
  ·have hlt':¬ (i:Int) < L.length:=by omega
   have hie:i = L.length:=by omega
   subst hie
   have hz:=uh HT
   rw [List.drop_length] at hz
   unfold findF at hz
   have HRN:=hide hz.symm
   obtain ⟨z0,z1,z2,z3,z4⟩:=cells5 (uh HAR)
   obtain ⟨y0,y1,y2,y3,y4⟩:=ffroz (uh HAR)
   obtain ⟨c0,c1,c2,c3,c4⟩:=xa1g (uh HF).row
   clear hz HT
   go_wp2_with fail
   have kF:Kept [w.heap.size] wr _:=xa0w (Kept.refl [w.heap.size] wr) w.heap.size (Or.inl (by simp)) (.slice sa f.sg.length sc) (.slice ba ts.length bc) (.int .u64 (f.last:Int)) (.int .u64 (f.ep:Int)) (.int .u64 (f.sz:Int))
   refine bodyPost_ret (v:=.tuple #[.agg (rfC f (.slice sa f.sg.length sc) (.slice ba ts.length bc)),.bool true]) ?_ rfl ⟨Or.inr ⟨f,_,_,ts,uh HRN,rfl,?_,?_,(uh HF).eq,(uh HBD).1,(uh HBD).2.1,(uh HF).szb⟩,?_⟩
   ·exact xa0b rfl _ _ w.heap.size _ (rfC f (.slice sa f.sg.length sc) (.slice ba ts.length bc)) (0,0) _ rfl (xa1d (uh HAR) _ _ _ _ _) Tryz.underlying120 rfl Tryz.size_rfound _ rfl
   ·exact xa3j (kF.owns (uh HF).sg (fun x hx hm=>by have h9:=((uh HF).sg.lt x hx).1; have:=List.mem_singleton.1 hm; have:=uh HZ1; omega)) (by have:=uh HZ1; omega)
   ·exact ((uh HF).bs.pass kF (fun x hx=>Or.inl (by rw [List.mem_singleton.1 hx]; have:=uh HZ1; omega))).base (by have:=uh HZ1; omega)
   ·exact xa0w ((uh HK1).trans (uh HK) (fun x hx=>Or.inr (by rw [List.mem_singleton.1 hx]; omega))) w.heap.size (Or.inr (Nat.le_refl _)) _ _ _ _ _
end
section
open Go.RowKit Go.BigFrame
set_option maxHeartbeats 4000000 in
theorem xa6t (a b c:Nat) (z:Int) (w:World) (ha:a < 18446744073709551616) (hb:b < 18446744073709551616) (hc:c < 18446744073709551616) (hz:-9223372036854775808≤z∧z≤9223372036854775807) :
  Calls Tryz.prog 99 #[.agg #[.int .u64 a,.int .u64 b,.int .u64 c,.int .i64 z]] w fun e w'=>∃ v',e = .returned v'∧Rd w' v' (frB a (headB a b c z))∧Kept [] w w'∧∀ x∈blk v',w.heap.size≤x:=by
 have HB0:=hide (heap_alloc_new w (.cells #[.int .u64 (a:Int),.int .u64 (b:Int),.int .u64 (c:Int),.int .i64 z] 174))
 have HK0:=hide ((Kept.refl [] w).alloc (.cells #[.int .u64 (a:Int),.int .u64 (b:Int),.int .u64 (c:Int),.int .i64 z] 174))
 obtain ⟨W1,hW1⟩:∃ W,w.alloc (.cells #[.int .u64 (a:Int),.int .u64 (b:Int),.int .u64 (c:Int),.int .i64 z] 174) = W:=⟨_,rfl⟩
 rw [hW1] at HB0 HK0
 go_enter Tryz.func99,Tryz.ntmps99
 go_upto_region 1 with fail
 clear hW1
 obtain ⟨d0,d1,d2,d3⟩:=hcells (uh HB0)
 have HD0:=hide d0
 go_region_held3 (fun w'=>w'.cell? ⟨w.heap.size,0,none⟩ = some (.int .u64 (a:Int))) (go_keep) (first
  | (go_at_call 141; refine (xb0b W1.drew).mono ?_; rintro e w2 ⟨rfl,r2,k2⟩; have HR2:=hide r2; have K2:=(Kept.refl [] W1).drew.trans k2 (by simp); have HK2:=hide K2; have y0:=K2.cell (uh HD0) (by simp); clear r2 k2 K2)
  | (go_at_call 142; refine (xa0z a 8 _ ha (by omega)).mono ?_; rintro e w3 ⟨rfl,k3,h3⟩; have HR3:=hide (rd_lit h3 rfl (xa0o a 8) 8 (xa0c a 8) (by omega)); have HR23:=hide ((uh HR2).old k3 (by simp)); have HK3:=hide ((uh HK2).trans k3 (by simp)); have z0:=k3.cell y0 (by simp); clear k3 h3)
  | (go_at_call 140; refine (xa1e _ _ _ (wide a 8) _ (by exact uh HR23) (by exact uh HR3) (by simp [xa0c])).mono ?_; rintro e w4 ⟨v4,rfl,r4,k4,_⟩; have HR4:=hide r4; have HK4:=hide ((uh HK3).trans k4 (by simp)); have j0:=k4.cell z0 (by simp); clear k4 r4))
 clear d0 d1 d2 d3 y0 z0 j0 HD0 HR2 HR23 HR3 HK2 HK3
 have HB4:=hide ((uh HK4).heap (uh HB0) (by simp))
 have HKw4:=hide ((uh HK0).trans (uh HK4) (by simp))
 obtain ⟨a4,m4,c4,rfl,hm4,_⟩:=id (uh HR4)
 clear hm4
 clear HK4 HB0 HK0
 go_upto_region 2 with fail
 have HS4:=hide (fun w' (k:Kept [] w4 w')=>by
  obtain ⟨d0,d1,d2,d3⟩:=hcells (uh HB4)
  exact ⟨k.cell d1 (by simp),k.cell d2 (by simp)⟩:∀ w',Kept [] w4 w'→w'.cell? ⟨w.heap.size,1,none⟩ = some (.int .u64 (b:Int))∧w'.cell? ⟨w.heap.size,2,none⟩ = some (.int .u64 (c:Int)))
 refine wp_hb2 (by kernel_rfl) (by kernel_rfl) (by kernel_rfl) (by kernel_rfl) (by kernel_rfl) (by kernel_rfl) (by kernel_rfl) (by kernel_rfl) (by kernel_rfl) (by kernel_rfl) (by kernel_rfl) (by kernel_rfl) (by kernel_rfl) (by kernel_rfl) (by kernel_rfl) (by kernel_rfl) (by kernel_rfl) (by kernel_rfl) (by kernel_rfl) rfl rfl rfl rfl
  (.slice a4 m4 c4) (.pointer (some ⟨w.heap.size,1,none⟩)) (.int .u64 (b:Int)) (.pointer (some ⟨w.heap.size,2,none⟩)) (.int .u64 (c:Int)) _ _ _ _ _
  (fun w'=>w'.cell? ⟨w.heap.size,1,none⟩ = some (.int .u64 (b:Int))∧w'.cell? ⟨w.heap.size,2,none⟩ = some (.int .u64 (c:Int)))
  (fun w'=>Kept [] w4 w')
  (fun u3 w'=>Kept [] w4 w'∧Rd w' u3 (wide b 8))
  (fun u3 u6 w'=>Kept [] w4 w'∧Rd w' u3 (wide b 8)∧Rd w' u6 (wide c 8))
  (fun u3 u6 u7 w'=>Kept [] w4 w'∧Rd w' u7 (wide b 8++wide c 8))
  (fun u3 u6 u7 u8 w'=>Kept [] w4 w'∧Rd w' u8 ([78,84,82,89,49]++wide a 8++(wide b 8++wide c 8)))
  (fun u3 u6 u7 u8=>u8)
  (by simp only [Act.put,sa1,sa2,sa3]; rfl) (by exact Or.inl ⟨by rfl,fun W' hW'=>by go_simp⟩)
  (by simp only [Act.put,sa1,sa2,sa3]; rfl) (by exact Or.inl ⟨by rfl,fun W' hW'=>by go_simp⟩)
  (by simp only [Act.put,sa1,sa2,sa3]; rfl) (by exact Or.inl ⟨by rfl,fun W' hW'=>xa0s 59 _ rfl ⟨w.heap.size,1,none⟩ rfl W' _ .u64 Tryz.underlying59 hW'.1⟩)
  (by simp only [Act.put,sa1,sa2,sa3]; rfl) (by exact Or.inl ⟨by rfl,fun W' hW'=>by go_simp⟩)
  (by simp only [Act.put,sa1,sa2,sa3]; rfl) (by exact Or.inl ⟨by rfl,fun W' hW'=>xa0s 59 _ rfl ⟨w.heap.size,2,none⟩ rfl W' _ .u64 Tryz.underlying59 hW'.2⟩)
  ((Kept.refl [] w4).drew)
  ⟨fun w' h=>uh HS4 w' h,fun u3 w' h=>uh HS4 w' h.1,fun u3 u6 w' h=>uh HS4 w' h.1,fun u3 u6 u7 w' h=>uh HS4 w' h.1,fun u3 u6 u7 u8 w' h=>uh HS4 w' h.1⟩
  (by
   rintro w' k K hK
   refine xa0e rfl Tryz.call142 [.int .u64 (b:Int),.int .i64 8] rfl (xa0z b 8 w' hb (by omega)) ?_
   rintro e w2 ⟨rfl,k2,g2⟩
   exact ⟨_,rfl,hK _ _ ⟨k.trans k2 (by simp),rd_lit g2 rfl (xa0o b 8) 8 (xa0c b 8) (by omega)⟩⟩)
  (by
   rintro u3 w' ⟨k,r3⟩ K hK
   refine xa0e rfl Tryz.call142 [.int .u64 (c:Int),.int .i64 8] rfl (xa0z c 8 w' hc (by omega)) ?_
   rintro e w2 ⟨rfl,k2,g2⟩
   exact ⟨_,rfl,hK _ _ ⟨k.trans k2 (by simp),r3.old k2 (by simp),rd_lit g2 rfl (xa0o c 8) 8 (xa0c c 8) (by omega)⟩⟩)
  (by
   rintro u3 u6 w' ⟨k,r3,r6⟩ K hK
   refine xa0e rfl Tryz.call140 [u3,u6] rfl (xa1e _ _ (wide b 8) (wide c 8) w' r3 r6 (by simp [xa0c])) ?_
   rintro e w2 ⟨v7,rfl,r7,k2,_⟩
   exact ⟨_,rfl,hK _ _ ⟨k.trans k2 (by simp),r7⟩⟩)
  (by
   rintro u3 u6 u7 w' ⟨k,r7⟩ K hK
   refine xa0e rfl Tryz.call140 [.slice a4 m4 c4,u7] rfl (xa1e _ _ ([78,84,82,89,49]++wide a 8) (wide b 8++wide c 8) w' ((uh HR4).old k (by simp)) r7 (by simp [xa0c])) ?_
   rintro e w2 ⟨v8,rfl,r8,k2,_⟩
   exact ⟨_,rfl,hK _ _ ⟨k.trans k2 (by simp),r8⟩⟩)
  (by rintro u3 u6 u7 u8 w' ⟨k,r8⟩; exact Or.inl ⟨by rfl,fun W' hW'=>by go_simp⟩)
  ?_
 rintro u3 u6 u7 v8 w8 ⟨k8,r8⟩
 simp only [Act.put,sa1,sa2,sa3]
 have HK8:=hide k8
 have HR8:=hide r8
 clear k8 r8
 have HB8:=hide ((uh HK8).heap (uh HB4) (by simp))
 have HKw8:=hide ((uh HKw4).trans (uh HK8) (by simp))
 obtain ⟨a8,m8,c8,rfl,hm8,_⟩:=id (uh HR8)
 clear hm8
 clear HK8 HB4 HKw4
 obtain ⟨y,hy⟩:∃ y,(z % 256).toNat = y:=⟨_,rfl⟩
 have hyl:y < 256:=by omega
 have hval:IntKind.u8.wrap z = (y:Int):=by rw [IntKind.wrap_u8']; omega
 have HY:=hide (And.intro hy hyl)
 clear hy hyl
 go_upto_region 3 with fail
 have HS8:=hide (fun w' (k:Kept [] w8 w')=>by
  obtain ⟨d0,d1,d2,d3⟩:=hcells (uh HB8)
  exact ⟨k.cell d0 (by simp),k.cell d3 (by simp)⟩:∀ w',Kept [] w8 w'→w'.cell? ⟨w.heap.size,0,none⟩ = some (.int .u64 (a:Int))∧w'.cell? ⟨w.heap.size,3,none⟩ = some (.int .i64 z))
 obtain ⟨P,hP⟩:∃ P,[78,84,82,89,49]++wide a 8++(wide b 8++wide c 8) = P:=⟨_,rfl⟩
 have HPL:=hide (by rw [← hP]; simp [xa0c]:P.length = 29)
 have HPE:=hide (by unfold headB; rw [← hP,(uh HY).1]; simp:headB a b c z = P++[y])
 rw [hP] at HR8
 clear hP
 refine wp_hb3 (by kernel_rfl) (by kernel_rfl) (by kernel_rfl) (by kernel_rfl) (by kernel_rfl) (by kernel_rfl) (by kernel_rfl) (by kernel_rfl) (by kernel_rfl) (by kernel_rfl) (by kernel_rfl) (by kernel_rfl) (by kernel_rfl) (by kernel_rfl) (by kernel_rfl) (by kernel_rfl) (by kernel_rfl) (by kernel_rfl) (by kernel_rfl) (by kernel_rfl) rfl rfl rfl
  (.pointer (some ⟨w.heap.size,0,none⟩)) (.int .u64 (a:Int)) (.slice a8 m8 c8) (.pointer (some ⟨w.heap.size,3,none⟩)) (.int .i64 z) (.int .u8 (y:Int)) _ _ _ _ _ _
  (fun w'=>w'.cell? ⟨w.heap.size,0,none⟩ = some (.int .u64 (a:Int))∧w'.cell? ⟨w.heap.size,3,none⟩ = some (.int .i64 z))
  (fun w'=>Kept [] w8 w')
  (fun u6 w'=>Kept [] w8 w'∧Rd w' u6 [y])
  (fun u6 u7 w'=>Kept [] w8 w'∧Rd w' u7 (P++[y]))
  (fun u6 u7 u8 w'=>Kept [] w8 w'∧Rd w' u8 (frB a (P++[y]))∧∀ x∈blk u8,w8.heap.size≤x)
  (fun u6 u7 u8=>u8)
  (by simp only [Act.put,sa1,sa2,sa3]; rfl) (by exact Or.inl ⟨by rfl,fun W' hW'=>by go_simp⟩)
  (by simp only [Act.put,sa1,sa2,sa3]; rfl) (by exact Or.inl ⟨by rfl,fun W' hW'=>xa0s 59 _ rfl ⟨w.heap.size,0,none⟩ rfl W' _ .u64 Tryz.underlying59 hW'.1⟩)
  (by simp only [Act.put,sa1,sa2,sa3]; rfl) (by exact Or.inl ⟨by rfl,fun W' hW'=>by go_simp⟩)
  (by simp only [Act.put,sa1,sa2,sa3]; rfl) (by exact Or.inl ⟨by rfl,fun W' hW'=>by go_simp⟩)
  (by simp only [Act.put,sa1,sa2,sa3]; rfl) (by exact Or.inl ⟨by rfl,fun W' hW'=>xa0s 3 _ rfl ⟨w.heap.size,3,none⟩ rfl W' _ .i64 (by kernel_rfl) hW'.2⟩)
  (by simp only [Act.put,sa1,sa2,sa3]; rfl) (by exact Or.inl ⟨by rfl,fun W' hW'=>by go_simp⟩)
  ((Kept.refl [] w8).drew)
  ⟨fun w' h=>uh HS8 w' h,fun u3 w' h=>uh HS8 w' h.1,fun u3 u6 w' h=>uh HS8 w' h.1,fun u3 u6 u7 w' h=>uh HS8 w' h.1⟩
  (by
   rintro w' k K hK
   exact xb8y _ rfl y rfl (hK _ _ ⟨k.alloc _,rd_row [y] (heap_alloc_new w' _) rfl (by intro x hx; rw [List.mem_singleton] at hx; subst hx; exact (uh HY).2) 1 rfl (by decide)⟩))
  (by
   rintro u6 w' ⟨k,r6⟩ K hK
   refine xa0e rfl Tryz.call140 [.slice a8 m8 c8,u6] rfl (xa1e _ _ P [y] w' ((uh HR8).old k (by simp)) r6 (by rw [uh HPL]; simp)) ?_
   rintro e w2 ⟨v7,rfl,r7,k2,_⟩
   exact ⟨_,rfl,hK _ _ ⟨k.trans k2 (by simp),r7⟩⟩)
  (by
   rintro u6 u7 w' ⟨k,r7⟩ K hK
   refine xa0e rfl Tryz.call110 [.int .u64 (a:Int),u7] rfl (xa2u a _ (P++[y]) w' r7 ha (by rw [List.length_append,uh HPL]; simp)) ?_
   rintro e w2 ⟨v8,rfl,r8,k2,n8⟩
   exact ⟨_,rfl,hK _ _ ⟨k.trans k2 (by simp),r8,fun x hx=>Nat.le_trans k.size (n8 x hx)⟩⟩)
  (by rintro u6 u7 u8 w' ⟨k,r8⟩; exact Or.inl ⟨by rfl,fun W' hW'=>by go_simp⟩)
  ?_
 rintro u6 u7 v9 w9 ⟨k9,r9,n9⟩
 have HNW:=hide (fun x hx=>Nat.le_trans (uh HKw8).size (n9 x hx))
 simp only [Act.put,sa1,sa2,sa3]
 have HK9:=hide ((uh HKw8).trans k9 (by simp))
 have HR9:=hide r9
 clear k9 r9 n9
 go_wp2
 go_ret
 exact ⟨_,rfl,by rw [uh HPE]; exact uh HR9,uh HK9,uh HNW⟩
end
section
open Go.RowKit Go.BigFrame Go.Maps Go.Sort
def rlC (c:Nat) (wd lim:Int) (num ep nx:Nat) (byt:Int) (so:Bool) (st:Nat):Array Value:=#[.pointer (some ⟨c,0,none⟩),.int .i64 wd,.int .i64 lim,.int .u64 (num:Int),.int .u64 (ep:Int),.int .u64 (nx:Int),.int .i64 byt,.bool so,.int .i64 (st:Int)]
theorem xa3b {w:World} {l c:Nat} {wd lim:Int} {num ep nx:Nat} {byt:Int} {so:Bool} {st:Nat} {ty:TypeId} (h:w.heap[l]? = some (.cells (rlC c wd lim num ep nx byt so st) ty (0,0))) :
  w.cell? ⟨l,0,none⟩ = some (.pointer (some ⟨c,0,none⟩))∧w.cell? ⟨l,1,none⟩ = some (.int .i64 wd)∧w.cell? ⟨l,2,none⟩ = some (.int .i64 lim)∧w.cell? ⟨l,3,none⟩ = some (.int .u64 (num:Int))∧w.cell? ⟨l,4,none⟩ = some (.int .u64 (ep:Int))∧w.cell? ⟨l,5,none⟩ = some (.int .u64 (nx:Int))∧w.cell? ⟨l,6,none⟩ = some (.int .i64 byt)∧w.cell? ⟨l,7,none⟩ = some (.bool so)∧w.cell? ⟨l,8,none⟩ = some (.int .i64 (st:Int)):=by
 refine ⟨?_,?_,?_,?_,?_,?_,?_,?_,?_⟩ <;> rw [cell_of_row _ _ _ _ _ _ h] <;> rfl
theorem rlfroz {w:World} {b:Nat} {cs:Array Value} {t:TypeId} (h:w.heap[b]? = some (.cells cs t (0,0))):w.frozen? ⟨b,3,none⟩ = false∧w.frozen? ⟨b,5,none⟩ = false∧w.frozen? ⟨b,6,none⟩ = false∧w.frozen? ⟨b,7,none⟩ = false∧w.frozen? ⟨b,8,none⟩ = false :=
 ⟨frozen_of_row _ _ _ _ _ h,frozen_of_row _ _ _ _ _ h,frozen_of_row _ _ _ _ _ h,frozen_of_row _ _ _ _ _ h,frozen_of_row _ _ _ _ _ h⟩
theorem xc1x {w:World} {l c:Nat} {wd lim:Int} {num ep nx:Nat} {byt:Int} {so:Bool} {st:Nat} {t:TypeId} (h:w.heap[l]? = some (.cells (rlC c wd lim num ep nx byt so st) t (0,0))) (n:Nat) :
  (((w.setCell ⟨l,3,none⟩ (.int .u64 (n:Int))).setCell ⟨l,6,none⟩ (.int .i64 48)).setCell ⟨l,7,none⟩ (.bool false)).heap[l]? = some (.cells (rlC c wd lim n ep nx 48 false st) t (0,0)):=by
 rw [heap_setCell_same _ l 7 _ t _ (heap_setCell_same _ l 6 _ t _ (heap_setCell_same w l 3 _ t _ h))]; rfl
structure RBeg (w w':World) (l c:Nat) (R R':List Nat) (nb bb:Nat) (r:Nat × DSt) (wd lim:Int) (num ep nx n:Nat) (byt:Int) (so:Bool) (st:Nat):Prop where
 rk:RK w' c R' (nb + 8) (bb + 48) r.2
 kp:Kept (l :: R) w w'
 nw:∀ x∈R',x∈R∨w.heap.size≤x
 row:w'.heap[l]? = some (.cells (if r.1 = 0 then rlC c wd lim n ep nx 48 false st else rlC c wd lim num ep nx byt so st) 125 (0,0))
theorem RBeg.fail {w w':World} {l c:Nat} {R R':List Nat} {nb bb:Nat} {E:Nat} {τ:DSt} {wd lim:Int} {num ep nx n:Nat} {byt:Int} {so:Bool} {st:Nat} (h:RK w' c R' (nb + 8) (bb + 48) τ) (ev:Ev w w' R R') (h0:E≠0) (hr:w.heap[l]? = some (.cells (rlC c wd lim num ep nx byt so st) 125 (0,0))) (hl:l∉R):RBeg w w' l c R R' nb bb (E,τ) wd lim num ep nx n byt so st :=
 ⟨h,ev.1.mono (fun x hx=>by simp [hx]),ev.2,by show w'.heap[l]? = some (.cells (if E = 0 then _ else _) _ _); rw [if_neg h0]; exact ev.1.heap hr hl⟩
theorem xc0z {α:Type} {v:Value} {ps:List α} {x:Nat} (h:x∈zblk v ps):x∈blk v:=by
 unfold zblk at h
 split at h
 ·simp at h
 ·exact h
set_option maxHeartbeats 4000000 in
theorem xb4p (l c nb bb n num ep nx st:Nat) (wd lim byt:Int) (so:Bool) (R:List Nat) (σ:DSt) (w:World) (hr:w.heap[l]? = some (.cells (rlC c wd lim num ep nx byt so st) 125 (0,0))) (hD:RK w c R nb bb σ) (hl:l∉R) (hwd:wideB wd = true) (hn:n < 18446744073709551616) (hep:ep < 18446744073709551616) (hnx:nx < 18446744073709551616) (h1:nb≤700000000) (h3:bb≤140737488300000) :
  Calls Tryz.prog 52 #[.pointer (some ⟨l,0,none⟩),.int .u64 (n:Int)] w fun e w'=>∃ R',e = .returned (.int .i64 ((stBegin σ n ep nx wd).1:Nat))∧RBeg w w' l c R R' nb bb (stBegin σ n ep nx wd) wd lim num ep nx n byt so st:=by
 have HR:=hide hr
 have HDK:=hide hD
 have HL:=hide hl
 have HLS:=hide (lt_of_block hr)
 have HEP:=hide hep
 have HNX:=hide hnx
 have HWD:=hide hwd
 have HWR:=hide (by have h9:=hwd; unfold wideB at h9; simp at h9; omega:-9223372036854775808≤wd∧wd≤9223372036854775807)
 obtain ⟨P,hP⟩:∃ P,ehB n ep nx wd = P:=⟨_,rfl⟩
 have HPL:=hide (by rw [← hP]; exact xb5g hwd:P.length = 48)
 have HPE:=hide (by rw [← hP]; unfold ehB; rw [if_pos hwd]:P = frB n (headB n ep nx wd))
 obtain ⟨⟨E1,τ1⟩,hR1⟩:∃ r,stCreate σ (nmB n) = r:=⟨_,rfl⟩
 obtain ⟨⟨E2,τ2⟩,hR2⟩:∃ r,stAppend τ1 (nmB n) P = r:=⟨_,rfl⟩
 obtain ⟨⟨E3,τ3⟩,hR3⟩:∃ r,stSync τ2 (nmB n) = r:=⟨_,rfl⟩
 obtain ⟨⟨E4,τ4⟩,hR4⟩:∃ r,stNames τ3 = r:=⟨_,rfl⟩
 obtain ⟨⟨E,τ⟩,hS⟩:∃ r,stBegin σ n ep nx wd = r:=⟨_,rfl⟩
 have hS2:=hS
 unfold stBegin at hS2
 rw [hP,hR1] at hS2
 have HA1:=hide (fun (h0:E1≠0)=>(by rw [thn_no (r:=(E1,τ1)) h0,thn_no (r:=(E1,τ1)) h0,thn_no (r:=(E1,τ1)) h0] at hS2; exact hS2.symm:(E,τ) = (E1,τ1)))
 have HA2:=hide (fun (h0:E1 = 0) (g0:E2≠0)=>(by rw [xa3f (r:=(E1,τ1)) h0,hR2,thn_no (r:=(E2,τ2)) g0,thn_no (r:=(E2,τ2)) g0] at hS2; exact hS2.symm:(E,τ) = (E2,τ2)))
 have HA3:=hide (fun (h0:E1 = 0) (g0:E2 = 0) (k0:E3≠0)=>(by rw [xa3f (r:=(E1,τ1)) h0,hR2,xa3f (r:=(E2,τ2)) g0,hR3,thn_no (r:=(E3,τ3)) k0] at hS2; exact hS2.symm:(E,τ) = (E3,τ3)))
 have HA4:=hide (fun (h0:E1 = 0) (g0:E2 = 0) (k0:E3 = 0)=>(by rw [xa3f (r:=(E1,τ1)) h0,hR2,xa3f (r:=(E2,τ2)) g0,hR3,xa3f (r:=(E3,τ3)) k0,hR4] at hS2; exact hS2.symm:(E,τ) = (E4,τ4)))
 rw [hS]
 have HR1:=hide hR1
 have HR2:=hide hR2
 have HR3:=hide hR3
 have HR4:=hide hR4
 have HDN:=hide (xa5v n w hn)
 clear hr hD hl hwd hep hnx hP hR1 hR2 hR3 hR4 hS hS2
 go_enter Tryz.func52,Tryz.ntmps52
 go_wp2_with fail
 refine Calls.mono (uh HDN) ?_
 rintro e w1 ⟨rfl,k1⟩
 rw [show strB (nmL n) = nmB n from rfl]
 have HK1:=hide k1
 have hr1:=k1.heap (uh HR) (by simp)
 obtain ⟨c0,c1,c2,c3,c4,c5,c6,c7,c8⟩:=xa3b hr1
 have HCR:=hide (xb2f c nb bb R σ (nmB n) w1 ((uh HDK).old k1) (by rw [xa4e]; omega) (by omega))
 rw [uh HR1] at HCR
 dsimp only at HCR
 clear k1 hr1 c1 c2 c3 c4 c5 c6 c7 c8 HDN
 go_wp2_with fail
 refine Calls.mono (uh HCR) ?_
 rintro e w2 ⟨rfl,R2,hd2,ev2⟩
 have HD2:=hide hd2
 have HE2:=hide (Ev.pre (uh HK1) ev2)
 have HRW2:=hide ((Ev.pre (uh HK1) ev2).1.heap (uh HR) (uh HL))
 clear hd2 ev2 HCR c0
 by_cases h0:E1 = 0
 ·subst h0
  obtain ⟨c0,c1,c2,c3,c4,c5,c6,c7,c8⟩:=xa3b (uh HRW2)
  clear c0 c2 c3 c6 c7 c8
  go_upto_region 5 with fail
  refine xa1o 14 (by kernel_rfl) (by kernel_rfl) ?_
  simp only [List.take_succ_cons,List.take_zero,List.drop_succ_cons,List.drop_zero]
  repeat (go_big_quiet_step (fail))
  refine wpQuiet_nil ?_
  rintro _ ⟨m5,rfl⟩
  have kD:Kept [] w2 (w2.drewN m5):=(Kept.refl [] w2).drewN m5
  have HHB:=hide (xa6t n ep nx wd (w2.drewN m5) hn (uh HEP) (uh HNX) (uh HWR))
  have HKD:=hide kD
  clear kD c1 c4 c5
  go_wp2_with fail
  refine Calls.mono (uh HHB) ?_
  rintro e w3 ⟨v3,rfl,r3,k3,n3⟩
  rw [← uh HPE] at r3
  obtain ⟨a3,l3,q3,rfl,hl3,_⟩:=id r3
  have hk3:=(uh HKD).trans k3 (by simp)
  have HK3:=hide hk3
  have HRW3:=hide (hk3.heap (uh HRW2) (by simp))
  have hE3:Ev w w3 R R2:=⟨(uh HE2).1.trans hk3 (by simp),(uh HE2).2⟩
  have HE3:=hide hE3
  clear hE3
  have HR3':=hide r3
  have HLL:=hide (by rw [← hl3,uh HPL]:l3 = 48)
  have HAP:=hide (xb2e c (nb + 2) bb R2 τ1 (nmB n) _ P w3 ((uh HD2).old hk3) (by omega) r3 (fun x hx hm=>by
   have h9:=n3 x (xc0z hx)
   have h8:=(uh HD2).lt x hm
   have h7:=(uh HKD).size
   omega) (by rw [uh HPL]; omega))
  rw [uh HR2] at HAP
  dsimp only at HAP
  clear r3 k3 n3 hk3 hl3 HHB HKD
  obtain ⟨c0,_⟩:=xa3b (uh HRW3)
  go_wp2_with fail
  refine Calls.mono (uh HAP) ?_
  rintro e w4 ⟨rfl,R4,hd4,ev4⟩
  rw [uh HPL] at hd4
  have HD4:=hide hd4
  have HE4:=hide ((uh HE3).trans ev4)
  clear hd4 ev4 HAP c0 HK3 HRW3 HRW2
  have HRW4:=hide ((uh HE4).1.heap (uh HR) (uh HL))
  by_cases g0:E2 = 0
  ·subst g0
   have HSY:=hide (xb1a c (nb + 2 + 2) (bb + 48) R4 τ2 (nmB n) w4 (uh HD4) (by omega))
   rw [uh HR3] at HSY
   dsimp only at HSY
   obtain ⟨c0,_⟩:=xa3b (uh HRW4)
   go_wp2_with fail
   refine Calls.mono (uh HSY) ?_
   rintro e w5 ⟨rfl,R5,hd5,ev5⟩
   have HD5:=hide hd5
   have HE5:=hide ((uh HE4).trans ev5)
   clear hd5 ev5 HSY c0 HRW4
   have HRW5:=hide ((uh HE5).1.heap (uh HR) (uh HL))
   by_cases k0:E3 = 0
   ·subst k0
    have HSN:=hide (xb5m c (nb + 2 + 2 + 2) (bb + 48) R5 τ3 w5 (uh HD5) (by omega))
    rw [uh HR4] at HSN
    dsimp only at HSN
    obtain ⟨c0,_⟩:=xa3b (uh HRW5)
    go_wp2_with fail
    refine Calls.mono (uh HSN) ?_
    rintro e w6 ⟨rfl,R6,hd6,ev6⟩
    have HD6:=hide hd6
    have HE6:=hide ((uh HE5).trans ev6)
    clear hd6 ev6 HSN c0 HRW5
    have HRW6:=hide ((uh HE6).1.heap (uh HR) (uh HL))
    have hz:=uh HA4 (by simp) (by simp) (by simp)
    cases hz
    by_cases q0:E4 = 0
    ·subst q0
     obtain ⟨c0,c1,c2,c3,c4,c5,c6,c7,c8⟩:=xa3b (uh HRW6)
     obtain ⟨z3,z5,z6,z7,z8⟩:=rlfroz (uh HRW6)
     rw [uh HLL]
     go_wp2_with fail
     have hl6:l∉R6:=fun hm=>by
      rcases (uh HE6).2 l hm with h9 | h9
      ·exact uh HL h9
      ·have:=uh HLS; omega
     have kS:Kept [l] w6 _:=(((Kept.refl [l] w6).setCell (p:=⟨l,3,none⟩) (.inl (by simp)) (.int .u64 (n:Int))).setCell (p:=⟨l,6,none⟩) (.inl (by simp)) (.int .i64 48)).setCell (p:=⟨l,7,none⟩) (.inl (by simp)) (.bool false)
     have hfin:RBeg w _ l c R R6 nb bb (0,τ4) wd lim num ep nx n byt so st:=⟨((uh HD6).kept kS (fun x hx hm=>hl6 (by rw [← List.mem_singleton.1 hm]; exact hx))).more (by omega) (by omega),((uh HE6).1.mono (M:=l :: R) (fun x hx=>by simp [hx])).trans kS (fun x hx=>Or.inl (by rw [List.mem_singleton.1 hx]; simp)),(uh HE6).2,by rw [if_pos rfl]; exact xc1x (uh HRW6) n⟩
     go_ret
     first | exact ⟨R6,rfl,hfin⟩ | exact ⟨rfl,R6,hfin⟩
    ·have q0':((E4:Int) != 0) = true:=by rw [bne_iff_ne]; omega
     have HFI:=hide (RBeg.fail (n:=n) ((uh HD6).more (nb':=nb + 8) (bb':=bb + 48) (by omega) (by omega)) (uh HE6) q0 (uh HR) (uh HL))
     clear q0
     go_wp2_with fail
     go_ret
     first | exact ⟨R6,rfl,uh HFI⟩ | exact ⟨rfl,R6,uh HFI⟩
   ·have k0':((E3:Int) != 0) = true:=by rw [bne_iff_ne]; omega
    have hz:=uh HA3 (by simp) (by simp) k0
    cases hz
    have HFI:=hide (RBeg.fail (n:=n) ((uh HD5).more (nb':=nb + 8) (bb':=bb + 48) (by omega) (by omega)) (uh HE5) k0 (uh HR) (uh HL))
    clear k0
    go_wp2_with fail
    go_ret
    first | exact ⟨R5,rfl,uh HFI⟩ | exact ⟨rfl,R5,uh HFI⟩
  ·have g0':((E2:Int) != 0) = true:=by rw [bne_iff_ne]; omega
   have hz:=uh HA2 (by simp) g0
   cases hz
   have HFI:=hide (RBeg.fail (n:=n) ((uh HD4).more (nb':=nb + 8) (bb':=bb + 48) (by omega) (by omega)) (uh HE4) g0 (uh HR) (uh HL))
   clear g0
   go_wp2_with fail
   go_ret
   first | exact ⟨R4,rfl,uh HFI⟩ | exact ⟨rfl,R4,uh HFI⟩
 ·have h0':((E1:Int) != 0) = true:=by rw [bne_iff_ne]; omega
  have hz:=uh HA1 h0
  cases hz
  have HFI:=hide (RBeg.fail (n:=n) ((uh HD2).more (nb':=nb + 8) (bb':=bb + 48) (by omega) (by omega)) (uh HE2) h0 (uh HR) (uh HL))
  clear h0
  go_wp2_with fail
  go_ret
  first | exact ⟨R2,rfl,uh HFI⟩ | exact ⟨rfl,R2,uh HFI⟩
structure RL (w:World) (l c:Nat) (R:List Nat) (nb bb:Nat) (σ:DSt) (s:LSt):Prop where
 row:∃ num byt so,w.heap[l]? = some (.cells (rlC c s.wd s.lim num s.ep s.nx byt so s.st) 125 (0,0))∧num < 18446744073709551616∧(s.st = 0→num = s.num∧byt = (s.byt:Int)∧so = decide (0 < s.bt))
 rk:RK w c R nb bb σ
 nl:l∉R
 ep:s.ep < 18446744073709551616
 nx:s.nx < 18446744073709551616
 wd:wideB s.wd = true
structure DoR (w w':World) (c nb bb:Nat) (R R':List Nat) (A:OpA) (lp bv:Value) (ts:List (Nat × Value × List En)):Prop where
 rk:RK w' c R' (3 * nb + 8) (bb + 48) A.σ
 ev:Ev w w' R R'
 bs:A.bs = ts.map (fun t=>(t.1,t.2.2))
 ow:OwnX R' w w' bv ts
 no:A.l = none→lp = .pointer none
 so:∀ s,A.l = some s→∃ l,lp = .pointer (some ⟨l,0,none⟩)∧w.heap.size≤l∧RL w' l c R' (3 * nb + 8) (bb + 48) A.σ s∧OwnX (l :: R') w w' bv ts
def DoP (w:World) (c nb bb:Nat) (R:List Nat) (A:OpA) (e:Ending) (w':World):Prop:=∃ R' lp bv ts,e = .returned (.tuple #[lp,bv,.int .i64 (A.e:Nat)])∧DoR w w' c nb bb R R' A lp bv ts
theorem DoR.fail {w w':World} {c nb bb:Nat} {R R':List Nat} {e:Nat} {τ:DSt} (hd:RK w' c R' (3 * nb + 8) (bb + 48) τ) (ev:Ev w w' R R'):DoR w w' c nb bb R R' ⟨e,τ,none,[]⟩ (.pointer none) (.slice none 0 0) [] :=
 ⟨hd,ev,rfl,OwnX.none _ ev.1.size,fun _=>rfl,fun s h=>by cases h⟩
set_option maxHeartbeats 8000000 in
theorem xb4b (c nb bb:Nat) (wd lim:Int) (B:List Nat) (σ:DSt) (w:World) (hD:RK w c B nb bb σ) (hds:∀ f∈σ.A,isNm f.nm = true) (hn:nb≤200000000) (hb:bb≤90000000000) (hT:rdT σ (nmsOf σ)≤1000000000000) :
  Calls Tryz.prog 16 #[.pointer (some ⟨c,0,none⟩),.int .i64 wd,.int .i64 lim] w fun e w'=>DoP w c nb bb B (opD σ wd lim) e w':=by
 by_cases hag:argOk wd lim = true
 ·have h0:1≤wd∧wd≤32∧1≤lim∧lim≤1048576:=by simpa [argOk] using hag
  have hwb:wideB wd = true:=by unfold wideB; simp; omega
  have HWB:=hide hwb
  have HW:=hide (xa3q wd w)
  rw [hwb] at HW
  have c3:¬ lim < 1:=by omega
  have c4:¬ 1048576 < lim:=by omega
  obtain ⟨_,_,hof,_⟩:=hD.cells
  by_cases hoff:σ.off = true
  ·have hA:opD σ wd lim = ⟨12,σ,none,[]⟩:=by unfold opD; rw [hag,if_neg (by simp),if_pos hoff]
   rw [hA]
   rw [hoff] at hof
   have HDK:=hide (hD.more (nb':=3 * nb + 8) (bb':=bb + 48) (by omega) (by omega))
   clear hag h0 hoff hA hD hwb
   go_enter Tryz.func16,Tryz.ntmps16
   go_wp2_with fail
   refine Calls.mono (uh HW) ?_
   rintro e w' ⟨rfl,rfl⟩
   go_wp2_with fail
   refine bodyPost_ret (v:=.tuple #[.pointer none,.slice none 0 0,.int .i64 12]) (by rw [results_tmp3 rfl]; rfl) rfl ⟨B,_,_,[],rfl,DoR.fail (uh HDK) (Ev.refl _ _)⟩
  ·have hoff':σ.off = false:=by simpa using hoff
   have HA:=hide (opD_eq hag hoff')
   rw [hoff'] at hof
   have HDK:=hide hD
   have HFI:=hide (xb8f c nb bb wd B σ w hD hds (by omega) (by omega) hT)
   have HSG:=hide (fun f (h:findF σ wd fst0 (nmsOf σ) = some f)=>by
    have h9:=xa9o h
    refine ⟨Nat.le_trans h9.1 (by show 0 + _≤_; rw [Nat.zero_add]; exact Nat.le_trans (xb0p σ) hD.len),fun s hs=>?_⟩
    rcases h9.2 s hs with h8 | h8
    ·cases h8
    ·obtain ⟨q,hq,rfl⟩:=xb0z h8
     exact Nat.le_trans (Nat.le_of_eq (Array.length_toList)) (xa3n (hds q hq)).2:∀ f,findF σ wd fst0 (nmsOf σ) = some f→f.sg.length≤nb∧∀ s∈f.sg,s.length≤40)
   obtain ⟨R,hR⟩:∃ R,findF σ wd fst0 (nmsOf σ) = R:=⟨_,rfl⟩
   obtain ⟨A,hA⟩:∃ A,opD σ wd lim = A:=⟨_,rfl⟩
   rw [hR] at HFI HA
   rw [hA] at HA ⊢
   simp only [hR] at HSG
   clear hag h0 hoff hoff' hR hA hD hT hds hwb
   go_enter Tryz.func16,Tryz.ntmps16
   go_wp2_with fail
   refine Calls.mono (uh HW) ?_
   rintro e w' ⟨rfl,rfl⟩
   go_wp2_with fail
   refine Calls.mono (uh HFI) ?_
   rintro e w1 ⟨⟨rfl,f,sa,sl,sc,ba,bl,bc,rfl⟩ | ⟨f,sv,bv,ts,rfl,rfl,ho,hx,heq,hlast,hep,hsz⟩,k1⟩
   ·have hz:=uh HA
    simp only [opF2] at hz
    subst hz
    have kN:=k1.alloc (.cells #[.slice sa sl sc,.slice ba bl bc,.int .u64 (f.last:Int),.int .u64 (f.ep:Int),.int .u64 (f.sz:Int)] 120)
    have HFA:=hide (DoR.fail (e:=11) ((uh HDK).kept kN (by simp) |>.more (nb':=3 * nb + 8) (bb':=bb + 48) (by omega) (by omega)) (⟨kN.mono (by simp),fun x hx=>Or.inl hx⟩:Ev w' _ B B))
    clear k1 kN HFI HSG hof
    unfold rfC
    go_wp2_with fail
    refine bodyPost_ret (v:=.tuple #[.pointer none,.slice none 0 0,.int .i64 11]) (by rw [results_tmp3 rfl]; rfl) rfl ⟨B,_,_,[],rfl,uh HFA⟩
   ·have hz:=uh HA
    simp only [opF2] at hz
    obtain ⟨sa,sc,rfl⟩:=xa0t ho
    obtain ⟨ba,bc,rfl⟩:=hx.shape
    have kN:=(Kept.refl [] w1).alloc (.cells #[.slice sa f.sg.length sc,.slice ba ts.length bc,.int .u64 (f.last:Int),.int .u64 (f.ep:Int),.int .u64 (f.sz:Int)] 120)
    have hN:(w1.alloc (.cells #[.slice sa f.sg.length sc,.slice ba ts.length bc,.int .u64 (f.last:Int),.int .u64 (f.ep:Int),.int .u64 (f.sz:Int)] 120)).heap[w1.heap.size]? = some (.cells (rfC f (.slice sa f.sg.length sc) (.slice ba ts.length bc)) 120 (0,0)):=heap_alloc_new w1 (.cells #[.slice sa f.sg.length sc,.slice ba ts.length bc,.int .u64 (f.last:Int),.int .u64 (f.ep:Int),.int .u64 (f.sz:Int)] 120)
    have HK1:=hide (k1.trans kN (by simp))
    have HZ:=hide hz
    have HSZ1:=hide k1.size
    have HHX:=hide hx
    have HHQ:=hide heq
    have HSF:=hide ((uh HSG) f rfl)
    have HLA:=hide hlast
    have HEP:=hide hep
    have HSZ:=hide hsz
    have HN:=hide hN
    have HD2:=hide ((uh HDK).old (k1.trans kN (by simp)))
    have HRS:=hide ((xa3s ho).kept kN (by simp))
    have HBS:=hide (fun x (hx:x∈blk (.slice sa f.sg.length sc)) (hm:x∈B)=>by
     have h9:=(ho.lt x (xa3k ho hx)).1
     have:=(uh HDK).lt x hm
     omega:∀ x∈blk (.slice sa f.sg.length sc),x∉B)
    clear hz k1 kN hN hx ho heq hlast hep hsz HFI HSG HA hof
    unfold rfC
    go_upto_region 8 with fail
    obtain ⟨W2,hW2⟩:∃ W,w1.alloc (.cells #[.slice sa f.sg.length sc,.slice ba ts.length bc,.int .u64 (f.last:Int),.int .u64 (f.ep:Int),.int .u64 (f.sz:Int)] 120) = W:=⟨_,rfl⟩
    have HS2:=hide (by rw [← hW2]; simp:W2.heap.size = w1.heap.size + 1)
    rw [hW2] at HK1 HN HD2 HRS ⊢
    have HK12:=hide (by rw [← hW2]; exact (Kept.refl [] w1).alloc (.cells #[.slice sa f.sg.length sc,.slice ba ts.length bc,.int .u64 (f.last:Int),.int .u64 (f.ep:Int),.int .u64 (f.sz:Int)] 120):Kept [] w1 W2)
    clear hW2
    obtain ⟨⟨E3,τ3⟩,hR3⟩:∃ R,stSyncs σ f.sg = R:=⟨_,rfl⟩
    obtain ⟨⟨E5,τ5⟩,hR5⟩:∃ R,stBegin τ3 (f.last + 1) (f.ep + 1) f.sz wd = R:=⟨_,rfl⟩
    have HA1:=hide (fun (h0:E3≠0)=>(by rw [uh HZ]; unfold opOf; rw [hR3]; dsimp only; rw [if_pos h0]:A = ⟨E3,τ3,none,[]⟩))
    have HA2:=hide (fun (h0:E3 = 0) (h1:E5≠0)=>(by rw [uh HZ]; unfold opOf; rw [hR3]; dsimp only; rw [hR5]; dsimp only; rw [if_neg (by simpa using h0),if_pos h1]:A = ⟨E5,τ5,none,[]⟩))
    have HA3:=hide (fun (h0:E3 = 0) (h1:E5 = 0)=>(by rw [uh HZ]; unfold opOf; rw [hR3]; dsimp only; rw [hR5]; dsimp only; rw [if_neg (by simpa using h0),if_neg (by simpa using h1)]:A = ⟨0,τ5,some ⟨f.last + 1,f.ep + 1,f.sz,wd,48,0,lim,f.sz,0⟩,f.bs⟩))
    have HR3:=hide hR3
    have HR5:=hide hR5
    clear hR3 hR5 HZ
    obtain ⟨sa',sl',sc',hsv,g1,g2,g3,g4⟩:=uh HRS
    injection hsv with r1 r2 r3
    subst r1 r2 r3
    have H4:=hide g4
    clear g1 g4
    obtain ⟨e0,_⟩:=xa1g (uh HN)
    go_wp2_with fail
    clear e0
    obtain ⟨L,hL⟩:∃ L,f.sg = L:=⟨_,rfl⟩
    have HLB:=hide (uh HSF)
    rw [hL] at HLB HR3 H4 g2
    have HLE:=hide (by rw [hL]:f.sg.length = L.length)
    clear hL
    go_loopw [47] (fun t47 wr=>∃ (i:Nat) (Bi:List Nat) (τ:DSt),i≤L.length∧t47 = .int .i64 (i:Int)∧Hid (stSyncs τ (L.drop i) = (E3,τ3))∧Hid (RK wr c Bi (nb + 2 * i) bb τ)∧Hid (Ev W2 wr B Bi)) (fun t _=>L.length - (intOf t).toNat)
    case atStart=>exact ⟨0,B,σ,Nat.zero_le _,rfl,by rw [List.drop_zero]; exact HR3,HD2,hide (Ev.refl _ _)⟩
    case round =>
     obtain ⟨i,Bi,τ,hi,rfl,HT,HD,HE⟩:=hrel
     by_cases hlt:i < L.length
     ·have hlt':(i:Int) < f.sg.length:=by have:=uh HLE; omega
      obtain ⟨b,off,hao,hc⟩:=uh H4 (by omega)
      subst hao
      have q0:=(uh HE).1.cell (hc i hlt) (uh HBS b (by simp [blk]))
      have HSI:=hide ((uh HLB).2 L[i] (List.getElem_mem hlt))
      have HDR:=hide (List.drop_eq_getElem_cons hlt)
      generalize L[i] = s at q0 HSI HDR
      have hic:(i:Int) < sc:=by have:=uh HLE; omega
      rw [xa4t] at q0
      have ha1:IntKind.i64.wrap ((i:Int) + 1) = (i:Int) + 1:=by rw [IntKind.wrap_i64]; omega
      clear hc
      have HSY:=hide (xb1a c (nb + 2 * i) bb Bi τ (strU s) wr (uh HD) (by have:=(uh HLB).1; omega))
      obtain ⟨⟨E1,τ1⟩,hR1⟩:∃ R,stSync τ (strU s) = R:=⟨_,rfl⟩
      have HNN:=hide (fun (h0:E1≠0)=>(by have h9:=uh HT; rw [uh HDR] at h9; unfold stSyncs at h9; rw [hR1,if_pos h0] at h9; exact h9:(E1,τ1) = (E3,τ3)))
      have HY:=hide (fun (h0:E1 = 0)=>(by have h9:=uh HT; rw [uh HDR] at h9; unfold stSyncs at h9; rw [hR1,if_neg (by simpa using h0)] at h9; exact h9:stSyncs τ1 (L.drop (i + 1)) = (E3,τ3)))
      rw [hR1] at HSY
      clear hR1 HT HDR
      dsimp only at HSY
      go_wp2_with fail
      refine Calls.mono (uh HSY) ?_
      rintro e w3 ⟨rfl,B1,hd1,ev1⟩
      have HD1:=hide hd1
      have HE1:=hide ((uh HE).trans ev1)
      clear hd1 ev1 q0 HSY HD HE
      by_cases h0:E1 = 0
      ·subst h0
       have HT1:=hide (uh HY rfl)
       go_wp2_with fail
       go_roundw
       case rel=>exact ⟨i + 1,B1,τ1,by omega,by simp,HT1,hide (by rw [show nb + 2 * (i + 1) = nb + 2 * i + 2 by omega]; exact uh HD1),HE1⟩
       case measure=>simp [intOf]; omega
      ·have h0':((E1:Int) != 0) = true:=by rw [bne_iff_ne]; omega
       have hz:=uh HNN h0
       cases hz
       have hz:=uh HA1 h0
       subst hz
       have HFI:=hide (DoR.fail (e:=E3) ((uh HD1).more (nb':=3 * nb + 8) (bb':=bb + 48) (by have:=(uh HLB).1; omega) (by omega)) (Ev.pre (uh HK1) (uh HE1)))
       clear h0
       go_wp2_with fail
       refine bodyPost_ret (v:=.tuple #[.pointer none,.slice none 0 0,.int .i64 (E3:Int)]) (by rw [results_tmp3 rfl]; rfl) rfl ⟨B1,_,_,[],rfl,uh HFI⟩
     ·have hlt':¬ (i:Int) < f.sg.length:=by have:=uh HLE; omega
      have hie:i = L.length:=by omega
      subst hie
      have hz:=uh HT
      rw [List.drop_length] at hz
      unfold stSyncs at hz
      cases hz
      have HE3:=hide (Ev.pre (uh HK1) (uh HE))
      have HN3:=hide ((uh HE).1.heap (uh HN) (by intro hm; have:=(uh HDK).lt _ hm; have:=uh HSZ1; omega))
      have HS3:=hide (uh HE).1.size
      obtain ⟨e0,e1,e2,e3,e4⟩:=xa1g (uh HN3)
      have hw1:IntKind.u64.wrap ((f.last:Int) + 1) = ((f.last + 1:Nat):Int):=by rw [IntKind.wrap_u64]; have:=uh HLA; omega
      have hw2:IntKind.u64.wrap ((f.ep:Int) + 1) = ((f.ep + 1:Nat):Int):=by rw [IntKind.wrap_u64]; have:=uh HEP; omega
      have kC:=(Kept.refl [] wr).alloc (.cells (rlC c wd lim 0 (f.ep + 1) f.sz 0 false 0) 125)
      have hC:=heap_alloc_new wr (.cells (rlC c wd lim 0 (f.ep + 1) f.sz 0 false 0) 125)
      have HD4:=hide ((uh HD).old kC)
      have HN4:=hide (kC.heap (uh HN3) (by simp))
      have HKC:=hide kC
      have HC:=hide hC
      clear kC hC HT
      go_upto_region 18 with fail
      clear e0 e1 e2 e3 e4
      obtain ⟨W4,hW4⟩:∃ W,wr.alloc (.cells (rlC c wd lim 0 (f.ep + 1) f.sz 0 false 0) 125) = W:=⟨_,rfl⟩
      have HS4:=hide (by rw [← hW4]; simp:W4.heap.size = wr.heap.size + 1)
      rw [hW4] at HD4 HN4 HKC HC
      have hW5:wr.alloc (.cells #[.pointer (some ⟨c,0,none⟩),.int .i64 wd,.int .i64 lim,.int .u64 0,.int .u64 ((f.ep:Int) + 1),.int .u64 (f.sz:Int),.int .i64 0,.bool false,.int .i64 0] 125) = W4:=by rw [← hW4]; unfold rlC; push_cast; rfl
      rw [hW5]
      clear hW4 hW5
      have HBG:=hide (xb4p wr.heap.size c (nb + 2 * L.length) bb (f.last + 1) 0 (f.ep + 1) f.sz 0 wd lim 0 false Bi τ3 W4 (uh HC) (uh HD4) (fun hm=>by have:=(uh HD).lt _ hm; omega) (uh HWB) (by have:=uh HLA; omega) (by have:=uh HEP; omega) (uh HSZ) (by have:=(uh HLB).1; omega) (by omega))
      rw [uh HR5] at HBG
      obtain ⟨e0,e1,e2,e3,e4⟩:=xa1g (uh HN4)
      go_wp2_with fail
      refine Calls.mono (by have h9:=uh HBG; push_cast at h9; exact h9) ?_
      rintro e w5 ⟨B5,rfl,hbg⟩
      clear e0 e1 e2 e3 e4 hw1 hw2
      have HSB:=hide (uh HLB).1
      have HD5:=hide (hbg.rk.more (nb':=3 * nb + 8) (bb':=bb + 48) (by have:=uh HSB; omega) (by omega))
      have HR5':=hide hbg.row
      have k5:=hbg.kp
      have hb5:=hbg.nw
      have HN5:=hide (k5.heap (uh HN4) (by
       intro hm
       rcases List.mem_cons.1 hm with h9 | h9
       ·have:=uh HS3
        have:=uh HS2
        omega
       ·have h8:=(uh HD).lt _ h9
        rcases (uh HE).2 _ h9 with h7 | h7
        ·have:=(uh HDK).lt _ h7
         have:=uh HSZ1
         omega
        ·have:=uh HS2
         omega))
      have k35:Kept (wr.heap.size :: Bi) wr w5:=((uh HKC).mono (M:=wr.heap.size :: Bi) (by simp)).trans k5 (fun x hx=>Or.inl hx)
      have hE5:Ev w' w5 B B5:=⟨(uh HE3).1.trans k35 (fun x hx=>by
       rcases List.mem_cons.1 hx with rfl | hx
       ·exact Or.inr (uh HE3).1.size
       ·exact (uh HE3).2 x hx),fun x hx=>by
       rcases hb5 x hx with h9 | h9
       ·exact (uh HE3).2 x h9
       ·exact Or.inr (by have:=(uh HE3).1.size; have:=(uh HKC).size; omega)⟩
      have HE5:=hide hE5
      have HQ5:=hide (fun x hx=>by
       rcases hb5 x hx with h9 | h9
       ·rcases (uh HE).2 x h9 with h8 | h8
        ·exact Or.inl ((uh HDK).lt x h8)
        ·exact Or.inr (by have:=uh HS2; omega)
       ·exact Or.inr (by have:=uh HS4; have:=uh HS3; have:=uh HS2; omega):∀ x∈B5,x < w'.heap.size∨w1.heap.size≤x)
      have HKX:=hide (((uh HK12).mono (M:=wr.heap.size :: (Bi++B)) (by simp)).trans (((uh HE).1.mono (M:=wr.heap.size :: (Bi++B)) (fun x hx=>by simp [hx])).trans (k35.mono (M:=wr.heap.size :: (Bi++B)) (fun x hx=>by
       rcases List.mem_cons.1 hx with rfl | hx
       ·simp
       ·simp [hx])) (fun x hx=>Or.inl hx)) (fun x hx=>Or.inl hx):Kept (wr.heap.size :: (Bi++B)) w1 w5)
      have HMX:=hide (fun x hx=>by
       rcases List.mem_cons.1 hx with rfl | hx
       ·exact Or.inr (by have:=uh HS3; have:=uh HS2; omega)
       ·rcases List.mem_append.1 hx with hx | hx
        ·rcases (uh HE).2 x hx with h8 | h8
         ·exact Or.inl ((uh HDK).lt x h8)
         ·exact Or.inr (by have:=uh HS2; omega)
        ·exact Or.inl ((uh HDK).lt x hx):∀ x∈wr.heap.size :: (Bi++B),x < w'.heap.size∨w1.heap.size≤x)
      have HLN:=hide (fun hm=>by
       rcases hb5 _ hm with h9 | h9
       ·have:=(uh HD).lt _ h9; omega
       ·have:=uh HS4; omega:wr.heap.size∉B5)
      have HLW:=hide (uh HE3).1.size
      clear hbg k5 hb5 HBG HD4 HN4 HKC HC k35 hE5
      by_cases h5:E5 = 0
      ·subst h5
       have hz:=uh HA3 (by simp) (by simp)
       subst hz
       rw [if_pos rfl] at HR5'
       obtain ⟨e0,e1,e2,e3,e4⟩:=xa1g (uh HN5)
       go_upto_region 21 with fail
       refine wp_region_quiet_lit (by kernel_rfl) (by kernel_rfl) ?_
       repeat (go_big_quiet_step (fail))
       refine wpQuiet_nil ?_
       rintro _ ⟨m5,rfl⟩
       clear e0 e1 e2 e3 e4
       have k6:Kept [] w5 (w5.drewN m5):=(Kept.refl [] w5).drewN m5
       have hdk:=(uh HD5).old k6
       have HFN:=hide (⟨hdk,⟨(uh HE5).1.trans k6 (by simp),(uh HE5).2⟩,(uh HHQ),(uh HHX).re ((uh HKX).trans k6 (by simp)) (uh HMX) (uh HQ5),(fun h=>(by cases h)),fun s hs=>by
        cases hs
        exact ⟨wr.heap.size,rfl,uh HLW,⟨⟨f.last + 1,48,false,k6.heap (uh HR5') (by simp),by have:=uh HLA; omega,fun _=>⟨rfl,rfl,rfl⟩⟩,hdk,uh HLN,by have:=uh HEP; show f.ep + 1 < _; omega,uh HSZ,uh HWB⟩,(uh HHX).re ((uh HKX).trans k6 (by simp)) (uh HMX) (fun x hx=>by
         rcases List.mem_cons.1 hx with rfl | hx
         ·exact Or.inr (by have:=uh HS3; have:=uh HS2; omega)
         ·exact uh HQ5 x hx)⟩⟩:DoR w' (w5.drewN m5) c nb bb B B5 ⟨0,τ5,some ⟨f.last + 1,f.ep + 1,f.sz,wd,48,0,lim,f.sz,0⟩,f.bs⟩ (.pointer (some ⟨wr.heap.size,0,none⟩)) (.slice ba ts.length bc) ts)
       clear hdk k6
       go_wp2_with fail
       refine bodyPost_ret (v:=.tuple #[.pointer (some ⟨wr.heap.size,0,none⟩),.slice ba ts.length bc,.int .i64 0]) (by rw [results_tmp3 rfl]; rfl) rfl ⟨B5,_,_,ts,rfl,uh HFN⟩
      ·have h5':((E5:Int) != 0) = true:=by rw [bne_iff_ne]; omega
       have hz:=uh HA2 (by simp) h5
       subst hz
       clear h5
       go_wp2_with fail
       refine bodyPost_ret (v:=.tuple #[.pointer none,.slice none 0 0,.int .i64 (E5:Int)]) (by rw [results_tmp3 rfl]; rfl) rfl ⟨B5,_,_,[],rfl,DoR.fail (uh HD5) (uh HE5)⟩
 ·have hag':argOk wd lim = false:=by simpa using hag
  have hA:opD σ wd lim = ⟨1,σ,none,[]⟩:=by unfold opD; rw [if_pos hag']
  rw [hA]
  refine Calls.mono (xa8c _ (Or.inr ⟨c,rfl⟩) wd lim w hag') ?_
  rintro e w' ⟨rfl,rfl⟩
  exact ⟨B,_,_,[],rfl,DoR.fail (hD.more (by omega) (by omega)) (Ev.refl _ _)⟩
set_option maxHeartbeats 2000000 in
theorem xa8h (u v:Value) (ts ss:List (DF × Value)) (w:World) (hu:RdFl w u ts) (hv:RdFl w v ss) (he:ts.map Prod.fst = ss.map Prod.fst) (hl:ts.length≤1000000000) :
  Calls Tryz.prog 54 #[u,v] w fun e w'=>e = .returned (.bool true)∧Kept [] w w':=by
 obtain ⟨⟨ao,len,cap,rfl,h1,h2,h3,h4⟩,h5⟩:=hu
 obtain ⟨⟨bo,len',cap',rfl,g1,g2,g3,g4⟩,g5⟩:=hv
 rw [List.length_map] at h1 g1
 have hle:ts.length = ss.length:=by have:=congrArg List.length he; simpa using this
 have hl2:len = len':=by omega
 subst h1 hl2
 have H4:=hide h4
 have G4:=hide g4
 have H5:=hide h5
 have G5:=hide g5
 have HE:=hide he
 have HLE:=hide hle
 clear h4 g4 h5 g5 he hle g1
 go_enter Tryz.func54,Tryz.ntmps54
 go_wp2_with fail
 go_loopw [13] (fun t13 wr=>∃ k n:Nat,k≤ts.length∧t13 = .int .i64 k∧Hid (wr = w.drewN n)) (fun t _=>ts.length - (intOf t).toNat)
 case atStart=>exact ⟨0,0,Nat.zero_le _,rfl,hide rfl⟩
 case round =>
  obtain ⟨k,n,hk,rfl,HW⟩:=hrel
  by_cases hlt:k < ts.length
  ·have hltq:k < ss.length:=by have:=uh HLE; omega
   have e3:(k:Int) < (ts.length:Int):=by omega
   obtain ⟨b,off,rfl,hc⟩:=uh H4 (by omega)
   obtain ⟨b',off',rfl,hc'⟩:=uh G4 (by omega)
   have hr:=hc k (by rw [List.length_map]; exact hlt)
   have hr':=hc' k (by rw [List.length_map]; exact hltq)
   rw [List.getElem_map] at hr hr'
   have hx:ts[k].1 = ss[k].1:=by
    have h9:=congrArg (fun l=>l[k]?) (uh HE)
    simpa [List.getElem?_eq_getElem hlt,List.getElem?_eq_getElem hltq] using h9
   have hw:=uh HW
   have a0:wr.cell? ⟨b,off + k * 4,none⟩ = some (.string ts[k].1.nm):=by rw [hw]; exact hr 0 _ rfl
   have a1:wr.cell? ⟨b,off + k * 4 + 1,none⟩ = some (ts[k].2):=by rw [hw]; exact hr 1 _ rfl
   have a2:wr.cell? ⟨b,off + k * 4 + 2,none⟩ = some (.int .i64 (ts[k].1.sy:Int)):=by rw [hw]; exact hr 2 _ rfl
   have a3:wr.cell? ⟨b,off + k * 4 + 3,none⟩ = some (.bool ts[k].1.nd):=by rw [hw]; exact hr 3 _ rfl
   have b0:wr.cell? ⟨b',off' + k * 4,none⟩ = some (.string ss[k].1.nm):=by rw [hw]; exact hr' 0 _ rfl
   have b1:wr.cell? ⟨b',off' + k * 4 + 1,none⟩ = some (ss[k].2):=by rw [hw]; exact hr' 1 _ rfl
   have b2:wr.cell? ⟨b',off' + k * 4 + 2,none⟩ = some (.int .i64 (ss[k].1.sy:Int)):=by rw [hw]; exact hr' 2 _ rfl
   have b3:wr.cell? ⟨b',off' + k * 4 + 3,none⟩ = some (.bool ss[k].1.nd):=by rw [hw]; exact hr' 3 _ rfl
   have hrd:=uh H5 ts[k] (List.getElem_mem hlt)
   have hrd':=uh G5 ss[k] (List.getElem_mem hltq)
   rw [← hx] at b0 b2 b3 hrd'
   have HSM:=hide (fun j:Nat=>by
    have h9:=xa4z ts[k].2 ss[k].2 ts[k].1.bs ts[k].1.bs (wr.drewN j) (by rw [hw]; exact (hrd.kept ((Kept.refl [] w).drewN n) (by simp)).kept ((Kept.refl [] _).drewN j) (by simp)) (by rw [hw]; exact (hrd'.kept ((Kept.refl [] w).drewN n) (by simp)).kept ((Kept.refl [] _).drewN j) (by simp))
    rw [decide_eq_true rfl] at h9
    exact h9:∀ j:Nat,Calls Tryz.prog 103 #[ts[k].2,ss[k].2] (wr.drewN j) fun e w'=>e = .returned (.bool true)∧∃ n,w' = (wr.drewN j).drewN n)
   clear hr hr' hc hc' hrd hrd' hx hw
   generalize ts[k].2 = x1 at a1 HSM
   generalize ss[k].2 = x2 at b1 HSM
   generalize ts[k].1 = X at a0 a2 a3 b0 b2 b3
   have HH:=hide (And.intro h2 g2)
   clear h2 g2 hltq
   go_upto_region 6 with fail
   refine wp_region_quiet_lit (by kernel_rfl) (by kernel_rfl) ?_
   repeat (go_big_quiet_step (exact Calls.mono (uh HSM _) (fun e x h=>⟨h.1,by obtain ⟨m,hm⟩:=h.2; exact ⟨_,by rw [hm,xa0g]⟩⟩)))
   refine wpQuiet_nil ?_
   rintro _ ⟨n5,rfl⟩
   clear a0 a1 a2 a3 b0 b1 b2 b3
   go_wp2_with fail
   refine ⟨⟨k + 1,n + n5,by omega,by simp,hide (by rw [uh HW,xa0g])⟩,?_⟩
   simp [intOf]; omega
  ·have e3:¬ (k:Int) < (ts.length:Int):=by omega
   go_wp2_with fail
   go_ret
   exact ⟨rfl,by rw [uh HW]; exact (Kept.refl [] w).drewN n⟩
end
section
open Go Go.RowKit Go.BigFrame
section
variable {P:Program} {Q:Exit→Act→World→Prop}
end
end
section
open Go.RowKit Go.BigFrame Go.Maps Go.Sort

end
section
open Go Go.RowKit Go.BigFrame
section
variable {P:Program} {Q:Exit→Act→World→Prop}
theorem xc1y {id:Nat} {o0 o1 o2 o3 o4 o5 o6 o7 o8 o9 o10 o11 o12 o13 o14 o15 o16 o17 o18 o19 o20 o21 o22 o23:Oper} {a:Act} {w:World} (hm:P.follows .mixedOrders = true) (hs:Region.noSelect #[o0,o1,o2,o3,o4,o5,o6,o7,o8,o9,o10,o11,o12,o13,o14,o15,o16,o17,o18,o19,o20,o21,o22,o23] = true)
  (f0:Region.free .any #[o0,o1,o2,o3,o4,o5,o6,o7,o8,o9,o10,o11,o12,o13,o14,o15,o16,o17,o18,o19,o20,o21,o22,o23] #[false,false,false,false,false,false,false,false,false,false,false,false,false,false,false,false,false,false,false,false,false,false,false,false] 0 = true) (r0:(Region.ready .any #[o0,o1,o2,o3,o4,o5,o6,o7,o8,o9,o10,o11,o12,o13,o14,o15,o16,o17,o18,o19,o20,o21,o22,o23] #[false,false,false,false,false,false,false,false,false,false,false,false,false,false,false,false,false,false,false,false,false,false,false,false]).contains 0 = true)
  (f2:Region.free .any #[o0,o1,o2,o3,o4,o5,o6,o7,o8,o9,o10,o11,o12,o13,o14,o15,o16,o17,o18,o19,o20,o21,o22,o23] #[true,false,false,false,false,false,false,false,false,false,false,false,false,false,false,false,false,false,false,false,false,false,false,false] 2 = true) (r2:(Region.ready .any #[o0,o1,o2,o3,o4,o5,o6,o7,o8,o9,o10,o11,o12,o13,o14,o15,o16,o17,o18,o19,o20,o21,o22,o23] #[true,false,false,false,false,false,false,false,false,false,false,false,false,false,false,false,false,false,false,false,false,false,false,false]).contains 2 = true)
  (q_:Region.ready .any #[o0,o1,o2,o3,o4,o5,o6,o7,o8,o9,o10,o11,o12,o13,o14,o15,o16,o17,o18,o19,o20,o21,o22,o23] #[true,false,true,false,false,false,false,false,false,false,false,false,false,false,false,false,false,false,false,false,false,false,false,false] = [1])
  (q1_:Region.ready .any #[o0,o1,o2,o3,o4,o5,o6,o7,o8,o9,o10,o11,o12,o13,o14,o15,o16,o17,o18,o19,o20,o21,o22,o23] #[true,true,true,false,false,false,false,false,false,false,false,false,false,false,false,false,false,false,false,false,false,false,false,false] = [3])
  (q1_3_:Region.ready .any #[o0,o1,o2,o3,o4,o5,o6,o7,o8,o9,o10,o11,o12,o13,o14,o15,o16,o17,o18,o19,o20,o21,o22,o23] #[true,true,true,true,false,false,false,false,false,false,false,false,false,false,false,false,false,false,false,false,false,false,false,false] = [4])
  (f1_3_4_5:Region.free .any #[o0,o1,o2,o3,o4,o5,o6,o7,o8,o9,o10,o11,o12,o13,o14,o15,o16,o17,o18,o19,o20,o21,o22,o23] #[true,true,true,true,true,false,false,false,false,false,false,false,false,false,false,false,false,false,false,false,false,false,false,false] 5 = true) (r1_3_4_5:(Region.ready .any #[o0,o1,o2,o3,o4,o5,o6,o7,o8,o9,o10,o11,o12,o13,o14,o15,o16,o17,o18,o19,o20,o21,o22,o23] #[true,true,true,true,true,false,false,false,false,false,false,false,false,false,false,false,false,false,false,false,false,false,false,false]).contains 5 = true)
  (f1_3_4_6:Region.free .any #[o0,o1,o2,o3,o4,o5,o6,o7,o8,o9,o10,o11,o12,o13,o14,o15,o16,o17,o18,o19,o20,o21,o22,o23] #[true,true,true,true,true,true,false,false,false,false,false,false,false,false,false,false,false,false,false,false,false,false,false,false] 6 = true) (r1_3_4_6:(Region.ready .any #[o0,o1,o2,o3,o4,o5,o6,o7,o8,o9,o10,o11,o12,o13,o14,o15,o16,o17,o18,o19,o20,o21,o22,o23] #[true,true,true,true,true,true,false,false,false,false,false,false,false,false,false,false,false,false,false,false,false,false,false,false]).contains 6 = true)
  (f1_3_4_7:Region.free .any #[o0,o1,o2,o3,o4,o5,o6,o7,o8,o9,o10,o11,o12,o13,o14,o15,o16,o17,o18,o19,o20,o21,o22,o23] #[true,true,true,true,true,true,true,false,false,false,false,false,false,false,false,false,false,false,false,false,false,false,false,false] 7 = true) (r1_3_4_7:(Region.ready .any #[o0,o1,o2,o3,o4,o5,o6,o7,o8,o9,o10,o11,o12,o13,o14,o15,o16,o17,o18,o19,o20,o21,o22,o23] #[true,true,true,true,true,true,true,false,false,false,false,false,false,false,false,false,false,false,false,false,false,false,false,false]).contains 7 = true)
  (f1_3_4_9:Region.free .any #[o0,o1,o2,o3,o4,o5,o6,o7,o8,o9,o10,o11,o12,o13,o14,o15,o16,o17,o18,o19,o20,o21,o22,o23] #[true,true,true,true,true,true,true,true,false,false,false,false,false,false,false,false,false,false,false,false,false,false,false,false] 9 = true) (r1_3_4_9:(Region.ready .any #[o0,o1,o2,o3,o4,o5,o6,o7,o8,o9,o10,o11,o12,o13,o14,o15,o16,o17,o18,o19,o20,o21,o22,o23] #[true,true,true,true,true,true,true,true,false,false,false,false,false,false,false,false,false,false,false,false,false,false,false,false]).contains 9 = true)
  (f1_3_4_10:Region.free .any #[o0,o1,o2,o3,o4,o5,o6,o7,o8,o9,o10,o11,o12,o13,o14,o15,o16,o17,o18,o19,o20,o21,o22,o23] #[true,true,true,true,true,true,true,true,false,true,false,false,false,false,false,false,false,false,false,false,false,false,false,false] 10 = true) (r1_3_4_10:(Region.ready .any #[o0,o1,o2,o3,o4,o5,o6,o7,o8,o9,o10,o11,o12,o13,o14,o15,o16,o17,o18,o19,o20,o21,o22,o23] #[true,true,true,true,true,true,true,true,false,true,false,false,false,false,false,false,false,false,false,false,false,false,false,false]).contains 10 = true)
  (f1_3_4_11:Region.free .any #[o0,o1,o2,o3,o4,o5,o6,o7,o8,o9,o10,o11,o12,o13,o14,o15,o16,o17,o18,o19,o20,o21,o22,o23] #[true,true,true,true,true,true,true,true,false,true,true,false,false,false,false,false,false,false,false,false,false,false,false,false] 11 = true) (r1_3_4_11:(Region.ready .any #[o0,o1,o2,o3,o4,o5,o6,o7,o8,o9,o10,o11,o12,o13,o14,o15,o16,o17,o18,o19,o20,o21,o22,o23] #[true,true,true,true,true,true,true,true,false,true,true,false,false,false,false,false,false,false,false,false,false,false,false,false]).contains 11 = true)
  (f1_3_4_12:Region.free .any #[o0,o1,o2,o3,o4,o5,o6,o7,o8,o9,o10,o11,o12,o13,o14,o15,o16,o17,o18,o19,o20,o21,o22,o23] #[true,true,true,true,true,true,true,true,false,true,true,true,false,false,false,false,false,false,false,false,false,false,false,false] 12 = true) (r1_3_4_12:(Region.ready .any #[o0,o1,o2,o3,o4,o5,o6,o7,o8,o9,o10,o11,o12,o13,o14,o15,o16,o17,o18,o19,o20,o21,o22,o23] #[true,true,true,true,true,true,true,true,false,true,true,true,false,false,false,false,false,false,false,false,false,false,false,false]).contains 12 = true)
  (q1_3_4_:Region.ready .any #[o0,o1,o2,o3,o4,o5,o6,o7,o8,o9,o10,o11,o12,o13,o14,o15,o16,o17,o18,o19,o20,o21,o22,o23] #[true,true,true,true,true,true,true,true,false,true,true,true,true,false,false,false,false,false,false,false,false,false,false,false] = [8])
  (f1_3_4_8_13:Region.free .any #[o0,o1,o2,o3,o4,o5,o6,o7,o8,o9,o10,o11,o12,o13,o14,o15,o16,o17,o18,o19,o20,o21,o22,o23] #[true,true,true,true,true,true,true,true,true,true,true,true,true,false,false,false,false,false,false,false,false,false,false,false] 13 = true) (r1_3_4_8_13:(Region.ready .any #[o0,o1,o2,o3,o4,o5,o6,o7,o8,o9,o10,o11,o12,o13,o14,o15,o16,o17,o18,o19,o20,o21,o22,o23] #[true,true,true,true,true,true,true,true,true,true,true,true,true,false,false,false,false,false,false,false,false,false,false,false]).contains 13 = true)
  (f1_3_4_8_14:Region.free .any #[o0,o1,o2,o3,o4,o5,o6,o7,o8,o9,o10,o11,o12,o13,o14,o15,o16,o17,o18,o19,o20,o21,o22,o23] #[true,true,true,true,true,true,true,true,true,true,true,true,true,true,false,false,false,false,false,false,false,false,false,false] 14 = true) (r1_3_4_8_14:(Region.ready .any #[o0,o1,o2,o3,o4,o5,o6,o7,o8,o9,o10,o11,o12,o13,o14,o15,o16,o17,o18,o19,o20,o21,o22,o23] #[true,true,true,true,true,true,true,true,true,true,true,true,true,true,false,false,false,false,false,false,false,false,false,false]).contains 14 = true)
  (f1_3_4_8_15:Region.free .any #[o0,o1,o2,o3,o4,o5,o6,o7,o8,o9,o10,o11,o12,o13,o14,o15,o16,o17,o18,o19,o20,o21,o22,o23] #[true,true,true,true,true,true,true,true,true,true,true,true,true,true,true,false,false,false,false,false,false,false,false,false] 15 = true) (r1_3_4_8_15:(Region.ready .any #[o0,o1,o2,o3,o4,o5,o6,o7,o8,o9,o10,o11,o12,o13,o14,o15,o16,o17,o18,o19,o20,o21,o22,o23] #[true,true,true,true,true,true,true,true,true,true,true,true,true,true,true,false,false,false,false,false,false,false,false,false]).contains 15 = true)
  (f1_3_4_8_16:Region.free .any #[o0,o1,o2,o3,o4,o5,o6,o7,o8,o9,o10,o11,o12,o13,o14,o15,o16,o17,o18,o19,o20,o21,o22,o23] #[true,true,true,true,true,true,true,true,true,true,true,true,true,true,true,true,false,false,false,false,false,false,false,false] 16 = true) (r1_3_4_8_16:(Region.ready .any #[o0,o1,o2,o3,o4,o5,o6,o7,o8,o9,o10,o11,o12,o13,o14,o15,o16,o17,o18,o19,o20,o21,o22,o23] #[true,true,true,true,true,true,true,true,true,true,true,true,true,true,true,true,false,false,false,false,false,false,false,false]).contains 16 = true)
  (f1_3_4_8_18:Region.free .any #[o0,o1,o2,o3,o4,o5,o6,o7,o8,o9,o10,o11,o12,o13,o14,o15,o16,o17,o18,o19,o20,o21,o22,o23] #[true,true,true,true,true,true,true,true,true,true,true,true,true,true,true,true,true,false,false,false,false,false,false,false] 18 = true) (r1_3_4_8_18:(Region.ready .any #[o0,o1,o2,o3,o4,o5,o6,o7,o8,o9,o10,o11,o12,o13,o14,o15,o16,o17,o18,o19,o20,o21,o22,o23] #[true,true,true,true,true,true,true,true,true,true,true,true,true,true,true,true,true,false,false,false,false,false,false,false]).contains 18 = true)
  (f1_3_4_8_19:Region.free .any #[o0,o1,o2,o3,o4,o5,o6,o7,o8,o9,o10,o11,o12,o13,o14,o15,o16,o17,o18,o19,o20,o21,o22,o23] #[true,true,true,true,true,true,true,true,true,true,true,true,true,true,true,true,true,false,true,false,false,false,false,false] 19 = true) (r1_3_4_8_19:(Region.ready .any #[o0,o1,o2,o3,o4,o5,o6,o7,o8,o9,o10,o11,o12,o13,o14,o15,o16,o17,o18,o19,o20,o21,o22,o23] #[true,true,true,true,true,true,true,true,true,true,true,true,true,true,true,true,true,false,true,false,false,false,false,false]).contains 19 = true)
  (f1_3_4_8_20:Region.free .any #[o0,o1,o2,o3,o4,o5,o6,o7,o8,o9,o10,o11,o12,o13,o14,o15,o16,o17,o18,o19,o20,o21,o22,o23] #[true,true,true,true,true,true,true,true,true,true,true,true,true,true,true,true,true,false,true,true,false,false,false,false] 20 = true) (r1_3_4_8_20:(Region.ready .any #[o0,o1,o2,o3,o4,o5,o6,o7,o8,o9,o10,o11,o12,o13,o14,o15,o16,o17,o18,o19,o20,o21,o22,o23] #[true,true,true,true,true,true,true,true,true,true,true,true,true,true,true,true,true,false,true,true,false,false,false,false]).contains 20 = true)
  (f1_3_4_8_21:Region.free .any #[o0,o1,o2,o3,o4,o5,o6,o7,o8,o9,o10,o11,o12,o13,o14,o15,o16,o17,o18,o19,o20,o21,o22,o23] #[true,true,true,true,true,true,true,true,true,true,true,true,true,true,true,true,true,false,true,true,true,false,false,false] 21 = true) (r1_3_4_8_21:(Region.ready .any #[o0,o1,o2,o3,o4,o5,o6,o7,o8,o9,o10,o11,o12,o13,o14,o15,o16,o17,o18,o19,o20,o21,o22,o23] #[true,true,true,true,true,true,true,true,true,true,true,true,true,true,true,true,true,false,true,true,true,false,false,false]).contains 21 = true)
  (q1_3_4_8_:Region.ready .any #[o0,o1,o2,o3,o4,o5,o6,o7,o8,o9,o10,o11,o12,o13,o14,o15,o16,o17,o18,o19,o20,o21,o22,o23] #[true,true,true,true,true,true,true,true,true,true,true,true,true,true,true,true,true,false,true,true,true,true,false,false] = [17])
  (f1_3_4_8_17_22:Region.free .any #[o0,o1,o2,o3,o4,o5,o6,o7,o8,o9,o10,o11,o12,o13,o14,o15,o16,o17,o18,o19,o20,o21,o22,o23] #[true,true,true,true,true,true,true,true,true,true,true,true,true,true,true,true,true,true,true,true,true,true,false,false] 22 = true) (r1_3_4_8_17_22:(Region.ready .any #[o0,o1,o2,o3,o4,o5,o6,o7,o8,o9,o10,o11,o12,o13,o14,o15,o16,o17,o18,o19,o20,o21,o22,o23] #[true,true,true,true,true,true,true,true,true,true,true,true,true,true,true,true,true,true,true,true,true,true,false,false]).contains 22 = true)
  (f1_3_4_8_17_23:Region.free .any #[o0,o1,o2,o3,o4,o5,o6,o7,o8,o9,o10,o11,o12,o13,o14,o15,o16,o17,o18,o19,o20,o21,o22,o23] #[true,true,true,true,true,true,true,true,true,true,true,true,true,true,true,true,true,true,true,true,true,true,true,false] 23 = true) (r1_3_4_8_17_23:(Region.ready .any #[o0,o1,o2,o3,o4,o5,o6,o7,o8,o9,o10,o11,o12,o13,o14,o15,o16,o17,o18,o19,o20,o21,o22,o23] #[true,true,true,true,true,true,true,true,true,true,true,true,true,true,true,true,true,true,true,true,true,true,true,false]).contains 23 = true)
  (q1_3_4_8_17_:Region.ready .any #[o0,o1,o2,o3,o4,o5,o6,o7,o8,o9,o10,o11,o12,o13,o14,o15,o16,o17,o18,o19,o20,o21,o22,o23] #[true,true,true,true,true,true,true,true,true,true,true,true,true,true,true,true,true,true,true,true,true,true,true,true] = [])
  (g1:o1.guard = none)    (g3:o3.guard = none)    (g4:o4.guard = none)
  (ne12_8:∀ d,o12.dst = some d→o8.dst≠some d)
  (ne11_8:∀ d,o11.dst = some d→o8.dst≠some d)
  (ne10_8:∀ d,o10.dst = some d→o8.dst≠some d)
  (ne9_8:∀ d,o9.dst = some d→o8.dst≠some d)
  (ne21_17:∀ d,o21.dst = some d→o17.dst≠some d)
  (ne20_17:∀ d,o20.dst = some d→o17.dst≠some d)
  (ne19_17:∀ d,o19.dst = some d→o17.dst≠some d)
  (ne18_17:∀ d,o18.dst = some d→o17.dst≠some d)
  (v0 v2:Value) (A0 A1:Act)
  (S:World→Prop)
  (I_:World→Prop)
  (I1_:Value→World→Prop)
  (I1_3_:Value→Value→World→Prop)
  (I1_3_4_:Value→Value→Value→World→Prop)
  (I1_3_4_8_:Value→Value→Value→Value→World→Prop)
  (I1_3_4_8_17_:Value→Value→Value→Value→Value→World→Prop)
  (v5:Value→Value)
  (v6:Value→Value)
  (v7:Value→Value)
  (v9:Value→Value)
  (v10:Value→Value)
  (v11:Value→Value)
  (v12:Value→Value)
  (v13:Value→Value)
  (v14:Value→Value)
  (v15:Value→Value)
  (v16:Value→Value)
  (v18:Value→Value)
  (v19:Value→Value)
  (v20:Value→Value)
  (v21:Value→Value)
  (v22:Value→Value)
  (v23:Value→Value)
  (p0:a.put o0.dst v0 = A0) (hy0:YieldsIf P #[o0,o1,o2,o3,o4,o5,o6,o7,o8,o9,o10,o11,o12,o13,o14,o15,o16,o17,o18,o19,o20,o21,o22,o23] S o0 v0 a)
  (p2:A0.put o2.dst v2 = A1) (hy2:YieldsIf P #[o0,o1,o2,o3,o4,o5,o6,o7,o8,o9,o10,o11,o12,o13,o14,o15,o16,o17,o18,o19,o20,o21,o22,o23] S o2 v2 A0)
  (i0:I_ w.drew)
  (hIS:(∀ w',I_  w'→S w')∧(∀ (u1:Value) w',I1_ u1 w'→S w')∧(∀ (u1 u3:Value) w',I1_3_ u1 u3 w'→S w')∧(∀ (u1 u3 u4:Value) w',I1_3_4_ u1 u3 u4 w'→S w')∧(∀ (u1 u3 u4 u8:Value) w',I1_3_4_8_ u1 u3 u4 u8 w'→S w')∧(∀ (u1 u3 u4 u8 u17:Value) w',I1_3_4_8_17_ u1 u3 u4 u8 u17 w'→S w'))
  (wg1_3_4_8:∀ (u1 u3 u4:Value),Region.wanted o8 (yielded #[o0,o1,o2,o3,o4,o5,o6,o7,o8,o9,o10,o11,o12,o13,o14,o15,o16,o17,o18,o19,o20,o21,o22,o23] ((((((((((A1.put o1.dst u1).put o3.dst u3).put o4.dst u4).put o5.dst (v5 u4)).put o6.dst (v6 u4)).put o7.dst (v7 u4)).put o9.dst (v9 u4)).put o10.dst (v10 u4)).put o11.dst (v11 u4)).put o12.dst (v12 u4)).tmps) = true)
  (wg1_3_4_8_17:∀ (u1 u3 u4 u8:Value),Region.wanted o17 (yielded #[o0,o1,o2,o3,o4,o5,o6,o7,o8,o9,o10,o11,o12,o13,o14,o15,o16,o17,o18,o19,o20,o21,o22,o23] (((((((((((((((((((A1.put o1.dst u1).put o3.dst u3).put o4.dst u4).put o5.dst (v5 u4)).put o6.dst (v6 u4)).put o7.dst (v7 u4)).put o8.dst u8).put o9.dst (v9 u4)).put o10.dst (v10 u4)).put o11.dst (v11 u4)).put o12.dst (v12 u4)).put o13.dst (v13 u8)).put o14.dst (v14 u8)).put o15.dst (v15 u8)).put o16.dst (v16 u8)).put o18.dst (v18 u8)).put o19.dst (v19 u8)).put o20.dst (v20 u8)).put o21.dst (v21 u8)).tmps) = true)
  (s_1:∀ w',I_  w'→∀ K:Act→World→Prop,(∀ (u1:Value) w2,I1_ u1 w2→K (A1.put o1.dst u1) w2)→o1.wp P A1 w' K (NoPanic Q))
  (s1_3:∀ (u1:Value) w',I1_ u1 w'→∀ K:Act→World→Prop,(∀ (u3:Value) w2,I1_3_ u1 u3 w2→K ((A1.put o1.dst u1).put o3.dst u3) w2)→o3.wp P (A1.put o1.dst u1) w' K (NoPanic Q))
  (s1_3_4:∀ (u1 u3:Value) w',I1_3_ u1 u3 w'→∀ K:Act→World→Prop,(∀ (u4:Value) w2,I1_3_4_ u1 u3 u4 w2→K (((A1.put o1.dst u1).put o3.dst u3).put o4.dst u4) w2)→o4.wp P ((A1.put o1.dst u1).put o3.dst u3) w' K (NoPanic Q))
  (s1_3_4_8:∀ (u1 u3 u4:Value) w',I1_3_4_ u1 u3 u4 w'→∀ K:Act→World→Prop,(∀ (u8:Value) w2,I1_3_4_8_ u1 u3 u4 u8 w2→K (((((((((((A1.put o1.dst u1).put o3.dst u3).put o4.dst u4).put o5.dst (v5 u4)).put o6.dst (v6 u4)).put o7.dst (v7 u4)).put o9.dst (v9 u4)).put o10.dst (v10 u4)).put o11.dst (v11 u4)).put o12.dst (v12 u4)).put o8.dst u8) w2)→o8.wp P ((((((((((A1.put o1.dst u1).put o3.dst u3).put o4.dst u4).put o5.dst (v5 u4)).put o6.dst (v6 u4)).put o7.dst (v7 u4)).put o9.dst (v9 u4)).put o10.dst (v10 u4)).put o11.dst (v11 u4)).put o12.dst (v12 u4)) w' K (NoPanic Q))
  (s1_3_4_8_17:∀ (u1 u3 u4 u8:Value) w',I1_3_4_8_ u1 u3 u4 u8 w'→∀ K:Act→World→Prop,(∀ (u17:Value) w2,I1_3_4_8_17_ u1 u3 u4 u8 u17 w2→K ((((((((((((((((((((A1.put o1.dst u1).put o3.dst u3).put o4.dst u4).put o5.dst (v5 u4)).put o6.dst (v6 u4)).put o7.dst (v7 u4)).put o8.dst u8).put o9.dst (v9 u4)).put o10.dst (v10 u4)).put o11.dst (v11 u4)).put o12.dst (v12 u4)).put o13.dst (v13 u8)).put o14.dst (v14 u8)).put o15.dst (v15 u8)).put o16.dst (v16 u8)).put o18.dst (v18 u8)).put o19.dst (v19 u8)).put o20.dst (v20 u8)).put o21.dst (v21 u8)).put o17.dst u17) w2)→o17.wp P (((((((((((((((((((A1.put o1.dst u1).put o3.dst u3).put o4.dst u4).put o5.dst (v5 u4)).put o6.dst (v6 u4)).put o7.dst (v7 u4)).put o8.dst u8).put o9.dst (v9 u4)).put o10.dst (v10 u4)).put o11.dst (v11 u4)).put o12.dst (v12 u4)).put o13.dst (v13 u8)).put o14.dst (v14 u8)).put o15.dst (v15 u8)).put o16.dst (v16 u8)).put o18.dst (v18 u8)).put o19.dst (v19 u8)).put o20.dst (v20 u8)).put o21.dst (v21 u8)) w' K (NoPanic Q))
  (y1_3_4_5:∀ (u1 u3 u4:Value) w',I1_3_4_ u1 u3 u4 w'→YieldsIf P #[o0,o1,o2,o3,o4,o5,o6,o7,o8,o9,o10,o11,o12,o13,o14,o15,o16,o17,o18,o19,o20,o21,o22,o23] S o5 (v5 u4) (((A1.put o1.dst u1).put o3.dst u3).put o4.dst u4))
  (y1_3_4_6:∀ (u1 u3 u4:Value) w',I1_3_4_ u1 u3 u4 w'→YieldsIf P #[o0,o1,o2,o3,o4,o5,o6,o7,o8,o9,o10,o11,o12,o13,o14,o15,o16,o17,o18,o19,o20,o21,o22,o23] S o6 (v6 u4) ((((A1.put o1.dst u1).put o3.dst u3).put o4.dst u4).put o5.dst (v5 u4)))
  (y1_3_4_7:∀ (u1 u3 u4:Value) w',I1_3_4_ u1 u3 u4 w'→YieldsIf P #[o0,o1,o2,o3,o4,o5,o6,o7,o8,o9,o10,o11,o12,o13,o14,o15,o16,o17,o18,o19,o20,o21,o22,o23] S o7 (v7 u4) (((((A1.put o1.dst u1).put o3.dst u3).put o4.dst u4).put o5.dst (v5 u4)).put o6.dst (v6 u4)))
  (y1_3_4_9:∀ (u1 u3 u4:Value) w',I1_3_4_ u1 u3 u4 w'→YieldsIf P #[o0,o1,o2,o3,o4,o5,o6,o7,o8,o9,o10,o11,o12,o13,o14,o15,o16,o17,o18,o19,o20,o21,o22,o23] S o9 (v9 u4) ((((((A1.put o1.dst u1).put o3.dst u3).put o4.dst u4).put o5.dst (v5 u4)).put o6.dst (v6 u4)).put o7.dst (v7 u4)))
  (y1_3_4_10:∀ (u1 u3 u4:Value) w',I1_3_4_ u1 u3 u4 w'→YieldsIf P #[o0,o1,o2,o3,o4,o5,o6,o7,o8,o9,o10,o11,o12,o13,o14,o15,o16,o17,o18,o19,o20,o21,o22,o23] S o10 (v10 u4) (((((((A1.put o1.dst u1).put o3.dst u3).put o4.dst u4).put o5.dst (v5 u4)).put o6.dst (v6 u4)).put o7.dst (v7 u4)).put o9.dst (v9 u4)))
  (y1_3_4_11:∀ (u1 u3 u4:Value) w',I1_3_4_ u1 u3 u4 w'→YieldsIf P #[o0,o1,o2,o3,o4,o5,o6,o7,o8,o9,o10,o11,o12,o13,o14,o15,o16,o17,o18,o19,o20,o21,o22,o23] S o11 (v11 u4) ((((((((A1.put o1.dst u1).put o3.dst u3).put o4.dst u4).put o5.dst (v5 u4)).put o6.dst (v6 u4)).put o7.dst (v7 u4)).put o9.dst (v9 u4)).put o10.dst (v10 u4)))
  (y1_3_4_12:∀ (u1 u3 u4:Value) w',I1_3_4_ u1 u3 u4 w'→YieldsIf P #[o0,o1,o2,o3,o4,o5,o6,o7,o8,o9,o10,o11,o12,o13,o14,o15,o16,o17,o18,o19,o20,o21,o22,o23] S o12 (v12 u4) (((((((((A1.put o1.dst u1).put o3.dst u3).put o4.dst u4).put o5.dst (v5 u4)).put o6.dst (v6 u4)).put o7.dst (v7 u4)).put o9.dst (v9 u4)).put o10.dst (v10 u4)).put o11.dst (v11 u4)))
  (y1_3_4_8_13:∀ (u1 u3 u4 u8:Value) w',I1_3_4_8_ u1 u3 u4 u8 w'→YieldsIf P #[o0,o1,o2,o3,o4,o5,o6,o7,o8,o9,o10,o11,o12,o13,o14,o15,o16,o17,o18,o19,o20,o21,o22,o23] S o13 (v13 u8) (((((((((((A1.put o1.dst u1).put o3.dst u3).put o4.dst u4).put o5.dst (v5 u4)).put o6.dst (v6 u4)).put o7.dst (v7 u4)).put o8.dst u8).put o9.dst (v9 u4)).put o10.dst (v10 u4)).put o11.dst (v11 u4)).put o12.dst (v12 u4)))
  (y1_3_4_8_14:∀ (u1 u3 u4 u8:Value) w',I1_3_4_8_ u1 u3 u4 u8 w'→YieldsIf P #[o0,o1,o2,o3,o4,o5,o6,o7,o8,o9,o10,o11,o12,o13,o14,o15,o16,o17,o18,o19,o20,o21,o22,o23] S o14 (v14 u8) ((((((((((((A1.put o1.dst u1).put o3.dst u3).put o4.dst u4).put o5.dst (v5 u4)).put o6.dst (v6 u4)).put o7.dst (v7 u4)).put o8.dst u8).put o9.dst (v9 u4)).put o10.dst (v10 u4)).put o11.dst (v11 u4)).put o12.dst (v12 u4)).put o13.dst (v13 u8)))
  (y1_3_4_8_15:∀ (u1 u3 u4 u8:Value) w',I1_3_4_8_ u1 u3 u4 u8 w'→YieldsIf P #[o0,o1,o2,o3,o4,o5,o6,o7,o8,o9,o10,o11,o12,o13,o14,o15,o16,o17,o18,o19,o20,o21,o22,o23] S o15 (v15 u8) (((((((((((((A1.put o1.dst u1).put o3.dst u3).put o4.dst u4).put o5.dst (v5 u4)).put o6.dst (v6 u4)).put o7.dst (v7 u4)).put o8.dst u8).put o9.dst (v9 u4)).put o10.dst (v10 u4)).put o11.dst (v11 u4)).put o12.dst (v12 u4)).put o13.dst (v13 u8)).put o14.dst (v14 u8)))
  (y1_3_4_8_16:∀ (u1 u3 u4 u8:Value) w',I1_3_4_8_ u1 u3 u4 u8 w'→YieldsIf P #[o0,o1,o2,o3,o4,o5,o6,o7,o8,o9,o10,o11,o12,o13,o14,o15,o16,o17,o18,o19,o20,o21,o22,o23] S o16 (v16 u8) ((((((((((((((A1.put o1.dst u1).put o3.dst u3).put o4.dst u4).put o5.dst (v5 u4)).put o6.dst (v6 u4)).put o7.dst (v7 u4)).put o8.dst u8).put o9.dst (v9 u4)).put o10.dst (v10 u4)).put o11.dst (v11 u4)).put o12.dst (v12 u4)).put o13.dst (v13 u8)).put o14.dst (v14 u8)).put o15.dst (v15 u8)))
  (y1_3_4_8_18:∀ (u1 u3 u4 u8:Value) w',I1_3_4_8_ u1 u3 u4 u8 w'→YieldsIf P #[o0,o1,o2,o3,o4,o5,o6,o7,o8,o9,o10,o11,o12,o13,o14,o15,o16,o17,o18,o19,o20,o21,o22,o23] S o18 (v18 u8) (((((((((((((((A1.put o1.dst u1).put o3.dst u3).put o4.dst u4).put o5.dst (v5 u4)).put o6.dst (v6 u4)).put o7.dst (v7 u4)).put o8.dst u8).put o9.dst (v9 u4)).put o10.dst (v10 u4)).put o11.dst (v11 u4)).put o12.dst (v12 u4)).put o13.dst (v13 u8)).put o14.dst (v14 u8)).put o15.dst (v15 u8)).put o16.dst (v16 u8)))
  (y1_3_4_8_19:∀ (u1 u3 u4 u8:Value) w',I1_3_4_8_ u1 u3 u4 u8 w'→YieldsIf P #[o0,o1,o2,o3,o4,o5,o6,o7,o8,o9,o10,o11,o12,o13,o14,o15,o16,o17,o18,o19,o20,o21,o22,o23] S o19 (v19 u8) ((((((((((((((((A1.put o1.dst u1).put o3.dst u3).put o4.dst u4).put o5.dst (v5 u4)).put o6.dst (v6 u4)).put o7.dst (v7 u4)).put o8.dst u8).put o9.dst (v9 u4)).put o10.dst (v10 u4)).put o11.dst (v11 u4)).put o12.dst (v12 u4)).put o13.dst (v13 u8)).put o14.dst (v14 u8)).put o15.dst (v15 u8)).put o16.dst (v16 u8)).put o18.dst (v18 u8)))
  (y1_3_4_8_20:∀ (u1 u3 u4 u8:Value) w',I1_3_4_8_ u1 u3 u4 u8 w'→YieldsIf P #[o0,o1,o2,o3,o4,o5,o6,o7,o8,o9,o10,o11,o12,o13,o14,o15,o16,o17,o18,o19,o20,o21,o22,o23] S o20 (v20 u8) (((((((((((((((((A1.put o1.dst u1).put o3.dst u3).put o4.dst u4).put o5.dst (v5 u4)).put o6.dst (v6 u4)).put o7.dst (v7 u4)).put o8.dst u8).put o9.dst (v9 u4)).put o10.dst (v10 u4)).put o11.dst (v11 u4)).put o12.dst (v12 u4)).put o13.dst (v13 u8)).put o14.dst (v14 u8)).put o15.dst (v15 u8)).put o16.dst (v16 u8)).put o18.dst (v18 u8)).put o19.dst (v19 u8)))
  (y1_3_4_8_21:∀ (u1 u3 u4 u8:Value) w',I1_3_4_8_ u1 u3 u4 u8 w'→YieldsIf P #[o0,o1,o2,o3,o4,o5,o6,o7,o8,o9,o10,o11,o12,o13,o14,o15,o16,o17,o18,o19,o20,o21,o22,o23] S o21 (v21 u8) ((((((((((((((((((A1.put o1.dst u1).put o3.dst u3).put o4.dst u4).put o5.dst (v5 u4)).put o6.dst (v6 u4)).put o7.dst (v7 u4)).put o8.dst u8).put o9.dst (v9 u4)).put o10.dst (v10 u4)).put o11.dst (v11 u4)).put o12.dst (v12 u4)).put o13.dst (v13 u8)).put o14.dst (v14 u8)).put o15.dst (v15 u8)).put o16.dst (v16 u8)).put o18.dst (v18 u8)).put o19.dst (v19 u8)).put o20.dst (v20 u8)))
  (y1_3_4_8_17_22:∀ (u1 u3 u4 u8 u17:Value) w',I1_3_4_8_17_ u1 u3 u4 u8 u17 w'→YieldsIf P #[o0,o1,o2,o3,o4,o5,o6,o7,o8,o9,o10,o11,o12,o13,o14,o15,o16,o17,o18,o19,o20,o21,o22,o23] S o22 (v22 u17) ((((((((((((((((((((A1.put o1.dst u1).put o3.dst u3).put o4.dst u4).put o5.dst (v5 u4)).put o6.dst (v6 u4)).put o7.dst (v7 u4)).put o8.dst u8).put o9.dst (v9 u4)).put o10.dst (v10 u4)).put o11.dst (v11 u4)).put o12.dst (v12 u4)).put o13.dst (v13 u8)).put o14.dst (v14 u8)).put o15.dst (v15 u8)).put o16.dst (v16 u8)).put o17.dst u17).put o18.dst (v18 u8)).put o19.dst (v19 u8)).put o20.dst (v20 u8)).put o21.dst (v21 u8)))
  (y1_3_4_8_17_23:∀ (u1 u3 u4 u8 u17:Value) w',I1_3_4_8_17_ u1 u3 u4 u8 u17 w'→YieldsIf P #[o0,o1,o2,o3,o4,o5,o6,o7,o8,o9,o10,o11,o12,o13,o14,o15,o16,o17,o18,o19,o20,o21,o22,o23] S o23 (v23 u17) (((((((((((((((((((((A1.put o1.dst u1).put o3.dst u3).put o4.dst u4).put o5.dst (v5 u4)).put o6.dst (v6 u4)).put o7.dst (v7 u4)).put o8.dst u8).put o9.dst (v9 u4)).put o10.dst (v10 u4)).put o11.dst (v11 u4)).put o12.dst (v12 u4)).put o13.dst (v13 u8)).put o14.dst (v14 u8)).put o15.dst (v15 u8)).put o16.dst (v16 u8)).put o17.dst u17).put o18.dst (v18 u8)).put o19.dst (v19 u8)).put o20.dst (v20 u8)).put o21.dst (v21 u8)).put o22.dst (v22 u17)))
  (h:∀ (u1 u3 u4 u8 u17:Value) w',I1_3_4_8_17_ u1 u3 u4 u8 u17 w'→Q .normal ((((((((((((((((((((((A1.put o1.dst u1).put o3.dst u3).put o4.dst u4).put o5.dst (v5 u4)).put o6.dst (v6 u4)).put o7.dst (v7 u4)).put o8.dst u8).put o9.dst (v9 u4)).put o10.dst (v10 u4)).put o11.dst (v11 u4)).put o12.dst (v12 u4)).put o13.dst (v13 u8)).put o14.dst (v14 u8)).put o15.dst (v15 u8)).put o16.dst (v16 u8)).put o17.dst u17).put o18.dst (v18 u8)).put o19.dst (v19 u8)).put o20.dst (v20 u8)).put o21.dst (v21 u8)).put o22.dst (v22 u17)).put o23.dst (v23 u17)) w') :
  (Code.region id #[o0,o1,o2,o3,o4,o5,o6,o7,o8,o9,o10,o11,o12,o13,o14,o15,o16,o17,o18,o19,o20,o21,o22,o23] true).wp P Q a w:=by
 subst p0 p2
 obtain ⟨z_,z1_,z1_3_,z1_3_4_,z1_3_4_8_,z1_3_4_8_17_⟩:=hIS
 refine wp_region_noPanic ?_
 refine wp_region_held_drew (S:=S) hm (z_ _ i0) (fun hH=>?_)
 show wpAnyH P .any #[o0,o1,o2,o3,o4,o5,o6,o7,o8,o9,o10,o11,o12,o13,o14,o15,o16,o17,o18,o19,o20,o21,o22,o23] (NoPanic Q) S 24 #[false,false,false,false,false,false,false,false,false,false,false,false,false,false,false,false,false,false,false,false,false,false,false,false] a w.drew
 refine wpAnyH_take (i:=0) (oi:=o0) rfl hs f0 r0 (fun _ _ _ h=>h) hy0 hH ?_
 refine wpAnyH_take (i:=2) (oi:=o2) rfl hs f2 r2 (fun _ _ _ h=>h) hy2 hH ?_
 generalize ((a.put o0.dst v0).put o2.dst v2) = B at *
 have wa1:∀ y,Region.wanted o1 y = true:=fun y=>by unfold Region.wanted; rw [g1]
 have wa3:∀ y,Region.wanted o3 y = true:=fun y=>by unfold Region.wanted; rw [g3]
 have wa4:∀ y,Region.wanted o4 y = true:=fun y=>by unfold Region.wanted; rw [g4]
 have t1_3_4_8_17_:∀ (u1 u3 u4 u8 u17:Value) w',I1_3_4_8_17_ u1 u3 u4 u8 u17 w'→wpAnyH P .any #[o0,o1,o2,o3,o4,o5,o6,o7,o8,o9,o10,o11,o12,o13,o14,o15,o16,o17,o18,o19,o20,o21,o22,o23] (NoPanic Q) S 0 #[true,true,true,true,true,true,true,true,true,true,true,true,true,true,true,true,true,true,true,true,true,true,true,true] ((((((((((((((((((((((B.put o1.dst u1).put o3.dst u3).put o4.dst u4).put o5.dst (v5 u4)).put o6.dst (v6 u4)).put o7.dst (v7 u4)).put o8.dst u8).put o9.dst (v9 u4)).put o10.dst (v10 u4)).put o11.dst (v11 u4)).put o12.dst (v12 u4)).put o13.dst (v13 u8)).put o14.dst (v14 u8)).put o15.dst (v15 u8)).put o16.dst (v16 u8)).put o17.dst u17).put o18.dst (v18 u8)).put o19.dst (v19 u8)).put o20.dst (v20 u8)).put o21.dst (v21 u8)).put o22.dst (v22 u17)).put o23.dst (v23 u17)) w':=by
  intro u1 u3 u4 u8 u17 w0 i0
  exact ⟨q1_3_4_8_17_,NoPanic.normal (h u1 u3 u4 u8 u17 w0 i0)⟩
 have t1_3_4_8_:∀ (u1 u3 u4 u8:Value) w',I1_3_4_8_ u1 u3 u4 u8 w'→wpAnyH P .any #[o0,o1,o2,o3,o4,o5,o6,o7,o8,o9,o10,o11,o12,o13,o14,o15,o16,o17,o18,o19,o20,o21,o22,o23] (NoPanic Q) S 3 #[true,true,true,true,true,true,true,true,true,true,true,true,true,true,true,true,true,false,true,true,true,true,false,false] (((((((((((((((((((B.put o1.dst u1).put o3.dst u3).put o4.dst u4).put o5.dst (v5 u4)).put o6.dst (v6 u4)).put o7.dst (v7 u4)).put o8.dst u8).put o9.dst (v9 u4)).put o10.dst (v10 u4)).put o11.dst (v11 u4)).put o12.dst (v12 u4)).put o13.dst (v13 u8)).put o14.dst (v14 u8)).put o15.dst (v15 u8)).put o16.dst (v16 u8)).put o18.dst (v18 u8)).put o19.dst (v19 u8)).put o20.dst (v20 u8)).put o21.dst (v21 u8)) w':=by
  intro u1 u3 u4 u8 w0 i0
  refine wpAnyH_ready (rs:=[17]) q1_3_4_8_ (by simp) (AllReadyH.cons (o:=o17) rfl (fun K hK=>?_) AllReadyH.nil)
  ·rw [if_pos (wg1_3_4_8_17 u1 u3 u4 u8)]
   refine s1_3_4_8_17 u1 u3 u4 u8 w0 i0 K (fun u17 w1 i1=>hK.out _ _ (z1_3_4_8_17_ u1 u3 u4 u8 u17 w1 i1) (fun _=>?_))
   clear hK
   rw [Act.put_comm _ _ _ ne21_17]
   rw [Act.put_comm _ _ _ ne20_17]
   rw [Act.put_comm _ _ _ ne19_17]
   rw [Act.put_comm _ _ _ ne18_17]
   refine wpAnyH_take (i:=22) (oi:=o22) rfl hs f1_3_4_8_17_22 r1_3_4_8_17_22 (fun _ _ _ h=>h) (y1_3_4_8_17_22 u1 u3 u4 u8 u17 w1 i1) (z1_3_4_8_17_ u1 u3 u4 u8 u17 w1 i1) ?_
   refine wpAnyH_take (i:=23) (oi:=o23) rfl hs f1_3_4_8_17_23 r1_3_4_8_17_23 (fun _ _ _ h=>h) (y1_3_4_8_17_23 u1 u3 u4 u8 u17 w1 i1) (z1_3_4_8_17_ u1 u3 u4 u8 u17 w1 i1) ?_
   exact t1_3_4_8_17_ u1 u3 u4 u8 u17 w1 i1
 have t1_3_4_:∀ (u1 u3 u4:Value) w',I1_3_4_ u1 u3 u4 w'→wpAnyH P .any #[o0,o1,o2,o3,o4,o5,o6,o7,o8,o9,o10,o11,o12,o13,o14,o15,o16,o17,o18,o19,o20,o21,o22,o23] (NoPanic Q) S 12 #[true,true,true,true,true,true,true,true,false,true,true,true,true,false,false,false,false,false,false,false,false,false,false,false] ((((((((((B.put o1.dst u1).put o3.dst u3).put o4.dst u4).put o5.dst (v5 u4)).put o6.dst (v6 u4)).put o7.dst (v7 u4)).put o9.dst (v9 u4)).put o10.dst (v10 u4)).put o11.dst (v11 u4)).put o12.dst (v12 u4)) w':=by
  intro u1 u3 u4 w0 i0
  refine wpAnyH_ready (rs:=[8]) q1_3_4_ (by simp) (AllReadyH.cons (o:=o8) rfl (fun K hK=>?_) AllReadyH.nil)
  ·rw [if_pos (wg1_3_4_8 u1 u3 u4)]
   refine s1_3_4_8 u1 u3 u4 w0 i0 K (fun u8 w1 i1=>hK.out _ _ (z1_3_4_8_ u1 u3 u4 u8 w1 i1) (fun _=>?_))
   clear hK
   rw [Act.put_comm _ _ _ ne12_8]
   rw [Act.put_comm _ _ _ ne11_8]
   rw [Act.put_comm _ _ _ ne10_8]
   rw [Act.put_comm _ _ _ ne9_8]
   refine wpAnyH_take (i:=13) (oi:=o13) rfl hs f1_3_4_8_13 r1_3_4_8_13 (fun _ _ _ h=>h) (y1_3_4_8_13 u1 u3 u4 u8 w1 i1) (z1_3_4_8_ u1 u3 u4 u8 w1 i1) ?_
   refine wpAnyH_take (i:=14) (oi:=o14) rfl hs f1_3_4_8_14 r1_3_4_8_14 (fun _ _ _ h=>h) (y1_3_4_8_14 u1 u3 u4 u8 w1 i1) (z1_3_4_8_ u1 u3 u4 u8 w1 i1) ?_
   refine wpAnyH_take (i:=15) (oi:=o15) rfl hs f1_3_4_8_15 r1_3_4_8_15 (fun _ _ _ h=>h) (y1_3_4_8_15 u1 u3 u4 u8 w1 i1) (z1_3_4_8_ u1 u3 u4 u8 w1 i1) ?_
   refine wpAnyH_take (i:=16) (oi:=o16) rfl hs f1_3_4_8_16 r1_3_4_8_16 (fun _ _ _ h=>h) (y1_3_4_8_16 u1 u3 u4 u8 w1 i1) (z1_3_4_8_ u1 u3 u4 u8 w1 i1) ?_
   refine wpAnyH_take (i:=18) (oi:=o18) rfl hs f1_3_4_8_18 r1_3_4_8_18 (fun _ _ _ h=>h) (y1_3_4_8_18 u1 u3 u4 u8 w1 i1) (z1_3_4_8_ u1 u3 u4 u8 w1 i1) ?_
   refine wpAnyH_take (i:=19) (oi:=o19) rfl hs f1_3_4_8_19 r1_3_4_8_19 (fun _ _ _ h=>h) (y1_3_4_8_19 u1 u3 u4 u8 w1 i1) (z1_3_4_8_ u1 u3 u4 u8 w1 i1) ?_
   refine wpAnyH_take (i:=20) (oi:=o20) rfl hs f1_3_4_8_20 r1_3_4_8_20 (fun _ _ _ h=>h) (y1_3_4_8_20 u1 u3 u4 u8 w1 i1) (z1_3_4_8_ u1 u3 u4 u8 w1 i1) ?_
   refine wpAnyH_take (i:=21) (oi:=o21) rfl hs f1_3_4_8_21 r1_3_4_8_21 (fun _ _ _ h=>h) (y1_3_4_8_21 u1 u3 u4 u8 w1 i1) (z1_3_4_8_ u1 u3 u4 u8 w1 i1) ?_
   exact t1_3_4_8_ u1 u3 u4 u8 w1 i1
 have t1_3_:∀ (u1 u3:Value) w',I1_3_ u1 u3 w'→wpAnyH P .any #[o0,o1,o2,o3,o4,o5,o6,o7,o8,o9,o10,o11,o12,o13,o14,o15,o16,o17,o18,o19,o20,o21,o22,o23] (NoPanic Q) S 20 #[true,true,true,true,false,false,false,false,false,false,false,false,false,false,false,false,false,false,false,false,false,false,false,false] ((B.put o1.dst u1).put o3.dst u3) w':=by
  intro u1 u3 w0 i0
  refine wpAnyH_ready (rs:=[4]) q1_3_ (by simp) (AllReadyH.cons (o:=o4) rfl (fun K hK=>?_) AllReadyH.nil)
  ·rw [if_pos (wa4 _)]
   refine s1_3_4 u1 u3 w0 i0 K (fun u4 w1 i1=>hK.out _ _ (z1_3_4_ u1 u3 u4 w1 i1) (fun _=>?_))
   clear hK
   refine wpAnyH_take (i:=5) (oi:=o5) rfl hs f1_3_4_5 r1_3_4_5 (fun _ _ _ h=>h) (y1_3_4_5 u1 u3 u4 w1 i1) (z1_3_4_ u1 u3 u4 w1 i1) ?_
   refine wpAnyH_take (i:=6) (oi:=o6) rfl hs f1_3_4_6 r1_3_4_6 (fun _ _ _ h=>h) (y1_3_4_6 u1 u3 u4 w1 i1) (z1_3_4_ u1 u3 u4 w1 i1) ?_
   refine wpAnyH_take (i:=7) (oi:=o7) rfl hs f1_3_4_7 r1_3_4_7 (fun _ _ _ h=>h) (y1_3_4_7 u1 u3 u4 w1 i1) (z1_3_4_ u1 u3 u4 w1 i1) ?_
   refine wpAnyH_take (i:=9) (oi:=o9) rfl hs f1_3_4_9 r1_3_4_9 (fun _ _ _ h=>h) (y1_3_4_9 u1 u3 u4 w1 i1) (z1_3_4_ u1 u3 u4 w1 i1) ?_
   refine wpAnyH_take (i:=10) (oi:=o10) rfl hs f1_3_4_10 r1_3_4_10 (fun _ _ _ h=>h) (y1_3_4_10 u1 u3 u4 w1 i1) (z1_3_4_ u1 u3 u4 w1 i1) ?_
   refine wpAnyH_take (i:=11) (oi:=o11) rfl hs f1_3_4_11 r1_3_4_11 (fun _ _ _ h=>h) (y1_3_4_11 u1 u3 u4 w1 i1) (z1_3_4_ u1 u3 u4 w1 i1) ?_
   refine wpAnyH_take (i:=12) (oi:=o12) rfl hs f1_3_4_12 r1_3_4_12 (fun _ _ _ h=>h) (y1_3_4_12 u1 u3 u4 w1 i1) (z1_3_4_ u1 u3 u4 w1 i1) ?_
   exact t1_3_4_ u1 u3 u4 w1 i1
 have t1_:∀ (u1:Value) w',I1_ u1 w'→wpAnyH P .any #[o0,o1,o2,o3,o4,o5,o6,o7,o8,o9,o10,o11,o12,o13,o14,o15,o16,o17,o18,o19,o20,o21,o22,o23] (NoPanic Q) S 21 #[true,true,true,false,false,false,false,false,false,false,false,false,false,false,false,false,false,false,false,false,false,false,false,false] (B.put o1.dst u1) w':=by
  intro u1 w0 i0
  refine wpAnyH_ready (rs:=[3]) q1_ (by simp) (AllReadyH.cons (o:=o3) rfl (fun K hK=>?_) AllReadyH.nil)
  ·rw [if_pos (wa3 _)]
   refine s1_3 u1 w0 i0 K (fun u3 w1 i1=>hK.out _ _ (z1_3_ u1 u3 w1 i1) (fun _=>?_))
   clear hK
   exact t1_3_ u1 u3 w1 i1
 have t_:∀ w',I_  w'→wpAnyH P .any #[o0,o1,o2,o3,o4,o5,o6,o7,o8,o9,o10,o11,o12,o13,o14,o15,o16,o17,o18,o19,o20,o21,o22,o23] (NoPanic Q) S 22 #[true,false,true,false,false,false,false,false,false,false,false,false,false,false,false,false,false,false,false,false,false,false,false,false] B w':=by
  intro w0 i0
  refine wpAnyH_ready (rs:=[1]) q_ (by simp) (AllReadyH.cons (o:=o1) rfl (fun K hK=>?_) AllReadyH.nil)
  ·rw [if_pos (wa1 _)]
   refine s_1  w0 i0 K (fun u1 w1 i1=>hK.out _ _ (z1_ u1 w1 i1) (fun _=>?_))
   clear hK
   exact t1_ u1 w1 i1
 exact t_ w.drew i0
end
end
section
open Go.RowKit Go.BigFrame Go.Maps Go.Sort
theorem RdB.slice {w:World} {v:Value} {bs:List (Nat × List En)} (h:RdB w v bs):∃ ao cap,v = .slice ao bs.length cap∧bs.length≤cap∧cap≤9223372036854775807:=by
 obtain ⟨ao,cap,ts,rfl,rfl,h1,h2,_⟩:=h
 exact ⟨ao,cap,by rw [List.length_map],by rw [List.length_map]; exact h1,h2⟩
theorem xb2a {α:Type} {p q:List α} {k:Nat} (h:p.take k = q.take k) (hp:k < p.length) (hq:k < q.length) (e:p[k] = q[k]):p.take (k + 1) = q.take (k + 1):=by
 rw [List.take_succ_eq_append_getElem hp,List.take_succ_eq_append_getElem hq,h,e]
set_option maxHeartbeats 2000000 in
theorem xa5d (u v:Value) (p q:List (Nat × List En)) (w:World) (hu:RdB w u p) (hv:RdB w v q) :
  Calls Tryz.prog 17 #[u,v] w fun e w'=>e = .returned (.bool (decide (p = q)))∧Kept [] w w':=by
 obtain ⟨ao,cap,rfl,h1,h2⟩:=hu.slice
 obtain ⟨bo,cap2,rfl,g1,g2⟩:=hv.slice
 have HU:=hide hu
 have HV:=hide hv
 clear hu hv
 by_cases hl:p.length = q.length
 ·have hl1:((p.length:Int) != (q.length:Int)) = false:=by simp; omega
  have HL:=hide hl
  clear hl
  go_enter Tryz.func17,Tryz.ntmps17
  go_wp2_with fail
  clear hl1
  go_loopw [13] (fun t13 wr=>∃ k:Nat,k≤p.length∧t13 = .int .i64 (k:Int)∧Hid (p.take k = q.take k)∧Hid (Kept [] w wr)) (fun t _=>p.length - (intOf t).toNat)
  case atStart=>exact ⟨0,Nat.zero_le _,rfl,hide rfl,hide (Kept.refl _ _)⟩
  case round =>
   obtain ⟨k,hk,rfl,HT,HK⟩:=hrel
   by_cases hlt:k < p.length
   ·have hltq:k < q.length:=by have:=uh HL; omega
    have e3:(k:Int) < (p.length:Int):=by omega
    have e4:(k:Int) < (q.length:Int):=by omega
    obtain ⟨b,off,y,rfl,x0,x1,hy⟩:=((uh HU).old (uh HK)).at k hlt
    obtain ⟨b',off',y',rfl,x0',x1',hy'⟩:=((uh HV).old (uh HK)).at k hltq
    have hkc:(k:Int) < cap:=by omega
    have hkc':(k:Int) < cap2:=by omega
    have ha1:IntKind.i64.wrap ((k:Int) + 1) = (k:Int) + 1:=by rw [IntKind.wrap_i64]; omega
    have HP:=hide (fun e=>xb2a (uh HT) hlt hltq e)
    have HNE:=hide (fun (hn:p[k]≠q[k]) (e:p = q)=>hn (by subst e; rfl))
    generalize p[k] = P at x0 x1 hy HP HNE
    generalize q[k] = Q at x0' x1' hy' HP HNE
    obtain ⟨f1,es1⟩:=P
    obtain ⟨f2,es2⟩:=Q
    dsimp only at x0 x1 hy x0' x1' hy'
    obtain ⟨ya,yn,yc,_,_,rfl,_⟩:=id hy
    obtain ⟨za,zn,zc,_,_,rfl,_⟩:=id hy'
    have HY:=hide hy
    have HY':=hide hy'
    clear hy hy'
    go_upto_region 6 with fail
    refine xa1o 8 (by kernel_rfl) (by kernel_rfl) ?_
    simp only [List.take_succ_cons,List.take_zero,List.drop_succ_cons,List.drop_zero]
    repeat (go_big_quiet_step (fail))
    refine wpQuiet_nil ?_
    rintro _ ⟨m5,rfl⟩
    have HSB:=hide (xa7v f1 f2 _ _ es1 es2 (wr.drewN m5) ((uh HY).old ((Kept.refl [] wr).drewN m5)) ((uh HY').old ((Kept.refl [] wr).drewN m5)))
    have HKD:=hide ((uh HK).drewN m5)
    clear x0 x1 x0' x1'
    by_cases he:f1 = f2∧es1 = es2
    ·obtain ⟨rfl,rfl⟩:=he
     rw [decide_eq_true rfl,decide_eq_true rfl,Bool.and_self] at HSB
     have HP2:=hide (uh HP rfl)
     go_wp2_with fail
     refine Calls.mono (uh HSB) ?_
     rintro e w3 ⟨rfl,k3⟩
     have HK3:=hide ((uh HKD).trans k3 (by simp))
     clear k3
     go_wp2_with fail
     go_roundw
     case rel=>exact ⟨k + 1,by omega,by simp,HP2,HK3⟩
     case measure=>simp [intOf]; omega
    ·have hf:(decide (f1 = f2) && decide (es1 = es2)) = false:=by
      rw [Bool.and_eq_false_iff,decide_eq_false_iff_not,decide_eq_false_iff_not]
      by_cases h9:f1 = f2
      ·exact Or.inr (fun h8=>he ⟨h9,h8⟩)
      ·exact Or.inl h9
     rw [hf] at HSB
     have HN2:=hide (uh HNE (fun h=>he ⟨congrArg Prod.fst h,congrArg Prod.snd h⟩))
     clear hf he
     go_wp2_with fail
     refine Calls.mono (uh HSB) ?_
     rintro e w3 ⟨rfl,k3⟩
     have HK3:=hide ((uh HKD).trans k3 (by simp))
     clear k3
     go_wp2_with fail
     go_ret
     exact ⟨by rw [decide_eq_false (uh HN2)]; rfl,uh HK3⟩
   ·have e3:¬ (k:Int) < (p.length:Int):=by omega
    have hie:k = p.length:=by omega
    subst hie
    have HEQ:=hide (by have h9:=uh HT; rw [List.take_length,uh HL,List.take_length] at h9; exact h9:p = q)
    go_wp2_with fail
    go_ret
    exact ⟨by rw [decide_eq_true (uh HEQ)]; rfl,uh HK⟩
 ·have hl1:((p.length:Int) != (q.length:Int)) = true:=by rw [bne_iff_ne]; omega
  have HNE:=hide (fun e:p = q=>hl (by rw [e]))
  clear hl
  go_enter Tryz.func17,Tryz.ntmps17
  go_wp2_with fail
  go_ret
  exact ⟨by rw [decide_eq_false (uh HNE)]; rfl,Kept.refl _ _⟩
set_option maxHeartbeats 4000000 in
theorem xb4o (d nb ob bb:Nat) (B:List Nat) (c nc bc:Nat) (R:List Nat) (σ:DSt) (w:World) (lp mp:Value) (hd:DKf w d B nb ob bb σ) (hc:RK w c R nc bc σ) (hnb:nb≤900000000) (hob:ob≤900000000) (hbb:bb≤140737488350000) (hnc:nc≤900000000) (hbc:bc≤140737488350000)
  (hlm:(lp = .pointer none∧mp = .pointer none)∨∃ l m s num byt so,lp = .pointer (some ⟨l,0,none⟩)∧mp = .pointer (some ⟨m,0,none⟩)∧w.heap[l]? = some (.cells (lgC d s) 117 (0,0))∧w.heap[m]? = some (.cells (rlC c s.wd s.lim num s.ep s.nx byt so s.st) 125 (0,0))∧(s.st = 0→num = s.num)) :
  Calls Tryz.prog 18 #[.pointer (some ⟨d,0,none⟩),lp,.pointer (some ⟨c,0,none⟩),mp] w fun e w'=>e = .returned (.bool true)∧Kept [] w w':=by
 obtain ⟨_,q4,q5,_,_⟩:=hc.cells
 have HLM:=hide hlm
 clear hlm
 go_enter Tryz.func18,Tryz.ntmps18
 go_upto_region 1 with fail
 refine xc1y (by kernel_rfl) (by kernel_rfl) (by kernel_rfl) (by kernel_rfl) (by kernel_rfl) (by kernel_rfl) (by kernel_rfl) (by kernel_rfl) (by kernel_rfl) (by kernel_rfl) (by kernel_rfl) (by kernel_rfl) (by kernel_rfl) (by kernel_rfl) (by kernel_rfl) (by kernel_rfl) (by kernel_rfl) (by kernel_rfl) (by kernel_rfl) (by kernel_rfl) (by kernel_rfl) (by kernel_rfl) (by kernel_rfl) (by kernel_rfl) (by kernel_rfl) (by kernel_rfl) (by kernel_rfl) (by kernel_rfl) (by kernel_rfl) (by kernel_rfl) (by kernel_rfl) (by kernel_rfl) (by kernel_rfl) (by kernel_rfl) (by kernel_rfl) (by kernel_rfl) (by kernel_rfl) (by kernel_rfl) (by kernel_rfl) (by kernel_rfl) (by kernel_rfl) (by kernel_rfl) (by kernel_rfl) (by kernel_rfl) (by kernel_rfl) (by kernel_rfl) rfl rfl rfl (by simp) (by simp) (by simp) (by simp) (by simp) (by simp) (by simp) (by simp)
  (.pointer (some ⟨d,0,none⟩)) (.pointer (some ⟨c,0,none⟩)) _ _
  (fun w'=>Kept [] w w')
  (fun w'=>Kept [] w w')
  (fun u1 w'=>(∃ ts,RdFl w' u1 ts∧ts.map Prod.fst = srtA σ.A)∧Kept [] w w')
  (fun u1 u3 w'=>(∃ ts ss,RdFl w' u1 ts∧RdFl w' u3 ss∧ts.map Prod.fst = srtA σ.A∧ss.map Prod.fst = srtA σ.A)∧Kept [] w w')
  (fun u1 u3 u4 w'=>u4 = .bool true∧Kept [] w w')
  (fun u1 u3 u4 u8 w'=>(u4 = .bool true∧u8 = .int .i64 σ.op)∧Kept [] w w')
  (fun u1 u3 u4 u8 u17 w'=>(u4 = .bool true∧u8 = .int .i64 σ.op∧u17 = .bool σ.off)∧Kept [] w w')
  (fun _=>.bool false) (fun _=>.bool false) (fun _=>.pointer (some ⟨d,0,none⟩)) (fun _=>.pointer (some ⟨c,0,none⟩)) (fun _=>.pointer (some ⟨c,0,none⟩)) (fun _=>.pointer (some ⟨c,4,none⟩)) (fun _=>.int .i64 σ.op) (fun _=>.bool false) (fun _=>.bool false) (fun _=>.bool false) (fun _=>.pointer (some ⟨d,0,none⟩)) (fun _=>.pointer (some ⟨c,0,none⟩)) (fun _=>.pointer (some ⟨c,0,none⟩)) (fun _=>.pointer (some ⟨c,5,none⟩)) (fun _=>.bool σ.off) (fun _=>.bool false) (fun _=>.bool false)
  (by simp only [Act.put,sa1,sa2,sa3]; rfl) (by exact Or.inl ⟨by rfl,fun W' hW'=>by go_simp⟩)
  (by simp only [Act.put,sa1,sa2,sa3]; rfl) (by exact Or.inl ⟨by rfl,fun W' hW'=>by go_simp⟩)
  (Kept.refl [] w).drew
  ⟨fun w' h=>h,fun u1 w' h=>h.2,fun u1 u3 w' h=>h.2,fun u1 u3 u4 w' h=>h.2,fun u1 u3 u4 u8 w' h=>h.2,fun u1 u3 u4 u8 u17 w' h=>h.2⟩
  (by intros; simp only [Act.put,sa1,sa2,sa3]; rfl)
  (by intros; simp only [Act.put,sa1,sa2,sa3]; rfl)
  (by
   intro w' k K hK
   simp only [Act.put,sa1,sa2,sa3] at hK ⊢
   refine xa0e rfl Tryz.call30 [.pointer (some ⟨d,0,none⟩)] rfl (xc2f d (max nb ob) bb B σ w' (hd.toDK.old k) (by omega) (by omega)) ?_
   rintro e w2 ⟨v,ts,rfl,ho,ht,k2⟩
   exact ⟨_,rfl,hK _ _ ⟨⟨ts,ho.rd,ht⟩,k.trans k2 (by simp)⟩⟩)
  (by
   rintro u1 w' ⟨⟨ts,hr,ht⟩,k⟩ K hK
   simp only [Act.put,sa1,sa2,sa3] at hK ⊢
   refine xa0e rfl Tryz.call55 [.pointer (some ⟨c,0,none⟩)] rfl (xa8g c nc bc R σ w' (hc.old k) (by omega) (by omega)) ?_
   rintro e w2 ⟨v,ss,rfl,ho,hu,k2⟩
   exact ⟨_,rfl,hK _ _ ⟨⟨ts,ss,hr.old k2,ho.rd,ht,hu⟩,k.trans k2 (by simp)⟩⟩)
  (by
   rintro u1 u3 w' ⟨⟨ts,ss,hr,hs,ht,hu⟩,k⟩ K hK
   simp only [Act.put,sa1,sa2,sa3] at hK ⊢
   refine xa0e rfl Tryz.call54 [u1,u3] rfl (xa8h u1 u3 ts ss w' hr hs (ht.trans hu.symm) (by have h1:=congrArg List.length ht; rw [List.length_map,xa8t] at h1; have:=hd.len; omega)) ?_
   rintro e w2 ⟨rfl,k2⟩
   exact ⟨_,rfl,hK _ _ ⟨by trivial,k.trans k2 (by simp)⟩⟩)
  (by
   rintro u1 u3 u4 w' ⟨rfl,k⟩ K hK
   simp only [Act.put,sa1,sa2,sa3] at hK ⊢
   refine xa0e rfl Tryz.call29 [.pointer (some ⟨d,0,none⟩)] rfl (ops_F d nb ob bb B σ w' (hd.old k)) ?_
   rintro e w2 ⟨rfl,rfl⟩
   exact ⟨_,rfl,hK _ _ ⟨⟨by trivial,by trivial⟩,k⟩⟩)
  (by
   rintro u1 u3 u4 u8 w' ⟨⟨rfl,rfl⟩,k⟩ K hK
   simp only [Act.put,sa1,sa2,sa3] at hK ⊢
   refine xa0e rfl Tryz.call31 [.pointer (some ⟨d,0,none⟩)] rfl (off_F d nb ob bb B σ w' (hd.old k)) ?_
   rintro e w2 ⟨rfl,rfl⟩
   exact ⟨_,rfl,hK _ _ ⟨⟨by trivial,by trivial,by trivial⟩,k⟩⟩)
  (by rintro u1 u3 u4 w' ⟨rfl,k⟩; exact Or.inl ⟨by simp only [Act.put,sa1,sa2,sa3]; rfl,fun W' hW'=>by  simp only [Act.put,sa1,sa2,sa3]; go_simp⟩)
  (by rintro u1 u3 u4 w' ⟨rfl,k⟩; exact Or.inl ⟨by simp only [Act.put,sa1,sa2,sa3]; rfl,fun W' hW'=>by  simp only [Act.put,sa1,sa2,sa3]; go_simp⟩)
  (by rintro u1 u3 u4 w' ⟨rfl,k⟩; exact Or.inl ⟨by simp only [Act.put,sa1,sa2,sa3]; rfl,fun W' hW'=>by  simp only [Act.put,sa1,sa2,sa3]; go_simp⟩)
  (by rintro u1 u3 u4 w' ⟨rfl,k⟩; exact Or.inl ⟨by simp only [Act.put,sa1,sa2,sa3]; rfl,fun W' hW'=>by  simp only [Act.put,sa1,sa2,sa3]; go_simp⟩)
  (by rintro u1 u3 u4 w' ⟨rfl,k⟩; exact Or.inl ⟨by simp only [Act.put,sa1,sa2,sa3]; rfl,fun W' hW'=>by  simp only [Act.put,sa1,sa2,sa3]; go_simp⟩)
  (by rintro u1 u3 u4 w' ⟨rfl,k⟩; exact Or.inl ⟨by simp only [Act.put,sa1,sa2,sa3]; rfl,fun W' hW'=>by  simp only [Act.put,sa1,sa2,sa3]; go_simp⟩)
  (by rintro u1 u3 u4 w' ⟨rfl,k⟩; exact Or.inl ⟨by simp only [Act.put,sa1,sa2,sa3]; rfl,fun W' hW'=>by have h9:=hW'.cell q4 (by simp); simp only [Act.put,sa1,sa2,sa3]; go_simp⟩)
  (by rintro u1 u3 u4 u8 w' ⟨⟨rfl,rfl⟩,k⟩; exact Or.inl ⟨by simp only [Act.put,sa1,sa2,sa3]; rfl,fun W' hW'=>by  simp only [Act.put,sa1,sa2,sa3]; go_simp⟩)
  (by rintro u1 u3 u4 u8 w' ⟨⟨rfl,rfl⟩,k⟩; exact Or.inl ⟨by simp only [Act.put,sa1,sa2,sa3]; rfl,fun W' hW'=>by  simp only [Act.put,sa1,sa2,sa3]; go_simp⟩)
  (by rintro u1 u3 u4 u8 w' ⟨⟨rfl,rfl⟩,k⟩; exact Or.inl ⟨by simp only [Act.put,sa1,sa2,sa3]; rfl,fun W' hW'=>by  simp only [Act.put,sa1,sa2,sa3]; go_simp⟩)
  (by rintro u1 u3 u4 u8 w' ⟨⟨rfl,rfl⟩,k⟩; exact Or.inl ⟨by simp only [Act.put,sa1,sa2,sa3]; rfl,fun W' hW'=>by  simp only [Act.put,sa1,sa2,sa3]; go_simp⟩)
  (by rintro u1 u3 u4 u8 w' ⟨⟨rfl,rfl⟩,k⟩; exact Or.inl ⟨by simp only [Act.put,sa1,sa2,sa3]; rfl,fun W' hW'=>by  simp only [Act.put,sa1,sa2,sa3]; go_simp⟩)
  (by rintro u1 u3 u4 u8 w' ⟨⟨rfl,rfl⟩,k⟩; exact Or.inl ⟨by simp only [Act.put,sa1,sa2,sa3]; rfl,fun W' hW'=>by  simp only [Act.put,sa1,sa2,sa3]; go_simp⟩)
  (by rintro u1 u3 u4 u8 w' ⟨⟨rfl,rfl⟩,k⟩; exact Or.inl ⟨by simp only [Act.put,sa1,sa2,sa3]; rfl,fun W' hW'=>by  simp only [Act.put,sa1,sa2,sa3]; go_simp⟩)
  (by rintro u1 u3 u4 u8 w' ⟨⟨rfl,rfl⟩,k⟩; exact Or.inl ⟨by simp only [Act.put,sa1,sa2,sa3]; rfl,fun W' hW'=>by have h9:=hW'.cell q5 (by simp); simp only [Act.put,sa1,sa2,sa3]; go_simp⟩)
  (by rintro u1 u3 u4 u8 u17 w' ⟨⟨rfl,rfl,rfl⟩,k⟩; exact Or.inl ⟨by simp only [Act.put,sa1,sa2,sa3]; rfl,fun W' hW'=>by simp only [Act.put,sa1,sa2,sa3]; cases σ.off <;> go_simp⟩)
  (by rintro u1 u3 u4 u8 u17 w' ⟨⟨rfl,rfl,rfl⟩,k⟩; exact Or.inl ⟨by simp only [Act.put,sa1,sa2,sa3]; rfl,fun W' hW'=>by  simp only [Act.put,sa1,sa2,sa3]; go_simp⟩)
  ?_
 rintro u1 u3 u4 u8 u17 w9 ⟨⟨rfl,rfl,rfl⟩,k9⟩
 simp only [Act.put,sa1,sa2,sa3]
 have HK9:=hide k9
 clear k9 q4 q5 hd hc
 rcases uh HLM with ⟨rfl,rfl⟩ | ⟨l,m,s,num,byt,so,rfl,rfl,hl,hm,hs⟩
 ·clear HLM
  go_wp2_with fail
  go_ret
  exact ⟨rfl,uh HK9⟩
 ·have hl9:=(uh HK9).heap hl (by simp)
  have hm9:=(uh HK9).heap hm (by simp)
  obtain ⟨c0,c1,c2,c3,c4,c5,c6,c7,c8⟩:=xa3b hm9
  have HNX:=hide (fun j:Nat=>(xb0t l d s (w9.drewN j) hl9).mono (fun e w' h9=>⟨h9.1,0,by rw [h9.2]; rfl⟩):∀ j:Nat,Calls Tryz.prog 22 #[.pointer (some ⟨l,0,none⟩)] (w9.drewN j) fun e w'=>e = .returned (.int .u64 (s.nx:Int))∧∃ n,w' = (w9.drewN j).drewN n)
  have HEP:=hide (fun j:Nat=>(xa8a l d s (w9.drewN j) hl9).mono (fun e w' h9=>⟨h9.1,0,by rw [h9.2]; rfl⟩):∀ j:Nat,Calls Tryz.prog 23 #[.pointer (some ⟨l,0,none⟩)] (w9.drewN j) fun e w'=>e = .returned (.int .u64 (s.ep:Int))∧∃ n,w' = (w9.drewN j).drewN n)
  have HST:=hide (fun j:Nat=>(xa8b l d s (w9.drewN j) hl9).mono (fun e w' h9=>⟨h9.1,0,by rw [h9.2]; rfl⟩):∀ j:Nat,Calls Tryz.prog 25 #[.pointer (some ⟨l,0,none⟩)] (w9.drewN j) fun e w'=>e = .returned (.int .i64 (s.st:Int))∧∃ n,w' = (w9.drewN j).drewN n)
  have HSG:=hide (fun j:Nat=>(xa8e l d s (w9.drewN j) hl9).mono (fun e w' h9=>⟨h9.1,0,by rw [h9.2]; rfl⟩):∀ j:Nat,Calls Tryz.prog 24 #[.pointer (some ⟨l,0,none⟩)] (w9.drewN j) fun e w'=>e = .returned (.int .u64 (s.num:Int))∧∃ n,w' = (w9.drewN j).drewN n)
  have e1:((s.nx:Int) == (s.nx:Int)) = true:=by simp
  have e2:((s.ep:Int) == (s.ep:Int)) = true:=by simp
  have e3:((s.st:Int) == (s.st:Int)) = true:=by simp
  have HS:=hide hs
  clear hl hm hl9 hm9 HLM hs
  by_cases h0:s.st = 0
  ·have h0':((s.st:Int) != 0) = false:=by rw [h0]; rfl
   have hn:=uh HS h0
   subst hn
   have e4:((s.num:Int) == (s.num:Int)) = true:=by simp
   clear h0
   go_upto_region 5 with fail
   refine wp_region_quiet_lit (by kernel_rfl) (by kernel_rfl) ?_
   repeat (go_big_quiet_step (first | (go_at_call 22; exact Calls.mono (uh HNX _) (fun e x h=>⟨h.1,by obtain ⟨m,hm⟩:=h.2; exact ⟨_,by rw [hm,xa0g]⟩⟩)) | (go_at_call 23; exact Calls.mono (uh HEP _) (fun e x h=>⟨h.1,by obtain ⟨m,hm⟩:=h.2; exact ⟨_,by rw [hm,xa0g]⟩⟩)) | (go_at_call 25; exact Calls.mono (uh HST _) (fun e x h=>⟨h.1,by obtain ⟨m,hm⟩:=h.2; exact ⟨_,by rw [hm,xa0g]⟩⟩)) | (go_at_call 24; exact Calls.mono (uh HSG _) (fun e x h=>⟨h.1,by obtain ⟨m,hm⟩:=h.2; exact ⟨_,by rw [hm,xa0g]⟩⟩))))
   refine wpQuiet_nil ?_
   rintro _ ⟨m5,rfl⟩
   go_wp2_with fail
   go_ret
   exact ⟨rfl,(uh HK9).drewN m5⟩
  ·have h0':((s.st:Int) != 0) = true:=by rw [bne_iff_ne]; omega
   clear h0
   go_upto_region 5 with fail
   refine wp_region_quiet_lit (by kernel_rfl) (by kernel_rfl) ?_
   repeat (go_big_quiet_step (first | (go_at_call 22; exact Calls.mono (uh HNX _) (fun e x h=>⟨h.1,by obtain ⟨m,hm⟩:=h.2; exact ⟨_,by rw [hm,xa0g]⟩⟩)) | (go_at_call 23; exact Calls.mono (uh HEP _) (fun e x h=>⟨h.1,by obtain ⟨m,hm⟩:=h.2; exact ⟨_,by rw [hm,xa0g]⟩⟩)) | (go_at_call 25; exact Calls.mono (uh HST _) (fun e x h=>⟨h.1,by obtain ⟨m,hm⟩:=h.2; exact ⟨_,by rw [hm,xa0g]⟩⟩)) | (go_at_call 24; exact Calls.mono (uh HSG _) (fun e x h=>⟨h.1,by obtain ⟨m,hm⟩:=h.2; exact ⟨_,by rw [hm,xa0g]⟩⟩))))
   refine wpQuiet_nil ?_
   rintro _ ⟨m5,rfl⟩
   go_wp2_with fail
   go_ret
   exact ⟨rfl,(uh HK9).drewN m5⟩
end
end Go.Proofs.YtejchncdimcdbaaGreatDoor
