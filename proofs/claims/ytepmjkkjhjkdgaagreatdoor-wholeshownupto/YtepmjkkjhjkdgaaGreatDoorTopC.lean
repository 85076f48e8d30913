import Derived.Test.YtepmjkkjhjkdgaaGreatDoorTopB
namespace Go.Proofs.YtepmjkkjhjkdgaaGreatDoor
set_option linter.unusedVariables false
set_option linter.unusedSimpArgs false
set_option maxRecDepth 100000
section
open Go Go.RowKit Go.BigFrame
theorem ln_sp {P:Program} {Q:Exit→Act→World→Prop} {id:Nat} {o0 o1 o2 o3 o4 o5 o6 o7 o8 o9:Oper} {a:Act} {w:World} (hm:P.follows .mixedOrders = true) (hb:linB #[o0,o1,o2,o3,o4,o5,o6,o7,o8,o9] [0,1,2,3,4,5,6] [7,8,9] [] = true) (hg:([o0,o1,o2,o3,o4,o5,o6]++([o7,o8,o9]++[])).all (fun o=>o.guard.isNone) = true) (S:World→Prop) (hS:S w.drew)
    (h:LinY P S (ChL P Q S (Q .normal) [o7,o8,o9]) [o0,o1,o2,o3,o4,o5,o6] a w.drew):(Code.region id #[o0,o1,o2,o3,o4,o5,o6,o7,o8,o9] true).wp P Q a w:=xa0y (R:=[0,1,2,3,4,5,6]) (C:=[7,8,9]) (rs:=[o0,o1,o2,o3,o4,o5,o6]) (cs:=[o7,o8,o9]) hm hb rfl rfl hg hS h
theorem ln_kid {P:Program} {Q:Exit→Act→World→Prop} {id:Nat} {o0 o1 o2 o3 o4 o5 o6 o7 o8 o9 o10 o11 o12:Oper} {a:Act} {w:World} (hm:P.follows .mixedOrders = true) (hb:linB #[o0,o1,o2,o3,o4,o5,o6,o7,o8,o9,o10,o11,o12] [0,1,2,3,4,5,6,7,8] [9,10,11,12] [] = true) (hg:([o0,o1,o2,o3,o4,o5,o6,o7,o8]++([o9,o10,o11,o12]++[])).all (fun o=>o.guard.isNone) = true) (S:World→Prop) (hS:S w.drew)
    (h:LinY P S (ChL P Q S (Q .normal) [o9,o10,o11,o12]) [o0,o1,o2,o3,o4,o5,o6,o7,o8] a w.drew):(Code.region id #[o0,o1,o2,o3,o4,o5,o6,o7,o8,o9,o10,o11,o12] true).wp P Q a w:=xa0y (R:=[0,1,2,3,4,5,6,7,8]) (C:=[9,10,11,12]) (rs:=[o0,o1,o2,o3,o4,o5,o6,o7,o8]) (cs:=[o9,o10,o11,o12]) hm hb rfl rfl hg hS h
theorem ln_fk {P:Program} {Q:Exit→Act→World→Prop} {id:Nat} {o0 o1 o2 o3 o4 o5 o6 o7 o8 o9 o10 o11 o12 o13 o14:Oper} {a:Act} {w:World} (hm:P.follows .mixedOrders = true) (hb:linB #[o0,o1,o2,o3,o4,o5,o6,o7,o8,o9,o10,o11,o12,o13,o14] [0,1,2,3,4,5,6,7,8] [9] [10,11,12,13,14] = true) (hg:([o0,o1,o2,o3,o4,o5,o6,o7,o8]++([o9]++[o10,o11,o12,o13,o14])).all (fun o=>o.guard.isNone) = true) (S:World→Prop) (hS:S w.drew)
    (h:LinY P S (ChL P Q S (fun a w=>S w∧LinY P S (Q .normal) [o10,o11,o12,o13,o14] a w) [o9]) [o0,o1,o2,o3,o4,o5,o6,o7,o8] a w.drew):(Code.region id #[o0,o1,o2,o3,o4,o5,o6,o7,o8,o9,o10,o11,o12,o13,o14] true).wp P Q a w:=wp_lin (R:=[0,1,2,3,4,5,6,7,8]) (C:=[9]) (T:=[10,11,12,13,14]) (rs:=[o0,o1,o2,o3,o4,o5,o6,o7,o8]) (cs:=[o9]) (ts:=[o10,o11,o12,o13,o14]) hm hb rfl rfl rfl hg hS h
theorem ln_wk {P:Program} {Q:Exit→Act→World→Prop} {id:Nat} {o0 o1 o2 o3 o4 o5 o6 o7 o8 o9 o10 o11 o12 o13 o14:Oper} {a:Act} {w:World} (hm:P.follows .mixedOrders = true) (hb:linB #[o0,o1,o2,o3,o4,o5,o6,o7,o8,o9,o10,o11,o12,o13,o14] [0,1,2,3,4,6,7,8,9,10,11] [5,12,13,14] [] = true) (hg:([o0,o1,o2,o3,o4,o6,o7,o8,o9,o10,o11]++([o5,o12,o13,o14]++[])).all (fun o=>o.guard.isNone) = true) (S:World→Prop) (hS:S w.drew)
    (h:LinY P S (ChL P Q S (Q .normal) [o5,o12,o13,o14]) [o0,o1,o2,o3,o4,o6,o7,o8,o9,o10,o11] a w.drew):(Code.region id #[o0,o1,o2,o3,o4,o5,o6,o7,o8,o9,o10,o11,o12,o13,o14] true).wp P Q a w:=xa0y (R:=[0,1,2,3,4,6,7,8,9,10,11]) (C:=[5,12,13,14]) (rs:=[o0,o1,o2,o3,o4,o6,o7,o8,o9,o10,o11]) (cs:=[o5,o12,o13,o14]) hm hb rfl rfl hg hS h
theorem ln_wo {P:Program} {Q:Exit→Act→World→Prop} {id:Nat} {o0 o1 o2 o3 o4 o5 o6 o7 o8 o9 o10 o11 o12 o13 o14 o15:Oper} {a:Act} {w:World} (hm:P.follows .mixedOrders = true) (hb:linB #[o0,o1,o2,o3,o4,o5,o6,o7,o8,o9,o10,o11,o12,o13,o14,o15] [0,1,2,3,4,5,7,8,9,10,11,12] [6,13,14,15] [] = true) (hg:([o0,o1,o2,o3,o4,o5,o7,o8,o9,o10,o11,o12]++([o6,o13,o14,o15]++[])).all (fun o=>o.guard.isNone) = true) (S:World→Prop) (hS:S w.drew)
    (h:LinY P S (ChL P Q S (Q .normal) [o6,o13,o14,o15]) [o0,o1,o2,o3,o4,o5,o7,o8,o9,o10,o11,o12] a w.drew):(Code.region id #[o0,o1,o2,o3,o4,o5,o6,o7,o8,o9,o10,o11,o12,o13,o14,o15] true).wp P Q a w:=xa0y (R:=[0,1,2,3,4,5,7,8,9,10,11,12]) (C:=[6,13,14,15]) (rs:=[o0,o1,o2,o3,o4,o5,o7,o8,o9,o10,o11,o12]) (cs:=[o6,o13,o14,o15]) hm hb rfl rfl hg hS h
theorem ln_wn {P:Program} {Q:Exit→Act→World→Prop} {id:Nat} {o0 o1 o2 o3 o4 o5 o6 o7 o8 o9 o10 o11 o12 o13 o14 o15 o16 o17:Oper} {a:Act} {w:World} (hm:P.follows .mixedOrders = true) (hb:linB2 #[o0,o1,o2,o3,o4,o5,o6,o7,o8,o9,o10,o11,o12,o13,o14,o15,o16,o17] [0,1,2,3,4,5,7,8,9,10,11,12,13] 6 14 [15,16,17] = true) (hg:([o0,o1,o2,o3,o4,o5,o7,o8,o9,o10,o11,o12,o13]++(o6 :: o14 :: [o15,o16,o17])).all (fun o=>o.guard.isNone) = true) (S:World→Prop) (hS:S w.drew)
    (h:LinY P S (fun a w=>ChL P Q S (Q .normal) (o6 :: o14 :: [o15,o16,o17]) a w∧ChL P Q S (Q .normal) (o14 :: o6 :: [o15,o16,o17]) a w) [o0,o1,o2,o3,o4,o5,o7,o8,o9,o10,o11,o12,o13] a w.drew):(Code.region id #[o0,o1,o2,o3,o4,o5,o6,o7,o8,o9,o10,o11,o12,o13,o14,o15,o16,o17] true).wp P Q a w:=xc0g (R:=[0,1,2,3,4,5,7,8,9,10,11,12,13]) (i:=6) (j:=14) (C:=[15,16,17]) (rs:=[o0,o1,o2,o3,o4,o5,o7,o8,o9,o10,o11,o12,o13]) (cs:=[o15,o16,o17]) hm hb rfl rfl rfl rfl hg hS h
theorem ln_ar {P:Program} {Q:Exit→Act→World→Prop} {id:Nat} {o0 o1 o2 o3 o4 o5 o6 o7 o8 o9 o10:Oper} {a:Act} {w:World} (hm:P.follows .mixedOrders = true) (hb:linB #[o0,o1,o2,o3,o4,o5,o6,o7,o8,o9,o10] [0,1,2,3,4,5,6,7,8] [9,10] [] = true) (hg:([o0,o1,o2,o3,o4,o5,o6,o7,o8]++([o9,o10]++[])).all (fun o=>o.guard.isNone) = true) (S:World→Prop) (hS:S w.drew)
    (h:LinY P S (ChL P Q S (Q .normal) [o9,o10]) [o0,o1,o2,o3,o4,o5,o6,o7,o8] a w.drew):(Code.region id #[o0,o1,o2,o3,o4,o5,o6,o7,o8,o9,o10] true).wp P Q a w:=xa0y (R:=[0,1,2,3,4,5,6,7,8]) (C:=[9,10]) (rs:=[o0,o1,o2,o3,o4,o5,o6,o7,o8]) (cs:=[o9,o10]) hm hb rfl rfl hg hS h
theorem ln_eg {P:Program} {Q:Exit→Act→World→Prop} {id:Nat} {o0 o1 o2 o3 o4 o5 o6 o7 o8 o9 o10 o11 o12:Oper} {a:Act} {w:World} (hm:P.follows .mixedOrders = true) (hb:linB #[o0,o1,o2,o3,o4,o5,o6,o7,o8,o9,o10,o11,o12] [0,1,2,3,4,5,6,7,8,9,10,11,12] [] [] = true) (S:World→Prop) (hS:S w.drew)
    (h:LinG P #[o0,o1,o2,o3,o4,o5,o6,o7,o8,o9,o10,o11,o12] S (Q .normal) [o0,o1,o2,o3,o4,o5,o6,o7,o8,o9,o10,o11,o12] a w.drew):(Code.region id #[o0,o1,o2,o3,o4,o5,o6,o7,o8,o9,o10,o11,o12] true).wp P Q a w:=xb9n (R:=[0,1,2,3,4,5,6,7,8,9,10,11,12]) (rs:=[o0,o1,o2,o3,o4,o5,o6,o7,o8,o9,o10,o11,o12]) hm hb rfl hS h
theorem ln_ew {P:Program} {Q:Exit→Act→World→Prop} {id:Nat} {o0 o1 o2 o3 o4 o5 o6 o7 o8 o9 o10:Oper} {a:Act} {w:World} (hm:P.follows .mixedOrders = true) (hb:linB #[o0,o1,o2,o3,o4,o5,o6,o7,o8,o9,o10] [0,1,2,3,4,5] [6,7,8,9,10] [] = true) (hg:([o0,o1,o2,o3,o4,o5]++([o6,o7,o8,o9,o10]++[])).all (fun o=>o.guard.isNone) = true) (S:World→Prop) (hS:S w.drew)
    (h:LinY P S (ChL P Q S (Q .normal) [o6,o7,o8,o9,o10]) [o0,o1,o2,o3,o4,o5] a w.drew):(Code.region id #[o0,o1,o2,o3,o4,o5,o6,o7,o8,o9,o10] true).wp P Q a w:=xa0y (R:=[0,1,2,3,4,5]) (C:=[6,7,8,9,10]) (rs:=[o0,o1,o2,o3,o4,o5]) (cs:=[o6,o7,o8,o9,o10]) hm hb rfl rfl hg hS h
theorem ln_eo {P:Program} {Q:Exit→Act→World→Prop} {id:Nat} {o0 o1 o2 o3 o4 o5 o6 o7 o8:Oper} {a:Act} {w:World} (hm:P.follows .mixedOrders = true) (hb:linB #[o0,o1,o2,o3,o4,o5,o6,o7,o8] [0,1,2,3,4] [5,6,7,8] [] = true) (hg:([o0,o1,o2,o3,o4]++([o5,o6,o7,o8]++[])).all (fun o=>o.guard.isNone) = true) (S:World→Prop) (hS:S w.drew)
    (h:LinY P S (ChL P Q S (Q .normal) [o5,o6,o7,o8]) [o0,o1,o2,o3,o4] a w.drew):(Code.region id #[o0,o1,o2,o3,o4,o5,o6,o7,o8] true).wp P Q a w:=xa0y (R:=[0,1,2,3,4]) (C:=[5,6,7,8]) (rs:=[o0,o1,o2,o3,o4]) (cs:=[o5,o6,o7,o8]) hm hb rfl rfl hg hS h
theorem ln_li {P:Program} {Q:Exit→Act→World→Prop} {id:Nat} {o0 o1 o2 o3 o4 o5 o6 o7 o8 o9 o10 o11 o12 o13 o14 o15:Oper} {a:Act} {w:World} (hm:P.follows .mixedOrders = true) (hb:linB #[o0,o1,o2,o3,o4,o5,o6,o7,o8,o9,o10,o11,o12,o13,o14,o15] [0,1,2,3,4,5,6,7,8,9,10,11,13] [12,14,15] [] = true) (hg:([o0,o1,o2,o3,o4,o5,o6,o7,o8,o9,o10,o11,o13]++([o12,o14,o15]++[])).all (fun o=>o.guard.isNone) = true) (S:World→Prop) (hS:S w.drew)
    (h:LinY P S (ChL P Q S (Q .normal) [o12,o14,o15]) [o0,o1,o2,o3,o4,o5,o6,o7,o8,o9,o10,o11,o13] a w.drew):(Code.region id #[o0,o1,o2,o3,o4,o5,o6,o7,o8,o9,o10,o11,o12,o13,o14,o15] true).wp P Q a w:=xa0y (R:=[0,1,2,3,4,5,6,7,8,9,10,11,13]) (C:=[12,14,15]) (rs:=[o0,o1,o2,o3,o4,o5,o6,o7,o8,o9,o10,o11,o13]) (cs:=[o12,o14,o15]) hm hb rfl rfl hg hS h
end
section
open Go.RowKit Go.BigFrame
theorem RdC.tk {s:Nat} {w:World} {ao:Option Addr} {n c:Nat} {rows:List (List Value)} (h:RdC s w (.slice ao n c) rows) {m:Nat} (hm:m≤n):RdC s w (.slice ao m c) (rows.take m):=by
  obtain ⟨ao',len,cap,e,h1,h2,h3,h4⟩:=h
  cases e
  refine ⟨ao,m,c,rfl,by rw [List.length_take]; omega,by omega,h3,fun hp=>?_⟩
  obtain ⟨b,off,rfl,hc⟩:=h4 (by omega)
  exact ⟨b,off,rfl,fun i hi=>by rw [List.getElem_take]; exact hc i (by rw [List.length_take] at hi; omega)⟩
theorem RdC.dp {s:Nat} {w:World} {b off n c:Nat} {rows:List (List Value)} (h:RdC s w (.slice (some ⟨b,off,none⟩) n c) rows) {m:Nat} (hm:m≤n):RdC s w (.slice (some ⟨b,off + m * s,none⟩) (n - m) (c - m)) (rows.drop m):=by
  obtain ⟨ao',len,cap,e,h1,h2,h3,h4⟩:=h
  cases e
  refine ⟨_,n - m,c - m,rfl,by rw [List.length_drop]; omega,by omega,by omega,fun hp=>?_⟩
  obtain ⟨b',off',e,hc⟩:=h4 (by omega)
  cases e
  refine ⟨b,off + m * s,rfl,fun i hi=>?_⟩
  rw [List.getElem_drop,show off + m * s + i * s = off + (m + i) * s by rw [Nat.add_mul]; omega]
  exact hc (m + i) (by rw [List.length_drop] at hi; omega)
theorem ownsBase {w:World} {T s B C:Nat} {v:Value} {L:List (List (List Value))} (h:OwC T s B w v L) (hBC:C≤B):OwC T s C w v L:=by
  obtain ⟨h1,h2⟩:=h
  refine ⟨h1,?_⟩
  rcases h2 with h2 | ⟨g,cap,cur,hv,hg,r⟩
  · exact Or.inl h2
  · exact Or.inr ⟨g,cap,cur,hv,Nat.le_trans hBC hg,r⟩
set_option maxHeartbeats 1000000 in
theorem xa3x (b off n c fr tz:Nat) (iv:Value) (rows its:List (List Value)) (w:World) (h:RdC 2 w (.slice (some ⟨b,off,none⟩) n c) rows) (hi:RdC 2 w iv its) (h1:fr≤n) (h2:tz≤n) (hl:n≤10000000000) (hl2:its.length≤10000000000)
    (hs:∀ r∈rows,r.length = 2) (hone:∀ r∈rows,∀ u∈r,u.oneCell' = true) (hsi:∀ r∈its,r.length = 2) (honei:∀ r∈its,∀ u∈r,u.oneCell' = true) :
    Calls Tryz.prog 126 #[.slice (some ⟨b,off,none⟩) n c,.int .i64 fr,.int .i64 tz,iv] w fun e w'=>∃ v',e = .returned v'∧OwC 33 2 w.heap.size w' v' [rows.take fr,its,rows.drop tz]∧Kept [] w w':=by
  obtain ⟨ai,ni,ci,rfl,hi1,_⟩:=id hi
  subst hi1
  obtain ⟨_,_,_,e0,hr1,hr2,hr3,_⟩:=id h
  cases e0
  have q1:¬ c < fr:=by omega
  have q2:¬ n < tz:=by omega
  have q3:fr≤c:=by omega
  have HR:=hide h
  have HI:=hide hi
  obtain ⟨o2,hcase⟩:∃ o2,(c = tz∧o2 = off)∨(¬ c = tz∧o2 = off + tz * 2):=by
    by_cases hct:c = tz
    · exact ⟨off,Or.inl ⟨hct,rfl⟩⟩
    · exact ⟨_,Or.inr ⟨hct,rfl⟩⟩
  have HD:=hide (by
    rcases hcase with ⟨hct,rfl⟩ | ⟨hct,rfl⟩
    · exact ⟨_,n - tz,c - tz,rfl,by rw [List.length_drop]; omega,by omega,by omega,fun hp=>by omega⟩
    · first | exact h.dp h2 | (have h9:=h.dp h2; rw [Nat.mul_one] at h9; exact h9):RdC 2 w (.slice (some ⟨b,o2,none⟩) (n - tz) (c - tz)) (rows.drop tz))
  have HT:=hide (h.tk h1)
  have HCA:=hide hcase
  have HRL:=hide hr1
  clear h hi hcase hr1
  go_enter Tryz.func126,Tryz.ntmps126
  go_wp2
  refine ln_sp (by kernel_rfl) (by kernel_rfl) rfl (fun W=>Kept [] w W) (Kept.refl [] w).drew ?_
  refine LinY.mv (x:=.tmp 0) rfl (.slice (some ⟨b,off,none⟩) n c) rfl (by simp only [Act.put,sa1,sa2,sa3]; rfl) ?_
  refine LinY.mv (x:=.tmp 1) rfl (.int .i64 fr) rfl (by simp only [Act.put,sa1,sa2,sa3]; rfl) ?_
  refine LinY.rd (.slice (some ⟨b,off,none⟩) fr c) (fun W hW=>by go_simp) (by simp only [Act.put,sa1,sa2,sa3]; rfl) ?_
  refine LinY.mv (x:=.tmp 3) rfl (.slice ai its.length ci) rfl (by simp only [Act.put,sa1,sa2,sa3]; rfl) ?_
  refine LinY.mv (x:=.tmp 0) rfl (.slice (some ⟨b,off,none⟩) n c) rfl (by simp only [Act.put,sa1,sa2,sa3]; rfl) ?_
  refine LinY.mv (x:=.tmp 2) rfl (.int .i64 tz) rfl (by simp only [Act.put,sa1,sa2,sa3]; rfl) ?_
  refine LinY.rd (.slice (some ⟨b,o2,none⟩) (n - tz) (c - tz)) (fun W hW=>by rcases uh HCA with ⟨h8,h9⟩ | ⟨h8,h9⟩ <;> (subst h9; go_simp)) (by simp only [Act.put,sa1,sa2,sa3]; rfl) ?_
  have hbs:Tryz.prog.underlying 232 = some (.slice 22):=Tryz.underlying232
  refine ChL.op (w':=w.drew.alloc (.cells #[.slice (some ⟨b,off,none⟩) fr c,.slice ai its.length ci,.slice (some ⟨b,o2,none⟩) (n - tz) (c - tz)] 22)) (.slice (some ⟨w.heap.size,0,none⟩) 3 3) (by go_simp; skip) (((Kept.refl [] w).drew).alloc _) (by simp only [Act.put,sa1,sa2,sa3]; rfl) ?_
  have HW1:=hide (((Kept.refl [] w).drew).alloc (.cells #[.slice (some ⟨b,off,none⟩) fr c,.slice ai its.length ci,.slice (some ⟨b,o2,none⟩) (n - tz) (c - tz)] 22))
  have HG1:=hide (show ∀ X,(w.drew.alloc X).heap[w.heap.size]? = some X from fun X=>heap_alloc_new w.drew X); have HG1:=hide (uh HG1 (.cells #[.slice (some ⟨b,off,none⟩) fr c,.slice ai its.length ci,.slice (some ⟨b,o2,none⟩) (n - tz) (c - tz)] 22))
  generalize w.drew.alloc (.cells #[.slice (some ⟨b,off,none⟩) fr c,.slice ai its.length ci,.slice (some ⟨b,o2,none⟩) (n - tz) (c - tz)] 22) = W1 at HW1 HG1 ⊢
  have hrm:RdMC 2 W1 (.slice (some ⟨w.heap.size,0,none⟩) 3 3) [rows.take fr,its,rows.drop tz]:=by
    refine ⟨_,3,3,[.slice (some ⟨b,off,none⟩) fr c,.slice ai its.length ci,.slice (some ⟨b,o2,none⟩) (n - tz) (c - tz)],rfl,rfl,Nat.le_refl _,by omega,fun i hi=>?_,fun _=>⟨w.heap.size,0,rfl,fun i hi=>?_⟩⟩
    · match i,hi with
      | 0,_=>exact (uh HT).old (uh HW1)
      | 1,_=>exact (uh HI).old (uh HW1)
      | 2,_=>exact (uh HD).old (uh HW1)
    · rw [cell_of_row _ _ _ _ _ _ (uh HG1)]
      match i,hi with
      | 0,_=>rfl
      | 1,_=>rfl
      | 2,_=>rfl
  have hsz:∀ l∈[rows.take fr,its,rows.drop tz],(∀ r∈l,r.length = 2)∧∀ r∈l,∀ u∈r,u.oneCell' = true:=by
    intro l hl
    simp only [List.mem_cons,List.not_mem_nil,or_false] at hl
    rcases hl with rfl | rfl | rfl
    · exact ⟨fun r hr=>hs r (List.mem_of_mem_take hr),fun r hr=>hone r (List.mem_of_mem_take hr)⟩
    · exact ⟨hsi,honei⟩
    · exact ⟨fun r hr=>hs r (List.mem_of_mem_drop hr),fun r hr=>hone r (List.mem_of_mem_drop hr)⟩
  refine ChL.call rfl Tryz.call156 [.slice (some ⟨w.heap.size,0,none⟩) 3 3] rfl (xb0f _ _ W1 hrm (fun l hl=>(hsz l hl).1) (fun l hl=>(hsz l hl).2) (by have:=uh HRL; simp; omega)) ?_
  rintro e w2 ⟨v',rfl,ho,k2⟩
  have hk2:=(uh HW1).trans k2 (by simp)
  have hsz1:=(uh HW1).size
  refine ⟨v',rfl,hk2,?_⟩
  simp only [Act.put,sa1,sa2,sa3]
  refine ChL.op v' (by go_simp) hk2 (by simp only [Act.put,sa1,sa2,sa3]; rfl) (ChL.fin ?_)
  go_wp2
  go_ret
  exact ⟨_,rfl,ownsBase ho hsz1,hk2⟩
set_option maxHeartbeats 1000000 in
theorem xa2j (b off n c fr tz:Nat) (iv:Value) (rows its:List (List Value)) (w:World) (h:RdC 1 w (.slice (some ⟨b,off,none⟩) n c) rows) (hi:RdC 1 w iv its) (h1:fr≤n) (h2:tz≤n) (hl:n≤10000000000) (hl2:its.length≤10000000000)
    (hs:∀ r∈rows,r.length = 1) (hone:∀ r∈rows,∀ u∈r,u.oneCell' = true) (hsi:∀ r∈its,r.length = 1) (honei:∀ r∈its,∀ u∈r,u.oneCell' = true) :
    Calls Tryz.prog 123 #[.slice (some ⟨b,off,none⟩) n c,.int .i64 fr,.int .i64 tz,iv] w fun e w'=>∃ v',e = .returned v'∧OwC 95 1 w.heap.size w' v' [rows.take fr,its,rows.drop tz]∧Kept [] w w':=by
  obtain ⟨ai,ni,ci,rfl,hi1,_⟩:=id hi
  subst hi1
  obtain ⟨_,_,_,e0,hr1,hr2,hr3,_⟩:=id h
  cases e0
  have q1:¬ c < fr:=by omega
  have q2:¬ n < tz:=by omega
  have q3:fr≤c:=by omega
  have HR:=hide h
  have HI:=hide hi
  obtain ⟨o2,hcase⟩:∃ o2,(c = tz∧o2 = off)∨(¬ c = tz∧o2 = off + tz ):=by
    by_cases hct:c = tz
    · exact ⟨off,Or.inl ⟨hct,rfl⟩⟩
    · exact ⟨_,Or.inr ⟨hct,rfl⟩⟩
  have HD:=hide (by
    rcases hcase with ⟨hct,rfl⟩ | ⟨hct,rfl⟩
    · exact ⟨_,n - tz,c - tz,rfl,by rw [List.length_drop]; omega,by omega,by omega,fun hp=>by omega⟩
    · first | exact h.dp h2 | (have h9:=h.dp h2; rw [Nat.mul_one] at h9; exact h9):RdC 1 w (.slice (some ⟨b,o2,none⟩) (n - tz) (c - tz)) (rows.drop tz))
  have HT:=hide (h.tk h1)
  have HCA:=hide hcase
  have HRL:=hide hr1
  clear h hi hcase hr1
  go_enter Tryz.func123,Tryz.ntmps123
  go_wp2
  refine ln_sp (by kernel_rfl) (by kernel_rfl) rfl (fun W=>Kept [] w W) (Kept.refl [] w).drew ?_
  refine LinY.mv (x:=.tmp 0) rfl (.slice (some ⟨b,off,none⟩) n c) rfl (by simp only [Act.put,sa1,sa2,sa3]; rfl) ?_
  refine LinY.mv (x:=.tmp 1) rfl (.int .i64 fr) rfl (by simp only [Act.put,sa1,sa2,sa3]; rfl) ?_
  refine LinY.rd (.slice (some ⟨b,off,none⟩) fr c) (fun W hW=>by go_simp) (by simp only [Act.put,sa1,sa2,sa3]; rfl) ?_
  refine LinY.mv (x:=.tmp 3) rfl (.slice ai its.length ci) rfl (by simp only [Act.put,sa1,sa2,sa3]; rfl) ?_
  refine LinY.mv (x:=.tmp 0) rfl (.slice (some ⟨b,off,none⟩) n c) rfl (by simp only [Act.put,sa1,sa2,sa3]; rfl) ?_
  refine LinY.mv (x:=.tmp 2) rfl (.int .i64 tz) rfl (by simp only [Act.put,sa1,sa2,sa3]; rfl) ?_
  refine LinY.rd (.slice (some ⟨b,o2,none⟩) (n - tz) (c - tz)) (fun W hW=>by rcases uh HCA with ⟨h8,h9⟩ | ⟨h8,h9⟩ <;> (subst h9; go_simp)) (by simp only [Act.put,sa1,sa2,sa3]; rfl) ?_
  have hbs:Tryz.prog.underlying 229 = some (.slice 113):=Tryz.underlying229
  refine ChL.op (w':=w.drew.alloc (.cells #[.slice (some ⟨b,off,none⟩) fr c,.slice ai its.length ci,.slice (some ⟨b,o2,none⟩) (n - tz) (c - tz)] 113)) (.slice (some ⟨w.heap.size,0,none⟩) 3 3) (by go_simp; skip) (((Kept.refl [] w).drew).alloc _) (by simp only [Act.put,sa1,sa2,sa3]; rfl) ?_
  have HW1:=hide (((Kept.refl [] w).drew).alloc (.cells #[.slice (some ⟨b,off,none⟩) fr c,.slice ai its.length ci,.slice (some ⟨b,o2,none⟩) (n - tz) (c - tz)] 113))
  have HG1:=hide (show ∀ X,(w.drew.alloc X).heap[w.heap.size]? = some X from fun X=>heap_alloc_new w.drew X); have HG1:=hide (uh HG1 (.cells #[.slice (some ⟨b,off,none⟩) fr c,.slice ai its.length ci,.slice (some ⟨b,o2,none⟩) (n - tz) (c - tz)] 113))
  generalize w.drew.alloc (.cells #[.slice (some ⟨b,off,none⟩) fr c,.slice ai its.length ci,.slice (some ⟨b,o2,none⟩) (n - tz) (c - tz)] 113) = W1 at HW1 HG1 ⊢
  have hrm:RdMC 1 W1 (.slice (some ⟨w.heap.size,0,none⟩) 3 3) [rows.take fr,its,rows.drop tz]:=by
    refine ⟨_,3,3,[.slice (some ⟨b,off,none⟩) fr c,.slice ai its.length ci,.slice (some ⟨b,o2,none⟩) (n - tz) (c - tz)],rfl,rfl,Nat.le_refl _,by omega,fun i hi=>?_,fun _=>⟨w.heap.size,0,rfl,fun i hi=>?_⟩⟩
    · match i,hi with
      | 0,_=>exact (uh HT).old (uh HW1)
      | 1,_=>exact (uh HI).old (uh HW1)
      | 2,_=>exact (uh HD).old (uh HW1)
    · rw [cell_of_row _ _ _ _ _ _ (uh HG1)]
      match i,hi with
      | 0,_=>rfl
      | 1,_=>rfl
      | 2,_=>rfl
  have hsz:∀ l∈[rows.take fr,its,rows.drop tz],(∀ r∈l,r.length = 1)∧∀ r∈l,∀ u∈r,u.oneCell' = true:=by
    intro l hl
    simp only [List.mem_cons,List.not_mem_nil,or_false] at hl
    rcases hl with rfl | rfl | rfl
    · exact ⟨fun r hr=>hs r (List.mem_of_mem_take hr),fun r hr=>hone r (List.mem_of_mem_take hr)⟩
    · exact ⟨hsi,honei⟩
    · exact ⟨fun r hr=>hs r (List.mem_of_mem_drop hr),fun r hr=>hone r (List.mem_of_mem_drop hr)⟩
  refine ChL.call rfl Tryz.call154 [.slice (some ⟨w.heap.size,0,none⟩) 3 3] rfl (xb0c _ _ W1 hrm (fun l hl=>(hsz l hl).1) (fun l hl=>(hsz l hl).2) (by have:=uh HRL; simp; omega)) ?_
  rintro e w2 ⟨v',rfl,ho,k2⟩
  have hk2:=(uh HW1).trans k2 (by simp)
  have hsz1:=(uh HW1).size
  refine ⟨v',rfl,hk2,?_⟩
  simp only [Act.put,sa1,sa2,sa3]
  refine ChL.op v' (by go_simp) hk2 (by simp only [Act.put,sa1,sa2,sa3]; rfl) (ChL.fin ?_)
  go_wp2
  go_ret
  exact ⟨_,rfl,ownsBase ho hsz1,hk2⟩
def KidAt (S:Nat→Prop) (H:Hs) (W:World) (f:Nat) (v:Value) (L:Prs):Prop:=(L = []∧v = .nilIface)∨TreeAt S H W f v L
theorem KidAt.agr {S:Nat→Prop} {H:Hs} {W W':World} {f:Nat} {v:Value} {L:Prs} (h:KidAt S H W f v L) (a:Agr S W W'):KidAt S H W' f v L:=by
  rcases h with h | h
  · exact Or.inl h
  · exact Or.inr (h.agr a)
theorem xa5f {b i:Nat} (h:i≤16):rankB b (i:Int) = cnt b i:=by
  unfold rankB
  rw [if_neg (by omega)]
  by_cases h1:i≤15
  · rw [if_pos (by omega),Int.toNat_natCast]
  · rw [if_neg (by omega),show i = 16 by omega]
set_option maxHeartbeats 2000000 in
theorem xb9w (S:Nat→Prop) (H:Hs) (f g i:Nat) (L:Prs) (w:World) (h:TreeAt S H w (f + 1) (brV g) L) (hs:sgl H L = false) (hi:i < 16) :
    Calls Tryz.prog 119 #[.pointer (some ⟨g,0,none⟩),.int .i64 i] w fun e w'=>∃ v,e = .returned v∧KidAt S H w' f v (ch H (63 - f) i L)∧Kept [] w w':=by
  obtain ⟨g',kv,vs,e,hS,hh,hrow,hlen,hk⟩:=h.2 hs
  have eg:g' = g:=by injection e with _ e2; injection e2 with e3; injection e3 with e4; injection e4 with e5; exact e5.symm
  subst eg
  clear e
  obtain ⟨b0,b1,_⟩:=br_row hh
  have hbl:=bm_lt H (63 - f) L
  have hbit:=bm_bit (H:=H) (d:=63 - f) (L:=L) hi
  have hcl:=xa1f H (63 - f) L
  have hka:=kid_at (H:=H) (d:=63 - f) (L:=L) hi
  have hsa:=set_at (bm H (63 - f) L) hi
  generalize bm H (63 - f) L = x at b0 hbl hbit hcl hka hsa
  have HB0:=hide b0
  have HB1:=hide b1
  have hrk:=xa5f (b:=x) (i:=i) (by omega)
  have hhas:=xb3b x i (by omega)
  clear hh
  cases ht:x.testBit i with
  | false =>
    rw [ht] at hhas hbit
    have hne:ch H (63 - f) i L = []:=by simpa using hbit.symm
    rw [hne]
    clear hne hka hsa hbit hcl hk hrow hlen h hS b1
    go_enter Tryz.func119,Tryz.ntmps119
    go_wp2_with fail
    refine Calls.mono (xa6h x i w hbl (by omega)) ?_
    rintro e w1 ⟨rfl,k1⟩
    rw [hhas]
    go_wp2
    go_ret
    exact ⟨_,rfl,Or.inl ⟨rfl,rfl⟩,k1⟩
  | true =>
    rw [ht] at hhas
    have hk2:=hka ht
    have hcn:=(hsa ht).2
    rw [← hcl,← hlen] at hcn
    have hkc:=hk _ hcn
    have hch:(kidsL H (63 - f) L).getD (cnt x i) [] = ch H (63 - f) i L:=by rw [List.getD_eq_getElem?_getD,hk2]; rfl
    rw [hch] at hkc
    obtain ⟨b,off,cap,rfl,hc1,hc2,hSb,hc3⟩:=hrow
    have hcc:=hc3 _ hcn
    generalize vs.getD (cnt x i) undef = v at hkc hcc
    obtain ⟨c,hc⟩:∃ c,cnt x i = c:=⟨_,rfl⟩
    rw [hc] at hcn hcc hrk
    obtain ⟨n,hn⟩:∃ n,vs.length = n:=⟨_,rfl⟩
    rw [hn] at hcn hc1 HB1 b1
    have HCC:=hide hcc
    have HKC:=hide hkc
    have hcn':(c:Int) < n:=by omega
    clear hka hsa hbit hcl hk hc3 hk2 hch hc hn hlen hkc hcc
    go_enter Tryz.func119,Tryz.ntmps119
    go_wp2_with fail
    refine Calls.mono (xa6h x i w hbl (by omega)) ?_
    rintro e w1 ⟨rfl,k1⟩
    rw [hhas]
    have HK1:=hide k1
    clear k1 b0 b1
    go_upto_region 3 with fail
    refine ln_kid (by kernel_rfl) (by kernel_rfl) rfl (fun W=>Kept [] w W) (uh HK1).drew ?_
    refine LinY.mv (x:=.tmp 0) rfl (.pointer (some ⟨g',0,none⟩)) rfl (by simp only [Act.put,sa1,sa2,sa3]; rfl) ?_
    refine LinY.rd (.pointer (some ⟨g',0,none⟩)) (fun W hW=>by go_simp) (by simp only [Act.put,sa1,sa2,sa3]; rfl) ?_
    refine LinY.rd (.pointer (some ⟨g',1,none⟩)) (fun W hW=>by go_simp) (by simp only [Act.put,sa1,sa2,sa3]; rfl) ?_
    refine LinY.rd (.slice (some ⟨b,off,none⟩) n cap) (fun W hW=>by have h9:=hW.cell (uh HB1) (by simp); go_simp) (by simp only [Act.put,sa1,sa2,sa3]; rfl) ?_
    refine LinY.mv (x:=.tmp 0) rfl (.pointer (some ⟨g',0,none⟩)) rfl (by simp only [Act.put,sa1,sa2,sa3]; rfl) ?_
    refine LinY.rd (.pointer (some ⟨g',0,none⟩)) (fun W hW=>by go_simp) (by simp only [Act.put,sa1,sa2,sa3]; rfl) ?_
    refine LinY.rd (.pointer (some ⟨g',0,none⟩)) (fun W hW=>by go_simp) (by simp only [Act.put,sa1,sa2,sa3]; rfl) ?_
    refine LinY.rd (.int .u16 x) (fun W hW=>by have h9:=hW.cell (uh HB0) (by simp); go_simp) (by simp only [Act.put,sa1,sa2,sa3]; rfl) ?_
    refine LinY.mv (x:=.tmp 1) rfl (.int .i64 i) rfl (by simp only [Act.put,sa1,sa2,sa3]; rfl) ?_
    refine ChL.call rfl Tryz.call100 [.int .u16 x,.int .i64 i] rfl (xa3z x i _ hbl (by omega)) ?_
    rintro e w2 ⟨rfl,k2⟩
    have hk2:=((uh HK1).drew).trans k2 (by simp)
    refine ⟨_,rfl,hk2,?_⟩
    rw [hrk]
    simp only [Act.put,sa1,sa2,sa3]
    have h8:=hk2.cell (uh HCC) (by simp)
    refine ChL.op (.pointer (some ⟨b,off + c,none⟩)) (by go_simp) hk2 (by simp only [Act.put,sa1,sa2,sa3]; rfl) ?_
    refine ChL.op v (by go_simp) hk2 (by simp only [Act.put,sa1,sa2,sa3]; rfl) ?_
    refine ChL.op v (by go_simp) hk2 (by simp only [Act.put,sa1,sa2,sa3]; rfl) (ChL.fin ?_)
    go_wp2
    go_ret
    exact ⟨_,rfl,Or.inr ((uh HKC).agr (Agr.nil hk2)),hk2⟩
def A2 (R:Value→Prs→Prop) (vs:List Value) (Ls:List Prs):Prop:=vs.length = Ls.length∧∀ i,i < vs.length→R (vs.getD i undef) (Ls.getD i [])
theorem A2.nil (R:Value→Prs→Prop):A2 R [] []:=⟨rfl,fun i h=>by simp at h⟩
theorem A2.one {R:Value→Prs→Prop} {v:Value} {L:Prs} (h:R v L):A2 R [v] [L]:=⟨rfl,fun i hi=>by
  have:i = 0:=by simp at hi; omega
  subst this; exact h⟩
theorem A2.app {R:Value→Prs→Prop} {a b:List Value} {A B:List Prs} (h:A2 R a A) (k:A2 R b B):A2 R (a++b) (A++B):=by
  refine ⟨by rw [List.length_append,List.length_append,h.1,k.1],fun i hi=>?_⟩
  rw [List.length_append] at hi
  by_cases hlt:i < a.length
  · have h1:=h.2 i hlt
    rw [List.getD_eq_getElem?_getD,List.getElem?_append_left hlt,List.getD_eq_getElem?_getD,List.getElem?_append_left (by rw [← h.1]; exact hlt),← List.getD_eq_getElem?_getD,← List.getD_eq_getElem?_getD]
    exact h1
  · have h1:=k.2 (i - a.length) (by omega)
    rw [List.getD_eq_getElem?_getD,List.getElem?_append_right (by omega),List.getD_eq_getElem?_getD,List.getElem?_append_right (by rw [← h.1]; omega),← h.1,← List.getD_eq_getElem?_getD,← List.getD_eq_getElem?_getD]
    exact h1
theorem A2.tk {R:Value→Prs→Prop} {a:List Value} {A:List Prs} (h:A2 R a A) (m:Nat):A2 R (a.take m) (A.take m):=by
  refine ⟨by rw [List.length_take,List.length_take,h.1],fun i hi=>?_⟩
  rw [List.length_take] at hi
  have h1:=h.2 i (by omega)
  rw [List.getD_eq_getElem?_getD,List.getElem?_take_of_lt (by omega),List.getD_eq_getElem?_getD,List.getElem?_take_of_lt (by omega),← List.getD_eq_getElem?_getD,← List.getD_eq_getElem?_getD]
  exact h1
theorem A2.dp {R:Value→Prs→Prop} {a:List Value} {A:List Prs} (h:A2 R a A) (m:Nat):A2 R (a.drop m) (A.drop m):=by
  refine ⟨by rw [List.length_drop,List.length_drop,h.1],fun i hi=>?_⟩
  rw [List.length_drop] at hi
  have h1:=h.2 (m + i) (by omega)
  rw [List.getD_eq_getElem?_getD,List.getElem?_drop,List.getD_eq_getElem?_getD,List.getElem?_drop,← List.getD_eq_getElem?_getD,← List.getD_eq_getElem?_getD]
  exact h1
theorem A2.imp {R R':Value→Prs→Prop} {a:List Value} {A:List Prs} (h:A2 R a A) (hi:∀ v L,R v L→R' v L):A2 R' a A:=⟨h.1,fun i hl=>hi _ _ (h.2 i hl)⟩
def sing (v:Value):List Value:=[v]
theorem xb4p (l:List Value):(l.map sing).flatten = l:=by
  induction l with
  | nil=>rfl
  | cons v l ih=>rw [List.map_cons,List.flatten_cons,ih]; rfl
theorem SRow.rdC {S:Nat→Prop} {w:World} {v:Value} {vs:List Value} (h:SRow S w v vs):RdC 1 w v (vs.map sing):=by
  obtain ⟨b,off,cap,rfl,h1,h2,_,h4⟩:=h
  refine ⟨_,_,_,rfl,by rw [List.length_map],h1,h2,fun _=>⟨b,off,rfl,fun i hi j u hj=>?_⟩⟩
  rw [List.length_map] at hi
  rw [List.getElem_map] at hj
  have hj0:j = 0:=by
    have:=(List.getElem?_eq_some_iff.1 hj).1
    simp [sing] at this; omega
  subst hj0
  have h5:=h4 i hi
  rw [List.getD_eq_getElem?_getD,List.getElem?_eq_getElem hi,Option.getD_some] at h5
  rw [Nat.mul_one,Nat.add_zero,h5]
  exact hj
theorem xa8j {S:Nat→Prop} {w:World} {v:Value} {B:Nat} {a b c:List Value} (h:OwC 95 1 B w v [a.map sing,b.map sing,c.map sing]) (hn:0 < (a++(b++c)).length) (hl:(a++(b++c)).length≤1000000) (hS:∀ y,B≤y→S y):SRow S w v (a++(b++c)):=by
  unfold OwC at h
  have e1:[a.map sing,b.map sing,c.map sing].flatten.length = (a++(b++c)).length:=by simp
  have e2:[a.map sing,b.map sing,c.map sing].flatten.flatten = a++(b++c):=by
    simp only [List.flatten_cons,List.flatten_nil,List.append_nil,List.flatten_append,xb4p]
  rw [e1,e2] at h
  have h0:=h
  rcases h.2 with ⟨_,h9⟩ | ⟨g,cap,cur,rfl,hg,hh,hc,hm,_⟩
  · omega
  · refine ⟨g,0,cap,rfl,hc,by unfold maxLen at hm; omega,hS g hg,fun i hi=>?_⟩
    have h9:=h0.cells (g:=g) rfl i ((a++(b++c)).getD i undef) (by rw [List.getD_eq_getElem?_getD,List.getElem?_eq_getElem hi]; rfl)
    rw [Addr.add_lit] at h9
    exact h9
theorem xa9j {S:Nat→Prop} {k f:Nat} {W:World} {v:Value} {L:Prs} (h:TreeAt S (hsZ k) W f v L):v.oneCell' = true:=by
  rcases h.own with ⟨g,_,_,_,rfl,_⟩ | ⟨g,_,_,_,rfl,_⟩ <;> rfl
theorem xb9s {S:Nat→Prop} {k f:Nat} {W:World} {vs:List Value} {Ls:List Prs} (h:A2 (TreeAt S (hsZ k) W f) vs Ls):(∀ r∈vs.map sing,r.length = 1)∧∀ r∈vs.map sing,∀ u∈r,u.oneCell' = true:=by
  constructor
  · intro r hr
    obtain ⟨v,_,rfl⟩:=List.mem_map.1 hr
    rfl
  · intro r hr u hu
    obtain ⟨v,hv,rfl⟩:=List.mem_map.1 hr
    have:u = v:=by simpa [sing] using hu
    subst this
    obtain ⟨i,hi,rfl⟩:=List.getElem_of_mem hv
    have h1:=h.2 i hi
    rw [List.getD_eq_getElem?_getD,List.getElem?_eq_getElem hi,Option.getD_some] at h1
    exact xa9j h1
theorem en_bk (g:Nat) (w:World):(binOp .eql 95 (bkV g) .nilIface).run Tryz.prog w = .ok (.bool false) w:=by kernel_rfl
theorem en_br (g:Nat) (w:World):(binOp .eql 95 (brV g) .nilIface).run Tryz.prog w = .ok (.bool false) w:=by kernel_rfl
theorem eg_bk (g:Nat) (x y:Operand) (w:World):(eqGuard .eql 95 x y (bkV g) .nilIface).run Tryz.prog w = .ok () w:=by kernel_rfl
theorem eg_br (g:Nat) (x y:Operand) (w:World):(eqGuard .eql 95 x y (brV g) .nilIface).run Tryz.prog w = .ok () w:=by kernel_rfl
theorem en_nil (w:World):(binOp .eql 95 .nilIface .nilIface).run Tryz.prog w = .ok (.bool true) w:=by kernel_rfl
set_option maxHeartbeats 2000000 in
theorem xb0g (S:Nat→Prop) (k f g i:Nat) (L L':Prs) (nv:Value) (w:World) (hk:1≤k∧k≤32) (hS:∀ y,w.heap.size≤y→S y) (h:TreeAt S (hsZ k) w (f + 1) (brV g) L) (hs:sgl (hsZ k) L = false) (hi:i < 16)
    (hn:KidAt S (hsZ k) w f nv (ch (hsZ k) (63 - f) i L')) (hsw:∀ j,j < 16→j≠i→ch (hsZ k) (63 - f) j L' = ch (hsZ k) (63 - f) j L) (hne:L'≠[]) (hT:Tabs w) :
    Calls Tryz.prog 81 #[.pointer (some ⟨g,0,none⟩),.int .i64 k,.int .i64 i,nv] w fun e w'=>∃ v,e = .returned v∧TreeAt S (hsZ k) w' (f + 1) v L'∧Kept [] w w':=by
  obtain ⟨g',kv,vs,e,hSg,hh,hrow,hlen,hkd⟩:=h.2 hs
  have eg:g' = g:=by injection e with _ e2; injection e2 with e3; injection e3 with e4; injection e4 with e5; exact e5.symm
  subst eg
  clear e
  obtain ⟨b0,b1,_⟩:=br_row hh
  have hbs:=xb9p (H:=hsZ k) (d:=63 - f) hi hsw
  have hks:=xb5t (H:=hsZ k) (d:=63 - f) hi hsw
  have hbl:=bm_lt (hsZ k) (63 - f) L
  have hbd:=xb9u (bm (hsZ k) (63 - f) L) hi
  have hcl:=xa1f (hsZ k) (63 - f) L
  have hkp:=xa2t (hsZ_ok hk) (d:=63 - f) hne
  have hrk0:=xa5f (b:=bm (hsZ k) (63 - f) L) (i:=i) (by omega)
  have hrk1:=xa5f (b:=bm (hsZ k) (63 - f) L) (i:=i + 1) (by omega)
  rw [show ((i + 1:Nat):Int) = (i:Int) + 1 by omega] at hrk1
  have hA:A2 (TreeAt S (hsZ k) w f) vs (kidsL (hsZ k) (63 - f) L):=⟨hlen,hkd⟩
  rw [← hlen] at hcl
  have hwi:IntKind.i64.wrap ((i:Int) + 1) = (i:Int) + 1:=by simp [IntKind.wrap,IntKind.signed,IntKind.bits]; omega
  generalize bm (hsZ k) (63 - f) L = x at *
  generalize kidsL (hsZ k) (63 - f) L = Ks at *
  rw [← hcl] at hbd
  obtain ⟨c0,hc0⟩:∃ c,cnt x i = c:=⟨_,rfl⟩
  obtain ⟨c1,hc1⟩:∃ c,cnt x (i + 1) = c:=⟨_,rfl⟩
  rw [hc0] at hbd hks hrk0
  rw [hc1] at hbd hks hrk1
  have HB0:=hide b0
  have HB1:=hide b1
  have HBS:=hide hbs
  have HKS:=hide hks
  have HA:=hide hA
  have HRow:=hide hrow
  have HKP:=hide hkp
  have HTb:=hide hT
  have hcell:=xb9s hA
  have hrd:=hrow.rdC
  obtain ⟨b,off,cap,rfl,hcap1,hcap2,hSb,_⟩:=hrow
  obtain ⟨n,hnn⟩:∃ n,vs.length = n:=⟨_,rfl⟩
  rw [hnn] at hbd hcap1 HB1 hrd
  have HRD:=hide hrd
  have HN:=hide hnn
  have HCE:=hide hcell
  have hn16:n≤16:=by rw [← hnn,hcl]; exact cnt_le _ _
  clear hh hlen hkd hA hc0 hc1 hcl hbs hks b0 b1 hkp hT hrd hnn hcell h hs hsw
  go_enter Tryz.func81,Tryz.ntmps81
  go_wp2
  refine ln_wk (by kernel_rfl) (by kernel_rfl) rfl (fun W=>Kept [] w W) (Kept.refl [] w).drew ?_
  refine LinY.mv (x:=.tmp 0) rfl (.pointer (some ⟨g',0,none⟩)) rfl (by simp only [Act.put,sa1,sa2,sa3]; rfl) ?_
  refine LinY.rd (.pointer (some ⟨g',0,none⟩)) (fun W hW=>by go_simp) (by simp only [Act.put,sa1,sa2,sa3]; rfl) ?_
  refine LinY.rd (.pointer (some ⟨g',0,none⟩)) (fun W hW=>by go_simp) (by simp only [Act.put,sa1,sa2,sa3]; rfl) ?_
  refine LinY.rd (.int .u16 x) (fun W hW=>by have h9:=hW.cell (uh HB0) (by simp); go_simp) (by simp only [Act.put,sa1,sa2,sa3]; rfl) ?_
  refine LinY.mv (x:=.tmp 2) rfl (.int .i64 i) rfl (by simp only [Act.put,sa1,sa2,sa3]; rfl) ?_
  refine LinY.mv (x:=.tmp 0) rfl (.pointer (some ⟨g',0,none⟩)) rfl (by simp only [Act.put,sa1,sa2,sa3]; rfl) ?_
  refine LinY.rd (.pointer (some ⟨g',0,none⟩)) (fun W hW=>by go_simp) (by simp only [Act.put,sa1,sa2,sa3]; rfl) ?_
  refine LinY.rd (.pointer (some ⟨g',0,none⟩)) (fun W hW=>by go_simp) (by simp only [Act.put,sa1,sa2,sa3]; rfl) ?_
  refine LinY.rd (.int .u16 x) (fun W hW=>by have h9:=hW.cell (uh HB0) (by simp); go_simp) (by simp only [Act.put,sa1,sa2,sa3]; rfl) ?_
  refine LinY.mv (x:=.tmp 2) rfl (.int .i64 i) rfl (by simp only [Act.put,sa1,sa2,sa3]; rfl) ?_
  refine LinY.rd (.int .i64 ((i:Int) + 1)) (fun W hW=>by go_simp) (by simp only [Act.put,sa1,sa2,sa3]; rfl) ?_
  refine ChL.call rfl Tryz.call100 [.int .u16 x,.int .i64 i] rfl (xa3z x i _ hbl (by omega)) ?_
  rintro e w2 ⟨rfl,k2⟩
  have hk2:=((Kept.refl [] w).drew).trans k2 (by simp)
  refine ⟨_,rfl,hk2,?_⟩
  rw [hrk0]
  simp only [Act.put,sa1,sa2,sa3]
  refine ChL.call rfl Tryz.call100 [.int .u16 x,.int .i64 ((i:Int) + 1)] rfl (xa3z x ((i:Int) + 1) w2 hbl (by omega)) ?_
  rintro e w3 ⟨rfl,k3⟩
  have hk3:=hk2.trans k3 (by simp)
  refine ⟨_,rfl,hk3,?_⟩
  rw [hrk1]
  simp only [Act.put,sa1,sa2,sa3]
  refine ChL.op (.int .i64 c0) (by go_simp) hk3 (by simp only [Act.put,sa1,sa2,sa3]; rfl) ?_
  refine ChL.op (.int .i64 c1) (by go_simp) hk3 (by simp only [Act.put,sa1,sa2,sa3]; rfl) (ChL.fin ?_)
  have HK3:=hide hk3
  clear hk2 hk3 k2 k3
  have he1:=en_bk
  have he2:=en_br
  have he3:=en_nil
  rcases hn with ⟨hnil,rfl⟩ | hn
  · rw [hnil] at HBS HKS
    have hbo:=xb6m x (i:Int) hbl
    have HBO:=hide (by have h9:=uh HBS; simpa using h9:bm (hsZ k) (63 - f) L' = outB x (i:Int))
    have HKO:=hide (by have h9:=uh HKS; simpa using h9:kidsL (hsZ k) (63 - f) L' = Ks.take c0++([]++Ks.drop c1))
    have HAO:=hide (((uh HA).tk c0).app ((A2.nil _).app ((uh HA).dp c1)))
    clear HBS HKS
    go_upto_region 3 with fail
    refine ln_wo (by kernel_rfl) (by kernel_rfl) (by rfl) (fun W=>Kept [] w W) (uh HK3).drew ?_
    refine LinY.mv (x:=.tmp 1) rfl (.int .i64 k) rfl (by simp only [Act.put,sa1,sa2,sa3]; rfl) ?_
    refine LinY.mv (x:=.tmp 0) rfl (.pointer (some ⟨g',0,none⟩)) rfl (by simp only [Act.put,sa1,sa2,sa3]; rfl) ?_
    refine LinY.rd (.pointer (some ⟨g',0,none⟩)) (fun W hW=>by go_simp) (by simp only [Act.put,sa1,sa2,sa3]; rfl) ?_
    refine LinY.rd (.pointer (some ⟨g',0,none⟩)) (fun W hW=>by go_simp) (by simp only [Act.put,sa1,sa2,sa3]; rfl) ?_
    refine LinY.rd (.int .u16 x) (fun W hW=>by have h9:=hW.cell (uh HB0) (by simp); go_simp) (by simp only [Act.put,sa1,sa2,sa3]; rfl) ?_
    refine LinY.mv (x:=.tmp 2) rfl (.int .i64 i) rfl (by simp only [Act.put,sa1,sa2,sa3]; rfl) ?_
    refine LinY.mv (x:=.tmp 0) rfl (.pointer (some ⟨g',0,none⟩)) rfl (by simp only [Act.put,sa1,sa2,sa3]; rfl) ?_
    refine LinY.rd (.pointer (some ⟨g',0,none⟩)) (fun W hW=>by go_simp) (by simp only [Act.put,sa1,sa2,sa3]; rfl) ?_
    refine LinY.rd (.pointer (some ⟨g',1,none⟩)) (fun W hW=>by go_simp) (by simp only [Act.put,sa1,sa2,sa3]; rfl) ?_
    refine LinY.rd (.slice (some ⟨b,off,none⟩) n cap) (fun W hW=>by have h9:=hW.cell (uh HB1) (by simp); go_simp) (by simp only [Act.put,sa1,sa2,sa3]; rfl) ?_
    refine LinY.mv (x:=.tmp 9) rfl (.int .i64 c0) rfl (by simp only [Act.put,sa1,sa2,sa3]; rfl) ?_
    refine LinY.mv (x:=.tmp 10) rfl (.int .i64 c1) rfl (by simp only [Act.put,sa1,sa2,sa3]; rfl) ?_
    refine ChL.call rfl Tryz.call122 [.int .u16 x,.int .i64 i] rfl (xb0a x i _ hbl (by omega)) ?_
    rintro e w4 ⟨rfl,k4⟩
    have hk4:=((uh HK3).drew).trans k4 (by simp)
    refine ⟨_,rfl,hk4,?_⟩
    simp only [Act.put,sa1,sa2,sa3]
    refine ChL.call rfl Tryz.call123 [.slice (some ⟨b,off,none⟩) n cap,.int .i64 c0,.int .i64 c1,.slice none 0 0] rfl (xa2j b off n cap c0 c1 _ (vs.map sing) ([].map sing) w4 ((uh HRD).old hk4) (RdC.nil 1 w4) (by omega) (by omega) (by omega) (by simp) (uh HCE).1 (uh HCE).2 (by simp) (by simp)) ?_
    rintro e w5 ⟨v5,rfl,ho5,k5⟩
    have hk5:=hk4.trans k5 (by simp)
    refine ⟨v5,rfl,hk5,?_⟩
    rw [← List.map_take,← List.map_drop] at ho5
    have hl5:(vs.take c0++([]++vs.drop c1)).length = (kidsL (hsZ k) (63 - f) L').length:=by rw [uh HKO]; exact (uh HAO).1
    have hr5:=xa8j ho5 (by rw [hl5]; exact (uh HKP).1) (by rw [hl5]; have:=(uh HKP).2; omega) (fun y hy=>hS y (by have:=hk4.size; omega))
    simp only [Act.put,sa1,sa2,sa3]
    refine ChL.call rfl Tryz.call121 [.int .i64 k,.int .u16 (outB x (i:Int):Nat),v5] rfl (xa1s S k f (outB x (i:Int)) v5 _ L' w5 hk (fun y hy=>hS y (by have:=hk5.size; omega)) hne (uh HBO).symm hr5 hl5 (by rw [uh HKO]; exact ((uh HAO).imp (fun v L h=>h.agr (Agr.nil hk5))).2) ((uh HTb).k hk5)) ?_
    rintro e w6 ⟨v6,rfl,ht6,k6⟩
    have hk6:=hk5.trans k6 (by simp)
    refine ⟨v6,rfl,hk6,?_⟩
    simp only [Act.put,sa1,sa2,sa3]
    refine ChL.op v6 (by go_simp) hk6 (by simp only [Act.put,sa1,sa2,sa3]; rfl) (ChL.fin ?_)
    go_wp2
    go_ret
    exact ⟨_,rfl,ht6,hk6⟩
  · have hnn2:=hn.ne
    have hie:(ch (hsZ k) (63 - f) i L').isEmpty = false:=by simpa using hnn2
    have hbo:=xa2w x (i:Int) hbl
    have HBO:=hide (by have h9:=uh HBS; rw [hie] at h9; simpa using h9:bm (hsZ k) (63 - f) L' = withB x (i:Int))
    have HKO:=hide (by have h9:=uh HKS; rw [hie] at h9; simpa using h9:kidsL (hsZ k) (63 - f) L' = Ks.take c0++([ch (hsZ k) (63 - f) i L']++Ks.drop c1))
    have HAO:=hide (((uh HA).tk c0).app ((A2.one hn).app ((uh HA).dp c1)))
    have hnc:=xa9j hn
    clear HBS HKS hnn2 hie
    have hty:(∃ q,nv = bkV q)∨∃ q,nv = brV q:=by
      rcases hn.own with ⟨q,_,_,_,e,_⟩ | ⟨q,_,_,_,e,_⟩
      · exact Or.inl ⟨q,e⟩
      · exact Or.inr ⟨q,e⟩
    clear hn
    have hee:∀ W,(binOp .eql 95 nv .nilIface).run Tryz.prog W = .ok (.bool false) W:=by
      rcases hty with ⟨q,rfl⟩ | ⟨q,rfl⟩
      · exact he1 q
      · exact he2 q
    have heg:∀ W,(eqGuard .eql 95 (.tmp 24) (.const .nilIface) nv .nilIface).run Tryz.prog W = .ok () W:=by
      rcases hty with ⟨q,rfl⟩ | ⟨q,rfl⟩
      · exact eg_bk q _ _
      · exact eg_br q _ _
    have hif:∃ t p,nv = .iface t p:=by
      rcases hty with ⟨q,rfl⟩ | ⟨q,rfl⟩ <;> exact ⟨_,_,rfl⟩
    clear hty
    obtain ⟨ti,tp,rfl⟩:=hif
    go_upto_region 4 with fail
    refine ln_wn (by kernel_rfl) (by kernel_rfl) (by rfl) (fun W=>Kept [] w W) (uh HK3).drew ?_
    refine LinY.mv (x:=.tmp 1) rfl (.int .i64 k) rfl (by simp only [Act.put,sa1,sa2,sa3]; rfl) ?_
    refine LinY.mv (x:=.tmp 0) rfl (.pointer (some ⟨g',0,none⟩)) rfl (by simp only [Act.put,sa1,sa2,sa3]; rfl) ?_
    refine LinY.rd (.pointer (some ⟨g',0,none⟩)) (fun W hW=>by go_simp) (by simp only [Act.put,sa1,sa2,sa3]; rfl) ?_
    refine LinY.rd (.pointer (some ⟨g',0,none⟩)) (fun W hW=>by go_simp) (by simp only [Act.put,sa1,sa2,sa3]; rfl) ?_
    refine LinY.rd (.int .u16 x) (fun W hW=>by have h9:=hW.cell (uh HB0) (by simp); go_simp) (by simp only [Act.put,sa1,sa2,sa3]; rfl) ?_
    refine LinY.mv (x:=.tmp 2) rfl (.int .i64 i) rfl (by simp only [Act.put,sa1,sa2,sa3]; rfl) ?_
    refine LinY.mv (x:=.tmp 0) rfl (.pointer (some ⟨g',0,none⟩)) rfl (by simp only [Act.put,sa1,sa2,sa3]; rfl) ?_
    refine LinY.rd (.pointer (some ⟨g',0,none⟩)) (fun W hW=>by go_simp) (by simp only [Act.put,sa1,sa2,sa3]; rfl) ?_
    refine LinY.rd (.pointer (some ⟨g',1,none⟩)) (fun W hW=>by go_simp) (by simp only [Act.put,sa1,sa2,sa3]; rfl) ?_
    refine LinY.rd (.slice (some ⟨b,off,none⟩) n cap) (fun W hW=>by have h9:=hW.cell (uh HB1) (by simp); go_simp) (by simp only [Act.put,sa1,sa2,sa3]; rfl) ?_
    refine LinY.mv (x:=.tmp 9) rfl (.int .i64 c0) rfl (by simp only [Act.put,sa1,sa2,sa3]; rfl) ?_
    refine LinY.mv (x:=.tmp 10) rfl (.int .i64 c1) rfl (by simp only [Act.put,sa1,sa2,sa3]; rfl) ?_
    refine LinY.mv (x:=.tmp 3) rfl (.iface ti tp) rfl (by simp only [Act.put,sa1,sa2,sa3]; rfl) ?_
    have key:∀ X,Kept [] w X→∀ q,X.heap[q]? = some (.cells #[(.iface ti tp)] 95 (0,0))→RdC 1 X (.slice (some ⟨q,0,none⟩) 1 1) ([Value.iface ti tp].map sing):=fun X hX q hq=>by
      refine ⟨_,1,1,rfl,rfl,Nat.le_refl _,by omega,fun _=>⟨q,0,rfl,fun j hj t u hu=>?_⟩⟩
      have hj0:j = 0:=by simp at hj; exact hj
      subst hj0
      have ht0:t = 0:=by
        have:=(List.getElem?_eq_some_iff.1 hu).1
        simp [sing] at this; omega
      subst ht0
      rw [cell_of_row _ _ _ _ _ _ hq]
      simpa [sing] using hu
    refine ⟨?_,?_⟩
    · refine ChL.call rfl Tryz.call124 [.int .u16 x,.int .i64 i] rfl (xa4c x i _ hbl (by omega)) ?_
      rintro e w4 ⟨rfl,k4⟩
      have hk4:=((uh HK3).drew).trans k4 (by simp)
      refine ⟨_,rfl,hk4,?_⟩
      simp only [Act.put,sa1,sa2,sa3]
      refine ChL.op (w':=w4.alloc (.cells #[(.iface ti tp)] 95)) (.slice (some ⟨w4.heap.size,0,none⟩) 1 1) (by go_simp) (hk4.alloc _) (by simp only [Act.put,sa1,sa2,sa3]; rfl) ?_
      have HKX:=hide (hk4.alloc (.cells #[(.iface ti tp)] 95))
      have HQ:=hide (key _ (uh HKX) _ (heap_alloc_new w4 (.cells #[(.iface ti tp)] 95)))
      clear key hk4 k4
      generalize w4.alloc (.cells #[(.iface ti tp)] 95) = X at HKX HQ ⊢
      generalize w4.heap.size = q at HQ ⊢
      try simp only [Act.put,sa1,sa2,sa3]
      refine ChL.call rfl Tryz.call123 [.slice (some ⟨b,off,none⟩) n cap,.int .i64 c0,.int .i64 c1,.slice (some ⟨q,0,none⟩) 1 1] rfl (xa2j b off n cap c0 c1 _ (vs.map sing) ([Value.iface ti tp].map sing) X ((uh HRD).old (uh HKX)) (uh HQ) (by omega) (by omega) (by omega) (by simp) (uh HCE).1 (uh HCE).2 (by simp [sing]) (by simp [sing,hnc])) ?_
      rintro e w5 ⟨v5,rfl,ho5,k5⟩
      have hk5:=(uh HKX).trans k5 (by simp)
      refine ⟨v5,rfl,hk5,?_⟩
      rw [← List.map_take,← List.map_drop] at ho5
      have hl5:(vs.take c0++([Value.iface ti tp]++vs.drop c1)).length = (kidsL (hsZ k) (63 - f) L').length:=by rw [uh HKO]; exact (uh HAO).1
      have hr5:=xa8j ho5 (by rw [hl5]; exact (uh HKP).1) (by rw [hl5]; have:=(uh HKP).2; omega) (fun y hy=>hS y (by have:=(uh HKX).size; omega))
      simp only [Act.put,sa1,sa2,sa3]
      refine ChL.call rfl Tryz.call121 [.int .i64 k,.int .u16 (withB x (i:Int):Nat),v5] rfl (xa1s S k f (withB x (i:Int)) v5 _ L' w5 hk (fun y hy=>hS y (by have:=hk5.size; omega)) hne (uh HBO).symm hr5 hl5 (by rw [uh HKO]; exact ((uh HAO).imp (fun v L h=>h.agr (Agr.nil hk5))).2) ((uh HTb).k hk5)) ?_
      rintro e w6 ⟨v6,rfl,ht6,k6⟩
      have hk6:=hk5.trans k6 (by simp)
      refine ⟨v6,rfl,hk6,?_⟩
      simp only [Act.put,sa1,sa2,sa3]
      refine ChL.op v6 (by go_simp) hk6 (by simp only [Act.put,sa1,sa2,sa3]; rfl) (ChL.fin ?_)
      go_wp2
      go_ret
      exact ⟨_,rfl,ht6,hk6⟩
    · refine ChL.op (w':=w3.drew.alloc (.cells #[(.iface ti tp)] 95)) (.slice (some ⟨w3.heap.size,0,none⟩) 1 1) (by go_simp) (((uh HK3).drew).alloc _) (by simp only [Act.put,sa1,sa2,sa3]; rfl) ?_
      have hka:=((uh HK3).drew).alloc (.cells #[(.iface ti tp)] 95)
      have hqa:(w3.drew.alloc (.cells #[(.iface ti tp)] 95)).heap[w3.heap.size]? = some (.cells #[(.iface ti tp)] 95 (0,0)):=heap_alloc_new w3.drew _
      generalize w3.drew.alloc (.cells #[(.iface ti tp)] 95) = X0 at hka hqa ⊢
      refine ChL.call rfl Tryz.call124 [.int .u16 x,.int .i64 i] rfl (xa4c x i _ hbl (by omega)) ?_
      rintro e X ⟨rfl,k4⟩
      have HKX:=hide (hka.trans k4 (by simp))
      have HQ:=hide (key _ (uh HKX) _ (k4.heap hqa (by simp)))
      refine ⟨_,rfl,uh HKX,?_⟩
      clear key hka hqa k4
      generalize w3.heap.size = q at HQ ⊢
      try simp only [Act.put,sa1,sa2,sa3]
      refine ChL.call rfl Tryz.call123 [.slice (some ⟨b,off,none⟩) n cap,.int .i64 c0,.int .i64 c1,.slice (some ⟨q,0,none⟩) 1 1] rfl (xa2j b off n cap c0 c1 _ (vs.map sing) ([Value.iface ti tp].map sing) X ((uh HRD).old (uh HKX)) (uh HQ) (by omega) (by omega) (by omega) (by simp) (uh HCE).1 (uh HCE).2 (by simp [sing]) (by simp [sing,hnc])) ?_
      rintro e w5 ⟨v5,rfl,ho5,k5⟩
      have hk5:=(uh HKX).trans k5 (by simp)
      refine ⟨v5,rfl,hk5,?_⟩
      rw [← List.map_take,← List.map_drop] at ho5
      have hl5:(vs.take c0++([Value.iface ti tp]++vs.drop c1)).length = (kidsL (hsZ k) (63 - f) L').length:=by rw [uh HKO]; exact (uh HAO).1
      have hr5:=xa8j ho5 (by rw [hl5]; exact (uh HKP).1) (by rw [hl5]; have:=(uh HKP).2; omega) (fun y hy=>hS y (by have:=(uh HKX).size; omega))
      simp only [Act.put,sa1,sa2,sa3]
      refine ChL.call rfl Tryz.call121 [.int .i64 k,.int .u16 (withB x (i:Int):Nat),v5] rfl (xa1s S k f (withB x (i:Int)) v5 _ L' w5 hk (fun y hy=>hS y (by have:=hk5.size; omega)) hne (uh HBO).symm hr5 hl5 (by rw [uh HKO]; exact ((uh HAO).imp (fun v L h=>h.agr (Agr.nil hk5))).2) ((uh HTb).k hk5)) ?_
      rintro e w6 ⟨v6,rfl,ht6,k6⟩
      have hk6:=hk5.trans k6 (by simp)
      refine ⟨v6,rfl,hk6,?_⟩
      simp only [Act.put,sa1,sa2,sa3]
      refine ChL.op v6 (by go_simp) hk6 (by simp only [Act.put,sa1,sa2,sa3]; rfl) (ChL.fin ?_)
      go_wp2
      go_ret
      exact ⟨_,rfl,ht6,hk6⟩
set_option maxHeartbeats 1000000 in
theorem xb2q (kv vv uv:Value) (a b:List Nat) (w:World) (ha:Rd w kv a) (hb:Rd w uv b) :
    Calls Tryz.prog 153 #[.agg #[kv,vv],uv] w fun e w'=>e = .returned (.int .i64 (ordL a b))∧Kept [] w w':=by
  have HK:=hide ((Kept.refl [] w).alloc (.cells #[kv,vv] 33))
  have HG:=hide (heap_alloc_new w (.cells #[kv,vv] 33))
  have c0:=cell_of_row _ _ 0 _ _ _ (uh HG)
  go_enter Tryz.func153,Tryz.ntmps153
  go_wp2_with fail
  refine Calls.mono (xb3m kv uv a b _ (ha.old (uh HK) (by simp)) (hb.old (uh HK) (by simp))) ?_
  rintro e w1 ⟨rfl,rfl⟩
  go_wp2
  go_ret
  exact ⟨rfl,uh HK⟩
theorem RdK.at {w:World} {ao:Option Addr} {n c:Nat} {L:Prs} (h:RdK w (.slice ao n c) L) {i:Nat} (hi:i < n):∃ b off x y,ao = some ⟨b,off,none⟩∧Rd w x (L.getD i ([],[])).1∧Rd w y (L.getD i ([],[])).2∧w.cell? ⟨b,off + i * 2,none⟩ = some x∧w.cell? ⟨b,off + i * 2 + 1,none⟩ = some y:=by
  obtain ⟨ao',len,cap,vs,us,e,h1,h2,h3,h4,h5⟩:=h
  cases e
  obtain ⟨b,off,rfl,hc⟩:=h5 (by omega)
  exact ⟨b,off,_,_,rfl,(h4 i hi).1,(h4 i hi).2,(hc i hi).1,(hc i hi).2⟩
set_option maxHeartbeats 2000000 in
theorem xb0h (ao:Option Addr) (n c:Nat) (L:Prs) (uv:Value) (key:List Nat) (w:World) (h:RdK w (.slice ao n c) L) (hu:Rd w uv key) (hr:Rise L) (hn:n≤1000000000) :
    Calls Tryz.prog 152 #[.slice ao n c,uv,.func (.func 153) #[] #[]] w fun e w'=>e = .returned (.tuple #[.int .i64 (plc key L),.bool (fnd key L)])∧Kept [] w w':=by
  obtain ⟨_,_,_,_,_,e0,hlen,_⟩:=id h
  cases e0
  have hple:=plc_le key L
  have hlt:∀ i,i < plc key L→ordL (L.getD i ([],[])).1 key < 0:=plc_lt key L
  have hge:∀ i,plc key L≤i→i < n→0≤ordL (L.getD i ([],[])).1 key:=fun i h1 h2=>plc_ge hr i h1 (by omega)
  have hfn:=fnd_at (k:=key) hr
  rw [hlen] at hple hfn
  generalize plc key L = p at *
  generalize fnd key L = fd at *
  have HL:=hide hlen
  have HLT:=hide hlt
  have HGE:=hide hge
  have HFN:=hide hfn
  have HR:=hide h
  have HU:=hide hu
  clear hlen hlt hge hfn h hu hr
  obtain ⟨ua,un,uc,rfl,_⟩:=id (uh HU)
  go_enter Tryz.func152,Tryz.ntmps152
  go_wp2
  go_loopw [9,10] (fun t9 t10 wr=>∃ (i j:Nat),t9 = .int .i64 i∧t10 = .int .i64 j∧i≤p∧p≤j∧j≤n∧Hid (Kept [] w wr)) (fun t9 t10 _=>(intOf t10).toNat - (intOf t9).toNat)
  case atStart=>exact ⟨0,n,rfl,rfl,Nat.zero_le _,hple,Nat.le_refl _,hide (Kept.refl [] w)⟩
  case round =>
    obtain ⟨i,j,rfl,rfl,h1,h2,h3,HK⟩:=hrel
    by_cases hlt:i < j
    · have hlt':(i:Int) < j:=by omega
      obtain ⟨m,hm⟩:∃ m,m = (i + j) / 2:=⟨_,rfl⟩
      have hmm:((i:Int) + (j:Int)) / 2 = (m:Int):=by omega
      have him:i≤m:=by omega
      have hmj:m < j:=by omega
      clear hm
      have hmn:(m:Int) < n:=by omega
      obtain ⟨b,off,x,y,rfl,rx,ry,cx,cy⟩:=((uh HR).old (uh HK)).at (i:=m) (by omega)
      have HX:=hide rx
      have hcm:=uh HLT m
      have hcg:=uh HGE m
      have HU1:=hide ((uh HU).old (uh HK) (by simp))
      generalize (L.getD m ([],[])).1 = Lm at hcm hcg HX
      clear rx ry
      go_wp2_with fail
      refine Calls.mono (xb2q x y _ Lm key wr (uh HX) (uh HU1)) ?_
      rintro e w1 ⟨rfl,k1⟩
      have HK1:=hide ((uh HK).trans k1 (by simp))
      clear k1 HX HU1
      generalize ordL Lm key = q at hcm hcg ⊢
      by_cases hq:q < 0
      · have hmp:m < p:=by
          rcases Nat.lt_or_ge m p with h9 | h9
          · exact h9
          · have:=hcg h9 (by omega); omega
        clear hcm hcg
        go_wp2
        refine ⟨⟨m + 1,j,by go_num,rfl,hmp,h2,h3,HK1⟩,?_⟩
        simp [intOf]; omega
      · have hmp:p≤m:=by
          rcases Nat.lt_or_ge m p with h9 | h9
          · have:=hcm h9; omega
          · exact h9
        clear hcm hcg
        go_wp2
        refine ⟨⟨i,m,rfl,by go_num,h1,hmp,by omega,HK1⟩,?_⟩
        simp [intOf]; omega
    · have hlt':¬ (i:Int) < j:=by omega
      have hip:i = p:=by omega
      subst hip
      by_cases hpn:i < n
      · have hpn':(i:Int) < n:=by omega
        obtain ⟨b,off,x,y,rfl,rx,ry,cx,cy⟩:=((uh HR).old (uh HK)).at (i:=i) hpn
        have HX:=hide rx
        have HU1:=hide ((uh HU).old (uh HK) (by simp))
        have hfd:(ordL (L.getD i ([],[])).1 key == 0) = fd:=by
          have h9:=uh HFN
          rw [Bool.eq_iff_iff,h9,beq_iff_eq]
          constructor
          · intro e; exact ⟨hpn,xa1n e⟩
          · rintro ⟨_,e⟩; rw [e,xa0n]
        have HFD:=hide hfd
        generalize (L.getD i ([],[])).1 = Lm at HX HFD
        clear rx ry hfd
        go_wp2_with fail
        refine Calls.mono (xb2q x y _ Lm key wr (uh HX) (uh HU1)) ?_
        rintro e w1 ⟨rfl,k1⟩
        have HK1:=hide ((uh HK).trans k1 (by simp))
        clear k1 HX HU1
        go_wp2
        go_ret2
        exact ⟨by rw [← uh HFD]; first | rfl | (simp; done),uh HK1⟩
      · have hpn':¬ (i:Int) < n:=by omega
        have hfd:fd = false:=by
          cases h9:fd with
          | false=>rfl
          | true=>have:=(uh HFN).1 h9; omega
        subst hfd
        go_wp2
        go_ret2
        exact ⟨rfl,uh HK⟩
set_option maxHeartbeats 1000000 in
theorem xb4c (S:Nat→Prop) (H:Hs) (g:Nat) (L:Prs) (uv:Value) (key:List Nat) (w:World) (h:BkAt S H w g L) (hD:(H.kd (L.headD ([],[])).1).length = 32) (hu:Rd w uv key) (hr:Rise L) (hn:L.length≤1000000000) :
    Calls Tryz.prog 120 #[.pointer (some ⟨g,0,none⟩),uv] w fun e w'=>e = .returned (.tuple #[.int .i64 (plc key L),.bool (fnd key L)])∧Kept [] w w':=by
  obtain ⟨pv,_,hh,_,hst⟩:=h
  have hk:=hst.rdK
  have c1:=(bk_row hh hD).2.1
  obtain ⟨ao,n,c,vs,us,rfl,hl,_⟩:=id hk
  have HK:=hide hk
  have HL:=hide hl
  clear hst hh hk hl
  go_enter Tryz.func120,Tryz.ntmps120
  go_wp2_with fail
  refine Calls.mono (xb0h ao n c L uv key w (uh HK) hu hr (by rw [← uh HL]; exact hn)) ?_
  rintro e w1 ⟨rfl,k1⟩
  go_wp2
  go_ret2
  exact ⟨rfl,k1⟩
theorem xb7t {w:World} {g:Nat} {t:TypeId} {l:List Value} (h:w.heap[g]? = some (.cells l.toArray t (0,0))) (hl:l.length≤1000000):RdC 1 w (.slice (some ⟨g,0,none⟩) l.length l.length) (l.map sing):=by
  refine ⟨_,_,_,rfl,by rw [List.length_map],Nat.le_refl _,by omega,fun _=>⟨g,0,rfl,fun i hi j u hj=>?_⟩⟩
  rw [List.length_map] at hi
  rw [List.getElem_map] at hj
  have hj0:j = 0:=by
    have:=(List.getElem?_eq_some_iff.1 hj).1
    simp [sing] at this; omega
  subst hj0
  rw [cell_of_row _ _ _ _ _ _ h,List.getElem?_toArray]
  rw [Nat.mul_one,Nat.add_zero,Nat.zero_add,List.getElem?_eq_getElem hi]
  simpa [sing] using hj
theorem xb3i {S:Nat→Prop} {w:World} {g:Nat} {t:TypeId} {l:List Value} (h:w.heap[g]? = some (.cells l.toArray t (0,0))) (hl:l.length≤1000000) (hS:S g):SRow S w (.slice (some ⟨g,0,none⟩) l.length l.length) l :=
  ⟨g,0,l.length,rfl,Nat.le_refl _,by omega,hS,fun i hi=>by
    rw [cell_of_row _ _ _ _ _ _ h,List.getElem?_toArray,Nat.zero_add,List.getElem?_eq_getElem hi,List.getD_eq_getElem?_getD,List.getElem?_eq_getElem hi]; rfl⟩
structure Fk (H:Hs) (part:Nat) (M P1 P2:Prs) (D1 D2:List Nat):Prop where
  kids:kidsL H part M = [P1,P2]
  bm:withB (withB 0 (dgt D1 part:Int)) (dgt D2 part:Int) = bm H part M
  dig:∀ e,e < part→∀ y∈M,dgt (H.kd y.1) e = dgt D1 e
theorem Fork.fst {H:Hs} (hH:H.Ok) {part:Nat} {k v:List Nat} {A:Prs} {DA:List Nat} (h:Fork H part k v A DA) (g:dgt DA part < dgt (H.kd k) part):Fk H part (insP H k v A) A [(k,v)] DA (H.kd k) :=
  ⟨by rw [h.kids hH,if_pos g],h.bms hH _ _ (Or.inl ⟨rfl,rfl⟩),fun e he y hy=>h.dig he y hy⟩
theorem Fork.snd {H:Hs} (hH:H.Ok) {part:Nat} {k v:List Nat} {A:Prs} {DA:List Nat} (h:Fork H part k v A DA) (g:¬ dgt DA part < dgt (H.kd k) part):Fk H part (insP H k v A) [(k,v)] A (H.kd k) DA :=
  ⟨by rw [h.kids hH,if_neg g],h.bms hH _ _ (Or.inr ⟨rfl,rfl⟩),fun e he y hy=>by rw [h.dig he y hy,h.pre e he]⟩
set_option maxHeartbeats 4000000 in
theorem xb3z (S:Nat→Prop) (k dep part ga gb:Nat) (A:Prs) (q v DA:List Nat) (w:World) (hk:1≤k∧k≤32) (hS:∀ y,w.heap.size≤y→S y) (hF:Fork (hsZ k) part q v A DA) (hdp:dep≤part)
    (ha:BkAt S (hsZ k) w ga A) (hb:BkAt S (hsZ k) w gb [(q,v)]) (hT:Tabs w) :
    Calls Tryz.prog 85 #[.int .i64 k,.int .i64 dep,.pointer (some ⟨ga,0,none⟩),.pointer (some ⟨gb,0,none⟩)] w fun e w'=>∃ t,e = .returned t∧TreeAt S (hsZ k) w' (64 - dep) t (insP (hsZ k) q v A)∧Kept [] w w':=by
  have hH:=hsZ_ok hk
  obtain ⟨DB,hDB⟩:∃ DB,(hsZ k).kd q = DB:=⟨_,rfl⟩
  have hDBg:Dg DB:=by rw [← hDB]; exact hH.dg q
  have hDAg:=hF.dga
  have hfA:formB (k:Int) DA = true:=by
    cases hA:A with
    | nil=>exact absurd hA hF.ne
    | cons y _=>rw [← hF.all y (by rw [hA]; simp)]; exact xa9q hk _
  have hfB:formB (k:Int) DB = true:=by rw [← hDB]; exact xa9q hk _
  have hdeep:=hF.deep
  have hdeep2:part < 2 * k:=hdeep
  have hpre:=hF.pre
  have hpne:=hF.pne
  rw [hDB] at hpre hpne
  have hcom:comL DA DB (2 * k) 0 = part:=by
    obtain ⟨_,s2,s3,s4⟩:=xa5v DA DB (2 * k) 0
    rcases Nat.lt_trichotomy (comL DA DB (2 * k) 0) part with g | g | g
    · exact absurd (hpre _ g) (s4 (by omega))
    · exact g
    · exact absurd (s3 part (by omega) g) hpne
  have hfe:formedE (k:Int) [DA,DB] = 0:=xb1b hk (by simp [hfA,hfB])
  have hcC:comC (k:Int) DA DB = part:=by unfold comC; rw [if_pos hfe,Int.toNat_natCast,hcom]
  have hoC:ordC (k:Int) DA DB = ordL DA DB:=by unfold ordC; rw [if_pos hfe]
  have hord:=xb9q hDAg hDBg (c:=part) (by omega) hpre hpne
  have hdA:=dgt_lt hDAg.2 part
  have hdB:=dgt_lt hDBg.2 part
  have hsM:=hF.two
  have hnM:insP (hsZ k) q v A≠[]:=ins_ne
  have hpreM:∀ e,e≤part→Pre (hsZ k) e (insP (hsZ k) q v A):=fun e he=>hF.on he
  have hsA:sgl (hsZ k) A = true:=xa1g.2 (fun x hx y hy=>by rw [hF.all x hx,hF.all y hy])
  have hsB:sgl (hsZ k) [(q,v)] = true:=xa1g.2 (fun x hx y hy=>by simp at hx hy; rw [hx,hy])
  have hkA:(hsZ k).kd (A.headD ([],[])).1 = DA:=by
    cases hA:A with
    | nil=>exact absurd hA hF.ne
    | cons y _=>exact hF.all y (by rw [hA]; simp)
  have hfst:=hF.fst hH
  have hsnd:=hF.snd hH
  rw [hDB] at hfst hsnd
  have HBA:=hide ha
  have HBB:=hide hb
  obtain ⟨pva,_,hha,_,_⟩:=ha
  obtain ⟨pvb,_,hhb,_,_⟩:=hb
  rw [hkA] at hha
  have hkB:(hsZ k).kd (([(q,v)]:Prs).headD ([],[])).1 = DB:=hDB
  rw [hkB] at hhb
  have HRA:=hide (bk_row hha hDAg.1).1
  have HRB:=hide (bk_row hhb hDBg.1).1
  have HTb:=hide hT
  generalize insP (hsZ k) q v A = M at *
  have HCc:=hide hcC
  have HOc:=hide hoC
  have HFe:=hide hfe
  clear hcC hoC hfe hcom hpre hpne hF hha hhb hkA hkB hDB hT
  have hal:=hDAg.1
  have hbl:=hDBg.1
  go_enter Tryz.func85,Tryz.ntmps85
  go_wp2
  refine ln_fk (by kernel_rfl) (by kernel_rfl) rfl (fun W=>Kept [] w W) (Kept.refl [] w).drew ?_
  refine LinY.mv (x:=.tmp 0) rfl (.int .i64 k) rfl (by simp only [Act.put,sa1,sa2,sa3]; rfl) ?_
  refine LinY.mv (x:=.tmp 2) rfl (.pointer (some ⟨ga,0,none⟩)) rfl (by simp only [Act.put,sa1,sa2,sa3]; rfl) ?_
  refine LinY.rd (.pointer (some ⟨ga,0,none⟩)) (fun W hW=>by go_simp) (by simp only [Act.put,sa1,sa2,sa3]; rfl) ?_
  refine LinY.rd (.pointer (some ⟨ga,0,none⟩)) (fun W hW=>by go_simp) (by simp only [Act.put,sa1,sa2,sa3]; rfl) ?_
  refine LinY.ld 58 (.tmp 19) rfl ga 0 rfl (DA.map u8) _ (fun W hW=>hW.rng (uh HRA) (by simp)) Tryz.underlying58 rfl (by rw [List.length_map,hal]; exact Tryz.size_dig) (by simp only [Act.put,sa1,sa2,sa3]; rfl) ?_
  refine LinY.mv (x:=.tmp 3) rfl (.pointer (some ⟨gb,0,none⟩)) rfl (by simp only [Act.put,sa1,sa2,sa3]; rfl) ?_
  refine LinY.rd (.pointer (some ⟨gb,0,none⟩)) (fun W hW=>by go_simp) (by simp only [Act.put,sa1,sa2,sa3]; rfl) ?_
  refine LinY.rd (.pointer (some ⟨gb,0,none⟩)) (fun W hW=>by go_simp) (by simp only [Act.put,sa1,sa2,sa3]; rfl) ?_
  refine LinY.ld 58 (.tmp 23) rfl gb 0 rfl (DB.map u8) _ (fun W hW=>hW.rng (uh HRB) (by simp)) Tryz.underlying58 rfl (by rw [List.length_map,hbl]; exact Tryz.size_dig) (by simp only [Act.put,sa1,sa2,sa3]; rfl) ?_
  refine ChL.call rfl Tryz.call127 [.int .i64 k,.agg (brow DA),.agg (brow DB)] rfl (xa6w k DA DB _ (by omega) hDAg hDBg) ?_
  rintro e w1 ⟨rfl,k1⟩
  have hk1:=((Kept.refl [] w).drew).trans k1 (by simp)
  refine ⟨_,rfl,hk1,?_⟩
  rw [uh HCc,uh HFe]
  simp only [Act.put,sa1,sa2,sa3]
  refine ChL.fin ⟨hk1,?_⟩
  refine LinY.rd (.tuple #[.int .i64 part,.int .i64 ((0:Nat):Int)]) (fun W hW=>by go_simp) (by simp only [Act.put,sa1,sa2,sa3]; rfl) ?_
  refine LinY.rd (.int .i64 part) (fun W hW=>by go_simp) (by simp only [Act.put,sa1,sa2,sa3]; rfl) ?_
  refine LinY.rd (.int .i64 ((0:Nat):Int)) (fun W hW=>by go_simp) (by simp only [Act.put,sa1,sa2,sa3]; rfl) ?_
  refine LinY.rd (.int .i64 part) (fun W hW=>by go_simp) (by simp only [Act.put,sa1,sa2,sa3]; rfl) ?_
  refine LinY.rd (.int .i64 ((0:Nat):Int)) (fun W hW=>by go_simp) (by simp only [Act.put,sa1,sa2,sa3]; rfl) (LinY.fin ?_)
  have HK1:=hide hk1
  clear hk1 k1
  go_upto_region 2 with fail
  refine ln_fk (by kernel_rfl) (by kernel_rfl) rfl (fun W=>Kept [] w W) (uh HK1).drew ?_
  refine LinY.mv (x:=.tmp 0) rfl (.int .i64 k) rfl (by simp only [Act.put,sa1,sa2,sa3]; rfl) ?_
  refine LinY.mv (x:=.tmp 2) rfl (.pointer (some ⟨ga,0,none⟩)) rfl (by simp only [Act.put,sa1,sa2,sa3]; rfl) ?_
  refine LinY.rd (.pointer (some ⟨ga,0,none⟩)) (fun W hW=>by go_simp) (by simp only [Act.put,sa1,sa2,sa3]; rfl) ?_
  refine LinY.rd (.pointer (some ⟨ga,0,none⟩)) (fun W hW=>by go_simp) (by simp only [Act.put,sa1,sa2,sa3]; rfl) ?_
  refine LinY.ld 58 (.tmp 32) rfl ga 0 rfl (DA.map u8) _ (fun W hW=>hW.rng (uh HRA) (by simp)) Tryz.underlying58 rfl (by rw [List.length_map,hal]; exact Tryz.size_dig) (by simp only [Act.put,sa1,sa2,sa3]; rfl) ?_
  refine LinY.mv (x:=.tmp 3) rfl (.pointer (some ⟨gb,0,none⟩)) rfl (by simp only [Act.put,sa1,sa2,sa3]; rfl) ?_
  refine LinY.rd (.pointer (some ⟨gb,0,none⟩)) (fun W hW=>by go_simp) (by simp only [Act.put,sa1,sa2,sa3]; rfl) ?_
  refine LinY.rd (.pointer (some ⟨gb,0,none⟩)) (fun W hW=>by go_simp) (by simp only [Act.put,sa1,sa2,sa3]; rfl) ?_
  refine LinY.ld 58 (.tmp 36) rfl gb 0 rfl (DB.map u8) _ (fun W hW=>hW.rng (uh HRB) (by simp)) Tryz.underlying58 rfl (by rw [List.length_map,hbl]; exact Tryz.size_dig) (by simp only [Act.put,sa1,sa2,sa3]; rfl) ?_
  refine ChL.call rfl Tryz.call128 [.int .i64 k,.agg (brow DA),.agg (brow DB)] rfl (xb5r k DA DB _ (by omega) hDAg hDBg) ?_
  rintro e w2 ⟨rfl,k2⟩
  have hk2:=((uh HK1).drew).trans k2 (by simp)
  refine ⟨_,rfl,hk2,?_⟩
  rw [uh HOc,uh HFe]
  simp only [Act.put,sa1,sa2,sa3]
  have HOr:=hide hord
  clear hord
  generalize ordL DA DB = od at HOr ⊢
  refine ChL.fin ⟨hk2,?_⟩
  refine LinY.rd (.tuple #[.int .i64 od,.int .i64 ((0:Nat):Int)]) (fun W hW=>by go_simp) (by simp only [Act.put,sa1,sa2,sa3]; rfl) ?_
  refine LinY.rd (.int .i64 od) (fun W hW=>by go_simp) (by simp only [Act.put,sa1,sa2,sa3]; rfl) ?_
  refine LinY.rd (.int .i64 ((0:Nat):Int)) (fun W hW=>by go_simp) (by simp only [Act.put,sa1,sa2,sa3]; rfl) ?_
  refine LinY.rd (.int .i64 od) (fun W hW=>by go_simp) (by simp only [Act.put,sa1,sa2,sa3]; rfl) ?_
  refine LinY.rd (.int .i64 ((0:Nat):Int)) (fun W hW=>by go_simp) (by simp only [Act.put,sa1,sa2,sa3]; rfl) (LinY.fin ?_)
  have HK2:=hide hk2
  clear hk2 k2 HK1
  have hw16:∀ D:List Nat,Dg D→∀ e,(dgt D e:Nat) < 16:=fun D hD e=>dgt_lt hD.2 e
  by_cases hlt:dgt DA part < dgt DB part
  case' pos =>
    have hod:¬ (0 < od):=by have:=uh HOr; rw [if_pos hlt] at this; omega
    have hfk:=hide (hfst hlt)
    have HT1:=hide (fun f=>TreeAt.ofBk f (uh HBA) hsA)
    have HT2:=hide (fun f=>TreeAt.ofBk f (uh HBB) hsB)
    have HR1:=HRA
    have HR2:=HRB
    clear hfst hsnd hlt HOr HBA HBB HRA HRB hsA hsB HCc HOc HFe
    generalize ([(q,v)]:Prs) = P2 at hfk HT2
    obtain ⟨P1,rfl⟩:∃ P,P = A:=⟨_,rfl⟩
    obtain ⟨g1,rfl⟩:∃ g,g = ga:=⟨_,rfl⟩
    obtain ⟨g2,rfl⟩:∃ g,g = gb:=⟨_,rfl⟩
    obtain ⟨D1,rfl⟩:∃ D,D = DA:=⟨_,rfl⟩
    obtain ⟨D2,rfl⟩:∃ D,D = DB:=⟨_,rfl⟩
    have hD1:=hDAg
    have hD2:=hDBg
    have hf1:=hfA
    have hf2:=hfB
    have hl1:=hal
    have hl2:=hbl
    clear hDAg hDBg hfA hfB hal hbl
  case' neg =>
    have hod:(0 < od):=by have:=uh HOr; rw [if_neg hlt] at this; omega
    have hfk:=hide (hsnd hlt)
    have HT2:=hide (fun f=>TreeAt.ofBk f (uh HBA) hsA)
    have HT1:=hide (fun f=>TreeAt.ofBk f (uh HBB) hsB)
    have HR2:=HRA
    have HR1:=HRB
    clear hfst hsnd hlt HOr HBA HBB HRA HRB hsA hsB HCc HOc HFe
    generalize ([(q,v)]:Prs) = P1 at hfk HT1
    obtain ⟨P2,rfl⟩:∃ P,P = A:=⟨_,rfl⟩
    obtain ⟨g2,rfl⟩:∃ g,g = ga:=⟨_,rfl⟩
    obtain ⟨g1,rfl⟩:∃ g,g = gb:=⟨_,rfl⟩
    obtain ⟨D2,rfl⟩:∃ D,D = DA:=⟨_,rfl⟩
    obtain ⟨D1,rfl⟩:∃ D,D = DB:=⟨_,rfl⟩
    have hD2:=hDAg
    have hD1:=hDBg
    have hf2:=hfA
    have hf1:=hfB
    have hl2:=hal
    have hl1:=hbl
    clear hDAg hDBg hfA hfB hal hbl
  all_goals
    go_upto_region 5 with fail
    go_wp2_with (refine wpList_load_mid rfl 58 (.tmp 48) rfl g1 0 rfl (D1.map u8) _ ((uh HK2).rng (uh HR1) (by simp)) Tryz.underlying58 rfl (by rw [List.length_map,hl1]; exact Tryz.size_dig) ?_)
    refine Calls.mono (xa1z k D1 part _ hk hD1 hf1 hdeep2) ?_
    rintro e w3 ⟨rfl,k3⟩
    have HK3:=hide ((uh HK2).trans k3 (by simp))
    clear k3
    have hx1:=hw16 D1 hD1 part
    have hx2:=hw16 D2 hD2 part
    have hbm:=(uh hfk).bm
    have hkd:=(uh hfk).kids
    have hdg:=hide (uh hfk).dig
    generalize dgt D1 part = x1 at hx1 hbm ⊢
    obtain ⟨x2,he2⟩:∃ x,dgt D2 part = x:=⟨_,rfl⟩
    rw [he2] at hx2 hbm
    have HE2:=hide he2
    clear he2
    clear hfk
    go_wp2_with fail
    refine Calls.mono (xa4c 0 x1 _ (by decide) (by omega)) ?_
    rintro e w4 ⟨rfl,k4⟩
    have HK4:=hide ((uh HK3).trans k4 (by simp))
    clear k4 HK3 HK2
    have hb1:=xa2w 0 (x1:Int) (by decide)
    generalize withB 0 (x1:Int) = b1 at hbm hb1 ⊢
    go_wp2_with (refine wpList_load_mid rfl 58 (.tmp 58) rfl g2 0 rfl (D2.map u8) _ ((uh HK4).rng (uh HR2) (by simp)) Tryz.underlying58 rfl (by rw [List.length_map,hl2]; exact Tryz.size_dig) ?_)
    refine Calls.mono (xa1z k D2 part _ hk hD2 hf2 hdeep2) ?_
    rintro e w5 ⟨rfl,k5⟩
    have HK5:=hide ((uh HK4).trans k5 (by simp))
    clear k5 HK4
    rw [uh HE2]
    go_wp2_with fail
    refine Calls.mono (xa4c b1 x2 _ hb1 (by omega)) ?_
    rintro e w6 ⟨rfl,k6⟩
    have HK6:=hide ((uh HK5).trans k6 (by simp))
    clear k6 HK5
    rw [hbm]
    have hbx:=bm_lt (hsZ k) part M
    have HKd:=hide hkd
    have hsz6:=(uh HK6).size
    clear hbm hkd HE2 hx1 hx2 hb1
    have hag:=(uh HK6).alloc (.cells #[bkV g1,bkV g2] 95)
    have hrow:=xb3i (S:=S) (l:=[bkV g1,bkV g2]) (heap_alloc_new w6 (.cells #[bkV g1,bkV g2] 95)) (by simp) (hS _ hsz6)
    have HRow:=hide hrow
    have HAg:=hide hag
    clear hrow hag
    go_wp2_with fail
    refine Calls.mono (xa1s S k (63 - part) (bm (hsZ k) part M) _ [bkV g1,bkV g2] M _ hk (fun y hy=>hS y (Nat.le_trans (uh HAg).size hy)) hnM (by rw [show 63 - (63 - part) = part by omega]) (uh HRow) (by rw [show 63 - (63 - part) = part by omega,uh HKd]; rfl) (fun i hi=>by
      rw [show 63 - (63 - part) = part by omega,uh HKd]
      match i,hi with
      | 0,_=>exact (uh HT1 _).agr (Agr.nil (uh HAg))
      | 1,_=>exact (uh HT2 _).agr (Agr.nil (uh HAg))) ((uh HTb).k (uh HAg))) ?_
    rintro e w7 ⟨tv,rfl,ht7,k7⟩
    rw [show 63 - part + 1 = 64 - part by omega] at ht7
    have HT7:=hide ht7
    have HK7:=hide ((uh HAg).trans k7 (by simp))
    clear ht7 k7 HRow HAg HK6 HT1 HT2 hbx
    go_wp2
    go_loopw [9,14] (fun t9 t14 wr=>∃ (e:Nat) (tv:Value),t9 = .int .i64 e∧t14 = tv∧dep≤e∧e≤part∧Hid (TreeAt S (hsZ k) wr (64 - e) tv M)∧Hid (Kept [] w wr)) (fun t9 _ _=>(intOf t9).toNat)
    case atStart=>exact ⟨part,tv,rfl,rfl,hdp,Nat.le_refl _,HT7,HK7⟩
    case round =>
      obtain ⟨e,tw,rfl,rfl,h1,h2,HTe,HKe⟩:=hrel
      by_cases hgt:dep < e
      · obtain ⟨e',rfl⟩:∃ e',e = e' + 1:=⟨e - 1,by omega⟩
        have hgt':(dep:Int) < ((e' + 1:Nat):Int):=by omega
        have hty:∃ t p,u14 = Value.iface t p:=by
          rcases (uh HTe).own with ⟨g,_,_,_,e9,_⟩ | ⟨g,_,_,_,e9,_⟩ <;> exact ⟨_,_,e9⟩
        obtain ⟨ti,tp,rfl⟩:=hty
        have hdge:=uh hdg e' (by omega)
        have hx:=hw16 D1 hD1 e'
        have hbm:=one_bm (H:=hsZ k) (d:=e') hx hnM hdge
        have hko:=xb8l (hsZ_ok hk) (d:=e') hnM hdge
        have HKo:=hide hko
        clear hdge hko
        have hed:e' < 2 * k:=by omega
        go_wp2_with (refine wpList_load_mid rfl 58 (.tmp 78) rfl g1 0 rfl (D1.map u8) _ ((uh HKe).rng (uh HR1) (by simp)) Tryz.underlying58 rfl (by rw [List.length_map,hl1]; exact Tryz.size_dig) ?_)
        refine Calls.mono (xa1z k D1 e' _ hk hD1 hf1 hed) ?_
        rintro e w8 ⟨rfl,k8⟩
        have HK8:=hide ((uh HKe).trans k8 (by simp))
        have HT8:=hide ((uh HTe).agr (Agr.nil k8))
        clear k8 HKe HTe
        generalize dgt D1 e' = x at hx hbm ⊢
        go_wp2_with fail
        refine Calls.mono (xa4c 0 x _ (by decide) (by omega)) ?_
        rintro e w9 ⟨rfl,k9⟩
        have HK9:=hide ((uh HK8).trans k9 (by simp))
        have hag:=k9.alloc (.cells #[Value.iface ti tp] 95)
        have HT9:=hide ((uh HT8).agr (Agr.nil hag))
        rw [hbm]
        have hbx:=bm_lt (hsZ k) e' M
        have hrow:=xb3i (S:=S) (l:=[Value.iface ti tp]) (heap_alloc_new w9 (.cells #[Value.iface ti tp] 95)) (by simp) (hS _ (uh HK9).size)
        have HRow:=hide hrow
        have HAg:=hide ((uh HK9).alloc (.cells #[Value.iface ti tp] 95))
        clear k9 HK8 HT8 hag hrow hbm hx
        go_wp2_with fail
        refine Calls.mono (xa1s S k (63 - e') (bm (hsZ k) e' M) _ [Value.iface ti tp] M _ hk (fun y hy=>hS y (Nat.le_trans (uh HAg).size hy)) hnM (by rw [show 63 - (63 - e') = e' by omega]) (uh HRow) (by rw [show 63 - (63 - e') = e' by omega,uh HKo]; rfl) (fun i hi=>by
          rw [show 63 - (63 - e') = e' by omega,uh HKo]
          match i,hi with
          | 0,_=>have h9:=uh HT9; rw [show 64 - (e' + 1) = 63 - e' by omega] at h9; exact h9) ((uh HTb).k (uh HAg))) ?_
        rintro e w10 ⟨tz,rfl,ht10,k10⟩
        rw [show 63 - e' + 1 = 64 - e' by omega] at ht10
        have HT10:=hide ht10
        have HK10:=hide ((uh HAg).trans k10 (by simp))
        clear ht10 k10 HRow HAg HK9 HT9 HKo
        go_wp2
        refine ⟨⟨e',tz,by go_num,rfl,by omega,by omega,HT10,HK10⟩,?_⟩
        simp [intOf]
      · have hee:e = dep:=by omega
        subst hee
        have hgt':¬ (e:Int) < e:=by omega
        go_wp2
        go_ret
        exact ⟨_,rfl,uh HTe,uh HKe⟩
def dnL (H:Hs) (q:List Nat) (L:Prs):Nat→Prs
  | 0=>L
  | i + 1=>ch H i (dgt (H.kd q) i) (dnL H q L i)
theorem dn_on {H:Hs} {q:List Nat} {L:Prs}:∀ i,On H i q (dnL H q L i)
  | 0=>On.zero H q L
  | i + 1=>(dn_on i).ch
theorem dn_srt {H:Hs} {q:List Nat} {L:Prs} (h:Srt H L):∀ i,Srt H (dnL H q L i)
  | 0=>h
  | i + 1=>(dn_srt h i).ch _ _
theorem dn_sub {H:Hs} {q:List Nat} {L:Prs}:∀ i,∀ x∈dnL H q L i,x∈L
  | 0,x,hx=>hx
  | i + 1,x,hx=>dn_sub i x (ch_sub x hx)
theorem dn_len {H:Hs} {q:List Nat} {L:Prs}:∀ i,(dnL H q L i).length≤L.length
  | 0=>Nat.le_refl _
  | i + 1=>Nat.le_trans (List.length_filter_le _ _) (dn_len i)
theorem dn_get {H:Hs} {q:List Nat} {L:Prs}:∀ i,getP q (dnL H q L i) = getP q L
  | 0=>rfl
  | i + 1=>(get_ch _).trans (dn_get i)
def wayC (k:Nat) (D:List Nat) (cr en:Value) (pl:Nat) (fd:Bool):List Value:=.int .i64 k :: (D.map u8++([cr,en,.int .i64 pl,.bool fd]++[]))
theorem xa0v {k:Nat} {D:List Nat} (hD:D.length = 32) (cr en:Value) (pl:Nat) (fd:Bool):(wayC k D cr en pl fd).length = 37:=by simp [wayC,hD]
theorem xa0m {W:World} {g k:Nat} {D:List Nat} {cr en:Value} {pl:Nat} {fd:Bool} {t:TypeId} (h:W.heap[g]? = some (.cells (wayC k D cr en pl fd).toArray t (0,0))) (hD:D.length = 32) :
    W.cell? ⟨g,0,none⟩ = some (.int .i64 k)∧W.rangeAt g 1 (D.map u8)∧W.cell? ⟨g,33,none⟩ = some cr∧W.cell? ⟨g,34,none⟩ = some en∧W.cell? ⟨g,35,none⟩ = some (.int .i64 pl)∧W.cell? ⟨g,36,none⟩ = some (.bool fd):=by
  have key:∀ j,W.cell? ⟨g,33 + j,none⟩ = ([cr,en,.int .i64 pl,.bool fd]:List Value)[j]?:=fun j=>by
    rw [cell_of_row _ _ _ _ _ _ h,List.getElem?_toArray]
    unfold wayC
    rw [show 33 + j = (32 + j) + 1 by omega,List.getElem?_cons_succ,List.getElem?_append_right (by simp [hD])]
    simp [hD]
  refine ⟨?_,xa0j [.int .i64 (k:Int)] (D.map u8) _ h rfl,key 0,key 1,key 2,key 3⟩
  rw [cell_of_row _ _ _ _ _ _ h,List.getElem?_toArray]; rfl
theorem xa8x {W:World} {g k:Nat} {D:List Nat} {cr en:Value} {pl:Nat} {fd:Bool} {t:TypeId} (h:W.heap[g]? = some (.cells (wayC k D cr en pl fd).toArray t (0,0))) (hD:D.length = 32) :
    (∀ cr',(W.setCell ⟨g,33,none⟩ cr').heap[g]? = some (.cells (wayC k D cr' en pl fd).toArray t (0,0)))∧(∀ en',(W.setCell ⟨g,34,none⟩ en').heap[g]? = some (.cells (wayC k D cr en' pl fd).toArray t (0,0))) ∧
    (∀ pl':Nat,(W.setCell ⟨g,35,none⟩ (.int .i64 pl')).heap[g]? = some (.cells (wayC k D cr en pl' fd).toArray t (0,0)))∧(∀ fd',(W.setCell ⟨g,36,none⟩ (.bool fd')).heap[g]? = some (.cells (wayC k D cr en pl fd').toArray t (0,0))):=by
  have key:∀ (j:Nat) (x:Value),j < 4→∀ l:List Value,([cr,en,.int .i64 pl,.bool fd]:List Value).set j x = l→(W.setCell ⟨g,33 + j,none⟩ x).heap[g]? = some (.cells (.int .i64 (k:Int) :: (D.map u8++(l++[]))).toArray t (0,0)):=fun j x hj l hl=>by
    rw [heap_setCell_same W g (33 + j) _ t x h]
    congr 2
    unfold wayC
    rw [List.setIfInBounds_toArray,show 33 + j = (32 + j) + 1 by omega,List.set_cons_succ,List.set_append_right _ _ (by simp [hD])]
    rw [← hl]
    simp [hD]
  exact ⟨fun x=>key 0 x (by omega) _ rfl,fun x=>key 1 x (by omega) _ rfl,fun x=>key 2 _ (by omega) _ rfl,fun x=>key 3 _ (by omega) _ rfl⟩
theorem zway:(Tryz.prog.info? 102).map (fun i=>(i.zero,i.size)) = some (some (.agg (wayC 0 (List.replicate 32 0) (.slice none 0 0) (.pointer none) 0 false).toArray),37):=by kernel_rfl
theorem fway:∀ fs,Tryz.prog.underlying 102 = some (.struct fs)→fs.toList.mapM (fun f=>(Tryz.prog.info? f.type).map fun i=>(f.offset,i.size)) = some [(0,1),(1,32),(33,1),(34,1),(35,1),(36,1)]:=by
  intro fs hfs
  rw [Tryz.underlying102] at hfs
  injection hfs with hfs
  injection hfs with hfs
  subst hfs
  kernel_rfl
theorem xb4s (k:Nat) (D:List Nat) (hD:D.length = 32):Tryz.prog.built 102 [(0,.int .i64 k),(1,.agg (brow D))] = some (wayC k D (.slice none 0 0) (.pointer none) 0 false).toArray:=by
  have hz:=zway
  obtain ⟨it,hit⟩:∃ it,Tryz.prog.info? 102 = some it:=by
    cases h:Tryz.prog.info? 102 with
    | none=>rw [h] at hz; cases hz
    | some it=>exact ⟨it,rfl⟩
  rw [hit] at hz
  simp only [Option.map_some,Option.some.injEq,Prod.mk.injEq] at hz
  obtain ⟨fs,hfs⟩:∃ fs,Tryz.prog.underlying 102 = some (.struct fs):=⟨_,Tryz.underlying102⟩
  have hpl:=fway fs hfs
  unfold Program.built
  rw [hit,hfs]
  simp only [hz.1,hpl,Value.cells]
  have z1:(List.replicate 32 0:List Nat).length = 32:=List.length_replicate
  generalize (List.replicate 32 0:List Nat) = z at z1 ⊢
  unfold wayC
  have s1:=xa1d (place:=([(0,1),(1,32),(33,1),(34,1),(35,1),(36,1)].toArray[·]?)) (i:=0) (n:=1) (rest:=[(1,.agg (brow D))]) [] [.int .i64 ((0:Nat):Int)] (z.map u8++([.slice none 0 0,.pointer none,.int .i64 ((0:Nat):Int),.bool false]++[])) [.int .i64 (k:Int)] (X:=.int .i64 (k:Int)) rfl rfl rfl rfl
  have s2:=xa1d (place:=([(0,1),(1,32),(33,1),(34,1),(35,1),(36,1)].toArray[·]?)) (i:=1) (n:=32) (rest:=[]) [.int .i64 (k:Int)] (z.map u8) ([.slice none 0 0,.pointer none,.int .i64 ((0:Nat):Int),.bool false]++[]) (D.map u8) (X:=.agg (brow D)) rfl rfl (by rw [List.length_map,hD]) (by rw [List.length_map,z1])
  exact s1.trans s2
def ptrs (gs:List Nat):List (List Value):=gs.map fun g=>[.pointer (some ⟨g,0,none⟩)]
structure WayAt (S:Nat→Prop) (k:Nat) (W:World) (q:List Nat) (L:Prs) (m:Nat) (cr en:Value) (pl:Nat) (fd:Bool):Prop where
  cr:∃ gs:List Nat,gs.length = m∧RdC 1 W cr (ptrs gs)∧∀ i,i < m→TreeAt S (hsZ k) W (64 - i) (brV (gs.getD i 0)) (dnL (hsZ k) q L i)∧sgl (hsZ k) (dnL (hsZ k) q L i) = false
  en:(dnL (hsZ k) q L m = []∧en = .pointer none∧pl = 0∧fd = false)∨(sgl (hsZ k) (dnL (hsZ k) q L m) = true∧∃ g,en = .pointer (some ⟨g,0,none⟩)∧BkAt S (hsZ k) W g (dnL (hsZ k) q L m)∧pl = plc q (dnL (hsZ k) q L m)∧fd = fnd q (dnL (hsZ k) q L m))
  deep:m≤2 * k
theorem WayAt.old {S:Nat→Prop} {k:Nat} {W W':World} {q:List Nat} {L:Prs} {m:Nat} {cr en:Value} {pl:Nat} {fd:Bool} (h:WayAt S k W q L m cr en pl fd) (kk:Kept [] W W'):WayAt S k W' q L m cr en pl fd:=by
  obtain ⟨⟨gs,h1,h2,h3⟩,h4,h5⟩:=h
  refine ⟨⟨gs,h1,h2.old kk,fun i hi=>⟨(h3 i hi).1.agr (Agr.nil kk),(h3 i hi).2⟩⟩,?_,h5⟩
  rcases h4 with h4 | ⟨h4,g,h6,h7,h8⟩
  · exact Or.inl h4
  · exact Or.inr ⟨h4,g,h6,h7.agr (Agr.nil kk),h8⟩
theorem Sty.mono {S T:Nat→Prop} {W:World} {P:World→Prop} (hs:∀ x,T x→S x) (h:Sty T W P):Sty S W P:=fun w k=>h w (k.sub hs)
theorem KRow.mono {S T:Nat→Prop} {W:World} {pv:Value} {L:Prs} (hs:∀ x,T x→S x) (h:KRow T W pv L):KRow S W pv L:=by
  obtain ⟨b,off,cap,l,h1,h2,h3,h4,h5,h6,h7⟩:=h
  exact ⟨b,off,cap,l,h1,h2,h3,hs _ h4,h5,h6,fun i hi=>(h7 i hi).mono hs⟩
theorem BkAt.mono {S T:Nat→Prop} {H:Hs} {W:World} {g:Nat} {L:Prs} (hs:∀ x,T x→S x) (h:BkAt T H W g L):BkAt S H W g L:=by
  obtain ⟨pv,h1,h2,h3,h4⟩:=h
  exact ⟨pv,hs _ h1,h2,h3,h4.mono hs⟩
theorem SRow.mono {S T:Nat→Prop} {W:World} {v:Value} {vs:List Value} (hs:∀ x,T x→S x) (h:SRow T W v vs):SRow S W v vs:=by
  obtain ⟨b,off,cap,h1,h2,h3,h4,h5⟩:=h
  exact ⟨b,off,cap,h1,h2,h3,hs _ h4,h5⟩
theorem TreeAt.mono {S T:Nat→Prop} {H:Hs} {W:World} (hs:∀ x,T x→S x):∀ {f:Nat} {v:Value} {L:Prs},TreeAt T H W f v L→TreeAt S H W f v L
  | 0,v,L,h=>by
    obtain ⟨h0,g,h1,h2⟩:=h
    exact ⟨h0,g,h1,h2.mono hs⟩
  | f + 1,v,L,h=>by
    refine ⟨fun h0=>?_,fun h0=>?_⟩
    · obtain ⟨g,h1,h2⟩:=h.1 h0
      exact ⟨g,h1,h2.mono hs⟩
    · obtain ⟨g,kv,vs,h1,h2,h3,h4,h5,h6⟩:=h.2 h0
      exact ⟨g,kv,vs,h1,hs _ h2,h3,h4.mono hs,h5,fun i hi=>(h6 i hi).mono hs⟩
def lowS (S:Nat→Prop) (w:World):Nat→Prop:=fun x=>S x∧x < w.heap.size
theorem xb2a (S:Nat→Prop) (w:World):∀ x,lowS S w x→S x:=fun _ h=>h.1
theorem Sty.shrink {S:Nat→Prop} {W:World} {P:World→Prop} (h:Sty S W P):Sty (lowS S W) W P:=fun w k=>h w ⟨k.1,fun x hx hl=>k.2 x ⟨hx,hl⟩ hl⟩
theorem KRow.shrink {S:Nat→Prop} {W:World} {pv:Value} {L:Prs} (hn:L≠[]) (h:KRow S W pv L):KRow (lowS S W) W pv L:=by
  obtain ⟨b,off,cap,l,h1,h2,h3,h4,h5,h6,h7⟩:=h
  have h0:0 < l.length:=by rw [h5]; cases L with
    | nil=>exact absurd rfl hn
    | cons _ _=>simp
  exact ⟨b,off,cap,l,h1,h2,h3,⟨h4,block_lt_of_cell (h6 0 h0).1⟩,h5,h6,fun i hi=>(h7 i hi).shrink⟩
theorem BkAt.shrink {S:Nat→Prop} {H:Hs} {W:World} {g:Nat} {L:Prs} (h:BkAt S H W g L):BkAt (lowS S W) H W g L:=by
  obtain ⟨pv,h1,h2,h3,h4⟩:=h
  exact ⟨pv,⟨h1,lt_of_block h2⟩,h2,h3,h4.shrink h3⟩
theorem TreeAt.shrink {S:Nat→Prop} {H:Hs} (hH:H.Ok) {W:World}:∀ {f:Nat} {v:Value} {L:Prs},TreeAt S H W f v L→TreeAt (lowS S W) H W f v L
  | 0,v,L,h=>by
    obtain ⟨h0,g,h1,h2⟩:=h
    exact ⟨h0,g,h1,h2.shrink⟩
  | f + 1,v,L,h=>by
    refine ⟨fun h0=>?_,fun h0=>?_⟩
    · obtain ⟨g,h1,h2⟩:=h.1 h0
      exact ⟨g,h1,h2.shrink⟩
    · obtain ⟨g,kv,vs,h1,h2,h3,⟨b,off,cap,r1,r2,r3,r4,r5⟩,h5,h6⟩:=h.2 h0
      have hn:L≠[]:=by intro e; rw [e,xb6u] at h0; cases h0
      have hp:=(xa2t hH (d:=63 - f) hn).1
      have hb:=block_lt_of_cell (r5 0 (by omega))
      exact ⟨g,kv,vs,h1,⟨h2,lt_of_block h3⟩,h3,⟨b,off,cap,r1,r2,r3,⟨r4,hb⟩,r5⟩,h5,fun i hi=>(h6 i hi).shrink hH⟩
theorem KidAt.shrink {S:Nat→Prop} {H:Hs} (hH:H.Ok) {W:World} {f:Nat} {v:Value} {L:Prs} (h:KidAt S H W f v L):KidAt (lowS S W) H W f v L:=by
  rcases h with h | h
  · exact Or.inl h
  · exact Or.inr (h.shrink hH)
theorem xc0k {S:Nat→Prop} {w A B:World} (hA:Kept [] w A) (hB:Kept [] w B) (h:A.heap.size≤B.heap.size):Agr (lowS S w) A B :=
  ⟨h,fun x hx _=>(hB.block x hx.2 (by simp)).trans (hA.block x hx.2 (by simp)).symm⟩
def zwy:Array Value:=(wayC 0 (List.replicate 32 0) (.slice none 0 0) (.pointer none) 0 false).toArray
theorem xa3e:(#[.int .i64 0,.int .u8 0,.int .u8 0,.int .u8 0,.int .u8 0,.int .u8 0,.int .u8 0,.int .u8 0,.int .u8 0,.int .u8 0,.int .u8 0,.int .u8 0,.int .u8 0,.int .u8 0,.int .u8 0,.int .u8 0,.int .u8 0,.int .u8 0,.int .u8 0,.int .u8 0,.int .u8 0,.int .u8 0,.int .u8 0,.int .u8 0,.int .u8 0,.int .u8 0,.int .u8 0,.int .u8 0,.int .u8 0,.int .u8 0,.int .u8 0,.int .u8 0,.int .u8 0,.slice none 0 0,.pointer none,.int .i64 0,.bool false]:Array Value) = zwy:=rfl
theorem Tryz.size_way:(Tryz.prog.info? 102).map (·.size) = some 37:=by kernel_rfl
theorem xa1m {k:Nat} {D:List Nat} {cr en:Value} (pl:Nat) (fd:Bool) (h1:cr.oneCell' = true) (h2:en.oneCell' = true):(wayC k D cr en pl fd).toArray.all (·.oneCell') = true:=by
  rw [Array.all_eq_true_iff_forall_mem]
  intro v hv
  simp only [wayC,List.mem_toArray,List.mem_cons,List.mem_append,List.mem_map,List.not_mem_nil,or_false] at hv
  rcases hv with rfl | ⟨x,_,rfl⟩ | rfl | rfl | rfl | rfl
  · rfl
  · rfl
  · exact h1
  · exact h2
  · rfl
  · rfl
def wyM (b:Nat) (W:World):Nat:=match W.cell? ⟨b,33,none⟩ with
  | some (.slice _ n _)=>100 - n
  | _=>0
theorem wyM_at {b k pl:Nat} {W:World} {D:List Nat} {en:Value} {fd:Bool} {t:TypeId} {ao:Option Addr} {n c:Nat} (h:W.heap[b]? = some (.cells (wayC k D (.slice ao n c) en pl fd).toArray t (0,0))) (hD:D.length = 32):wyM b W = 100 - n:=by
  unfold wyM; rw [(xa0m h hD).2.2.1]
theorem Tryz.infoPB:(Tryz.prog.info? 112).map (fun i=>(i.zero,i.size,i.bytes)) = some (some (.pointer none),1,8):=by kernel_rfl
theorem xa7y (gs:List Nat):(∀ r∈ptrs gs,r.length = 1)∧∀ r∈ptrs gs,∀ u∈r,u.oneCell' = true:=by
  constructor
  · intro r hr; obtain ⟨g,_,rfl⟩:=List.mem_map.1 hr; rfl
  · intro r hr u hu; obtain ⟨g,_,rfl⟩:=List.mem_map.1 hr; have:u = .pointer (some ⟨g,0,none⟩):=by simpa using hu
    rw [this]; rfl
theorem xa3c {w:World} {base:Nat} {e t:TypeId} {s n b:Nat} {v:Value} {xs:List Value} {cs:Array Value} {fr:Nat × Nat} (h:w.ownsRow base e s v n xs) (hb:w.heap[b]? = some (.cells cs t fr)) (hne:e≠t):v.ownBlock≠some b:=by
  intro e'
  rcases h.2 with ⟨rfl,_⟩ | ⟨g,cap,cur,rfl,_,hg,_⟩
  · simp [Value.ownBlock] at e'
  · simp only [Value.ownBlock,Option.some.injEq] at e'
    subst e'
    rw [hb] at hg
    simp at hg
    first | exact hne hg.2.1.symm | exact hne hg.2.symm
structure WayAt0 (S:Nat→Prop) (k:Nat) (w W:World) (q:List Nat) (L:Prs) (m:Nat) (cr en:Value) (pl:Nat) (fd:Bool):Prop where
  cr:∃ gs:List Nat,gs.length = m∧RdC 1 W cr (ptrs gs)∧∀ i,i < m→TreeAt S (hsZ k) w (64 - i) (brV (gs.getD i 0)) (dnL (hsZ k) q L i)∧sgl (hsZ k) (dnL (hsZ k) q L i) = false
  en:(dnL (hsZ k) q L m = []∧en = .pointer none∧pl = 0∧fd = false)∨(sgl (hsZ k) (dnL (hsZ k) q L m) = true∧∃ g,en = .pointer (some ⟨g,0,none⟩)∧BkAt S (hsZ k) w g (dnL (hsZ k) q L m)∧pl = plc q (dnL (hsZ k) q L m)∧fd = fnd q (dnL (hsZ k) q L m))
  deep:m≤2 * k
theorem WayAt0.fin {S T:Nat→Prop} {k:Nat} {w W':World} {q:List Nat} {L:Prs} {m:Nat} {cr en:Value} {pl:Nat} {fd:Bool} (h:WayAt0 T k w W' q L m cr en pl fd) (hs:∀ x,T x→S x) (kk:Agr T w W'):WayAt S k W' q L m cr en pl fd:=by
  obtain ⟨⟨gs,h1,h2,h3⟩,h4,h5⟩:=h
  refine ⟨⟨gs,h1,h2,fun i hi=>⟨((h3 i hi).1.agr kk).mono hs,(h3 i hi).2⟩⟩,?_,h5⟩
  rcases h4 with h4 | ⟨h4,g,h6,h7,h8⟩
  · exact Or.inl h4
  · exact Or.inr ⟨h4,g,h6,(h7.agr kk).mono hs,h8⟩
theorem xa8w {w:World} {base T m:Nat} {v:Value} {gs:List Nat} (h:w.ownsRow base T 1 v m (ptrs gs).flatten) (hl:gs.length = m):RdC 1 w v (ptrs gs) :=
  xa2v (by rw [show (ptrs gs).length = m by rw [ptrs,List.length_map,hl]]; exact h) (xa7y gs).1
set_option maxHeartbeats 4000000 in
theorem xb4y (S:Nat→Prop) (k:Nat) (tv:Value) (L:Prs) (uw:Value) (q:List Nat) (w:World) (hk:1≤k∧k≤32) (h:KidAt S (hsZ k) w 64 tv L) (hs:Srt (hsZ k) L) (hu:Rd w uw q) (hn:L.length≤1000000000) :
    Calls Tryz.prog 80 #[.int .i64 k,tv,.agg (brow ((hsZ k).kd q)),uw] w fun e w'=>∃ m cr en pl fd,e = .returned (.agg (wayC k ((hsZ k).kd q) cr en pl fd).toArray)∧WayAt S k w' q L m cr en pl fd∧Kept [] w w':=by
  have hH:=hsZ_ok hk
  have hDg:=hH.dg q
  have hfm:=xa9q hk q
  have hu':=hu
  obtain ⟨ua,un,uc,rfl,_⟩:=hu'
  obtain ⟨D,hD⟩:∃ D,(hsZ k).kd q = D:=⟨_,rfl⟩
  have HDn:=hide (fun i=>by rw [← hD]; rfl:∀ i,ch (hsZ k) i (dgt D i) (dnL (hsZ k) q L i) = dnL (hsZ k) q L (i + 1))
  rw [hD] at hDg hfm ⊢
  have hDl:=hDg.1
  have HU:=hide hu
  have HSr:=hide hs
  have hm1:=ta_bk
  have hm2:=ta_br
  have hm3:=ta_nil
  have hm4:=tb_bk
  have hm5:=tb_br
  have hm6:=tb_nil
  have HB:=hide (xb4s k D hDl)
  clear hu hs hD
  have HK0:=hide (((Kept.refl [] w).alloc (.cells (brow D) 58)).alloc (.cells zwy 102))
  have HD0:=hide (((Kept.refl [] (w.alloc (.cells (brow D) 58))).alloc (.cells zwy 102)).heap (heap_alloc_new w (.cells (brow D) 58)) (by simp))
  have HZ0:=hide (xa2h w (.cells (brow D) 58) (.cells zwy 102))
  have hs0:((w.alloc (.cells (brow D) 58)).alloc (.cells zwy 102)).heap.size = w.heap.size + 2:=by simp
  have h':=h.shrink hH
  obtain ⟨T,hT⟩:∃ T,lowS S w = T:=⟨_,rfl⟩
  rw [hT] at h'
  have HTS:=hide (by rw [← hT]; exact xb2a S w:∀ x,T x→S x)
  have HAG:=hide (by rw [← hT]; exact fun A B hA hB hl=>xc0k hA hB hl:∀ A B,Kept [] w A→Kept [] w B→A.heap.size≤B.heap.size→Agr T A B)
  clear hT h
  go_enter Tryz.func80,Tryz.ntmps80
  have hnw:((wayC k D (.slice none 0 0) (.pointer none) 0 false).toArray).size = 37:=by rw [List.size_toArray,xa0v hDl]
  have HZ1:=hide (by have h9:=heap_alloc_new ((w.alloc (.cells (brow D) 58)).alloc (.cells zwy 102)) (.cells zwy 102); rw [hs0] at h9; exact h9:(((w.alloc (.cells (brow D) 58)).alloc (.cells zwy 102)).alloc (.cells zwy 102)).heap[w.heap.size + 1 + 1]? = some (.cells zwy 102 (0,0)))
  have HK1:=hide ((uh HK0).alloc (.cells zwy 102))
  have HR2:=hide (setRow_heap _ _ _ ((wayC k D (.slice none 0 0) (.pointer none) 0 false).toArray) _ _ (uh HZ1))
  have HK2:=hide ((uh HK1).setRow (g:=w.heap.size + 1 + 1) (Or.inr (by omega)) ((wayC k D (.slice none 0 0) (.pointer none) 0 false).toArray))
  have hk9:=((Kept.refl [w.heap.size + 1 + 1] ((w.alloc (.cells (brow D) 58)).alloc (.cells zwy 102))).alloc (.cells zwy 102)).setRow (g:=w.heap.size + 1 + 1) (Or.inl (by simp)) ((wayC k D (.slice none 0 0) (.pointer none) 0 false).toArray)
  have HD2:=hide (hk9.heap (uh HD0) (by simp; omega))
  have HZ2:=hide (hk9.heap (uh HZ0) (by simp))
  clear hk9
  go_wp2_with (first
    | (rw [xa3e]; refine wpList_load_row rfl 58 (.tmp 6) rfl w.heap.size rfl 58 (brow D) (0,0) _ (uh HD0) Tryz.underlying58 rfl (by rw [xa0a,hDl]; exact Tryz.size_dig) ?_)
    | (refine xa0h rfl 102 _ rfl (wayC k D (.slice none 0 0) (.pointer none) 0 false).toArray (by simp only [List.map_toArray,List.map_cons,List.map_nil]; exact uh HB) ?_)
    | (rw [xa3e]; refine wpList_store_row rfl 102 (.tmp 9) (.tmp 15) rfl (w.heap.size + 1 + 1) (wayC k D (.slice none 0 0) (.pointer none) 0 false).toArray rfl rfl _ zwy (uh HZ1) (by rw [hnw]; exact Tryz.size_way) (by rw [hnw]; rfl) (xa1m _ _ rfl rfl) ?_))
  clear HZ1 HK1 HZ0 HD0 HK0 hs0 HB
  generalize ((((w.alloc (.cells (brow D) 58)).alloc (.cells zwy 102)).alloc (.cells zwy 102)).setRow (w.heap.size + 1 + 1) ((wayC k D (.slice none 0 0) (.pointer none) 0 false).toArray)) = W2 at HR2 HK2 HD2 HZ2 ⊢
  simp only [Act.put]
  have hw2:=hide (uh HK2).size
  go_loopw [1] (fun t1 wr=>∃ (m:Nat) (v:Value) (ao:Option Addr) (c:Nat) (gs:List Nat),t1 = v∧gs.length = m∧m≤2 * k∧Hid (KidAt T (hsZ k) wr (64 - m) v (dnL (hsZ k) q L m))∧Hid (∀ i,i < m→TreeAt T (hsZ k) wr (64 - i) (brV (gs.getD i 0)) (dnL (hsZ k) q L i)∧sgl (hsZ k) (dnL (hsZ k) q L i) = false)∧Hid (wr.ownsRow w.heap.size 112 1 (.slice ao m c) m (ptrs gs).flatten) ∧
    Hid (wr.heap[w.heap.size + 2]? = some (.cells (wayC k D (.slice ao m c) (.pointer none) 0 false).toArray 102 (0,0)))∧Hid (wr.heap[w.heap.size + 1]? = some (.cells zwy 102 (0,0)))∧Hid (wr.heap[w.heap.size]? = some (.cells (brow D) 58 (0,0)))∧Hid (Kept [] w wr)) (fun _ wr=>wyM (w.heap.size + 2) wr)
  case atStart=>exact ⟨0,tv,none,0,[],rfl,rfl,Nat.zero_le _,hide (h'.agr (uh HAG w W2 (Kept.refl [] w) (uh HK2) (uh HK2).size)),hide (fun i hi=>by omega),hide (World.ownsRow_nil _ _ _ _),HR2,HZ2,HD2,HK2⟩
  case round =>
    obtain ⟨m,v,ao,c,gs,rfl,hgl,hmk,HKd,HTs,HOw,HRw,HZw,HDw,HKw⟩:=hrel
    have hnwA:∀ cr en pl fd,((wayC k D cr en pl fd).toArray).size = 37:=fun cr en pl fd=>by rw [List.size_toArray,xa0v hDl]
    rcases uh HKd with ⟨hnil,rfl⟩ | ht
    · have hkf:=(uh HKw).setRow (g:=w.heap.size + 1) (Or.inr (by omega)) (wayC k D (.slice ao m c) (.pointer none) 0 false).toArray
      have hof:=((Kept.refl [w.heap.size + 1] wr).setRow (g:=w.heap.size + 1) (Or.inl (by simp)) (wayC k D (.slice ao m c) (.pointer none) 0 false).toArray).owns (uh HOw) (fun x hx hm=>xa3c (uh HOw) (uh HZw) (by decide) (by rw [List.mem_singleton] at hm; rw [← hm]; exact hx))
      go_wp2_with (first
        | (refine wpList_load_row rfl 102 (.tmp 9) rfl (w.heap.size + 2) rfl 102 (wayC k D (.slice ao m c) (.pointer none) 0 false).toArray (0,0) _ (uh HRw) Tryz.underlying102 rfl (by rw [hnwA]; exact Tryz.size_way) ?_)
        | (refine wpList_store_row rfl 102 (.tmp 8) (.tmp 17) rfl (w.heap.size + 1) (wayC k D (.slice ao m c) (.pointer none) 0 false).toArray rfl rfl _ zwy (uh HZw) (by rw [hnwA]; exact Tryz.size_way) (by rw [hnwA]; rfl) (xa1m _ _ rfl rfl) ?_))
      refine bodyPost_ret (v:=.agg (wayC k D (.slice ao m c) (.pointer none) 0 false).toArray) ?_ rfl ⟨m,_,_,_,_,rfl,WayAt0.fin ⟨⟨gs,hgl,xa8w hof hgl,fun i hi=>uh HTs i hi⟩,Or.inl ⟨hnil,rfl,rfl,rfl⟩,hmk⟩ (uh HTS) (uh HAG _ _ (uh HKw) hkf (by simp)),hkf⟩
      exact results_cell_row rfl _ _ (w.heap.size + 1) _ (wayC k D (.slice ao m c) (.pointer none) 0 false).toArray (0,0) _ rfl (setRow_heap _ _ _ _ _ _ (uh HZw)) Tryz.underlying102 rfl (by rw [hnwA]; exact Tryz.size_way)
    · cases hsg:sgl (hsZ k) (dnL (hsZ k) q L m) with
      | true =>
        obtain ⟨g,rfl,hb⟩:=ht.bk hsg
        have hlen:=dn_len (H:=hsZ k) (q:=q) (L:=L) m
        have hkdx:((hsZ k).kd ((dnL (hsZ k) q L m).headD ([],[])).1).length = 32:=(hH.dg _).1
        have hris:=xa5t (dn_srt (uh HSr) m) hsg
        obtain ⟨cw0,cw1,cw2,cw3,cw4,cw5⟩:=xa0m (uh HRw) hDl
        have cz:=fun o=>frozen_of_row _ (w.heap.size + 2) (⟨w.heap.size + 2,o,none⟩:Addr).off _ _ (uh HRw)
        have HR3:=hide ((xa8x (uh HRw) hDl).2.1 (.pointer (some ⟨g,0,none⟩)))
        have HK3:=hide ((uh HKw).setCell (p:=⟨w.heap.size + 2,34,none⟩) (Or.inr (by show w.heap.size≤w.heap.size + 2; omega)) (.pointer (some ⟨g,0,none⟩)))
        have hko:=(Kept.refl [w.heap.size + 2] wr).setCell (p:=⟨w.heap.size + 2,34,none⟩) (Or.inl (by simp)) (.pointer (some ⟨g,0,none⟩))
        have HZ3:=hide (hko.heap (uh HZw) (by simp))
        have HO3:=hide (hko.owns (uh HOw) (fun x hx hm=>xa3c (uh HOw) (uh HRw) (by decide) (by rw [List.mem_singleton] at hm; rw [← hm]; exact hx)))
        clear hko cw0 cw1 cw2 cw4 cw5
        go_wp2_with fail
        clear cw3 cz
        have hz3:wr.heap.size≤(wr.setCell ⟨w.heap.size + 2,34,none⟩ (.pointer (some ⟨g,0,none⟩))).heap.size:=by simp
        generalize wr.setCell ⟨w.heap.size + 2,34,none⟩ (.pointer (some ⟨g,0,none⟩)) = W3 at HR3 HK3 HZ3 HO3 hz3 ⊢
        refine Calls.mono (xb4c T (hsZ k) g (dnL (hsZ k) q L m) _ q W3 (hb.agr (uh HAG _ _ (uh HKw) (uh HK3) hz3)) hkdx ((uh HU).old (uh HK3) (by simp)) hris (by omega)) ?_
        rintro e W4 ⟨rfl,k4⟩
        generalize hpl:plc q (dnL (hsZ k) q L m) = pl
        generalize hfd:fnd q (dnL (hsZ k) q L m) = fd
        have HR4:=hide (k4.heap (uh HR3) (by simp))
        have HK4:=hide ((uh HK3).trans k4 (by simp))
        have HZ4:=hide (k4.heap (uh HZ3) (by simp))
        have HZs:=hide (Nat.le_trans hz3 k4.size)
        have HO4:=hide (k4.owns (uh HO3) (by simp))
        clear k4 HR3 HK3 HZ3 HO3
        obtain ⟨cw0,cw1,cw2,cw3,cw4,cw5⟩:=xa0m (uh HR4) hDl
        have cz:=fun o=>frozen_of_row _ (w.heap.size + 2) (⟨w.heap.size + 2,o,none⟩:Addr).off _ _ (uh HR4)
        have HR5:=hide ((xa8x (uh HR4) hDl).2.2.1 pl)
        have HR6:=hide ((xa8x (uh HR5) hDl).2.2.2 fd)
        have hk6:=((uh HK4).setCell (p:=⟨w.heap.size + 2,35,none⟩) (Or.inr (by show w.heap.size≤w.heap.size + 2; omega)) (.int .i64 pl)).setCell (p:=⟨w.heap.size + 2,36,none⟩) (Or.inr (by show w.heap.size≤w.heap.size + 2; omega)) (.bool fd)
        have hko:=((Kept.refl [w.heap.size + 2] W4).setCell (p:=⟨w.heap.size + 2,35,none⟩) (Or.inl (by simp)) (.int .i64 pl)).setCell (p:=⟨w.heap.size + 2,36,none⟩) (Or.inl (by simp)) (.bool fd)
        have HZ6:=hide (hko.heap (uh HZ4) (by simp))
        have HO6:=hide (hko.owns (uh HO4) (fun x hx hm=>xa3c (uh HO4) (uh HR4) (by decide) (by rw [List.mem_singleton] at hm; rw [← hm]; exact hx)))
        have HK6:=hide hk6
        clear hko cw0 cw1 cw2 cw3 hk6 HR5
        have hkf:=(uh HK6).setRow (g:=w.heap.size + 1) (Or.inr (by omega)) (wayC k D (.slice ao m c) (.pointer (some ⟨g,0,none⟩)) pl fd).toArray
        have hof:=((Kept.refl [w.heap.size + 1] ((W4.setCell ⟨w.heap.size + 2,35,none⟩ (.int .i64 pl)).setCell ⟨w.heap.size + 2,36,none⟩ (.bool fd))).setRow (g:=w.heap.size + 1) (Or.inl (by simp)) (wayC k D (.slice ao m c) (.pointer (some ⟨g,0,none⟩)) pl fd).toArray).owns (uh HO6) (fun x hx hm=>xa3c (uh HO6) (uh HZ6) (by decide) (by rw [List.mem_singleton] at hm; rw [← hm]; exact hx))
        go_wp2_with (first
          | (refine wpList_load_row rfl 102 (.tmp 9) rfl (w.heap.size + 2) rfl 102 (wayC k D (.slice ao m c) (.pointer (some ⟨g,0,none⟩)) pl fd).toArray (0,0) _ (uh HR6) Tryz.underlying102 rfl (by rw [hnwA]; exact Tryz.size_way) ?_)
          | (refine wpList_store_row rfl 102 (.tmp 8) (.tmp 48) rfl (w.heap.size + 1) (wayC k D (.slice ao m c) (.pointer (some ⟨g,0,none⟩)) pl fd).toArray rfl rfl _ zwy (uh HZ6) (by rw [hnwA]; exact Tryz.size_way) (by rw [hnwA]; rfl) (xa1m _ _ rfl rfl) ?_))
        refine bodyPost_ret (v:=.agg (wayC k D (.slice ao m c) (.pointer (some ⟨g,0,none⟩)) pl fd).toArray) ?_ rfl ⟨m,_,_,_,_,rfl,WayAt0.fin ⟨⟨gs,hgl,xa8w hof hgl,fun i hi=>uh HTs i hi⟩,Or.inr ⟨hsg,g,rfl,hb,hpl.symm,hfd.symm⟩,hmk⟩ (uh HTS) (uh HAG _ _ (uh HKw) hkf (by have:=uh HZs; simp; omega)),hkf⟩
        exact results_cell_row rfl _ _ (w.heap.size + 1) _ (wayC k D (.slice ao m c) (.pointer (some ⟨g,0,none⟩)) pl fd).toArray (0,0) _ rfl (setRow_heap _ _ _ _ _ _ (uh HZ6)) Tryz.underlying102 rfl (by rw [hnwA]; exact Tryz.size_way)
      | false =>
        have hdeep:m < 2 * k:=deep hH (dn_on m).pre hsg
        obtain ⟨f,hf⟩:∃ f,64 - m = f + 1:=⟨63 - m,by omega⟩
        rw [hf] at ht
        obtain ⟨g,_,_,e,_⟩:=ht.2 hsg
        subst e
        have hfm2:63 - f = m:=by omega
        have hd16:=dgt_lt hDg.2 m
        have HT:=hide ht
        have hnx:=uh HDn m
        have hTm:TreeAt T (hsZ k) wr (64 - m) (brV g) (dnL (hsZ k) q L m):=by rw [hf]; exact ht
        have HTm:=hide hTm
        clear hTm
        obtain ⟨cw0,cw1,cw2,cw3,cw4,cw5⟩:=xa0m (uh HRw) hDl
        clear cw0 cw1 cw3 cw4 cw5 ht
        go_wp2_with (refine wpList_load_row rfl 58 (.tmp 6) rfl w.heap.size rfl 58 (brow D) (0,0) _ (uh HDw) Tryz.underlying58 rfl (by rw [xa0a,hDl]; exact Tryz.size_dig) ?_)
        refine Calls.mono (xa1z k D m wr hk hDg hfm hdeep) ?_
        rintro e W3 ⟨rfl,k3⟩
        have HK3:=hide ((uh HKw).trans k3 (by simp))
        have HR3:=hide (k3.heap (uh HRw) (by simp))
        have HZ3:=hide (k3.heap (uh HZw) (by simp))
        have HD3:=hide (k3.heap (uh HDw) (by simp))
        have HO3:=hide (k3.owns (uh HOw) (by simp))
        have HA3:=hide (uh HAG wr W3 (uh HKw) (uh HK3) k3.size)
        clear k3
        obtain ⟨x,hx⟩:∃ x,dgt D m = x:=⟨_,rfl⟩
        rw [hx] at hd16 hnx ⊢
        go_wp2_with fail
        refine Calls.mono (xb9w T (hsZ k) f g x (dnL (hsZ k) q L m) W3 ((uh HT).agr (uh HA3)) hsg hd16) ?_
        rintro e W4 ⟨v4,rfl,hk4,k4⟩
        rw [hfm2,hnx,show f = 64 - (m + 1) by omega] at hk4
        have HK4:=hide ((uh HK3).trans k4 (by simp))
        have HR4:=hide (k4.heap (uh HR3) (by simp))
        have HZ4:=hide (k4.heap (uh HZ3) (by simp))
        have HD4:=hide (k4.heap (uh HD3) (by simp))
        have HO4:=hide (k4.owns (uh HO3) (by simp))
        have hz4:=Nat.le_trans (uh HA3).1 k4.size
        have HKd4:=hide hk4
        clear k4 hk4 HK3 HR3 HZ3 HD3 HO3 HA3 HT cw2
        obtain ⟨cw0,cw1,cw2,cw3,cw4,cw5⟩:=xa0m (uh HR4) hDl
        clear cw0 cw1 cw3 cw4 cw5
        have hrl:=xb7t (t:=112) (l:=[.pointer (some ⟨g,0,none⟩)]) (heap_alloc_new W4 (.cells #[.pointer (some ⟨g,0,none⟩)] 112)) (by simp)
        have HRL:=hide hrl
        have hb4:=(uh HK4).size
        have hka:=(Kept.refl [] W4).alloc (.cells #[.pointer (some ⟨g,0,none⟩)] 112)
        have HO5:=hide (hka.owns (uh HO4) (by simp))
        have HR5:=hide (hka.heap (uh HR4) (by simp))
        have HZ5:=hide (hka.heap (uh HZ4) (by simp))
        have HD5:=hide (hka.heap (uh HD4) (by simp))
        have HK5:=hide ((uh HK4).trans hka (by simp))
        have hz5:=Nat.le_trans hz4 hka.size
        have hz45:=hka.size
        clear hrl hka
        go_wp2_with (at_builtin; refine xa0u rfl 99 112 (.tmp 30) (.tmp 32) rfl rfl (W4.alloc (.cells #[.pointer (some ⟨g,0,none⟩)] 112)) w.heap.size (.pointer none) 1 8 Tryz.underlying99 Tryz.infoPB rfl (by decide) (.slice ao m c) m (ptrs gs).flatten (uh HO5) (some ⟨W4.heap.size,0,none⟩) 1 1 (ptrs [g]) (uh HRL) (xa7y [g]).1 (xa7y [g]).2 (by omega) (by omega) (uh HK5).size rfl rfl ?_; intro ao6 c6 W6 HO6 HG6 HA6; have hk56:=(Kept.refl ((Value.slice ao m c).ownBlock.toList) _).grown (uh HG6) (by intro x hx; left; simp [hx]); have HR6:=hide (hk56.heap (uh HR5) (by intro hm; exact xa3c (uh HO5) (uh HR5) (by decide) (by simpa using hm))); have HZ6:=hide (hk56.heap (uh HZ5) (by intro hm; exact xa3c (uh HO5) (uh HZ5) (by decide) (by simpa using hm))); have HD6:=hide (hk56.heap (uh HD5) (by intro hm; exact xa3c (uh HO5) (uh HD5) (by decide) (by simpa using hm))); have HK6:=hide ((uh HK5).grown (uh HG6) (by intro x hx; right; exact ((uh HO5).lt x hx).1)); have hz6:=Nat.le_trans hz5 hk56.size; have hz46:=Nat.le_trans hz45 hk56.size; obtain ⟨cv0,cv1,cv2,cv3,cv4,cv5⟩:=xa0m (uh HR6) hDl; have cz:=frozen_of_row _ (w.heap.size + 2) 33 _ _ (uh HR6); clear hk56 cv0 cv1 cv3 cv4 cv5 cw2)
        have HR7:=hide ((xa8x (uh HR6) hDl).1 (.slice ao6 (m + 1) c6))
        have HK7:=hide ((uh HK6).setCell (p:=⟨w.heap.size + 2,33,none⟩) (Or.inr (by show w.heap.size≤w.heap.size + 2; omega)) (.slice ao6 (m + 1) c6))
        have hko:=(Kept.refl [w.heap.size + 2] W6).setCell (p:=⟨w.heap.size + 2,33,none⟩) (Or.inl (by simp)) (.slice ao6 (m + 1) c6)
        have HZ7:=hide (hko.heap (uh HZ6) (by simp))
        have HD7:=hide (hko.heap (uh HD6) (by simp))
        have HO7:=hide (hko.owns (uh HO6) (fun x hx hm=>xa3c (uh HO6) (uh HR6) (by decide) (by rw [List.mem_singleton] at hm; rw [← hm]; exact hx)))
        have hz7:wr.heap.size≤(W6.setCell ⟨w.heap.size + 2,33,none⟩ (.slice ao6 (m + 1) c6)).heap.size:=by simp; omega
        refine ⟨⟨m + 1,v4,ao6,c6,gs++[g],rfl,by rw [List.length_append,hgl]; rfl,by omega,hide ((uh HKd4).agr (uh HAG _ _ (uh HK4) (uh HK7) (by simp; omega))),hide (fun i hi=>?_),hide (by rw [show (ptrs (gs++[g])).flatten = (ptrs gs).flatten++(ptrs [g]).flatten by simp [ptrs]]; exact uh HO7),HR7,HZ7,HD7,HK7⟩,?_⟩
        · rcases Nat.lt_or_ge i m with h9 | h9
          · have h8:=uh HTs i h9
            rw [show (gs++[g]).getD i 0 = gs.getD i 0 by rw [List.getD_eq_getElem?_getD,List.getD_eq_getElem?_getD,List.getElem?_append_left (by omega)]]
            exact ⟨h8.1.agr (uh HAG _ _ (uh HKw) (uh HK7) hz7),h8.2⟩
          · obtain rfl:i = m:=by omega
            rw [show (gs++[g]).getD i 0 = g by rw [List.getD_eq_getElem?_getD,List.getElem?_append_right (by omega),hgl,Nat.sub_self]; rfl]
            exact ⟨(uh HTm).agr (uh HAG _ _ (uh HKw) (uh HK7) hz7),hsg⟩
        · rw [wyM_at (uh HR7) hDl,wyM_at (uh HRw) hDl]; omega
end
section
open Go Go.RowKit Go.BigFrame
theorem ChL.st {P:Program} {Q:Exit→Act→World→Prop} {S:World→Prop} {F:Act→World→Prop} {cs:List Oper} {o:Oper} {a A:Act} {w:World} (ty:TypeId) (x y:Operand) (ho:o.op = .store ty x y) (g:Nat) (cells:Array Value) (hx:a.eval x = .pointer (some ⟨g,0,none⟩)) (hy:a.eval y = .agg cells)
    (t:TypeId) (old:Array Value) (hg:w.heap[g]? = some (.cells old t (0,0))) (hi:(P.info? ty).map (·.size) = some cells.size) (hold:old.size = cells.size) (h1:cells.all (·.oneCell') = true) (hS:S (w.setRow g cells)) (p:a.put o.dst undef = A) (h:ChL P Q S F cs A (w.setRow g cells)):ChL P Q S F (o :: cs) a w:=by
  unfold ChL
  rw [← p] at h
  exact wp_store_row ty x y ho g cells hx hy t old hg hi hold h1 ⟨hS,h⟩
theorem ln_wd {P:Program} {Q:Exit→Act→World→Prop} {id:Nat} {o0 o1 o2 o3 o4 o5 o6 o7 o8 o9 o10 o11 o12:Oper} {a:Act} {w:World} (hm:P.follows .mixedOrders = true) (hb:linB #[o0,o1,o2,o3,o4,o5,o6,o7,o8,o9,o10,o11,o12] [0,1,2,3,4,5,6,7,8,9] [10,11,12] [] = true) (hg:([o0,o1,o2,o3,o4,o5,o6,o7,o8,o9]++([o10,o11,o12]++[])).all (fun o=>o.guard.isNone) = true) (S:World→Prop) (hS:S w.drew)
    (h:LinY P S (ChL P Q S (Q .normal) [o10,o11,o12]) [o0,o1,o2,o3,o4,o5,o6,o7,o8,o9] a w.drew):(Code.region id #[o0,o1,o2,o3,o4,o5,o6,o7,o8,o9,o10,o11,o12] true).wp P Q a w:=xa0y (R:=[0,1,2,3,4,5,6,7,8,9]) (C:=[10,11,12]) (rs:=[o0,o1,o2,o3,o4,o5,o6,o7,o8,o9]) (cs:=[o10,o11,o12]) hm hb rfl rfl hg hS h
theorem ln_pt {P:Program} {Q:Exit→Act→World→Prop} {id:Nat} {o0 o1 o2 o3 o4 o5 o6 o7 o8 o9 o10 o11 o12 o13:Oper} {a:Act} {w:World} (hm:P.follows .mixedOrders = true) (hb:linB #[o0,o1,o2,o3,o4,o5,o6,o7,o8,o9,o10,o11,o12,o13] [0,1,2,3,4,5,6,7] [8,9,10,11,12,13] [] = true) (hg:([o0,o1,o2,o3,o4,o5,o6,o7]++([o8,o9,o10,o11,o12,o13]++[])).all (fun o=>o.guard.isNone) = true) (S:World→Prop) (hS:S w.drew)
    (h:LinY P S (ChL P Q S (Q .normal) [o8,o9,o10,o11,o12,o13]) [o0,o1,o2,o3,o4,o5,o6,o7] a w.drew):(Code.region id #[o0,o1,o2,o3,o4,o5,o6,o7,o8,o9,o10,o11,o12,o13] true).wp P Q a w:=xa0y (R:=[0,1,2,3,4,5,6,7]) (C:=[8,9,10,11,12,13]) (rs:=[o0,o1,o2,o3,o4,o5,o6,o7]) (cs:=[o8,o9,o10,o11,o12,o13]) hm hb rfl rfl hg hS h
theorem ln_dl {P:Program} {Q:Exit→Act→World→Prop} {id:Nat} {o0 o1 o2 o3 o4 o5 o6 o7 o8 o9 o10 o11 o12 o13 o14 o15 o16 o17:Oper} {a:Act} {w:World} (hm:P.follows .mixedOrders = true) (hb:linB #[o0,o1,o2,o3,o4,o5,o6,o7,o8,o9,o10,o11,o12,o13,o14,o15,o16,o17] [0,1,2,3,4,5,6,7,8,9,10] [11,12,13,14,15,16,17] [] = true) (hg:([o0,o1,o2,o3,o4,o5,o6,o7,o8,o9,o10]++([o11,o12,o13,o14,o15,o16,o17]++[])).all (fun o=>o.guard.isNone) = true) (S:World→Prop) (hS:S w.drew)
    (h:LinY P S (ChL P Q S (Q .normal) [o11,o12,o13,o14,o15,o16,o17]) [o0,o1,o2,o3,o4,o5,o6,o7,o8,o9,o10] a w.drew):(Code.region id #[o0,o1,o2,o3,o4,o5,o6,o7,o8,o9,o10,o11,o12,o13,o14,o15,o16,o17] true).wp P Q a w:=xa0y (R:=[0,1,2,3,4,5,6,7,8,9,10]) (C:=[11,12,13,14,15,16,17]) (rs:=[o0,o1,o2,o3,o4,o5,o6,o7,o8,o9,o10]) (cs:=[o11,o12,o13,o14,o15,o16,o17]) hm hb rfl rfl hg hS h
theorem ln_dn {P:Program} {Q:Exit→Act→World→Prop} {id:Nat} {o0 o1 o2 o3 o4 o5 o6 o7 o8 o9 o10 o11 o12 o13 o14 o15 o16:Oper} {a:Act} {w:World} (hm:P.follows .mixedOrders = true) (hb:linB #[o0,o1,o2,o3,o4,o5,o6,o7,o8,o9,o10,o11,o12,o13,o14,o15,o16] [0,1,2,3,4,5,6,7,8,9,10,11] [12,13,14,15,16] [] = true) (hg:([o0,o1,o2,o3,o4,o5,o6,o7,o8,o9,o10,o11]++([o12,o13,o14,o15,o16]++[])).all (fun o=>o.guard.isNone) = true) (S:World→Prop) (hS:S w.drew)
    (h:LinY P S (ChL P Q S (Q .normal) [o12,o13,o14,o15,o16]) [o0,o1,o2,o3,o4,o5,o6,o7,o8,o9,o10,o11] a w.drew):(Code.region id #[o0,o1,o2,o3,o4,o5,o6,o7,o8,o9,o10,o11,o12,o13,o14,o15,o16] true).wp P Q a w:=xa0y (R:=[0,1,2,3,4,5,6,7,8,9,10,11]) (C:=[12,13,14,15,16]) (rs:=[o0,o1,o2,o3,o4,o5,o6,o7,o8,o9,o10,o11]) (cs:=[o12,o13,o14,o15,o16]) hm hb rfl rfl hg hS h
end
section
open Go.RowKit Go.BigFrame
def notPtr:Value→Bool
  | .pointer (some _)=>false
  | _=>true
theorem zwy_np:zwy.all notPtr = true:=by kernel_rfl
theorem RdC.off {W W':World} {cr:Value} {gs:List Nat} {g:Nat} {t:TypeId} (h:RdC 1 W cr (ptrs gs)) (hz:W.heap[g]? = some (.cells zwy t (0,0))) (k:Kept [g] W W'):RdC 1 W' cr (ptrs gs):=by
  obtain ⟨ao,n,c,rfl,h1,h2,h3,h4⟩:=h
  refine ⟨ao,n,c,rfl,h1,h2,h3,fun h0=>?_⟩
  obtain ⟨b,off,rfl,h5⟩:=h4 h0
  have hb:b≠g:=by
    intro e
    subst e
    have hl:0 < (ptrs gs).length:=by omega
    have h6:=h5 0 hl 0 (.pointer (some ⟨gs.getD 0 0,0,none⟩)) (by
      have:0 < gs.length:=by rw [ptrs,List.length_map] at hl; exact hl
      simp [ptrs,List.getD_eq_getElem?_getD,List.getElem?_eq_getElem this])
    rw [cell_of_row _ _ _ _ _ _ hz] at h6
    have h7:=Array.mem_of_getElem? h6
    have h8:=(Array.all_eq_true_iff_forall_mem.1 zwy_np) _ h7
    exact absurd h8 (by simp [notPtr])
  exact ⟨b,off,rfl,fun i hi=>k.rng (h5 i hi) (by simp; exact hb)⟩
theorem WayAt.put {S T:Nat→Prop} {k:Nat} {W W':World} {q:List Nat} {L:Prs} {m:Nat} {cr en:Value} {pl:Nat} {fd:Bool} (h:WayAt T k W q L m cr en pl fd) (hs:∀ x,T x→S x) (kk:Agr T W W') (hc:∀ gs,RdC 1 W cr (ptrs gs)→RdC 1 W' cr (ptrs gs)):WayAt S k W' q L m cr en pl fd:=by
  obtain ⟨⟨gs,h1,h2,h3⟩,h4,h5⟩:=h
  refine ⟨⟨gs,h1,hc gs h2,fun i hi=>⟨((h3 i hi).1.agr kk).mono hs,(h3 i hi).2⟩⟩,?_,h5⟩
  rcases h4 with h4 | ⟨h4,g,h6,h7,h8⟩
  · exact Or.inl h4
  · exact Or.inr ⟨h4,g,h6,(h7.agr kk).mono hs,h8⟩
theorem WayAt.cells {S:Nat→Prop} {k:Nat} {W:World} {q:List Nat} {L:Prs} {m:Nat} {cr en:Value} {pl:Nat} {fd:Bool} (h:WayAt S k W q L m cr en pl fd):cr.oneCell' = true∧en.oneCell' = true:=by
  obtain ⟨⟨gs,_,⟨_,_,_,rfl,_⟩,_⟩,h4,_⟩:=h
  rcases h4 with ⟨_,rfl,_⟩ | ⟨_,g,rfl,_⟩ <;> exact ⟨rfl,rfl⟩
set_option maxHeartbeats 2000000 in
theorem xa2z (S:Nat→Prop) (k:Nat) (mv kv:Value) (L:Prs) (q:List Nat) (w:World) (hM:MapAt S k w mv L) (hu:Rd w kv q) (hq:q.length≤64) (hT:Tabs w) :
    Calls Tryz.prog 49 #[mv,kv] w fun e w'=>∃ m cr en pl fd,e = .returned (.tuple #[.agg (wayC k ((hsZ k).kd q) cr en pl fd).toArray,.int .i64 0])∧WayAt S k w' q L m cr en pl fd∧Kept [] w w':=by
  obtain ⟨hk,hs,hfit,hlen,g,tv,rfl,hSg,hh,htop⟩:=hM
  have hH:=hsZ_ok hk
  have hkid:KidAt S (hsZ k) w 64 tv L:=htop
  have HT:=hide (hkid.shrink hH)
  obtain ⟨ua,un,uc,rfl,hul,_⟩:=id hu
  have hun:un≤64:=by omega
  have hu1:¬ (64:Int) < un:=by omega
  have hu2:¬ (un:Int) > 64:=by omega
  have c0:w.cell? ⟨g,0,none⟩ = some (.int .i64 k):=by rw [cell_of_row _ _ _ _ _ _ hh]; rfl
  have c2:w.cell? ⟨g,2,none⟩ = some tv:=by rw [cell_of_row _ _ _ _ _ _ hh]; rfl
  have HU:=hide hu
  have HTb:=hide hT
  have HSr:=hide hs
  have hk0:=(Kept.refl [] w).alloc (.cells zwy 102)
  have HK0:=hide hk0
  have c0a:∀ o,(w.alloc o).cell? ⟨g,0,none⟩ = some (.int .i64 k):=fun o=>((Kept.refl [] w).alloc o).cell c0 (by simp)
  have HC0:=hide c0
  have HC2:=hide c2
  have hE:sumE (k:Int) = 0:=by unfold sumE; rw [wide_k hk]; rfl
  have HE:=hide hE
  have hdl:(sumD (k:Int) (2 :: q)).length = 32:=xa1c _ _
  obtain ⟨D,hD⟩:∃ D,sumD (k:Int) (2 :: q) = D:=⟨_,rfl⟩
  have HD:=hide hD
  rw [hD] at hdl
  have HKD:=hide (show (hsZ k).kd q = D from hD)
  clear hkid htop hh hT hs hk0 hul hD hE c2
  go_enter Tryz.func49,Tryz.ntmps49
  go_wp2_with fail
  rw [xa3e]
  refine Calls.mono (xa7d k _ q _ (by omega) ((uh HU).old (uh HK0) (by simp)) (by omega) ((uh HTb).k (uh HK0))) ?_
  rintro e w1 ⟨rfl,k1⟩
  rw [uh HD,uh HE]
  have HZ1:=hide (k1.heap (heap_alloc_new w (.cells zwy 102)) (by simp))
  have HK1:=hide ((uh HK0).trans k1 (by simp))
  have hz1:=lt_of_block (uh HZ1)
  clear k1 c0 c0a
  have HN1:=hide (heap_alloc_new w1 (.cells (zb 32) 58))
  have HZ2:=hide (((Kept.refl [w1.heap.size] w1).alloc (.cells (zb 32) 58)).setRow (g:=w1.heap.size) (Or.inl (by simp)) (brow D) |>.heap (uh HZ1) (by simp; omega))
  have HN2:=hide (setRow_heap _ _ _ (brow D) _ _ (uh HN1))
  have HK2:=hide ((uh HK1).alloc (.cells (zb 32) 58) |>.setRow (g:=w1.heap.size) (Or.inr (uh HK1).size) (brow D))
  go_upto_region 8 with (rw [zb32]; refine wpList_store_row rfl 58 _ _ rfl w1.heap.size (brow D) rfl rfl _ (zb 32) (uh HN1) (by rw [xa0a,hdl]; exact Tryz.size_dig) (by rw [xa0d,xa0a,hdl]) (xa0b _) ?_)
  try simp only [Act.put]
  generalize (w1.alloc (.cells (zb 32) 58)).setRow w1.heap.size (brow D) = W2 at HZ2 HN2 HK2 ⊢
  have hgne:g≠w.heap.size:=by have:=block_lt_of_cell (uh HC0); simp at this; omega
  have HRD:=hide (xa0j [] (D.map u8) [] (by rw [List.nil_append,List.append_nil]; exact uh HN2) rfl)
  have HV0:=hide ((uh HK2).cell (uh HC0) (by simp))
  have HV2:=hide ((uh HK2).cell (uh HC2) (by simp))
  refine ln_wd (by kernel_rfl) (by kernel_rfl) rfl (fun W=>Kept [w.heap.size] W2 W) (Kept.refl _ W2).drew ?_
  refine LinY.mv (x:=.tmp 0) rfl (.pointer (some ⟨g,0,none⟩)) rfl (by simp only [Act.put,sa1,sa2,sa3]; rfl) ?_
  refine LinY.rd (.pointer (some ⟨g,0,none⟩)) (fun W hW=>by go_simp) (by simp only [Act.put,sa1,sa2,sa3]; rfl) ?_
  refine LinY.rd (.pointer (some ⟨g,0,none⟩)) (fun W hW=>by go_simp) (by simp only [Act.put,sa1,sa2,sa3]; rfl) ?_
  refine LinY.rd (.int .i64 k) (fun W hW=>by have h9:=hW.cell (uh HV0) (by simp; exact hgne); go_simp) (by simp only [Act.put,sa1,sa2,sa3]; rfl) ?_
  refine LinY.mv (x:=.tmp 0) rfl (.pointer (some ⟨g,0,none⟩)) rfl (by simp only [Act.put,sa1,sa2,sa3]; rfl) ?_
  refine LinY.rd (.pointer (some ⟨g,0,none⟩)) (fun W hW=>by go_simp) (by simp only [Act.put,sa1,sa2,sa3]; rfl) ?_
  refine LinY.rd (.pointer (some ⟨g,2,none⟩)) (fun W hW=>by go_simp) (by simp only [Act.put,sa1,sa2,sa3]; rfl) ?_
  refine LinY.rd (tv) (fun W hW=>by have h9:=hW.cell (uh HV2) (by simp; exact hgne); go_simp) (by simp only [Act.put,sa1,sa2,sa3]; rfl) ?_
  refine LinY.ld 58 (.tmp 6) rfl w1.heap.size 0 rfl (D.map u8) _ (fun W hW=>hW.rng (uh HRD) (by simp; omega)) Tryz.underlying58 rfl (by rw [List.length_map,hdl]; exact Tryz.size_dig) (by simp only [Act.put,sa1,sa2,sa3]; rfl) ?_
  refine LinY.mv (x:=.tmp 1) rfl (.slice ua un uc) rfl (by simp only [Act.put,sa1,sa2,sa3]; rfl) ?_
  have hd2:=(Kept.refl [] W2).drew
  have hkd2:=(uh HK2).trans hd2 (by simp)
  have hwo:=xb4y (lowS S w) k tv L (.slice ua un uc) q W2.drew hk ((uh HT).agr (Agr.nil hkd2)) (uh HSr) ((uh HU).old hkd2 (by simp)) hlen
  rw [uh HKD] at hwo
  refine ChL.call rfl Tryz.call80 [.int .i64 k,tv,.agg (brow D),.slice ua un uc] rfl hwo ?_
  rintro e w3 ⟨m,cr,en,pl,fd,rfl,hway,k3⟩
  have hk3:=hd2.trans k3 (by simp)
  refine ⟨_,rfl,hk3.mono (by simp),?_⟩
  simp only [Act.put,sa1,sa2,sa3]
  have hz3:=hk3.heap (uh HZ2) (by simp)
  have hcl:=hway.cells
  have hws:((wayC k D cr en pl fd).toArray).size = 37:=by rw [List.size_toArray,xa0v hdl]
  have hkf:=(Kept.refl [w.heap.size] w3).setRow (g:=w.heap.size) (Or.inl (by simp)) (wayC k D cr en pl fd).toArray
  have hks:=((uh HK2).trans hk3 (by simp)).setRow (g:=w.heap.size) (Or.inr (Nat.le_refl _)) (wayC k D cr en pl fd).toArray
  have hwf:=hway.put (S:=S) (xb2a S w) (Agr.kept hkf (by intro x hx hlo; rw [List.mem_singleton] at hx; have:=hlo.2; omega)) (fun gs h=>h.off hz3 hkf)
  have hrf:=setRow_heap _ _ _ (wayC k D cr en pl fd).toArray _ _ hz3
  have hk3f:=(hk3.mono (M:=[w.heap.size]) (by simp)).trans hkf (by simp)
  refine ChL.st 102 (.tmp 4) (.tmp 40) rfl w.heap.size (wayC k D cr en pl fd).toArray rfl rfl _ zwy hz3 (by rw [hws]; exact Tryz.size_way) (by rw [hws]; rfl) (xa1m _ _ hcl.1 hcl.2) hk3f (by simp only [Act.put]; rfl) ?_
  refine ChL.op (.int .i64 0) (by go_simp) hk3f (by simp only [Act.put,sa1,sa2,sa3]; rfl) (ChL.fin ?_)
  go_wp2
  refine bodyPost_ret (v:=.tuple #[.agg (wayC k D cr en pl fd).toArray,.int .i64 0]) ?_ rfl ⟨m,cr,en,pl,fd,by rw [uh HKD],hwf,hks⟩
  exact xa0c rfl _ _ w.heap.size _ (wayC k D cr en pl fd).toArray (0,0) _ rfl hrf Tryz.underlying102 rfl (by rw [hws]; exact Tryz.size_way) _ rfl
abbrev VP:=Value × Value
def PR (S:Nat→Prop) (W:World) (l:List VP) (L:Prs):Prop:=l.length = L.length∧∀ i,i < l.length→Sty S W (fun w=>Rd w (l.getD i (undef,undef)).1 (L.getD i ([],[])).1∧Rd w (l.getD i (undef,undef)).2 (L.getD i ([],[])).2)
theorem PR.agr {S:Nat→Prop} {W W':World} {l:List VP} {L:Prs} (h:PR S W l L) (a:Agr S W W'):PR S W' l L:=⟨h.1,fun i hi=>(h.2 i hi).agr a⟩
theorem PR.nil (S:Nat→Prop) (W:World):PR S W [] []:=⟨rfl,fun i h=>by simp at h⟩
theorem PR.one {S:Nat→Prop} {W:World} {x y:Value} {a b:List Nat} (hx:Sty S W (fun w=>Rd w x a)) (hy:Sty S W (fun w=>Rd w y b)):PR S W [(x,y)] [(a,b)]:=⟨rfl,fun i hi=>by
  have:i = 0:=by simp at hi; omega
  subst this; exact fun w k=>⟨hx w k,hy w k⟩⟩
theorem PR.app {S:Nat→Prop} {W:World} {a b:List VP} {A B:Prs} (h:PR S W a A) (k:PR S W b B):PR S W (a++b) (A++B):=by
  refine ⟨by rw [List.length_append,List.length_append,h.1,k.1],fun i hi=>?_⟩
  rw [List.length_append] at hi
  by_cases hlt:i < a.length
  · have h1:=h.2 i hlt
    simp only [List.getD_eq_getElem?_getD,List.getElem?_append_left hlt,List.getElem?_append_left (show i < A.length by rw [← h.1]; exact hlt)] at h1 ⊢
    exact h1
  · have h1:=k.2 (i - a.length) (by omega)
    have e1:(a++b)[i]? = b[i - a.length]?:=List.getElem?_append_right (by omega)
    have e2:(A++B)[i]? = B[i - a.length]?:=by rw [List.getElem?_append_right (by rw [← h.1]; omega),← h.1]
    simp only [List.getD_eq_getElem?_getD,e1,e2] at h1 ⊢
    exact h1
theorem PR.tk {S:Nat→Prop} {W:World} {a:List VP} {A:Prs} (h:PR S W a A) (m:Nat):PR S W (a.take m) (A.take m):=by
  refine ⟨by rw [List.length_take,List.length_take,h.1],fun i hi=>?_⟩
  rw [List.length_take] at hi
  have h1:=h.2 i (by omega)
  simp only [List.getD_eq_getElem?_getD,List.getElem?_take_of_lt (show i < m by omega)] at h1 ⊢
  exact h1
theorem PR.dp {S:Nat→Prop} {W:World} {a:List VP} {A:Prs} (h:PR S W a A) (m:Nat):PR S W (a.drop m) (A.drop m):=by
  refine ⟨by rw [List.length_drop,List.length_drop,h.1],fun i hi=>?_⟩
  rw [List.length_drop] at hi
  have h1:=h.2 (m + i) (by omega)
  simp only [List.getD_eq_getElem?_getD,List.getElem?_drop] at h1 ⊢
  exact h1
def kvR (l:List VP):List (List Value):=l.map fun p=>[p.1,p.2]
theorem xa0l (l:List VP):(kvR l).length = l.length:=by simp [kvR]
theorem kvR_at (l:List VP) (i:Nat) (hi:i < l.length):(kvR l)[i]'(by rw [xa0l]; exact hi) = [l[i].1,l[i].2]:=by simp [kvR]
theorem xb2k (a b:List VP):kvR (a++b) = kvR a++kvR b:=by simp [kvR]
theorem PR.cell {S:Nat→Prop} {W:World} {l:List VP} {L:Prs} (h:PR S W l L):(∀ r∈kvR l,r.length = 2)∧∀ r∈kvR l,∀ u∈r,u.oneCell' = true:=by
  constructor
  · intro r hr; obtain ⟨p,_,rfl⟩:=List.mem_map.1 hr; rfl
  · intro r hr u hu
    obtain ⟨p,hp,rfl⟩:=List.mem_map.1 hr
    obtain ⟨i,hi,rfl⟩:=List.getElem_of_mem hp
    have h1:=(h.2 i hi).now
    simp only [List.getD_eq_getElem?_getD,List.getElem?_eq_getElem hi,Option.getD_some] at h1
    obtain ⟨⟨a1,n1,c1,e1,_⟩,⟨a2,n2,c2,e2,_⟩⟩:=h1
    rw [e1,e2] at hu
    simp only [List.mem_cons,List.not_mem_nil,or_false] at hu
    rcases hu with rfl | rfl <;> rfl
theorem KRow.pr {S:Nat→Prop} {W:World} {pv:Value} {L:Prs} (h:KRow S W pv L):∃ b off cap l,pv = .slice (some ⟨b,off,none⟩) l.length cap∧PR S W l L∧RdC 2 W pv (kvR l)∧l.length≤cap∧cap≤9223372036854775807:=by
  obtain ⟨b,off,cap,l,rfl,h2,h3,h4,h5,h6,h7⟩:=h
  refine ⟨b,off,cap,l,rfl,⟨h5,h7⟩,⟨_,_,_,rfl,xa0l l,h2,h3,fun _=>⟨b,off,rfl,fun i hi j u hu=>?_⟩⟩,h2,h3⟩
  rw [xa0l] at hi
  have h8:=h6 i hi
  simp only [List.getD_eq_getElem?_getD,List.getElem?_eq_getElem hi,Option.getD_some] at h8
  have e:(kvR l)[i]'(by rw [xa0l]; exact hi) = [l[i].1,l[i].2]:=by simp [kvR]
  rw [e] at hu
  match j,hu with
  | 0,hu=>rw [Nat.add_zero,h8.1]; exact hu
  | 1,hu=>rw [h8.2]; exact hu
theorem xb2d {S:Nat→Prop} {w:World} {v:Value} {B:Nat} {a b c:List VP} {L:Prs} (h:OwC 33 2 B w v [kvR a,kvR b,kvR c]) (hp:PR S w (a++(b++c)) L) (hn:L≠[]) (hl:(a++(b++c)).length≤1000000000000) (hS:∀ y,B≤y→S y):KRow S w v L:=by
  unfold OwC at h
  have e1:[kvR a,kvR b,kvR c].flatten = kvR (a++(b++c)):=by simp [xb2k]
  rw [e1,xa0l] at h
  have hr:=xa2v (by rw [xa0l]; exact h) hp.cell.1
  have h0:0 < (a++(b++c)).length:=by rw [hp.1]; cases L with
    | nil=>exact absurd rfl hn
    | cons _ _=>simp
  rcases h.2 with ⟨_,h9⟩ | ⟨g,cap,cur,rfl,hg,hh,hc,hm,_⟩
  · omega
  · refine ⟨g,0,cap,a++(b++c),rfl,hc,by unfold maxLen at hm; omega,hS g hg,hp.1,fun i hi=>?_,hp.2⟩
    obtain ⟨_,_,_,e9,_,_,_,hcell⟩:=hr
    cases e9
    obtain ⟨b',off',e8,hce⟩:=hcell h0
    cases e8
    have h7:=hce i (by rw [xa0l]; exact hi)
    have e:(kvR (a++(b++c)))[i]'(by rw [xa0l]; exact hi) = [(a++(b++c))[i].1,(a++(b++c))[i].2]:=kvR_at _ i hi
    rw [e] at h7
    simp only [List.getD_eq_getElem?_getD,List.getElem?_eq_getElem hi,Option.getD_some]
    exact ⟨h7 0 _ rfl,h7 1 _ rfl⟩
set_option maxHeartbeats 2000000 in
theorem xa6x (S:Nat→Prop) (k:Nat) (D:List Nat) (cr:Value) (g pl:Nat) (fd:Bool) (E:Prs) (iv:Value) (its:List VP) (IL:Prs) (w:World) (hD:D.length = 32) (hb:BkAt S (hsZ k) w g E) (hpl:pl + (if fd = true then 1 else 0)≤E.length) (hl:E.length≤1000000000) (hi:RdC 2 w iv (kvR its)) (hpi:PR S w its IL) (hil:its.length≤1) (hn:E.take pl++(IL++E.drop (pl + if fd = true then 1 else 0))≠[]) (hS:∀ y,w.heap.size≤y→S y) :
    Calls Tryz.prog 84 #[.agg (wayC k D cr (.pointer (some ⟨g,0,none⟩)) pl fd).toArray,iv] w fun e w'=>∃ ao n c,e = .returned (.slice ao n c)∧KRow S w' (.slice ao n c) (E.take pl++(IL++E.drop (pl + if fd = true then 1 else 0)))∧Kept [] w w':=by
  obtain ⟨pv,hSg,hh,hne,hkr⟩:=hb
  have hkd:((hsZ k).kd (E.headD ([],[])).1).length = 32:=xa1c _ _
  have c1:=(bk_row hh hkd).2.1
  obtain ⟨b,off,cap,l,rfl,hpr,hrd,hc1,hc2⟩:=hkr.pr
  have HK0:=hide ((Kept.refl [] w).alloc (.cells (wayC k D cr (.pointer (some ⟨g,0,none⟩)) pl fd).toArray 102))
  have HG0:=hide (heap_alloc_new w (.cells (wayC k D cr (.pointer (some ⟨g,0,none⟩)) pl fd).toArray 102))
  obtain ⟨cw0,cw1,cw2,cw3,cw4,cw5⟩:=xa0m (uh HG0) hD
  have HC1:=hide ((uh HK0).cell c1 (by simp))
  have HW3:=hide cw3
  have HW4:=hide cw4
  have HPR:=hide hpr
  have HRD:=hide hrd
  have HI:=hide hi
  have HPI:=hide hpi
  have hll:=hpr.1
  obtain ⟨n,hnn⟩:∃ n,l.length = n:=⟨_,rfl⟩
  rw [hnn] at hrd HRD hc1 hll HC1 c1
  have HN:=hide hnn
  have HLL:=hide hll
  rw [← hll] at hpl hl
  have hcell:=hpr.cell
  have hcelli:=hpi.cell
  clear cw0 cw1 cw2 cw3 hpr hrd hkr hh hi hpi hnn hll c1
  obtain ⟨ai,ni,ci,rfl,hi1,_⟩:=id (uh HI)
  rw [xa0l] at hi1
  subst hi1
  obtain ⟨tz,hto⟩:∃ t,pl + (if fd = true then 1 else 0) = t:=⟨_,rfl⟩
  rw [hto] at hpl hn ⊢
  have HTo:=hide hto
  go_enter Tryz.func84,Tryz.ntmps84
  have key:∃ t5:Value,t5 = .int .i64 (tz:Int):=⟨_,rfl⟩
  cases fd with
  | true =>
    have e1:(pl:Int) + 1 = (tz:Int):=by have:=uh HTo; simp at this; omega
    have e2:IntKind.i64.wrap ((pl:Int) + 1) = (tz:Int):=by rw [e1]; simp [IntKind.wrap,IntKind.signed,IntKind.bits]; omega
    go_upto_region 4 with fail
    refine ln_ar (by kernel_rfl) (by kernel_rfl) rfl (fun W=>Kept [] (w.alloc (.cells (wayC k D cr (.pointer (some ⟨g,0,none⟩)) pl true).toArray 102)) W) (Kept.refl [] _).drew ?_
    refine LinY.rd (.pointer (some ⟨w.heap.size,34,none⟩)) (fun W hW=>by go_simp) (by simp only [Act.put,sa1,sa2,sa3]; rfl) ?_
    refine LinY.rd (.pointer (some ⟨g,0,none⟩)) (fun W hW=>by have h9:=hW.cell (uh HW3) (by simp); go_simp) (by simp only [Act.put,sa1,sa2,sa3]; rfl) ?_
    refine LinY.rd (.pointer (some ⟨g,0,none⟩)) (fun W hW=>by go_simp) (by simp only [Act.put,sa1,sa2,sa3]; rfl) ?_
    refine LinY.rd (.pointer (some ⟨g,32,none⟩)) (fun W hW=>by go_simp) (by simp only [Act.put,sa1,sa2,sa3]; rfl) ?_
    refine LinY.rd (.slice (some ⟨b,off,none⟩) n cap) (fun W hW=>by have h9:=hW.cell (uh HC1) (by simp); go_simp) (by simp only [Act.put,sa1,sa2,sa3]; rfl) ?_
    refine LinY.rd (.pointer (some ⟨w.heap.size,35,none⟩)) (fun W hW=>by go_simp) (by simp only [Act.put,sa1,sa2,sa3]; rfl) ?_
    refine LinY.rd (.int .i64 pl) (fun W hW=>by have h9:=hW.cell (uh HW4) (by simp); go_simp) (by simp only [Act.put,sa1,sa2,sa3]; rfl) ?_
    refine LinY.mv (x:=.tmp 5) rfl (.int .i64 tz) rfl (by simp only [Act.put,sa1,sa2,sa3]; rfl) ?_
    refine LinY.mv (x:=.tmp 1) rfl (.slice ai its.length ci) rfl (by simp only [Act.put,sa1,sa2,sa3]; rfl) ?_
    refine ChL.call rfl Tryz.call126 [.slice (some ⟨b,off,none⟩) n cap,.int .i64 pl,.int .i64 tz,.slice ai its.length ci] rfl (xa3x b off n cap pl tz _ (kvR l) (kvR its) _ ((uh HRD).old (((uh HK0)).drew)) ((uh HI).old ((uh HK0).drew)) (by omega) (by omega) (by omega) (by rw [xa0l]; omega) hcell.1 hcell.2 hcelli.1 hcelli.2) ?_
    rintro e w2 ⟨v',rfl,ho,k2⟩
    have hkw:=((Kept.refl [] (w.alloc (.cells (wayC k D cr (.pointer (some ⟨g,0,none⟩)) pl true).toArray 102))).drew).trans k2 (by simp)
    have hk2:=(uh HK0).trans hkw (by simp)
    refine ⟨v',rfl,hkw,?_⟩
    simp only [Act.put,sa1,sa2,sa3]
    have hkv:[(kvR l).take pl,kvR its,(kvR l).drop tz] = [kvR (l.take pl),kvR its,kvR (l.drop tz)]:=by simp [kvR,List.map_take,List.map_drop]
    rw [hkv] at ho
    have hpf:=(((uh HPR).tk pl).app ((uh HPI).app ((uh HPR).dp tz))).agr (Agr.nil hk2)
    have hfin:=xb2d ho hpf hn (by have:=uh HN; simp; omega) (fun y hy=>hS y (by have:=(uh HK0).size; simp at hy; omega))
    obtain ⟨ao,n9,c9,e9⟩:∃ ao n c,v' = .slice ao n c:=by
      obtain ⟨b9,o9,c9,l9,e9,_⟩:=id hfin
      exact ⟨_,_,_,e9⟩
    subst e9
    refine ChL.op (.slice ao n9 c9) (by go_simp) hkw (by simp only [Act.put,sa1,sa2,sa3]; rfl) (ChL.fin ?_)
    go_wp2
    go_ret
    exact ⟨_,_,_,rfl,hfin,hk2⟩
  | false =>
    have e1:pl = tz:=by have:=uh HTo; simpa using this
    subst e1
    go_upto_region 4 with fail
    refine ln_ar (by kernel_rfl) (by kernel_rfl) rfl (fun W=>Kept [] (w.alloc (.cells (wayC k D cr (.pointer (some ⟨g,0,none⟩)) pl false).toArray 102)) W) (Kept.refl [] _).drew ?_
    refine LinY.rd (.pointer (some ⟨w.heap.size,34,none⟩)) (fun W hW=>by go_simp) (by simp only [Act.put,sa1,sa2,sa3]; rfl) ?_
    refine LinY.rd (.pointer (some ⟨g,0,none⟩)) (fun W hW=>by have h9:=hW.cell (uh HW3) (by simp); go_simp) (by simp only [Act.put,sa1,sa2,sa3]; rfl) ?_
    refine LinY.rd (.pointer (some ⟨g,0,none⟩)) (fun W hW=>by go_simp) (by simp only [Act.put,sa1,sa2,sa3]; rfl) ?_
    refine LinY.rd (.pointer (some ⟨g,32,none⟩)) (fun W hW=>by go_simp) (by simp only [Act.put,sa1,sa2,sa3]; rfl) ?_
    refine LinY.rd (.slice (some ⟨b,off,none⟩) n cap) (fun W hW=>by have h9:=hW.cell (uh HC1) (by simp); go_simp) (by simp only [Act.put,sa1,sa2,sa3]; rfl) ?_
    refine LinY.rd (.pointer (some ⟨w.heap.size,35,none⟩)) (fun W hW=>by go_simp) (by simp only [Act.put,sa1,sa2,sa3]; rfl) ?_
    refine LinY.rd (.int .i64 pl) (fun W hW=>by have h9:=hW.cell (uh HW4) (by simp); go_simp) (by simp only [Act.put,sa1,sa2,sa3]; rfl) ?_
    refine LinY.mv (x:=.tmp 5) rfl (.int .i64 pl) rfl (by simp only [Act.put,sa1,sa2,sa3]; rfl) ?_
    refine LinY.mv (x:=.tmp 1) rfl (.slice ai its.length ci) rfl (by simp only [Act.put,sa1,sa2,sa3]; rfl) ?_
    refine ChL.call rfl Tryz.call126 [.slice (some ⟨b,off,none⟩) n cap,.int .i64 pl,.int .i64 pl,.slice ai its.length ci] rfl (xa3x b off n cap pl pl _ (kvR l) (kvR its) _ ((uh HRD).old (((uh HK0)).drew)) ((uh HI).old ((uh HK0).drew)) (by omega) (by omega) (by omega) (by rw [xa0l]; omega) hcell.1 hcell.2 hcelli.1 hcelli.2) ?_
    rintro e w2 ⟨v',rfl,ho,k2⟩
    have hkw:=((Kept.refl [] (w.alloc (.cells (wayC k D cr (.pointer (some ⟨g,0,none⟩)) pl false).toArray 102))).drew).trans k2 (by simp)
    have hk2:=(uh HK0).trans hkw (by simp)
    refine ⟨v',rfl,hkw,?_⟩
    simp only [Act.put,sa1,sa2,sa3]
    have hkv:[(kvR l).take pl,kvR its,(kvR l).drop pl] = [kvR (l.take pl),kvR its,kvR (l.drop pl)]:=by simp [kvR,List.map_take,List.map_drop]
    rw [hkv] at ho
    have hpf:=(((uh HPR).tk pl).app ((uh HPI).app ((uh HPR).dp pl))).agr (Agr.nil hk2)
    have hfin:=xb2d ho hpf hn (by have:=uh HN; simp; omega) (fun y hy=>hS y (by have:=(uh HK0).size; simp at hy; omega))
    obtain ⟨ao,n9,c9,e9⟩:∃ ao n c,v' = .slice ao n c:=by
      obtain ⟨b9,o9,c9,l9,e9,_⟩:=id hfin
      exact ⟨_,_,_,e9⟩
    subst e9
    refine ChL.op (.slice ao n9 c9) (by go_simp) hkw (by simp only [Act.put,sa1,sa2,sa3]; rfl) (ChL.fin ?_)
    go_wp2
    go_ret
    exact ⟨_,_,_,rfl,hfin,hk2⟩
theorem xb1h {W:World} {cr:Value} {gs:List Nat} (h:RdC 1 W cr (ptrs gs)):∃ ao c b off,cr = .slice ao gs.length c∧gs.length≤c∧c≤9223372036854775807∧(0 < gs.length→ao = some ⟨b,off,none⟩)∧∀ i,i < gs.length→W.cell? ⟨b,off + i,none⟩ = some (.pointer (some ⟨gs.getD i 0,0,none⟩)):=by
  obtain ⟨ao,n,c,rfl,h1,h2,h3,h4⟩:=h
  have hl:gs.length = n:=by rw [← h1,ptrs,List.length_map]
  subst hl
  rcases Nat.eq_zero_or_pos gs.length with h0 | h0
  · exact ⟨ao,c,0,0,rfl,h2,h3,fun h=>by omega,fun i hi=>by omega⟩
  · obtain ⟨b,off,rfl,h5⟩:=h4 h0
    refine ⟨_,c,b,off,rfl,h2,h3,fun _=>rfl,fun i hi=>?_⟩
    have h6:=h5 i (by rw [h1]; exact hi) 0 (.pointer (some ⟨gs.getD i 0,0,none⟩)) (by simp [ptrs,List.getD_eq_getElem?_getD,List.getElem?_eq_getElem hi])
    rw [Nat.mul_one,Nat.add_zero] at h6
    exact h6
set_option maxHeartbeats 2000000 in
theorem xa8h (S:Nat→Prop) (k m:Nat) (q:List Nat) (L:Prs) (X:Nat→Prs) (cr en:Value) (pl:Nat) (fd:Bool) (nv:Value) (w:World) (hk:1≤k∧k≤32) (hS:∀ y,w.heap.size≤y→S y) (hW:WayAt S k w q L m cr en pl fd)
    (hX:∀ i,i < m→ch (hsZ k) i (dgt ((hsZ k).kd q) i) (X i) = X (i + 1)∧(∀ j,j < 16→j≠dgt ((hsZ k).kd q) i→ch (hsZ k) i j (X i) = ch (hsZ k) i j (dnL (hsZ k) q L i))∧X i≠[]) (hn:KidAt S (hsZ k) w (64 - m) nv (X m)) (hT:Tabs w) :
    Calls Tryz.prog 51 #[.agg (wayC k ((hsZ k).kd q) cr en pl fd).toArray,nv] w fun e w'=>∃ v,e = .returned v∧KidAt S (hsZ k) w' 64 v (X 0)∧Kept [] w w':=by
  obtain ⟨gs,hgl,hrd,htr⟩:=hW.cr
  have hdeep:=hW.deep
  clear hW
  obtain ⟨ao,c,b,off,rfl,hc1,hc2,hao,hcell⟩:=xb1h hrd
  rw [hgl] at hc1 hao hcell ⊢
  have hDg:=(hsZ_ok hk).dg q
  have hfm:=xa9q hk q
  have HX:=hide hX
  have HTR:=hide htr
  have HC:=hide hcell
  have HTb:=hide hT
  have HAO:=hide hao
  obtain ⟨D,hD⟩:∃ D,(hsZ k).kd q = D:=⟨_,rfl⟩
  rw [hD] at hDg hfm HX ⊢
  have hdl:=hDg.1
  have HK0:=hide ((Kept.refl [] w).alloc (.cells (wayC k D (.slice ao m c) en pl fd).toArray 102))
  have HG0:=hide (heap_alloc_new w (.cells (wayC k D (.slice ao m c) en pl fd).toArray 102))
  obtain ⟨cw0,cw1,cw2,cw3,cw4,cw5⟩:=xa0m (uh HG0) hdl
  have HW0:=hide cw0
  have HW1:=hide cw1
  have HW2:=hide cw2
  have HN:=hide (hn.agr (Agr.nil (uh HK0)))
  have hwm:IntKind.i64.wrap ((m:Int) - 1) = (m:Int) - 1:=by simp [IntKind.wrap,IntKind.signed,IntKind.bits]; omega
  clear hX htr hcell hT hrd hao cw0 cw1 cw3 cw4 cw5 hn hD
  go_enter Tryz.func51,Tryz.ntmps51
  go_wp2_with fail
  have HKa:=hide (Kept.refl [] (w.alloc (.cells (wayC k D (.slice ao m c) en pl fd).toArray 102)))
  have hWs:(w.alloc (.cells (wayC k D (.slice ao m c) en pl fd).toArray 102)).heap.size = w.heap.size + 1:=by simp
  generalize hWa:w.alloc (.cells (wayC k D (.slice ao m c) en pl fd).toArray 102) = Wa at HK0 HG0 HW0 HW1 HW2 HN HKa cw2 hWs ⊢
  clear hWa cw2
  go_loopw [1,5] (fun t1 t5 wr=>∃ (d:Nat) (v:Value),t1 = v∧t5 = .int .i64 ((d:Int) - 1)∧d≤m∧Hid (KidAt S (hsZ k) wr (64 - d) v (X d))∧Hid (Kept [] Wa wr)) (fun _ t _=>(intOf t + 1).toNat)
  case atStart=>exact ⟨m,nv,rfl,by go_num,Nat.le_refl _,HN,HKa⟩
  case round =>
    obtain ⟨d,v,rfl,rfl,hdm,HKd,HKw⟩:=hrel
    cases d with
    | zero =>
      have hm1:¬ (0:Int)≤((0:Nat):Int) - 1:=by omega
      go_wp2_with fail
      go_ret
      exact ⟨_,rfl,uh HKd,(uh HK0).trans (uh HKw) (by simp)⟩
    | succ d =>
      have hki:((d + 1:Nat):Int) - 1 = (d:Int):=by omega
      have h0d:(0:Int)≤(d:Int):=by omega
      rw [hki]
      have hd1:(d:Int) < m:=by omega
      have hdm':d < m:=by omega
      obtain ⟨X1,X2,X3⟩:=uh HX d hdm'
      have hx16:=dgt_lt hDg.2 d
      have haod:=uh HAO (by omega)
      have hcc:=uh HC d hdm'
      obtain ⟨ht1,ht2⟩:=uh HTR d hdm'
      obtain ⟨f,hf⟩:∃ f,64 - d = f + 1:=⟨63 - d,by omega⟩
      have hff:63 - f = d:=by omega
      have hf2:64 - (d + 1) = f:=by omega
      rw [hf] at ht1
      generalize gs.getD d 0 = g at hcc ht1
      have HX1:=hide X1
      have HX2:=hide X2
      have HTD:=hide ht1
      have HTS:=hide ht2
      have hk0w:=(uh HK0).trans (uh HKw) (by simp)
      have hcw:=hk0w.cell hcc (by simp)
      have HCW:=hide hcw
      have HKW:=hide hk0w
      have HV0:=hide ((uh HKw).cell (uh HW0) (by simp))
      have HV1:=hide ((uh HKw).rng (uh HW1) (by simp))
      have HV2:=hide ((uh HKw).cell (uh HW2) (by simp))
      rw [hf2] at HKd
      subst haod
      clear X1 X2 ht1 ht2 hcc hcw hk0w HC HAO HTR
      go_upto_region 4 with fail
      refine ln_li (by kernel_rfl) (by kernel_rfl) rfl (fun W=>Kept [] wr W) (Kept.refl [] _).drew ?_
      refine LinY.rd (.pointer (some ⟨w.heap.size,33,none⟩)) (fun W hW=>by go_simp) (by simp only [Act.put,sa1,sa2,sa3]; rfl) ?_
      refine LinY.rd (.slice (some ⟨b,off,none⟩) m c) (fun W hW=>by have h9:=hW.cell (uh HV2) (by simp); go_simp) (by simp only [Act.put,sa1,sa2,sa3]; rfl) ?_
      refine LinY.mv (x:=.tmp 5) rfl (.int .i64 d) rfl (by simp only [Act.put,sa1,sa2,sa3]; rfl) ?_
      refine LinY.rd (.pointer (some ⟨b,off + d,none⟩)) (fun W hW=>by go_simp) (by simp only [Act.put,sa1,sa2,sa3]; rfl) ?_
      refine LinY.rd (.pointer (some ⟨g,0,none⟩)) (fun W hW=>by have h9:=hW.cell (uh HCW) (by simp); go_simp) (by simp only [Act.put,sa1,sa2,sa3]; rfl) ?_
      refine LinY.rd (.pointer (some ⟨w.heap.size,0,none⟩)) (fun W hW=>by go_simp) (by simp only [Act.put,sa1,sa2,sa3]; rfl) ?_
      refine LinY.rd (.int .i64 k) (fun W hW=>by have h9:=hW.cell (uh HV0) (by simp); go_simp) (by simp only [Act.put,sa1,sa2,sa3]; rfl) ?_
      refine LinY.rd (.pointer (some ⟨w.heap.size,0,none⟩)) (fun W hW=>by go_simp) (by simp only [Act.put,sa1,sa2,sa3]; rfl) ?_
      refine LinY.rd (.int .i64 k) (fun W hW=>by have h9:=hW.cell (uh HV0) (by simp); go_simp) (by simp only [Act.put,sa1,sa2,sa3]; rfl) ?_
      refine LinY.rd (.pointer (some ⟨w.heap.size,1,none⟩)) (fun W hW=>by go_simp) (by simp only [Act.put,sa1,sa2,sa3]; rfl) ?_
      refine LinY.ld 58 (.tmp 23) rfl w.heap.size 1 rfl (D.map u8) _ (fun W hW=>hW.rng (uh HV1) (by simp)) Tryz.underlying58 rfl (by rw [List.length_map,hdl]; exact Tryz.size_dig) (by simp only [Act.put,sa1,sa2,sa3]; rfl) ?_
      refine LinY.mv (x:=.tmp 5) rfl (.int .i64 d) rfl (by simp only [Act.put,sa1,sa2,sa3]; rfl) ?_
      refine LinY.mv (x:=.tmp 1) rfl (u1) rfl (by simp only [Act.put,sa1,sa2,sa3]; rfl) ?_
      refine ChL.call rfl Tryz.call82 [.int .i64 k,.agg (brow D),.int .i64 d] rfl (xa1z k D d _ hk hDg hfm (by omega)) ?_
      rintro e w2 ⟨rfl,k2⟩
      have hkw:=((Kept.refl [] wr).drew).trans k2 (by simp)
      have HKw2:=hide hkw
      refine ⟨_,rfl,hkw,?_⟩
      simp only [Act.put,sa1,sa2,sa3]
      obtain ⟨x,hx⟩:∃ x,dgt D d = x:=⟨_,rfl⟩
      rw [hx] at hx16 HX1 HX2 ⊢
      have HKW2:=hide ((uh HKW).trans hkw (by simp))
      refine ChL.call rfl Tryz.call81 [.pointer (some ⟨g,0,none⟩),.int .i64 k,.int .i64 x,u1] rfl (xb0g S k f g x (dnL (hsZ k) q L d) (X d) u1 w2 hk (fun y hy=>hS y (Nat.le_trans (uh HKW2).size hy)) ((uh HTD).agr (Agr.nil (uh HKW2))) (uh HTS) hx16 (by rw [hff,uh HX1]; exact (uh HKd).agr (Agr.nil hkw)) (by rw [hff]; exact uh HX2) X3 ((uh HTb).k (uh HKW2))) ?_
      rintro e w3 ⟨v3,rfl,ht3,k3⟩
      have hkw3:=hkw.trans k3 (by simp)
      refine ⟨_,rfl,hkw3,?_⟩
      simp only [Act.put,sa1,sa2,sa3]
      refine ChL.op v3 (by go_simp) hkw3 (by simp only [Act.put,sa1,sa2,sa3]; rfl) (ChL.fin ?_)
      have HF3:=hide (Or.inr (by rw [hf]; exact ht3):KidAt S (hsZ k) w3 (64 - d) v3 (X d))
      have HK3:=hide ((uh HKw).trans hkw3 (by simp))
      clear ht3 hkw3 hkw k3 k2
      go_wp2
      refine ⟨⟨d,v3,rfl,by go_num,by omega,HF3,HK3⟩,?_⟩
      simp [intOf]
      try omega
theorem xa2p:∀ {L:Prs},Fit L→(pairB L).length≤350 * L.length
  | [],_=>by simp [pairB]
  | x :: L,h=>by
    have ih:=xa2p (L:=L) (fun p hp=>h p (by simp [hp]))
    have h1:=h x (by simp)
    have u1:=uv_len x.1.length (by omega)
    have u2:=uv_len x.2.length (by omega)
    have e:pairB (x :: L) = (uv x.1.length++x.1++(uv x.2.length++x.2))++pairB L:=by simp [pairB]
    rw [e,List.length_append,List.length_append,List.length_append,List.length_append,List.length_cons]
    omega
theorem bk_of {S:Nat→Prop} {k g:Nat} {D:List Nat} {pv:Value} {ps:Prs} {W:World} (hS:S g) (hg:W.heap[g]? = some (.cells (bkC D pv ((hsZ k).hb ps)).toArray 111 (0,0))) (hn:ps≠[]) (hD:∀ y∈ps,(hsZ k).kd y.1 = D) (hr:KRow S W pv ps):BkAt S (hsZ k) W g ps:=by
  refine ⟨pv,hS,?_,hn,hr⟩
  have e:(hsZ k).kd (ps.headD ([],[])).1 = D:=by cases ps with
    | nil=>exact absurd rfl hn
    | cons y ps=>exact hD y (by simp)
  rw [e]; exact hg
theorem fnd_ex {q:List Nat} {L:Prs} (h:fnd q L = true):∃ z∈L,z.1 = q:=Classical.byContradiction (fun hn=>by
  unfold fnd at h
  rw [xa1l.2 (fun z hz e=>hn ⟨z,hz,e⟩)] at h; simp at h)
theorem xc0s {q:List Nat} {L:Prs} (h:fnd q L = true) (hl:L.length = 1):delP q L = []:=by
  have h1:=xb6a h
  rw [hl] at h1
  exact List.eq_nil_of_length_eq_zero (by omega)
theorem kd_all {H:Hs} {q:List Nat} {L:Prs} (hs:sgl H L = true) (h:fnd q L = true):∀ y∈L,H.kd y.1 = H.kd q:=fun y hy=>by
  obtain ⟨z,hz,e⟩:=fnd_ex h
  rw [xa1g.1 hs y hy z hz,e]
set_option maxHeartbeats 2000000 in
theorem xa5y (S:Nat→Prop) (k m:Nat) (q:List Nat) (L:Prs) (cr en:Value) (pl:Nat) (w:World) (hk:1≤k∧k≤32) (hS:∀ y,w.heap.size≤y→S y) (hW:WayAt S k w q L m cr en pl true) (hs:Srt (hsZ k) L) (hf:Fit L) (hn:L.length≤1000000000) (hT:Tabs w) :
    Calls Tryz.prog 117 #[.agg (wayC k ((hsZ k).kd q) cr en pl true).toArray] w fun e w'=>∃ v,e = .returned v∧KidAt S (hsZ k) w' (64 - m) v (delP q (dnL (hsZ k) q L m))∧Kept [] w w':=by
  rcases hW.en with ⟨_,_,_,hx⟩ | ⟨hsg,g,rfl,hb,hpl,hfd⟩
  · cases hx
  have hM1:=dn_srt (q:=q) hs m
  have hM2:=dn_len (H:=hsZ k) (q:=q) (L:=L) m
  have hM3:=dn_sub (H:=hsZ k) (q:=q) (L:=L) m
  clear hW
  generalize dnL (hsZ k) q L m = M at *
  have hMf:Fit M:=hf.sub hM3
  have hris:=xa5t hM1 hsg
  have hfd':=hfd.symm
  have hdp:=xb6h hris hfd'
  have hat:=(fnd_at hris).1 hfd'
  have hall:=kd_all hsg hfd'
  have hone:=xc0s hfd'
  rw [← hpl] at hdp hat
  have hdl:∀ y∈delP q M,y∈M:=fun y hy=>((xa4o y).1 hy).1
  have HDl:=hide hdl
  have HDP:=hide hdp
  have HAl:=hide hall
  have HOne:=hide hone
  have HB:=hide hb
  have hpf:=xa2p (hMf.sub hdl)
  have hlt:=Nat.le_of_lt (xb6a hfd')
  have HPB:=hide (show (pairB (delP q M)).length≤1000000000000 by omega)
  have HTb:=hide hT
  have HSg:=hide (xa1g.2 (fun x hx y hy=>xa1g.1 hsg x (hdl x hx) y (hdl y hy)):sgl (hsZ k) (delP q M) = true)
  have hDg:=((hsZ_ok hk).dg q).1
  obtain ⟨D,hD⟩:∃ D,(hsZ k).kd q = D:=⟨_,rfl⟩
  rw [hD] at hDg HAl ⊢
  obtain ⟨pv,hSg,hh,hne,hkr⟩:=hb
  have hkd:((hsZ k).kd (M.headD ([],[])).1).length = 32:=xa1c _ _
  have c1:=(bk_row hh hkd).2.1
  obtain ⟨b,off,cap,l,rfl,hpr,hrd,hc1,hc2⟩:=hkr.pr
  have hll:=hpr.1
  have HK0:=hide ((Kept.refl [] w).alloc (.cells (wayC k D cr (.pointer (some ⟨g,0,none⟩)) pl true).toArray 102))
  have HG0:=hide (heap_alloc_new w (.cells (wayC k D cr (.pointer (some ⟨g,0,none⟩)) pl true).toArray 102))
  obtain ⟨cw0,cw1,cw2,cw3,cw4,cw5⟩:=xa0m (uh HG0) hDg
  have HW0:=hide cw0
  have HW1:=hide cw1
  have HWY:=hide (xa0j [] (wayC k D cr (.pointer (some ⟨g,0,none⟩)) pl true) [] (by rw [List.nil_append,List.append_nil]; exact uh HG0) rfl)
  have HC1:=hide ((uh HK0).cell c1 (by simp))
  have c1':=uh HC1
  obtain ⟨n,hnn⟩:∃ n,l.length = n:=⟨_,rfl⟩
  rw [hnn] at hll c1' HC1
  have HML:=hide hll
  have HM2:=hide hM2
  have HPl:=hide hat.1
  clear hll hpr hrd hkr hh hpf hlt hdl hdp hone hris hfd hfd' hM1 hM2 hM3 hsg hne c1 cw0 cw1 cw2 cw4 cw5 hnn hat hpl
  go_enter Tryz.func117,Tryz.ntmps117
  by_cases hn1:n = 1
  · subst hn1
    go_wp2_with fail
    go_ret
    exact ⟨_,rfl,Or.inl ⟨uh HOne (uh HML).symm,rfl⟩,uh HK0⟩
  · have hi1:¬ ((n:Int) = 1):=by omega
    have hi2:decide ((n:Int) = 1) = false:=by rw [decide_eq_false_iff_not]; exact hi1
    have hnd:delP q M≠[]:=by
      intro e
      have h1:=congrArg List.length (uh HDP)
      rw [e,List.length_append,List.length_take,List.length_drop] at h1
      have h2:=uh HPl
      have h3:=uh HML
      simp at h1
      omega
    go_upto_region 3 with fail
    refine ln_eo (by kernel_rfl) (by kernel_rfl) rfl (fun W=>Kept [] (w.alloc (.cells (wayC k D cr (.pointer (some ⟨g,0,none⟩)) pl true).toArray 102)) W) (Kept.refl [] _).drew ?_
    refine LinY.rd (.pointer (some ⟨w.heap.size,0,none⟩)) (fun W hW=>by go_simp) (by simp only [Act.put,sa1,sa2,sa3]; rfl) ?_
    refine LinY.rd (.int .i64 k) (fun W hW=>by have h9:=hW.cell (uh HW0) (by simp); go_simp) (by simp only [Act.put,sa1,sa2,sa3]; rfl) ?_
    refine LinY.rd (.pointer (some ⟨w.heap.size,1,none⟩)) (fun W hW=>by go_simp) (by simp only [Act.put,sa1,sa2,sa3]; rfl) ?_
    refine LinY.ld 58 (.tmp 12) rfl w.heap.size 1 rfl (D.map u8) _ (fun W hW=>hW.rng (uh HW1) (by simp)) Tryz.underlying58 rfl (by rw [List.length_map,hDg]; exact Tryz.size_dig) (by simp only [Act.put,sa1,sa2,sa3]; rfl) ?_
    refine LinY.ld 102 (.tmp 1) rfl w.heap.size 0 rfl (wayC k D cr (.pointer (some ⟨g,0,none⟩)) pl true) _ (fun W hW=>hW.rng (uh HWY) (by simp)) Tryz.underlying102 rfl (by rw [xa0v hDg]; exact Tryz.size_way) (by simp only [Act.put,sa1,sa2,sa3]; rfl) ?_
    refine ChL.call rfl Tryz.call84 [.agg (wayC k D cr (.pointer (some ⟨g,0,none⟩)) pl true).toArray,.slice none 0 0] rfl (xa6x S k D cr g pl true M (.slice none 0 0) [] [] _ hDg ((uh HB).agr (Agr.nil ((uh HK0).drew))) (by rw [if_pos rfl]; exact uh HPl) (by have:=uh HM2; omega) (RdC.nil 2 _) (PR.nil S _) (by simp) (by have h8:=hnd; rw [uh HDP] at h8; simpa using h8) (fun y hy=>hS y (by have:=(uh HK0).size; simp at hy; omega))) ?_
    rintro e w2 ⟨ao,n2,c2,rfl,hkr2,k2⟩
    have hkw:=((Kept.refl [] (w.alloc (.cells (wayC k D cr (.pointer (some ⟨g,0,none⟩)) pl true).toArray 102))).drew).trans k2 (by simp)
    have HK2:=hide ((uh HK0).trans hkw (by simp))
    have hkr3:KRow S w2 (.slice ao n2 c2) (delP q M):=by rw [uh HDP]; simpa using hkr2
    refine ⟨_,rfl,hkw,?_⟩
    simp only [Act.put,sa1,sa2,sa3]
    refine ChL.call rfl Tryz.call83 [.int .i64 k,.agg (brow D),.slice ao n2 c2] rfl (xa1o k D ao n2 c2 (delP q M) w2 hk hDg hkr3.rdK (uh HPB) ((uh HTb).k (uh HK2))) ?_
    rintro e w3 ⟨g3,rfl,hg3,hc3,k3⟩
    have hkw3:=hkw.trans k3 (by simp)
    have hk3:=(uh HK2).trans k3 (by simp)
    refine ⟨_,rfl,hkw3,?_⟩
    simp only [Act.put,sa1,sa2,sa3]
    have hbk:=bk_of (S:=S) (hS g3 (by have:=(uh HK2).size; omega)) hc3 hnd (fun y hy=>uh HAl y (uh HDl y hy)) (hkr3.agr (Agr.nil k3))
    refine ChL.op (bkV g3) (by go_simp) hkw3 (by simp only [Act.put,sa1,sa2,sa3]; rfl) ?_
    refine ChL.op (bkV g3) (by go_simp) hkw3 (by simp only [Act.put,sa1,sa2,sa3]; rfl) (ChL.fin ?_)
    go_wp2
    go_ret
    exact ⟨_,rfl,Or.inr (TreeAt.ofBk _ hbk (uh HSg)),hk3⟩
theorem Tryz.size_pair:(Tryz.prog.info? 33).map (·.size) = some 2:=by kernel_rfl
theorem infoQ:(Tryz.prog.info? 33).map (fun i=>(i.zero,i.size)) = some (some (.agg #[.slice none 0 0,.slice none 0 0]),2):=by kernel_rfl
theorem infoQp:∃ i,Tryz.prog.info? 33 = some i∧i.zero = some (.agg #[.slice none 0 0,.slice none 0 0])∧i.size = 2:=by
  have h:=infoQ
  generalize Tryz.prog.info? 33 = o at h
  cases o with
  | none=>cases h
  | some i=>exact ⟨i,rfl,(Prod.mk.inj (Option.some.inj h)).1,(Prod.mk.inj (Option.some.inj h)).2⟩
theorem fillQ (x y:Value):Instr.fill (fun i=>some (i * 2,2)) ((Array.range (1 * 2)).map ((Value.agg #[.slice none 0 0,.slice none 0 0]).cells[· % (Value.agg #[.slice none 0 0,.slice none 0 0]).cells.size]!)) [(0,.agg #[x,y])] = some #[x,y]:=by kernel_rfl
theorem xa8i {o:Oper} {a:Act} (w:World) (x:Operand) (ho:o.op = .buildSlice 22 1 #[(0,x)]) (ku vu:Value) (hx:a.eval x = .agg #[ku,vu]):(execOp a.eval o).run Tryz.prog w = .ok (.value (.slice (some ⟨w.heap.size,0,none⟩) 1 1)) (w.alloc (.cells #[ku,vu] 33)):=by
  obtain ⟨i0,hi,hz0,hz1⟩:=infoQp
  have hb:=run_buildSlice w 22 33 1 #[(0,.agg #[ku,vu])] #[ku,vu] i0 _ Tryz.underlying22 hi hz0 (by rw [hz1]; decide) (by rw [hz1]; decide) (by rw [hz1]; exact fillQ ku vu)
  unfold execOp
  simp only [ho,List.map_toArray,List.map_cons,List.map_nil,hx,Sem.run_bind,hb,Result.andThen_ok]
  rfl
theorem xa2r {ops:Array Oper} {rest:List Oper} {o:Oper} {a:Act} {w:World} {Q:Exit→Act→World→Prop} (hw:Region.wanted o (yielded ops a.tmps) = true) (x:Operand) (ho:o.op = .buildSlice 22 1 #[(0,x)]) (ku vu:Value) (hx:a.eval x = .agg #[ku,vu])
    (h:wpList Tryz.prog ops Q rest (a.put o.dst (.slice (some ⟨w.heap.size,0,none⟩) 1 1)) (w.alloc (.cells #[ku,vu] 33))):wpList Tryz.prog ops Q (o :: rest) a w :=
  wpList_want hw fun _ hK=>by
    unfold Oper.wp
    rw [xa8i w x ho ku vu hx]
    exact hK _ _ h
theorem kr_lit {S:Nat→Prop} {w:World} {kv vv:Value} {q v:List Nat} (hS:S w.heap.size) (hk:Sty S w (fun w=>Rd w kv q)) (hv:Sty S w (fun w=>Rd w vv v)):KRow S (w.alloc (.cells #[kv,vv] 33)) (.slice (some ⟨w.heap.size,0,none⟩) 1 1) [(q,v)]:=by
  have ha:Agr S w (w.alloc (.cells #[kv,vv] 33)):=Agr.nil ((Kept.refl [] w).alloc _)
  refine ⟨w.heap.size,0,1,[(kv,vv)],rfl,Nat.le_refl _,by omega,hS,rfl,fun i hi=>?_,fun i hi=>?_⟩
  · have h0:i = 0:=by simp at hi; omega
    subst h0
    constructor
    · rw [cell_of_row _ _ _ _ _ _ (heap_alloc_new w (.cells #[kv,vv] 33))]; rfl
    · rw [cell_of_row _ _ _ _ _ _ (heap_alloc_new w (.cells #[kv,vv] 33))]; rfl
  · have h0:i = 0:=by simp at hi; omega
    subst h0
    exact fun w' k=>⟨hk w' (ha.trans k),hv w' (ha.trans k)⟩
theorem xc0f (H:Hs) (q v:List Nat):insP H q v [] = [(q,v)]:=rfl
theorem xb8j (H:Hs) (q v:List Nat):sgl H [(q,v)] = true:=xa1g.2 (fun x hx y hy=>by
  have e1:x = (q,v):=by simpa using hx
  have e2:y = (q,v):=by simpa using hy
  rw [e1,e2])
theorem xc0w {k m:Nat} {q v DA:List Nat} {M:Prs} (hk:1≤k∧k≤32) (hs:Srt (hsZ k) M) (hn:M≠[]) (ha:∀ y∈M,(hsZ k).kd y.1 = DA) (hon:On (hsZ k) m q M) (hne:DA≠(hsZ k).kd q):∃ part,m≤part∧Fork (hsZ k) part q v M DA:=by
  obtain ⟨y,hy⟩:∃ y,y∈M:=by cases M with
    | nil=>exact absurd rfl hn
    | cons y M=>exact ⟨y,by simp⟩
  have hDA:=ha y hy
  obtain ⟨_,s2,s3,s4⟩:=xa5v DA ((hsZ k).kd q) (2 * k) 0
  have hlt:comL DA ((hsZ k).kd q) (2 * k) 0 < 0 + 2 * k:=by
    refine Nat.lt_of_le_of_ne s2 (fun e=>hne ?_)
    rw [← hDA] at s3 e ⊢
    exact kd_ext (hsZ_ok hk) (fun j hj=>s3 j (by omega) (by rw [e]; have:(hsZ k).wd = k:=rfl; omega))
  have hpne:=s4 hlt
  refine ⟨comL DA ((hsZ k).kd q) (2 * k) 0,?_,⟨hs,hn,ha,?_,fun j hj=>s3 j (by omega) hj,hpne,?_⟩⟩
  · refine Nat.le_of_not_lt (fun g=>hpne ?_)
    rw [← hDA]
    rw [← hDA] at g
    exact hon y hy _ g
  · rw [← hDA]; exact (hsZ_ok hk).dg y.1
  · have:(hsZ k).wd = k:=rfl
    omega
set_option maxHeartbeats 4000000 in
theorem xa4p (S:Nat→Prop) (k m:Nat) (q v:List Nat) (L:Prs) (cr en kv vv:Value) (pl:Nat) (fd:Bool) (w:World) (hk:1≤k∧k≤32) (hS:∀ y,w.heap.size≤y→S y) (hW:WayAt S k w q L m cr en pl fd) (hs:Srt (hsZ k) L) (hf:Fit L) (hn:L.length≤1000000000) (hq:q.length≤64) (hv:v.length≤256)
    (hkv:Sty S w (fun w=>Rd w kv q)) (hvv:Sty S w (fun w=>Rd w vv v)) (hT:Tabs w) :
    Calls Tryz.prog 52 #[.agg (wayC k ((hsZ k).kd q) cr en pl fd).toArray,.agg #[kv,vv]] w fun e w'=>∃ t,e = .returned t∧TreeAt S (hsZ k) w' (64 - m) t (insP (hsZ k) q v (dnL (hsZ k) q L m))∧Kept [] w w':=by
  have hon:=dn_on (H:=hsZ k) (q:=q) (L:=L) m
  have hM1:=dn_srt (q:=q) hs m
  have hM2:=dn_len (H:=hsZ k) (q:=q) (L:=L) m
  have hM3:=dn_sub (H:=hsZ k) (q:=q) (L:=L) m
  have hend:=hW.en
  obtain ⟨gs,hgl,hrd,_⟩:=hW.cr
  obtain ⟨ao,n,c,rfl,hnl,_⟩:=hrd
  have hnm:n = m:=by rw [← hnl,ptrs,List.length_map,hgl]
  subst hnm
  have hdeep:=hW.deep
  clear hW hnl hgl
  generalize dnL (hsZ k) q L n = M at *
  have hMf:Fit M:=hf.sub hM3
  have hfq:Fit [(q,v)]:=fun p hp=>by
    have:p = (q,v):=by simpa using hp
    subst this; exact ⟨hq,hv⟩
  have hDg:=((hsZ_ok hk).dg q).1
  obtain ⟨D,hD⟩:∃ D,(hsZ k).kd q = D:=⟨_,rfl⟩
  rw [hD] at hDg ⊢
  have hk0:=((Kept.refl [] w).alloc (.cells (wayC k D (.slice ao n c) en pl fd).toArray 102)).alloc (.cells #[kv,vv] 33)
  have hg0:=((Kept.refl [] (w.alloc (.cells (wayC k D (.slice ao n c) en pl fd).toArray 102))).alloc (.cells #[kv,vv] 33)).heap (heap_alloc_new w (.cells (wayC k D (.slice ao n c) en pl fd).toArray 102)) (by simp)
  have hp0:=xa2h w (.cells (wayC k D (.slice ao n c) en pl fd).toArray 102) (.cells #[kv,vv] 33)
  have hz0:((w.alloc (.cells (wayC k D (.slice ao n c) en pl fd).toArray 102)).alloc (.cells #[kv,vv] 33)).heap.size = w.heap.size + 2:=by simp
  go_enter Tryz.func52,Tryz.ntmps52
  go_upto_region 1 with fail
  generalize (w.alloc (.cells (wayC k D (.slice ao n c) en pl fd).toArray 102)).alloc (.cells #[kv,vv] 33) = W0 at hk0 hg0 hp0 hz0 ⊢
  obtain ⟨cw0,cw1,cw2,cw3,cw4,cw5⟩:=xa0m hg0 hDg
  have HK0:=hide hk0
  have HW0:=hide cw0
  have HW1:=hide cw1
  have HW2:=hide cw2
  have HW3:=hide cw3
  have HWY:=hide (xa0j [] (wayC k D (.slice ao n c) en pl fd) [] (by rw [List.nil_append,List.append_nil]; exact hg0) rfl)
  have HWP:=hide (xa0j [] [kv,vv] [] hp0 rfl)
  have HP0:=hide hp0
  have HKV:=hide (hkv.agr (Agr.nil hk0))
  have HVV:=hide (hvv.agr (Agr.nil hk0))
  have HTb:=hide (hT.k hk0)
  have hS0:∀ y,W0.heap.size≤y→S y:=fun y hy=>hS y (by omega)
  have HOn:=hide hon
  have HMs:=hide hM1
  have HMl:=hide hM2
  have HMf:=hide hMf
  have HPB1:=hide (show (pairB [(q,v)]).length≤1000000000000 by have:=xa2p hfq; simp at this; omega)
  have HDq:=hide hD
  clear cw0 cw1 cw2 cw4 cw5 hg0 hp0 hkv hvv hT hon hM1 hM2 hM3 hMf hk0 hfq hf hs
  rcases hend with ⟨hM,rfl,rfl,rfl⟩ | ⟨hsg,g,rfl,hb,hpl,hfd⟩
  · subst hM
    refine ln_eg (by kernel_rfl) (by kernel_rfl) (fun W=>Kept [] W0 W) (Kept.refl [] W0).drew ?_
    refine LinG.rd (by rfl) (.pointer (some ⟨w.heap.size,34,none⟩)) (fun W hW=>by go_simp) (by simp only [Act.put,sa1,sa2,sa3]; rfl) ?_
    refine LinG.rd (by rfl) (.pointer none) (fun W hW=>by have h9:=hW.cell (uh HW3) (by simp); go_simp) (by simp only [Act.put,sa1,sa2,sa3]; rfl) ?_
    refine LinG.rd (by rfl) (.bool false) (fun W hW=>by go_simp) (by simp only [Act.put,sa1,sa2,sa3]; rfl) ?_
    refine LinG.rd (by rfl) (.bool false) (fun W hW=>by go_simp) (by simp only [Act.put,sa1,sa2,sa3]; rfl) ?_
    refine LinG.no (by rfl) (by simp only [Act.put,sa1,sa2,sa3]; rfl) ?_
    refine LinG.no (by rfl) (by simp only [Act.put,sa1,sa2,sa3]; rfl) ?_
    refine LinG.no (by rfl) (by simp only [Act.put,sa1,sa2,sa3]; rfl) ?_
    refine LinG.no (by rfl) (by simp only [Act.put,sa1,sa2,sa3]; rfl) ?_
    refine LinG.no (by rfl) (by simp only [Act.put,sa1,sa2,sa3]; rfl) ?_
    refine LinG.no (by rfl) (by simp only [Act.put,sa1,sa2,sa3]; rfl) ?_
    refine LinG.no (by rfl) (by simp only [Act.put,sa1,sa2,sa3]; rfl) ?_
    refine LinG.no (by rfl) (by simp only [Act.put,sa1,sa2,sa3]; rfl) ?_
    refine LinG.rd (by rfl) (.bool false) (fun W hW=>by go_simp) (by simp only [Act.put,sa1,sa2,sa3]; rfl) ?_
    refine LinG.fin ?_
    have hkl:=(kr_lit (S:=S) (w:=W0) (kv:=kv) (vv:=vv) (q:=q) (v:=v) (hS0 _ (Nat.le_refl _)) (uh HKV) (uh HVV)).agr (Agr.nil (Kept.refl [] (W0.alloc (.cells #[kv,vv] 33))).drew)
    rw [hz0] at hkl
    have HKL:=hide hkl
    have HKA:=hide (((Kept.refl [] W0).alloc (.cells #[kv,vv] 33)).drew)
    clear hkl
    have h7a:=(Kept.refl [] W0).drew.cell (uh HW0) (by simp)
    go_wp2_with (first
      | (refine wpList_load_mid rfl 58 (.tmp 31) rfl w.heap.size 1 rfl (D.map u8) _ ((Kept.refl [] W0).drew.rng (uh HW1) (by simp)) Tryz.underlying58 rfl (by rw [List.length_map,hDg]; exact Tryz.size_dig) ?_)
      | (refine wpList_load_row rfl 33 (.tmp 3) rfl (w.heap.size + 1) rfl 33 #[kv,vv] (0,0) _ ((Kept.refl [] W0).drew.heap (uh HP0) (by simp)) Tryz.underlying33 rfl Tryz.size_pair ?_)
      | (refine xa2r rfl (.tmp 33) rfl kv vv rfl ?_))
    refine Calls.mono (xa1o k D (some ⟨w.heap.size + 2,0,none⟩) 1 1 [(q,v)] _ hk hDg (uh HKL).rdK (uh HPB1) ((uh HTb).k (uh HKA))) ?_
    rintro e w3 ⟨g3,rfl,hg3,hc3,k3⟩
    have hk3:=(uh HKA).trans k3 (by simp)
    have hbk:=bk_of (S:=S) (hS0 g3 (by have:=(uh HKA).size; omega)) hc3 (by simp) (fun y hy=>by rw [show y = (q,v) by simpa using hy]; exact uh HDq) ((uh HKL).agr (Agr.nil k3))
    have HBK:=hide hbk
    have HK3:=hide hk3
    clear hbk hk3 hc3 k3
    have h9:=(uh HK3).cell (uh HW3) (by simp)
    go_wp2_with fail
    go_ret
    rw [xc0f]
    exact ⟨_,rfl,TreeAt.ofBk _ (uh HBK) (xb8j _ _ _),(uh HK0).trans (uh HK3) (by simp)⟩
  · obtain ⟨pv,hSg,hh,hne,hkr⟩:=id hb
    have hkd:((hsZ k).kd (M.headD ([],[])).1).length = 32:=xa1c _ _
    have b0:=(bk_row hh hkd).1
    have hall:∀ y∈M,(hsZ k).kd y.1 = (hsZ k).kd (M.headD ([],[])).1:=fun y hy=>xa1g.1 hsg y hy _ (by cases M with
      | nil=>exact absurd rfl hne
      | cons z M=>simp)
    generalize (hsZ k).kd (M.headD ([],[])).1 = DA at hkd b0 hall
    have HB0:=hide ((uh HK0).rng b0 (by simp))
    have HB:=hide (hb.agr (Agr.nil (uh HK0)))
    have HAll:=hide hall
    have HSG:=hide hsg
    have HPl:=hide hpl
    have HFd:=hide hfd
    have HNe:=hide hne
    have heq:=fun W=>dig_eq W DA D hkd hDg
    obtain ⟨sm,hsm⟩:∃ sm,decide (DA = D) = sm:=⟨_,rfl⟩
    rw [hsm] at heq
    have HEQ:=hide heq
    clear hb hh hkr b0 hall hsg hpl hfd hne heq
    refine ln_eg (by kernel_rfl) (by kernel_rfl) (fun W=>Kept [] W0 W) (Kept.refl [] W0).drew ?_
    refine LinG.rd (by rfl) (.pointer (some ⟨w.heap.size,34,none⟩)) (fun W hW=>by go_simp) (by simp only [Act.put,sa1,sa2,sa3]; rfl) ?_
    refine LinG.rd (by rfl) (.pointer (some ⟨g,0,none⟩)) (fun W hW=>by have h9:=hW.cell (uh HW3) (by simp); go_simp) (by simp only [Act.put,sa1,sa2,sa3]; rfl) ?_
    refine LinG.rd (by rfl) (.bool true) (fun W hW=>by go_simp) (by simp only [Act.put,sa1,sa2,sa3]; rfl) ?_
    refine LinG.rd (by rfl) (.bool true) (fun W hW=>by go_simp) (by simp only [Act.put,sa1,sa2,sa3]; rfl) ?_
    refine LinG.rd (by rfl) (.pointer (some ⟨w.heap.size,34,none⟩)) (fun W hW=>by go_simp) (by simp only [Act.put,sa1,sa2,sa3]; rfl) ?_
    refine LinG.rd (by rfl) (.pointer (some ⟨g,0,none⟩)) (fun W hW=>by have h9:=hW.cell (uh HW3) (by simp); go_simp) (by simp only [Act.put,sa1,sa2,sa3]; rfl) ?_
    refine LinG.rd (by rfl) (.pointer (some ⟨g,0,none⟩)) (fun W hW=>by go_simp) (by simp only [Act.put,sa1,sa2,sa3]; rfl) ?_
    refine LinG.rd (by rfl) (.pointer (some ⟨g,0,none⟩)) (fun W hW=>by go_simp) (by simp only [Act.put,sa1,sa2,sa3]; rfl) ?_
    refine LinG.ld (by rfl) 58 (.tmp 13) rfl g 0 rfl (DA.map u8) _ (fun W hW=>hW.rng (uh HB0) (by simp)) Tryz.underlying58 rfl (by rw [List.length_map,hkd]; exact Tryz.size_dig) (by simp only [Act.put,sa1,sa2,sa3]; rfl) ?_
    refine LinG.rd (by rfl) (.pointer (some ⟨w.heap.size,1,none⟩)) (fun W hW=>by go_simp) (by simp only [Act.put,sa1,sa2,sa3]; rfl) ?_
    refine LinG.ld (by rfl) 58 (.tmp 15) rfl w.heap.size 1 rfl (D.map u8) _ (fun W hW=>hW.rng (uh HW1) (by simp)) Tryz.underlying58 rfl (by rw [List.length_map,hDg]; exact Tryz.size_dig) (by simp only [Act.put,sa1,sa2,sa3]; rfl) ?_
    refine LinG.rd (by rfl) (.bool sm) (fun W hW=>xb7b 58 (.tmp 14) (.tmp 16) 58 rfl (brow DA) (brow D) rfl rfl W sm (by kernel_rfl) (uh HEQ W)) (by simp only [Act.put,sa1,sa2,sa3]; rfl) ?_
    refine LinG.rd (by rfl) (.bool sm) (fun W hW=>by go_simp) (by simp only [Act.put,sa1,sa2,sa3]; rfl) ?_
    refine LinG.fin ?_
    cases sm with
    | true =>
      have hDD:DA = D:=of_decide_eq_true hsm
      subst hDD
      have hall2:∀ y∈M,(hsZ k).kd y.1 = (hsZ k).kd q:=fun y hy=>by rw [uh HAll y hy,uh HDq]
      have hris:=xa5t (uh HMs) (uh HSG)
      have hip:=xb6d (H:=hsZ k) (v:=v) hris hall2
      rw [← uh HPl,← uh HFd] at hip
      have hple:pl + (if fd = true then 1 else 0)≤M.length:=by
        have h1:=plc_le q M
        cases hfd2:fd with
        | false=>rw [uh HPl]; simpa using h1
        | true =>
          have h2:=(fnd_at (k:=q) hris).1 (by rw [← uh HFd,hfd2])
          rw [uh HPl,if_pos rfl]; exact h2.1
      have hin:∀ y∈insP (hsZ k) q v M,(hsZ k).kd y.1 = DA:=fun y hy=>by
        rcases (xa1r (uh HMs) y).1 hy with rfl | ⟨h1,_⟩
        · exact uh HDq
        · exact uh HAll y h1
      have hfi:Fit (insP (hsZ k) q v M):=fun p hp=>by
        rcases (xa1r (uh HMs) p).1 hp with rfl | ⟨h1,_⟩
        · exact ⟨hq,hv⟩
        · exact uh HMf p h1
      have hpb:=xa2p hfi
      have hlen:(insP (hsZ k) q v M).length≤M.length + 1:=by rw [hip]; simp; omega
      have HPB2:=hide (show (pairB (insP (hsZ k) q v M)).length≤1000000000000 by have:=uh HMl; omega)
      have HIP:=hide hip
      have HIN:=hide hin
      clear hpb hlen hfi hin hip hris hall2
      go_upto_region 2 with fail
      refine ln_ew (by kernel_rfl) (by kernel_rfl) rfl (fun W=>Kept [] W0 W) (Kept.refl [] W0).drew.drew ?_
      refine LinY.rd (.pointer (some ⟨w.heap.size,0,none⟩)) (fun W hW=>by go_simp) (by simp only [Act.put,sa1,sa2,sa3]; rfl) ?_
      refine LinY.rd (.int .i64 k) (fun W hW=>by have h9:=hW.cell (uh HW0) (by simp); go_simp) (by simp only [Act.put,sa1,sa2,sa3]; rfl) ?_
      refine LinY.rd (.pointer (some ⟨w.heap.size,1,none⟩)) (fun W hW=>by go_simp) (by simp only [Act.put,sa1,sa2,sa3]; rfl) ?_
      refine LinY.ld 58 (.tmp 21) rfl w.heap.size 1 rfl (DA.map u8) _ (fun W hW=>hW.rng (uh HW1) (by simp)) Tryz.underlying58 rfl (by rw [List.length_map,hDg]; exact Tryz.size_dig) (by simp only [Act.put,sa1,sa2,sa3]; rfl) ?_
      refine LinY.ld 102 (.tmp 2) rfl w.heap.size 0 rfl (wayC k DA (.slice ao n c) (.pointer (some ⟨g,0,none⟩)) pl fd) _ (fun W hW=>hW.rng (uh HWY) (by simp)) Tryz.underlying102 rfl (by rw [xa0v hDg]; exact Tryz.size_way) (by simp only [Act.put,sa1,sa2,sa3]; rfl) ?_
      refine LinY.ld 33 (.tmp 3) rfl (w.heap.size + 1) 0 rfl ([kv,vv]) _ (fun W hW=>hW.rng (uh HWP) (by simp)) Tryz.underlying33 rfl (Tryz.size_pair) (by simp only [Act.put,sa1,sa2,sa3]; rfl) ?_
      have hd2:=(Kept.refl [] W0).drew.drew
      obtain ⟨W2,hW2⟩:∃ W2,W0.drew.drew = W2:=⟨_,rfl⟩
      rw [hW2] at hd2 ⊢
      clear hW2
      have HD2:=hide hd2
      have hkl:=kr_lit (S:=S) (w:=W2) (kv:=kv) (vv:=vv) (q:=q) (v:=v) (hS0 _ hd2.size) ((uh HKV).agr (Agr.nil hd2)) ((uh HVV).agr (Agr.nil hd2))
      have hka:=hd2.alloc (.cells #[kv,vv] 33)
      have HKA:=hide hka
      refine ChL.op (.slice (some ⟨W2.heap.size,0,none⟩) 1 1) (xa8i W2 (.tmp 24) rfl kv vv rfl) hka (by simp only [Act.put,sa1,sa2,sa3]; rfl) ?_
      obtain ⟨b9,off9,cap9,l9,e9,hpr9,hrd9,_,_⟩:=hkl.pr
      have hl9:l9.length = 1:=hpr9.1
      refine ChL.call rfl Tryz.call84 [.agg (wayC k DA (.slice ao n c) (.pointer (some ⟨g,0,none⟩)) pl fd).toArray,.slice (some ⟨W2.heap.size,0,none⟩) 1 1] rfl (xa6x S k DA (.slice ao n c) g pl fd M (.slice (some ⟨W2.heap.size,0,none⟩) 1 1) l9 [(q,v)] _ hDg ((uh HB).agr (Agr.nil hka)) hple (by have:=uh HMl; omega) hrd9 hpr9 (by omega) (by simp) (fun y hy=>hS0 y (Nat.le_trans hka.size hy))) ?_
      rintro e w2 ⟨a2,n2,c2,rfl,hkr2,k2⟩
      have hkw:=hka.trans k2 (by simp)
      have hkr3:KRow S w2 (.slice a2 n2 c2) (insP (hsZ k) q v M):=by rw [uh HIP]; exact hkr2
      refine ⟨_,rfl,hkw,?_⟩
      simp only [Act.put,sa1,sa2,sa3]
      refine ChL.call rfl Tryz.call83 [.int .i64 k,.agg (brow DA),.slice a2 n2 c2] rfl (xa1o k DA a2 n2 c2 (insP (hsZ k) q v M) w2 hk hDg hkr3.rdK (uh HPB2) ((uh HTb).k hkw)) ?_
      rintro e w3 ⟨g3,rfl,hg3,hc3,k3⟩
      have hkw3:=hkw.trans k3 (by simp)
      refine ⟨_,rfl,hkw3,?_⟩
      simp only [Act.put,sa1,sa2,sa3]
      have hbk:=bk_of (S:=S) (hS0 g3 (by have:=hkw.size; omega)) hc3 ins_ne (uh HIN) (hkr3.agr (Agr.nil k3))
      refine ChL.op (bkV g3) (by go_simp) hkw3 (by simp only [Act.put,sa1,sa2,sa3]; rfl) ?_
      refine ChL.op (bkV g3) (by go_simp) hkw3 (by simp only [Act.put,sa1,sa2,sa3]; rfl) (ChL.fin ?_)
      go_wp2
      go_ret
      exact ⟨_,rfl,TreeAt.ofBk _ hbk (xa1g.2 (fun x hx y hy=>by rw [uh HIN x hx,uh HIN y hy])),(uh HK0).trans hkw3 (by simp)⟩
    | false =>
      have hDD:DA≠D:=of_decide_eq_false hsm
      obtain ⟨part,hmp,hfork⟩:=xc0w (v:=v) hk (uh HMs) (uh HNe) (uh HAll) (uh HOn) (by rw [uh HDq]; exact hDD)
      have hkl:=(kr_lit (S:=S) (w:=W0) (kv:=kv) (vv:=vv) (q:=q) (v:=v) (hS0 _ (Nat.le_refl _)) (uh HKV) (uh HVV)).agr (Agr.nil (Kept.refl [] (W0.alloc (.cells #[kv,vv] 33))).drew)
      rw [hz0] at hkl
      have HKL:=hide hkl
      have HKA:=hide (((Kept.refl [] W0).alloc (.cells #[kv,vv] 33)).drew)
      clear hkl
      have h7a:=(Kept.refl [] W0).drew.cell (uh HW0) (by simp)
      go_wp2_with (first
        | (refine wpList_load_mid rfl 58 (.tmp 31) rfl w.heap.size 1 rfl (D.map u8) _ ((Kept.refl [] W0).drew.rng (uh HW1) (by simp)) Tryz.underlying58 rfl (by rw [List.length_map,hDg]; exact Tryz.size_dig) ?_)
        | (refine wpList_load_row rfl 33 (.tmp 3) rfl (w.heap.size + 1) rfl 33 #[kv,vv] (0,0) _ ((Kept.refl [] W0).drew.heap (uh HP0) (by simp)) Tryz.underlying33 rfl Tryz.size_pair ?_)
        | (refine xa2r rfl (.tmp 33) rfl kv vv rfl ?_))
      refine Calls.mono (xa1o k D (some ⟨w.heap.size + 2,0,none⟩) 1 1 [(q,v)] _ hk hDg (uh HKL).rdK (uh HPB1) ((uh HTb).k (uh HKA))) ?_
      rintro e w3 ⟨g3,rfl,hg3,hc3,k3⟩
      have hk3:=(uh HKA).trans k3 (by simp)
      have hbk:=bk_of (S:=S) (hS0 g3 (by have:=(uh HKA).size; omega)) hc3 (by simp) (fun y hy=>by rw [show y = (q,v) by simpa using hy]; exact uh HDq) ((uh HKL).agr (Agr.nil k3))
      have HBK:=hide hbk
      have HK3:=hide hk3
      clear hbk hk3 hc3 k3
      have h9:=(uh HK3).cell (uh HW3) (by simp)
      have h8:=(uh HK3).cell (uh HW2) (by simp)
      have h7:=(uh HK3).cell (uh HW0) (by simp)
      go_wp2_with fail
      refine Calls.mono (xb3z S k n part g g3 M q v DA w3 hk (fun y hy=>hS0 y (Nat.le_trans (uh HK3).size hy)) hfork hmp ((uh HB).agr (Agr.nil (uh HK3))) (uh HBK) ((uh HTb).k (uh HK3))) ?_
      rintro e w4 ⟨tt,rfl,ht4,k4⟩
      have HT4:=hide ht4
      have HK4:=hide (((uh HK0).trans (uh HK3) (by simp)).trans k4 (by simp))
      clear ht4 k4
      go_wp2_with fail
      go_ret
      exact ⟨_,rfl,uh HT4,uh HK4⟩
set_option maxHeartbeats 1000000 in
theorem xa1j (v:Value) (p:List Nat) (w:World) (h:Rd w v p) :
    Calls Tryz.prog 50 #[v] w fun e w'=>(∃ v',e = .returned v'∧Rd w' v' p∧∀ x∈blk v',w.heap.size≤x)∧Kept [] w w':=by
  have H:=hide h
  obtain ⟨a1,n1,c1,rfl,hn1,hc1,⟨hc2,hc3⟩,hc4,hc5,hc6⟩:=id h
  subst hn1
  clear h hc6 hc5
  cases a1 with
  | none =>
    have h0:p.length = 0:=by have:=hc4 rfl; omega
    have hp:p = []:=List.eq_nil_of_length_eq_zero h0
    clear hc4
    subst hp
    simp only [List.length_nil]
    have hq:∀ W:World,(binOp .eql 23 (.slice none 0 c1) (.slice none 0 0)).run Tryz.prog W = .ok (.bool true) W:=by
      intro W
      simp only [binOp]
      simp [run_equal_slice_nil W 23 5 none 0 c1 Tryz.underlying23]
    go_enter Tryz.func50,Tryz.ntmps50
    go_wp2
    go_ret
    exact ⟨⟨_,rfl,Rd.nil _,by simp [blk]⟩,Kept.refl _ _⟩
  | some ad =>
    clear hc4
    have HO:=hide (World.ownsRow_made (base:=w.heap.size) (e:=5) (size:=1) w #[] 0 (Nat.le_refl _) (by unfold maxLen; omega) (by simp))
    have hq:∀ W:World,(binOp .eql 23 (.slice (some ad) p.length c1) (.slice none 0 0)).run Tryz.prog W = .ok (.bool false) W:=by
      intro W
      simp only [binOp]
      simp [run_equal_slice_nil W 23 5 (some ad) p.length c1 Tryz.underlying23]
    go_enter Tryz.func50,Tryz.ntmps50
    go_wp2_with (at_builtin; refine xa1x rfl (.tmp 5) (.tmp 6) rfl rfl _ w.heap.size (.slice (some ⟨w.heap.size,0,none⟩) 0 0) [] p (some ad) p.length c1 (uh HO) ((uh H).old ((Kept.refl [] w).alloc _) (by simp)) (by simp; omega) (by simp) rfl rfl ?_; intro ao1 cap1 w1 HO1 HG1 HA1; simp only [List.nil_append,List.length_nil,Nat.zero_add] at HO1 HA1; have HK1:=hide (((Kept.refl [] w).alloc _).grown (uh HG1) (by intro k hk; right; simp [Value.ownBlock] at hk; omega)); clear HG1)
    go_ret
    refine ⟨⟨_,rfl,xb6l (uh HO1) (uh H).byte hc3,?_⟩,uh HK1⟩
    intro x hx
    cases ao1 with
    | none=>simp [blk] at hx
    | some a=>simp [blk] at hx; subst hx; exact ((uh HO1).lt a.block rfl).1
theorem xb6c {H:Hs} {q v:List Nat}:∀ {L:Prs},Srt H L→(insP H q v L).length = if fnd q L = true then L.length else L.length + 1
  | [],_=>rfl
  | y :: L,h=>by
    have ih:=xb6c (q:=q) (v:=v) h.tail
    rw [xa2i]
    by_cases g1:kc H q y.1 < 0
    · rw [if_pos g1]
      have hn:getP q (y :: L) = none:=xa1l.2 (fun z hz e=>by
        rcases List.mem_cons.1 hz with rfl | hz
        · rw [e,xa2o] at g1; omega
        · have h2:=xa6b g1 (h.head z hz); rw [e,xa2o] at h2; omega)
      have hf:fnd q (y :: L) = false:=by unfold fnd; rw [hn]; rfl
      rw [hf]; rfl
    · rw [if_neg g1]
      by_cases g2:kc H q y.1 = 0
      · rw [if_pos g2]
        have e:=xa8p g2
        have hf:fnd q (y :: L) = true:=by unfold fnd; rw [xa2x,if_pos e.symm]; rfl
        rw [hf]; rfl
      · rw [if_neg g2]
        have hne:¬ y.1 = q:=fun e=>g2 (by rw [e,xa2o])
        have hf:fnd q (y :: L) = fnd q L:=by unfold fnd; rw [xa2x,if_neg hne]
        rw [hf,List.length_cons,ih,List.length_cons]
        split <;> rfl
theorem WayAt.fd {S:Nat→Prop} {k:Nat} {W:World} {q:List Nat} {L:Prs} {m:Nat} {cr en:Value} {pl:Nat} {fd:Bool} (h:WayAt S k W q L m cr en pl fd):fd = fnd q L:=by
  have hg:=dn_get (H:=hsZ k) (q:=q) (L:=L) m
  rcases h.en with ⟨hm,_,_,rfl⟩ | ⟨_,g,_,_,_,rfl⟩
  · unfold fnd; rw [← hg,hm]; rfl
  · unfold fnd; rw [hg]
theorem xb0w (x y:Value) {X1 Y1:Option Addr} {X2 X3 Y2 Y3:Nat}:Tryz.prog.built 33 [(0,.slice X1 X2 X3),(1,.slice Y1 Y2 Y3)] = some #[.slice X1 X2 X3,.slice Y1 Y2 Y3]:=by kernel_rfl
theorem mapI:∃ i,Tryz.prog.info? 97 = some i∧i.zero = some (.agg #[.int .i64 0,.int .i64 0,.nilIface]):=by
  have h:(Tryz.prog.info? 97).map (·.zero) = some (some (.agg #[.int .i64 0,.int .i64 0,.nilIface])):=by kernel_rfl
  generalize Tryz.prog.info? 97 = o at h
  cases o with
  | none=>cases h
  | some i=>exact ⟨i,rfl,Option.some.inj h⟩
theorem fmap:∀ fs,Tryz.prog.underlying 97 = some (.struct fs)→fs.toList.mapM (fun f=>(Tryz.prog.info? f.type).map fun i=>(f.offset,i.size)) = some [(0,1),(1,1),(2,1)]:=by
  intro fs hfs
  rw [Tryz.underlying97] at hfs
  injection hfs with hfs
  injection hfs with hfs
  subst hfs
  kernel_rfl
theorem xb4f (k n:Int) (tv:Value) (h:tv.cells = #[tv]):Tryz.prog.built 97 [(0,.int .i64 k),(1,.int .i64 n),(2,tv)] = some #[.int .i64 k,.int .i64 n,tv]:=by
  obtain ⟨it,hit,hz⟩:=mapI
  obtain ⟨fs,hfs⟩:∃ fs,Tryz.prog.underlying 97 = some (.struct fs):=⟨_,Tryz.underlying97⟩
  have hpl:=fmap fs hfs
  unfold Program.built
  rw [hit,hfs]
  simp only [hz,hpl,Value.cells]
  have s1:=xa1d (place:=([(0,1),(1,1),(2,1)].toArray[·]?)) (i:=0) (n:=1) (rest:=[(1,.int .i64 n),(2,tv)]) [] [.int .i64 0] [.int .i64 0,.nilIface] [.int .i64 k] (X:=.int .i64 k) rfl rfl rfl rfl
  have s2:=xa1d (place:=([(0,1),(1,1),(2,1)].toArray[·]?)) (i:=1) (n:=1) (rest:=[(2,tv)]) [.int .i64 k] [.int .i64 0] [.nilIface] [.int .i64 n] (X:=.int .i64 n) rfl rfl rfl rfl
  have s3:=xa1d (place:=([(0,1),(1,1),(2,1)].toArray[·]?)) (i:=2) (n:=1) (rest:=[]) [.int .i64 k,.int .i64 n] [.nilIface] [] [tv] (X:=tv) h rfl rfl rfl
  exact s1.trans (s2.trans s3)
theorem xa5r {o:Oper} {a:Act} (w:World) {x y z:Operand} {k n:Int} {tv:Value} (ho:o.op = .build 97 #[(0,x),(1,y),(2,z)]∧a.eval x = .int .i64 k∧a.eval y = .int .i64 n∧a.eval z = tv) (h:tv.cells = #[tv]):(execOp a.eval o).run Tryz.prog w = .ok (.value (.agg #[.int .i64 k,.int .i64 n,tv])) w:=by
  obtain ⟨h0,h1,h2,h3⟩:=ho
  have hb:=run_build (P:=Tryz.prog) w 97 #[(0,.int .i64 k),(1,.int .i64 n),(2,tv)] _ (xb4f k n tv h)
  unfold execOp
  simp only [h0,List.map_toArray,List.map_cons,List.map_nil,h1,h2,h3,Sem.run_bind,hb,Result.andThen_ok]
  rfl
theorem xa3k {S:Nat→Prop} {k f:Nat} {W:World} {v:Value} {L:Prs} (h:KidAt S (hsZ k) W f v L):v.cells = #[v]:=by
  rcases h with ⟨_,rfl⟩ | h
  · rfl
  · rcases h.own with ⟨g,_,_,_,rfl,_⟩ | ⟨g,_,_,_,rfl,_⟩ <;> rfl
theorem xb6q {H:Hs} {q v:List Nat} {L:Prs} (hs:Srt H L) (hf:Fit L) (hq:q.length≤64) (hv:v.length≤256):Fit (insP H q v L):=fun p hp=>by
  rcases (xa1r hs p).1 hp with rfl | ⟨h1,_⟩
  · exact ⟨hq,hv⟩
  · exact hf p h1
theorem xa4q {W:World} {g k:Nat} {D:List Nat} {cr en:Value} {pl:Nat} {fd:Bool} {t:TypeId} (h:W.heap[g]? = some (.cells (wayC k D cr en pl fd).toArray t (0,0))):W.rangeAt g 0 (wayC k D cr en pl fd):=xa0j [] (wayC k D cr en pl fd) [] (by rw [List.nil_append,List.append_nil]; exact h) rfl
set_option maxHeartbeats 4000000 in
theorem xc0y (S:Nat→Prop) (k:Nat) (mv kv vv:Value) (L:Prs) (q v:List Nat) (w:World) (hM:MapAt S k w mv L) (hku:Rd w kv q) (hvu:Rd w vv v) (hq:q.length≤64) (hv:v.length≤256) (hL:L.length < 1000000000) (hS:∀ y,w.heap.size≤y→S y) (hT:Tabs w) :
    Calls Tryz.prog 12 #[mv,kv,vv] w fun e w'=>∃ m',e = .returned (.tuple #[m',.int .i64 0])∧MapAt S k w' m' (insP (hsZ k) q v L)∧Kept [] w w':=by
  have HM:=hide hM
  obtain ⟨hk,hs,hfit,hlen,g,tv,rfl,hSg,hh,htop⟩:=hM
  have hH:=hsZ_ok hk
  obtain ⟨va,vn,vc,rfl,hvl,_⟩:=id hvu
  have hun:vn≤256:=by omega
  have hu1:¬ (256:Int) < vn:=by omega
  have hu2:¬ (vn:Int) > 256:=by omega
  have c0:w.cell? ⟨g,0,none⟩ = some (.int .i64 k):=by rw [cell_of_row _ _ _ _ _ _ hh]; rfl
  have c1:w.cell? ⟨g,1,none⟩ = some (.int .i64 (L.length:Nat)):=by rw [cell_of_row _ _ _ _ _ _ hh]; rfl
  have HC0:=hide c0
  have HC1:=hide c1
  have HKU:=hide hku
  have HVU:=hide hvu
  have HTb:=hide hT
  have HSr:=hide hs
  have HFt:=hide hfit
  have hil:=xb6c (q:=q) (v:=v) hs
  clear hh htop hT hs c0 c1 hku hvu hfit hSg
  go_enter Tryz.func12,Tryz.ntmps12
  go_wp2_with fail
  refine Calls.mono (xa2z S k _ kv L q w (uh HM) (uh HKU) hq (uh HTb)) ?_
  rintro e w1 ⟨m,cr,en,pl,fd,rfl,hway,k1⟩
  have hfd:=hway.fd
  rw [← hfd] at hil
  have hon:=hway.cells
  have HWay:=hide hway
  have hDl:((hsZ k).kd q).length = 32:=(hH.dg q).1
  obtain ⟨D,hD⟩:∃ D,(hsZ k).kd q = D:=⟨_,rfl⟩
  have HD:=hide hD
  rw [hD] at hDl ⊢
  clear hD hfd hway
  have hws:((wayC k D cr en pl fd).toArray).size = 37:=by rw [List.size_toArray,xa0v hDl]
  have HZ1:=hide (heap_alloc_new w1 (.cells zwy 102))
  have HN2:=hide (setRow_heap _ _ _ (wayC k D cr en pl fd).toArray _ _ (uh HZ1))
  have HK12:=hide ((Kept.refl [] w1).alloc (.cells zwy 102) |>.setRow (g:=w1.heap.size) (Or.inr (Nat.le_refl _)) (wayC k D cr en pl fd).toArray)
  have HK2:=hide (k1.trans (uh HK12) (by simp))
  have hz2:((w1.alloc (.cells zwy 102)).setRow w1.heap.size (wayC k D cr en pl fd).toArray).heap.size = w1.heap.size + 1:=by simp [World.setRow]
  have hw1:=k1.size
  clear k1
  obtain ⟨c,hc⟩:∃ c,L.length = c:=⟨_,rfl⟩
  rw [hc] at hil hL HC1
  have hwr:IntKind.i64.wrap ((c:Int) + 1) = ((c + 1:Nat):Int):=by simp [IntKind.wrap,IntKind.signed,IntKind.bits]; omega
  obtain ⟨W2,hW2⟩:∃ W2,(w1.alloc (.cells zwy 102)).setRow w1.heap.size (wayC k D cr en pl fd).toArray = W2:=⟨_,rfl⟩
  rw [hW2] at HN2 HK12 HK2 hz2
  have c1a:=(uh HK2).cell (uh HC1) (by simp)
  have c5a:=(xa0m (uh HN2) hDl).2.2.2.2.2
  cases fd with
  | true =>
    rw [if_pos rfl] at hil
    go_wp2_with (rw [xa3e]; refine wpList_store_row rfl 102 (.tmp 8) (.tmp 16) rfl w1.heap.size (wayC k D cr en pl true).toArray rfl rfl _ zwy (uh HZ1) (by rw [hws]; exact Tryz.size_way) (by rw [hws]; rfl) (xa1m _ _ hon.1 hon.2) ?_; rw [hW2]; simp only [Act.put])
    refine Calls.mono (xa1j kv q W2 ((uh HKU).old (uh HK2) (by simp))) ?_
    rintro e w3 ⟨⟨kz,rfl,hkz,hkb⟩,k3⟩
    obtain ⟨ka,kn,kc',rfl,_⟩:=id hkz
    have HK3:=hide ((uh HK2).trans k3 (by simp))
    have HN3:=hide (k3.heap (uh HN2) (by simp))
    have HK13:=hide ((uh HK12).trans k3 (by simp))
    have hz3:=k3.size
    have HKz:=hide hkz
    have HKb:=hide hkb
    clear k3 hkz hkb
    go_wp2_with fail
    refine Calls.mono (xa1j _ v w3 ((uh HVU).old (uh HK3) (by simp))) ?_
    rintro e w4 ⟨⟨vz,rfl,hvz,hvb⟩,k4⟩
    obtain ⟨va',vn',vc',rfl,_⟩:=id hvz
    have HK4:=hide ((uh HK3).trans k4 (by simp))
    have HN4:=hide (k4.heap (uh HN3) (by simp))
    have HK14:=hide ((uh HK13).trans k4 (by simp))
    have hz4:=k4.size
    have HKz4:=hide ((uh HKz).old k4 (by simp))
    have HVz:=hide hvz
    have HVb:=hide hvb
    clear k4 hvz hvb
    have HP5:=hide (heap_alloc_new w4 (.cells #[.slice ka kn kc',.slice va' vn' vc'] 33))
    have HK45:=hide ((Kept.refl [] w4).alloc (.cells #[.slice ka kn kc',.slice va' vn' vc'] 33))
    have HN5:=hide ((uh HK45).heap (uh HN4) (by simp))
    have HK5:=hide ((uh HK4).trans (uh HK45) (by simp))
    have HK15:=hide ((uh HK14).trans (uh HK45) (by simp))
    have HKz5:=hide ((uh HKz4).old (uh HK45) (by simp))
    have HVz5:=hide ((uh HVz).old (uh HK45) (by simp))
    go_upto_region 10 with fail
    try simp only [Act.put]
    generalize w4.alloc (.cells #[.slice ka kn kc',.slice va' vn' vc'] 33) = W5 at HP5 HK45 HN5 HK5 HK15 HKz5 HVz5 ⊢
    clear c1a c5a
    have HV0:=hide ((uh HK5).cell (uh HC0) (by simp))
    refine ln_pt (by kernel_rfl) (by kernel_rfl) rfl (fun W=>Kept [] W5 W) (Kept.refl _ W5).drew ?_
    refine LinY.mv (x:=.tmp 0) rfl (.pointer (some ⟨g,0,none⟩)) rfl (by simp only [Act.put,sa1,sa2,sa3]; rfl) ?_
    refine LinY.rd (.pointer (some ⟨g,0,none⟩)) (fun W hW=>by go_simp) (by simp only [Act.put,sa1,sa2,sa3]; rfl) ?_
    refine LinY.rd (.pointer (some ⟨g,0,none⟩)) (fun W hW=>by go_simp) (by simp only [Act.put,sa1,sa2,sa3]; rfl) ?_
    refine LinY.rd (.int .i64 k) (fun W hW=>by have h9:=hW.cell (uh HV0) (by simp); go_simp) (by simp only [Act.put,sa1,sa2,sa3]; rfl) ?_
    refine LinY.mv (x:=.tmp 10) rfl (.int .i64 c) rfl (by simp only [Act.put,sa1,sa2,sa3]; rfl) ?_
    refine LinY.ld 102 (.tmp 8) rfl w1.heap.size 0 rfl (wayC k D cr en pl true) _ (fun W hW=>hW.rng (xa4q (uh HN5)) (by simp)) Tryz.underlying102 rfl (by rw [xa0v hDl]; exact Tryz.size_way) (by simp only [Act.put,sa1,sa2,sa3]; rfl) ?_
    refine LinY.ld 102 (.tmp 8) rfl w1.heap.size 0 rfl (wayC k D cr en pl true) _ (fun W hW=>hW.rng (xa4q (uh HN5)) (by simp)) Tryz.underlying102 rfl (by rw [xa0v hDl]; exact Tryz.size_way) (by simp only [Act.put,sa1,sa2,sa3]; rfl) ?_
    refine LinY.ld 33 (.tmp 11) rfl w4.heap.size 0 rfl ([.slice ka kn kc',.slice va' vn' vc']) _ (fun W hW=>hW.rng (xa0j [] [.slice ka kn kc',.slice va' vn' vc'] [] (uh HP5) rfl) (by simp)) Tryz.underlying33 rfl Tryz.size_pair (by simp only [Act.put,sa1,sa2,sa3]; rfl) ?_
    have hd5:=(Kept.refl [] W5).drew
    have hw5:=(uh HWay).old ((uh HK15).trans hd5 (by simp))
    have hS5:∀ y,W5.drew.heap.size≤y→S y:=fun y hy=>hS y (Nat.le_trans ((uh HK5).trans hd5 (by simp)).size hy)
    have hew:=xa4p S k m q v L cr en (.slice ka kn kc') (.slice va' vn' vc') pl true W5.drew hk hS5 hw5 (uh HSr) (uh HFt) (by omega) hq hv
      (Sty.rd ((uh HKz5).old hd5 (by simp)) (fun x hx=>hS x (Nat.le_trans (uh HK2).size (uh HKb x hx))))
      (Sty.rd ((uh HVz5).old hd5 (by simp)) (fun x hx=>hS x (Nat.le_trans (uh HK3).size (uh HVb x hx)))) ((uh HTb).k ((uh HK5).trans hd5 (by simp)))
    rw [uh HD] at hew
    refine ChL.call rfl Tryz.call52 [.agg (wayC k D cr en pl true).toArray,.agg #[.slice ka kn kc',.slice va' vn' vc']] rfl hew ?_
    rintro e w6 ⟨t6,rfl,ht6,k6⟩
    have hk6:=hd5.trans k6 (by simp)
    refine ⟨_,rfl,hk6,?_⟩
    simp only [Act.put,sa1,sa2,sa3]
    have hk60:=(uh HK5).trans hk6 (by simp)
    have hli:=xa8h S k m q L (fun i=>insP (hsZ k) q v (dnL (hsZ k) q L i)) cr en pl true t6 w6 hk (fun y hy=>hS y (Nat.le_trans hk60.size hy)) (hw5.old k6) (fun i hi=>⟨put_in (dn_srt (uh HSr) i),xb1r (dn_srt (uh HSr) i),ins_ne⟩) (Or.inr ht6) ((uh HTb).k hk60)
    rw [uh HD] at hli
    refine ChL.call rfl Tryz.call51 [.agg (wayC k D cr en pl true).toArray,t6] rfl hli ?_
    rintro e w7 ⟨t7,rfl,ht7,k7⟩
    have hk7:=hk6.trans k7 (by simp)
    refine ⟨_,rfl,hk7,?_⟩
    simp only [Act.put,sa1,sa2,sa3]
    have hk70:=hk60.trans k7 (by simp)
    have hone:t7.cells = #[t7]:=xa3k ht7
    refine ChL.op (.agg #[.int .i64 k,.int .i64 c,t7]) (xa5r w7 ⟨rfl,rfl,rfl,rfl⟩ hone) hk7 (by simp only [Act.put,sa1,sa2,sa3]; rfl) ?_
    have hka:=hk7.alloc (.cells #[.int .i64 k,.int .i64 c,t7] 97)
    have hkz:=hk70.alloc (.cells #[.int .i64 k,.int .i64 c,t7] 97)
    refine ChL.op (.pointer (some ⟨w7.heap.size,0,none⟩)) (by go_simp) hka (by simp only [Act.put,sa1,sa2,sa3]; rfl) ?_
    refine ChL.op (.pointer (some ⟨w7.heap.size,0,none⟩)) (by go_simp) hka (by simp only [Act.put,sa1,sa2,sa3]; rfl) ?_
    refine ChL.op (.int .i64 0) (by go_simp) hka (by simp only [Act.put,sa1,sa2,sa3]; rfl) (ChL.fin ?_)
    have hfin:MapAt S k (w7.alloc (.cells #[.int .i64 k,.int .i64 c,t7] 97)) (.pointer (some ⟨w7.heap.size,0,none⟩)) (insP (hsZ k) q v L) :=
      ⟨hk,(uh HSr).ins q v,xb6q (uh HSr) (uh HFt) hq hv,by omega,w7.heap.size,t7,rfl,hS _ hk70.size,by rw [hil]; exact heap_alloc_new _ _,ht7.agr (Agr.nil ((Kept.refl [] w7).alloc _))⟩
    go_wp2
    go_ret2
    exact ⟨_,rfl,hfin,hkz⟩
  | false =>
    rw [if_neg (by decide)] at hil
    go_wp2_with (rw [xa3e]; refine wpList_store_row rfl 102 (.tmp 8) (.tmp 16) rfl w1.heap.size (wayC k D cr en pl false).toArray rfl rfl _ zwy (uh HZ1) (by rw [hws]; exact Tryz.size_way) (by rw [hws]; rfl) (xa1m _ _ hon.1 hon.2) ?_; rw [hW2]; simp only [Act.put])
    refine Calls.mono (xa1j kv q W2 ((uh HKU).old (uh HK2) (by simp))) ?_
    rintro e w3 ⟨⟨kz,rfl,hkz,hkb⟩,k3⟩
    obtain ⟨ka,kn,kc',rfl,_⟩:=id hkz
    have HK3:=hide ((uh HK2).trans k3 (by simp))
    have HN3:=hide (k3.heap (uh HN2) (by simp))
    have HK13:=hide ((uh HK12).trans k3 (by simp))
    have hz3:=k3.size
    have HKz:=hide hkz
    have HKb:=hide hkb
    clear k3 hkz hkb
    go_wp2_with fail
    refine Calls.mono (xa1j _ v w3 ((uh HVU).old (uh HK3) (by simp))) ?_
    rintro e w4 ⟨⟨vz,rfl,hvz,hvb⟩,k4⟩
    obtain ⟨va',vn',vc',rfl,_⟩:=id hvz
    have HK4:=hide ((uh HK3).trans k4 (by simp))
    have HN4:=hide (k4.heap (uh HN3) (by simp))
    have HK14:=hide ((uh HK13).trans k4 (by simp))
    have hz4:=k4.size
    have HKz4:=hide ((uh HKz).old k4 (by simp))
    have HVz:=hide hvz
    have HVb:=hide hvb
    clear k4 hvz hvb
    have HP5:=hide (heap_alloc_new w4 (.cells #[.slice ka kn kc',.slice va' vn' vc'] 33))
    have HK45:=hide ((Kept.refl [] w4).alloc (.cells #[.slice ka kn kc',.slice va' vn' vc'] 33))
    have HN5:=hide ((uh HK45).heap (uh HN4) (by simp))
    have HK5:=hide ((uh HK4).trans (uh HK45) (by simp))
    have HK15:=hide ((uh HK14).trans (uh HK45) (by simp))
    have HKz5:=hide ((uh HKz4).old (uh HK45) (by simp))
    have HVz5:=hide ((uh HVz).old (uh HK45) (by simp))
    go_upto_region 10 with fail
    try simp only [Act.put]
    generalize w4.alloc (.cells #[.slice ka kn kc',.slice va' vn' vc'] 33) = W5 at HP5 HK45 HN5 HK5 HK15 HKz5 HVz5 ⊢
    clear c1a c5a
    have HV0:=hide ((uh HK5).cell (uh HC0) (by simp))
    refine ln_pt (by kernel_rfl) (by kernel_rfl) rfl (fun W=>Kept [] W5 W) (Kept.refl _ W5).drew ?_
    refine LinY.mv (x:=.tmp 0) rfl (.pointer (some ⟨g,0,none⟩)) rfl (by simp only [Act.put,sa1,sa2,sa3]; rfl) ?_
    refine LinY.rd (.pointer (some ⟨g,0,none⟩)) (fun W hW=>by go_simp) (by simp only [Act.put,sa1,sa2,sa3]; rfl) ?_
    refine LinY.rd (.pointer (some ⟨g,0,none⟩)) (fun W hW=>by go_simp) (by simp only [Act.put,sa1,sa2,sa3]; rfl) ?_
    refine LinY.rd (.int .i64 k) (fun W hW=>by have h9:=hW.cell (uh HV0) (by simp); go_simp) (by simp only [Act.put,sa1,sa2,sa3]; rfl) ?_
    refine LinY.mv (x:=.tmp 10) rfl (.int .i64 (c + 1:Nat)) rfl (by simp only [Act.put,sa1,sa2,sa3]; rfl) ?_
    refine LinY.ld 102 (.tmp 8) rfl w1.heap.size 0 rfl (wayC k D cr en pl false) _ (fun W hW=>hW.rng (xa4q (uh HN5)) (by simp)) Tryz.underlying102 rfl (by rw [xa0v hDl]; exact Tryz.size_way) (by simp only [Act.put,sa1,sa2,sa3]; rfl) ?_
    refine LinY.ld 102 (.tmp 8) rfl w1.heap.size 0 rfl (wayC k D cr en pl false) _ (fun W hW=>hW.rng (xa4q (uh HN5)) (by simp)) Tryz.underlying102 rfl (by rw [xa0v hDl]; exact Tryz.size_way) (by simp only [Act.put,sa1,sa2,sa3]; rfl) ?_
    refine LinY.ld 33 (.tmp 11) rfl w4.heap.size 0 rfl ([.slice ka kn kc',.slice va' vn' vc']) _ (fun W hW=>hW.rng (xa0j [] [.slice ka kn kc',.slice va' vn' vc'] [] (uh HP5) rfl) (by simp)) Tryz.underlying33 rfl Tryz.size_pair (by simp only [Act.put,sa1,sa2,sa3]; rfl) ?_
    have hd5:=(Kept.refl [] W5).drew
    have hw5:=(uh HWay).old ((uh HK15).trans hd5 (by simp))
    have hS5:∀ y,W5.drew.heap.size≤y→S y:=fun y hy=>hS y (Nat.le_trans ((uh HK5).trans hd5 (by simp)).size hy)
    have hew:=xa4p S k m q v L cr en (.slice ka kn kc') (.slice va' vn' vc') pl false W5.drew hk hS5 hw5 (uh HSr) (uh HFt) (by omega) hq hv
      (Sty.rd ((uh HKz5).old hd5 (by simp)) (fun x hx=>hS x (Nat.le_trans (uh HK2).size (uh HKb x hx))))
      (Sty.rd ((uh HVz5).old hd5 (by simp)) (fun x hx=>hS x (Nat.le_trans (uh HK3).size (uh HVb x hx)))) ((uh HTb).k ((uh HK5).trans hd5 (by simp)))
    rw [uh HD] at hew
    refine ChL.call rfl Tryz.call52 [.agg (wayC k D cr en pl false).toArray,.agg #[.slice ka kn kc',.slice va' vn' vc']] rfl hew ?_
    rintro e w6 ⟨t6,rfl,ht6,k6⟩
    have hk6:=hd5.trans k6 (by simp)
    refine ⟨_,rfl,hk6,?_⟩
    simp only [Act.put,sa1,sa2,sa3]
    have hk60:=(uh HK5).trans hk6 (by simp)
    have hli:=xa8h S k m q L (fun i=>insP (hsZ k) q v (dnL (hsZ k) q L i)) cr en pl false t6 w6 hk (fun y hy=>hS y (Nat.le_trans hk60.size hy)) (hw5.old k6) (fun i hi=>⟨put_in (dn_srt (uh HSr) i),xb1r (dn_srt (uh HSr) i),ins_ne⟩) (Or.inr ht6) ((uh HTb).k hk60)
    rw [uh HD] at hli
    refine ChL.call rfl Tryz.call51 [.agg (wayC k D cr en pl false).toArray,t6] rfl hli ?_
    rintro e w7 ⟨t7,rfl,ht7,k7⟩
    have hk7:=hk6.trans k7 (by simp)
    refine ⟨_,rfl,hk7,?_⟩
    simp only [Act.put,sa1,sa2,sa3]
    have hk70:=hk60.trans k7 (by simp)
    have hone:t7.cells = #[t7]:=xa3k ht7
    refine ChL.op (.agg #[.int .i64 k,.int .i64 (c + 1:Nat),t7]) (xa5r w7 ⟨rfl,rfl,rfl,rfl⟩ hone) hk7 (by simp only [Act.put,sa1,sa2,sa3]; rfl) ?_
    have hka:=hk7.alloc (.cells #[.int .i64 k,.int .i64 (c + 1:Nat),t7] 97)
    have hkz:=hk70.alloc (.cells #[.int .i64 k,.int .i64 (c + 1:Nat),t7] 97)
    refine ChL.op (.pointer (some ⟨w7.heap.size,0,none⟩)) (by go_simp) hka (by simp only [Act.put,sa1,sa2,sa3]; rfl) ?_
    refine ChL.op (.pointer (some ⟨w7.heap.size,0,none⟩)) (by go_simp) hka (by simp only [Act.put,sa1,sa2,sa3]; rfl) ?_
    refine ChL.op (.int .i64 0) (by go_simp) hka (by simp only [Act.put,sa1,sa2,sa3]; rfl) (ChL.fin ?_)
    have hfin:MapAt S k (w7.alloc (.cells #[.int .i64 k,.int .i64 (c + 1:Nat),t7] 97)) (.pointer (some ⟨w7.heap.size,0,none⟩)) (insP (hsZ k) q v L) :=
      ⟨hk,(uh HSr).ins q v,xb6q (uh HSr) (uh HFt) hq hv,by omega,w7.heap.size,t7,rfl,hS _ hk70.size,by rw [hil]; exact heap_alloc_new _ _,ht7.agr (Agr.nil ((Kept.refl [] w7).alloc _))⟩
    go_wp2
    go_ret2
    exact ⟨_,rfl,hfin,hkz⟩
theorem xb8p (S:Nat→Prop) (k:Nat) (mv:Value) (L:Prs) (w:World) (hM:MapAt S k w mv L) :
    Calls Tryz.prog 45 #[mv] w fun e w'=>e = .returned (.int .i64 k)∧Kept [] w w':=by
  obtain ⟨hk,hs,hfit,hlen,g,tv,rfl,hSg,hh,htop⟩:=hM
  have c1:w.cell? ⟨g,0,none⟩ = some (.int .i64 k):=by rw [cell_of_row _ _ _ _ _ _ hh]; rfl
  clear hh htop hs hfit
  go_enter Tryz.func45,Tryz.ntmps45
  go_wp2
  go_ret
  exact ⟨rfl,Kept.refl _ _⟩
theorem xb2v (k:Int):Tryz.prog.built 97 [(0,.int .i64 k)] = some #[.int .i64 k,.int .i64 0,.nilIface]:=by kernel_rfl
theorem xb9v (S:Nat→Prop) (k:Nat) (w:World) (hk:1≤k∧k≤32) (hS:∀ y,w.heap.size≤y→S y) :
    Calls Tryz.prog 10 #[.int .i64 k] w fun e w'=>∃ m',e = .returned (.tuple #[m',.int .i64 0])∧MapAt S k w' m' []∧Kept [] w w':=by
  have h1:¬ (k:Int) < 1:=by omega
  have h2:¬ (32:Int) < k:=by omega
  have h3:¬ (k:Int) > 32:=by omega
  go_enter Tryz.func10,Tryz.ntmps10
  go_wp2_with (refine xa0h rfl 97 _ rfl #[.int .i64 k,.int .i64 0,.nilIface] (by simp only [List.map_toArray,List.map_cons,List.map_nil]; exact xb2v k) ?_)
  go_ret2
  exact ⟨_,rfl,⟨hk,List.Pairwise.nil,fun p hp=>by simp at hp,by simp,w.heap.size,.nilIface,rfl,hS _ (Nat.le_refl _),heap_alloc_new w _,Or.inl ⟨rfl,rfl⟩⟩,(Kept.refl [] w).alloc _⟩
def rootP (k:Nat) (L:Prs):List Nat:=if L.isEmpty then cutL k (hash [5]) else nodP (hsZ k) 64 L
set_option maxHeartbeats 2000000 in
theorem xb3a (S:Nat→Prop) (k:Nat) (mv:Value) (L:Prs) (w:World) (hM:MapAt S k w mv L) (hT:Tabs w) :
    Calls Tryz.prog 38 #[mv] w fun e w'=>e = .returned (.agg (brow (rootP k L)))∧Kept [] w w':=by
  obtain ⟨hk,hs,hfit,hlen,g,tv,rfl,hSg,hh,htop⟩:=hM
  have c0:w.cell? ⟨g,0,none⟩ = some (.int .i64 k):=by rw [cell_of_row _ _ _ _ _ _ hh]; rfl
  have c2:w.cell? ⟨g,2,none⟩ = some tv:=by rw [cell_of_row _ _ _ _ _ _ hh]; rfl
  have HZ0:=hide (heap_alloc_new w (.cells (zb 32) 58))
  have HK0:=hide ((Kept.refl [] w).alloc (.cells (zb 32) 58))
  have c0a:∀ o,(w.alloc o).cell? ⟨g,0,none⟩ = some (.int .i64 k):=fun o=>((Kept.refl [] w).alloc o).cell c0 (by simp)
  have c2a:∀ o,(w.alloc o).cell? ⟨g,2,none⟩ = some tv:=fun o=>((Kept.refl [] w).alloc o).cell c2 (by simp)
  have HTb:=hide hT
  have he1:=en_bk
  have he2:=en_br
  have he3:=en_nil
  have hg1:=eg_bk
  have hg2:=eg_br
  rcases htop with ⟨rfl,rfl⟩ | ht
  · obtain ⟨O,hO⟩:∃ O,cutL k (hash [5]) = O:=⟨_,rfl⟩
    have hOl:O.length = 32:=by rw [← hO]; exact xa2b k (hash [5]) (by omega) (xa4j [5])
    have hR:rootP k [] = O:=hO
    rw [hR]
    have HO:=hide hO
    clear hO hR hh hT c0 c2
    go_enter Tryz.func38,Tryz.ntmps38
    go_wp2_with fail
    rw [zb32]
    refine Calls.mono (xa9h k _ (by omega) (wide_k hk) ((uh HTb).k (uh HK0))) ?_
    rintro e w1 ⟨rfl,k1⟩
    rw [Int.toNat_natCast,uh HO]
    have HK1:=hide ((uh HK0).trans k1 (by simp))
    have HZ1:=hide (k1.heap (uh HZ0) (by simp))
    have hlt:=lt_of_block (uh HZ1)
    clear k1 c0a c2a
    have HN1:=hide (heap_alloc_new w1 (.cells (zb 32) 58))
    have HN2:=hide (setRow_heap _ _ _ (brow O) _ _ (uh HN1))
    have HK12:=hide ((Kept.refl [] w1).alloc (.cells (zb 32) 58) |>.setRow (g:=w1.heap.size) (Or.inr (Nat.le_refl _)) (brow O))
    have HZ2:=hide ((uh HK12).heap (uh HZ1) (by simp))
    have HK2:=hide ((uh HK1).trans (uh HK12) (by simp))
    go_wp2_with (first
      | (rw [zb32]; refine wpList_store_row rfl 58 (.tmp 3) (.tmp 21) rfl w1.heap.size (brow O) rfl rfl _ (zb 32) (uh HN1) (by rw [xa0a,hOl]; exact Tryz.size_dig) (by rw [xa0d,xa0a,hOl]) (xa0b _) ?_)
      | (refine wpList_load_row rfl 58 (.tmp 3) rfl w1.heap.size rfl 58 (brow O) (0,0) _ (uh HN2) Tryz.underlying58 rfl (by rw [xa0a,hOl]; exact Tryz.size_dig) ?_)
      | (refine wpList_store_row rfl 58 (.tmp 2) (.tmp 23) rfl w.heap.size (brow O) rfl rfl _ (zb 32) (uh HZ2) (by rw [xa0a,hOl]; exact Tryz.size_dig) (by rw [xa0d,xa0a,hOl]) (xa0b _) ?_))
    refine bodyPost_ret (v:=.agg (brow O)) ?_ rfl ⟨rfl,(uh HK2).setRow (Or.inr (Nat.le_refl _)) _⟩
    exact results_cell_row rfl _ _ w.heap.size _ (brow O) (0,0) _ rfl (setRow_heap _ _ _ _ _ _ (uh HZ2)) Tryz.underlying58 rfl (by rw [xa0a,hOl]; exact Tryz.size_dig)
  · have hne:=ht.ne
    have hR:rootP k L = nodP (hsZ k) 64 L:=by
      unfold rootP
      cases L with
      | nil=>exact absurd rfl hne
      | cons y L=>rfl
    rw [hR]
    have hO2:=(nod_dg k 64 L).1
    have hown:=ht.own
    generalize nodP (hsZ k) 64 L = O at hown hO2
    clear hR hh hT c0 c2 ht hne
    rcases hown with ⟨g1,D,pv,hs1,rfl,hD,hh1⟩ | ⟨g1,x,kv,hs1,rfl,hh1⟩
    · have HH:=hide (((Kept.refl [] w).alloc (.cells (zb 32) 58)).heap hh1 (by simp))
      clear hh1 hs1
      go_enter Tryz.func38,Tryz.ntmps38
      go_wp2_with fail
      rw [zb32]
      refine Calls.mono (xb0z g1 D O pv _ (uh HH) hD hO2) ?_
      rintro e w1 ⟨rfl,k1⟩
      have HK1:=hide ((uh HK0).trans k1 (by simp))
      have HZ1:=hide (k1.heap (uh HZ0) (by simp))
      clear k1 c0a c2a
      go_wp2_with (refine wpList_store_row rfl 58 (.tmp 2) (.tmp 28) rfl w.heap.size (brow O) rfl rfl _ (zb 32) (uh HZ1) (by rw [xa0a,hO2]; exact Tryz.size_dig) (by rw [xa0d,xa0a,hO2]) (xa0b _) ?_)
      refine bodyPost_ret (v:=.agg (brow O)) ?_ rfl ⟨rfl,(uh HK1).setRow (Or.inr (Nat.le_refl _)) _⟩
      exact results_cell_row rfl _ _ w.heap.size _ (brow O) (0,0) _ rfl (setRow_heap _ _ _ _ _ _ (uh HZ1)) Tryz.underlying58 rfl (by rw [xa0a,hO2]; exact Tryz.size_dig)
    · have HH:=hide (((Kept.refl [] w).alloc (.cells (zb 32) 58)).heap hh1 (by simp))
      clear hh1 hs1
      go_enter Tryz.func38,Tryz.ntmps38
      go_wp2_with fail
      rw [zb32]
      refine Calls.mono (xb3f g1 x O kv _ (uh HH) hO2) ?_
      rintro e w1 ⟨rfl,k1⟩
      have HK1:=hide ((uh HK0).trans k1 (by simp))
      have HZ1:=hide (k1.heap (uh HZ0) (by simp))
      clear k1 c0a c2a
      go_wp2_with (refine wpList_store_row rfl 58 (.tmp 2) (.tmp 28) rfl w.heap.size (brow O) rfl rfl _ (zb 32) (uh HZ1) (by rw [xa0a,hO2]; exact Tryz.size_dig) (by rw [xa0d,xa0a,hO2]) (xa0b _) ?_)
      refine bodyPost_ret (v:=.agg (brow O)) ?_ rfl ⟨rfl,(uh HK1).setRow (Or.inr (Nat.le_refl _)) _⟩
      exact results_cell_row rfl _ _ w.heap.size _ (brow O) (0,0) _ rfl (setRow_heap _ _ _ _ _ _ (uh HZ1)) Tryz.underlying58 rfl (by rw [xa0a,hO2]; exact Tryz.size_dig)
end
section
open Go Go.RowKit Go.BigFrame
theorem ln_ly {P:Program} {Q:Exit→Act→World→Prop} {id:Nat} {o0 o1 o2 o3 o4 o5 o6 o7 o8 o9 o10:Oper} {a:Act} {w:World} (hm:P.follows .mixedOrders = true) (hb:linB #[o0,o1,o2,o3,o4,o5,o6,o7,o8,o9,o10] [0,1,2,4,5] [3,6,7,8,9,10] [] = true) (hg:([o0,o1,o2,o4,o5]++([o3,o6,o7,o8,o9,o10]++[])).all (fun o=>o.guard.isNone) = true) (S:World→Prop) (hS:S w.drew)
    (h:LinY P S (ChL P Q S (Q .normal) [o3,o6,o7,o8,o9,o10]) [o0,o1,o2,o4,o5] a w.drew):(Code.region id #[o0,o1,o2,o3,o4,o5,o6,o7,o8,o9,o10] true).wp P Q a w:=xa0y (R:=[0,1,2,4,5]) (C:=[3,6,7,8,9,10]) (rs:=[o0,o1,o2,o4,o5]) (cs:=[o3,o6,o7,o8,o9,o10]) hm hb rfl rfl hg hS h
end
section
open Go.RowKit Go.BigFrame
theorem ChL.app {Q:Exit→Act→World→Prop} {S:World→Prop} {F:Act→World→Prop} {cs:List Oper} {o:Oper} {a:Act} (T e:Nat) (s x:Operand)
    (ho:o.op = .call { callee:=.builtin .append,args:=#[s,x],argTypes:=#[T,T] }) (hty:o.type = T)
    (w:World) (base:Nat) (z:Value) (sz bytes:Nat) (hu:Tryz.prog.underlying T = some (.slice e)) (hinf:(Tryz.prog.info? e).map (fun i=>(i.zero,i.size,i.bytes)) = some (some z,sz,bytes)) (hzs:z.cells.size = sz) (hs0:0 < sz)
    (v:Value) (n:Nat) (xs:List Value) (h:w.ownsRow base e sz v n xs) (ao:Option Addr) (m c:Nat) (rows:List (List Value)) (hr:RdC sz w (.slice ao m c) rows) (hs:∀ r∈rows,r.length = sz) (hone:∀ r∈rows,∀ u∈r,u.oneCell' = true)
    (hl:(n + m) * bytes≤140737488355328) (hl2:n + m≤1000000000000) (hb:base≤w.heap.size) (he:a.eval s = v) (hx:a.eval x = .slice ao m c)
    (hK:∀ ao' cap' w1,Hid (w1.ownsRow base e sz (.slice ao' (n + m) cap') (n + m) (xs++rows.flatten))→Hid (w.grownBy w1 v.ownBlock)→Hid ((Value.slice ao' (n + m) cap').ownBlock = v.ownBlock∨(Value.slice ao' (n + m) cap').ownBlock = some w.heap.size) →
      S w1∧ChL Tryz.prog Q S F cs (a.put o.dst (.slice ao' (n + m) cap')) w1):ChL Tryz.prog Q S F (o :: cs) a w:=by
  obtain ⟨ao',cap',w1,hrun,h2,h3,h4⟩:=appendC w base T e z sz bytes hu hinf hzs hs0 v n xs h ao m c rows hr hs hone hl hl2 hb
  unfold ChL
  unfold Oper.wp execOp
  simp only [ho,hty,resolve,invoke,builtin,Sem.run_bind,Sem.run_pure,Result.andThen_ok,List.map_toArray,List.map_cons,List.map_nil,he,hx,hrun]
  exact hK ao' cap' w1 h2 h3 h4
theorem PR.shrink {S:Nat→Prop} {W:World} {l:List VP} {L:Prs} (h:PR S W l L):PR (lowS S W) W l L:=⟨h.1,fun i hi=>(h.2 i hi).shrink⟩
theorem PR.mono {S T:Nat→Prop} {W:World} {l:List VP} {L:Prs} (hs:∀ x,T x→S x) (h:PR T W l L):PR S W l L:=⟨h.1,fun i hi=>(h.2 i hi).mono hs⟩
def tB (B:Nat) (v:Value):Nat→Prop:=fun y=>B≤y∧v.ownBlock≠some y
structure LayAt (B:Nat) (w:World) (v:Value) (l:List VP) (L:Prs):Prop where
  own:w.ownsRow B 33 2 v l.length (kvR l).flatten
  pr:PR (tB B v) w l L
theorem LayAt.agr {B:Nat} {w w':World} {v:Value} {l:List VP} {L:Prs} (h:LayAt B w v l L) (k:Kept [] w w'):LayAt B w' v l L:=⟨k.owns h.own (by simp),h.pr.agr (Agr.nil k)⟩
theorem LayAt.nil (B:Nat) (w:World):LayAt B w (.slice none 0 0) [] []:=⟨World.ownsRow_nil _ _ _ _,PR.nil _ _⟩
theorem LayAt.snoc {B:Nat} {w w1:World} {v v':Value} {l:List VP} {L:Prs} {kz vz:Value} {a b:List Nat} (h:LayAt B w v l L) (hk:Rd w kz a) (hv:Rd w vz b) (hkb:∀ x∈blk kz,tB B v x) (hvb:∀ x∈blk vz,tB B v x)
    (ho:w1.ownsRow B 33 2 v' (l.length + 1) ((kvR l).flatten++(kvR [(kz,vz)]).flatten)) (hg:w.grownBy w1 v.ownBlock) (hb:v'.ownBlock = v.ownBlock∨v'.ownBlock = some w.heap.size):LayAt B w1 v' (l++[(kz,vz)]) (L++[(a,b)]):=by
  have hp:=(h.pr.app (PR.one (Sty.rd hk hkb) (Sty.rd hv hvb))).shrink
  have hK:=(Kept.refl v.ownBlock.toList w).grown hg (by intro x hx; left; simp [hx])
  have ha:Agr (lowS (tB B v) w) w w1:=⟨hK.size,fun x hx hl=>hK.block x hl (by
    intro hm
    have:v.ownBlock = some x:=by simpa using hm
    exact hx.1.2 this)⟩
  refine ⟨?_,(hp.agr ha).mono (fun x hx=>⟨hx.1.1,?_⟩)⟩
  · rw [List.length_append,xb2k,List.flatten_append]; exact ho
  · rcases hb with e | e
    · rw [e]; exact hx.1.2
    · rw [e]; intro e2; have h2:=hx.2; injection e2 with e3; omega
theorem xb5g {o:Oper} {a:Act} (w:World) {x y:Operand} {X1 Y1:Option Addr} {X2 X3 Y2 Y3:Nat} (ho:o.op = .build 33 #[(0,x),(1,y)]∧a.eval x = .slice X1 X2 X3∧a.eval y = .slice Y1 Y2 Y3):(execOp a.eval o).run Tryz.prog w = .ok (.value (.agg #[.slice X1 X2 X3,.slice Y1 Y2 Y3])) w:=by
  obtain ⟨h0,h1,h2⟩:=ho
  have hb:=run_build (P:=Tryz.prog) w 33 #[(0,.slice X1 X2 X3),(1,.slice Y1 Y2 Y3)] _ (xb0w undef undef)
  unfold execOp
  simp only [h0,List.map_toArray,List.map_cons,List.map_nil,h1,h2,Sem.run_bind,hb,Result.andThen_ok]
  rfl
set_option maxHeartbeats 4000000 in
theorem xb8s (S:Nat→Prop) (k g:Nat) (E L:Prs) (lv:Value) (l:List VP) (W0 w:World) (hb:BkAt S (hsZ k) W0 g E) (hk0:Kept [] W0 w) (hl:LayAt W0.heap.size w lv l L) (hn:L.length + E.length≤1000000000) :
    Calls Tryz.prog 57 #[.pointer (some ⟨g,0,none⟩),lv] w fun e w'=>∃ v' l',e = .returned v'∧LayAt W0.heap.size w' v' l' (L++E)∧Kept [] W0 w':=by
  obtain ⟨pv,hSg,hh,hne,hkr⟩:=hb
  have hkd:((hsZ k).kd (E.headD ([],[])).1).length = 32:=xa1c _ _
  have c1:=(bk_row hh hkd).2.1
  obtain ⟨b,off,cap,le,rfl,hc1,hc2,hSb,hle,hcells,hrds⟩:=hkr
  have HC1:=hide c1
  have c1a:=hk0.cell c1 (by simp)
  have HCE:=hide hcells
  have HRD:=hide (fun i (hi:i < le.length)=>(hrds i hi).now)
  obtain ⟨n,hnn⟩:∃ n,le.length = n:=⟨_,rfl⟩
  rw [hnn] at hle hc1 HC1 HCE HRD c1a
  have HLE:=hide hle
  have HKW:=hide hk0
  have HLY:=hide hl
  rw [← hle] at hn
  clear hcells hrds hh hkd c1 hl hk0 hnn hle hne
  go_enter Tryz.func57,Tryz.ntmps57
  go_wp2
  go_loopw [1,12] (fun t1 t12 wr=>∃ (i:Nat) (v:Value) (lx:List VP),t12 = .int .i64 i∧t1 = v∧i≤n∧Hid (LayAt W0.heap.size wr v lx (L++E.take i))∧Hid (Kept [] W0 wr)) (fun _ t _=>n - (intOf t).toNat)
  case atStart=>exact ⟨0,lv,l,rfl,rfl,Nat.zero_le _,hide (by rw [List.take_zero,List.append_nil]; exact uh HLY),HKW⟩
  case round =>
    clear HLY HKW c1a
    obtain ⟨i,v,lx,rfl,rfl,hi,HLx,HKr⟩:=hrel
    by_cases hlt:i < n
    · have hlt':(i:Int) < n:=by omega
      obtain ⟨hx1,hx2⟩:=uh HCE i hlt
      obtain ⟨hr1,hr2⟩:=uh HRD i hlt
      generalize (le.getD i (undef,undef)).1 = kx at hx1 hr1
      generalize (le.getD i (undef,undef)).2 = vx at hx2 hr2
      have hEi:E.take (i + 1) = E.take i++[E.getD i ([],[])]:=by
        have hiE:i < E.length:=by have:=uh HLE; omega
        rw [List.take_succ_eq_append_getElem hiE,List.getD_eq_getElem?_getD,List.getElem?_eq_getElem hiE]; rfl
      have HEi:=hide hEi
      clear hEi
      generalize E.getD i ([],[]) = ei at hr1 hr2 HEi
      obtain ⟨ka,kb⟩:=ei
      obtain ⟨x1,x2,x3,rfl,_⟩:=id hr1
      obtain ⟨y1,y2,y3,rfl,_⟩:=id hr2
      have hlx:=(uh HLx).pr.1
      rw [List.length_append,List.length_take] at hlx
      have HLX:=hide hlx
      clear hlx
      obtain ⟨vo,vc,rfl⟩:=xa0k (uh HLx).own
      have hm1:=(uh HKr).cell hx1 (by simp)
      have hm2:=(uh HKr).cell hx2 (by simp)
      have HRG:=hide (show wr.rangeAt b (off + i * 2) [.slice x1 x2 x3,.slice y1 y2 y3] from fun j u hj=>by
        match j,hj with
        | 0,hj=>rw [Nat.add_zero,hm1]; exact hj
        | 1,hj=>rw [hm2]; exact hj)
      have HP2:=hide (heap_alloc_new wr (.cells #[.slice x1 x2 x3,.slice y1 y2 y3] 33))
      have HK2:=hide ((Kept.refl [] wr).alloc (.cells #[.slice x1 x2 x3,.slice y1 y2 y3] 33))
      have hws:(wr.alloc (.cells #[.slice x1 x2 x3,.slice y1 y2 y3] 33)).heap.size = wr.heap.size + 1:=by simp
      have hown:∀ y,(Value.slice vo lx.length vc).ownBlock = some y→W0.heap.size≤y∧y < wr.heap.size:=fun y hy=>(uh HLx).own.lt y hy
      have HR1:=hide hr1
      have HR2:=hide hr2
      clear hx1 hx2 hr1 hr2 hm1 hm2
      go_upto_region 4 with (refine wpList_load_mid rfl 33 (.tmp 14) rfl b (off + i * 2) rfl [.slice x1 x2 x3,.slice y1 y2 y3] _ (uh HRG) Tryz.underlying33 rfl Tryz.size_pair ?_)
      try simp only [Act.put]
      generalize wr.alloc (.cells #[.slice x1 x2 x3,.slice y1 y2 y3] 33) = W2 at HP2 HK2 hws ⊢
      have hcp:=xa0j [] [.slice x1 x2 x3,.slice y1 y2 y3] [] (uh HP2) rfl
      have HQ1:=hide (show W2.cell? ⟨wr.heap.size,0,none⟩ = some (.slice x1 x2 x3) from hcp 0 _ rfl)
      have HQ2:=hide (show W2.cell? ⟨wr.heap.size,1,none⟩ = some (.slice y1 y2 y3) from hcp 1 _ rfl)
      have hno:wr.heap.size∉(Value.slice vo lx.length vc).ownBlock.toList:=by
        intro hm
        have:=hown _ (by simpa using hm)
        omega
      obtain ⟨OB,hOB⟩:∃ OB,(Value.slice vo lx.length vc).ownBlock = OB:=⟨_,rfl⟩
      rw [hOB] at hno hown
      refine ln_ly (by kernel_rfl) (by kernel_rfl) rfl (fun W=>Kept OB.toList W2 W) (Kept.refl _ W2).drew ?_
      refine LinY.mv (x:=.tmp 1) rfl (.slice vo lx.length vc) rfl (by simp only [Act.put,sa1,sa2,sa3]; rfl) ?_
      refine LinY.rd (.pointer (some ⟨wr.heap.size,0,none⟩)) (fun W hW=>by go_simp) (by simp only [Act.put,sa1,sa2,sa3]; rfl) ?_
      refine LinY.rd (.slice x1 x2 x3) (fun W hW=>by have h9:=hW.cell (uh HQ1) hno; go_simp) (by simp only [Act.put,sa1,sa2,sa3]; rfl) ?_
      refine LinY.rd (.pointer (some ⟨wr.heap.size,1,none⟩)) (fun W hW=>by go_simp) (by simp only [Act.put,sa1,sa2,sa3]; rfl) ?_
      refine LinY.rd (.slice y1 y2 y3) (fun W hW=>by have h9:=hW.cell (uh HQ2) hno; go_simp) (by simp only [Act.put,sa1,sa2,sa3]; rfl) ?_
      have hd2:=(Kept.refl [] W2).drew
      have hk02:=(uh HKr).trans ((uh HK2).trans hd2 (by simp)) (by simp)
      have hsz:wr.heap.size < W2.drew.heap.size:=by have:=hd2.size; omega
      have HLd:=hide ((uh HLx).agr ((uh HK2).trans hd2 (by simp)))
      obtain ⟨W3,hW3⟩:∃ W3,W2.drew = W3:=⟨_,rfl⟩
      rw [hW3] at hd2 hk02 hsz HLd ⊢
      refine ChL.call rfl Tryz.call50 [.slice x1 x2 x3] rfl (xa1j _ ka W3 ((uh HR1).old hk02 (by simp))) ?_
      rintro e w4 ⟨⟨kz,rfl,hA,hAb⟩,k4⟩
      have hk4:=hd2.trans k4 (by simp)
      refine ⟨_,rfl,hk4.mono (by simp),?_⟩
      simp only [Act.put,sa1,sa2,sa3]
      refine ChL.call rfl Tryz.call50 [.slice y1 y2 y3] rfl (xa1j _ kb w4 ((uh HR2).old (hk02.trans k4 (by simp)) (by simp))) ?_
      rintro e w5 ⟨⟨vz,rfl,hB,hBb⟩,k5⟩
      have hk5:=hk4.trans k5 (by simp)
      refine ⟨_,rfl,hk5.mono (by simp),?_⟩
      simp only [Act.put,sa1,sa2,sa3]
      have hA5:=hA.old k5 (by simp)
      have hz4:=k4.size
      obtain ⟨p1,p2,p3,rfl,_⟩:=id hA5
      obtain ⟨q1,q2,q3,rfl,_⟩:=id hB
      refine ChL.op (.agg #[.slice p1 p2 p3,.slice q1 q2 q3]) (xb5g w5 ⟨rfl,rfl,rfl⟩) (hk5.mono (by simp)) (by simp only [Act.put,sa1,sa2,sa3]; rfl) ?_
      have hka:=(Kept.refl [] w5).alloc (.cells #[.slice p1 p2 p3,.slice q1 q2 q3] 33)
      have hk6:=hk5.trans hka (by simp)
      refine ChL.op (.slice (some ⟨w5.heap.size,0,none⟩) 1 1) (xa8i w5 (.tmp 23) rfl _ _ rfl) (hk6.mono (by simp)) (by simp only [Act.put,sa1,sa2,sa3]; rfl) ?_
      have hrl:RdC 2 (w5.alloc (.cells #[.slice p1 p2 p3,.slice q1 q2 q3] 33)) (.slice (some ⟨w5.heap.size,0,none⟩) 1 1) (kvR [(.slice p1 p2 p3,.slice q1 q2 q3)]):=⟨_,1,1,rfl,rfl,Nat.le_refl _,by omega,fun _=>⟨w5.heap.size,0,rfl,fun j hj=>by
        have h0:j = 0:=by rw [xa0l] at hj; simp at hj; omega
        subst h0
        exact xa0j [] [.slice p1 p2 p3,.slice q1 q2 q3] [] (heap_alloc_new w5 _) rfl⟩⟩
      have hly:=((uh HLd).agr ((k4.trans k5 (by simp)).trans hka (by simp)))
      have hk06:=hk02.trans ((k4.trans k5 (by simp)).trans hka (by simp)) (by simp)
      refine ChL.app 22 33 (.tmp 16) (.tmp 24) rfl rfl _ W0.heap.size (.agg #[.slice none 0 0,.slice none 0 0]) 2 48 Tryz.underlying22 Tryz.infoQ rfl (by decide) (.slice vo lx.length vc) lx.length (kvR lx).flatten hly.own (some ⟨w5.heap.size,0,none⟩) 1 1 (kvR [(.slice p1 p2 p3,.slice q1 q2 q3)]) hrl (by intro r hr; simp [kvR] at hr; rw [hr]; rfl) (by intro r hr u hu; simp [kvR] at hr; rw [hr] at hu; simp at hu; rcases hu with rfl | rfl <;> rfl) (by have:=uh HLX; omega) (by have:=uh HLX; omega) hk06.size rfl rfl ?_
      intro ao7 c7 w7 HO7 HG7 HA7
      have hg7:=uh HG7
      rw [hOB] at hg7
      have hk7:=(Kept.refl OB.toList _).grown hg7 (by intro x hx; left; simp [hx])
      have hk27:=(hk6.mono (M:=OB.toList) (by simp)).trans hk7 (fun x hx=>Or.inl hx)
      refine ⟨hk27,?_⟩
      simp only [Act.put,sa1,sa2,sa3]
      refine ChL.op (.slice ao7 (lx.length + 1) c7) (by go_simp) hk27 (by simp only [Act.put,sa1,sa2,sa3]; rfl) (ChL.fin ?_)
      have hsn:=hly.snoc (hA5.old hka (by simp)) (hB.old hka (by simp)) (fun x hx=>⟨by have:=hAb x hx; have:=hk02.size; omega,fun e=>by rw [hOB] at e; have:=(hown x e).2; have:=hAb x hx; omega⟩) (fun x hx=>⟨by have:=hBb x hx; have:=hk02.size; omega,fun e=>by rw [hOB] at e; have:=(hown x e).2; have:=hBb x hx; omega⟩) (uh HO7) (uh HG7) (uh HA7)
      have hk07:=hk06.grown (uh HG7) (fun x hx=>Or.inr (by rw [hOB] at hx; exact (hown x hx).1))
      have HSN:=hide hsn
      have HK7:=hide hk07
      clear hsn hk07 hk27 hk7 hk6 hk06 hly hrl hA hB hA5 k4 k5 hka
      go_wp2
      refine ⟨⟨i + 1,.slice ao7 (lx.length + 1) c7,_,by go_num,rfl,hlt,hide (by rw [uh HEi,← List.append_assoc]; exact uh HSN),HK7⟩,?_⟩
      simp [intOf]; omega
    · have hie:i = n:=by omega
      subst hie
      have hlt':¬ (i:Int) < i:=by omega
      go_wp2
      go_ret
      have h9:=uh HLx
      rw [List.take_of_length_le (by have:=uh HLE; omega)] at h9
      first | exact ⟨_,rfl,⟨lx,h9⟩,uh HKr⟩ | exact ⟨_,lx,rfl,h9,uh HKr⟩

theorem xb6v {H:Hs} {q:List Nat}:∀ {L:Prs},Srt H L→fnd q L = true→(delP q L).length + 1 = L.length
  | [],_,h=>by simp [fnd,getP] at h
  | y :: L,hs,h=>by
    by_cases e:y.1 = q
    · have h1:delP q (y :: L) = delP q L:=by unfold delP; rw [List.filter_cons]; simp [e]
      rw [h1,xa9d (fun z hz e2=>by have:=hs.head z hz; rw [e,e2,xa2o] at this; omega)]; rfl
    · have h3:fnd q (y :: L) = fnd q L:=by unfold fnd; rw [xa2x,if_neg e]
      rw [h3] at h
      have h1:delP q (y :: L) = y :: delP q L:=by unfold delP; rw [List.filter_cons]; simp [e]
      rw [h1,List.length_cons,xb6v hs.tail h]; rfl
theorem del_no {q:List Nat} {L:Prs} (h:fnd q L = false):delP q L = L:=by
  refine xa9d (fun y hy e=>?_)
  unfold fnd at h
  have h1:getP q L = none:=by cases hg:getP q L with
    | none=>rfl
    | some v=>rw [hg] at h; simp at h
  exact xa1l.1 h1 y hy e
set_option maxHeartbeats 4000000 in
theorem xb2r (S:Nat→Prop) (k:Nat) (mv kv:Value) (L:Prs) (q:List Nat) (w:World) (hM:MapAt S k w mv L) (hku:Rd w kv q) (hq:q.length≤64) (hS:∀ y,w.heap.size≤y→S y) (hT:Tabs w) :
    Calls Tryz.prog 76 #[mv,kv] w fun e w'=>∃ m',e = .returned (.tuple #[m',.bool (fnd q L),.int .i64 0])∧MapAt S k w' m' (delP q L)∧Kept [] w w':=by
  have HM:=hide hM
  obtain ⟨hk,hs,hfit,hlen,g,tv,rfl,hSg,hh,htop⟩:=hM
  have hH:=hsZ_ok hk
  have c0:w.cell? ⟨g,0,none⟩ = some (.int .i64 k):=by rw [cell_of_row _ _ _ _ _ _ hh]; rfl
  have c1:w.cell? ⟨g,1,none⟩ = some (.int .i64 (L.length:Nat)):=by rw [cell_of_row _ _ _ _ _ _ hh]; rfl
  have c2:w.cell? ⟨g,2,none⟩ = some tv:=by rw [cell_of_row _ _ _ _ _ _ hh]; rfl
  have hdl:=xb6v (q:=q) hs
  have hdn:=del_no (q:=q) (L:=L)
  have hle:(delP q L).length≤L.length:=List.length_filter_le _ _
  have hlen':=hlen
  obtain ⟨z,hz⟩:∃ z:Int,((L.length:Nat):Int) = z:=⟨_,rfl⟩
  rw [hz] at c1
  have HC0:=hide c0
  have HC1:=hide c1
  have HC2:=hide c2
  have HKU:=hide hku
  have HTb:=hide hT
  have HSr:=hide hs
  have HFt:=hide hfit
  have HTop:=hide htop
  clear hh htop hT hs c0 c1 c2 hku hfit hSg
  go_enter Tryz.func76,Tryz.ntmps76
  go_wp2_with fail
  refine Calls.mono (xa2z S k _ kv L q w (uh HM) (uh HKU) hq (uh HTb)) ?_
  rintro e w1 ⟨m,cr,en,pl,fd,rfl,hway,k1⟩
  have hfd:=hway.fd
  rw [← hfd] at hdl hdn
  have HFd:=hide hfd
  have hon:=hway.cells
  have HWay:=hide hway
  have hDl:((hsZ k).kd q).length = 32:=(hH.dg q).1
  obtain ⟨D,hD⟩:∃ D,(hsZ k).kd q = D:=⟨_,rfl⟩
  have HD:=hide hD
  rw [hD] at hDl ⊢
  clear hD hfd hway
  have hws:((wayC k D cr en pl fd).toArray).size = 37:=by rw [List.size_toArray,xa0v hDl]
  have HZ1:=hide (heap_alloc_new w1 (.cells zwy 102))
  have HN2:=hide (setRow_heap _ _ _ (wayC k D cr en pl fd).toArray _ _ (uh HZ1))
  have HK12:=hide ((Kept.refl [] w1).alloc (.cells zwy 102) |>.setRow (g:=w1.heap.size) (Or.inr (Nat.le_refl _)) (wayC k D cr en pl fd).toArray)
  have HK2:=hide (k1.trans (uh HK12) (by simp))
  have hw1:=k1.size
  clear k1
  obtain ⟨W2,hW2⟩:∃ W2,(w1.alloc (.cells zwy 102)).setRow w1.heap.size (wayC k D cr en pl fd).toArray = W2:=⟨_,rfl⟩
  rw [hW2] at HN2 HK12 HK2
  have c5a:=(xa0m (uh HN2) hDl).2.2.2.2.2
  have HV0:=hide ((uh HK2).cell (uh HC0) (by simp))
  have HV1:=hide ((uh HK2).cell (uh HC1) (by simp))
  have HV2:=hide ((uh HK2).cell (uh HC2) (by simp))
  cases fd with
  | false =>
    have hdn':=hdn rfl
    go_upto_region 5 with (rw [xa3e]; refine wpList_store_row rfl 102 (.tmp 7) (.tmp 13) rfl w1.heap.size (wayC k D cr en pl false).toArray rfl rfl _ zwy (uh HZ1) (by rw [hws]; exact Tryz.size_way) (by rw [hws]; rfl) (xa1m _ _ hon.1 hon.2) ?_; rw [hW2]; simp only [Act.put])
    refine ln_dn (by kernel_rfl) (by kernel_rfl) rfl (fun W=>Kept [] W2 W) (Kept.refl _ W2).drew ?_
    refine LinY.mv (x:=.tmp 0) rfl (.pointer (some ⟨g,0,none⟩)) rfl (by simp only [Act.put,sa1,sa2,sa3]; rfl) ?_
    refine LinY.rd (.pointer (some ⟨g,0,none⟩)) (fun W hW=>by go_simp) (by simp only [Act.put,sa1,sa2,sa3]; rfl) ?_
    refine LinY.rd (.pointer (some ⟨g,0,none⟩)) (fun W hW=>by go_simp) (by simp only [Act.put,sa1,sa2,sa3]; rfl) ?_
    refine LinY.rd (.int .i64 k) (fun W hW=>by have h9:=hW.cell (uh HV0) (by simp); go_simp) (by simp only [Act.put,sa1,sa2,sa3]; rfl) ?_
    refine LinY.mv (x:=.tmp 0) rfl (.pointer (some ⟨g,0,none⟩)) rfl (by simp only [Act.put,sa1,sa2,sa3]; rfl) ?_
    refine LinY.rd (.pointer (some ⟨g,0,none⟩)) (fun W hW=>by go_simp) (by simp only [Act.put,sa1,sa2,sa3]; rfl) ?_
    refine LinY.rd (.pointer (some ⟨g,1,none⟩)) (fun W hW=>by go_simp) (by simp only [Act.put,sa1,sa2,sa3]; rfl) ?_
    refine LinY.rd (.int .i64 z) (fun W hW=>by have h9:=hW.cell (uh HV1) (by simp); go_simp) (by simp only [Act.put,sa1,sa2,sa3]; rfl) ?_
    refine LinY.mv (x:=.tmp 0) rfl (.pointer (some ⟨g,0,none⟩)) rfl (by simp only [Act.put,sa1,sa2,sa3]; rfl) ?_
    refine LinY.rd (.pointer (some ⟨g,0,none⟩)) (fun W hW=>by go_simp) (by simp only [Act.put,sa1,sa2,sa3]; rfl) ?_
    refine LinY.rd (.pointer (some ⟨g,2,none⟩)) (fun W hW=>by go_simp) (by simp only [Act.put,sa1,sa2,sa3]; rfl) ?_
    refine LinY.rd (tv) (fun W hW=>by have h9:=hW.cell (uh HV2) (by simp); go_simp) (by simp only [Act.put,sa1,sa2,sa3]; rfl) ?_
    have hd2:=(Kept.refl [] W2).drew
    have htw:TopAt S (hsZ k) W2.drew tv L:=(uh HTop).agr (Agr.nil ((uh HK2).trans hd2 (by simp)))
    have hone:tv.cells = #[tv]:=xa3k (S:=S) (f:=64) htw
    obtain ⟨W3,hW3⟩:∃ W3,W2.drew = W3:=⟨_,rfl⟩
    rw [hW3] at hd2 htw ⊢
    refine ChL.op (.agg #[.int .i64 k,.int .i64 z,tv]) (xa5r W3 ⟨rfl,rfl,rfl,rfl⟩ hone) hd2 (by simp only [Act.put,sa1,sa2,sa3]; rfl) ?_
    have hka:=hd2.alloc (.cells #[.int .i64 k,.int .i64 z,tv] 97)
    have hkz:=((uh HK2).trans hd2 (by simp)).alloc (.cells #[.int .i64 k,.int .i64 z,tv] 97)
    refine ChL.op (.pointer (some ⟨W3.heap.size,0,none⟩)) (by go_simp) hka (by simp only [Act.put,sa1,sa2,sa3]; rfl) ?_
    refine ChL.op (.pointer (some ⟨W3.heap.size,0,none⟩)) (by go_simp) hka (by simp only [Act.put,sa1,sa2,sa3]; rfl) ?_
    refine ChL.op (.bool false) (by go_simp) hka (by simp only [Act.put,sa1,sa2,sa3]; rfl) ?_
    refine ChL.op (.int .i64 0) (by go_simp) hka (by simp only [Act.put,sa1,sa2,sa3]; rfl) (ChL.fin ?_)
    have hfin:MapAt S k (W3.alloc (.cells #[.int .i64 k,.int .i64 z,tv] 97)) (.pointer (some ⟨W3.heap.size,0,none⟩)) (delP q L):=by
      rw [hdn']
      exact ⟨hk,uh HSr,uh HFt,hlen',W3.heap.size,tv,rfl,hS _ ((uh HK2).trans hd2 (by simp)).size,by rw [hz]; exact heap_alloc_new _ _,htw.agr (Agr.nil ((Kept.refl [] W3).alloc _))⟩
    go_wp2
    go_ret3
    exact ⟨.pointer (some ⟨W3.heap.size,0,none⟩),by rw [← uh HFd]; rfl,hfin,hkz⟩
  | true =>
    have hdl':=hdl rfl
    obtain ⟨y,hy⟩:∃ y:Int,(((delP q L).length:Nat):Int) = y:=⟨_,rfl⟩
    have hwr:IntKind.i64.wrap (z - 1) = y:=by rw [← hz,← hy]; simp [IntKind.wrap,IntKind.signed,IntKind.bits]; omega
    go_upto_region 6 with (rw [xa3e]; refine wpList_store_row rfl 102 (.tmp 7) (.tmp 13) rfl w1.heap.size (wayC k D cr en pl true).toArray rfl rfl _ zwy (uh HZ1) (by rw [hws]; exact Tryz.size_way) (by rw [hws]; rfl) (xa1m _ _ hon.1 hon.2) ?_; rw [hW2]; simp only [Act.put])
    refine ln_dl (by kernel_rfl) (by kernel_rfl) rfl (fun W=>Kept [] W2 W) (Kept.refl _ W2).drew ?_
    refine LinY.mv (x:=.tmp 0) rfl (.pointer (some ⟨g,0,none⟩)) rfl (by simp only [Act.put,sa1,sa2,sa3]; rfl) ?_
    refine LinY.rd (.pointer (some ⟨g,0,none⟩)) (fun W hW=>by go_simp) (by simp only [Act.put,sa1,sa2,sa3]; rfl) ?_
    refine LinY.rd (.pointer (some ⟨g,0,none⟩)) (fun W hW=>by go_simp) (by simp only [Act.put,sa1,sa2,sa3]; rfl) ?_
    refine LinY.rd (.int .i64 k) (fun W hW=>by have h9:=hW.cell (uh HV0) (by simp); go_simp) (by simp only [Act.put,sa1,sa2,sa3]; rfl) ?_
    refine LinY.mv (x:=.tmp 0) rfl (.pointer (some ⟨g,0,none⟩)) rfl (by simp only [Act.put,sa1,sa2,sa3]; rfl) ?_
    refine LinY.rd (.pointer (some ⟨g,0,none⟩)) (fun W hW=>by go_simp) (by simp only [Act.put,sa1,sa2,sa3]; rfl) ?_
    refine LinY.rd (.pointer (some ⟨g,1,none⟩)) (fun W hW=>by go_simp) (by simp only [Act.put,sa1,sa2,sa3]; rfl) ?_
    refine LinY.rd (.int .i64 z) (fun W hW=>by have h9:=hW.cell (uh HV1) (by simp); go_simp) (by simp only [Act.put,sa1,sa2,sa3]; rfl) ?_
    refine LinY.rd (.int .i64 y) (fun W hW=>by go_simp) (by simp only [Act.put,sa1,sa2,sa3]; rfl) ?_
    refine LinY.ld 102 (.tmp 7) rfl w1.heap.size 0 rfl (wayC k D cr en pl true) _ (fun W hW=>hW.rng (xa4q (uh HN2)) (by simp)) Tryz.underlying102 rfl (by rw [xa0v hDl]; exact Tryz.size_way) (by simp only [Act.put,sa1,sa2,sa3]; rfl) ?_
    refine LinY.ld 102 (.tmp 7) rfl w1.heap.size 0 rfl (wayC k D cr en pl true) _ (fun W hW=>hW.rng (xa4q (uh HN2)) (by simp)) Tryz.underlying102 rfl (by rw [xa0v hDl]; exact Tryz.size_way) (by simp only [Act.put,sa1,sa2,sa3]; rfl) ?_
    have hd5:=(Kept.refl [] W2).drew
    have hk50:=(uh HK2).trans hd5 (by simp)
    have hw5:=(uh HWay).old ((uh HK12).trans hd5 (by simp))
    have hew:=xa5y S k m q L cr en pl W2.drew hk (fun y hy=>hS y (Nat.le_trans hk50.size hy)) hw5 (uh HSr) (uh HFt) hlen' ((uh HTb).k hk50)
    rw [uh HD] at hew
    refine ChL.call rfl Tryz.call117 [.agg (wayC k D cr en pl true).toArray] rfl hew ?_
    rintro e w6 ⟨t6,rfl,ht6,k6⟩
    have hk6:=hd5.trans k6 (by simp)
    refine ⟨_,rfl,hk6,?_⟩
    simp only [Act.put,sa1,sa2,sa3]
    have hk60:=(uh HK2).trans hk6 (by simp)
    obtain ⟨gs,_,_,htr⟩:=hw5.cr
    have hli:=xa8h S k m q L (fun i=>delP q (dnL (hsZ k) q L i)) cr en pl true t6 w6 hk (fun y hy=>hS y (Nat.le_trans hk60.size hy)) (hw5.old k6) (fun i hi=>⟨ch_del _ _ _ _ _,xb8g,del_ne (htr i hi).2⟩) ht6 ((uh HTb).k hk60)
    rw [uh HD] at hli
    refine ChL.call rfl Tryz.call51 [.agg (wayC k D cr en pl true).toArray,t6] rfl hli ?_
    rintro e w7 ⟨t7,rfl,ht7,k7⟩
    have hk7:=hk6.trans k7 (by simp)
    refine ⟨_,rfl,hk7,?_⟩
    simp only [Act.put,sa1,sa2,sa3]
    have hk70:=hk60.trans k7 (by simp)
    have hone:t7.cells = #[t7]:=xa3k ht7
    refine ChL.op (.agg #[.int .i64 k,.int .i64 y,t7]) (xa5r w7 ⟨rfl,rfl,rfl,rfl⟩ hone) hk7 (by simp only [Act.put,sa1,sa2,sa3]; rfl) ?_
    have hka:=hk7.alloc (.cells #[.int .i64 k,.int .i64 y,t7] 97)
    have hkz:=hk70.alloc (.cells #[.int .i64 k,.int .i64 y,t7] 97)
    refine ChL.op (.pointer (some ⟨w7.heap.size,0,none⟩)) (by go_simp) hka (by simp only [Act.put,sa1,sa2,sa3]; rfl) ?_
    refine ChL.op (.pointer (some ⟨w7.heap.size,0,none⟩)) (by go_simp) hka (by simp only [Act.put,sa1,sa2,sa3]; rfl) ?_
    refine ChL.op (.bool true) (by go_simp) hka (by simp only [Act.put,sa1,sa2,sa3]; rfl) ?_
    refine ChL.op (.int .i64 0) (by go_simp) hka (by simp only [Act.put,sa1,sa2,sa3]; rfl) (ChL.fin ?_)
    have hfin:MapAt S k (w7.alloc (.cells #[.int .i64 k,.int .i64 y,t7] 97)) (.pointer (some ⟨w7.heap.size,0,none⟩)) (delP q L) :=
      ⟨hk,(uh HSr).del q,(uh HFt).sub (fun x hx=>((xa4o x).1 hx).1),by omega,w7.heap.size,t7,rfl,hS _ hk70.size,by rw [hy]; exact heap_alloc_new _ _,ht7.agr (Agr.nil ((Kept.refl [] w7).alloc _))⟩
    go_wp2
    go_ret3
    exact ⟨.pointer (some ⟨w7.heap.size,0,none⟩),by rw [← uh HFd]; rfl,hfin,hkz⟩

end
section
open Go Go.RowKit Go.BigFrame
theorem ln_wa {P:Program} {Q:Exit→Act→World→Prop} {id:Nat} {o0 o1 o2 o3 o4 o5 o6 o7 o8 o9 o10 o11 o12 o13:Oper} {a:Act} {w:World} (hm:P.follows .mixedOrders = true) (hb:linB #[o0,o1,o2,o3,o4,o5,o6,o7,o8,o9,o10,o11,o12,o13] [0,1,2,3,4,5,6,7,8] [9,10,11,12,13] [] = true) (hg:([o0,o1,o2,o3,o4,o5,o6,o7,o8]++([o9,o10,o11,o12,o13]++[])).all (fun o=>o.guard.isNone) = true) (S:World→Prop) (hS:S w.drew)
    (h:LinY P S (ChL P Q S (Q .normal) [o9,o10,o11,o12,o13]) [o0,o1,o2,o3,o4,o5,o6,o7,o8] a w.drew):(Code.region id #[o0,o1,o2,o3,o4,o5,o6,o7,o8,o9,o10,o11,o12,o13] true).wp P Q a w:=xa0y (R:=[0,1,2,3,4,5,6,7,8]) (C:=[9,10,11,12,13]) (rs:=[o0,o1,o2,o3,o4,o5,o6,o7,o8]) (cs:=[o9,o10,o11,o12,o13]) hm hb rfl rfl hg hS h
end
section
open Go.RowKit Go.BigFrame
theorem LayAt.rdK {B:Nat} {w:World} {v:Value} {l:List VP} {L:Prs} (h:LayAt B w v l L):RdK w v L:=by
  obtain ⟨_,len,cap,rfl,hl,hc1,hc2,hcell⟩:=xa2v (by rw [xa0l]; exact h.own) h.pr.cell.1
  rw [xa0l] at hl
  have e1:∀ i,i < l.length→(l.map (·.1)).getD i undef = (l.getD i (undef,undef)).1∧(l.map (·.2)).getD i undef = (l.getD i (undef,undef)).2:=fun i hi=>by
    simp [List.getD_eq_getElem?_getD,List.getElem?_eq_getElem hi]
  refine ⟨_,len,cap,l.map (·.1),l.map (·.2),rfl,by rw [← hl]; exact h.pr.1.symm,hc1,hc2,fun i hi=>?_,fun h0=>?_⟩
  · rw [(e1 i (by omega)).1,(e1 i (by omega)).2]; exact (h.pr.2 i (by omega)).now
  · obtain ⟨b,off,rfl,hce⟩:=hcell h0
    refine ⟨b,off,rfl,fun i hi=>?_⟩
    have hi':i < l.length:=by omega
    have h7:=hce i (by rw [xa0l]; exact hi')
    have e:(kvR l)[i]'(by rw [xa0l]; exact hi') = [l[i].1,l[i].2]:=kvR_at _ i hi'
    rw [e] at h7
    rw [(e1 i hi').1,(e1 i hi').2]
    simp only [List.getD_eq_getElem?_getD,List.getElem?_eq_getElem hi',Option.getD_some]
    exact ⟨h7 0 _ rfl,h7 1 _ rfl⟩
abbrev Stp:=Nat × List (List Nat)
def stR (l:List (Nat × Value)):List (List Value):=l.map fun p=>[.int .u16 (p.1:Int),p.2]
theorem xa9g {α:Type} (l:List α) (a d:α) (i:Nat):(l++[a]).getD i d = if i < l.length then l.getD i d else if i = l.length then a else d:=by
  simp only [List.getD_eq_getElem?_getD]
  by_cases h:i < l.length
  · rw [if_pos h,List.getElem?_append_left h]
  · rw [if_neg h,List.getElem?_append_right (by omega)]
    by_cases g:i = l.length
    · rw [if_pos g]; subst g; simp
    · rw [if_neg g,List.getElem?_eq_none (by simp; omega)]; rfl
def stp (k:Nat) (q:List Nat) (L:Prs) (i:Nat):Stp:=(bm (hsZ k) i (dnL (hsZ k) q L i),(kidsL (hsZ k) i (dnL (hsZ k) q L i)).map (nodP (hsZ k) (63 - i)))
theorem Tryz.infoSt:(Tryz.prog.info? 52).map (fun i=>(i.zero,i.size,i.bytes)) = some (some (.agg #[.int .u16 0,.slice none 0 0]),2,32):=by kernel_rfl
theorem xb3r (x:Int) {X1:Option Addr} {X2 X3:Nat}:Tryz.prog.built 52 [(0,.int .u16 x),(1,.slice X1 X2 X3)] = some #[.int .u16 x,.slice X1 X2 X3]:=by kernel_rfl
theorem xb4q {o:Oper} {a:Act} (w:World) {x y:Operand} {n:Int} {X1:Option Addr} {X2 X3:Nat} (ho:o.op = .build 52 #[(0,x),(1,y)]∧a.eval x = .int .u16 n∧a.eval y = .slice X1 X2 X3):(execOp a.eval o).run Tryz.prog w = .ok (.value (.agg #[.int .u16 n,.slice X1 X2 X3])) w:=by
  obtain ⟨h0,h1,h2⟩:=ho
  have hb:=run_build (P:=Tryz.prog) w 52 #[(0,.int .u16 n),(1,.slice X1 X2 X3)] _ (xb3r n)
  unfold execOp
  simp only [h0,List.map_toArray,List.map_cons,List.map_nil,h1,h2,Sem.run_bind,hb,Result.andThen_ok]
  rfl
theorem infoStp:∃ i,Tryz.prog.info? 52 = some i∧i.zero = some (.agg #[.int .u16 0,.slice none 0 0])∧i.size = 2:=by
  have h:=Tryz.infoSt
  generalize Tryz.prog.info? 52 = o at h
  cases o with
  | none=>cases h
  | some i =>
    have h1:=Option.some.inj h
    exact ⟨i,rfl,(Prod.mk.inj h1).1,(Prod.mk.inj (Prod.mk.inj h1).2).1⟩
theorem fillS (x y:Value) (hx:x.cells = #[x]):Instr.fill (fun i=>some (i * 2,2)) ((Array.range (1 * 2)).map ((Value.agg #[.int .u16 0,.slice none 0 0]).cells[· % (Value.agg #[.int .u16 0,.slice none 0 0]).cells.size]!)) [(0,.agg #[x,y])] = some #[x,y]:=by kernel_rfl
theorem xb3p {o:Oper} {a:Act} (w:World) (x:Operand) (ho:o.op = .buildSlice 45 1 #[(0,x)]) (n:Int) (vu:Value) (hx:a.eval x = .agg #[.int .u16 n,vu]):(execOp a.eval o).run Tryz.prog w = .ok (.value (.slice (some ⟨w.heap.size,0,none⟩) 1 1)) (w.alloc (.cells #[.int .u16 n,vu] 52)):=by
  obtain ⟨i0,hi,hz0,hz1⟩:=infoStp
  have hb:=run_buildSlice w 45 52 1 #[(0,.agg #[.int .u16 n,vu])] #[.int .u16 n,vu] i0 _ Tryz.underlying45 hi hz0 (by rw [hz1]; decide) (by rw [hz1]; decide) (by rw [hz1]; exact fillS (.int .u16 n) vu rfl)
  unfold execOp
  simp only [ho,List.map_toArray,List.map_cons,List.map_nil,hx,Sem.run_bind,hb,Result.andThen_ok]
  rfl
end
theorem p_fold {H:Hs} (hH:H.Ok) {q:List Nat} {L:Prs} {m:Nat} (hf:∀ i,i < m→sgl H (dnL H q L i) = false):m≤2 * H.wd:=by
  cases m with
  | zero=>omega
  | succ i=>have:=deep hH (dn_on (H:=H) (q:=q) (L:=L) i).pre (hf i (by omega)); omega
theorem p_ne {H:Hs} {L:Prs} (h:sgl H L = false):L≠[]:=fun e=>by rw [e] at h; cases h
theorem p_up {H:Hs} {q:List Nat} {L:Prs} {i:Nat} (hi:i < 64) (hs:sgl H (dnL H q L i) = false):H.hr (bm H i (dnL H q L i)) ((kidsL H i (dnL H q L i)).map (nodP H (63 - i))) = nodP H (64 - i) (dnL H q L i):=by
  rw [show 64 - i = (63 - i) + 1 by omega,nod_br hs,show 63 - (63 - i) = i by omega]
  unfold kidsL
  rw [List.map_map]; rfl
theorem p_bit {H:Hs} (hH:H.Ok) {q:List Nat} {L:Prs} {i:Nat}:(bm H i (dnL H q L i)).testBit (dgt (H.kd q) i) = !(dnL H q L (i + 1)).isEmpty:=bm_bit (dgk hH q i)
theorem p_kid {H:Hs} (hH:H.Ok) {q:List Nat} {L:Prs} {i f:Nat} (hb:(bm H i (dnL H q L i)).testBit (dgt (H.kd q) i) = true):cnt (bm H i (dnL H q L i)) (dgt (H.kd q) i) < ((kidsL H i (dnL H q L i)).map (nodP H f)).length∧((kidsL H i (dnL H q L i)).map (nodP H f)).getD (cnt (bm H i (dnL H q L i)) (dgt (H.kd q) i)) [] = nodP H f (dnL H q L (i + 1)):=by
  have h:=kid_at (L:=dnL H q L i) (dgk hH q i) hb
  have hl:cnt (bm H i (dnL H q L i)) (dgt (H.kd q) i) < (kidsL H i (dnL H q L i)).length:=(List.getElem?_eq_some_iff.1 h).1
  refine ⟨by rw [List.length_map]; exact hl,?_⟩
  rw [List.getD_eq_getElem?_getD,List.getElem?_map,h]; rfl
theorem p_two {H:Hs} (hH:H.Ok) {q:List Nat} {L:Prs} {i:Nat} (hn:sgl H (dnL H q L i) = false) (hs:sgl H (dnL H q L (i + 1)) = true) (hne:dnL H q L (i + 1)≠[]):(kidsL H i (dnL H q L i)).length≠1:=fun h=>by
  have hk:=xb1j hH h
  have hb:(bm H i (dnL H q L i)).testBit (dgt (H.kd q) i) = true:=by
    rw [p_bit hH]
    cases hc:dnL H q L (i + 1) with
    | nil=>exact absurd hc hne
    | cons _ _=>rfl
  have h1:=kid_at (L:=dnL H q L i) (dgk hH q i) hb
  have hm:=List.mem_of_getElem? h1
  rw [hk,List.mem_singleton] at hm
  have hm2:dnL H q L (i + 1) = dnL H q L i:=hm
  rw [hm2,hn] at hs
  cases hs
theorem p_back {α:Type} (l:List α) (r:Nat) (hr:r < l.length) (d:α):(l.eraseIdx r).take r++l.getD r d :: (l.eraseIdx r).drop r = l:=by
  have h1:(l.take r).length = r:=by rw [List.length_take]; omega
  rw [List.eraseIdx_eq_take_drop_succ,List.take_append_of_le_length (by omega),List.take_take,Nat.min_self,List.drop_append_of_le_length (by omega),List.drop_of_length_le (by omega),List.nil_append,List.getD_eq_getElem?_getD,List.getElem?_eq_getElem hr,Option.getD_some,List.getElem_cons_drop,List.take_append_drop]
def wod (s:Stp) (c:Nat):Stp:=(s.1,if s.1.testBit c = true then s.2.eraseIdx (cnt s.1 c) else s.2)
def prf (k:Nat) (q:List Nat) (L:Prs) (i:Nat):Stp:=wod (stp k q L i) (dgt ((hsZ k).kd q) i)
def prfL (k:Nat) (q:List Nat) (L:Prs) (m:Nat):List Stp:=(List.range m).map (prf k q L)
theorem xa5l (k:Nat) (q:List Nat) (L:Prs) (m:Nat):(prfL k q L m).length = m:=by simp [prfL]
theorem xa8z {k:Nat} {q:List Nat} {L:Prs} {m i:Nat} (hi:i < m):(prfL k q L m).getD i (0,[]) = prf k q L i:=by
  unfold prfL
  rw [List.getD_eq_getElem?_getD,List.getElem?_map,List.getElem?_range hi]; rfl
theorem xc0a {k:Nat} {q:List Nat} {L:Prs} {i:Nat}:∀ d∈(prf k q L i).2,∃ K,d = nodP (hsZ k) (63 - i) K:=by
  intro d hd
  unfold prf wod at hd
  have hd2:d∈(stp k q L i).2:=by
    split at hd
    · exact List.mem_of_mem_eraseIdx hd
    · exact hd
  obtain ⟨K,_,rfl⟩:=List.mem_map.1 hd2
  exact ⟨K,rfl⟩
theorem xc0c (k:Nat) (q:List Nat) (L:Prs) (i:Nat):(prf k q L i).2.length≤16:=by
  have h1:(stp k q L i).2.length≤16:=by
    show ((kidsL (hsZ k) i (dnL (hsZ k) q L i)).map (nodP (hsZ k) (63 - i))).length≤16
    rw [List.length_map,xa1f]; exact cnt_le _ _
  unfold prf wod
  show (if _ then _ else _:List (List Nat)).length≤16
  split
  · exact Nat.le_trans (List.length_eraseIdx_le _ _) h1
  · exact h1
structure WayM (k:Nat) (q:List Nat) (L:Prs) (m:Nat):Prop where
  ns:∀ i,i < m→sgl (hsZ k) (dnL (hsZ k) q L i) = false
  sg:sgl (hsZ k) (dnL (hsZ k) q L m) = true
theorem WayM.le {k:Nat} (hk:1≤k∧k≤32) {q:List Nat} {L:Prs} {m:Nat} (h:WayM k q L m):m≤2 * k:=p_fold (hsZ_ok hk) h.ns
theorem p_fits {k:Nat} (hk:1≤k∧k≤32) {q:List Nat} {L:Prs} {m i:Nat} (h:WayM k q L m) (hi:i < m):fitS (prf k q L i).1 (prf k q L i).2.length ((dgt ((hsZ k).kd q) i:Nat):Int) (!(dnL (hsZ k) q L (i + 1)).isEmpty) = true:=by
  have hH:=hsZ_ok hk
  have hn:=p_ne (h.ns i hi)
  have hc:dgt ((hsZ k).kd q) i < 16:=dgk hH q i
  have hl:=xa1f (hsZ k) i (dnL (hsZ k) q L i)
  have hp:=(xa2t hH (d:=i) hn).1
  have hb0:bm (hsZ k) i (dnL (hsZ k) q L i)≠0:=fun e=>by
    rw [hl,e] at hp
    have h2:cnt 0 16 = 0:=by decide
    omega
  have hbit:=p_bit hH (q:=q) (L:=L) (i:=i)
  unfold fitS
  have e1:(prf k q L i).1 = bm (hsZ k) i (dnL (hsZ k) q L i):=rfl
  rw [e1,xb3b _ _ (by omega),hbit,decide_eq_true hb0]
  simp only [Bool.true_and,beq_self_eq_true,decide_eq_true_eq]
  cases ht:(!(dnL (hsZ k) q L (i + 1)).isEmpty) with
  | true =>
    rw [ht] at hbit
    have hk2:=(p_kid hH (f:=63 - i) hbit).1
    have e2:(prf k q L i).2 = ((kidsL (hsZ k) i (dnL (hsZ k) q L i)).map (nodP (hsZ k) (63 - i))).eraseIdx (cnt (bm (hsZ k) i (dnL (hsZ k) q L i)) (dgt ((hsZ k).kd q) i)):=by
      show (if (bm (hsZ k) i (dnL (hsZ k) q L i)).testBit (dgt ((hsZ k).kd q) i) = true then _ else _) = _
      rw [if_pos hbit]; rfl
    rw [e2,List.length_eraseIdx_of_lt hk2,List.length_map,hl,if_pos rfl]
    rw [List.length_map,hl] at hk2
    omega
  | false =>
    rw [ht] at hbit
    have e2:(prf k q L i).2 = (kidsL (hsZ k) i (dnL (hsZ k) q L i)).map (nodP (hsZ k) (63 - i)):=by
      show (if (bm (hsZ k) i (dnL (hsZ k) q L i)).testBit (dgt ((hsZ k).kd q) i) = true then _ else _) = _
      rw [if_neg (by rw [hbit]; decide)]; rfl
    rw [e2,List.length_map,hl,if_neg (by decide)]; rfl
theorem xc0o {α:Type} (l:List α):(!l.isEmpty) = decide (0 < l.length):=by cases l <;> simp
theorem p_next {k:Nat} {q:List Nat} {L:Prs} {m i:Nat} (h:WayM k q L m) (hi:i < m):(!(dnL (hsZ k) q L (i + 1)).isEmpty) = (decide (i + 1 < m) || decide (0 < (dnL (hsZ k) q L m).length)):=by
  rcases Nat.lt_or_ge (i + 1) m with h1 | h1
  · rw [decide_eq_true h1,Bool.true_or]
    cases hc:dnL (hsZ k) q L (i + 1) with
    | nil=>exact absurd hc (p_ne (h.ns _ h1))
    | cons _ _=>rfl
  · have e:i + 1 = m:=by omega
    rw [decide_eq_false (by omega),Bool.false_or,← e,xc0o]
theorem p_dgt {k:Nat} (hk:1≤k∧k≤32) (q:List Nat) {i:Nat} (hi:i < 2 * k):atC (k:Int) (keyS (k:Int) q) (i:Int) = dgt ((hsZ k).kd q) i:=xc0l (wide_k hk) (xa5b (wide_k hk) q) (by simpa using hi)
theorem xb1l {k:Nat} (hk:1≤k∧k≤32) {q:List Nat} {L:Prs} {m:Nat} (h:WayM k q L m):∀ n,n≤m→fitsB (k:Int) (keyS (k:Int) q) (prfL k q L m) (dnL (hsZ k) q L m).length n = true
  | 0,_=>rfl
  | n + 1,hn=>by
    have hm:=h.le hk
    rw [fitsB,xb1l hk h n (by omega),Bool.true_and,xa8z (by omega),xa5l,p_dgt hk q (by omega),← p_next h (by omega)]
    exact p_fits hk h (by omega)
theorem p_ris {k:Nat} {q:List Nat} {L:Prs} {m:Nat} (h:WayM k q L m) (hs:Srt (hsZ k) L) (hf:Fit L):∀ n,n≤(dnL (hsZ k) q L m).length→risB (dnL (hsZ k) q L m) n = true
  | 0,_=>rfl
  | n + 1,hn=>by
    have hmem:(dnL (hsZ k) q L m).getD n ([],[])∈L:=by
      rw [List.getD_eq_getElem?_getD,List.getElem?_eq_getElem (by omega),Option.getD_some]
      exact dn_sub m _ (List.getElem_mem _)
    have hr:=xa5t (dn_srt (q:=q) hs m) h.sg
    rw [risB,p_ris h hs hf n (by omega),Bool.true_and,decide_eq_true (hf _ hmem).1,decide_eq_true (hf _ hmem).2,Bool.true_and,Bool.true_and]
    cases n with
    | zero=>rfl
    | succ i =>
      have h2:=List.pairwise_iff_getElem.1 hr i (i + 1) (by omega) (by omega) (by omega)
      rw [Nat.add_sub_cancel,List.getD_eq_getElem?_getD,List.getElem?_eq_getElem (by omega),List.getD_eq_getElem?_getD,List.getElem?_eq_getElem (by omega),Option.getD_some,Option.getD_some,decide_eq_true h2]
      simp
theorem p_hang {k:Nat} (hk:1≤k∧k≤32) {q:List Nat} {L:Prs} {m:Nat} (h:WayM k q L m) (hn:dnL (hsZ k) q L m≠[]):hanB (k:Int) (keyS (k:Int) q) m (dnL (hsZ k) q L m) = true:=by
  unfold hanB
  have h0:(dnL (hsZ k) q L m).getD 0 ([],[])∈dnL (hsZ k) q L m:=by
    cases hd:dnL (hsZ k) q L m with
    | nil=>exact absurd hd hn
    | cons x l=>simp
  rw [Bool.and_eq_true]
  constructor
  · rw [List.all_eq_true]
    intro p hp
    exact decide_eq_true (xa1g.1 h.sg p (List.mem_of_mem_drop hp) _ h0)
  · refine decide_eq_true ((xb0t (wide_k hk) (xa5b (wide_k hk) _) (xa5b (wide_k hk) _) (by have:=h.le hk; simpa using this)).2 (fun j hj=>?_))
    exact dn_on m _ h0 j hj
theorem p_prov {k:Nat} (hk:1≤k∧k≤32) {q:List Nat} {L:Prs} {m:Nat} (h:WayM k q L m) (hs:Srt (hsZ k) L) (hf:Fit L):provB (k:Int) (keyS (k:Int) q) (prfL k q L m) (dnL (hsZ k) q L m) = true:=by
  have hm:=h.le hk
  unfold provB
  rw [xa5l,xb1l hk h m (Nat.le_refl _),decide_eq_true (by simpa using hm),Bool.true_and,Bool.true_and]
  by_cases hn:dnL (hsZ k) q L m = []
  · rw [hn]; rfl
  · have hl:(dnL (hsZ k) q L m).length≠0:=fun e=>hn (List.eq_nil_of_length_eq_zero e)
    rw [decide_eq_false hl,Bool.false_or,p_ris h hs hf _ (Nat.le_refl _),p_hang hk h hn,Bool.and_true,Bool.and_true]
    cases m with
    | zero=>rfl
    | succ i =>
      rw [Nat.add_sub_cancel,xa8z (by omega)]
      have h2:=p_two (hsZ_ok hk) (h.ns i (by omega)) h.sg hn
      rw [xa1f] at h2
      rw [Bool.or_eq_true]
      exact Or.inr (decide_eq_true h2)
theorem p_form {k:Nat} (hk:1≤k∧k≤32) {q:List Nat} (hq:q.length≤64) (L:Prs) (m:Nat):hfE (k:Int) q [] (prfL k q L m) = 0:=by
  unfold hfE
  rw [if_neg (by rw [wide_k hk]; decide),if_neg (by omega),if_pos]
  rw [Bool.and_eq_true]
  refine ⟨rfl,List.all_eq_true.2 (fun s hs=>List.all_eq_true.2 (fun d hd=>?_))⟩
  obtain ⟨i,_,rfl⟩:=List.mem_map.1 hs
  obtain ⟨K,rfl⟩:=xc0a d hd
  exact xa7l hk _ _
theorem p_rtE {k:Nat} (hk:1≤k∧k≤32) {q:List Nat} (hq:q.length≤64) {L:Prs} {m:Nat} (h:WayM k q L m) (hs:Srt (hsZ k) L) (hf:Fit L):rtE (k:Int) q (prfL k q L m) (dnL (hsZ k) q L m) = 0:=rtE_mk (p_form hk hq L m) (p_prov hk h hs hf)
theorem p_brD {k:Nat} (hk:1≤k∧k≤32) {q:List Nat} {L:Prs} {m i:Nat} (h:WayM k q L m) (hi:i < m):brD (k:Int) (bm (hsZ k) i (dnL (hsZ k) q L i)) ((kidsL (hsZ k) i (dnL (hsZ k) q L i)).map (nodP (hsZ k) (63 - i))) = nodP (hsZ k) (64 - i) (dnL (hsZ k) q L i):=by
  have hm:=h.le hk
  have hp:=(xa2t (hsZ_ok hk) (d:=i) (p_ne (h.ns i hi))).1
  have h0:=xb6s hk (bm_lt (hsZ k) i (dnL (hsZ k) q L i)) (ds:=(kidsL (hsZ k) i (dnL (hsZ k) q L i)).map (nodP (hsZ k) (63 - i))) (fun d hd=>by obtain ⟨K,_,rfl⟩:=List.mem_map.1 hd; exact xa7l hk _ _) (by rw [List.length_map,xa1f]) (fun e=>by
    have e2:=congrArg List.length e
    rw [List.length_map] at e2
    simp only [List.length_nil] at e2
    omega)
  unfold brD sunD
  rw [h0,if_pos rfl]
  exact p_up (by omega) (h.ns i hi)
theorem p_cli {k:Nat} (hk:1≤k∧k≤32) {q:List Nat} {L:Prs} {m:Nat} (h:WayM k q L m):∀ n,n≤m→(∀ i,i < n→dnL (hsZ k) q L (i + 1)≠[])→cliD (k:Int) (keyS (k:Int) q) (prfL k q L m) n (nodP (hsZ k) (64 - n) (dnL (hsZ k) q L n)) = nodP (hsZ k) 64 L
  | 0,_,_=>rfl
  | n + 1,hn,hne=>by
    have hm:=h.le hk
    have hH:=hsZ_ok hk
    have hb:(bm (hsZ k) n (dnL (hsZ k) q L n)).testBit (dgt ((hsZ k).kd q) n) = true:=by
      rw [p_bit hH]
      cases hc:dnL (hsZ k) q L (n + 1) with
      | nil=>exact absurd hc (hne n (by omega))
      | cons _ _=>rfl
    obtain ⟨h1,h2⟩:=p_kid hH (f:=63 - n) hb
    rw [cliD,xa8z (by omega),p_dgt hk q (by omega),xa5f (by have:=dgk hH q n; omega)]
    have e1:(prf k q L n).1 = bm (hsZ k) n (dnL (hsZ k) q L n):=rfl
    have e2:(prf k q L n).2 = ((kidsL (hsZ k) n (dnL (hsZ k) q L n)).map (nodP (hsZ k) (63 - n))).eraseIdx (cnt (bm (hsZ k) n (dnL (hsZ k) q L n)) (dgt ((hsZ k).kd q) n)):=by
      show (if (bm (hsZ k) n (dnL (hsZ k) q L n)).testBit (dgt ((hsZ k).kd q) n) = true then _ else _) = _
      rw [if_pos hb]; rfl
    rw [e1,e2,show 64 - (n + 1) = 63 - n by omega,← h2,p_back _ _ h1 [],p_brD hk h (by omega)]
    exact p_cli hk h n (by omega) (fun i hi=>hne i (by omega))
theorem p_rooD {k:Nat} (hk:1≤k∧k≤32) {q:List Nat} {L:Prs} {m:Nat} (h:WayM k q L m):rooD (k:Int) q (prfL k q L m) (dnL (hsZ k) q L m) = rootP k L:=by
  have hm:=h.le hk
  unfold rooD footD footN
  rw [xa5l]
  by_cases hn:dnL (hsZ k) q L m = []
  · rw [hn,if_neg (by simp),if_neg (by simp)]
    cases m with
    | zero =>
      have hL:L = []:=hn
      subst hL
      rw [if_pos rfl,xa7z hk]; rfl
    | succ i =>
      have hL:L≠[]:=p_ne (h.ns 0 (by omega))
      have hb:(bm (hsZ k) i (dnL (hsZ k) q L i)).testBit (dgt ((hsZ k).kd q) i) = false:=by rw [p_bit (hsZ_ok hk),hn]; rfl
      have e2:(prf k q L i).2 = (kidsL (hsZ k) i (dnL (hsZ k) q L i)).map (nodP (hsZ k) (63 - i)):=by
        show (if (bm (hsZ k) i (dnL (hsZ k) q L i)).testBit (dgt ((hsZ k).kd q) i) = true then _ else _) = _
        rw [if_neg (by rw [hb]; decide)]; rfl
      have e1:(prf k q L i).1 = bm (hsZ k) i (dnL (hsZ k) q L i):=rfl
      rw [if_neg (by omega),Nat.add_sub_cancel,xa8z (by omega),e1,e2,p_brD hk h (by omega),p_cli hk h i (by omega) (fun j hj=>p_ne (h.ns (j + 1) (by omega)))]
      unfold rootP
      cases L with
      | nil=>exact absurd rfl hL
      | cons _ _=>rfl
  · have hl:0 < (dnL (hsZ k) q L m).length:=List.length_pos_iff.2 hn
    have hL:L≠[]:=fun e=>by
      have h1:=dn_len (H:=hsZ k) (q:=q) (L:=L) m
      rw [e] at h1
      simp only [List.length_nil] at h1
      rw [e] at hl
      omega
    rw [if_pos hl,if_pos hl]
    have e:sumD (k:Int) (buckB (dnL (hsZ k) q L m)) = nodP (hsZ k) (64 - m) (dnL (hsZ k) q L m):=(xb6i h.sg).symm
    rw [e,p_cli hk h m (Nat.le_refl _) (fun i hi=>by
      rcases Nat.lt_or_ge (i + 1) m with h1 | h1
      · exact p_ne (h.ns _ h1)
      · rw [show i + 1 = m by omega]; exact hn)]
    unfold rootP
    cases L with
    | nil=>exact absurd rfl hL
    | cons _ _=>rfl
theorem p_rtD {k:Nat} (hk:1≤k∧k≤32) {q:List Nat} (hq:q.length≤64) {L:Prs} {m:Nat} (h:WayM k q L m) (hs:Srt (hsZ k) L) (hf:Fit L):rtD (k:Int) q (prfL k q L m) (dnL (hsZ k) q L m) = rootP k L:=by
  unfold rtD
  rw [if_pos (p_rtE hk hq h hs hf),p_rooD hk h]
theorem xb1o (q:List Nat):∀ L:Prs,valH q L = getP q L
  | []=>rfl
  | p :: L=>by rw [valH,xa2x,xb1o q L]
theorem p_rtV {k:Nat} (hk:1≤k∧k≤32) {q:List Nat} (hq:q.length≤64) {L:Prs} {m:Nat} (h:WayM k q L m) (hs:Srt (hsZ k) L) (hf:Fit L):rtV (k:Int) q (prfL k q L m) (dnL (hsZ k) q L m) = getP q L:=by
  unfold rtV
  rw [if_pos (p_rtE hk hq h hs hf),xb1o,dn_get]
theorem p_ckE {k:Nat} (hk:1≤k∧k≤32) {q:List Nat} (hq:q.length≤64) {L:Prs} {m:Nat} (h:WayM k q L m) (hs:Srt (hsZ k) L) (hf:Fit L):ckE (k:Int) (rootP k L) q (prfL k q L m) (dnL (hsZ k) q L m) = 0:=by
  rw [← p_rtD hk hq h hs hf]; exact agr_ok (p_rtE hk hq h hs hf)
theorem p_ckV {k:Nat} (hk:1≤k∧k≤32) {q:List Nat} (hq:q.length≤64) {L:Prs} {m:Nat} (h:WayM k q L m) (hs:Srt (hsZ k) L) (hf:Fit L):ckV (k:Int) (rootP k L) q (prfL k q L m) (dnL (hsZ k) q L m) = getP q L:=by
  unfold ckV
  rw [if_pos (p_ckE hk hq h hs hf),p_rtV hk hq h hs hf]
section
open Go.RowKit Go.BigFrame
theorem xa7o (b:Nat) (t:TypeId):∀ (vs pre mid post:List Value) (w:World),mid.length = vs.length→w.heap[b]? = some (.cells (pre++(mid++post)).toArray t (0,0))→(w.setCells b pre.length vs).heap[b]? = some (.cells (pre++(vs++post)).toArray t (0,0))
  | [],pre,mid,post,w,hl,h=>by
    have:mid = []:=List.eq_nil_of_length_eq_zero (by simpa using hl)
    subst this; exact h
  | v :: r,pre,mid,post,w,hl,h=>by
    obtain ⟨x,mid,rfl⟩:∃ x q,mid = x :: q:=by cases mid with | nil=>simp at hl | cons x q=>exact ⟨x,q,rfl⟩
    rw [World.setCells]
    have h1:=heap_setCell_same w b pre.length _ t v h
    have e1:(pre++(x :: mid++post)).toArray.setIfInBounds pre.length v = ((pre++[v])++(mid++post)).toArray:=by simp
    rw [e1] at h1
    have h2:=xa7o b t r (pre++[v]) mid post _ (by simpa using hl) h1
    rw [List.length_append,List.length_cons,List.length_nil,List.append_assoc] at h2
    simpa using h2
theorem xa2e {L:List Nat} {w0:World} (b:Nat) (hb:b∈L∨w0.heap.size≤b):∀ (vs:List Value) (o:Nat) (w:World),Kept L w0 w→Kept L w0 (w.setCells b o vs)
  | [],o,w,h=>h
  | v :: r,o,w,h=>by
    rw [World.setCells]
    exact xa2e b hb r (o + 1) _ (h.setCell (p:=⟨b,o,none⟩) hb v)
theorem p_rddX {w:World} {g:Nat} {t:TypeId} {fr:Nat × Nat} {ds:List (List Nat)} {zs:List Value} {c:Nat} (h:w.heap[g]? = some (.cells (flatD ds++zs).toArray t fr)) (hd:∀ d∈ds,Dg d) (hl:ds.length≤c) (hc:c≤1000000):RdD w (.slice (some ⟨g,0,none⟩) ds.length c) ds:=by
  refine ⟨_,ds.length,c,rfl,rfl,hl,by omega,hd,fun _=>⟨g,0,rfl,fun i hi j v hj=>?_⟩⟩
  have hdl:∀ d∈ds,d.length = 32:=fun d hm=>(hd d hm).1
  have hj2:j < 32:=by
    have:=(List.getElem?_eq_some_iff.1 hj).1
    rw [List.length_map] at this
    have h9:(ds.getD i []).length = 32:=by rw [List.getD_eq_getElem?_getD,List.getElem?_eq_getElem hi]; exact hdl _ (List.getElem_mem _)
    omega
  have hln:=xa1p hdl
  rw [cell_of_row _ _ _ _ _ _ h,List.getElem?_toArray,Nat.zero_add,List.getElem?_append_left (by omega),xa5u hdl i hi j hj2]
  exact hj
theorem p_two1 {a b:Value} (ha:a.oneCell' = true) (hb:b.oneCell' = true):(#[a,b]:Array Value).all (·.oneCell') = true:=by simp [ha,hb]
def stV (s:Stp) (p:Nat × Nat):List Value:=[.int .u16 (s.1:Int),.slice (some ⟨p.1,0,none⟩) s.2.length p.2]
def snR (ss:List Stp) (gs:List (Nat × Nat)):List (List Value):=List.zipWith stV ss gs
theorem xa8r {ss:List Stp} {gs:List (Nat × Nat)} (h:gs.length = ss.length):(snR ss gs).length = ss.length:=by simp [snR,h]
theorem snR_at {ss:List Stp} {gs:List (Nat × Nat)} (h:gs.length = ss.length) (i:Nat) (hi:i < ss.length):(snR ss gs)[i]'(by rw [xa8r h]; exact hi) = stV (ss.getD i (0,[])) (gs.getD i (0,0)):=by
  simp [snR,List.getD_eq_getElem?_getD,List.getElem?_eq_getElem hi,List.getElem?_eq_getElem (show i < gs.length by omega)]
theorem xb1c {ss:List Stp} {gs:List (Nat × Nat)}:∀ r∈snR ss gs,r.length = 2:=fun r hr=>by
  obtain ⟨i,hi,rfl⟩:=List.getElem_of_mem hr
  simp [snR,stV]
structure KidB (B:Nat) (w:World) (v:Value) (s:Stp) (p:Nat × Nat):Prop where
  new:B≤p.1
  ne:v.ownBlock≠some p.1
  row:∃ zs:List Value,w.heap[p.1]? = some (.cells (flatD s.2++zs).toArray 58 (0,0))∧zs.length = (p.2 - s.2.length) * 32∧∀ u∈zs,u.oneCell' = true
  cap:s.2.length≤p.2∧p.2≤16
  bm:s.1 < 65536
  dg:∀ d∈s.2,Dg d
structure SNew (B:Nat) (w:World) (v:Value) (gs:List (Nat × Nat)) (ss:List Stp):Prop where
  own:w.ownsRow B 52 2 v ss.length (snR ss gs).flatten
  len:gs.length = ss.length
  kid:∀ i,i < ss.length→KidB B w v (ss.getD i (0,[])) (gs.getD i (0,0))
  dis:∀ i j,i < gs.length→j < gs.length→i≠j→(gs.getD i (0,0)).1≠(gs.getD j (0,0)).1
theorem KidB.kept {B:Nat} {w w':World} {v:Value} {s:Stp} {p:Nat × Nat} {M:List Nat} (h:KidB B w v s p) (k:Kept M w w') (hn:p.1∉M):KidB B w' v s p:=by
  obtain ⟨h1,h2,⟨zs,h3,h4⟩,h5,h6,h7⟩:=h
  exact ⟨h1,h2,⟨zs,k.heap h3 hn,h4⟩,h5,h6,h7⟩
theorem KidB.lt {B:Nat} {w:World} {v:Value} {s:Stp} {p:Nat × Nat} (h:KidB B w v s p):p.1 < w.heap.size:=by
  obtain ⟨h1,h2,⟨zs,h3,h4⟩,h5,h6,h7⟩:=h
  exact lt_of_block h3
theorem SNew.kept {B:Nat} {w w':World} {v:Value} {gs:List (Nat × Nat)} {ss:List Stp} (h:SNew B w v gs ss) (k:Kept [] w w'):SNew B w' v gs ss:=⟨k.owns h.own (by simp),h.len,fun i hi=>(h.kid i hi).kept k (by simp),h.dis⟩
theorem SNew.nil (B:Nat) (w:World):SNew B w (.slice none 0 0) [] []:=⟨World.ownsRow_nil _ _ _ _,rfl,fun i hi=>by simp at hi,fun i j hi=>by simp at hi⟩
theorem xa7h {α:Type} (l:List α) (a d:α) (i:Nat):(l++[a]).getD i d = if i < l.length then l.getD i d else if i = l.length then a else d:=xa9g l a d i
theorem SNew.snoc {B:Nat} {w w1:World} {v v':Value} {gs:List (Nat × Nat)} {ss:List Stp} {s:Stp} {p:Nat × Nat} (h:SNew B w v gs ss) (hk:KidB B w v s p) (hd:∀ q∈gs,q.1≠p.1)
    (ho:w1.ownsRow B 52 2 v' (ss.length + 1) ((snR ss gs).flatten++(stV s p))) (hg:w.grownBy w1 v.ownBlock) (hb:v'.ownBlock = v.ownBlock∨v'.ownBlock = some w.heap.size):SNew B w1 v' (gs++[p]) (ss++[s]):=by
  have hK:=(Kept.refl v.ownBlock.toList w).grown hg (by intro x hx; left; simp [hx])
  have hup:∀ {s p},KidB B w v s p→KidB B w1 v' s p:=fun {s p} k=>by
    have hlt:=k.lt
    obtain ⟨h1,h2,⟨zs,h3,h4⟩,h5,h6,h7⟩:=k
    refine ⟨h1,?_,⟨zs,hK.heap h3 (fun hm=>h2 (by simpa using hm)),h4⟩,h5,h6,h7⟩
    rcases hb with e | e
    · rw [e]; exact h2
    · rw [e]; intro e2; injection e2 with e3; omega
  refine ⟨?_,by rw [List.length_append,List.length_append,h.len]; rfl,fun i hi=>?_,fun i j hi hj hn=>?_⟩
  · rw [List.length_append,show snR (ss++[s]) (gs++[p]) = snR ss gs++[stV s p] by unfold snR; rw [List.zipWith_append h.len.symm]; rfl,List.flatten_append]
    simpa using ho
  · rw [List.length_append] at hi
    have hi2:i < ss.length + 1:=hi
    rw [xa7h,xa7h,h.len]
    by_cases g:i < ss.length
    · rw [if_pos g,if_pos g]; exact hup (h.kid i g)
    · have g2:i = ss.length:=by omega
      rw [if_neg g,if_neg g,if_pos g2,if_pos g2]; exact hup hk
  · rw [List.length_append] at hi hj
    simp only [List.length_cons,List.length_nil] at hi hj
    rw [xa7h,xa7h]
    have hm:∀ x,x < gs.length→(gs.getD x (0,0)).1≠p.1:=fun x hx=>hd _ (by rw [List.getD_eq_getElem?_getD,List.getElem?_eq_getElem hx]; exact List.getElem_mem hx)
    by_cases g1:i < gs.length
    · by_cases g2:j < gs.length
      · rw [if_pos g1,if_pos g2]; exact h.dis i j g1 g2 hn
      · rw [if_pos g1,if_neg g2,if_pos (by omega)]; exact hm i g1
    · by_cases g2:j < gs.length
      · rw [if_neg g1,if_pos g2,if_pos (by omega)]; exact fun e=>hm j g2 e.symm
      · omega
theorem SNew.rdS {B:Nat} {w:World} {v:Value} {gs:List (Nat × Nat)} {ss:List Stp} (h:SNew B w v gs ss):RdS w v ss:=by
  have hsl:=xa8r h.len
  obtain ⟨_,len,cap,rfl,hl,hc1,hc2,hcell⟩:=xa2v (rows:=snR ss gs) (by rw [hsl]; exact h.own) xb1c
  rw [hsl] at hl
  subst hl
  have e1:∀ i,i < ss.length→((snR ss gs).map (fun r=>r.getD 1 undef)).getD i undef = .slice (some ⟨(gs.getD i (0,0)).1,0,none⟩) (ss.getD i (0,[])).2.length (gs.getD i (0,0)).2:=fun i hi=>by
    rw [List.getD_eq_getElem?_getD,List.getElem?_map,List.getElem?_eq_getElem (by rw [hsl]; exact hi),Option.map_some,Option.getD_some,snR_at h.len i hi]; rfl
  refine ⟨_,ss.length,cap,(snR ss gs).map (fun r=>r.getD 1 undef),rfl,rfl,hc1,hc2,fun i hi=>?_,fun h0=>?_⟩
  · obtain ⟨h1,h2,⟨zs,h3,h4⟩,h5,h6,h7⟩:=h.kid i hi
    rw [e1 i hi]; exact ⟨h6,p_rddX h3 h7 h5.1 (by omega)⟩
  · obtain ⟨b,off,rfl,hce⟩:=hcell h0
    refine ⟨b,off,rfl,fun i hi=>?_⟩
    have h7:=hce i (by rw [hsl]; exact hi)
    rw [snR_at h.len i hi] at h7
    rw [e1 i hi]
    exact ⟨h7 0 _ rfl,h7 1 _ rfl⟩
theorem SNew.at_ {B:Nat} {w:World} {v:Value} {gs:List (Nat × Nat)} {ss:List Stp} (h:SNew B w v gs ss) {i:Nat} (hi:i < ss.length):∃ g c,v = .slice (some ⟨g,0,none⟩) ss.length c∧B≤g∧w.rangeAt g (i * 2) (stV (ss.getD i (0,[])) (gs.getD i (0,0)))∧∃ cur,w.heap[g]? = some (.cells cur 52 (0,0)):=by
  rcases h.own.2 with ⟨e,h9⟩ | ⟨g,cap,cur,rfl,hg,hh,hc,hm,hsz,ht⟩
  · omega
  · refine ⟨g,cap,rfl,hg,fun j u hu=>?_,?_⟩
    · have h8:=h.own.cells (g:=g) rfl (i * 2 + j) u (xa3p xb1c (show i < (snR ss gs).length by rw [xa8r h.len]; exact hi) (by rw [snR_at h.len i hi]; exact hu))
      rw [Addr.add_lit] at h8
      simpa using h8
    · exact ⟨cur,hh⟩
theorem xa5p {u:Value}:∀ {rows:List (List Value)} (hs:∀ r∈rows,r.length = 2) {i:Nat} (hi:i < rows.length) (a:Value) (ha:rows[i][0]? = some a),rows.flatten.set (i * 2 + 1) u = (rows.set i [a,u]).flatten
  | [],hs,i,hi,a,ha=>by simp at hi
  | r :: rs,hs,0,hi,a,ha=>by
    obtain ⟨x,y,rfl⟩:∃ x y,r = [x,y]:=by
      have:=hs r (by simp)
      match r,this with
      | [x,y],_=>exact ⟨x,y,rfl⟩
    have e:x = a:=by simpa using ha
    subst e
    simp
  | r :: rs,hs,i + 1,hi,a,ha=>by
    obtain ⟨x,y,rfl⟩:∃ x y,r = [x,y]:=by
      have:=hs r (by simp)
      match r,this with
      | [x,y],_=>exact ⟨x,y,rfl⟩
    have ih:=xa5p (u:=u) (fun r hr=>hs r (by simp [hr])) (i:=i) (by simpa using hi) a ha
    rw [List.set_cons_succ,List.flatten_cons,List.flatten_cons,← ih,show (i + 1) * 2 + 1 = (i * 2 + 1) + 1 + 1 by omega]
    rfl
theorem xc0x {ss:List Stp} {gs:List (Nat × Nat)} (h:gs.length = ss.length) (i:Nat) (hi:i < ss.length) (s:Stp):snR (ss.set i s) gs = (snR ss gs).set i (stV s (gs.getD i (0,0))):=by
  apply List.ext_getElem
  · simp [snR]
  · intro j h1 h2
    have hj:j < ss.length:=by simp [snR,h] at h1; omega
    simp only [snR,List.getElem_zipWith,List.getElem_set]
    by_cases e:i = j
    · subst e
      simp [List.getD_eq_getElem?_getD,List.getElem?_eq_getElem (show i < gs.length by omega)]
    · simp [e]
theorem xa7b {α:Type} {l:List α} {i:Nat} {a d:α} (h:i < l.length):(l.set i a).getD i d = a:=by
  rw [List.getD_eq_getElem?_getD,List.getElem?_set_self h,Option.getD_some]
theorem xa6s {α:Type} {l:List α} {i j:Nat} {a d:α} (h:i≠j):(l.set i a).getD j d = l.getD j d:=by
  rw [List.getD_eq_getElem?_getD,List.getElem?_set_ne h,← List.getD_eq_getElem?_getD]
theorem SNew.put {B:Nat} {w w1:World} {v:Value} {gs:List (Nat × Nat)} {ss:List Stp} (h:SNew B w v gs ss) {i:Nat} (hi:i < ss.length) {g c:Nat} (hv:v = .slice (some ⟨g,0,none⟩) ss.length c) {ds:List (List Nat)} (k:Kept [(gs.getD i (0,0)).1] w w1)
    (hk:KidB B w1 v ((ss.getD i (0,[])).1,ds) (gs.getD i (0,0))):SNew B (w1.setCell ⟨g,i * 2 + 1,none⟩ (.slice (some ⟨(gs.getD i (0,0)).1,0,none⟩) ds.length (gs.getD i (0,0)).2)) v gs (ss.set i ((ss.getD i (0,[])).1,ds)):=by
  have hgn:∀ j,j < ss.length→(gs.getD j (0,0)).1≠g:=fun j hj e=>by
    have:=(h.kid j hj).ne
    rw [hv] at this
    exact this (by rw [e]; rfl)
  have hKg:=(Kept.refl [g] w1).setCell (p:=⟨g,i * 2 + 1,none⟩) (Or.inl (by simp)) (.slice (some ⟨(gs.getD i (0,0)).1,0,none⟩) ds.length (gs.getD i (0,0)).2)
  refine ⟨?_,by rw [List.length_set]; exact h.len,fun j hj=>?_,h.dis⟩
  · have ho:=k.owns h.own (fun b hb hm=>hgn i hi (by
      rw [hv] at hb
      have e1:g = b:=Option.some.inj hb
      rw [e1]; exact (List.mem_singleton.1 hm).symm))
    rcases ho.2 with ⟨e,h9⟩ | ⟨g',cap,cur,e,hg,hh,hc,hm,hsz,ht⟩
    · omega
    · have hx:=e
      rw [hv] at hx
      simp only [Value.slice.injEq,Option.some.injEq,Addr.mk.injEq,and_true,true_and] at hx
      obtain ⟨hx1,hx2⟩:=hx
      subst hx1
      subst hx2
      have h1:=heap_setCell_same w1 g (i * 2 + 1) cur _ (.slice (some ⟨(gs.getD i (0,0)).1,0,none⟩) ds.length (gs.getD i (0,0)).2) hh
      have hsl:=xa8r h.len
      have hfl:(snR ss gs).flatten.set (i * 2 + 1) (.slice (some ⟨(gs.getD i (0,0)).1,0,none⟩) ds.length (gs.getD i (0,0)).2) = (snR (ss.set i ((ss.getD i (0,[])).1,ds)) gs).flatten:=by
        rw [xc0x h.len i hi,xa5p xb1c (by rw [hsl]; exact hi) (.int .u16 ((ss.getD i (0,[])).1:Int)) (by rw [snR_at h.len i hi]; rfl)]
        rfl
      refine ⟨?_,Or.inr ⟨g,c,_,by rw [hv,List.length_set],hg,h1,by rw [List.length_set]; exact hc,hm,by rw [Array.size_setIfInBounds]; exact hsz,?_⟩⟩
      · rw [← hfl,List.length_set,ho.1,List.length_set]
      · rw [List.length_set,Array.toList_setIfInBounds,List.take_set,ht,hfl]
  · rw [List.length_set] at hj
    by_cases e:i = j
    · subst e
      rw [xa7b hi]
      exact hk.kept hKg (fun hm=>hgn i hi (List.mem_singleton.1 hm))
    · rw [xa6s e]
      refine ((h.kid j hj).kept k ?_).kept hKg (fun hm=>hgn j hj (List.mem_singleton.1 hm))
      simp only [List.mem_singleton]
      exact h.dis j i (by have:=h.len; omega) (by have:=h.len; omega) (fun e2=>e e2.symm)
end
section
open Go Go.RowKit Go.BigFrame

end
section
open Go.RowKit Go.BigFrame

end

section
open Go.RowKit Go.BigFrame


end
section
open Go Go.RowKit Go.BigFrame
section
variable {P:Program} {Q:Exit→Act→World→Prop} {S:World→Prop}
end

end
section
open Go.RowKit Go.BigFrame










theorem xa3h {P:Program} (w:World) (g off:Nat) (t ty:TypeId) (cur:Array Value) (v:Value) (hg:w.heap[g]? = some (.cells cur t (0,0))) (ho:off + 1≤cur.size) (hi:(P.info? ty).map (·.size) = some 1)
    (h1:v.oneCell' = true):(storeVar ty ⟨g,off,none⟩ v).run P w = .ok () (w.setRow g (cur.toList.take off++[v]++cur.toList.drop (off + 1)).toArray):=by
  have:=run_storeCells_at (P:=P) g off t [v] 0 cur w hg (by simpa using ho) (fun x hx=>by simp at hx; subst hx; exact h1)
  have hc:v.cells = #[v]:=by cases v <;> first | rfl | cases h1
  cases hq:P.info? ty with
  | none=>simp [hq] at hi
  | some i =>
    have hs:i.size = 1:=by simpa [hq] using hi
    simp only [Nat.add_zero] at this
    simp [storeVar,sizeOf,typeInfo,hq,hc,hs,this]
abbrev iv (n:Nat):Value:=.int .i64 (n:Int)

end
section
open Go
section
variable {P:Program} {ops:Array Oper} {Q:Exit→Act→World→Prop} {md:Region.Mode} {S:Array Bool→World→Prop}
def AnyL (P:Program) (md:Region.Mode) (ops:Array Oper) (Q:Exit→Act→World→Prop) (S:Array Bool→World→Prop):Nat→Array Bool→Act→World→Prop
  | 0,d,a,w=>Region.ready md ops d = []∧Q .normal a w
  | g + 1,d,a,w=>(Region.ready md ops d = []→Q .normal a w)∧∀ i∈Region.ready md ops d,wpOp P ops Q i (fun a' w'=>S (d.setIfInBounds i true) w'∧AnyL P md ops Q S g (d.setIfInBounds i true) a' w') a w
theorem AnyL.any:∀ (g:Nat) (d:Array Bool) (a:Act) (w:World),AnyL P md ops Q S g d a w→wpAny P md ops Q g d a w
  | 0,_,_,_,h=>h
  | g + 1,_,_,_,h=>⟨h.1,fun i hi=>wpOp_mono (fun a' w' h'=>AnyL.any g _ a' w' h'.2) (h.2 i hi)⟩
theorem AnyL.first {i t:Nat} {oi ot:Oper} {v:Value} {T:World→Prop} (hi:ops[i]? = some oi) (ht:ops[t]? = some ot) (hit:t≠i) (hb:∃ e∈ot.after,Region.binds md e = true∧e.on = i)
    (hsel:∀ (j:Nat) (o:Oper) cs b,ops[j]? = some o→o.op≠.select cs b) (hQ:∀ c a w,Q (.panic c) (a.put oi.dst v) w→Q (.panic c) a w)
    (hST:∀ d w,S d w→d.getD t true = false→T w) (hSi:∀ d w,S (d.setIfInBounds i true) w↔S d w) :
    ∀ (g:Nat) (d:Array Bool) (a:Act) (w:World),
      (∀ j oj,ops[j]? = some oj→j≠i→d.getD j true = false→(∀ e∈oj.after,Region.binds md e = true→e.on≠i)→oi.apart ops oj = true) →
      i∈Region.ready md ops d→YieldsIf P ops T oi v a→d.getD t true = false→S d w →
      AnyL P md ops Q S g (d.setIfInBounds i true) (a.put oi.dst v) w→AnyL P md ops Q S (g + 1) d a w:=by
  intro g
  induction g with
  | zero =>
    intro d a w _ hr hy hdt hS H
    refine ⟨fun h=>(by rw [h] at hr; cases hr),fun j hj=>?_⟩
    by_cases hji:j = i
    · subst hji; exact hy.wpOp hi (hST d w hS hdt) ⟨(hSi d w).2 hS,H⟩
    · have:=ready_mono hj hji
      rw [H.1] at this
      cases this
  | succ g ih =>
    intro d a w hfree hr hy hdt hS H
    refine ⟨fun h=>(by rw [h] at hr; cases hr),fun j hj=>?_⟩
    by_cases hji:j = i
    · subst hji; exact hy.wpOp hi (hST d w hS hdt) ⟨(hSi d w).2 hS,H⟩
    · have h1:=H.2 j (ready_mono hj hji)
      obtain ⟨hjun,oj,hoj,hall⟩:=mem_ready.1 hj
      have hnot:∀ e∈oj.after,Region.binds md e = true→e.on≠i:=fun e he hb heq=>by
        have h1:=hall e he hb
        have h0:=(mem_ready.1 hr).1
        rw [heq] at h1
        rcases Nat.lt_or_ge i d.size with h' | h'
        · simp [h'] at h0 h1; rw [h0] at h1; cases h1
        · simp [Array.getElem?_eq_none h'] at h1
      have hjt:j≠t:=fun e9=>by
        subst e9
        rw [ht] at hoj
        injection hoj with hoj
        obtain ⟨e,he,hb1,hb2⟩:=hb
        exact hnot e (by rw [← hoj]; exact he) hb1 hb2
      have h2:=wpOp_putIf hoj (hfree j oj hoj hji hjun hnot) (fun cs b=>hsel i oi cs b hi) (fun cs b=>hsel j oj cs b hoj) hQ hy h1
      refine wpOp_mono (fun a' w' h3=>?_) h2
      have hc:=Array.setIfInBounds_comm (xs:=d) true true hji
      have hS':S (d.setIfInBounds j true) w':=(hSi _ w').1 (by rw [hc]; exact h3.2.1)
      refine ⟨hS',ih (d.setIfInBounds j true) a' w' (fun k ok hk hki hun hno=>?_) (ready_mono hr (Ne.symm hji)) h3.1 ?_ hS' ?_⟩
      · refine hfree k ok hk hki ?_ hno
        by_cases hjk:j = k
        · subst hjk; exact hjun
        · rw [getD_set_ne true hjk] at hun; exact hun
      · rw [getD_set_ne true hjt]; exact hdt
      · rw [hc]; exact h3.2.2
theorem AnyL.take {i t:Nat} {oi ot:Oper} {v:Value} {T:World→Prop} {g:Nat} {d:Array Bool} {a:Act} {w:World} (hi:ops[i]? = some oi) (ht:ops[t]? = some ot) (hit:t≠i) (hs:Region.noSelect ops = true) (hf:Region.free md ops d i = true)
    (hr:(Region.ready md ops d).contains i = true) (hb:ot.after.any (fun e=>Region.binds md e && e.on == i) = true) (hQ:∀ c a w,Q (.panic c) (a.put oi.dst v) w→Q (.panic c) a w)
    (hST:∀ d w,S d w→d.getD t true = false→T w) (hSi:∀ d w,S (d.setIfInBounds i true) w↔S d w) (hy:YieldsIf P ops T oi v a) (hd:d.getD t true = false) (hS:S d w)
    (h:AnyL P md ops Q S g (d.setIfInBounds i true) (a.put oi.dst v) w):AnyL P md ops Q S (g + 1) d a w:=by
  refine AnyL.first hi ht hit ?_ (Region.noSelect_spec hs) hQ hST hSi g d a w (Region.free_spec hi hf) (by simpa using hr) hy hd hS h
  obtain ⟨e,he,h9⟩:=Array.any_eq_true'.1 hb
  simp only [Bool.and_eq_true,beq_iff_eq] at h9
  exact ⟨e,he,h9⟩
theorem AnyL.forced {i:Nat} {o:Oper} {g:Nat} {d:Array Bool} {a:Act} {w:World} (hr:Region.ready md ops d = [i]) (ho:ops[i]? = some o) (hg:o.guard = none)
    (h:∀ K:Act→World→Prop,(∀ a' w',S (d.setIfInBounds i true) w'→AnyL P md ops Q S g (d.setIfInBounds i true) a' w'→K a' w')→o.wp P a w K Q):AnyL P md ops Q S (g + 1) d a w:=by
  refine ⟨fun h0=>(by rw [hr] at h0; cases h0),fun j hj=>?_⟩
  rw [hr] at hj
  obtain rfl:j = i:=by simpa using hj
  refine wpOp_step ho (fun K' hK=>?_)
  rw [if_pos (by unfold Region.wanted; rw [hg])]
  exact h K' (fun a' w' h1 h2=>hK a' w' ⟨h1,h2⟩)
end
section
variable {P:Program} {Q:Exit→Act→World→Prop}
end
end
section
open Go Go.RowKit Go.BigFrame
section
variable {P:Program} {Q:Exit→Act→World→Prop} {T:World→Prop}
def linRT (O:Array Oper) (t:Nat):List Nat→Array Bool→Bool
  | [],_=>true
  | i :: r,d=>(Region.free .any O d i && (Region.ready .any O d).contains i) && ((match O[t]? with | some ot=>ot.after.any (fun e=>Region.binds .any e && e.on == i) | none=>false) && (decide (t≠i) && (decide (d.getD t true = false) && linRT O t r (d.setIfInBounds i true))))
def lateS (T:World→Prop) (t:Nat):Array Bool→World→Prop:=fun d w=>d.getD t true = false→T w
theorem xb8v {t i:Nat} (h:t≠i) (d:Array Bool) (w:World):lateS T t (d.setIfInBounds i true) w↔lateS T t d w:=by
  unfold lateS
  rw [getD_set_ne true (fun e=>h e.symm)]
theorem xb4g (t:Nat) (d:Array Bool) (w:World):lateS T t (d.setIfInBounds t true) w:=fun h=>by
  exfalso
  by_cases hd:t < d.size
  · simp [Array.getD,hd] at h
  · simp [Array.getD,hd] at h
theorem xa6g {O:Array Oper} {F:Act→World→Prop} {m t:Nat} {ot:Oper} {D:Array Bool} (ht:O[t]? = some ot) (hs:Region.noSelect O = true) (hF:∀ a w,F a w→AnyL P .any O (NoPanic Q) (lateS T t) m D a w) :
    ∀ (R:List Nat) (rs:List Oper) (d:Array Bool) (a:Act) (w:World),R.map (O[·]?) = rs.map some→(∀ o∈rs,o.guard = none)→linRT O t R d = true→linD R d = D→T w→LinY P T F rs a w→AnyL P .any O (NoPanic Q) (lateS T t) (R.length + m) d a w
  | [],[],d,a,w,_,_,_,hc,_,h=>by rw [List.length_nil,Nat.zero_add]; have e:d = D:=hc; rw [e]; exact hF a w h
  | [],_ :: _,_,_,_,he,_,_,_,_,_=>by simp at he
  | i :: R,[],_,_,_,he,_,_,_,_,_=>by simp at he
  | i :: R,o :: rs,d,a,w,he,hg,hr,hc,hS,h=>by
    simp only [List.map_cons,List.cons.injEq] at he
    simp only [linRT,ht,Bool.and_eq_true,decide_eq_true_eq] at hr
    obtain ⟨v,hv,h2⟩:=h
    have hw:∀ y,Region.wanted o y = true:=fun y=>by unfold Region.wanted; rw [hg o (by simp)]
    rw [List.length_cons,show R.length + 1 + m = (R.length + m) + 1 by omega]
    refine AnyL.take (i:=i) (t:=t) (oi:=o) (ot:=ot) (T:=T) he.1 ht hr.2.2.1 hs hr.1.1 hr.1.2 hr.2.1 (fun _ _ _ h=>h) (fun d w h9 hd=>h9 hd) (fun d w=>xb8v hr.2.2.1 d w) (Or.inl ⟨hw _,hv⟩) hr.2.2.2.1 (fun _=>hS) ?_
    exact xa6g ht hs hF R rs _ _ w he.2 (fun x hx=>hg x (by simp [hx])) hr.2.2.2.2 hc hS h2
theorem xa6v {O:Array Oper} {F:Act→World→Prop} {m t:Nat} {D:Array Bool} (hF:∀ a w,F a w→AnyL P .any O (NoPanic Q) (lateS T t) m D a w):∀ (C:List Nat) (cs:List Oper) (d:Array Bool) (a:Act) (w:World),C.map (O[·]?) = cs.map some→(∀ o∈cs,o.guard = none)→linC O C d = true→linD C d = D→ChL P Q T F cs a w→AnyL P .any O (NoPanic Q) (lateS T t) (C.length + m) d a w
  | [],[],d,a,w,_,_,_,hD,h=>by rw [List.length_nil,Nat.zero_add]; have e:d = D:=hD; rw [e]; exact hF a w h
  | [],_ :: _,_,_,_,he,_,_,_,_=>by simp at he
  | i :: C,[],_,_,_,he,_,_,_,_=>by simp at he
  | i :: C,o :: cs,d,a,w,he,hg,hb,hD,h=>by
    simp only [List.map_cons,List.cons.injEq] at he
    simp only [linC,Bool.and_eq_true,decide_eq_true_eq] at hb
    rw [List.length_cons,show C.length + 1 + m = (C.length + m) + 1 by omega]
    refine AnyL.forced hb.1 he.1 (hg o (by simp)) (fun K hK=>?_)
    exact Oper.wp_mono (fun a' w' h2=>hK a' w' (fun _=>h2.1) (xa6v hF C cs _ a' w' he.2 (fun x hx=>hg x (by simp [hx])) hb.2 hD h2.2)) h
def linBT (O:Array Oper) (R C:List Nat) (t:Nat):Bool :=
  (Region.noSelect O && decide (O.size = R.length + (C.length + 1))) && (linRT O t R (linS O) && (linC O C (linD R (linS O)) && (decide (Region.ready .any O (linD C (linD R (linS O))) = [t]) && decide (Region.ready .any O ((linD C (linD R (linS O))).setIfInBounds t true) = []))))
theorem xb1q {id:Nat} {O:Array Oper} {a:Act} {w:World} {R C:List Nat} {t:Nat} {rs cs:List Oper} {ot:Oper} (hm:P.follows .mixedOrders = true) (hb:linBT O R C t = true) (hR:R.map (O[·]?) = rs.map some) (hC:C.map (O[·]?) = cs.map some) (ht:O[t]? = some ot) (hg:(rs++(cs++[ot])).all (fun o=>o.guard.isNone) = true)
    (hT:T w.drew) (h:LinY P T (ChL P Q T (fun a w=>ot.wp P a w (Q .normal) (NoPanic Q)) cs) rs a w.drew):(Code.region id O true).wp P Q a w:=by
  unfold linBT at hb
  simp only [Bool.and_eq_true,decide_eq_true_eq] at hb
  obtain ⟨⟨b1,b2⟩,b3,b4,b5,b6⟩:=hb
  rw [List.all_append,List.all_append,Bool.and_eq_true,Bool.and_eq_true,List.all_eq_true,List.all_eq_true,List.all_eq_true] at hg
  refine wp_region_noPanic ?_
  refine wp_region_any hm ?_
  refine AnyL.any (S:=lateS T t) _ _ _ _ ?_
  rw [b2]
  have h3:∀ a w,ot.wp P a w (Q .normal) (NoPanic Q)→AnyL P .any O (NoPanic Q) (lateS T t) 1 (linD C (linD R (linS O))) a w:=fun a w h=>by
    refine AnyL.forced b5 ht (by simpa using hg.2.2 ot (by simp)) (fun K hK=>?_)
    exact Oper.wp_mono (fun a' w' h2=>hK a' w' (xb4g t _ w') ⟨b6,NoPanic.normal h2⟩) h
  have h2:=fun a w h=>xa6v (P:=P) (Q:=Q) (T:=T) (t:=t) h3 C cs (linD R (linS O)) a w hC (fun o ho=>by simpa using hg.2.1 o ho) b4 rfl h
  have:=xa6g (P:=P) (Q:=Q) (T:=T) ht b1 h2 R rs (linS O) a w.drew hR (fun o ho=>by simpa using hg.1 o ho) b3 rfl hT h
  unfold linS at this
  rw [b2] at this
  exact this
end

end
section
open Go.RowKit Go.BigFrame
theorem xa3f {P:Program} {o:Oper} {a:Act} {w:World} {K:Act→World→Prop} {Q:Exit→Act→World→Prop} (ty:TypeId) (x y:Operand) (ho:o.op = .store ty x y) (g off:Nat) (t:TypeId) (cur cur':Array Value) (v:Value) (hx:a.eval x = .pointer (some ⟨g,off,none⟩)) (hy:a.eval y = v)
    (hg:w.heap[g]? = some (.cells cur t (0,0))) (hoff:off + 1≤cur.size) (hi:(P.info? ty).map (·.size) = some 1) (h1:v.oneCell' = true) (hc:(cur.toList.take off++[v]++cur.toList.drop (off + 1)).toArray = cur') (h:K (a.put o.dst undef) (w.setRow g cur')):o.wp P a w K Q:=by
  subst hc
  unfold Oper.wp execOp
  simp only [ho,hx,hy,Instr.storeAt,Instr.sureAddr,Sem.run_bind,Sem.run_pure,Result.andThen_ok,xa3h w g off t ty cur v hg hoff hi h1]
  exact h
end
section
open Go Go.RowKit Go.BigFrame
section
variable {P:Program} {Q:Exit→Act→World→Prop} {S:World→Prop}
end
theorem lp_de {P:Program} {Q:Exit→Act→World→Prop} {id:Nat} {o0 o1 o2 o3 o4 o5 o6 o7:Oper} {a:Act} {w:World} (hm:P.follows .mixedOrders = true) (hb:linB #[o0,o1,o2,o3,o4,o5,o6,o7] [0,1,2,3,4,5] [6,7] [] = true) (hg:([o0,o1,o2,o3,o4,o5]++([o6,o7]++[])).all (fun o=>o.guard.isNone) = true) (S:World→Prop) (hS:S w.drew)
    (h:LinY P S (ChL P Q S (Q .normal) [o6,o7]) [o0,o1,o2,o3,o4,o5] a w.drew):(Code.region id #[o0,o1,o2,o3,o4,o5,o6,o7] true).wp P Q a w:=xa0y (R:=[0,1,2,3,4,5]) (C:=[6,7]) (rs:=[o0,o1,o2,o3,o4,o5]) (cs:=[o6,o7]) hm hb rfl rfl hg hS h
end
section
open Go.RowKit Go.BigFrame
theorem xb5f {ops:Array Oper} {rest:List Oper} {o:Oper} {a:Act} {w:World} {Q:Exit→Act→World→Prop} (hw:Region.wanted o (yielded ops a.tmps) = true) (ty:TypeId) (x y:Operand) (ho:o.op = .store ty x y) (g off:Nat) (t:TypeId) (cur cur':Array Value) (v:Value) (hx:a.eval x = .pointer (some ⟨g,off,none⟩)) (hy:a.eval y = v)
    (hg:w.heap[g]? = some (.cells cur t (0,0))) (hoff:off + 1≤cur.size) (hi:(Tryz.prog.info? ty).map (·.size) = some 1) (h1:v.oneCell' = true) (hc:(cur.toList.take off++[v]++cur.toList.drop (off + 1)).toArray = cur') (h:wpList Tryz.prog ops Q rest (a.put o.dst undef) (w.setRow g cur')):wpList Tryz.prog ops Q (o :: rest) a w :=
  wpList_want hw fun _ hK=>xa3f ty x y ho g off t cur cur' v hx hy hg hoff hi h1 hc (hK _ _ h)



theorem SNew.base {B C:Nat} {w:World} {v:Value} {gs:List (Nat × Nat)} {ss:List Stp} (h:SNew B w v gs ss) (hc:C≤B):SNew C w v gs ss:=by
  refine ⟨⟨h.own.1,?_⟩,h.len,fun i hi=>?_,h.dis⟩
  · rcases h.own.2 with h1 | ⟨g,cap,cur,h1,h2,h3⟩
    · exact Or.inl h1
    · exact Or.inr ⟨g,cap,cur,h1,Nat.le_trans hc h2,h3⟩
  · exact { h.kid i hi with new:=Nat.le_trans hc (h.kid i hi).new }
theorem SNew.lts {B:Nat} {w:World} {v:Value} {gs:List (Nat × Nat)} {ss:List Stp} (h:SNew B w v gs ss):(∀ p∈gs,p.1 < w.heap.size)∧∀ b,v.ownBlock = some b→b < w.heap.size:=by
  refine ⟨fun p hp=>?_,fun b hb=>(h.own.lt b hb).2⟩
  obtain ⟨j,hj,rfl⟩:=List.getElem_of_mem hp
  have h8:=(h.kid j (by have:=h.len; omega)).lt
  rw [List.getD_eq_getElem?_getD,List.getElem?_eq_getElem hj,Option.getD_some] at h8
  exact h8
theorem LayAt.far {C:Nat} {w w':World} {v:Value} {l:List VP} {L:Prs} {M:List Nat} (h:LayAt C w v l L) (k:Kept M w w') (hM:∀ x∈M,x < C):LayAt C w' v l L :=
  ⟨k.owns h.own (fun b hb hm=>by have h1:=(h.own.lt b hb).1; have h2:=hM b hm; omega),h.pr.agr ⟨k.size,fun x hx hl=>k.block x hl (fun hm=>by have h1:=hM x hm; have h2:=hx.1; omega)⟩⟩
structure SLP (B:Nat) (w:World) (sv pv:Value) (gs:List (Nat × Nat)) (ss:List Stp) (E:Prs) (C:Nat) (l:List VP):Prop where
  st:SNew B w sv gs ss
  ly:LayAt C w pv l E
  lo:(∀ p∈gs,p.1 < C)∧∀ b,sv.ownBlock = some b→b < C
  bc:B≤C
theorem SLP.kept {B:Nat} {w w':World} {sv pv:Value} {gs:List (Nat × Nat)} {ss:List Stp} {E:Prs} {C:Nat} {l:List VP} (h:SLP B w sv pv gs ss E C l) (k:Kept [] w w'):SLP B w' sv pv gs ss E C l:=⟨h.st.kept k,h.ly.agr k,h.lo,h.bc⟩
theorem SLP.far {B:Nat} {w w':World} {sv pv:Value} {gs:List (Nat × Nat)} {ss:List Stp} {E:Prs} {C:Nat} {l:List VP} {M:List Nat} (h:SLP B w sv pv gs ss E C l) (k:Kept M w w') (hM:∀ x∈M,x < B):SLP B w' sv pv gs ss E C l :=
  ⟨⟨k.owns h.st.own (fun b hb hm=>by have h1:=(h.st.own.lt b hb).1; have h2:=hM b hm; omega),h.st.len,fun i hi=>(h.st.kid i hi).kept k (fun hm=>by have h1:=(h.st.kid i hi).new; have h2:=hM _ hm; omega),h.st.dis⟩,h.ly.far k (fun x hx=>Nat.lt_of_lt_of_le (hM x hx) h.bc),h.lo,h.bc⟩
theorem SLP.base {B B':Nat} {w:World} {sv pv:Value} {gs:List (Nat × Nat)} {ss:List Stp} {E:Prs} {C:Nat} {l:List VP} (h:SLP B w sv pv gs ss E C l) (hb:B'≤B):SLP B' w sv pv gs ss E C l:=⟨h.st.base hb,h.ly,h.lo,Nat.le_trans hb h.bc⟩
def WalkN (k B:Nat) (w:World) (q:List Nat) (L:Prs) (sv pv:Value):Prop:=∃ m gs C l,SLP B w sv pv gs ((List.range m).map (stp k q L)) (dnL (hsZ k) q L m) C l∧WayM k q L m∧∀ i,i < m→(gs.getD i (0,0)).2 = (stp k q L i).2.length
set_option maxHeartbeats 4000000 in
theorem xb4e (S:Nat→Prop) (k:Nat) (mv kv:Value) (L:Prs) (q:List Nat) (w:World) (hM:MapAt S k w mv L) (hku:Rd w kv q) (hq:q.length≤64) (hT:Tabs w) :
    Calls Tryz.prog 18 #[mv,kv] w fun e w'=>∃ sv pv,e = .returned (.tuple #[sv,pv,.int .i64 0])∧WalkN k w.heap.size w' q L sv pv∧Kept [] w w':=by
  have HM:=hide hM
  obtain ⟨hk,hs,hfit,hlen,g,tv,rfl,hSg,hh,htop⟩:=hM
  have hH:=hsZ_ok hk
  have HKU:=hide hku
  have HTb:=hide hT
  have HSr:=hide hs
  clear hh htop hT hs hku hfit hSg
  go_enter Tryz.func18,Tryz.ntmps18
  go_wp2_with fail
  refine Calls.mono (xa2z S k _ kv L q w (uh HM) (uh HKU) hq (uh HTb)) ?_
  rintro e w1 ⟨m,cr,en,pl,fd,rfl,hway,k1⟩
  have hon:=hway.cells
  have HWay:=hide hway
  have hDl:((hsZ k).kd q).length = 32:=(hH.dg q).1
  obtain ⟨D,hD⟩:∃ D,(hsZ k).kd q = D:=⟨_,rfl⟩
  rw [hD] at hDl ⊢
  clear hD hway
  have hws:((wayC k D cr en pl fd).toArray).size = 37:=by rw [List.size_toArray,xa0v hDl]
  have HZ1:=hide (heap_alloc_new w1 (.cells zwy 102))
  have HN2:=hide (setRow_heap _ _ _ (wayC k D cr en pl fd).toArray _ _ (uh HZ1))
  have HK12:=hide ((Kept.refl [] w1).alloc (.cells zwy 102) |>.setRow (g:=w1.heap.size) (Or.inr (Nat.le_refl _)) (wayC k D cr en pl fd).toArray)
  have HK2:=hide (k1.trans (uh HK12) (by simp))
  clear k1
  obtain ⟨W2,hW2⟩:∃ W2,(w1.alloc (.cells zwy 102)).setRow w1.heap.size (wayC k D cr en pl fd).toArray = W2:=⟨_,rfl⟩
  rw [hW2] at HN2 HK12 HK2
  obtain ⟨⟨gs,hgl,hrd,htr⟩,hend,hdeep⟩:=(uh HWay).old (uh HK12)
  obtain ⟨ao,c,b,off,rfl,hc1,hc2,hao,hcell⟩:=xb1h hrd
  rw [hgl] at hc1 hao hcell hon hws HN2 hW2 ⊢
  obtain ⟨cw0,cw1,cw2,cw3,cw4,cw5⟩:=xa0m (uh HN2) hDl
  have HC:=hide hcell
  have HTR:=hide htr
  have HEn:=hide hend
  have HAO:=hide hao
  have HW3:=hide cw3
  have hL0:=hide (SNew.nil W2.heap.size W2)
  have hKa:=hide (Kept.refl [] W2)
  clear cw0 cw1 cw3 cw4 cw5 hcell htr hrd hend hao HWay
  go_wp2_with (rw [xa3e]; refine wpList_store_row rfl 102 (.tmp 7) (.tmp 16) rfl w1.heap.size (wayC k D (.slice ao m c) en pl fd).toArray rfl rfl _ zwy (uh HZ1) (by rw [hws]; exact Tryz.size_way) (by rw [hws]; rfl) (xa1m _ _ hon.1 hon.2) ?_; rw [hW2]; simp only [Act.put])
  go_loopw [9,24] (fun t9 t24 wr=>∃ (i:Nat) (v:Value) (gz:List (Nat × Nat)),t24 = .int .i64 i∧t9 = v∧i≤m∧Hid (SNew W2.heap.size wr v gz ((List.range i).map (stp k q L)))∧Hid (∀ j,j < i→(gz.getD j (0,0)).2 = (stp k q L j).2.length)∧Hid (Kept [] W2 wr)) (fun _ t _=>m - (intOf t).toNat)
  case atStart=>exact ⟨0,_,[],rfl,rfl,Nat.zero_le _,hL0,hide (fun j hj=>by omega),hKa⟩
  case round =>
    clear hL0 hKa cw2
    obtain ⟨i,v,gz,rfl,rfl,hi,HSL,HCP,HKr⟩:=hrel
    by_cases hlt:i < m
    · have hlt':(i:Int) < m:=by omega
      have haod:=uh HAO (by omega)
      subst haod
      have hx1:=(uh HKr).cell (uh HC i hlt) (by simp)
      obtain ⟨ht,hsg⟩:=uh HTR i hlt
      generalize gs.getD i 0 = gi at hx1 ht
      obtain ⟨f,hf⟩:∃ f,64 - i = f + 1:=⟨63 - i,by omega⟩
      have hfi:63 - f = i:=by omega
      have hif:63 - i = f:=by omega
      rw [hf] at ht
      obtain ⟨g',kvv,vs,e,hSg,hh,hrow,hle,hkd⟩:=ht.2 hsg
      have eg:g' = gi:=by injection e with _ e2; injection e2 with e3; injection e3 with e4; injection e4 with e5; exact e5.symm
      subst eg
      rw [hfi] at hh hle hkd
      obtain ⟨b0,b1,_⟩:=br_row hh
      have hst:stp k q L i = (bm (hsZ k) i (dnL (hsZ k) q L i),(kidsL (hsZ k) i (dnL (hsZ k) q L i)).map (nodP (hsZ k) f)):=by unfold stp; rw [hif]
      have hbl:=bm_lt (hsZ k) i (dnL (hsZ k) q L i)
      have hkp:=(xa2t hH (d:=i) ht.ne).1
      have hkl:=xa1f (hsZ k) i (dnL (hsZ k) q L i)
      have hkc:=cnt_le (bm (hsZ k) i (dnL (hsZ k) q L i)) 16
      have hdg:∀ d∈(kidsL (hsZ k) i (dnL (hsZ k) q L i)).map (nodP (hsZ k) f),Dg d:=fun d hd=>by
        obtain ⟨K,_,rfl⟩:=List.mem_map.1 hd
        exact nod_dg k f K
      rw [← hkl] at hkc
      have HSt:=hide hst
      generalize bm (hsZ k) i (dnL (hsZ k) q L i) = x at b0 hbl hst HSt
      generalize kidsL (hsZ k) i (dnL (hsZ k) q L i) = Ks at hle hkd hkp hkc hdg hst HSt
      have hrow':=hrow.agr (Agr.nil (uh HKr))
      have HRow:=hide hrow'
      have hkd':=hide (fun j (hj:j < vs.length)=>(hkd j hj).agr (Agr.nil (uh HKr)))
      obtain ⟨b2,off2,cap2,rfl,_⟩:=hrow
      have HB0:=hide ((uh HKr).cell b0 (by simp))
      have HB1:=hide ((uh HKr).cell b1 (by simp))
      obtain ⟨SS,hSS⟩:∃ SS,(List.range i).map (stp k q L) = SS:=⟨_,rfl⟩
      rw [hSS] at HSL
      have HSS:=hide hSS
      obtain ⟨vo,vc,rfl⟩:=xa0k (uh HSL).own
      have hown:∀ y,(Value.slice vo SS.length vc).ownBlock = some y→W2.heap.size≤y∧y < wr.heap.size:=fun y hy=>(uh HSL).own.lt y hy
      have hgs:=lt_of_block hh
      have HSLn:=hide (show SS.length≤64 by rw [← hSS]; simp; omega)
      have HGL:=hide (fun (p:Nat × Nat) (hp:p∈gz)=>by
        obtain ⟨j,hj,rfl⟩:=List.getElem_of_mem hp
        have h8:=((uh HSL).kid j (by have:=(uh HSL).len; omega)).lt
        rw [List.getD_eq_getElem?_getD,List.getElem?_eq_getElem hj,Option.getD_some] at h8
        exact h8:∀ p∈gz,p.1 < wr.heap.size)
      obtain ⟨OB,hOB⟩:∃ OB,(Value.slice vo SS.length vc).ownBlock = OB:=⟨_,rfl⟩
      rw [hOB] at hown
      have hno:g'∉OB.toList:=by
        intro hm
        have:=hown g' (by simpa using hm)
        omega
      clear hh hkd b0 b1 hst ht hsg e hSS hrow'
      go_upto_region 8 with fail
      refine ln_wa (by kernel_rfl) (by kernel_rfl) rfl (fun W=>Kept OB.toList wr W) (Kept.refl _ wr).drew ?_
      refine LinY.mv (x:=.tmp 9) rfl (.slice vo SS.length vc) rfl (by simp only [Act.put,sa1,sa2,sa3]; rfl) ?_
      refine LinY.mv (x:=.tmp 11) rfl (.pointer (some ⟨g',0,none⟩)) rfl (by simp only [Act.put,sa1,sa2,sa3]; rfl) ?_
      refine LinY.rd (.pointer (some ⟨g',0,none⟩)) (fun W hW=>by go_simp) (by simp only [Act.put,sa1,sa2,sa3]; rfl) ?_
      refine LinY.rd (.pointer (some ⟨g',0,none⟩)) (fun W hW=>by go_simp) (by simp only [Act.put,sa1,sa2,sa3]; rfl) ?_
      refine LinY.rd (.int .u16 x) (fun W hW=>by have h9:=hW.cell (uh HB0) hno; go_simp) (by simp only [Act.put,sa1,sa2,sa3]; rfl) ?_
      refine LinY.mv (x:=.tmp 11) rfl (.pointer (some ⟨g',0,none⟩)) rfl (by simp only [Act.put,sa1,sa2,sa3]; rfl) ?_
      refine LinY.rd (.pointer (some ⟨g',0,none⟩)) (fun W hW=>by go_simp) (by simp only [Act.put,sa1,sa2,sa3]; rfl) ?_
      refine LinY.rd (.pointer (some ⟨g',1,none⟩)) (fun W hW=>by go_simp) (by simp only [Act.put,sa1,sa2,sa3]; rfl) ?_
      refine LinY.rd (.slice (some ⟨b2,off2,none⟩) vs.length cap2) (fun W hW=>by have h9:=hW.cell (uh HB1) hno; go_simp) (by simp only [Act.put,sa1,sa2,sa3]; rfl) ?_
      have hd2:=(Kept.refl [] wr).drew
      refine ChL.call rfl Tryz.call56 [.slice (some ⟨b2,off2,none⟩) vs.length cap2] rfl (xa9o S k f _ vs Ks wr.drew ((uh HRow).agr (Agr.nil hd2)) hle (by omega) (fun j hj=>(uh hkd' j hj).agr (Agr.nil hd2))) ?_
      rintro e w4 ⟨g4,n4,rfl,hn4,hg4,hh4,k4⟩
      have hk4:=hd2.trans k4 (by simp)
      refine ⟨_,rfl,hk4.mono (by simp),?_⟩
      simp only [Act.put,sa1,sa2,sa3]
      have hn5:n4 = (Ks.map (nodP (hsZ k) f)).length:=by rw [List.length_map,hn4,hle]
      have hrdd:=xb6e hh4 hdg (by rw [← hn5]; omega)
      rw [← hn5] at hrdd
      refine ChL.op (.agg #[.int .u16 x,.slice (some ⟨g4,0,none⟩) n4 n4]) (xb4q w4 ⟨rfl,rfl,rfl⟩) (hk4.mono (by simp)) (by simp only [Act.put,sa1,sa2,sa3]; rfl) ?_
      have hka:=(Kept.refl [] w4).alloc (.cells #[.int .u16 x,.slice (some ⟨g4,0,none⟩) n4 n4] 52)
      have hk6:=hk4.trans hka (by simp)
      refine ChL.op (.slice (some ⟨w4.heap.size,0,none⟩) 1 1) (xb3p w4 (.tmp 38) rfl x _ rfl) (hk6.mono (by simp)) (by simp only [Act.put,sa1,sa2,sa3]; rfl) ?_
      have hrl:RdC 2 (w4.alloc (.cells #[.int .u16 x,.slice (some ⟨g4,0,none⟩) n4 n4] 52)) (.slice (some ⟨w4.heap.size,0,none⟩) 1 1) (stR [(x,.slice (some ⟨g4,0,none⟩) n4 n4)]):=⟨_,1,1,rfl,rfl,Nat.le_refl _,by omega,fun _=>⟨w4.heap.size,0,rfl,fun j hj=>by
          have h0:j = 0:=by simp [stR] at hj; omega
          subst h0
          exact xa0j [] [.int .u16 x,.slice (some ⟨g4,0,none⟩) n4 n4] [] (heap_alloc_new w4 _) rfl⟩⟩
      have hly:=(uh HSL).kept hk6
      have hk06:=(uh HKr).trans hk6 (by simp)
      refine ChL.app 45 52 (.tmp 28) (.tmp 39) rfl rfl _ W2.heap.size (.agg #[.int .u16 0,.slice none 0 0]) 2 32 Tryz.underlying45 Tryz.infoSt rfl (by decide) (.slice vo SS.length vc) SS.length (snR SS gz).flatten hly.own (some ⟨w4.heap.size,0,none⟩) 1 1 (stR [(x,.slice (some ⟨g4,0,none⟩) n4 n4)]) hrl (by intro r hr; simp [stR] at hr; rw [hr]; rfl) (by intro r hr u hu; simp [stR] at hr; rw [hr] at hu; simp at hu; rcases hu with rfl | rfl <;> rfl) (by have:=uh HSLn; omega) (by have:=uh HSLn; omega) hk06.size rfl rfl ?_
      intro ao7 c7 w7 HO7 HG7 HA7
      have hg7:=uh HG7
      rw [hOB] at hg7
      have hk7:=(Kept.refl OB.toList _).grown hg7 (by intro x hx; left; simp [hx])
      have hk27:=(hk6.mono (M:=OB.toList) (by simp)).trans hk7 (fun x hx=>Or.inl hx)
      refine ⟨hk27,?_⟩
      simp only [Act.put,sa1,sa2,sa3]
      refine ChL.op (.slice ao7 (SS.length + 1) c7) (by go_simp) hk27 (by simp only [Act.put,sa1,sa2,sa3]; rfl) (ChL.fin ?_)
      have hz4:=hd2.size
      have hfr:W2.heap.size≤g4∧∀ y,OB = some y→y≠g4:=⟨by have:=(uh HKr).size; omega,fun y hy e=>by have:=(hown y hy).2; omega⟩
      have hsn:=hly.snoc (s:=(x,Ks.map (nodP (hsZ k) f))) (p:=(g4,n4)) ⟨hfr.1,by rw [hOB]; exact fun e=>hfr.2 _ e rfl,⟨[],by rw [List.append_nil]; exact hka.heap hh4 (by simp),by rw [← hn5]; simp,by simp⟩,⟨by rw [← hn5]; exact Nat.le_refl _,by rw [hn5,List.length_map]; exact hkc⟩,hbl,hdg⟩ (fun p hp e=>by have:=uh HGL p hp; omega) (by
        have h8:=uh HO7
        rw [show stV (x,Ks.map (nodP (hsZ k) f)) (g4,n4) = (stR [(x,.slice (some ⟨g4,0,none⟩) n4 n4)]).flatten by rw [hn5]; rfl]
        exact h8) (uh HG7) (uh HA7)
      have hk07:=hk06.grown (uh HG7) (fun x hx=>Or.inr (by rw [hOB] at hx; exact (hown x hx).1))
      have HSN:=hide hsn
      have HK7:=hide hk07
      clear hsn hk07 hk27 hk7 hk6 hk06 hly hrl hrdd hh4 k4 hka hg7
      go_wp2
      refine ⟨⟨i + 1,.slice ao7 (SS.length + 1) c7,_,by go_num,rfl,hlt,hide (by rw [List.range_succ,List.map_append,List.map_cons,List.map_nil,uh HSS,uh HSt]; exact uh HSN),hide (fun j hj=>by
        rw [xa7h]
        have hgl:=(uh HSL).len
        rw [← uh HSS,List.length_map,List.length_range] at hgl
        by_cases hj2:j < i
        · rw [if_pos (by omega)]; exact uh HCP j hj2
        · rw [if_neg (by omega),if_pos (by omega),show j = i by omega,uh HSt]; exact hn5),HK7⟩,?_⟩
      simp [intOf]; omega
    · have hie:i = m:=by omega
      subst hie
      have hlt':¬ (i:Int) < i:=by omega
      have h3:=(uh HKr).cell (uh HW3) (by simp)
      have hsgs:=fun j hj=>(uh HTR j hj).2
      have hrs:=(uh HSL).base (show w.heap.size≤W2.heap.size from (uh HK2).size)
      rcases uh HEn with ⟨hm,rfl,_,_⟩ | ⟨hsg,g1,rfl,hb,_⟩
      · go_wp2_with fail
        go_ret3
        exact ⟨_,.slice none 0 0,rfl,⟨i,gz,wr.heap.size,[],⟨hrs,by rw [hm]; exact LayAt.nil _ _,hrs.lts,Nat.le_trans (uh HK2).size (uh HKr).size⟩,⟨hsgs,by rw [hm]; rfl⟩,uh HCP⟩,(uh HK2).trans (uh HKr) (by simp)⟩
      · have HRS:=hide hrs
        have HSG:=hide hsgs
        have HL:=hide (show (dnL (hsZ k) q L i).length≤1000000000 from Nat.le_trans (dn_len i) hlen)
        clear hrs hsgs
        go_wp2_with fail
        refine Calls.mono (xb8s S k g1 (dnL (hsZ k) q L i) [] _ [] wr wr (hb.agr (Agr.nil (uh HKr))) (Kept.refl _ _) (LayAt.nil _ _) (by have:=uh HL; simpa using this)) ?_
        rintro e w5 ⟨v5,l5,rfl,hl5,k5⟩
        have HL5:=hide hl5
        have HK5:=hide k5
        clear hl5 k5
        go_wp2_with fail
        go_ret3
        exact ⟨_,_,rfl,⟨i,gz,wr.heap.size,_,⟨(uh HRS).kept (uh HK5),uh HL5,(uh HRS).lts,Nat.le_trans (uh HK2).size (uh HKr).size⟩,⟨uh HSG,hsg⟩,uh HCP⟩,((uh HK2).trans (uh HKr) (by simp)).trans (uh HK5) (by simp)⟩
theorem xb5n (w:World):(zeroValue 58).run Tryz.prog w = .ok (.agg (zb 32)) w:=by
  kernel_rfl
theorem xb0m:(Builtin.zeroCells (Value.agg (zb 32)).cells 1).toList = (zb 32).toList:=by kernel_rfl
theorem zb_one (v:Value) (h:v∈(zb 32).toList):v.oneCell' = true:=by
  have e:v = .int .u8 0:=by simpa [zb,brow,u8] using h
  subst e; rfl
theorem xa6u {P:Program} (w:World) (t e ty:TypeId) (z:Value) (cs:List Value) (ht:P.underlying t = some (.slice e)) (hv:(zeroValue e).run P w = .ok z w) (hzc:(Builtin.zeroCells z.cells 1).toList = cs) (h1:∀ v∈cs,v.oneCell' = true) (b o c:Nat) (hc:∀ j,j < cs.length→(w.cell? ⟨b,o + j,none⟩).isSome = true) (hf:∀ j,j < cs.length→w.frozen? ⟨b,o + j,none⟩ = false) :
    (Builtin.clear_ #[t] ty #[.slice (some ⟨b,o,none⟩) 1 c]).run P w = .ok (.tuple #[]) (w.setCells b o cs):=by
  have hst:=run_storeCells_cells (P:=P) b o cs 0 w (by simpa using hc) (by simpa using hf) h1
  simp only [Nat.add_zero] at hst
  simp [Builtin.clear_,run_underlying ht,hv,hzc,hst]
theorem xa7f (w:World) (ty:TypeId) (g o c:Nat) (hc:∀ j,j < 32→(w.cell? ⟨g,o + j,none⟩).isSome = true) (hf:∀ j,j < 32→w.frozen? ⟨g,o + j,none⟩ = false) :
    (Builtin.clear_ #[50] ty #[.slice (some ⟨g,o,none⟩) 1 c]).run Tryz.prog w = .ok (.tuple #[]) (w.setCells g o (zb 32).toList):=by
  have hl:(zb 32).toList.length = 32:=by rfl
  exact xa6u w _ 58 ty _ _ Tryz.underlying50 (xb5n w) xb0m zb_one g o c (by rw [hl]; exact hc) (by rw [hl]; exact hf)
theorem xb5e {P:Program} {o:Oper} {a:Act} {w w1:World} {T:TypeId} (s x:Operand) (ho:o.op = .call { callee:=.builtin .append,args:=#[s,x],argTypes:=#[T,T] }) (hty:o.type = T) (v u r:Value) (hs:a.eval s = v) (hx:a.eval x = u) (hrun:(Builtin.append_ #[T,T] T #[v,u]).run P w = .ok r w1):(execOp a.eval o).run P w = .ok (.value r) w1:=by
  unfold execOp
  simp only [ho,hty,resolve,invoke,builtin,Sem.run_bind,Sem.run_pure,Result.andThen_ok,List.map_toArray,List.map_cons,List.map_nil,hs,hx,hrun]
theorem xa9k {ds:List (List Nat)} (j:Nat):flatD ds = flatD (ds.take j)++flatD (ds.drop j):=by rw [← xa3l,List.take_append_drop]
set_option maxHeartbeats 4000000 in
theorem xb7i (g n i j:Nat) (ds:List (List Nat)) (w:World) (hh:w.heap[g]? = some (.cells (flatD ds).toArray 58 (0,0))) (hn:ds.length = n) (hij:j = i + 1) (hj:j≤n) (hd:∀ d∈ds,d.length = 32) (hm:n≤1000000) :
    Calls Tryz.prog 101 #[.slice (some ⟨g,0,none⟩) n n,.int .i64 i,.int .i64 j] w fun e w'=>e = .returned (.slice (some ⟨g,0,none⟩) (i + (n - j)) n)∧w'.heap[g]? = some (.cells (flatD (ds.eraseIdx i)++(zb 32).toList).toArray 58 (0,0))∧Kept [g] w w':=by
  have hfl:∀ m,(flatD (ds.take m)).length = (min m n) * 32:=fun m=>by rw [xa1p (fun d h=>hd d (List.mem_of_mem_take h)),List.length_take,hn]
  have hfd:∀ m,(flatD (ds.drop m)).length = (n - m) * 32:=fun m=>by rw [xa1p (fun d h=>hd d (List.mem_of_mem_drop h)),List.length_drop,hn]
  obtain ⟨news,hnews⟩:∃ news,news = flatD (ds.drop j):=⟨_,rfl⟩
  have hlen:news.length = (n - j) * 32:=by rw [hnews,hfd]
  obtain ⟨A,hA,hsrc⟩:∃ A:Addr,(if n = j then (some ⟨g,0,none⟩:Option Addr) else some ⟨g,j * 32,none⟩) = some A∧Hid (∀ t u,news[t]? = some u→w.drew.cell? (A.add t) = some u):=by
    by_cases h:n = j
    · refine ⟨⟨g,0,none⟩,by simp [h],fun t u hu=>?_⟩
      have h0:news.length = 0:=by rw [hlen]; omega
      rw [List.length_eq_zero_iff.1 h0] at hu
      simp at hu
    · refine ⟨⟨g,j * 32,none⟩,by simp [h],fun t u hu=>?_⟩
      rw [Addr.add_lit]
      show w.cell? _ = _
      rw [cell_of_row _ _ _ _ _ _ hh,List.getElem?_toArray,xa9k j,List.getElem?_append_right (by rw [hfl,Nat.min_eq_left hj]; omega),hfl,Nat.min_eq_left hj,show j * 32 + t - j * 32 = t by omega,← hnews]
      exact hu
  have s1:Hid (news.length = (n - j) * 32):=hlen
  have s2:Hid (∀ u∈news,u.oneCell' = true):=by rw [hnews]; exact xa5k _
  have hsz:(flatD ds).length = n * 32:=by rw [xa1p hd,hn]
  have s3:Hid (∀ t,t < news.length→(w.drew.cell? ⟨g,0 + i * 32 + t,none⟩).isSome = true∧w.drew.frozen? ⟨g,0 + i * 32 + t,none⟩ = false):=by
    intro t ht
    rw [hlen] at ht
    refine ⟨?_,frozen_of_row (w.drew) g _ _ _ hh⟩
    show (w.cell? _).isSome = true
    rw [cell_of_row _ _ _ _ _ _ hh,List.getElem?_toArray,List.getElem?_eq_getElem (by rw [hsz]; omega)]; rfl
  obtain ⟨W1,hW1⟩:∃ W1,W1 = w.drew.setCells g (0 + i * 32) news:=⟨_,rfl⟩
  have hli:(flatD (ds.take i)).length = i * 32:=by rw [hfl,Nat.min_eq_left (by omega)]
  have hrest:=hfd i
  have hh1:W1.heap[g]? = some (.cells (flatD (ds.take i)++(news++(flatD (ds.drop i)).drop ((n - j) * 32))).toArray 58 (0,0)):=by
    rw [hW1,show 0 + i * 32 = (flatD (ds.take i)).length by rw [hli]; omega]
    refine xa7o g 58 news (flatD (ds.take i)) ((flatD (ds.drop i)).take ((n - j) * 32)) _ w.drew (by rw [List.length_take,hrest,hlen]; omega) ?_
    rw [List.take_append_drop,← xa9k i]; exact hh
  have hK1:Kept [g] w W1:=by rw [hW1]; exact xa2e g (Or.inl (by simp)) news _ _ ((Kept.refl [g] w).drew)
  have hpost:((flatD (ds.drop i)).drop ((n - j) * 32)).length = 32:=by rw [List.length_drop,hrest]; omega
  have hpre:(flatD (ds.take i)++news).length = (i + (n - j)) * 32:=by rw [List.length_append,hli,hlen]; omega
  have hh2:(W1.setCells g ((i + (n - j)) * 32) (zb 32).toList).heap[g]? = some (.cells (flatD (ds.eraseIdx i)++(zb 32).toList).toArray 58 (0,0)):=by
    have h9:=xa7o g 58 (zb 32).toList (flatD (ds.take i)++news) ((flatD (ds.drop i)).drop ((n - j) * 32)) [] W1 (by rw [hpost]; rfl) (by rw [List.append_nil,List.append_assoc]; exact hh1)
    rw [hpre,List.append_nil,hnews,← xa3l] at h9
    rw [List.eraseIdx_eq_take_drop_succ,← hij]
    exact h9
  have hK2:Kept [g] w (W1.setCells g ((i + (n - j)) * 32) (zb 32).toList):=xa2e g (Or.inl (by simp)) _ _ _ hK1
  have hcl:∀ ty c,(Builtin.clear_ #[50] ty #[.slice (some ⟨g,(i + (n - j)) * 32,none⟩) 1 c]).run Tryz.prog W1 = .ok (.tuple #[]) (W1.setCells g ((i + (n - j)) * 32) (zb 32).toList):=fun ty c=>xa7f W1 ty g _ c (fun t ht=>by
    rw [cell_of_row _ _ _ _ _ _ hh1,List.getElem?_toArray,List.getElem?_eq_getElem (by rw [← List.append_assoc,List.length_append,hpre,hpost]; omega)]; rfl) (fun t ht=>frozen_of_row W1 g _ _ _ hh1)
  obtain ⟨i0,hi0,hz0,hz1,hz2⟩:=info_parts Tryz.infoD
  have hrun:=run_append_room_cells (P:=Tryz.prog) w.drew 50 50 58 i0 Tryz.underlying50 hi0 g 0 i n A (n - j) (n - j) news (by rw [hz1]; exact s1.out) hsrc.out s2.out (by omega) (fun t ht=>by rw [hz1]; exact (s3.out t ht).1) (fun t ht=>by rw [hz1]; exact (s3.out t ht).2)
  rw [hz1,← hW1] at hrun
  have HRUN:=hide hrun
  have HK1:=hide hK1
  have HH2:=hide hh2
  have HK2:=hide hK2
  have hic:i≤n:=by omega
  have hbq:((i:Int) == (j:Int)) = false:=by rw [beq_eq_false_iff_ne]; omega
  have hltj:i < j:=by omega
  have hle:i≤j:=by omega
  have HONE:=hide (show n - (i + (n - j)) = 1 by omega)
  have HLT:=hide (show i + (n - j) < n by omega)
  clear hrun hi0 s1 s2 s3 hsrc hW1 hh1 hK1 hh hnews hlen hpre hpost hrest hli hfl hfd hsz hh2 hK2 hd hz0 hz1 hz2
  have HIJ:=hide hij
  have HA:=hide hA
  have HM:=hide hm
  clear hij hA hm hn
  go_enter Tryz.func101,Tryz.ntmps101
  go_upto_region 5 with fail
  refine lp_de (by kernel_rfl) (by kernel_rfl) rfl (fun W=>Kept [g] w W) (Kept.refl _ w).drew ?_
  refine LinY.rd (.slice (some ⟨g,0,none⟩) n n) (fun W hW=>by go_simp) (by simp only [Act.put,sa1,sa2,sa3]; rfl) ?_
  refine LinY.rd (.int .i64 i) (fun W hW=>by go_simp) (by simp only [Act.put,sa1,sa2,sa3]; rfl) ?_
  refine LinY.rd (.slice (some ⟨g,0,none⟩) i n) (fun W hW=>by go_simp) (by simp only [Act.put,sa1,sa2,sa3]; rfl) ?_
  refine LinY.rd (.slice (some ⟨g,0,none⟩) n n) (fun W hW=>by go_simp) (by simp only [Act.put,sa1,sa2,sa3]; rfl) ?_
  refine LinY.rd (.int .i64 j) (fun W hW=>by go_simp) (by simp only [Act.put,sa1,sa2,sa3]; rfl) ?_
  refine LinY.rd (.slice (some A) (n - j) (n - j)) (fun W hW=>by have h9:=uh HA; go_simp) (by simp only [Act.put,sa1,sa2,sa3]; rfl) ?_
  refine LinY.fin (ChL.op (.slice (some ⟨g,0,none⟩) (i + (n - j)) n) (xb5e (.tmp 22) (.tmp 25) rfl rfl _ _ _ rfl rfl (uh HRUN)) (uh HK1) (by simp only [Act.put,sa1,sa2,sa3]; rfl) ?_)
  refine ChL.op (.slice (some ⟨g,0,none⟩) (i + (n - j)) n) (by go_simp) (uh HK1) (by simp only [Act.put,sa1,sa2,sa3]; rfl) (ChL.fin ?_)
  have hone:=uh HONE
  have hlt1:=uh HLT
  go_wp2
  go_ret
  exact ⟨rfl,uh HH2,uh HK2⟩
set_option maxHeartbeats 4000000 in
theorem xa8k (x c g n:Nat) (ds:List (List Nat)) (w:World) (hx:x < 65536) (hc:c < 16) (hh:w.heap[g]? = some (.cells (flatD ds).toArray 58 (0,0))) (hn:ds.length = n) (hd:∀ d∈ds,d.length = 32) (hm:n≤16) (hat:x.testBit c = true→cnt x c < n) :
    Calls Tryz.prog 66 #[.agg #[.int .u16 (x:Nat),.slice (some ⟨g,0,none⟩) n n],.int .i64 c] w fun e w'=>∃ zs:List Value,e = .returned (.slice (some ⟨g,0,none⟩) (wod (x,ds) c).2.length n)∧w'.heap[g]? = some (.cells (flatD (wod (x,ds) c).2++zs).toArray 58 (0,0))∧zs.length = (n - (wod (x,ds) c).2.length) * 32∧(∀ u∈zs,u.oneCell' = true)∧Kept [g] w w':=by
  have HG0:=hide (heap_alloc_new w (.cells #[.int .u16 (x:Nat),.slice (some ⟨g,0,none⟩) n n] 52))
  have HK0:=hide ((Kept.refl [] w).alloc (.cells #[.int .u16 (x:Nat),.slice (some ⟨g,0,none⟩) n n] 52))
  have HH0:=hide ((uh HK0).heap hh (by simp))
  obtain ⟨W,hW⟩:∃ W,w.alloc (.cells #[.int .u16 (x:Nat),.slice (some ⟨g,0,none⟩) n n] 52) = W:=⟨_,rfl⟩
  rw [hW] at HG0 HK0 HH0
  have c0:W.cell? ⟨w.heap.size,0,none⟩ = some (.int .u16 (x:Nat)):=cell_of_row _ _ 0 _ _ _ (uh HG0)
  have HD:=hide hd
  have hhas:=xb3b x c (by omega)
  have hrk:rankB x (c:Int) = cnt x c:=by
    unfold rankB
    rw [if_neg (by omega),if_pos (by omega),Int.toNat_natCast]
  have hwo:(wod (x,ds) c).2 = if x.testBit c = true then ds.eraseIdx (cnt x c) else ds:=rfl
  clear hd hh
  go_enter Tryz.func66,Tryz.ntmps66
  go_upto_region 1 with fail
  try rw [hW]
  clear hW
  go_wp2_with fail
  refine Calls.mono (xa6h x c W hx (by omega)) ?_
  rintro e w1 ⟨rfl,k1⟩
  have HK1:=hide k1
  have HG1:=hide (k1.heap (uh HG0) (by simp))
  have HH1:=hide (k1.heap (uh HH0) (by simp))
  have d0:w1.cell? ⟨w.heap.size,0,none⟩ = some (.int .u16 (x:Nat)):=cell_of_row _ _ 0 _ _ _ (uh HG1)
  have d1:w1.cell? ⟨w.heap.size,1,none⟩ = some (.slice (some ⟨g,0,none⟩) n n):=cell_of_row _ _ 1 _ _ _ (uh HG1)
  rw [hhas]
  clear k1 c0 hhas
  by_cases hb:x.testBit c = true
  · rw [if_pos hb] at hwo
    have hci:=hat hb
    rw [hb]
    have HWO:=hide hwo
    clear hb hat hwo
    go_wp2_with fail
    refine Calls.mono (xa3z x c w1 hx (by omega)) ?_
    rintro e w2 ⟨rfl,k2⟩
    rw [hrk]
    have HK2:=hide ((uh HK1).trans k2 (by simp))
    have HG2:=hide (k2.heap (uh HG1) (by simp))
    have HH2:=hide (k2.heap (uh HH1) (by simp))
    have e1:w2.cell? ⟨w.heap.size,1,none⟩ = some (.slice (some ⟨g,0,none⟩) n n):=cell_of_row _ _ 1 _ _ _ (uh HG2)
    clear k2 d0 d1 hrk
    generalize cnt x c = C at hci HWO ⊢
    obtain ⟨J,hJ⟩:∃ J,J = C + 1:=⟨_,rfl⟩
    have hJi:(C:Int) + 1 = (J:Int):=by omega
    have hDL:=xb7i g n C J ds w2 (uh HH2) hn hJ (by omega) (uh HD) (by omega)
    have HDL:=hide hDL
    have HL:=hide (show (ds.eraseIdx C).length = C + (n - J) by rw [List.length_eraseIdx_of_lt (by omega)]; omega)
    have HL2:=hide (show 32 = (n - (C + (n - J))) * 32 by omega)
    clear hDL hJ
    go_upto_region 4 with fail
    go_wp2_with fail
    refine Calls.mono (uh HDL) ?_
    rintro e w3 ⟨rfl,hh3,k3⟩
    have HH3:=hide hh3
    have HK3:=hide ((((uh HK0).trans (uh HK2) (by simp)).mono (M:=[g]) (by simp)).trans k3 (fun x hx=>Or.inl hx))
    clear hh3 k3 e1
    go_wp2_with fail
    go_ret
    refine ⟨(zb 32).toList,?_,?_,?_,zb_one,uh HK3⟩
    · rw [uh HWO,uh HL]; rfl
    · rw [uh HWO]; exact uh HH3
    · rw [uh HWO,uh HL]; exact uh HL2
  · rw [if_neg hb] at hwo
    have hb2:x.testBit c = false:=by simpa using hb
    rw [hb2]
    have HWO:=hide hwo
    clear hb hat hwo hb2
    go_wp2_with fail
    go_ret
    refine ⟨[],?_,?_,?_,by simp,(((uh HK0).trans (uh HK1) (by simp)).mono (M:=[g]) (by simp))⟩
    · rw [uh HWO,hn]; rfl
    · rw [uh HWO,List.append_nil]; exact uh HH1
    · rw [uh HWO,hn]; simp

end
end Go.Proofs.YtepmjkkjhjkdgaaGreatDoor
