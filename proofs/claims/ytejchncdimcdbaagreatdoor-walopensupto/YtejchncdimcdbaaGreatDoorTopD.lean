import Derived.Test.YtejchncdimcdbaaGreatDoorTopC
namespace Go.Proofs.YtejchncdimcdbaaGreatDoor
set_option linter.unusedVariables false
set_option linter.unusedSimpArgs false
set_option maxRecDepth 100000
section
open Go.RowKit Go.BigFrame
theorem Tryz.size_refframe:(Tryz.prog.info? 219).map (·.size) = some 2:=by kernel_rfl
theorem xa3a {w:World} {g:Nat} {a b c:Value} {t:TypeId} (h:w.heap[g]? = some (.cells #[a,b,c] t (0,0))) (x y z:Value):(((w.setCell ⟨g,0,none⟩ x).setCell ⟨g,1,none⟩ y).setCell ⟨g,2,none⟩ z).heap[g]? = some (.cells #[x,y,z] t (0,0)):=by
 rw [heap_setCell_same _ g 2 _ t _ (heap_setCell_same _ g 1 _ t _ (heap_setCell_same w g 0 _ t _ h))]; rfl
theorem xa2v {w0 w:World} (k:Kept [] w0 w) (g:Nat) (hg:w0.heap.size≤g) (x y z:Value):Kept [] w0 (((w.setCell ⟨g,0,none⟩ x).setCell ⟨g,1,none⟩ y).setCell ⟨g,2,none⟩ z):=((k.setCell (Or.inr hg) x).setCell (Or.inr hg) y).setCell (Or.inr hg) z
theorem xa2a (w:World) (g b:Nat) (hb:b≠g) (x y z:Value):(((w.setCell ⟨g,0,none⟩ x).setCell ⟨g,1,none⟩ y).setCell ⟨g,2,none⟩ z).heap[b]? = w.heap[b]?:=by
 rw [heap_setCell_other _ ⟨g,2,none⟩ b z (by simpa using hb),heap_setCell_other _ ⟨g,1,none⟩ b y (by simpa using hb),heap_setCell_other _ ⟨g,0,none⟩ b x (by simpa using hb)]
theorem xa4l {p:List Nat} {i e n:Nat} (h:i≤p.length):(rNum p i e n).2.1≤p.length:=by
 unfold rNum
 split
 ·exact h
 ·split
  ·exact h
  ·simp only; omega
theorem xa1n {p:List Nat} {i e n X j:Nat} (h:rNum p i e n = (X,j,0)):e = 0∧n≤p.length - i∧X = beL ((p.drop i).take n)∧j = i + n:=by
 unfold rNum at h
 split at h
 ·simp only [Prod.mk.injEq] at h; omega
 ·split at h
  ·simp only [Prod.mk.injEq] at h; omega
  ·simp only [Prod.mk.injEq] at h; exact ⟨by omega,by omega,h.1.symm,h.2.1.symm⟩
theorem xa1k {p:List Nat} {i e n X j f:Nat} (h:rNum p i e n = (X,j,f)) (hf:f≠0):e≠0∨p.length - i < n:=by
 unfold rNum at h
 split at h
 ·exact Or.inl (by assumption)
 ·split at h
  ·exact Or.inr (by assumption)
  ·simp only [Prod.mk.injEq] at h; omega
theorem chain4 {p:List Nat} {n X1 i1 f1 X2 i2 f2 X3 i3 f3 X4 i4 f4:Nat} (hn:n < p.length) (h1:rNum p n 0 1 = (X1,i1,f1)) (h2:rNum p i1 f1 4 = (X2,i2,f2)) (h3:rNum p i2 f2 8 = (X3,i3,f3)) (h4:rNum p i3 f3 4 = (X4,i4,f4)) :
  (f4 = 0→n + 17≤p.length∧X2 = beL (((p.drop n).drop 1).take 4)∧X3 = beL (((p.drop n).drop 5).take 8)∧i4 = n + 17)∧(f4≠0→p.length < n + 17):=by
 have hf1:f1 = 0:=by
  rcases Nat.eq_zero_or_pos f1 with h | h
  ·exact h
  ·rcases xa1k h1 (by omega) with h | h <;> omega
 subst hf1
 obtain ⟨_,_,_,rfl⟩:=xa1n h1
 constructor
 ·intro e
  subst e
  obtain ⟨rfl,a4,_,rfl⟩:=xa1n h4
  obtain ⟨rfl,a3,b3,rfl⟩:=xa1n h3
  obtain ⟨_,a2,b2,rfl⟩:=xa1n h2
  refine ⟨by omega,by rw [List.drop_drop]; exact b2,by rw [List.drop_drop]; rw [b3],by omega⟩
 ·intro e
  rcases xa1k h4 e with h | h
  ·rcases xa1k h3 h with h | h
   ·rcases xa1k h2 h with h | h
    ·omega
    ·omega
   ·by_cases e2:f2 = 0
    ·subst e2; obtain ⟨_,a2,b2,rfl⟩:=xa1n h2; omega
    ·rcases xa1k h2 e2 with h | h <;> omega
  ·by_cases e3:f3 = 0
   ·subst e3
    obtain ⟨rfl,a3,b3,rfl⟩:=xa1n h3
    obtain ⟨_,a2,b2,rfl⟩:=xa1n h2
    omega
   ·rcases xa1k h3 e3 with h | h
    ·rcases xa1k h2 h with h | h <;> omega
    ·by_cases e2:f2 = 0
     ·subst e2; obtain ⟨_,a2,b2,rfl⟩:=xa1n h2; omega
     ·rcases xa1k h2 e2 with h | h <;> omega
theorem xa7d (w:World) (g:Nat) (x y z:Value):Kept [g] w (((w.setCell ⟨g,0,none⟩ x).setCell ⟨g,1,none⟩ y).setCell ⟨g,2,none⟩ z):=(((Kept.refl [g] w).setCell (Or.inl (by simp)) x).setCell (Or.inl (by simp)) y).setCell (Or.inl (by simp)) z
theorem xb8s {p:List Nat} {i e:Nat} {n:Int} (h:i≤p.length):(rRaw p i e n).2.1≤p.length:=by
 unfold rRaw
 split
 ·exact h
 ·split
  ·exact h
  ·split
   ·exact h
   ·simp only; omega
theorem chain6 {p:List Nat} {n X2 i4 f4 i5 f5 X6 i6 f6:Nat} {pay:List Nat} (hf:f4 = 0) (hi:i4 = n + 17) (h5:rRaw p i4 f4 X2 = (pay,i5,f5)) (h6:rNum p i5 f5 1 = (X6,i6,f6)) :
  (f6 = 0→n + 18 + X2≤p.length∧pay = (p.drop (n + 17)).take X2∧i6 = n + 18 + X2)∧(f6≠0→p.length < n + 18 + X2):=by
 subst hf
 subst hi
 unfold rRaw at h5
 rw [if_neg (by simp),if_neg (by omega)] at h5
 split at h5
 ·rename_i hlt
  simp only [Prod.mk.injEq] at h5
  obtain ⟨rfl,rfl,rfl⟩:=h5
  exact ⟨fun e=>by subst e; have:=(xa1n h6).1; omega,fun _=>by omega⟩
 ·rename_i hlt
  simp only [Prod.mk.injEq,Int.toNat_natCast] at h5
  obtain ⟨rfl,rfl,rfl⟩:=h5
  refine ⟨fun e=>?_,fun e=>?_⟩
  ·subst e
   obtain ⟨_,a,_,b⟩:=xa1n h6
   exact ⟨by omega,rfl,by omega⟩
  ·rcases xa1k h6 e with h | h <;> omega
theorem docNone {p:List Nat} {n X2 X3 i4 i6:Nat} {pay:List Nat} (g:n + 17≤p.length∧X2 = beL (((p.drop n).drop 1).take 4)∧X3 = beL (((p.drop n).drop 5).take 8)∧i4 = n + 17) (gi:n + 18 + X2≤p.length∧pay = (p.drop (n + 17)).take X2∧i6 = n + 18 + X2)
  (h1:1≤X2) (h2:X2≤65535) (hb:∀ x∈p,x < 256) (hd:¬ frB X3 pay = (p.drop n).take (i6 - n)):firstF (p.drop n) = none:=by
 cases hf:firstF (p.drop n) with
 | none=>rfl
 | some x =>
  exfalso
  obtain ⟨pl',pay'⟩:=x
  obtain ⟨a1,a2,a3,a4,a5⟩:=xa3x hf (fun x hx=>hb x (List.mem_of_mem_drop hx))
  obtain ⟨p1,p2,p3,p4,p5⟩:=xb0v pl' pay' ((p.drop n).drop (pay'.length + 18)) a1 a3 a4
  rw [← a5] at p1 p2 p4
  have e1:X2 = pay'.length:=by rw [g.2.1,p1,xa2b (by omega) (by omega)]
  have e2:X3 = pl':=by rw [g.2.2.1,p2,xa2b (by omega) (by omega)]
  have e3:pay = pay':=by rw [gi.2.1,e1]; rw [List.drop_drop] at p4; exact p4
  apply hd
  rw [e2,e3,gi.2.2,e1]
  conv=>rhs; rw [a5]
  rw [show n + 18 + pay'.length - n = (frB pl' pay').length by rw [xa4n]; omega,List.take_left]
set_option maxHeartbeats 2000000 in
theorem xa5y (v:Value) (p:List Nat) (z:Int) (w:World) (h:Rd w v p) (hz:-9223372036854775808≤z∧z≤9223372036854775807) :
  Calls Tryz.prog 134 #[v,.int .i64 z] w fun e w'=>∃ v',e = .returned (.tuple #[.agg #[.int .u64 (nextF p z).pl,v'],.int .i64 (nextF p z).next,.int .i64 (nextF p z).kind])∧NewP w w' v' (nextF p z).pay∧Kept [] w w':=by
 have H:=hide h
 obtain ⟨a1,n1,c1,rfl,hn1,hc1,⟨hc2,hc3⟩,_,_,hcell⟩:=id h
 subst hn1
 clear h
 have HZ0:=hide (heap_alloc_new w (.cells #[.int .u64 0,.slice none 0 0] 219))
 have HK0:=hide ((Kept.refl [] w).alloc (.cells #[.int .u64 0,.slice none 0 0] 219))
 by_cases h1:z = p.length
 ·have hN:nextF p z = ⟨0,[],z,0⟩:=by unfold nextF; rw [if_pos h1]
  rw [hN]
  clear hN hcell
  subst h1
  go_enter Tryz.func134,Tryz.ntmps134
  go_wp2
  refine bodyPost_ret (v:=.tuple #[.agg #[.int .u64 0,.slice none 0 0],.int .i64 p.length,.int .i64 0]) ?_ rfl ⟨_,rfl,NewP.nil _ _,uh HK0⟩
  exact xa0a rfl _ _ w.heap.size _ #[.int .u64 0,.slice none 0 0] (0,0) _ rfl (uh HZ0) Tryz.underlying219 rfl Tryz.size_refframe _ _ rfl rfl
 have h1':(z == (p.length:Int)) = false:=by rw [beq_eq_false_iff_ne]; exact h1
 by_cases h2:z < 0
 ·have hN:nextF p z = ⟨0,[],z,2⟩:=by unfold nextF; rw [if_neg h1,if_pos (Or.inl h2)]
  rw [hN]
  clear hN hcell
  go_enter Tryz.func134,Tryz.ntmps134
  go_wp2
  refine bodyPost_ret (v:=.tuple #[.agg #[.int .u64 0,.slice none 0 0],.int .i64 z,.int .i64 2]) ?_ rfl ⟨_,rfl,NewP.nil _ _,uh HK0⟩
  exact xa0a rfl _ _ w.heap.size _ #[.int .u64 0,.slice none 0 0] (0,0) _ rfl (uh HZ0) Tryz.underlying219 rfl Tryz.size_refframe _ _ rfl rfl
 by_cases h3:(p.length:Int) < z
 ·have hN:nextF p z = ⟨0,[],z,2⟩:=by unfold nextF; rw [if_neg h1,if_pos (Or.inr h3)]
  rw [hN]
  clear hN hcell
  go_enter Tryz.func134,Tryz.ntmps134
  go_wp2
  refine bodyPost_ret (v:=.tuple #[.agg #[.int .u64 0,.slice none 0 0],.int .i64 z,.int .i64 2]) ?_ rfl ⟨_,rfl,NewP.nil _ _,uh HK0⟩
  exact xa0a rfl _ _ w.heap.size _ #[.int .u64 0,.slice none 0 0] (0,0) _ rfl (uh HZ0) Tryz.underlying219 rfl Tryz.size_refframe _ _ rfl rfl
 obtain ⟨n,rfl⟩:∃ n:Nat,z = n:=⟨z.toNat,by omega⟩
 have hn:n < p.length:=by omega
 obtain ⟨bb,off,rfl,hcl⟩:=hcell (by omega)
 clear hcell hcl
 have h3':¬ (p.length:Int) < n:=by omega
 have HNN:=hide (rfl:nextF p n = nextF p n)
 obtain ⟨NR,hNR⟩:∃ R,nextF p n = R:=⟨_,rfl⟩
 rw [hNR]
 have HNR:=hide hNR
 clear hNR HNN
 go_enter Tryz.func134,Tryz.ntmps134
 go_wp2_with fail
 have HG0:=hide (heap_alloc2_old w (.cells #[.int .u64 0,.slice none 0 0] 219) (.cells #[.slice (some ⟨bb,off,none⟩) p.length c1,.int .i64 (n:Int),.int .i64 0] 272))
 have HR0:=hide (heap_alloc2_new w (.cells #[.int .u64 0,.slice none 0 0] 219) (.cells #[.slice (some ⟨bb,off,none⟩) p.length c1,.int .i64 (n:Int),.int .i64 0] 272))
 have HKK:=hide ((uh HK0).alloc (.cells #[.slice (some ⟨bb,off,none⟩) p.length c1,.int .i64 (n:Int),.int .i64 0] 272))
 refine Calls.mono (xa0k _ c1 p n 0 1 _ ((uh H).old (uh HKK) (by simp)) (by omega) (by decide)) ?_
 rintro e1 w1 ⟨rfl,k1⟩
 obtain ⟨X1,i1,f1,hx1⟩:∃ X i f,rNum p n 0 1 = (X,i,f):=⟨_,_,_,rfl⟩
 have hl1:i1≤p.length:=by have:=xa4l (p:=p) (i:=n) (e:=0) (n:=1) (by omega); rw [hx1] at this; exact this
 rw [hx1]
 have HX1:=hide hx1
 have HR1:=hide (k1.heap (uh HR0) (by simp))
 have HG1:=hide (k1.heap (uh HG0) (by simp))
 have HK1:=hide ((uh HKK).trans k1 (by simp))
 clear k1 hx1
 obtain ⟨⟨s0,s1,s2⟩,t0,t1,t2⟩:=three (uh HR1)
 have HP1:=hide (xa3a (uh HR1) (.slice (some ⟨bb,off,none⟩) p.length c1) (.int .i64 i1) (.int .i64 f1))
 have HQ1:=hide (xa2v (uh HK1) (w.heap.size + 1) (by omega) (.slice (some ⟨bb,off,none⟩) p.length c1) (.int .i64 i1) (.int .i64 f1))
 have HG1':=hide ((xa2a w1 (w.heap.size + 1) w.heap.size (by omega) (.slice (some ⟨bb,off,none⟩) p.length c1) (.int .i64 i1) (.int .i64 f1)).trans (uh HG1))
 simp only
 go_wp2_with fail
 clear s0 s1 s2 t0 t1 t2
 refine Calls.mono (xa0k _ c1 p i1 f1 4 _ ((uh H).old (uh HQ1) (by simp)) hl1 (by decide)) ?_
 rintro e2 w2 ⟨rfl,k2⟩
 obtain ⟨X2,i2,f2,hx2⟩:∃ X i f,rNum p i1 f1 4 = (X,i,f):=⟨_,_,_,rfl⟩
 have hl2:i2≤p.length:=by have:=xa4l (p:=p) (i:=i1) (e:=f1) (n:=4) hl1; rw [hx2] at this; exact this
 rw [hx2]
 have HX2:=hide hx2
 have HR2:=hide (k2.heap (uh HP1) (by simp))
 have HG2:=hide (k2.heap (uh HG1') (by simp))
 have HK2:=hide ((uh HQ1).trans k2 (by simp))
 clear k2 hx2
 obtain ⟨⟨s0,s1,s2⟩,t0,t1,t2⟩:=three (uh HR2)
 have HP2:=hide (xa3a (uh HR2) (.slice (some ⟨bb,off,none⟩) p.length c1) (.int .i64 i2) (.int .i64 f2))
 have HQ2:=hide (xa2v (uh HK2) (w.heap.size + 1) (by omega) (.slice (some ⟨bb,off,none⟩) p.length c1) (.int .i64 i2) (.int .i64 f2))
 have HG2':=hide ((xa2a w2 (w.heap.size + 1) w.heap.size (by omega) (.slice (some ⟨bb,off,none⟩) p.length c1) (.int .i64 i2) (.int .i64 f2)).trans (uh HG2))
 simp only
 go_wp2_with fail
 clear s0 s1 s2 t0 t1 t2
 refine Calls.mono (xa0k _ c1 p i2 f2 8 _ ((uh H).old (uh HQ2) (by simp)) hl2 (by decide)) ?_
 rintro e3 w3 ⟨rfl,k3⟩
 obtain ⟨X3,i3,f3,hx3⟩:∃ X i f,rNum p i2 f2 8 = (X,i,f):=⟨_,_,_,rfl⟩
 have hl3:i3≤p.length:=by have:=xa4l (p:=p) (i:=i2) (e:=f2) (n:=8) hl2; rw [hx3] at this; exact this
 rw [hx3]
 have HX3:=hide hx3
 have HR3:=hide (k3.heap (uh HP2) (by simp))
 have HG3:=hide (k3.heap (uh HG2') (by simp))
 have HK3:=hide ((uh HQ2).trans k3 (by simp))
 clear k3 hx3
 obtain ⟨⟨s0,s1,s2⟩,t0,t1,t2⟩:=three (uh HR3)
 have HP3:=hide (xa3a (uh HR3) (.slice (some ⟨bb,off,none⟩) p.length c1) (.int .i64 i3) (.int .i64 f3))
 have HQ3:=hide (xa2v (uh HK3) (w.heap.size + 1) (by omega) (.slice (some ⟨bb,off,none⟩) p.length c1) (.int .i64 i3) (.int .i64 f3))
 have HG3':=hide ((xa2a w3 (w.heap.size + 1) w.heap.size (by omega) (.slice (some ⟨bb,off,none⟩) p.length c1) (.int .i64 i3) (.int .i64 f3)).trans (uh HG3))
 simp only
 go_wp2_with fail
 clear s0 s1 s2 t0 t1 t2
 refine Calls.mono (xa0k _ c1 p i3 f3 4 _ ((uh H).old (uh HQ3) (by simp)) hl3 (by decide)) ?_
 rintro e4 w4 ⟨rfl,k4⟩
 obtain ⟨X4,i4,f4,hx4⟩:∃ X i f,rNum p i3 f3 4 = (X,i,f):=⟨_,_,_,rfl⟩
 have hl4:i4≤p.length:=by have:=xa4l (p:=p) (i:=i3) (e:=f3) (n:=4) hl3; rw [hx4] at this; exact this
 rw [hx4]
 have HX4:=hide hx4
 have HR4:=hide (k4.heap (uh HP3) (by simp))
 have HG4:=hide (k4.heap (uh HG3') (by simp))
 have HK4:=hide ((uh HQ3).trans k4 (by simp))
 clear k4 hx4
 obtain ⟨⟨s0,s1,s2⟩,t0,t1,t2⟩:=three (uh HR4)
 have HP4:=hide (xa3a (uh HR4) (.slice (some ⟨bb,off,none⟩) p.length c1) (.int .i64 i4) (.int .i64 f4))
 have HQ4:=hide (xa2v (uh HK4) (w.heap.size + 1) (by omega) (.slice (some ⟨bb,off,none⟩) p.length c1) (.int .i64 i4) (.int .i64 f4))
 have HG4':=hide ((xa2a w4 (w.heap.size + 1) w.heap.size (by omega) (.slice (some ⟨bb,off,none⟩) p.length c1) (.int .i64 i4) (.int .i64 f4)).trans (uh HG4))
 simp only
 have HCH:=hide (chain4 hn (uh HX1) (uh HX2) (uh HX3) (uh HX4))
 have HBD:=hide (fun (h:firstF (p.drop n) = none)=>by unfold nextF; rw [if_neg h1,if_neg (by omega),Int.toNat_natCast,h]:firstF (p.drop n) = none→nextF p n = ⟨0,[],n,2⟩)
 have d0:(((w4.setCell ⟨w.heap.size + 1,0,none⟩ (.slice (some ⟨bb,off,none⟩) p.length c1)).setCell ⟨w.heap.size + 1,1,none⟩ (.int .i64 (i4:Int))).setCell ⟨w.heap.size + 1,2,none⟩ (.int .i64 (f4:Int))).cell? ⟨w.heap.size,0,none⟩ = some (.int .u64 0):=by rw [cell_of_row _ _ _ _ _ _ (uh HG4')]; rfl
 have d1:(((w4.setCell ⟨w.heap.size + 1,0,none⟩ (.slice (some ⟨bb,off,none⟩) p.length c1)).setCell ⟨w.heap.size + 1,1,none⟩ (.int .i64 (i4:Int))).setCell ⟨w.heap.size + 1,2,none⟩ (.int .i64 (f4:Int))).cell? ⟨w.heap.size,1,none⟩ = some (.slice none 0 0):=by rw [cell_of_row _ _ _ _ _ _ (uh HG4')]; rfl
 have u0:(((w4.setCell ⟨w.heap.size + 1,0,none⟩ (.slice (some ⟨bb,off,none⟩) p.length c1)).setCell ⟨w.heap.size + 1,1,none⟩ (.int .i64 (i4:Int))).setCell ⟨w.heap.size + 1,2,none⟩ (.int .i64 (f4:Int))).frozen? ⟨w.heap.size,0,none⟩ = false:=frozen_of_row _ _ _ _ _ (uh HG4')
 have u1:(((w4.setCell ⟨w.heap.size + 1,0,none⟩ (.slice (some ⟨bb,off,none⟩) p.length c1)).setCell ⟨w.heap.size + 1,1,none⟩ (.int .i64 (i4:Int))).setCell ⟨w.heap.size + 1,2,none⟩ (.int .i64 (f4:Int))).frozen? ⟨w.heap.size,1,none⟩ = false:=frozen_of_row _ _ _ _ _ (uh HG4')
 by_cases hf4:f4 = 0
 ·have hf4':((f4:Int) != 0) = false:=by rw [hf4]; rfl
  have HGG:=hide ((uh HCH).1 hf4)
  have HF4:=hide hf4
  clear hf4
  have hi4:i4 = n + 17:=(uh HGG).2.2.2
  have hx2:X2 < 4294967296:=by rw [(uh HGG).2.1]; exact Tryz.lt_of_beL (fun x hx=>(uh H).byte x (List.mem_of_mem_drop hx)) 1 4 (by decide)
  have hx3:X3 < 18446744073709551616:=by rw [(uh HGG).2.2.1]; exact Tryz.lt_of_beL (fun x hx=>(uh H).byte x (List.mem_of_mem_drop hx)) 5 8 (by decide)
  have HI4:=hide hi4
  clear hi4
  by_cases hz2:X2 = 0
  ·have HN:=hide ((uh HNR).symm.trans (uh HBD (by unfold firstF; rw [← (uh HGG).2.1,if_neg]; rintro ⟨_,h,_⟩; omega)))
   have hz2':((X2:Int) == 0) = true:=by rw [hz2]; rfl
   clear hz2
   go_wp2
   refine bodyPost_ret (v:=.tuple #[.agg #[.int .u64 0,.slice none 0 0],.int .i64 n,.int .i64 2]) ?_ rfl ⟨_,by rw [uh HN]; rfl,by rw [uh HN]; exact NewP.nil _ _,xa0j (uh HQ4) w.heap.size (Nat.le_refl _) (.int .u64 0) (.slice none 0 0)⟩
   exact xa0a rfl _ _ w.heap.size _ #[.int .u64 0,.slice none 0 0] (0,0) _ rfl (xa0n (uh HG4') (.int .u64 0) (.slice none 0 0)) Tryz.underlying219 rfl Tryz.size_refframe _ _ rfl rfl
  have hz2':((X2:Int) == 0) = false:=by rw [beq_eq_false_iff_ne]; omega
  by_cases hm2:65535 < X2
  ·have HN:=hide ((uh HNR).symm.trans (uh HBD (by unfold firstF; rw [← (uh HGG).2.1,if_neg]; rintro ⟨_,_,h,_⟩; omega)))
   have hm2':(65535:Int) < X2:=by omega
   go_wp2
   refine bodyPost_ret (v:=.tuple #[.agg #[.int .u64 0,.slice none 0 0],.int .i64 n,.int .i64 2]) ?_ rfl ⟨_,by rw [uh HN]; rfl,by rw [uh HN]; exact NewP.nil _ _,xa0j (uh HQ4) w.heap.size (Nat.le_refl _) (.int .u64 0) (.slice none 0 0)⟩
   exact xa0a rfl _ _ w.heap.size _ #[.int .u64 0,.slice none 0 0] (0,0) _ rfl (xa0n (uh HG4') (.int .u64 0) (.slice none 0 0)) Tryz.underlying219 rfl Tryz.size_refframe _ _ rfl rfl
  have hm2':¬ (65535:Int) < X2:=by omega
  clear d0 d1 u0 u1
  go_wp2_with fail
  clear s0 s1 s2 t0 t1 t2
  refine Calls.mono (xa3u _ c1 p i4 f4 X2 _ ((uh H).old (uh HQ4) (by simp)) hl4 (by omega)) ?_
  rintro e5 w5 ⟨rv,rfl,r5,k5,b5⟩
  obtain ⟨pay5,i5,f5,hx5⟩:∃ X i f,rRaw p i4 f4 X2 = (X,i,f):=⟨_,_,_,rfl⟩
  have hl5:i5≤p.length:=by have:=xb8s (p:=p) (i:=i4) (e:=f4) (n:=X2) hl4; rw [hx5] at this; exact this
  rw [hx5] at r5 ⊢
  simp only at r5
  have HX5:=hide hx5
  have HB5:=hide r5
  have HBL:=hide (fun x hx=>by have h9:=b5 x hx; have h8:=lt_of_block (uh HP4); omega:∀ x∈blk rv,w.heap.size + 1 < x)
  have HR5:=hide (k5.heap (uh HP4) (by simp))
  have HG5:=hide (k5.heap (uh HG4') (by simp))
  have HK5:=hide ((uh HQ4).trans k5 (by simp))
  obtain ⟨ar,nr,cr,hrv,hnr,_⟩:=id r5
  subst hrv
  clear k5 hx5 r5 b5
  obtain ⟨⟨s0,s1,s2⟩,t0,t1,t2⟩:=three (uh HR5)
  have HP5:=hide (xa3a (uh HR5) (.slice (some ⟨bb,off,none⟩) p.length c1) (.int .i64 i5) (.int .i64 f5))
  have HQ5:=hide (xa2v (uh HK5) (w.heap.size + 1) (by omega) (.slice (some ⟨bb,off,none⟩) p.length c1) (.int .i64 i5) (.int .i64 f5))
  have HG5':=hide ((xa2a w5 (w.heap.size + 1) w.heap.size (by omega) (.slice (some ⟨bb,off,none⟩) p.length c1) (.int .i64 i5) (.int .i64 f5)).trans (uh HG5))
  have HB5':=hide ((uh HB5).kept (xa7d w5 (w.heap.size + 1) (.slice (some ⟨bb,off,none⟩) p.length c1) (.int .i64 i5) (.int .i64 f5)) (by intro x hx hm; have h9:=uh HBL x hx; rw [List.mem_singleton] at hm; omega))
  simp only
  go_wp2_with fail
  clear s0 s1 s2 t0 t1 t2
  refine Calls.mono (xa0k _ c1 p i5 f5 1 _ ((uh H).old (uh HQ5) (by simp)) hl5 (by decide)) ?_
  rintro e6 w6 ⟨rfl,k6⟩
  obtain ⟨X6,i6,f6,hx6⟩:∃ X i f,rNum p i5 f5 1 = (X,i,f):=⟨_,_,_,rfl⟩
  have hl6:i6≤p.length:=by have:=xa4l (p:=p) (i:=i5) (e:=f5) (n:=1) hl5; rw [hx6] at this; exact this
  rw [hx6]
  have HX6:=hide hx6
  have HR6:=hide (k6.heap (uh HP5) (by simp))
  have HG6:=hide (k6.heap (uh HG5') (by simp))
  have HK6:=hide ((uh HQ5).trans k6 (by simp))
  have HB6:=hide ((uh HB5').old k6 (by simp))
  clear k6 hx6
  obtain ⟨⟨s0,s1,s2⟩,t0,t1,t2⟩:=three (uh HR6)
  have HP6:=hide (xa3a (uh HR6) (.slice (some ⟨bb,off,none⟩) p.length c1) (.int .i64 i6) (.int .i64 f6))
  have HQ6:=hide (xa2v (uh HK6) (w.heap.size + 1) (by omega) (.slice (some ⟨bb,off,none⟩) p.length c1) (.int .i64 i6) (.int .i64 f6))
  have HG6':=hide ((xa2a w6 (w.heap.size + 1) w.heap.size (by omega) (.slice (some ⟨bb,off,none⟩) p.length c1) (.int .i64 i6) (.int .i64 f6)).trans (uh HG6))
  have HB6':=hide ((uh HB6).kept (xa7d w6 (w.heap.size + 1) (.slice (some ⟨bb,off,none⟩) p.length c1) (.int .i64 i6) (.int .i64 f6)) (by intro x hx hm; have h9:=uh HBL x hx; rw [List.mem_singleton] at hm; omega))
  simp only
  have HCI:=hide (chain6 (uh HF4) (uh HI4) (uh HX5) (uh HX6))
  go_wp2_with fail
  clear s0 s1 s2 t0 t1 t2
  obtain ⟨W6,hW6⟩:∃ W,((w6.setCell ⟨w.heap.size + 1,0,none⟩ (.slice (some ⟨bb,off,none⟩) p.length c1)).setCell ⟨w.heap.size + 1,1,none⟩ (.int .i64 (i6:Int))).setCell ⟨w.heap.size + 1,2,none⟩ (.int .i64 (f6:Int)) = W:=⟨_,rfl⟩
  rw [hW6] at HP6 HQ6 HG6' HB6' ⊢
  clear hW6
  have e0:W6.cell? ⟨w.heap.size,0,none⟩ = some (.int .u64 0):=by rw [cell_of_row _ _ _ _ _ _ (uh HG6')]; rfl
  have e1:W6.cell? ⟨w.heap.size,1,none⟩ = some (.slice none 0 0):=by rw [cell_of_row _ _ _ _ _ _ (uh HG6')]; rfl
  have v0:W6.frozen? ⟨w.heap.size,0,none⟩ = false:=frozen_of_row _ _ _ _ _ (uh HG6')
  have v1:W6.frozen? ⟨w.heap.size,1,none⟩ = false:=frozen_of_row _ _ _ _ _ (uh HG6')
  have r1:W6.cell? ⟨w.heap.size + 1,1,none⟩ = some (.int .i64 i6):=by rw [cell_of_row _ _ _ _ _ _ (uh HP6)]; rfl
  have r2:W6.cell? ⟨w.heap.size + 1,2,none⟩ = some (.int .i64 f6):=by rw [cell_of_row _ _ _ _ _ _ (uh HP6)]; rfl
  by_cases hf6:f6 = 0
  ·have hf6':((f6:Int) != 0) = false:=by rw [hf6]; rfl
   have HGI:=hide ((uh HCI).1 hf6)
   have HF6:=hide hf6
   clear hf6
   have hni:(n:Int)≤i6:=by have:=(uh HGI).2.2; omega
   have hip:(i6:Int)≤p.length:=by omega
   have hic:(i6:Int)≤c1:=by omega
   have hpl5:pay5.length = X2:=by rw [(uh HGI).2.1,List.length_take,List.length_drop]; have:=(uh HGI).1; omega
   have HPL:=hide hpl5
   clear hpl5
   have HLB:=hide (uh HB6').byte
   have HKd:=hide (uh HQ6).drew
   have HCUT:=hide (fun W (k:Kept [] w W)=>((uh H).cutN n i6 (by omega) (by omega)).old k (by simp))
   obtain ⟨D,hD⟩:∃ D,decide (frB X3 pay5 = (p.drop n).take (i6 - n)) = D:=⟨_,rfl⟩
   have HD:=hide hD
   clear hD
   go_region_held3 (fun w'=>w'.cell? ⟨w.heap.size + 1,1,none⟩ = some (.int .i64 i6)∧w'.cell? ⟨w.heap.size + 1,2,none⟩ = some (.int .i64 f6)) (go_keep) (first
    | (go_at_call 110; refine (xa2u X3 _ pay5 _ (by exact uh HB6') hx3 (by have:=uh HPL; omega)).mono ?_; rintro e w7 ⟨v7,rfl,r7,k7,_⟩; have j1:=k7.cell (show W6.drew.cell? _ = _ from r1) (by simp); have j2:=k7.cell (show W6.drew.cell? _ = _ from r2) (by simp); have HR7:=hide r7; have HK7:=hide ((uh HKd).trans k7 (by simp)); have HG7:=hide (k7.heap (show W6.drew.heap[w.heap.size]? = _ from uh HG6') (by simp)); have HP7:=hide (k7.heap (show W6.drew.heap[w.heap.size + 1]? = _ from uh HP6) (by simp)); have HB7:=hide ((uh HB6').old (show Kept [] W6 w7 from ⟨k7.os,k7.tape,k7.output,k7.size,k7.block⟩) (by simp)); clear r7 k7)
    | (go_at_call 103; refine (xa4z _ _ _ _ _ (by exact uh HR7) (by exact uh HCUT _ (uh HK7))).mono ?_; rintro e w8 ⟨rfl,m8,rfl⟩; rw [uh HD]))
   clear e0 e1 v0 v1 r1 r2
   have e0:w7.cell? ⟨w.heap.size,0,none⟩ = some (.int .u64 0):=by rw [cell_of_row _ _ _ _ _ _ (uh HG7)]; rfl
   have e1:w7.cell? ⟨w.heap.size,1,none⟩ = some (.slice none 0 0):=by rw [cell_of_row _ _ _ _ _ _ (uh HG7)]; rfl
   have v0:w7.frozen? ⟨w.heap.size,0,none⟩ = false:=frozen_of_row _ _ _ _ _ (uh HG7)
   have v1:w7.frozen? ⟨w.heap.size,1,none⟩ = false:=frozen_of_row _ _ _ _ _ (uh HG7)
   cases D with
   | false =>
    have HN:=hide ((uh HNR).symm.trans (uh HBD (docNone (uh HGG) (uh HGI) (by omega) (by omega) (uh H).byte (of_decide_eq_false (uh HD)))))
    go_wp2
    refine bodyPost_ret (v:=.tuple #[.agg #[.int .u64 0,.slice none 0 0],.int .i64 n,.int .i64 2]) ?_ rfl ⟨_,by rw [uh HN]; rfl,by rw [uh HN]; exact NewP.nil _ _,xa0j ((uh HK7).drewN _) w.heap.size (Nat.le_refl _) (.int .u64 0) (.slice none 0 0)⟩
    exact xa0a rfl _ _ w.heap.size 219 #[.int .u64 0,.slice none 0 0] (0,0) _ rfl (by exact xa0n (w:=w7.drewN _) (uh HG7) (.int .u64 0) (.slice none 0 0)) Tryz.underlying219 rfl Tryz.size_refframe _ _ rfl rfl
   | true =>
    have hfs:firstF (p.drop n) = some (X3,pay5):=by
     have h9:=of_decide_eq_true (uh HD)
     rw [show p.drop n = frB X3 pay5++(p.drop n).drop (i6 - n) by rw [h9,List.take_append_drop]]
     exact xa4d X3 pay5 _ hx3 (by rw [uh HPL]; omega) (by rw [uh HPL]; omega) (uh HLB)
    have HN:=hide ((uh HNR).symm.trans (by unfold nextF; rw [if_neg h1,if_neg (by omega),Int.toNat_natCast,hfs]:nextF p n = ⟨X3,pay5,(n:Int) + 18 + pay5.length,1⟩))
    have HI6:=hide (by rw [uh HPL,(uh HGI).2.2]; omega:(n:Int) + 18 + pay5.length = (i6:Int))
    clear hfs
    go_wp2_with fail
    obtain ⟨W7,hW7⟩:∃ W,w7.drewN m8 = W:=⟨_,rfl⟩
    have HKW:=hide ((uh HK7).drewN m8)
    have HGW:=hide (show (w7.drewN m8).heap[w.heap.size]? = _ from uh HG7)
    have HPW:=hide (show (w7.drewN m8).heap[w.heap.size + 1]? = _ from uh HP7)
    have HBW:=hide (show Rd (w7.drewN m8) _ _ from uh HB7)
    rw [hW7] at HKW HGW HPW HBW ⊢
    clear hW7 e0 e1 v0 v1
    have e0:W7.cell? ⟨w.heap.size,0,none⟩ = some (.int .u64 0):=by rw [cell_of_row _ _ _ _ _ _ (uh HGW)]; rfl
    have e1:W7.cell? ⟨w.heap.size,1,none⟩ = some (.slice none 0 0):=by rw [cell_of_row _ _ _ _ _ _ (uh HGW)]; rfl
    have v0:W7.frozen? ⟨w.heap.size,0,none⟩ = false:=frozen_of_row _ _ _ _ _ (uh HGW)
    have v1:W7.frozen? ⟨w.heap.size,1,none⟩ = false:=frozen_of_row _ _ _ _ _ (uh HGW)
    have r1:W7.cell? ⟨w.heap.size + 1,1,none⟩ = some (.int .i64 i6):=by rw [cell_of_row _ _ _ _ _ _ (uh HPW)]; rfl
    have HRQ:=hide ((uh HBW).kept (xa5i W7 w.heap.size (.int .u64 X3) (.slice ar nr cr)) (by
     intro x hx hm
     have h9:=uh HBL x hx
     have h8:x = w.heap.size:=by simpa using hm
     omega))
    go_region_held3 (fun w'=>w'.cell? ⟨w.heap.size + 1,1,none⟩ = some (.int .i64 i6)) (go_keep) (fail)
    all_goals go_wp2
    all_goals
     refine bodyPost_ret (v:=.tuple #[.agg #[.int .u64 X3,.slice ar nr cr],.int .i64 i6,.int .i64 1]) ?_ rfl ⟨.slice ar nr cr,by rw [uh HN]; simp only; rw [uh HI6]; rfl,by rw [uh HN]; exact ⟨uh HRQ,fun x hx=>by have:=uh HBL x hx; omega⟩,(xa0j (uh HKW) w.heap.size (Nat.le_refl _) (.int .u64 X3) (.slice ar nr cr)).drew⟩
     exact xa0a rfl _ _ w.heap.size 219 #[.int .u64 X3,.slice ar nr cr] (0,0) _ rfl (by exact xa0n (uh HGW) (.int .u64 X3) (.slice ar nr cr)) Tryz.underlying219 rfl Tryz.size_refframe _ _ rfl rfl
  ·have hf6':((f6:Int) != 0) = true:=by rw [bne_iff_ne]; omega
   have HN:=hide ((uh HNR).symm.trans (uh HBD (by
    unfold firstF
    rw [← (uh HGG).2.1,if_neg]
    rintro ⟨_,_,_,h,_⟩
    rw [List.length_drop] at h
    have:=(uh HCI).2 hf6
    omega)))
   have hf6a:(f6 == 0) = false:=by rw [beq_eq_false_iff_ne]; exact hf6
   go_quiet (fail)
   go_wp2
   refine bodyPost_ret (v:=.tuple #[.agg #[.int .u64 0,.slice none 0 0],.int .i64 n,.int .i64 2]) ?_ rfl ⟨_,by rw [uh HN]; rfl,by rw [uh HN]; exact NewP.nil _ _,xa0j ((uh HQ6).drewN _) w.heap.size (Nat.le_refl _) (.int .u64 0) (.slice none 0 0)⟩
   exact xa0a rfl _ _ w.heap.size 219 #[.int .u64 0,.slice none 0 0] (0,0) _ rfl (by exact xa0n (w:=W6.drewN _) (uh HG6') (.int .u64 0) (.slice none 0 0)) Tryz.underlying219 rfl Tryz.size_refframe _ _ rfl rfl
 ·have hf4':((f4:Int) != 0) = true:=by rw [bne_iff_ne]; omega
  have HN:=hide ((uh HNR).symm.trans (uh HBD (xa3d (by have:=(uh HCH).2 hf4; rw [List.length_drop]; omega))))
  go_wp2
  refine bodyPost_ret (v:=.tuple #[.agg #[.int .u64 0,.slice none 0 0],.int .i64 n,.int .i64 2]) ?_ rfl ⟨_,by rw [uh HN]; rfl,by rw [uh HN]; exact NewP.nil _ _,xa0j (uh HQ4) w.heap.size (Nat.le_refl _) (.int .u64 0) (.slice none 0 0)⟩
  exact xa0a rfl _ _ w.heap.size _ #[.int .u64 0,.slice none 0 0] (0,0) _ rfl (xa0n (uh HG4') (.int .u64 0) (.slice none 0 0)) Tryz.underlying219 rfl Tryz.size_refframe _ _ rfl rfl
theorem xb0j {pay raw:List Nat} {i0 e0:Nat} (h:rRaw pay 0 0 5 = (raw,i0,e0)):(5≤pay.length∧i0 = 5∧e0 = 0)∨(pay.length < 5∧e0≠0∧i0 = 0):=by
 unfold rRaw at h
 rw [if_neg (by simp),if_neg (by omega)] at h
 by_cases hl:pay.length < 5
 ·rw [if_pos (by omega)] at h
  simp only [Prod.mk.injEq] at h
  exact Or.inr ⟨hl,by omega,by omega⟩
 ·rw [if_neg (by omega)] at h
  simp only [Prod.mk.injEq] at h
  refine Or.inl ⟨by omega,?_,by omega⟩
  have:=h.2.1
  simp at this
  omega
theorem headChain {pay raw:List Nat} {i0 e0 a i1 e1 b i2 e2 c i3 e3 d i4 e4:Nat} (h0:rRaw pay 0 0 5 = (raw,i0,e0)) (h1:rNum pay i0 e0 8 = (a,i1,e1)) (h2:rNum pay i1 e1 8 = (b,i2,e2)) (h3:rNum pay i2 e2 8 = (c,i3,e3)) (h4:rNum pay i3 e3 1 = (d,i4,e4)) :
  (e4 = 0→30≤pay.length∧a = beL ((pay.drop 5).take 8)∧b = beL ((pay.drop 13).take 8)∧c = beL ((pay.drop 21).take 8)∧d = beL ((pay.drop 29).take 1))∧(e4≠0→pay.length < 30):=by
 refine ⟨fun he=>?_,fun he=>?_⟩
 ·subst he
  obtain ⟨f3,l3,x3,j3⟩:=xa1n h4
  subst f3
  obtain ⟨f2,l2,x2,j2⟩:=xa1n h3
  subst f2
  obtain ⟨f1,l1,x1,j1⟩:=xa1n h2
  subst f1
  obtain ⟨f0,l0,x0,j0⟩:=xa1n h1
  rcases xb0j h0 with ⟨_,q,_⟩ | ⟨_,q,_⟩
  ·subst q
   subst j0
   subst j1
   subst j2
   exact ⟨by omega,x0,x1,x2,x3⟩
  ·exact absurd f0 q
 ·rcases Nat.lt_or_ge pay.length 30 with hl | hl
  ·exact hl
  ·exfalso
   rcases xb0j h0 with ⟨_,q,q2⟩ | ⟨q,_,_⟩
   ·subst q
    subst q2
    by_cases g1:e1 = 0
    ·subst g1
     obtain ⟨_,_,_,j0⟩:=xa1n h1
     subst j0
     by_cases g2:e2 = 0
     ·subst g2
      obtain ⟨_,_,_,j1⟩:=xa1n h2
      subst j1
      by_cases g3:e3 = 0
      ·subst g3
       obtain ⟨_,_,_,j2⟩:=xa1n h3
       subst j2
       rcases xa1k h4 he with q | q
       ·exact q rfl
       ·omega
      ·rcases xa1k h3 g3 with q | q
       ·exact q rfl
       ·omega
     ·rcases xa1k h2 g2 with q | q
      ·exact q rfl
      ·omega
    ·rcases xa1k h1 g1 with q | q
     ·exact q rfl
     ·omega
   ·omega
theorem xb8z {p:List Nat} {i:Nat} (hb:∀ x∈p,x < 256) (hi:i < p.length):beL ((p.drop i).take 1) = p.getD i 0:=by
 have h1:=xa8i (p.drop i) (fun x hx=>hb x (List.mem_of_mem_drop hx)) (by simp; omega)
 rw [List.drop_zero] at h1
 rw [h1]
 simp [List.getD_eq_getElem?_getD,List.getElem?_drop]
theorem xc2l {p:List Nat} (hb:∀ x∈p,x < 256) (i:Nat):p.getD i 0 < 256:=by
 rw [List.getD_eq_getElem?_getD]
 by_cases h:i < p.length
 ·rw [List.getElem?_eq_getElem h]; exact hb _ (List.getElem_mem _)
 ·rw [List.getElem?_eq_none (by omega)]; simp
theorem xc2w {pl pl':Nat} {pay pay':List Nat} (h:frB pl pay = frB pl' pay') (hpl:pl < 18446744073709551616) (hpl':pl' < 18446744073709551616) (h1:1≤pay.length) (hl:pay.length≤65535) (hb:∀ x∈pay,x < 256) (h1':1≤pay'.length) (hl':pay'.length≤65535) (hb':∀ x∈pay',x < 256):pl = pl'∧pay = pay':=by
 have e1:=xa4d pl pay [] hpl h1 hl hb
 have e2:=xa4d pl' pay' [] hpl' h1' hl' hb'
 rw [h,e2] at e1
 simp only [Option.some.injEq,Prod.mk.injEq] at e1
 exact ⟨e1.1.symm,e1.2.symm⟩
theorem cut30 {p:List Nat} (h:p.length = 30):p = p.take 5++(p.drop 5).take 8++(p.drop 13).take 8++(p.drop 21).take 8++[p.getD 29 0]:=by
 have hd:(p.drop 29) = [p.getD 29 0]:=by
  rw [List.drop_eq_getElem_cons (by omega),List.drop_eq_nil_of_le (by omega)]
  simp [List.getD_eq_getElem?_getD,List.getElem?_eq_getElem (show 29 < p.length by omega)]
 rw [← hd]
 have e1:p = p.take 5++p.drop 5:=(List.take_append_drop 5 p).symm
 have e2:p.drop 5 = (p.drop 5).take 8++p.drop 13:=by
  have:=(List.take_append_drop 8 (p.drop 5)).symm
  rwa [List.drop_drop] at this
 have e3:p.drop 13 = (p.drop 13).take 8++p.drop 21:=by
  have:=(List.take_append_drop 8 (p.drop 13)).symm
  rwa [List.drop_drop] at this
 have e4:p.drop 21 = (p.drop 21).take 8++p.drop 29:=by
  have:=(List.take_append_drop 8 (p.drop 21)).symm
  rwa [List.drop_drop] at this
 have e5:p.take 5++(p.drop 5).take 8++(p.drop 13).take 8++(p.drop 21).take 8++p.drop 29 = p:=by
  rw [List.append_assoc,List.append_assoc,List.append_assoc,← e4,← e3,← e2]
  exact e1.symm
 exact e5.symm
theorem xc3m {pl a b c d:Nat} {pay:List Nat} (hb:∀ x∈pay,x < 256) (hpl:pl < 18446744073709551616) (h30:30≤pay.length) (hl:pay.length≤65535) (ha:a = beL ((pay.drop 5).take 8)) (hbb:b = beL ((pay.drop 13).take 8)) (hc:c = beL ((pay.drop 21).take 8)) (hd:d = beL ((pay.drop 29).take 1)) :
  payH pl pay = (wideB (d:Int) && decide (frB a (headB a b c d) = frB pl pay)):=by
 rw [xb8z hb (by omega)] at hd
 have hd256:d < 256:=by rw [hd]; exact xc2l hb 29
 have hw:wideB (d:Int) = decide (1≤d∧d≤32):=by unfold wideB; simp only [decide_eq_decide]; omega
 have hdm:((d:Int) % 256).toNat = d:=by omega
 have hal:a < 18446744073709551616:=by rw [ha]; exact beL_lt _
 have hz:(headB a b c (d:Int)).length = 30:=xb0n a b c d
 rw [hw]
 unfold payH
 rw [Bool.eq_iff_iff]
 simp only [decide_eq_true_eq,Bool.and_eq_true]
 constructor
 ·rintro ⟨k1,k2,k3,k4,k5⟩
  rw [← hd] at k4 k5
  refine ⟨⟨k4,k5⟩,?_⟩
  have hap:a = pl:=by rw [ha,k3]
  have hpay:headB a b c (d:Int) = pay:=by
   have w1:=(xa1v (r:=(pay.drop 5).take 8) (fun y hy=>hb y (List.mem_of_mem_drop (List.mem_of_mem_take hy))) (by simp; omega)).1
   have w2:=(xa1v (r:=(pay.drop 13).take 8) (fun y hy=>hb y (List.mem_of_mem_drop (List.mem_of_mem_take hy))) (by simp; omega)).1
   have w3:=(xa1v (r:=(pay.drop 21).take 8) (fun y hy=>hb y (List.mem_of_mem_drop (List.mem_of_mem_take hy))) (by simp; omega)).1
   rw [show ((pay.drop 5).take 8).length = 8 by simp; omega,← ha] at w1
   rw [show ((pay.drop 13).take 8).length = 8 by simp; omega,← hbb] at w2
   rw [show ((pay.drop 21).take 8).length = 8 by simp; omega,← hc] at w3
   have hcut:=cut30 k1
   rw [← w1,← w2,← w3,k2,← hd] at hcut
   unfold headB
   rw [hdm]
   exact hcut.symm
  rw [hpay,hap]
 ·rintro ⟨⟨k4,k5⟩,k⟩
  obtain ⟨q1,q2⟩:=xc2w k hal hpl (by omega) (by omega) (xb4q a b c d) (by omega) hl hb
  obtain ⟨p1,_⟩:=xb1x a b c (d:Int)
  rw [q2] at p1 hz
  exact ⟨hz,p1,by rw [← ha]; exact q1,by rw [← hd]; exact k4,by rw [← hd]; exact k5⟩
theorem xb8k {p:List Nat} {i e:Nat} (hb:∀ x∈p,x < 256):(rNum p i e 1).1 < 256:=by
 unfold rNum
 split
 ·simp
 split
 ·simp
 ·have:=Tryz.lt_of_beL hb i 1 (by omega)
  simpa using this
theorem xb5u {p:List Nat} {i e n X j f:Nat} (h:rNum p i e n = (X,j,f)):X < 18446744073709551616:=by
 unfold rNum at h
 split at h
 ·simp only [Prod.mk.injEq] at h; omega
 split at h
 ·simp only [Prod.mk.injEq] at h; omega
 ·simp only [Prod.mk.injEq] at h; rw [← h.1]; exact beL_lt _
theorem xb3x {pl:Nat} {pay:List Nat} (h:pay.length < 30):payH pl pay = false:=by
 unfold payH
 rw [decide_eq_false_iff_not]
 omega
end
section
open Go Go.RowKit Go.BigFrame
section
variable {P:Program} {Q:Exit→Act→World→Prop}
theorem xc3n {id:Nat} {o0 o1 o2 o3 o4 o5 o6 o7 o8 o9 o10 o11 o12 o13 o14 o15 o16 o17 o18:Oper} {a:Act} {w:World} (hm:P.follows .mixedOrders = true) (hs:Region.noSelect #[o0,o1,o2,o3,o4,o5,o6,o7,o8,o9,o10,o11,o12,o13,o14,o15,o16,o17,o18] = true)
  (f0:Region.free .any #[o0,o1,o2,o3,o4,o5,o6,o7,o8,o9,o10,o11,o12,o13,o14,o15,o16,o17,o18] #[false,false,false,false,false,false,false,false,false,false,false,false,false,false,false,false,false,false,false] 0 = true) (r0:(Region.ready .any #[o0,o1,o2,o3,o4,o5,o6,o7,o8,o9,o10,o11,o12,o13,o14,o15,o16,o17,o18] #[false,false,false,false,false,false,false,false,false,false,false,false,false,false,false,false,false,false,false]).contains 0 = true)
  (f1:Region.free .any #[o0,o1,o2,o3,o4,o5,o6,o7,o8,o9,o10,o11,o12,o13,o14,o15,o16,o17,o18] #[true,false,false,false,false,false,false,false,false,false,false,false,false,false,false,false,false,false,false] 1 = true) (r1:(Region.ready .any #[o0,o1,o2,o3,o4,o5,o6,o7,o8,o9,o10,o11,o12,o13,o14,o15,o16,o17,o18] #[true,false,false,false,false,false,false,false,false,false,false,false,false,false,false,false,false,false,false]).contains 1 = true)
  (f2:Region.free .any #[o0,o1,o2,o3,o4,o5,o6,o7,o8,o9,o10,o11,o12,o13,o14,o15,o16,o17,o18] #[true,true,false,false,false,false,false,false,false,false,false,false,false,false,false,false,false,false,false] 2 = true) (r2:(Region.ready .any #[o0,o1,o2,o3,o4,o5,o6,o7,o8,o9,o10,o11,o12,o13,o14,o15,o16,o17,o18] #[true,true,false,false,false,false,false,false,false,false,false,false,false,false,false,false,false,false,false]).contains 2 = true)
  (f3:Region.free .any #[o0,o1,o2,o3,o4,o5,o6,o7,o8,o9,o10,o11,o12,o13,o14,o15,o16,o17,o18] #[true,true,true,false,false,false,false,false,false,false,false,false,false,false,false,false,false,false,false] 3 = true) (r3:(Region.ready .any #[o0,o1,o2,o3,o4,o5,o6,o7,o8,o9,o10,o11,o12,o13,o14,o15,o16,o17,o18] #[true,true,true,false,false,false,false,false,false,false,false,false,false,false,false,false,false,false,false]).contains 3 = true)
  (f4:Region.free .any #[o0,o1,o2,o3,o4,o5,o6,o7,o8,o9,o10,o11,o12,o13,o14,o15,o16,o17,o18] #[true,true,true,true,false,false,false,false,false,false,false,false,false,false,false,false,false,false,false] 4 = true) (r4:(Region.ready .any #[o0,o1,o2,o3,o4,o5,o6,o7,o8,o9,o10,o11,o12,o13,o14,o15,o16,o17,o18] #[true,true,true,true,false,false,false,false,false,false,false,false,false,false,false,false,false,false,false]).contains 4 = true)
  (f5:Region.free .any #[o0,o1,o2,o3,o4,o5,o6,o7,o8,o9,o10,o11,o12,o13,o14,o15,o16,o17,o18] #[true,true,true,true,true,false,false,false,false,false,false,false,false,false,false,false,false,false,false] 5 = true) (r5:(Region.ready .any #[o0,o1,o2,o3,o4,o5,o6,o7,o8,o9,o10,o11,o12,o13,o14,o15,o16,o17,o18] #[true,true,true,true,true,false,false,false,false,false,false,false,false,false,false,false,false,false,false]).contains 5 = true)
  (q_:Region.ready .any #[o0,o1,o2,o3,o4,o5,o6,o7,o8,o9,o10,o11,o12,o13,o14,o15,o16,o17,o18] #[true,true,true,true,true,true,false,false,false,false,false,false,false,false,false,false,false,false,false] = [6])
  (f_6_7:Region.free .any #[o0,o1,o2,o3,o4,o5,o6,o7,o8,o9,o10,o11,o12,o13,o14,o15,o16,o17,o18] #[true,true,true,true,true,true,true,false,false,false,false,false,false,false,false,false,false,false,false] 7 = true) (r_6_7:(Region.ready .any #[o0,o1,o2,o3,o4,o5,o6,o7,o8,o9,o10,o11,o12,o13,o14,o15,o16,o17,o18] #[true,true,true,true,true,true,true,false,false,false,false,false,false,false,false,false,false,false,false]).contains 7 = true)
  (f_6_8:Region.free .any #[o0,o1,o2,o3,o4,o5,o6,o7,o8,o9,o10,o11,o12,o13,o14,o15,o16,o17,o18] #[true,true,true,true,true,true,true,true,false,false,false,false,false,false,false,false,false,false,false] 8 = true) (r_6_8:(Region.ready .any #[o0,o1,o2,o3,o4,o5,o6,o7,o8,o9,o10,o11,o12,o13,o14,o15,o16,o17,o18] #[true,true,true,true,true,true,true,true,false,false,false,false,false,false,false,false,false,false,false]).contains 8 = true)
  (f_6_9:Region.free .any #[o0,o1,o2,o3,o4,o5,o6,o7,o8,o9,o10,o11,o12,o13,o14,o15,o16,o17,o18] #[true,true,true,true,true,true,true,true,true,false,false,false,false,false,false,false,false,false,false] 9 = true) (r_6_9:(Region.ready .any #[o0,o1,o2,o3,o4,o5,o6,o7,o8,o9,o10,o11,o12,o13,o14,o15,o16,o17,o18] #[true,true,true,true,true,true,true,true,true,false,false,false,false,false,false,false,false,false,false]).contains 9 = true)
  (f_6_11:Region.free .any #[o0,o1,o2,o3,o4,o5,o6,o7,o8,o9,o10,o11,o12,o13,o14,o15,o16,o17,o18] #[true,true,true,true,true,true,true,true,true,true,false,false,false,false,false,false,false,false,false] 11 = true) (r_6_11:(Region.ready .any #[o0,o1,o2,o3,o4,o5,o6,o7,o8,o9,o10,o11,o12,o13,o14,o15,o16,o17,o18] #[true,true,true,true,true,true,true,true,true,true,false,false,false,false,false,false,false,false,false]).contains 11 = true)
  (f_6_12:Region.free .any #[o0,o1,o2,o3,o4,o5,o6,o7,o8,o9,o10,o11,o12,o13,o14,o15,o16,o17,o18] #[true,true,true,true,true,true,true,true,true,true,false,true,false,false,false,false,false,false,false] 12 = true) (r_6_12:(Region.ready .any #[o0,o1,o2,o3,o4,o5,o6,o7,o8,o9,o10,o11,o12,o13,o14,o15,o16,o17,o18] #[true,true,true,true,true,true,true,true,true,true,false,true,false,false,false,false,false,false,false]).contains 12 = true)
  (f_6_13:Region.free .any #[o0,o1,o2,o3,o4,o5,o6,o7,o8,o9,o10,o11,o12,o13,o14,o15,o16,o17,o18] #[true,true,true,true,true,true,true,true,true,true,false,true,true,false,false,false,false,false,false] 13 = true) (r_6_13:(Region.ready .any #[o0,o1,o2,o3,o4,o5,o6,o7,o8,o9,o10,o11,o12,o13,o14,o15,o16,o17,o18] #[true,true,true,true,true,true,true,true,true,true,false,true,true,false,false,false,false,false,false]).contains 13 = true)
  (f_6_14:Region.free .any #[o0,o1,o2,o3,o4,o5,o6,o7,o8,o9,o10,o11,o12,o13,o14,o15,o16,o17,o18] #[true,true,true,true,true,true,true,true,true,true,false,true,true,true,false,false,false,false,false] 14 = true) (r_6_14:(Region.ready .any #[o0,o1,o2,o3,o4,o5,o6,o7,o8,o9,o10,o11,o12,o13,o14,o15,o16,o17,o18] #[true,true,true,true,true,true,true,true,true,true,false,true,true,true,false,false,false,false,false]).contains 14 = true)
  (q6_:Region.ready .any #[o0,o1,o2,o3,o4,o5,o6,o7,o8,o9,o10,o11,o12,o13,o14,o15,o16,o17,o18] #[true,true,true,true,true,true,true,true,true,true,false,true,true,true,true,false,false,false,false] = [10])
  (q6_10_:Region.ready .any #[o0,o1,o2,o3,o4,o5,o6,o7,o8,o9,o10,o11,o12,o13,o14,o15,o16,o17,o18] #[true,true,true,true,true,true,true,true,true,true,true,true,true,true,true,false,false,false,false] = [15])
  (q6_10_15_:Region.ready .any #[o0,o1,o2,o3,o4,o5,o6,o7,o8,o9,o10,o11,o12,o13,o14,o15,o16,o17,o18] #[true,true,true,true,true,true,true,true,true,true,true,true,true,true,true,true,false,false,false] = [16])
  (f6_10_15_16_17:Region.free .any #[o0,o1,o2,o3,o4,o5,o6,o7,o8,o9,o10,o11,o12,o13,o14,o15,o16,o17,o18] #[true,true,true,true,true,true,true,true,true,true,true,true,true,true,true,true,true,false,false] 17 = true) (r6_10_15_16_17:(Region.ready .any #[o0,o1,o2,o3,o4,o5,o6,o7,o8,o9,o10,o11,o12,o13,o14,o15,o16,o17,o18] #[true,true,true,true,true,true,true,true,true,true,true,true,true,true,true,true,true,false,false]).contains 17 = true)
  (f6_10_15_16_18:Region.free .any #[o0,o1,o2,o3,o4,o5,o6,o7,o8,o9,o10,o11,o12,o13,o14,o15,o16,o17,o18] #[true,true,true,true,true,true,true,true,true,true,true,true,true,true,true,true,true,true,false] 18 = true) (r6_10_15_16_18:(Region.ready .any #[o0,o1,o2,o3,o4,o5,o6,o7,o8,o9,o10,o11,o12,o13,o14,o15,o16,o17,o18] #[true,true,true,true,true,true,true,true,true,true,true,true,true,true,true,true,true,true,false]).contains 18 = true)
  (q6_10_15_16_:Region.ready .any #[o0,o1,o2,o3,o4,o5,o6,o7,o8,o9,o10,o11,o12,o13,o14,o15,o16,o17,o18] #[true,true,true,true,true,true,true,true,true,true,true,true,true,true,true,true,true,true,true] = [])
  (ne14_10:∀ d,o14.dst = some d→o10.dst≠some d)
  (ne13_10:∀ d,o13.dst = some d→o10.dst≠some d)
  (ne12_10:∀ d,o12.dst = some d→o10.dst≠some d)
  (ne11_10:∀ d,o11.dst = some d→o10.dst≠some d)
  (v0 v1 v2 v3 v4 v5:Value) (A0 A1 A2 A3 A4 A5:Act)
  (S:World→Prop)
  (I_:World→Prop)
  (I6_:Value→World→Prop)
  (I6_10_:Value→Value→World→Prop)
  (I6_10_15_:Value→Value→Value→World→Prop)
  (I6_10_15_16_:Value→Value→Value→Value→World→Prop)
  (v7:Value→Value)
  (v8:Value→Value)
  (v9:Value→Value)
  (v11:Value→Value)
  (v12:Value→Value)
  (v13:Value→Value)
  (v14:Value→Value)
  (v17:Value→Value→Value→Value→Value)
  (v18:Value→Value→Value→Value→Value)
  (p0:a.put o0.dst v0 = A0) (hy0:YieldsIf P #[o0,o1,o2,o3,o4,o5,o6,o7,o8,o9,o10,o11,o12,o13,o14,o15,o16,o17,o18] S o0 v0 a)
  (p1:A0.put o1.dst v1 = A1) (hy1:YieldsIf P #[o0,o1,o2,o3,o4,o5,o6,o7,o8,o9,o10,o11,o12,o13,o14,o15,o16,o17,o18] S o1 v1 A0)
  (p2:A1.put o2.dst v2 = A2) (hy2:YieldsIf P #[o0,o1,o2,o3,o4,o5,o6,o7,o8,o9,o10,o11,o12,o13,o14,o15,o16,o17,o18] S o2 v2 A1)
  (p3:A2.put o3.dst v3 = A3) (hy3:YieldsIf P #[o0,o1,o2,o3,o4,o5,o6,o7,o8,o9,o10,o11,o12,o13,o14,o15,o16,o17,o18] S o3 v3 A2)
  (p4:A3.put o4.dst v4 = A4) (hy4:YieldsIf P #[o0,o1,o2,o3,o4,o5,o6,o7,o8,o9,o10,o11,o12,o13,o14,o15,o16,o17,o18] S o4 v4 A3)
  (p5:A4.put o5.dst v5 = A5) (hy5:YieldsIf P #[o0,o1,o2,o3,o4,o5,o6,o7,o8,o9,o10,o11,o12,o13,o14,o15,o16,o17,o18] S o5 v5 A4)
  (i0:I_ w.drew)
  (hIS:(∀ w',I_  w'→S w')∧(∀ (u6:Value) w',I6_ u6 w'→S w')∧(∀ (u6 u10:Value) w',I6_10_ u6 u10 w'→S w')∧(∀ (u6 u10 u15:Value) w',I6_10_15_ u6 u10 u15 w'→S w')∧(∀ (u6 u10 u15 u16:Value) w',I6_10_15_16_ u6 u10 u15 u16 w'→S w'))
  (wg_6:Region.wanted o6 (yielded #[o0,o1,o2,o3,o4,o5,o6,o7,o8,o9,o10,o11,o12,o13,o14,o15,o16,o17,o18] A5.tmps) = true)
  (wg6_10:∀ (u6:Value),Region.wanted o10 (yielded #[o0,o1,o2,o3,o4,o5,o6,o7,o8,o9,o10,o11,o12,o13,o14,o15,o16,o17,o18] ((((((((A5.put o6.dst u6).put o7.dst (v7 u6)).put o8.dst (v8 u6)).put o9.dst (v9 u6)).put o11.dst (v11 u6)).put o12.dst (v12 u6)).put o13.dst (v13 u6)).put o14.dst (v14 u6)).tmps) = true)
  (wg6_10_15:∀ (u6 u10:Value),Region.wanted o15 (yielded #[o0,o1,o2,o3,o4,o5,o6,o7,o8,o9,o10,o11,o12,o13,o14,o15,o16,o17,o18] (((((((((A5.put o6.dst u6).put o7.dst (v7 u6)).put o8.dst (v8 u6)).put o9.dst (v9 u6)).put o10.dst u10).put o11.dst (v11 u6)).put o12.dst (v12 u6)).put o13.dst (v13 u6)).put o14.dst (v14 u6)).tmps) = true)
  (wg6_10_15_16:∀ (u6 u10 u15:Value),Region.wanted o16 (yielded #[o0,o1,o2,o3,o4,o5,o6,o7,o8,o9,o10,o11,o12,o13,o14,o15,o16,o17,o18] ((((((((((A5.put o6.dst u6).put o7.dst (v7 u6)).put o8.dst (v8 u6)).put o9.dst (v9 u6)).put o10.dst u10).put o11.dst (v11 u6)).put o12.dst (v12 u6)).put o13.dst (v13 u6)).put o14.dst (v14 u6)).put o15.dst u15).tmps) = true)
  (s_6:∀ w',I_  w'→∀ K:Act→World→Prop,(∀ (u6:Value) w2,I6_ u6 w2→K (A5.put o6.dst u6) w2)→o6.wp P A5 w' K (NoPanic Q))
  (s6_10:∀ (u6:Value) w',I6_ u6 w'→∀ K:Act→World→Prop,(∀ (u10:Value) w2,I6_10_ u6 u10 w2→K (((((((((A5.put o6.dst u6).put o7.dst (v7 u6)).put o8.dst (v8 u6)).put o9.dst (v9 u6)).put o11.dst (v11 u6)).put o12.dst (v12 u6)).put o13.dst (v13 u6)).put o14.dst (v14 u6)).put o10.dst u10) w2)→o10.wp P ((((((((A5.put o6.dst u6).put o7.dst (v7 u6)).put o8.dst (v8 u6)).put o9.dst (v9 u6)).put o11.dst (v11 u6)).put o12.dst (v12 u6)).put o13.dst (v13 u6)).put o14.dst (v14 u6)) w' K (NoPanic Q))
  (s6_10_15:∀ (u6 u10:Value) w',I6_10_ u6 u10 w'→∀ K:Act→World→Prop,(∀ (u15:Value) w2,I6_10_15_ u6 u10 u15 w2→K ((((((((((A5.put o6.dst u6).put o7.dst (v7 u6)).put o8.dst (v8 u6)).put o9.dst (v9 u6)).put o10.dst u10).put o11.dst (v11 u6)).put o12.dst (v12 u6)).put o13.dst (v13 u6)).put o14.dst (v14 u6)).put o15.dst u15) w2)→o15.wp P (((((((((A5.put o6.dst u6).put o7.dst (v7 u6)).put o8.dst (v8 u6)).put o9.dst (v9 u6)).put o10.dst u10).put o11.dst (v11 u6)).put o12.dst (v12 u6)).put o13.dst (v13 u6)).put o14.dst (v14 u6)) w' K (NoPanic Q))
  (s6_10_15_16:∀ (u6 u10 u15:Value) w',I6_10_15_ u6 u10 u15 w'→∀ K:Act→World→Prop,(∀ (u16:Value) w2,I6_10_15_16_ u6 u10 u15 u16 w2→K (((((((((((A5.put o6.dst u6).put o7.dst (v7 u6)).put o8.dst (v8 u6)).put o9.dst (v9 u6)).put o10.dst u10).put o11.dst (v11 u6)).put o12.dst (v12 u6)).put o13.dst (v13 u6)).put o14.dst (v14 u6)).put o15.dst u15).put o16.dst u16) w2)→o16.wp P ((((((((((A5.put o6.dst u6).put o7.dst (v7 u6)).put o8.dst (v8 u6)).put o9.dst (v9 u6)).put o10.dst u10).put o11.dst (v11 u6)).put o12.dst (v12 u6)).put o13.dst (v13 u6)).put o14.dst (v14 u6)).put o15.dst u15) w' K (NoPanic Q))
  (y_6_7:∀ (u6:Value) w',I6_ u6 w'→YieldsIf P #[o0,o1,o2,o3,o4,o5,o6,o7,o8,o9,o10,o11,o12,o13,o14,o15,o16,o17,o18] S o7 (v7 u6) (A5.put o6.dst u6))
  (y_6_8:∀ (u6:Value) w',I6_ u6 w'→YieldsIf P #[o0,o1,o2,o3,o4,o5,o6,o7,o8,o9,o10,o11,o12,o13,o14,o15,o16,o17,o18] S o8 (v8 u6) ((A5.put o6.dst u6).put o7.dst (v7 u6)))
  (y_6_9:∀ (u6:Value) w',I6_ u6 w'→YieldsIf P #[o0,o1,o2,o3,o4,o5,o6,o7,o8,o9,o10,o11,o12,o13,o14,o15,o16,o17,o18] S o9 (v9 u6) (((A5.put o6.dst u6).put o7.dst (v7 u6)).put o8.dst (v8 u6)))
  (y_6_11:∀ (u6:Value) w',I6_ u6 w'→YieldsIf P #[o0,o1,o2,o3,o4,o5,o6,o7,o8,o9,o10,o11,o12,o13,o14,o15,o16,o17,o18] S o11 (v11 u6) ((((A5.put o6.dst u6).put o7.dst (v7 u6)).put o8.dst (v8 u6)).put o9.dst (v9 u6)))
  (y_6_12:∀ (u6:Value) w',I6_ u6 w'→YieldsIf P #[o0,o1,o2,o3,o4,o5,o6,o7,o8,o9,o10,o11,o12,o13,o14,o15,o16,o17,o18] S o12 (v12 u6) (((((A5.put o6.dst u6).put o7.dst (v7 u6)).put o8.dst (v8 u6)).put o9.dst (v9 u6)).put o11.dst (v11 u6)))
  (y_6_13:∀ (u6:Value) w',I6_ u6 w'→YieldsIf P #[o0,o1,o2,o3,o4,o5,o6,o7,o8,o9,o10,o11,o12,o13,o14,o15,o16,o17,o18] S o13 (v13 u6) ((((((A5.put o6.dst u6).put o7.dst (v7 u6)).put o8.dst (v8 u6)).put o9.dst (v9 u6)).put o11.dst (v11 u6)).put o12.dst (v12 u6)))
  (y_6_14:∀ (u6:Value) w',I6_ u6 w'→YieldsIf P #[o0,o1,o2,o3,o4,o5,o6,o7,o8,o9,o10,o11,o12,o13,o14,o15,o16,o17,o18] S o14 (v14 u6) (((((((A5.put o6.dst u6).put o7.dst (v7 u6)).put o8.dst (v8 u6)).put o9.dst (v9 u6)).put o11.dst (v11 u6)).put o12.dst (v12 u6)).put o13.dst (v13 u6)))
  (y6_10_15_16_17:∀ (u6 u10 u15 u16:Value) w',I6_10_15_16_ u6 u10 u15 u16 w'→YieldsIf P #[o0,o1,o2,o3,o4,o5,o6,o7,o8,o9,o10,o11,o12,o13,o14,o15,o16,o17,o18] S o17 (v17 u6 u10 u15 u16) (((((((((((A5.put o6.dst u6).put o7.dst (v7 u6)).put o8.dst (v8 u6)).put o9.dst (v9 u6)).put o10.dst u10).put o11.dst (v11 u6)).put o12.dst (v12 u6)).put o13.dst (v13 u6)).put o14.dst (v14 u6)).put o15.dst u15).put o16.dst u16))
  (y6_10_15_16_18:∀ (u6 u10 u15 u16:Value) w',I6_10_15_16_ u6 u10 u15 u16 w'→YieldsIf P #[o0,o1,o2,o3,o4,o5,o6,o7,o8,o9,o10,o11,o12,o13,o14,o15,o16,o17,o18] S o18 (v18 u6 u10 u15 u16) ((((((((((((A5.put o6.dst u6).put o7.dst (v7 u6)).put o8.dst (v8 u6)).put o9.dst (v9 u6)).put o10.dst u10).put o11.dst (v11 u6)).put o12.dst (v12 u6)).put o13.dst (v13 u6)).put o14.dst (v14 u6)).put o15.dst u15).put o16.dst u16).put o17.dst (v17 u6 u10 u15 u16)))
  (h:∀ (u6 u10 u15 u16:Value) w',I6_10_15_16_ u6 u10 u15 u16 w'→Q .normal (((((((((((((A5.put o6.dst u6).put o7.dst (v7 u6)).put o8.dst (v8 u6)).put o9.dst (v9 u6)).put o10.dst u10).put o11.dst (v11 u6)).put o12.dst (v12 u6)).put o13.dst (v13 u6)).put o14.dst (v14 u6)).put o15.dst u15).put o16.dst u16).put o17.dst (v17 u6 u10 u15 u16)).put o18.dst (v18 u6 u10 u15 u16)) w') :
  (Code.region id #[o0,o1,o2,o3,o4,o5,o6,o7,o8,o9,o10,o11,o12,o13,o14,o15,o16,o17,o18] true).wp P Q a w:=by
 subst p0 p1 p2 p3 p4 p5
 obtain ⟨z_,z6_,z6_10_,z6_10_15_,z6_10_15_16_⟩:=hIS
 refine wp_region_noPanic ?_
 refine wp_region_held_drew (S:=S) hm (z_ _ i0) (fun hH=>?_)
 show wpAnyH P .any #[o0,o1,o2,o3,o4,o5,o6,o7,o8,o9,o10,o11,o12,o13,o14,o15,o16,o17,o18] (NoPanic Q) S 19 #[false,false,false,false,false,false,false,false,false,false,false,false,false,false,false,false,false,false,false] a w.drew
 refine wpAnyH_take (i:=0) (oi:=o0) rfl hs f0 r0 (fun _ _ _ h=>h) hy0 hH ?_
 refine wpAnyH_take (i:=1) (oi:=o1) rfl hs f1 r1 (fun _ _ _ h=>h) hy1 hH ?_
 refine wpAnyH_take (i:=2) (oi:=o2) rfl hs f2 r2 (fun _ _ _ h=>h) hy2 hH ?_
 refine wpAnyH_take (i:=3) (oi:=o3) rfl hs f3 r3 (fun _ _ _ h=>h) hy3 hH ?_
 refine wpAnyH_take (i:=4) (oi:=o4) rfl hs f4 r4 (fun _ _ _ h=>h) hy4 hH ?_
 refine wpAnyH_take (i:=5) (oi:=o5) rfl hs f5 r5 (fun _ _ _ h=>h) hy5 hH ?_
 generalize ((((((a.put o0.dst v0).put o1.dst v1).put o2.dst v2).put o3.dst v3).put o4.dst v4).put o5.dst v5) = B at *
 have t6_10_15_16_:∀ (u6 u10 u15 u16:Value) w',I6_10_15_16_ u6 u10 u15 u16 w'→wpAnyH P .any #[o0,o1,o2,o3,o4,o5,o6,o7,o8,o9,o10,o11,o12,o13,o14,o15,o16,o17,o18] (NoPanic Q) S 0 #[true,true,true,true,true,true,true,true,true,true,true,true,true,true,true,true,true,true,true] (((((((((((((B.put o6.dst u6).put o7.dst (v7 u6)).put o8.dst (v8 u6)).put o9.dst (v9 u6)).put o10.dst u10).put o11.dst (v11 u6)).put o12.dst (v12 u6)).put o13.dst (v13 u6)).put o14.dst (v14 u6)).put o15.dst u15).put o16.dst u16).put o17.dst (v17 u6 u10 u15 u16)).put o18.dst (v18 u6 u10 u15 u16)) w':=by
  intro u6 u10 u15 u16 w0 i0
  exact ⟨q6_10_15_16_,NoPanic.normal (h u6 u10 u15 u16 w0 i0)⟩
 have t6_10_15_:∀ (u6 u10 u15:Value) w',I6_10_15_ u6 u10 u15 w'→wpAnyH P .any #[o0,o1,o2,o3,o4,o5,o6,o7,o8,o9,o10,o11,o12,o13,o14,o15,o16,o17,o18] (NoPanic Q) S 3 #[true,true,true,true,true,true,true,true,true,true,true,true,true,true,true,true,false,false,false] ((((((((((B.put o6.dst u6).put o7.dst (v7 u6)).put o8.dst (v8 u6)).put o9.dst (v9 u6)).put o10.dst u10).put o11.dst (v11 u6)).put o12.dst (v12 u6)).put o13.dst (v13 u6)).put o14.dst (v14 u6)).put o15.dst u15) w':=by
  intro u6 u10 u15 w0 i0
  refine wpAnyH_ready (rs:=[16]) q6_10_15_ (by simp) (AllReadyH.cons (o:=o16) rfl (fun K hK=>?_) AllReadyH.nil)
  ·rw [if_pos (wg6_10_15_16 u6 u10 u15)]
   refine s6_10_15_16 u6 u10 u15 w0 i0 K (fun u16 w1 i1=>hK.out _ _ (z6_10_15_16_ u6 u10 u15 u16 w1 i1) (fun _=>?_))
   clear hK
   refine wpAnyH_take (i:=17) (oi:=o17) rfl hs f6_10_15_16_17 r6_10_15_16_17 (fun _ _ _ h=>h) (y6_10_15_16_17 u6 u10 u15 u16 w1 i1) (z6_10_15_16_ u6 u10 u15 u16 w1 i1) ?_
   refine wpAnyH_take (i:=18) (oi:=o18) rfl hs f6_10_15_16_18 r6_10_15_16_18 (fun _ _ _ h=>h) (y6_10_15_16_18 u6 u10 u15 u16 w1 i1) (z6_10_15_16_ u6 u10 u15 u16 w1 i1) ?_
   exact t6_10_15_16_ u6 u10 u15 u16 w1 i1
 have t6_10_:∀ (u6 u10:Value) w',I6_10_ u6 u10 w'→wpAnyH P .any #[o0,o1,o2,o3,o4,o5,o6,o7,o8,o9,o10,o11,o12,o13,o14,o15,o16,o17,o18] (NoPanic Q) S 4 #[true,true,true,true,true,true,true,true,true,true,true,true,true,true,true,false,false,false,false] (((((((((B.put o6.dst u6).put o7.dst (v7 u6)).put o8.dst (v8 u6)).put o9.dst (v9 u6)).put o10.dst u10).put o11.dst (v11 u6)).put o12.dst (v12 u6)).put o13.dst (v13 u6)).put o14.dst (v14 u6)) w':=by
  intro u6 u10 w0 i0
  refine wpAnyH_ready (rs:=[15]) q6_10_ (by simp) (AllReadyH.cons (o:=o15) rfl (fun K hK=>?_) AllReadyH.nil)
  ·rw [if_pos (wg6_10_15 u6 u10)]
   refine s6_10_15 u6 u10 w0 i0 K (fun u15 w1 i1=>hK.out _ _ (z6_10_15_ u6 u10 u15 w1 i1) (fun _=>?_))
   clear hK
   exact t6_10_15_ u6 u10 u15 w1 i1
 have t6_:∀ (u6:Value) w',I6_ u6 w'→wpAnyH P .any #[o0,o1,o2,o3,o4,o5,o6,o7,o8,o9,o10,o11,o12,o13,o14,o15,o16,o17,o18] (NoPanic Q) S 5 #[true,true,true,true,true,true,true,true,true,true,false,true,true,true,true,false,false,false,false] ((((((((B.put o6.dst u6).put o7.dst (v7 u6)).put o8.dst (v8 u6)).put o9.dst (v9 u6)).put o11.dst (v11 u6)).put o12.dst (v12 u6)).put o13.dst (v13 u6)).put o14.dst (v14 u6)) w':=by
  intro u6 w0 i0
  refine wpAnyH_ready (rs:=[10]) q6_ (by simp) (AllReadyH.cons (o:=o10) rfl (fun K hK=>?_) AllReadyH.nil)
  ·rw [if_pos (wg6_10 u6)]
   refine s6_10 u6 w0 i0 K (fun u10 w1 i1=>hK.out _ _ (z6_10_ u6 u10 w1 i1) (fun _=>?_))
   clear hK
   rw [Act.put_comm _ _ _ ne14_10]
   rw [Act.put_comm _ _ _ ne13_10]
   rw [Act.put_comm _ _ _ ne12_10]
   rw [Act.put_comm _ _ _ ne11_10]
   exact t6_10_ u6 u10 w1 i1
 have t_:∀ w',I_  w'→wpAnyH P .any #[o0,o1,o2,o3,o4,o5,o6,o7,o8,o9,o10,o11,o12,o13,o14,o15,o16,o17,o18] (NoPanic Q) S 13 #[true,true,true,true,true,true,false,false,false,false,false,false,false,false,false,false,false,false,false] B w':=by
  intro w0 i0
  refine wpAnyH_ready (rs:=[6]) q_ (by simp) (AllReadyH.cons (o:=o6) rfl (fun K hK=>?_) AllReadyH.nil)
  ·rw [if_pos (wg_6 )]
   refine s_6  w0 i0 K (fun u6 w1 i1=>hK.out _ _ (z6_ u6 w1 i1) (fun _=>?_))
   clear hK
   refine wpAnyH_take (i:=7) (oi:=o7) rfl hs f_6_7 r_6_7 (fun _ _ _ h=>h) (y_6_7 u6 w1 i1) (z6_ u6 w1 i1) ?_
   refine wpAnyH_take (i:=8) (oi:=o8) rfl hs f_6_8 r_6_8 (fun _ _ _ h=>h) (y_6_8 u6 w1 i1) (z6_ u6 w1 i1) ?_
   refine wpAnyH_take (i:=9) (oi:=o9) rfl hs f_6_9 r_6_9 (fun _ _ _ h=>h) (y_6_9 u6 w1 i1) (z6_ u6 w1 i1) ?_
   refine wpAnyH_take (i:=11) (oi:=o11) rfl hs f_6_11 r_6_11 (fun _ _ _ h=>h) (y_6_11 u6 w1 i1) (z6_ u6 w1 i1) ?_
   refine wpAnyH_take (i:=12) (oi:=o12) rfl hs f_6_12 r_6_12 (fun _ _ _ h=>h) (y_6_12 u6 w1 i1) (z6_ u6 w1 i1) ?_
   refine wpAnyH_take (i:=13) (oi:=o13) rfl hs f_6_13 r_6_13 (fun _ _ _ h=>h) (y_6_13 u6 w1 i1) (z6_ u6 w1 i1) ?_
   refine wpAnyH_take (i:=14) (oi:=o14) rfl hs f_6_14 r_6_14 (fun _ _ _ h=>h) (y_6_14 u6 w1 i1) (z6_ u6 w1 i1) ?_
   exact t6_ u6 w1 i1
 exact t_ w.drew i0
end
end
section
open Go.RowKit Go.BigFrame

end

section
open Go.RowKit Go.BigFrame
theorem xb6n {P:Program} {o:Oper} {a:Act} (ty:TypeId) (x:Operand) (ho:o.op = .load ty x) (ad:Addr) (hx:a.eval x = .pointer (some ad)) (w:World) (v:Value) (e:TypeId) (hu:P.underlying ty = some (.slice e)) (hc:w.cell? ad = some v) :
  (execOp a.eval o).run P w = .ok (.value v) w:=by
 have h2:(isAgg ty).run P w = .ok false w:=by
  unfold isAgg
  rw [Sem.run_bind,run_underlying hu w]; simp
 unfold execOp
 simp only [ho,hx,Instr.loadAt,Instr.sureAddr,Sem.run_bind,Sem.run_pure,Result.andThen_ok,loadVar,h2]
 simp [go_sem,hc]
theorem RdB.at {w:World} {ao:Option Addr} {n c:Nat} {bs:List (Nat × List En)} (h:RdB w (.slice ao n c) bs) (i:Nat) (hi:i < bs.length):∃ b off y,ao = some ⟨b,off,none⟩∧w.cell? ⟨b,off + i * 2,none⟩ = some (.int .u64 (bs[i].1:Int))∧w.cell? ⟨b,off + i * 2 + 1,none⟩ = some y∧RdN w y bs[i].2:=by
 obtain ⟨ao',cap,ts,h1,h2,h3,h4,h5,h6⟩:=h
 cases h1
 have hl:bs.length = ts.length:=by rw [h2]; simp
 obtain ⟨b,off,rfl,hc⟩:=h6 (by omega)
 have hi':i < ts.length:=by omega
 obtain ⟨c1,c2⟩:=hc i hi'
 have e1:bs[i] = (ts[i].1,ts[i].2.2):=by simp [h2]
 exact ⟨b,off,ts[i].2.1,rfl,by rw [e1]; exact c1,c2,by rw [e1]; exact h5 _ (List.getElem_mem _)⟩
theorem xb2g {P:Program} {o:Oper} {a:Act} (ty:TypeId) (x:Operand) (ho:o.op = .load ty x) (g:Nat) (hx:a.eval x = .pointer (some ⟨g,0,none⟩)) (w:World) (t:TypeId) (cs:Array Value) (fr:Nat × Nat) (d:TypeDesc) (hg:w.heap[g]? = some (.cells cs t fr))
  (hu:P.underlying ty = some d) (hd:(match d with | .struct _ | .array _ _=>true | _=>false) = true) (hi:(P.info? ty).map (·.size) = some cs.size):(execOp a.eval o).run P w = .ok (.value (.agg cs)) w:=by
 have:=run_loadVar_row (P:=P) w g t ty cs fr d hg hu hd hi
 unfold execOp
 simp only [ho,hx,Instr.loadAt,Instr.sureAddr,Sem.run_bind,Sem.run_pure,Result.andThen_ok,this]
structure TH (w W:World) (pl:Nat) (gv:Value) (a b c d i e:Nat):Prop where
 f:W.heap[w.heap.size]? = some (.cells #[.int .u64 (pl:Int),gv] 219 (0,0))
 z:W.heap[w.heap.size + 1]? = some (.cells #[.int .u64 0,.int .u64 0,.int .u64 0,.int .i64 0] 174 (0,0))
 h:W.heap[w.heap.size + 1 + 1]? = some (.cells #[.int .u64 (a:Int),.int .u64 (b:Int),.int .u64 (c:Int),.int .i64 (d:Int)] 174 (0,0))
 r:W.heap[w.heap.size + 1 + 1 + 1]? = some (.cells #[gv,.int .i64 (i:Int),.int .i64 (e:Int)] 272 (0,0))
 kept:Kept [] w W
theorem TH.old {w W W':World} {pl a b c d i e:Nat} {gv:Value} (h:TH w W pl gv a b c d i e) (q:Kept [] W W'):TH w W' pl gv a b c d i e :=
 ⟨q.heap h.f (by simp),q.heap h.z (by simp),q.heap h.h (by simp),q.heap h.r (by simp),h.kept.trans q (by simp)⟩
theorem TH.setR {w W:World} {pl a b c d i e:Nat} {gv:Value} (h:TH w W pl gv a b c d i e) (i' e':Nat) :
  TH w (((W.setCell ⟨w.heap.size + 1 + 1 + 1,0,none⟩ gv).setCell ⟨w.heap.size + 1 + 1 + 1,1,none⟩ (.int .i64 (i':Int))).setCell ⟨w.heap.size + 1 + 1 + 1,2,none⟩ (.int .i64 (e':Int))) pl gv a b c d i' e':=by
 have q:=xa1b (Kept.refl [w.heap.size + 1 + 1 + 1] W) (w.heap.size + 1 + 1 + 1) (Or.inl (by simp)) gv (.int .i64 (i':Int)) (.int .i64 (e':Int))
 exact ⟨q.heap h.f (by intro hm; have:=List.mem_singleton.1 hm; omega),q.heap h.z (by intro hm; have:=List.mem_singleton.1 hm; omega),q.heap h.h (by intro hm; have:=List.mem_singleton.1 hm; omega),xa4w h.r _ _ _,xa1b h.kept _ (Or.inr (by omega)) _ _ _⟩
theorem TH.setH {w W:World} {pl a b c d i e:Nat} {gv:Value} (h:TH w W pl gv a b c d i e) (j:Nat) (u:Value) (a' b' c' d':Nat) (hj:(#[.int .u64 (a:Int),.int .u64 (b:Int),.int .u64 (c:Int),.int .i64 (d:Int)]:Array Value).setIfInBounds j u = #[.int .u64 (a':Int),.int .u64 (b':Int),.int .u64 (c':Int),.int .i64 (d':Int)]) :
  TH w (W.setCell ⟨w.heap.size + 1 + 1,j,none⟩ u) pl gv a' b' c' d' i e:=by
 have q:=(Kept.refl [w.heap.size + 1 + 1] W).setCell (p:=⟨w.heap.size + 1 + 1,j,none⟩) (Or.inl (by simp)) u
 exact ⟨q.heap h.f (by intro hm; have:=List.mem_singleton.1 hm; omega),q.heap h.z (by intro hm; have:=List.mem_singleton.1 hm; omega),by rw [← hj]; exact heap_setCell_same W _ j _ 174 _ h.h,q.heap h.r (by intro hm; have:=List.mem_singleton.1 hm; omega),h.kept.setCell (Or.inr (by show w.heap.size≤w.heap.size + 1 + 1; omega)) _⟩
theorem TH.start (w:World) (pl:Nat) (gv:Value):TH w ((((w.alloc (.cells #[.int .u64 (pl:Int),gv] 219)).alloc (.cells #[.int .u64 0,.int .u64 0,.int .u64 0,.int .i64 0] 174)).alloc (.cells #[.int .u64 0,.int .u64 0,.int .u64 0,.int .i64 0] 174)).alloc (.cells #[gv,.int .i64 0,.int .i64 0] 272)) pl gv 0 0 0 0 0 0:=by
 have h3:=xa2l w (.cells #[.int .u64 (pl:Int),gv] 219) (.cells #[.int .u64 0,.int .u64 0,.int .u64 0,.int .i64 0] 174) (.cells #[.int .u64 0,.int .u64 0,.int .u64 0,.int .i64 0] 174)
 have h4:=heap_alloc_new (((w.alloc (.cells #[.int .u64 (pl:Int),gv] 219)).alloc (.cells #[.int .u64 0,.int .u64 0,.int .u64 0,.int .i64 0] 174)).alloc (.cells #[.int .u64 0,.int .u64 0,.int .u64 0,.int .i64 0] 174)) (.cells #[gv,.int .i64 0,.int .i64 0] 272)
 have q:=(Kept.refl [] (((w.alloc (.cells #[.int .u64 (pl:Int),gv] 219)).alloc (.cells #[.int .u64 0,.int .u64 0,.int .u64 0,.int .i64 0] 174)).alloc (.cells #[.int .u64 0,.int .u64 0,.int .u64 0,.int .i64 0] 174))).alloc (.cells #[gv,.int .i64 0,.int .i64 0] 272)
 exact ⟨q.heap h3.1 (by simp),q.heap h3.2.1 (by simp),q.heap h3.2.2 (by simp),by simpa using h4,((((Kept.refl [] w).alloc _).alloc _).alloc _).alloc _⟩
set_option maxHeartbeats 2000000 in
theorem xb2k (pl:Nat) (v:Value) (pay:List Nat) (w:World) (hv:Rd w v pay) (hpl:pl < 18446744073709551616) (hl:pay.length≤65535) :
  Calls Tryz.prog 135 #[.agg #[.int .u64 pl,v]] w fun e w'=>∃ a b c d:Nat,e = .returned (.tuple #[.agg #[.int .u64 a,.int .u64 b,.int .u64 c,.int .i64 d],.bool (payH pl pay)])∧(payH pl pay = true→a = beL ((pay.drop 5).take 8)∧b = beL ((pay.drop 13).take 8)∧c = beL ((pay.drop 21).take 8)∧d = pay.getD 29 0)∧Kept [] w w':=by
 have H:=hide hv
 obtain ⟨a1,n1,c1,hv1,hn1,_⟩:=id hv
 subst hv1
 subst hn1
 have HBY:=hide hv.byte
 clear hv
 obtain ⟨PH,hPH⟩:∃ PH,payH pl pay = PH:=⟨_,rfl⟩
 have HP0:=hide hPH
 rw [hPH]
 clear hPH
 go_enter Tryz.func135,Tryz.ntmps135
 have HT0:=hide (TH.start w pl (.slice a1 pay.length c1))
 go_wp2_with fail
 refine Calls.mono (xa3u a1 c1 pay 0 0 5 _ (by exact (uh H).old (uh HT0).kept (by simp)) (by omega) (by omega)) ?_
 rintro r w1 ⟨rv,rfl,_,k1,_⟩
 have hli1:=xb8s (p:=pay) (i:=0) (e:=0) (n:=5) (by omega)
 obtain ⟨x,hx⟩:∃ x,rRaw pay 0 0 5 = x:=⟨_,rfl⟩
 have HX0:=hide hx
 rw [hx] at hli1 ⊢
 clear hx
 obtain ⟨raw,i0,e0⟩:=x
 simp only at hli1 ⊢
 have HT1:=hide ((uh HT0).old k1)
 clear k1 HT0
 obtain ⟨⟨s0,s1,s2⟩,t0,t1,t2⟩:=three (uh HT1).r
 have HTA:=hide ((uh HT1).setR i0 e0)
 go_wp2_with fail
 clear s0 s1 s2 t0 t1 t2 HT1
 obtain ⟨WA,hWA⟩:∃ W,(((w1.setCell ⟨w.heap.size + 1 + 1 + 1,0,none⟩ (.slice a1 pay.length c1)).setCell ⟨w.heap.size + 1 + 1 + 1,1,none⟩ (.int .i64 (i0:Int))).setCell ⟨w.heap.size + 1 + 1 + 1,2,none⟩ (.int .i64 (e0:Int))) = W:=⟨_,rfl⟩
 rw [hWA] at HTA ⊢
 clear hWA
 refine Calls.mono (xa0k a1 c1 pay i0 e0 8 WA ((uh H).old (uh HTA).kept (by simp)) hli1 (by omega)) ?_
 rintro r v1 ⟨rfl,k2⟩
 have hli2:=xa4l (e:=e0) (n:=8) hli1
 obtain ⟨x,hx⟩:∃ x,rNum pay i0 e0 8 = x:=⟨_,rfl⟩
 have HX1:=hide hx
 rw [hx] at hli2 ⊢
 clear hx
 obtain ⟨a,i1,e1⟩:=x
 simp only at hli2 ⊢
 have HU1:=hide ((uh HTA).old k2)
 clear k2 HTA
 obtain ⟨⟨s0,s1,s2⟩,t0,t1,t2⟩:=three (uh HU1).r
 have hc0:v1.cell? ⟨w.heap.size + 1 + 1,0,none⟩ = some (.int .u64 0):=by rw [cell_of_row _ _ _ _ _ _ (uh HU1).h]; rfl
 have hf0:v1.frozen? ⟨w.heap.size + 1 + 1,0,none⟩ = false:=frozen_of_row _ _ _ _ _ (uh HU1).h
 have HV1:=hide (((uh HU1).setH 0 (.int .u64 (a:Int)) a 0 0 0 rfl).setR i1 e1)
 go_wp2_with fail
 clear s0 s1 s2 t0 t1 t2 hc0 hf0 HU1
 obtain ⟨W1,hW⟩:∃ W,((((v1.setCell ⟨w.heap.size + 1 + 1,0,none⟩ (.int .u64 (a:Int))).setCell ⟨w.heap.size + 1 + 1 + 1,0,none⟩ (.slice a1 pay.length c1)).setCell ⟨w.heap.size + 1 + 1 + 1,1,none⟩ (.int .i64 (i1:Int))).setCell ⟨w.heap.size + 1 + 1 + 1,2,none⟩ (.int .i64 (e1:Int))) = W:=⟨_,rfl⟩
 rw [hW] at HV1 ⊢
 clear hW
 refine Calls.mono (xa0k a1 c1 pay i1 e1 8 W1 ((uh H).old (uh HV1).kept (by simp)) hli2 (by omega)) ?_
 rintro r v2 ⟨rfl,k2⟩
 have hli3:=xa4l (e:=e1) (n:=8) hli2
 obtain ⟨x,hx⟩:∃ x,rNum pay i1 e1 8 = x:=⟨_,rfl⟩
 have HX2:=hide hx
 rw [hx] at hli3 ⊢
 clear hx
 obtain ⟨b,i2,e2⟩:=x
 simp only at hli3 ⊢
 have HU2:=hide ((uh HV1).old k2)
 clear k2 HV1
 obtain ⟨⟨s0,s1,s2⟩,t0,t1,t2⟩:=three (uh HU2).r
 have hc0:v2.cell? ⟨w.heap.size + 1 + 1,1,none⟩ = some (.int .u64 0):=by rw [cell_of_row _ _ _ _ _ _ (uh HU2).h]; rfl
 have hf0:v2.frozen? ⟨w.heap.size + 1 + 1,1,none⟩ = false:=frozen_of_row _ _ _ _ _ (uh HU2).h
 have HV2:=hide (((uh HU2).setH 1 (.int .u64 (b:Int)) a b 0 0 rfl).setR i2 e2)
 go_wp2_with fail
 clear s0 s1 s2 t0 t1 t2 hc0 hf0 HU2
 obtain ⟨W2,hW⟩:∃ W,((((v2.setCell ⟨w.heap.size + 1 + 1,1,none⟩ (.int .u64 (b:Int))).setCell ⟨w.heap.size + 1 + 1 + 1,0,none⟩ (.slice a1 pay.length c1)).setCell ⟨w.heap.size + 1 + 1 + 1,1,none⟩ (.int .i64 (i2:Int))).setCell ⟨w.heap.size + 1 + 1 + 1,2,none⟩ (.int .i64 (e2:Int))) = W:=⟨_,rfl⟩
 rw [hW] at HV2 ⊢
 clear hW
 refine Calls.mono (xa0k a1 c1 pay i2 e2 8 W2 ((uh H).old (uh HV2).kept (by simp)) hli3 (by omega)) ?_
 rintro r v3 ⟨rfl,k2⟩
 have hli4:=xa4l (e:=e2) (n:=8) hli3
 obtain ⟨x,hx⟩:∃ x,rNum pay i2 e2 8 = x:=⟨_,rfl⟩
 have HX3:=hide hx
 rw [hx] at hli4 ⊢
 clear hx
 obtain ⟨c,i3,e3⟩:=x
 simp only at hli4 ⊢
 have HU3:=hide ((uh HV2).old k2)
 clear k2 HV2
 obtain ⟨⟨s0,s1,s2⟩,t0,t1,t2⟩:=three (uh HU3).r
 have hc0:v3.cell? ⟨w.heap.size + 1 + 1,2,none⟩ = some (.int .u64 0):=by rw [cell_of_row _ _ _ _ _ _ (uh HU3).h]; rfl
 have hf0:v3.frozen? ⟨w.heap.size + 1 + 1,2,none⟩ = false:=frozen_of_row _ _ _ _ _ (uh HU3).h
 have HV3:=hide (((uh HU3).setH 2 (.int .u64 (c:Int)) a b c 0 rfl).setR i3 e3)
 go_wp2_with fail
 clear s0 s1 s2 t0 t1 t2 hc0 hf0 HU3
 obtain ⟨W3,hW⟩:∃ W,((((v3.setCell ⟨w.heap.size + 1 + 1,2,none⟩ (.int .u64 (c:Int))).setCell ⟨w.heap.size + 1 + 1 + 1,0,none⟩ (.slice a1 pay.length c1)).setCell ⟨w.heap.size + 1 + 1 + 1,1,none⟩ (.int .i64 (i3:Int))).setCell ⟨w.heap.size + 1 + 1 + 1,2,none⟩ (.int .i64 (e3:Int))) = W:=⟨_,rfl⟩
 rw [hW] at HV3 ⊢
 clear hW
 refine Calls.mono (xa0k a1 c1 pay i3 e3 1 W3 ((uh H).old (uh HV3).kept (by simp)) hli4 (by omega)) ?_
 rintro r v4 ⟨rfl,k2⟩
 have hdl:(rNum pay i3 e3 1).1 < 256:=xb8k (uh HBY)
 obtain ⟨x,hx⟩:∃ x,rNum pay i3 e3 1 = x:=⟨_,rfl⟩
 have HX4:=hide hx
 rw [hx] at hdl ⊢
 clear hx
 obtain ⟨d,i4,e4⟩:=x
 simp only at hdl ⊢
 have HU4:=hide ((uh HV3).old k2)
 clear k2 HV3
 obtain ⟨⟨s0,s1,s2⟩,t0,t1,t2⟩:=three (uh HU4).r
 have hc0:v4.cell? ⟨w.heap.size + 1 + 1,3,none⟩ = some (.int .i64 0):=by rw [cell_of_row _ _ _ _ _ _ (uh HU4).h]; rfl
 have hf0:v4.frozen? ⟨w.heap.size + 1 + 1,3,none⟩ = false:=frozen_of_row _ _ _ _ _ (uh HU4).h
 have HV4:=hide (((uh HU4).setR i4 e4).setH 3 (.int .i64 (d:Int)) a b c d rfl)
 have hcv:IntKind.i64.wrap (d:Int) = d:=xa8n hdl
 go_upto_region 9 with fail
 clear s0 s1 s2 t0 t1 t2 hc0 hf0 HU4
 obtain ⟨W,hW⟩:∃ W,((((v4.setCell ⟨w.heap.size + 1 + 1 + 1,0,none⟩ (.slice a1 pay.length c1)).setCell ⟨w.heap.size + 1 + 1 + 1,1,none⟩ (.int .i64 (i4:Int))).setCell ⟨w.heap.size + 1 + 1 + 1,2,none⟩ (.int .i64 (e4:Int))).setCell ⟨w.heap.size + 1 + 1,3,none⟩ (.int .i64 (d:Int))) = W:=⟨_,rfl⟩
 rw [hW] at HV4 ⊢
 clear hW hcv
 have HCH:=hide (headChain (uh HX0) (uh HX1) (uh HX2) (uh HX3) (uh HX4))
 have HAL:=hide (xb5u (uh HX1))
 have HBL:=hide (xb5u (uh HX2))
 have HCL:=hide (xb5u (uh HX3))
 clear HX0 HX1 HX2 HX3 HX4 hli1 hli2 hli3 hli4
 have HC9:=hide (fun w' (k:Kept [] W w')=>by
  have h9:=(uh HV4).old k
  refine ⟨?_,?_,h9.h,?_,?_⟩
  ·rw [cell_of_row _ _ _ _ _ _ h9.r]; rfl
  ·rw [cell_of_row _ _ _ _ _ _ h9.h]; rfl
  ·rw [cell_of_row _ _ _ _ _ _ h9.f]; rfl
  ·rw [cell_of_row _ _ _ _ _ _ h9.f]; rfl:∀ w',Kept [] W w'→w'.cell? ⟨w.heap.size + 1 + 1 + 1,2,none⟩ = some (.int .i64 (e4:Int))∧w'.cell? ⟨w.heap.size + 1 + 1,3,none⟩ = some (.int .i64 (d:Int))∧w'.heap[w.heap.size + 1 + 1]? = some (.cells #[.int .u64 (a:Int),.int .u64 (b:Int),.int .u64 (c:Int),.int .i64 (d:Int)] 174 (0,0))∧w'.cell? ⟨w.heap.size,0,none⟩ = some (.int .u64 (pl:Int))∧w'.cell? ⟨w.heap.size,1,none⟩ = some (.slice a1 pay.length c1))
 have HEND:=hide (fun (w9:World) (k:Kept [] W w9)=>(uh HV4).old k)
 have hnp:∀ p:Prop,(∀ w',Kept [] W w'→p) = p:=fun p=>propext ⟨fun h=>h W (Kept.refl [] W),fun h _ _=>h⟩
 by_cases he:e4 = 0
 ·subst he
  obtain ⟨h30,ea,eb,ec,ed⟩:=(uh HCH).1 rfl
  have HPH:=hide (by rw [← uh HP0]; exact xc3m (pl:=pl) (uh HBY) hpl h30 hl ea eb ec ed:PH = (wideB (d:Int) && decide (frB a (headB a b c d) = frB pl pay)))
  have HVV:=hide (⟨ea,eb,ec,by rw [ed]; exact xb8z (uh HBY) (by omega)⟩:a = beL ((pay.drop 5).take 8)∧b = beL ((pay.drop 13).take 8)∧c = beL ((pay.drop 21).take 8)∧d = pay.getD 29 0)
  have HC:=hide (uh HC9)
  clear ea eb ec ed h30 HCH HC9
  rw [show (((0:Nat):Int)) = 0 from rfl] at HC
  by_cases hw:wideB (d:Int) = true
  ·rw [hw,Bool.true_and] at HPH
   have HWD:=hide hw
   clear hw hnp
   refine xc3n (by kernel_rfl) (by kernel_rfl) (by kernel_rfl) (by kernel_rfl) (by kernel_rfl) (by kernel_rfl) (by kernel_rfl) (by kernel_rfl) (by kernel_rfl) (by kernel_rfl) (by kernel_rfl) (by kernel_rfl) (by kernel_rfl) (by kernel_rfl) (by kernel_rfl) (by kernel_rfl) (by kernel_rfl) (by kernel_rfl) (by kernel_rfl) (by kernel_rfl) (by kernel_rfl) (by kernel_rfl) (by kernel_rfl) (by kernel_rfl) (by kernel_rfl) (by kernel_rfl) (by kernel_rfl) (by kernel_rfl) (by kernel_rfl) (by kernel_rfl) (by kernel_rfl) (by kernel_rfl) (by kernel_rfl) (by kernel_rfl) (by kernel_rfl) (by kernel_rfl) (by kernel_rfl) (by simp) (by simp) (by simp) (by simp)
    (.pointer (some ⟨w.heap.size + 1 + 1 + 1,2,none⟩)) (.int .i64 0) (.bool true) (.bool true) (.pointer (some ⟨w.heap.size + 1 + 1,3,none⟩)) (.int .i64 (d:Int)) _ _ _ _ _ _
    (fun w'=>Kept [] W w')
    (fun w'=>Kept [] W w')
    (fun u6 w'=>u6 = .bool true∧Kept [] W w')
    (fun u6 u10 w'=>u6 = .bool true∧Kept [] W w'∧Rd w' u10 (frB a (headB a b c d)))
    (fun u6 u10 u15 w'=>u6 = .bool true∧Kept [] W w'∧Rd w' u10 (frB a (headB a b c d))∧Rd w' u15 (frB pl pay))
    (fun u6 u10 u15 u16 w'=>u6 = .bool true∧u16 = .bool PH∧Kept [] W w')
    (fun u6=>.bool true) (fun u6=>.bool true) (fun u6=>.agg #[.int .u64 (a:Int),.int .u64 (b:Int),.int .u64 (c:Int),.int .i64 (d:Int)]) (fun u6=>.pointer (some ⟨w.heap.size,0,none⟩)) (fun u6=>.int .u64 (pl:Int)) (fun u6=>.pointer (some ⟨w.heap.size,1,none⟩)) (fun u6=>.slice a1 pay.length c1) (fun u6 u10 u15 u16=>u16) (fun u6 u10 u15 u16=>u16)
    (by simp only [Act.put,sa1,sa2,sa3]; rfl) (by exact Or.inl ⟨by rfl,fun W' hW'=>by go_simp⟩)
    (by simp only [Act.put,sa1,sa2,sa3]; rfl) (by exact Or.inl ⟨by rfl,fun W' hW'=>xa0s 3 _ rfl ⟨w.heap.size + 1 + 1 + 1,2,none⟩ rfl W' _ .i64 (by kernel_rfl) (uh HC W' hW').1⟩)
    (by simp only [Act.put,sa1,sa2,sa3]; rfl) (by exact Or.inl ⟨by rfl,fun W' hW'=>by go_simp⟩)
    (by simp only [Act.put,sa1,sa2,sa3]; rfl) (by exact Or.inl ⟨by rfl,fun W' hW'=>by go_simp⟩)
    (by simp only [Act.put,sa1,sa2,sa3]; rfl) (by exact Or.inl ⟨by rfl,fun W' hW'=>by go_simp⟩)
    (by simp only [Act.put,sa1,sa2,sa3]; rfl) (by exact Or.inl ⟨by rfl,fun W' hW'=>xa0s 3 _ rfl ⟨w.heap.size + 1 + 1,3,none⟩ rfl W' _ .i64 (by kernel_rfl) (uh HC W' hW').2.1⟩)
    ((Kept.refl [] W).drew)
    ⟨fun w' h=>h,fun u6 w' h=>h.2,fun u6 u10 w' h=>h.2.1,fun u6 u10 u15 w' h=>h.2.1,fun u6 u10 u15 u16 w' h=>h.2.2⟩
    (by rfl) (by intros; simp only [Act.put,sa1,sa2,sa3]; rfl) (by intros; simp only [Act.put,sa1,sa2,sa3]; rfl) (by intros; simp only [Act.put,sa1,sa2,sa3]; rfl)
    (by
     rintro w' k0 K hK
     refine xa0e rfl Tryz.call49 [.int .i64 (d:Int)] rfl (xa3q (d:Int) w') ?_
     rintro e w2 ⟨rfl,rfl⟩
     exact ⟨_,rfl,hK _ _ ⟨by rw [uh HWD],k0⟩⟩)
    (by
     rintro u6 w' ⟨rfl,k0⟩ K hK
     simp only [Act.put,sa1,sa2,sa3] at hK ⊢
     refine xa0e rfl Tryz.call99 [.agg #[.int .u64 (a:Int),.int .u64 (b:Int),.int .u64 (c:Int),.int .i64 (d:Int)]] rfl (xa7g a b c (d:Int) w' (uh HAL) (uh HBL) (uh HCL) (by omega)) ?_
     rintro e w2 ⟨v2,rfl,r2,k2⟩
     exact ⟨_,rfl,hK _ _ ⟨trivial,k0.trans k2 (by simp),r2⟩⟩)
    (by
     rintro u6 u10 w' ⟨rfl,k0,r10⟩ K hK
     simp only [Act.put,sa1,sa2,sa3] at hK ⊢
     refine xa0e rfl Tryz.call110 [.int .u64 (pl:Int),.slice a1 pay.length c1] rfl (xa2u pl _ pay w' ((uh H).old ((uh HV4).kept.trans k0 (by simp)) (by simp)) hpl (by omega)) ?_
     rintro e w2 ⟨v2,rfl,r2,k2,_⟩
     exact ⟨_,rfl,hK _ _ ⟨trivial,k0.trans k2 (by simp),r10.old k2 (by simp),r2⟩⟩)
    (by
     rintro u6 u10 u15 w' ⟨rfl,k0,r10,r15⟩ K hK
     simp only [Act.put,sa1,sa2,sa3] at hK ⊢
     refine xa0e rfl Tryz.call103 [u10,u15] rfl (xa4z u10 u15 _ _ w' r10 r15) ?_
     rintro e w2 ⟨rfl,n2,rfl⟩
     exact ⟨_,rfl,hK _ _ ⟨trivial,by rw [uh HPH],k0.drewN n2⟩⟩)
    (by rintro u6 w' ⟨rfl,k0⟩; simp only [Act.put,sa1,sa2,sa3]; exact Or.inl ⟨by rfl,fun W' hW'=>by go_simp⟩)
    (by rintro u6 w' ⟨rfl,k0⟩; simp only [Act.put,sa1,sa2,sa3]; exact Or.inl ⟨by rfl,fun W' hW'=>by go_simp⟩)
    (by rintro u6 w' ⟨rfl,k0⟩; simp only [Act.put,sa1,sa2,sa3]; exact Or.inl ⟨by rfl,fun W' hW'=>xb2g 174 _ rfl (w.heap.size + 1 + 1) rfl W' 174 _ (0,0) _ (uh HC W' hW').2.2.1 Tryz.underlying174 rfl Tryz.size_rhead⟩)
    (by rintro u6 w' ⟨rfl,k0⟩; simp only [Act.put,sa1,sa2,sa3]; exact Or.inl ⟨by rfl,fun W' hW'=>by go_simp⟩)
    (by rintro u6 w' ⟨rfl,k0⟩; simp only [Act.put,sa1,sa2,sa3]; exact Or.inl ⟨by rfl,fun W' hW'=>xa0s 59 _ rfl ⟨w.heap.size,0,none⟩ rfl W' _ .u64 Tryz.underlying59 (uh HC W' hW').2.2.2.1⟩)
    (by rintro u6 w' ⟨rfl,k0⟩; simp only [Act.put,sa1,sa2,sa3]; exact Or.inl ⟨by rfl,fun W' hW'=>by go_simp⟩)
    (by rintro u6 w' ⟨rfl,k0⟩; simp only [Act.put,sa1,sa2,sa3]; exact Or.inl ⟨by rfl,fun W' hW'=>xb6n 72 _ rfl ⟨w.heap.size,1,none⟩ rfl W' _ _ Tryz.underlying72 (uh HC W' hW').2.2.2.2⟩)
    (by rintro u6 u10 u15 u16 w' ⟨rfl,rfl,k0⟩; simp only [Act.put,sa1,sa2,sa3]; exact Or.inl ⟨by rfl,fun W' hW'=>by go_simp⟩)
    (by rintro u6 u10 u15 u16 w' ⟨rfl,rfl,k0⟩; simp only [Act.put,sa1,sa2,sa3]; exact Or.inl ⟨by rfl,fun W' hW'=>by go_simp⟩)
    ?_
   rintro u6 u10 u15 u16 w9 ⟨rfl,rfl,k9⟩
   simp only [Act.put,sa1,sa2,sa3]
   have HT9:=hide (uh HEND w9 k9)
   clear k9 HC
   obtain ⟨d0,d1,d2,d3⟩:=hcells (uh HT9).h
   obtain ⟨x0,x1,x2,x3⟩:=hcells (uh HT9).z
   obtain ⟨f0,f1,f2,f3⟩:=hfroz (uh HT9).z
   go_wp2
   refine bodyPost_ret (v:=.tuple #[.agg #[.int .u64 (a:Int),.int .u64 (b:Int),.int .u64 (c:Int),.int .i64 (d:Int)],.bool PH]) ?_ rfl ⟨a,b,c,d,rfl,fun _=>uh HVV,xa1s (uh HT9).kept (w.heap.size + 1) (by omega) _ _ _ _⟩
   exact xa0b rfl _ _ (w.heap.size + 1) _ #[.int .u64 (a:Int),.int .u64 (b:Int),.int .u64 (c:Int),.int .i64 (d:Int)] (0,0) _ rfl (xa1r (uh HT9).z _ _ _ _) Tryz.underlying174 rfl Tryz.size_rhead _ rfl
  ·rw [Bool.not_eq_true] at hw
   rw [hw,Bool.false_and] at HPH
   have HWD:=hide hw
   obtain rfl:PH = false:=uh HPH
   clear hw HPH
   have HY:=hide (fun w' (k0:Kept [] W w')=>(xa3q (d:Int) w').mono (fun e w2 (h2:_∧_)=>(⟨by rw [h2.1,uh HWD],by rw [h2.2]; exact k0⟩:e = .returned (.bool false)∧Kept [] W w2)))
   refine xa1t (by kernel_rfl) (by kernel_rfl) ?_
   iterate 1 (go_big_quiet_step (fail))
   refine xa2t rfl (.int .i64 0) (fun w' hw'=>xa0s 3 _ rfl ⟨w.heap.size + 1 + 1 + 1,2,none⟩ rfl w' _ .i64 (by kernel_rfl) (uh HC w' hw').1) ?_
   simp only [Act.put,List.setIfInBounds_toArray,List.set_cons_succ,List.set_cons_zero]
   iterate 3 (go_big_quiet_step (fail))
   refine xa2t rfl (.int .i64 (d:Int)) (fun w' hw'=>xa0s 3 _ rfl ⟨w.heap.size + 1 + 1,3,none⟩ rfl w' _ .i64 (by kernel_rfl) (uh HC w' hw').2.1) ?_
   simp only [Act.put,List.setIfInBounds_toArray,List.set_cons_succ,List.set_cons_zero]
   go_big_quiet_want
   go_big_quiet_op
   apply Exists.intro
   refine ⟨fun w' hw'=>?_,?_⟩
   ·exact uh HY w' hw'
   go_big_quiet_on
   repeat (go_big_quiet_step (fail))
   refine wpQuiet_nil ?_
   intro w9 k9
   have HT9:=hide (uh HEND w9 k9)
   clear k9 HC hnp
   obtain ⟨d0,d1,d2,d3⟩:=hcells (uh HT9).h
   obtain ⟨x0,x1,x2,x3⟩:=hcells (uh HT9).z
   obtain ⟨f0,f1,f2,f3⟩:=hfroz (uh HT9).z
   go_wp2
   refine bodyPost_ret (v:=.tuple #[.agg #[.int .u64 (a:Int),.int .u64 (b:Int),.int .u64 (c:Int),.int .i64 (d:Int)],.bool false]) ?_ rfl ⟨a,b,c,d,rfl,(fun h=>nomatch h),xa1s (uh HT9).kept (w.heap.size + 1) (by omega) _ _ _ _⟩
   exact xa0b rfl _ _ (w.heap.size + 1) _ #[.int .u64 (a:Int),.int .u64 (b:Int),.int .u64 (c:Int),.int .i64 (d:Int)] (0,0) _ rfl (xa1r (uh HT9).z _ _ _ _) Tryz.underlying174 rfl Tryz.size_rhead _ rfl
 ·obtain rfl:PH = false:=by rw [← uh HP0]; exact xb3x (pl:=pl) ((uh HCH).2 he)
  have he':((e4:Int) == 0) = false:=by rw [beq_eq_false_iff_ne]; omega
  refine xa1t (by kernel_rfl) (by kernel_rfl) ?_
  iterate 1 (go_big_quiet_step (fail))
  refine xa2t rfl (.int .i64 (e4:Int)) (fun w' hw'=>xa0s 3 _ rfl ⟨w.heap.size + 1 + 1 + 1,2,none⟩ rfl w' _ .i64 (by kernel_rfl) (uh HC9 w' hw').1) ?_
  simp only [Act.put,List.setIfInBounds_toArray,List.set_cons_succ,List.set_cons_zero]
  refine xa2t rfl (.bool false) (fun w' _=>by unfold execOp; go_simp; try omega) ?_
  simp only [Act.put,List.setIfInBounds_toArray,List.set_cons_succ,List.set_cons_zero]
  repeat (go_big_quiet_step (fail))
  refine wpQuiet_nil ?_
  intro w9 k9
  have HT9:=hide (uh HEND w9 k9)
  clear k9 HC9 hnp
  obtain ⟨d0,d1,d2,d3⟩:=hcells (uh HT9).h
  obtain ⟨x0,x1,x2,x3⟩:=hcells (uh HT9).z
  obtain ⟨f0,f1,f2,f3⟩:=hfroz (uh HT9).z
  go_wp2
  refine bodyPost_ret (v:=.tuple #[.agg #[.int .u64 (a:Int),.int .u64 (b:Int),.int .u64 (c:Int),.int .i64 (d:Int)],.bool false]) ?_ rfl ⟨a,b,c,d,rfl,(fun h=>nomatch h),xa1s (uh HT9).kept (w.heap.size + 1) (by omega) _ _ _ _⟩
  exact xa0b rfl _ _ (w.heap.size + 1) _ #[.int .u64 (a:Int),.int .u64 (b:Int),.int .u64 (c:Int),.int .i64 (d:Int)] (0,0) _ rfl (xa1r (uh HT9).z _ _ _ _) Tryz.underlying174 rfl Tryz.size_rhead _ rfl
end
section
open Go.RowKit
attribute [local go_sem ↓] Go.wp_at_zero Go.wp_at_succ
set_option maxHeartbeats 4000000 in
theorem xa2j (ao:Option Addr) (c:Nat) (p:List Nat) (i e:Nat) (n:Int) (w:World) (h:Rd w (.slice ao p.length c) p) (hi:i≤p.length) (hn:-9223372036854775808≤n∧n≤9223372036854775807) :
  Calls Tryz.prog 231 #[rrV (.slice ao p.length c) i e,.int .i64 n] w fun r w'=>∃ rv,r = .returned (.tuple #[rv,rrV (.slice ao p.length c) (rBlob p i e n).2.1 (rBlob p i e n).2.2])∧Rd w' rv (rBlob p i e n).1∧Kept [] w w'∧∀ x∈blk rv,w.heap.size≤x:=by
 have hl:=h.len
 have HR:=hide h
 by_cases he:e = 0
 ·subst he
  have HVdef:=hide (by simp only [rBlob,ne_eq,not_true_eq_false,if_false]:rBlob p i 0 n = if n < 0 then ([],i,1) else if (fuv (p.drop i) 0 0).2 = 0 then ([],i,3) else if n < (fuv (p.drop i) 0 0).1 then ([],i,2) else if (p.drop i).length - (fuv (p.drop i) 0 0).2 < (fuv (p.drop i) 0 0).1 then ([],i,3) else (((p.drop i).drop (fuv (p.drop i) 0 0).2).take (fuv (p.drop i) 0 0).1,i + ((fuv (p.drop i) 0 0).2 + (fuv (p.drop i) 0 0).1),0))
  have HU0:=hide (by simp [rUvar]:rUvar p i 0 = if (fuv (p.drop i) 0 0).2 = 0 then (0,i,3) else ((fuv (p.drop i) 0 0).1,i + (fuv (p.drop i) 0 0).2,0))
  have hfl:=fuv_le (p.drop i) 0 0
  have hfx:=fuv_lt (p.drop i) 0 0 (by decide) (by decide)
  obtain ⟨x,s,hx⟩:∃ x s,fuv (p.drop i) 0 0 = (x,s):=⟨_,_,rfl⟩
  rw [hx] at HVdef HU0 hfl hfx
  simp only [Nat.zero_add,List.length_drop] at HVdef HU0 hfl hfx
  have hx':(x:Int)≤18446744073709551615:=by omega
  clear hx h
  by_cases hn0:n < 0
  ·have HV:=hide (by rw [uh HVdef,if_pos hn0]:rBlob p i 0 n = ([],i,1))
   go_enter Tryz.func231,Tryz.ntmps231
   go_wp2_with fail
   refine (xa1m _ p.length c i 0 1 _).mono ?_
   rintro r w1 ⟨rfl,k1⟩
   obtain ⟨⟨c0,c1,c2⟩,f0,f1,f2⟩:=three (k1.heap (heap_alloc2_new w _ _) (by simp))
   have HK1:=hide ((((Kept.refl [] w).alloc _).alloc _).trans k1 (by simp))
   clear k1
   go_wp2
   refine bodyPost_ret (v:=.tuple #[.slice none 0 0,rrV (.slice ao p.length c) i 1]) (by simp [results,Tryz.results231,go_sem,c0,c1,c2]) rfl ?_
   rw [uh HV]
   exact ⟨_,rfl,Rd.nil _,(((uh HK1).setCell (by simp) _).setCell (by simp) _).setCell (by simp) _,by simp [blk]⟩
  ·obtain ⟨mo,rfl⟩:∃ mo:Nat,n = mo:=⟨n.toNat,by omega⟩
   have HV2:=hide (by rw [uh HVdef,if_neg hn0]:rBlob p i 0 mo = if s = 0 then ([],i,3) else if (mo:Int) < x then ([],i,2) else if p.length - i - s < x then ([],i,3) else (((p.drop i).drop s).take x,i + (s + x),0))
   have hmo:(0:Int)≤mo:=by omega
   have hmo2:(mo:Int)≤9223372036854775807:=hn.2
   clear HVdef
   by_cases hs0:s = 0
   ·have HV:=hide (by rw [uh HV2,if_pos hs0]:rBlob p i 0 mo = ([],i,3))
    have HU:=hide (by rw [uh HU0,if_pos hs0]:rUvar p i 0 = (0,i,3))
    go_enter Tryz.func231,Tryz.ntmps231
    go_wp2_with fail
    refine (xa1h ao c p i 0 _ (by exact (uh HR).old (((Kept.refl [] w).alloc _).alloc _) (by simp)) hi).mono ?_
    rintro r w1 ⟨rfl,k1⟩
    rw [uh HU]
    simp only
    obtain ⟨⟨b0,b1,b2⟩,g0,g1,g2⟩:=three (k1.heap (heap_alloc2_old w _ _) (by simp))
    obtain ⟨⟨c0,c1,c2⟩,f0,f1,f2⟩:=three (k1.heap (heap_alloc2_new w _ _) (by simp))
    have HK1:=hide ((((Kept.refl [] w).alloc _).alloc _).trans k1 (by simp))
    have hB0:=hide (k1.heap (heap_alloc2_old w _ _) (by simp))
    have hB1:=hide (k1.heap (heap_alloc2_new w _ _) (by simp))
    have hsz1:w.heap.size + 1 < w1.heap.size:=by have:=k1.size; simp at this; omega
    have hsz0:w.heap.size < w1.heap.size:=by omega
    clear k1
    go_wp2_with fail
    refine (xa1m _ p.length c i 0 3 _).mono ?_
    rintro r w2 ⟨rfl,k2⟩
    obtain ⟨⟨d0,d1,d2⟩,e0,e1,e2⟩:=three (k2.heap (Below.heap_alloc w1 _ _ hsz1 ▸ uh hB1:(w1.alloc _).heap[w.heap.size + 1]? = _) (by simp))
    have HK2:=hide (((uh HK1).alloc _).trans k2 (by simp))
    clear k2
    go_wp2
    refine bodyPost_ret (v:=.tuple #[.slice none 0 0,rrV (.slice ao p.length c) i 3]) (by simp [results,Tryz.results231,go_sem,d0,d1,d2]) rfl ?_
    rw [uh HV]
    exact ⟨_,rfl,Rd.nil _,(((uh HK2).setCell (by simp) _).setCell (by simp) _).setCell (by simp) _,by simp [blk]⟩
   ·have HU:=hide (by rw [uh HU0,if_neg hs0]:rUvar p i 0 = (x,i + s,0))
    by_cases hm:(mo:Int) < x
    ·have HV:=hide (by rw [uh HV2,if_neg hs0,if_pos hm]:rBlob p i 0 mo = ([],i,2))
     go_enter Tryz.func231,Tryz.ntmps231
     go_wp2_with fail
     refine (xa1h ao c p i 0 _ (by exact (uh HR).old (((Kept.refl [] w).alloc _).alloc _) (by simp)) hi).mono ?_
     rintro r w1 ⟨rfl,k1⟩
     rw [uh HU]
     simp only
     obtain ⟨⟨b0,b1,b2⟩,g0,g1,g2⟩:=three (k1.heap (heap_alloc2_old w _ _) (by simp))
     obtain ⟨⟨c0,c1,c2⟩,f0,f1,f2⟩:=three (k1.heap (heap_alloc2_new w _ _) (by simp))
     have HK1:=hide ((((Kept.refl [] w).alloc _).alloc _).trans k1 (by simp))
     have hB0:=hide (k1.heap (heap_alloc2_old w _ _) (by simp))
     have hB1:=hide (k1.heap (heap_alloc2_new w _ _) (by simp))
     have hsz1:w.heap.size + 1 < w1.heap.size:=by have:=k1.size; simp at this; omega
     have hsz0:w.heap.size < w1.heap.size:=by omega
     clear k1
     go_wp2_with fail
     refine (xa1m _ p.length c i 0 2 _).mono ?_
     rintro r w2 ⟨rfl,k2⟩
     obtain ⟨⟨d0,d1,d2⟩,e0,e1,e2⟩:=three (k2.heap (Below.heap_alloc w1 _ _ hsz1 ▸ uh hB1:(w1.alloc _).heap[w.heap.size + 1]? = _) (by simp))
     have HK2:=hide (((uh HK1).alloc _).trans k2 (by simp))
     clear k2
     go_wp2
     refine bodyPost_ret (v:=.tuple #[.slice none 0 0,rrV (.slice ao p.length c) i 2]) (by simp [results,Tryz.results231,go_sem,d0,d1,d2]) rfl ?_
     rw [uh HV]
     exact ⟨_,rfl,Rd.nil _,(((uh HK2).setCell (by simp) _).setCell (by simp) _).setCell (by simp) _,by simp [blk]⟩
    ·by_cases hlt:p.length - i - s < x
     ·have HV:=hide (by rw [uh HV2,if_neg hs0,if_neg hm,if_pos hlt]:rBlob p i 0 mo = ([],i,3))
      have hlt':(p.length:Int) - ((i:Int) + s) < x:=by omega
      go_enter Tryz.func231,Tryz.ntmps231
      go_wp2_with fail
      refine (xa1h ao c p i 0 _ (by exact (uh HR).old (((Kept.refl [] w).alloc _).alloc _) (by simp)) hi).mono ?_
      rintro r w1 ⟨rfl,k1⟩
      rw [uh HU]
      simp only
      obtain ⟨⟨b0,b1,b2⟩,g0,g1,g2⟩:=three (k1.heap (heap_alloc2_old w _ _) (by simp))
      obtain ⟨⟨c0,c1,c2⟩,f0,f1,f2⟩:=three (k1.heap (heap_alloc2_new w _ _) (by simp))
      have HK1:=hide ((((Kept.refl [] w).alloc _).alloc _).trans k1 (by simp))
      have hB0:=hide (k1.heap (heap_alloc2_old w _ _) (by simp))
      have hB1:=hide (k1.heap (heap_alloc2_new w _ _) (by simp))
      have hsz1:w.heap.size + 1 < w1.heap.size:=by have:=k1.size; simp at this; omega
      have hsz0:w.heap.size < w1.heap.size:=by omega
      clear k1
      go_wp2_with fail
      refine (xa1m _ p.length c i 0 3 _).mono ?_
      rintro r w2 ⟨rfl,k2⟩
      obtain ⟨⟨d0,d1,d2⟩,e0,e1,e2⟩:=three (k2.heap (Below.heap_alloc w1 _ _ hsz1 ▸ uh hB1:(w1.alloc _).heap[w.heap.size + 1]? = _) (by simp))
      have HK2:=hide (((uh HK1).alloc _).trans k2 (by simp))
      clear k2
      go_wp2
      refine bodyPost_ret (v:=.tuple #[.slice none 0 0,rrV (.slice ao p.length c) i 3]) (by simp [results,Tryz.results231,go_sem,d0,d1,d2]) rfl ?_
      rw [uh HV]
      exact ⟨_,rfl,Rd.nil _,(((uh HK2).setCell (by simp) _).setCell (by simp) _).setCell (by simp) _,by simp [blk]⟩
     ·have HV:=hide (by rw [uh HV2,if_neg hs0,if_neg hm,if_neg hlt]:rBlob p i 0 mo = (((p.drop i).drop s).take x,i + (s + x),0))
      have hlt':¬ (p.length:Int) - ((i:Int) + s) < x:=by omega
      have hx47:(x:Int)≤140737488355328:=by omega
      have HRR:=hide (by have h2:¬ (p.length:Int) - ((i + s:Nat):Int) < (x:Int):=(by omega); simp only [rRaw,ne_eq,not_true_eq_false,if_false]; rw [if_neg (by omega),if_neg h2]; simp:rRaw p (i + s) 0 x = ((p.drop (i + s)).take x,i + s + x,0))
      go_enter Tryz.func231,Tryz.ntmps231
      go_wp2_with fail
      refine (xa1h ao c p i 0 _ (by exact (uh HR).old (((Kept.refl [] w).alloc _).alloc _) (by simp)) hi).mono ?_
      rintro r w1 ⟨rfl,k1⟩
      rw [uh HU]
      simp only
      obtain ⟨⟨b0,b1,b2⟩,g0,g1,g2⟩:=three (k1.heap (heap_alloc2_old w _ _) (by simp))
      obtain ⟨⟨c0,c1,c2⟩,f0,f1,f2⟩:=three (k1.heap (heap_alloc2_new w _ _) (by simp))
      have HK1:=hide ((((Kept.refl [] w).alloc _).alloc _).trans k1 (by simp))
      have hB0:=hide (k1.heap (heap_alloc2_old w _ _) (by simp))
      have hB1:=hide (k1.heap (heap_alloc2_new w _ _) (by simp))
      have hsz1:w.heap.size + 1 < w1.heap.size:=by have:=k1.size; simp at this; omega
      have hsz0:w.heap.size < w1.heap.size:=by omega
      clear k1
      go_wp2_with fail
      rw [show ((i:Int) + s) = ((i + s:Nat):Int) from by omega]
      refine (xa3u ao c p (i + s) 0 (x:Int) _ (by exact ((uh HR).old (uh HK1) (by simp)).old ((Kept.refl [] w1).alloc _) (by simp)) (by omega) (by omega)).mono ?_
      rintro r w2 ⟨rv,rfl,hr2,k2,hb2⟩
      rw [uh HRR] at hr2 ⊢
      simp only at hr2
      obtain ⟨⟨d0,d1,d2⟩,e0,e1,e2⟩:=three (k2.heap (Below.heap_alloc w1 _ _ hsz1 ▸ uh hB1:(w1.alloc _).heap[w.heap.size + 1]? = _) (by simp))
      have HK2:=hide (((uh HK1).alloc _).trans k2 (by simp))
      have HRv:=hide hr2
      have HBv:=hide (fun y (hy:y∈blk rv)=>(by have:=hb2 y hy; simp at this; omega:w1.heap.size < y))
      obtain ⟨ao5,n5,c5,hrv⟩:∃ ao n c,rv = .slice ao n c:=by obtain ⟨ao,n,c,e,_⟩:=hr2; exact ⟨ao,n,c,e⟩
      subst hrv
      clear hr2 k2 hb2
      go_wp2
      refine bodyPost_ret (v:=.tuple #[.slice ao5 n5 c5,rrV (.slice ao p.length c) ((i:Int) + s + x) 0]) (by simp [results,Tryz.results231,go_sem,d0,d1,d2]) rfl ?_
      rw [uh HV]
      refine ⟨.slice ao5 n5 c5,by simp [Int.add_assoc],?_,(((uh HK2).setCell (by simp) _).setCell (by simp) _).setCell (by simp) _,fun y hy=>by have:=uh HBv y hy; omega⟩
      rw [List.drop_drop]
      exact (uh HRv).kept (L:=[w.heap.size + 1]) (by repeat (first | exact Kept.refl _ _ | apply Kept.drew | apply Kept.alloc | (refine Kept.setCell ?_ (by simp) _))) (by intro y hy; have:=uh HBv y hy; simp; omega)
 ·have he':((e:Int) != 0) = true:=by rw [bne_iff_ne]; omega
  have HV:=hide (by simp [rBlob,he]:rBlob p i e n = ([],i,e))
  clear he h
  go_enter Tryz.func231,Tryz.ntmps231
  go_wp2_with fail
  go_region
  all_goals go_wp2
  refine bodyPost_ret (v:=.tuple #[.slice none 0 0,rrV (.slice ao p.length c) i e]) (by simp [results,Tryz.results231,go_sem]) rfl ?_
  rw [uh HV]
  exact ⟨_,rfl,Rd.nil _,(by repeat (first | exact Kept.refl _ _ | apply Kept.drew | apply Kept.alloc | (refine Kept.setCell ?_ (by simp) _))),by simp [blk]⟩
end
section
open Go
section
variable {P:Program} {ops:Array Oper} {Q:Exit→Act→World→Prop}
theorem xa4j {i:Nat} {o:Oper} {K:Act→World→Prop} {a:Act} {w:World} (hi:ops[i]? = some o) (hg:o.guard = none) (h:o.wp P a w K Q):wpOp P ops Q i K a w:=by
 have hw:Region.wanted o (yielded ops a.tmps) = true:=by unfold Region.wanted; rw [hg]
 unfold wpOp; simp only [hi,hw,if_true]; exact Or.inl h
theorem xb6d {id:Nat} {o0 o1 o2 o3:Oper} {a:Act} {w:World} (hm:P.follows .mixedOrders = true)
  (r0:Region.ready .any #[o0,o1,o2,o3] #[false,false,false,false] = [0,1]) (r1:Region.ready .any #[o0,o1,o2,o3] #[true,false,false,false] = [1,2])
  (r2:Region.ready .any #[o0,o1,o2,o3] #[false,true,false,false] = [0]) (r3:Region.ready .any #[o0,o1,o2,o3] #[true,true,false,false] = [2])
  (r4:Region.ready .any #[o0,o1,o2,o3] #[true,false,true,false] = [1]) (r5:Region.ready .any #[o0,o1,o2,o3] #[true,true,true,false] = [3])
  (r6:Region.ready .any #[o0,o1,o2,o3] #[true,true,true,true] = [])
  (g0:o0.guard = none) (g1:o1.guard = none) (g2:o2.guard = none) (g3:o3.guard = none)
  (t0 t1:TypeId) (x0 x1 p0 p1 y0 y1:Operand) (h0:o0.op = .load t0 x0) (h1:o1.op = .load t1 x1) (h2:o2.op = .store t0 p0 y0) (h3:o3.op = .store t1 p1 y1)
  (b0 b1 c0 c1:Nat) (cs0 cs1:List Value) (d0 d1:TypeDesc)
  (R0:w.drew.rangeAt b0 0 cs0) (R1:w.drew.rangeAt b1 0 cs1) (T0:w.drew.there c0 0 cs0.length) (T1:w.drew.there c1 0 cs1.length) (hne:b1≠c0)
  (hu0:P.underlying t0 = some d0) (hd0:d0.isRow = true) (hi0:(P.info? t0).map (·.size) = some cs0.length) (n0:∀ v∈cs0,v.oneCell' = true)
  (hu1:P.underlying t1 = some d1) (hd1:d1.isRow = true) (hi1:(P.info? t1).map (·.size) = some cs1.length) (n1:∀ v∈cs1,v.oneCell' = true)
  (e0:a.eval x0 = .pointer (some ⟨b0,0,none⟩)) (e0':(a.put o1.dst (.agg cs1.toArray)).eval x0 = .pointer (some ⟨b0,0,none⟩))
  (e1:a.eval x1 = .pointer (some ⟨b1,0,none⟩)) (e1':(a.put o0.dst (.agg cs0.toArray)).eval x1 = .pointer (some ⟨b1,0,none⟩)) (e1'':((a.put o0.dst (.agg cs0.toArray)).put o2.dst undef).eval x1 = .pointer (some ⟨b1,0,none⟩))
  (k1:(a.put o1.dst (.agg cs1.toArray)).put o0.dst (.agg cs0.toArray) = (a.put o0.dst (.agg cs0.toArray)).put o1.dst (.agg cs1.toArray))
  (k2:((a.put o0.dst (.agg cs0.toArray)).put o2.dst undef).put o1.dst (.agg cs1.toArray) = ((a.put o0.dst (.agg cs0.toArray)).put o1.dst (.agg cs1.toArray)).put o2.dst undef)
  (q0:(a.put o0.dst (.agg cs0.toArray)).eval p0 = .pointer (some ⟨c0,0,none⟩)) (q0':((a.put o0.dst (.agg cs0.toArray)).put o1.dst (.agg cs1.toArray)).eval p0 = .pointer (some ⟨c0,0,none⟩))
  (z0:(a.put o0.dst (.agg cs0.toArray)).eval y0 = .agg cs0.toArray) (z0':((a.put o0.dst (.agg cs0.toArray)).put o1.dst (.agg cs1.toArray)).eval y0 = .agg cs0.toArray)
  (q1:(((a.put o0.dst (.agg cs0.toArray)).put o1.dst (.agg cs1.toArray)).put o2.dst undef).eval p1 = .pointer (some ⟨c1,0,none⟩))
  (z1:(((a.put o0.dst (.agg cs0.toArray)).put o1.dst (.agg cs1.toArray)).put o2.dst undef).eval y1 = .agg cs1.toArray)
  (h:Q .normal ((((a.put o0.dst (.agg cs0.toArray)).put o1.dst (.agg cs1.toArray)).put o2.dst undef).put o3.dst undef) ((w.drew.setCells c0 0 cs0).setCells c1 0 cs1)) :
  (Code.region id #[o0,o1,o2,o3] true).wp P Q a w:=by
 refine wp_region_any hm ?_
 show wpAny P .any #[o0,o1,o2,o3] Q 4 #[false,false,false,false] a w.drew
 have i0:(#[o0,o1,o2,o3]:Array Oper)[0]? = some o0:=rfl
 have i1:(#[o0,o1,o2,o3]:Array Oper)[1]? = some o1:=rfl
 have i2:(#[o0,o1,o2,o3]:Array Oper)[2]? = some o2:=rfl
 have i3:(#[o0,o1,o2,o3]:Array Oper)[3]? = some o3:=rfl
 have last:∀ A,A = (((a.put o0.dst (.agg cs0.toArray)).put o1.dst (.agg cs1.toArray)).put o2.dst undef)→wpAny P .any #[o0,o1,o2,o3] Q 1 #[true,true,true,false] A (w.drew.setCells c0 0 cs0):=by
  rintro A rfl
  refine ⟨fun hr=>(by rw [r5] at hr; simp at hr),fun i hi=>?_⟩
  rw [r5] at hi
  obtain rfl:i = 3:=by simpa using hi
  refine xa4j i3 g3 (wp_store_mid t1 p1 y1 h3 c1 0 cs1.toArray q1 z1 (World.there_setCells (by simpa using T1) _ _ _) (by simpa using hi1) (all_oneCell_toArray n1) ?_)
  exact ⟨r6,by simpa using h⟩
 have third:∀ A,A = ((a.put o0.dst (.agg cs0.toArray)).put o1.dst (.agg cs1.toArray))→wpAny P .any #[o0,o1,o2,o3] Q 2 #[true,true,false,false] A w.drew:=by
  rintro A rfl
  refine ⟨fun hr=>(by rw [r3] at hr; simp at hr),fun i hi=>?_⟩
  rw [r3] at hi
  obtain rfl:i = 2:=by simpa using hi
  refine xa4j i2 g2 (wp_store_mid t0 p0 y0 h2 c0 0 cs0.toArray q0' z0' (by simpa using T0) (by simpa using hi0) (all_oneCell_toArray n0) ?_)
  exact last _ rfl
 refine ⟨fun hr=>(by rw [r0] at hr; simp at hr),fun i hi=>?_⟩
 rw [r0] at hi
 rcases (by simpa using hi:i = 0∨i = 1) with rfl | rfl
 ·refine xa4j i0 g0 (wp_load_mid t0 x0 h0 b0 0 e0 cs0 d0 R0 hu0 hd0 hi0 ?_)
  show wpAny P .any #[o0,o1,o2,o3] Q 3 #[true,false,false,false] _ w.drew
  refine ⟨fun hr=>(by rw [r1] at hr; simp at hr),fun i hi=>?_⟩
  rw [r1] at hi
  rcases (by simpa using hi:i = 1∨i = 2) with rfl | rfl
  ·exact xa4j i1 g1 (wp_load_mid t1 x1 h1 b1 0 e1' cs1 d1 R1 hu1 hd1 hi1 (third _ rfl))
  ·refine xa4j i2 g2 (wp_store_mid t0 p0 y0 h2 c0 0 cs0.toArray q0 z0 (by simpa using T0) (by simpa using hi0) (all_oneCell_toArray n0) ?_)
   show wpAny P .any #[o0,o1,o2,o3] Q 2 #[true,false,true,false] _ (w.drew.setCells c0 0 cs0)
   refine ⟨fun hr=>(by rw [r4] at hr; simp at hr),fun i hi=>?_⟩
   rw [r4] at hi
   obtain rfl:i = 1:=by simpa using hi
   exact xa4j i1 g1 (wp_load_mid t1 x1 h1 b1 0 e1'' cs1 d1 (World.rangeAt_setCells_apart R1 _ _ _ (Or.inl hne)) hu1 hd1 hi1 (last _ k2))
 ·refine xa4j i1 g1 (wp_load_mid t1 x1 h1 b1 0 e1 cs1 d1 R1 hu1 hd1 hi1 ?_)
  show wpAny P .any #[o0,o1,o2,o3] Q 3 #[false,true,false,false] _ w.drew
  refine ⟨fun hr=>(by rw [r2] at hr; simp at hr),fun i hi=>?_⟩
  rw [r2] at hi
  obtain rfl:i = 0:=by simpa using hi
  exact xa4j i0 g0 (wp_load_mid t0 x0 h0 b0 0 e0' cs0 d0 R0 hu0 hd0 hi0 (third _ k1))
end
end
section
open Go.RowKit Go.BigFrame
theorem xa0d {L:List Nat} {w0:World} (b:Nat) (hb:b∈L∨w0.heap.size≤b):∀ (vs:List Value) (o:Nat) (w:World),Kept L w0 w→Kept L w0 (w.setCells b o vs)
 | [],_,_,h=>h
 | v :: r,o,w,h=>by rw [World.setCells]; exact xa0d b hb r (o + 1) _ (h.setCell hb v)
theorem xa4h (b:Nat) (t:TypeId):∀ (vs:List Value) (pre post:List Value) (w:World),post.length = vs.length→w.heap[b]? = some (.cells (pre++post).toArray t (0,0))→(w.setCells b pre.length vs).heap[b]? = some (.cells (pre++vs).toArray t (0,0))
 | [],pre,post,w,hl,h=>by
  have:post = []:=List.eq_nil_of_length_eq_zero (by simpa using hl)
  subst this; exact h
 | v :: r,pre,post,w,hl,h=>by
  obtain ⟨x,post,rfl⟩:∃ x q,post = x :: q:=by cases post with | nil=>simp at hl | cons x q=>exact ⟨x,q,rfl⟩
  rw [World.setCells]
  have h1:=heap_setCell_same w b pre.length _ t v h
  have e1:(pre++x :: post).toArray.setIfInBounds pre.length v = ((pre++[v])++post).toArray:=by simp
  rw [e1] at h1
  have h2:=xa4h b t r (pre++[v]) post _ (by simpa using hl) h1
  rw [List.length_append,List.length_cons,List.length_nil,List.append_assoc] at h2
  simpa using h2
theorem xa1i {w:World} {b:Nat} {t:TypeId} {old vs:List Value} (h:w.heap[b]? = some (.cells old.toArray t (0,0))) (hl:old.length = vs.length):(w.setCells b 0 vs).heap[b]? = some (.cells vs.toArray t (0,0)) :=
 xa4h b t vs [] old w hl h
theorem xa2x {w:World} {b:Nat} {t:TypeId} {fr:Nat × Nat} {cs:List Value} (h:w.heap[b]? = some (.cells cs.toArray t fr)):w.rangeAt b 0 cs:=fun j v hv=>by
 rw [cell_of_row w b (0 + j) _ t fr h,Nat.zero_add]; simpa using hv
theorem xa2w {w:World} {b:Nat} {t:TypeId} {cs:List Value} (h:w.heap[b]? = some (.cells cs.toArray t (0,0))):w.there b 0 cs.length:=fun j hj =>
 ⟨by rw [cell_of_row w b (0 + j) _ t _ h,Nat.zero_add]; simp [hj],frozen_of_row _ _ _ _ _ h⟩
set_option maxHeartbeats 1000000 in
theorem xa3h (ao:Option Addr) (n c i e f:Nat) (w:World) :
  Calls Tryz.prog 183 #[rrV (.slice ao n c) i e,.int .i64 f] w fun r w'=>r = .returned (rrV (.slice ao n c) i (if e = 0 then f else e:Nat))∧Kept [] w w':=by
 by_cases he:e = 0
 ·have hb:((e:Int) == 0) = true:=by rw [he]; rfl
  rw [if_pos he]
  clear he
  go_enter Tryz.func183,Tryz.ntmps183
  go_wp2
  exact bodyPost_ret (v:=.agg #[.slice ao n c,.int .i64 i,.int .i64 f]) (by simp [results,Tryz.results183,go_sem]) rfl ⟨rfl,((Kept.refl [] w).alloc _).alloc _⟩
 ·have hb:((e:Int) == 0) = false:=by rw [beq_eq_false_iff_ne]; omega
  rw [if_neg he]
  clear he
  go_enter Tryz.func183,Tryz.ntmps183
  go_wp2
  exact bodyPost_ret (v:=.agg #[.slice ao n c,.int .i64 i,.int .i64 e]) (by simp [results,Tryz.results183,go_sem]) rfl ⟨rfl,((Kept.refl [] w).alloc _).alloc _⟩
theorem xa1y {P:Program} {fn:Func} {p q:Tmp} {ty ty2:TypeId} (h:fn.results = #[.cell p ty,.cell q ty2]) (tmps:Array Value) (w:World) (g g2:Nat) (t t2:TypeId) (cs cs2:Array Value) (fr fr2:Nat × Nat) (d d2:TypeDesc)
  (hp:tmps.getD p undef = .pointer (some ⟨g,0,none⟩)) (hg:w.heap[g]? = some (.cells cs t fr)) (hq:tmps.getD q undef = .pointer (some ⟨g2,0,none⟩)) (hg2:w.heap[g2]? = some (.cells cs2 t2 fr2))
  (hu:P.underlying ty = some d) (hd:(match d with | .struct _ | .array _ _=>true | _=>false) = true) (hi:(P.info? ty).map (·.size) = some cs.size)
  (hu2:P.underlying ty2 = some d2) (hd2:(match d2 with | .struct _ | .array _ _=>true | _=>false) = true) (hi2:(P.info? ty2).map (·.size) = some cs2.size) :
  (results fn tmps).run P w = .ok (.tuple #[.agg cs,.agg cs2]) w:=by
 have hp':tmps[p]?.getD undef = .pointer (some ⟨g,0,none⟩):=by simpa using hp
 have hq':tmps[q]?.getD undef = .pointer (some ⟨g2,0,none⟩):=by simpa using hq
 simp [results,h,hp',hq',asAddr,run_loadVar_row w g t ty cs fr d hg hu hd hi,run_loadVar_row w g2 t2 ty2 cs2 fr2 d2 hg2 hu2 hd2 hi2]
theorem Tryz.size_rr:(Tryz.prog.info? 272).map (·.size) = some 3:=by kernel_rfl
structure TK (w W:World) (gv:Value) (i e:Nat) (k:Nat) (kv vv:Value):Prop where
 r:W.heap[w.heap.size]? = some (.cells #[gv,.int .i64 (i:Int),.int .i64 (e:Int)] 272 (0,0))
 a:W.heap[w.heap.size + 1]? = some (.cells #[.int .u8 0,.slice none 0 0,.slice none 0 0] 89 (0,0))
 b:W.heap[w.heap.size + 1 + 1]? = some (.cells #[.slice none 0 0,.int .i64 0,.int .i64 0] 272 (0,0))
 c:W.heap[w.heap.size + 1 + 1 + 1]? = some (.cells #[.int .u8 (k:Int),kv,vv] 89 (0,0))
 kept:Kept [] w W
theorem TK.old {w W W':World} {gv:Value} {i e k:Nat} {kv vv:Value} (h:TK w W gv i e k kv vv) (q:Kept [] W W'):TK w W' gv i e k kv vv :=
 ⟨q.heap h.r (by simp),q.heap h.a (by simp),q.heap h.b (by simp),q.heap h.c (by simp),h.kept.trans q (by simp)⟩
theorem TK.setR {w W:World} {gv:Value} {i e k:Nat} {kv vv:Value} (h:TK w W gv i e k kv vv) (gv':Value) (i' e':Nat) :
  TK w (((W.setCell ⟨w.heap.size,0,none⟩ gv').setCell ⟨w.heap.size,1,none⟩ (.int .i64 (i':Int))).setCell ⟨w.heap.size,2,none⟩ (.int .i64 (e':Int))) gv' i' e' k kv vv:=by
 have q:=xa1b (Kept.refl [w.heap.size] W) w.heap.size (Or.inl (by simp)) gv' (.int .i64 (i':Int)) (.int .i64 (e':Int))
 exact ⟨xa4w h.r _ _ _,q.heap h.a (by simp),q.heap h.b (by simp; omega),q.heap h.c (by simp; omega),xa1b h.kept _ (Or.inr (Nat.le_refl _)) _ _ _⟩
theorem TK.setK {w W:World} {gv:Value} {i e k:Nat} {kv vv:Value} (h:TK w W gv i e k kv vv) (k':Nat):TK w (W.setCell ⟨w.heap.size + 1 + 1 + 1,0,none⟩ (.int .u8 (k':Int))) gv i e k' kv vv:=by
 have q:=(Kept.refl [w.heap.size + 1 + 1 + 1] W).setCell (p:=⟨w.heap.size + 1 + 1 + 1,0,none⟩) (Or.inl (by simp)) (.int .u8 (k':Int))
 exact ⟨q.heap h.r (by simp; omega),q.heap h.a (by simp),q.heap h.b (by simp),heap_setCell_same W _ 0 _ 89 _ h.c,h.kept.setCell (Or.inr (by show w.heap.size≤w.heap.size + 1 + 1 + 1; omega)) _⟩
theorem TK.setY {w W:World} {gv:Value} {i e k:Nat} {kv vv:Value} (h:TK w W gv i e k kv vv) (y:Value):TK w (W.setCell ⟨w.heap.size + 1 + 1 + 1,1,none⟩ y) gv i e k y vv:=by
 have q:=(Kept.refl [w.heap.size + 1 + 1 + 1] W).setCell (p:=⟨w.heap.size + 1 + 1 + 1,1,none⟩) (Or.inl (by simp)) y
 exact ⟨q.heap h.r (by simp; omega),q.heap h.a (by simp),q.heap h.b (by simp),heap_setCell_same W _ 1 _ 89 _ h.c,h.kept.setCell (Or.inr (by show w.heap.size≤w.heap.size + 1 + 1 + 1; omega)) _⟩
theorem TK.setV {w W:World} {gv:Value} {i e k:Nat} {kv vv:Value} (h:TK w W gv i e k kv vv) (y:Value):TK w (W.setCell ⟨w.heap.size + 1 + 1 + 1,2,none⟩ y) gv i e k kv y:=by
 have q:=(Kept.refl [w.heap.size + 1 + 1 + 1] W).setCell (p:=⟨w.heap.size + 1 + 1 + 1,2,none⟩) (Or.inl (by simp)) y
 exact ⟨q.heap h.r (by simp; omega),q.heap h.a (by simp),q.heap h.b (by simp),heap_setCell_same W _ 2 _ 89 _ h.c,h.kept.setCell (Or.inr (by show w.heap.size≤w.heap.size + 1 + 1 + 1; omega)) _⟩
theorem TK.start (w:World) (gv:Value) (i e:Nat):TK w ((((w.alloc (.cells #[gv,.int .i64 (i:Int),.int .i64 (e:Int)] 272)).alloc (.cells #[.int .u8 0,.slice none 0 0,.slice none 0 0] 89)).alloc (.cells #[.slice none 0 0,.int .i64 0,.int .i64 0] 272)).alloc (.cells #[.int .u8 0,.slice none 0 0,.slice none 0 0] 89)) gv i e 0 (.slice none 0 0) (.slice none 0 0):=by
 have h3:=xa2l w (.cells #[gv,.int .i64 (i:Int),.int .i64 (e:Int)] 272) (.cells #[.int .u8 0,.slice none 0 0,.slice none 0 0] 89) (.cells #[.slice none 0 0,.int .i64 0,.int .i64 0] 272)
 have q:=(Kept.refl [] (((w.alloc (.cells #[gv,.int .i64 (i:Int),.int .i64 (e:Int)] 272)).alloc (.cells #[.int .u8 0,.slice none 0 0,.slice none 0 0] 89)).alloc (.cells #[.slice none 0 0,.int .i64 0,.int .i64 0] 272))).alloc (.cells #[.int .u8 0,.slice none 0 0,.slice none 0 0] 89)
 refine ⟨q.heap h3.1 (by simp),q.heap h3.2.1 (by simp),q.heap h3.2.2 (by simp),?_,(((((Kept.refl [] w).alloc _).alloc _).alloc _).alloc _)⟩
 have h9:=heap_alloc_new (((w.alloc (.cells #[gv,.int .i64 (i:Int),.int .i64 (e:Int)] 272)).alloc (.cells #[.int .u8 0,.slice none 0 0,.slice none 0 0] 89)).alloc (.cells #[.slice none 0 0,.int .i64 0,.int .i64 0] 272)) (.cells #[.int .u8 0,.slice none 0 0,.slice none 0 0] 89)
 rw [show (((w.alloc (.cells #[gv,.int .i64 (i:Int),.int .i64 (e:Int)] 272)).alloc (.cells #[.int .u8 0,.slice none 0 0,.slice none 0 0] 89)).alloc (.cells #[.slice none 0 0,.int .i64 0,.int .i64 0] 272)).heap.size = w.heap.size + 1 + 1 + 1 by simp] at h9
 exact h9
def docF (x e:Nat):Nat:=if x = 1∨x = 2 then e else if e = 0 then 3 else e
def docT2 (p:List Nat) (x i e:Nat):En × Nat × Nat :=
 if x = 1 then (⟨x % 256,(rBlob p i (docF x e) 64).1,(rBlob p (rBlob p i (docF x e) 64).2.1 (rBlob p i (docF x e) 64).2.2 256).1⟩,(rBlob p (rBlob p i (docF x e) 64).2.1 (rBlob p i (docF x e) 64).2.2 256).2)
 else (⟨x % 256,(rBlob p i (docF x e) 64).1,[]⟩,(rBlob p i (docF x e) 64).2)
def docT (p:List Nat) (i e:Nat):En × Nat × Nat:=docT2 p (rNum p i e 1).1 (rNum p i e 1).2.1 (rNum p i e 1).2.2
theorem xa6m {p:List Nat} {i e n:Nat} (h:i≤p.length):(rNum p i e n).2.1≤p.length:=by
 unfold rNum; split
 ·exact h
 ·split
  ·exact h
  ·show i + n≤p.length; omega
theorem xa3c {p:List Nat} {i e:Nat} {m:Int} (h:i≤p.length):(rBlob p i e m).2.1≤p.length:=by
 have hf:=fuv_le (p.drop i) 0 0
 unfold rBlob
 split
 ·exact h
 split
 ·exact h
 split
 ·exact h
 split
 ·exact h
 split
 ·exact h
 ·rename_i h5
  simp only [List.length_drop] at h5 hf ⊢
  omega
set_option maxHeartbeats 2000000 in
theorem xb8l (ao:Option Addr) (c:Nat) (p:List Nat) (i e:Nat) (w:World) (h:Rd w (.slice ao p.length c) p) (hi:i≤p.length) (hx0:(rNum p i e 1).1 = 1) :
  Calls Tryz.prog 185 #[rrV (.slice ao p.length c) i e] w fun r w'=>∃ kv vv,r = .returned (.tuple #[.agg (enC (docT p i e).1 kv vv),rrV (.slice ao p.length c) (docT p i e).2.1 (docT p i e).2.2])∧OkE w' (docT p i e).1 kv vv∧Kept [] w w'∧∀ y,y∈blk kv∨y∈blk vv→w.heap.size≤y:=by
 have H:=hide h
 clear h
 obtain ⟨D,hD⟩:∃ D,docT p i e = D:=⟨_,rfl⟩
 rw [hD]
 have HD:=hide hD
 unfold docT at HD
 clear hD
 have HT0:=hide (TK.start w (.slice ao p.length c) i e)
 have hne:∀ n,w.heap.size≠w.heap.size + n + 1:=fun n=>by omega
 go_enter Tryz.func185,Tryz.ntmps185
 go_wp2_with fail
 refine Calls.mono (xa0k ao c p i e 1 _ ((uh H).old (uh HT0).kept (by simp)) hi (by decide)) ?_
 rintro r w1 ⟨rfl,k1⟩
 have hxl:=ru_lt p i e 1
 have hli1:=xa6m (p:=p) (i:=i) (e:=e) (n:=1) hi
 obtain ⟨x,hx⟩:∃ x,rNum p i e 1 = x:=⟨_,rfl⟩
 rw [hx] at HD hxl hli1 hx0 ⊢
 clear hx
 obtain ⟨x,i1,e1⟩:=x
 simp only at HD hxl hli1 hx0 ⊢
 have HT1:=hide ((uh HT0).old k1)
 clear k1
 have hzz:=hli1
 have hx1:=hx0
 clear hx0
 subst hx1
 obtain ⟨⟨s0,s1,s2⟩,t0,t1,t2⟩:=three (uh HT1).r
 obtain ⟨⟨d0,d1,d2⟩,f0,f1,f2⟩:=three (uh HT1).c
 have HTA:=hide (show TK w ((((w1.setCell ⟨w.heap.size,0,none⟩ (.slice ao p.length c)).setCell ⟨w.heap.size,1,none⟩ (.int .i64 (i1:Int))).setCell ⟨w.heap.size,2,none⟩ (.int .i64 (e1:Int))).setCell ⟨w.heap.size + 1 + 1 + 1,0,none⟩ (.int .u8 1)) (.slice ao p.length c) i1 e1 1 (.slice none 0 0) (.slice none 0 0) from ((uh HT1).setR (.slice ao p.length c) i1 e1).setK 1)
 go_wp2_with fail
 clear s0 s1 s2 t0 t1 t2 d0 d1 d2 f0 f1 f2
 obtain ⟨WA,hWA⟩:∃ W,((((w1.setCell ⟨w.heap.size,0,none⟩ (.slice ao p.length c)).setCell ⟨w.heap.size,1,none⟩ (.int .i64 (i1:Int))).setCell ⟨w.heap.size,2,none⟩ (.int .i64 (e1:Int))).setCell ⟨w.heap.size + 1 + 1 + 1,0,none⟩ (.int .u8 1)) = W:=⟨_,rfl⟩
 rw [hWA] at HTA ⊢
 clear hWA
 refine Calls.mono (xa2j ao c p i1 e1 64 WA ((uh H).old (uh HTA).kept (by simp)) hli1 (by decide)) ?_
 rintro r w3 ⟨rv3,rfl,rd3,k3,b3⟩
 have hli2:=xa3c (p:=p) (i:=i1) (e:=e1) (m:=64) hli1
 obtain ⟨y3,hy3⟩:∃ y,rBlob p i1 e1 64 = y:=⟨_,rfl⟩
 have HY3:=hide hy3
 rw [hy3] at rd3 hli2 ⊢
 clear hy3
 obtain ⟨key,i2,e2⟩:=y3
 simp only at rd3 hli2 ⊢
 have HB3:=hide (fun y hy=>by have h9:=b3 y hy; have h8:=lt_of_block (uh HTA).c; omega:∀ y∈blk rv3,w.heap.size + 1 + 1 + 1 < y)
 obtain ⟨a3,m3,c3,hu3,_⟩:=id rd3
 subst hu3
 have HRD3:=hide rd3
 have HT3:=hide ((uh HTA).old k3)
 clear rd3 b3 k3
 obtain ⟨⟨s0,s1,s2⟩,t0,t1,t2⟩:=three (uh HT3).r
 obtain ⟨⟨d0,d1,d2⟩,f0,f1,f2⟩:=three (uh HT3).c
 have HK3:=hide (xa1b ((Kept.refl [w.heap.size,w.heap.size + 1,w.heap.size + 1 + 1,w.heap.size + 1 + 1 + 1] w3).setCell (p:=⟨w.heap.size + 1 + 1 + 1,1,none⟩) (Or.inl (by simp)) (.slice a3 m3 c3)) w.heap.size (Or.inl (by simp)) (.slice ao p.length c) (.int .i64 (i2:Int)) (.int .i64 (e2:Int)))
 have HTB:=hide (((uh HT3).setY (.slice a3 m3 c3)).setR (.slice ao p.length c) i2 e2)
 go_wp2_with fail
 clear s0 s1 s2 t0 t1 t2 d0 d1 d2 f0 f1 f2
 obtain ⟨WB,hWB⟩:∃ W,((((w3.setCell ⟨w.heap.size + 1 + 1 + 1,1,none⟩ (.slice a3 m3 c3)).setCell ⟨w.heap.size,0,none⟩ (.slice ao p.length c)).setCell ⟨w.heap.size,1,none⟩ (.int .i64 (i2:Int))).setCell ⟨w.heap.size,2,none⟩ (.int .i64 (e2:Int))) = W:=⟨_,rfl⟩
 rw [hWB] at HTB HK3 ⊢
 clear hWB
 have HRB:=hide ((uh HRD3).kept (uh HK3) (fun x hx=>by have h9:=uh HB3 x hx; simp; omega))
 refine Calls.mono (xa2j ao c p i2 e2 256 WB ((uh H).old (uh HTB).kept (by simp)) hli2 (by decide)) ?_
 rintro r w5 ⟨rv5,rfl,rd5,k5,b5⟩
 have hli3:=xa3c (p:=p) (i:=i2) (e:=e2) (m:=256) hli2
 obtain ⟨y5,hy5⟩:∃ y,rBlob p i2 e2 256 = y:=⟨_,rfl⟩
 have HY5:=hide hy5
 rw [hy5] at rd5 hli3 ⊢
 clear hy5
 obtain ⟨val,i3,e3⟩:=y5
 simp only at rd5 hli3 ⊢
 have HB5:=hide (fun y hy=>by have h9:=b5 y hy; have h8:=lt_of_block (uh HTB).c; omega:∀ y∈blk rv5,w.heap.size + 1 + 1 + 1 < y)
 obtain ⟨a5,m5,c5,hu5,_⟩:=id rd5
 subst hu5
 have HRD5:=hide rd5
 have HT5:=hide ((uh HTB).old k5)
 have HRB5:=hide ((uh HRB).old k5 (by simp))
 clear rd5 b5 k5
 obtain ⟨⟨s0,s1,s2⟩,t0,t1,t2⟩:=three (uh HT5).r
 obtain ⟨⟨d0,d1,d2⟩,f0,f1,f2⟩:=three (uh HT5).c
 have HK5:=hide (xa1b ((Kept.refl [w.heap.size,w.heap.size + 1,w.heap.size + 1 + 1,w.heap.size + 1 + 1 + 1] w5).setCell (p:=⟨w.heap.size + 1 + 1 + 1,2,none⟩) (Or.inl (by simp)) (.slice a5 m5 c5)) w.heap.size (Or.inl (by simp)) (.slice ao p.length c) (.int .i64 (i3:Int)) (.int .i64 (e3:Int)))
 have HTF:=hide (((uh HT5).setV (.slice a5 m5 c5)).setR (.slice ao p.length c) i3 e3)
 have HDE:=hide (by rw [← uh HD]; unfold docT2 docF; simp [uh HY3,uh HY5]:D = (⟨1,key,val⟩,i3,e3))
 go_wp2_with fail
 clear s0 s1 s2 t0 t1 t2 d0 d1 d2 f0 f1 f2
 obtain ⟨WF,hWF⟩:∃ W,((((w5.setCell ⟨w.heap.size + 1 + 1 + 1,2,none⟩ (.slice a5 m5 c5)).setCell ⟨w.heap.size,0,none⟩ (.slice ao p.length c)).setCell ⟨w.heap.size,1,none⟩ (.int .i64 (i3:Int))).setCell ⟨w.heap.size,2,none⟩ (.int .i64 (e3:Int))) = W:=⟨_,rfl⟩
 rw [hWF] at HTF HK5 ⊢
 clear hWF
 have hrg:WF.drew.rangeAt (w.heap.size + 1 + 1 + 1) 0 [.int .u8 1,.slice a3 m3 c3,.slice a5 m5 c5]:=xa2x (uh HTF).c
 have hrr:WF.drew.rangeAt w.heap.size 0 [.slice ao p.length c,.int .i64 (i3:Int),.int .i64 (e3:Int)]:=xa2x (uh HTF).r
 have hth:WF.drew.there (w.heap.size + 1) 0 3:=xa2w (w:=WF.drew) (cs:=[.int .u8 0,.slice none 0 0,.slice none 0 0]) (uh HTF).a
 have htt:WF.drew.there (w.heap.size + 1 + 1) 0 3:=xa2w (w:=WF.drew) (cs:=[.slice none 0 0,.int .i64 0,.int .i64 0]) (uh HTF).b
 refine xb6d (by kernel_rfl) (by kernel_rfl) (by kernel_rfl) (by kernel_rfl) (by kernel_rfl) (by kernel_rfl) (by kernel_rfl) (by kernel_rfl) rfl rfl rfl rfl 89 272 _ _ _ _ _ _ rfl rfl rfl rfl
  (w.heap.size + 1 + 1 + 1) w.heap.size (w.heap.size + 1) (w.heap.size + 1 + 1) [.int .u8 1,.slice a3 m3 c3,.slice a5 m5 c5] [.slice ao p.length c,.int .i64 (i3:Int),.int .i64 (e3:Int)] _ _ hrg hrr hth htt (by omega)
  Tryz.underlying89 rfl Tryz.size_entry (by intro v hv; simp at hv; rcases hv with rfl | rfl | rfl <;> rfl) Tryz.underlying272 rfl Tryz.size_rr (by intro v hv; simp at hv; rcases hv with rfl | rfl | rfl <;> rfl) rfl rfl rfl rfl rfl rfl rfl rfl rfl rfl rfl rfl rfl ?_
 have k1:=xa0d (w.heap.size + 1) (Or.inl (by simp)) [.int .u8 1,.slice a3 m3 c3,.slice a5 m5 c5] 0 _ (Kept.refl [w.heap.size + 1] WF.drew)
 have k2:=xa0d (w.heap.size + 1 + 1) (Or.inl (by simp)) [.slice ao p.length c,.int .i64 (i3:Int),.int .i64 (e3:Int)] 0 _ (Kept.refl [w.heap.size + 1 + 1] (WF.drew.setCells (w.heap.size + 1) 0 [.int .u8 1,.slice a3 m3 c3,.slice a5 m5 c5]))
 have HE1:=hide (k2.heap (xa1i (vs:=[.int .u8 1,.slice a3 m3 c3,.slice a5 m5 c5]) (show WF.drew.heap[w.heap.size + 1]? = some (.cells ([.int .u8 0,.slice none 0 0,.slice none 0 0]:List Value).toArray 89 (0,0)) from (uh HTF).a) rfl) (by simp))
 have HE2:=hide (xa1i (vs:=[.slice ao p.length c,.int .i64 (i3:Int),.int .i64 (e3:Int)]) (k1.heap (show WF.drew.heap[w.heap.size + 1 + 1]? = some (.cells ([.slice none 0 0,.int .i64 0,.int .i64 0]:List Value).toArray 272 (0,0)) from (uh HTF).b) (by simp)) rfl)
 have HKF:=hide (xa0d (w.heap.size + 1 + 1) (Or.inr (by omega)) [.slice ao p.length c,.int .i64 (i3:Int),.int .i64 (e3:Int)] 0 _ (xa0d (w.heap.size + 1) (Or.inr (by omega)) [.int .u8 1,.slice a3 m3 c3,.slice a5 m5 c5] 0 _ (uh HTF).kept.drew))
 have HKR:=hide (xa0d (w.heap.size + 1 + 1) (Or.inl (by simp)) [.slice ao p.length c,.int .i64 (i3:Int),.int .i64 (e3:Int)] 0 _ (xa0d (w.heap.size + 1) (Or.inl (by simp)) [.int .u8 1,.slice a3 m3 c3,.slice a5 m5 c5] 0 _ (Kept.refl [w.heap.size,w.heap.size + 1,w.heap.size + 1 + 1,w.heap.size + 1 + 1 + 1] WF).drew))
 clear k1 k2
 all_goals go_wp2
 all_goals
  refine bodyPost_ret (v:=.tuple #[.agg #[.int .u8 1,.slice a3 m3 c3,.slice a5 m5 c5],.agg #[(.slice ao p.length c),.int .i64 (i3:Int),.int .i64 (e3:Int)]]) ?_ rfl ⟨.slice a3 m3 c3,.slice a5 m5 c5,by rw [uh HDE]; rfl,?_,uh HKF,?_⟩
  ·exact xa1y rfl _ _ (w.heap.size + 1) (w.heap.size + 1 + 1) _ _ #[.int .u8 1,.slice a3 m3 c3,.slice a5 m5 c5] #[(.slice ao p.length c),.int .i64 (i3:Int),.int .i64 (e3:Int)] (0,0) (0,0) _ _ rfl (by exact uh HE1) rfl (by exact uh HE2) Tryz.underlying89 rfl Tryz.size_entry Tryz.underlying272 rfl Tryz.size_rr
  ·rw [uh HDE]
   exact ⟨by show (1:Nat) < 256; omega,((uh HRB5).kept (uh HK5) (fun x hx=>by have h9:=uh HB3 x hx; simp; omega)).kept (uh HKR) (fun x hx=>by have h9:=uh HB3 x hx; simp; omega),((uh HRD5).kept (uh HK5) (fun x hx=>by have h9:=uh HB5 x hx; simp; omega)).kept (uh HKR) (fun x hx=>by have h9:=uh HB5 x hx; simp; omega)⟩
  ·intro y hy
   rcases hy with hy | hy
   ·have h9:=uh HB3 y hy; omega
   ·have h9:=uh HB5 y hy; omega
set_option maxHeartbeats 2000000 in
theorem xb6l (ao:Option Addr) (c:Nat) (p:List Nat) (i e:Nat) (w:World) (h:Rd w (.slice ao p.length c) p) (hi:i≤p.length) (hx0:(rNum p i e 1).1 = 2) :
  Calls Tryz.prog 185 #[rrV (.slice ao p.length c) i e] w fun r w'=>∃ kv vv,r = .returned (.tuple #[.agg (enC (docT p i e).1 kv vv),rrV (.slice ao p.length c) (docT p i e).2.1 (docT p i e).2.2])∧OkE w' (docT p i e).1 kv vv∧Kept [] w w'∧∀ y,y∈blk kv∨y∈blk vv→w.heap.size≤y:=by
 have H:=hide h
 clear h
 obtain ⟨D,hD⟩:∃ D,docT p i e = D:=⟨_,rfl⟩
 rw [hD]
 have HD:=hide hD
 unfold docT at HD
 clear hD
 have HT0:=hide (TK.start w (.slice ao p.length c) i e)
 have hne:∀ n,w.heap.size≠w.heap.size + n + 1:=fun n=>by omega
 go_enter Tryz.func185,Tryz.ntmps185
 go_wp2_with fail
 refine Calls.mono (xa0k ao c p i e 1 _ ((uh H).old (uh HT0).kept (by simp)) hi (by decide)) ?_
 rintro r w1 ⟨rfl,k1⟩
 have hxl:=ru_lt p i e 1
 have hli1:=xa6m (p:=p) (i:=i) (e:=e) (n:=1) hi
 obtain ⟨x,hx⟩:∃ x,rNum p i e 1 = x:=⟨_,rfl⟩
 rw [hx] at HD hxl hli1 hx0 ⊢
 clear hx
 obtain ⟨x,i1,e1⟩:=x
 simp only at HD hxl hli1 hx0 ⊢
 have HT1:=hide ((uh HT0).old k1)
 clear k1
 have hzz:=hli1
 have hx2:=hx0
 clear hx0
 subst hx2
 obtain ⟨⟨s0,s1,s2⟩,t0,t1,t2⟩:=three (uh HT1).r
 obtain ⟨⟨d0,d1,d2⟩,f0,f1,f2⟩:=three (uh HT1).c
 have HTA:=hide (show TK w ((((w1.setCell ⟨w.heap.size,0,none⟩ (.slice ao p.length c)).setCell ⟨w.heap.size,1,none⟩ (.int .i64 (i1:Int))).setCell ⟨w.heap.size,2,none⟩ (.int .i64 (e1:Int))).setCell ⟨w.heap.size + 1 + 1 + 1,0,none⟩ (.int .u8 2)) (.slice ao p.length c) i1 e1 2 (.slice none 0 0) (.slice none 0 0) from ((uh HT1).setR (.slice ao p.length c) i1 e1).setK 2)
 go_wp2_with fail
 clear s0 s1 s2 t0 t1 t2 d0 d1 d2 f0 f1 f2
 obtain ⟨WA,hWA⟩:∃ W,((((w1.setCell ⟨w.heap.size,0,none⟩ (.slice ao p.length c)).setCell ⟨w.heap.size,1,none⟩ (.int .i64 (i1:Int))).setCell ⟨w.heap.size,2,none⟩ (.int .i64 (e1:Int))).setCell ⟨w.heap.size + 1 + 1 + 1,0,none⟩ (.int .u8 2)) = W:=⟨_,rfl⟩
 rw [hWA] at HTA ⊢
 clear hWA
 refine Calls.mono (xa2j ao c p i1 e1 64 WA ((uh H).old (uh HTA).kept (by simp)) hli1 (by decide)) ?_
 rintro r w3 ⟨rv3,rfl,rd3,k3,b3⟩
 have hli2:=xa3c (p:=p) (i:=i1) (e:=e1) (m:=64) hli1
 obtain ⟨y3,hy3⟩:∃ y,rBlob p i1 e1 64 = y:=⟨_,rfl⟩
 have HY3:=hide hy3
 rw [hy3] at rd3 hli2 ⊢
 clear hy3
 obtain ⟨key,i2,e2⟩:=y3
 simp only at rd3 hli2 ⊢
 have HB3:=hide (fun y hy=>by have h9:=b3 y hy; have h8:=lt_of_block (uh HTA).c; omega:∀ y∈blk rv3,w.heap.size + 1 + 1 + 1 < y)
 obtain ⟨a3,m3,c3,hu3,_⟩:=id rd3
 subst hu3
 have HRD3:=hide rd3
 have HT3:=hide ((uh HTA).old k3)
 clear rd3 b3 k3
 obtain ⟨⟨s0,s1,s2⟩,t0,t1,t2⟩:=three (uh HT3).r
 obtain ⟨⟨d0,d1,d2⟩,f0,f1,f2⟩:=three (uh HT3).c
 have HK3:=hide (xa1b ((Kept.refl [w.heap.size,w.heap.size + 1,w.heap.size + 1 + 1,w.heap.size + 1 + 1 + 1] w3).setCell (p:=⟨w.heap.size + 1 + 1 + 1,1,none⟩) (Or.inl (by simp)) (.slice a3 m3 c3)) w.heap.size (Or.inl (by simp)) (.slice ao p.length c) (.int .i64 (i2:Int)) (.int .i64 (e2:Int)))
 have HTF:=hide (((uh HT3).setY (.slice a3 m3 c3)).setR (.slice ao p.length c) i2 e2)
 have HDE:=hide (by rw [← uh HD]; unfold docT2 docF; simp [uh HY3]:D = (⟨2,key,[]⟩,i2,e2))
 go_wp2_with fail
 clear s0 s1 s2 t0 t1 t2 d0 d1 d2 f0 f1 f2
 obtain ⟨WF,hWF⟩:∃ W,((((w3.setCell ⟨w.heap.size + 1 + 1 + 1,1,none⟩ (.slice a3 m3 c3)).setCell ⟨w.heap.size,0,none⟩ (.slice ao p.length c)).setCell ⟨w.heap.size,1,none⟩ (.int .i64 (i2:Int))).setCell ⟨w.heap.size,2,none⟩ (.int .i64 (e2:Int))) = W:=⟨_,rfl⟩
 rw [hWF] at HTF HK3 ⊢
 clear hWF
 have hrg:WF.drew.rangeAt (w.heap.size + 1 + 1 + 1) 0 [.int .u8 2,.slice a3 m3 c3,.slice none 0 0]:=xa2x (uh HTF).c
 have hrr:WF.drew.rangeAt w.heap.size 0 [.slice ao p.length c,.int .i64 (i2:Int),.int .i64 (e2:Int)]:=xa2x (uh HTF).r
 have hth:WF.drew.there (w.heap.size + 1) 0 3:=xa2w (w:=WF.drew) (cs:=[.int .u8 0,.slice none 0 0,.slice none 0 0]) (uh HTF).a
 have htt:WF.drew.there (w.heap.size + 1 + 1) 0 3:=xa2w (w:=WF.drew) (cs:=[.slice none 0 0,.int .i64 0,.int .i64 0]) (uh HTF).b
 refine xb6d (by kernel_rfl) (by kernel_rfl) (by kernel_rfl) (by kernel_rfl) (by kernel_rfl) (by kernel_rfl) (by kernel_rfl) (by kernel_rfl) rfl rfl rfl rfl 89 272 _ _ _ _ _ _ rfl rfl rfl rfl
  (w.heap.size + 1 + 1 + 1) w.heap.size (w.heap.size + 1) (w.heap.size + 1 + 1) [.int .u8 2,.slice a3 m3 c3,.slice none 0 0] [.slice ao p.length c,.int .i64 (i2:Int),.int .i64 (e2:Int)] _ _ hrg hrr hth htt (by omega)
  Tryz.underlying89 rfl Tryz.size_entry (by intro v hv; simp at hv; rcases hv with rfl | rfl | rfl <;> rfl) Tryz.underlying272 rfl Tryz.size_rr (by intro v hv; simp at hv; rcases hv with rfl | rfl | rfl <;> rfl) rfl rfl rfl rfl rfl rfl rfl rfl rfl rfl rfl rfl rfl ?_
 have k1:=xa0d (w.heap.size + 1) (Or.inl (by simp)) [.int .u8 2,.slice a3 m3 c3,.slice none 0 0] 0 _ (Kept.refl [w.heap.size + 1] WF.drew)
 have k2:=xa0d (w.heap.size + 1 + 1) (Or.inl (by simp)) [.slice ao p.length c,.int .i64 (i2:Int),.int .i64 (e2:Int)] 0 _ (Kept.refl [w.heap.size + 1 + 1] (WF.drew.setCells (w.heap.size + 1) 0 [.int .u8 2,.slice a3 m3 c3,.slice none 0 0]))
 have HE1:=hide (k2.heap (xa1i (vs:=[.int .u8 2,.slice a3 m3 c3,.slice none 0 0]) (show WF.drew.heap[w.heap.size + 1]? = some (.cells ([.int .u8 0,.slice none 0 0,.slice none 0 0]:List Value).toArray 89 (0,0)) from (uh HTF).a) rfl) (by simp))
 have HE2:=hide (xa1i (vs:=[.slice ao p.length c,.int .i64 (i2:Int),.int .i64 (e2:Int)]) (k1.heap (show WF.drew.heap[w.heap.size + 1 + 1]? = some (.cells ([.slice none 0 0,.int .i64 0,.int .i64 0]:List Value).toArray 272 (0,0)) from (uh HTF).b) (by simp)) rfl)
 have HKF:=hide (xa0d (w.heap.size + 1 + 1) (Or.inr (by omega)) [.slice ao p.length c,.int .i64 (i2:Int),.int .i64 (e2:Int)] 0 _ (xa0d (w.heap.size + 1) (Or.inr (by omega)) [.int .u8 2,.slice a3 m3 c3,.slice none 0 0] 0 _ (uh HTF).kept.drew))
 have HKR:=hide (xa0d (w.heap.size + 1 + 1) (Or.inl (by simp)) [.slice ao p.length c,.int .i64 (i2:Int),.int .i64 (e2:Int)] 0 _ (xa0d (w.heap.size + 1) (Or.inl (by simp)) [.int .u8 2,.slice a3 m3 c3,.slice none 0 0] 0 _ (Kept.refl [w.heap.size,w.heap.size + 1,w.heap.size + 1 + 1,w.heap.size + 1 + 1 + 1] WF).drew))
 clear k1 k2
 all_goals go_wp2
 all_goals
  refine bodyPost_ret (v:=.tuple #[.agg #[.int .u8 2,.slice a3 m3 c3,.slice none 0 0],.agg #[(.slice ao p.length c),.int .i64 (i2:Int),.int .i64 (e2:Int)]]) ?_ rfl ⟨.slice a3 m3 c3,.slice none 0 0,by rw [uh HDE]; rfl,?_,uh HKF,?_⟩
  ·exact xa1y rfl _ _ (w.heap.size + 1) (w.heap.size + 1 + 1) _ _ #[.int .u8 2,.slice a3 m3 c3,.slice none 0 0] #[(.slice ao p.length c),.int .i64 (i2:Int),.int .i64 (e2:Int)] (0,0) (0,0) _ _ rfl (by exact uh HE1) rfl (by exact uh HE2) Tryz.underlying89 rfl Tryz.size_entry Tryz.underlying272 rfl Tryz.size_rr
  ·rw [uh HDE]
   exact ⟨by show (2:Nat) < 256; omega,((uh HRD3).kept (uh HK3) (fun x hx=>by have h9:=uh HB3 x hx; simp; omega)).kept (uh HKR) (fun x hx=>by have h9:=uh HB3 x hx; simp; omega),Rd.nil _⟩
  ·intro y hy
   rcases hy with hy | hy
   ·have h9:=uh HB3 y hy; omega
   ·simp [blk] at hy
set_option maxHeartbeats 2000000 in
theorem xb6h (ao:Option Addr) (c:Nat) (p:List Nat) (i e:Nat) (w:World) (h:Rd w (.slice ao p.length c) p) (hi:i≤p.length) (hx0:(rNum p i e 1).1≠1∧(rNum p i e 1).1≠2) :
  Calls Tryz.prog 185 #[rrV (.slice ao p.length c) i e] w fun r w'=>∃ kv vv,r = .returned (.tuple #[.agg (enC (docT p i e).1 kv vv),rrV (.slice ao p.length c) (docT p i e).2.1 (docT p i e).2.2])∧OkE w' (docT p i e).1 kv vv∧Kept [] w w'∧∀ y,y∈blk kv∨y∈blk vv→w.heap.size≤y:=by
 have H:=hide h
 clear h
 obtain ⟨D,hD⟩:∃ D,docT p i e = D:=⟨_,rfl⟩
 rw [hD]
 have HD:=hide hD
 unfold docT at HD
 clear hD
 have HT0:=hide (TK.start w (.slice ao p.length c) i e)
 have hne:∀ n,w.heap.size≠w.heap.size + n + 1:=fun n=>by omega
 go_enter Tryz.func185,Tryz.ntmps185
 go_wp2_with fail
 refine Calls.mono (xa0k ao c p i e 1 _ ((uh H).old (uh HT0).kept (by simp)) hi (by decide)) ?_
 rintro r w1 ⟨rfl,k1⟩
 have hxl:=ru_lt p i e 1
 have hli1:=xa6m (p:=p) (i:=i) (e:=e) (n:=1) hi
 obtain ⟨x,hx⟩:∃ x,rNum p i e 1 = x:=⟨_,rfl⟩
 rw [hx] at HD hxl hli1 hx0 ⊢
 clear hx
 obtain ⟨x,i1,e1⟩:=x
 simp only at HD hxl hli1 hx0 ⊢
 have HT1:=hide ((uh HT0).old k1)
 clear k1
 have hzz:=hli1
 obtain ⟨hx1,hx2⟩:=hx0
 have hb1:((x:Int) != 1) = true:=by rw [bne_iff_ne]; omega
 have hb2:((x:Int) != 2) = true:=by rw [bne_iff_ne]; omega
 have hb3:((x:Int) == 1) = false:=by rw [beq_eq_false_iff_ne]; omega
 obtain ⟨y,hy⟩:∃ y,x % 256 = y:=⟨_,rfl⟩
 have hy256:y < 256:=by omega
 have hkw:IntKind.u8.wrap (x:Int) = (y:Int):=by simp [IntKind.wrap,IntKind.signed,IntKind.bits]; omega
 have hkm:(x:Int) % 256 = (y:Int):=by omega
 have HYY:=hide hy
 clear hy
 have hik:Tryz.prog.intKind 5 = .u8:=by kernel_rfl
 obtain ⟨⟨s0,s1,s2⟩,t0,t1,t2⟩:=three (uh HT1).r
 obtain ⟨⟨d0,d1,d2⟩,f0,f1,f2⟩:=three (uh HT1).c
 have HTQ:=hide ((uh HT1).setR (.slice ao p.length c) i1 e1)
 go_wp2_with fail
 clear s0 s1 s2 t0 t1 t2 d0 d1 d2 f0 f1 f2
 obtain ⟨WQ,hWQ⟩:∃ W,(((w1.setCell ⟨w.heap.size,0,none⟩ (.slice ao p.length c)).setCell ⟨w.heap.size,1,none⟩ (.int .i64 (i1:Int))).setCell ⟨w.heap.size,2,none⟩ (.int .i64 (e1:Int))) = W:=⟨_,rfl⟩
 rw [hWQ] at HTQ ⊢
 clear hWQ
 refine Calls.mono (xa3h ao p.length c i1 e1 3 WQ) ?_
 rintro r w4 ⟨rfl,k4⟩
 obtain ⟨f1n,hf1n⟩:∃ f,(if e1 = 0 then 3 else e1) = f:=⟨_,rfl⟩
 have HF1:=hide hf1n
 rw [hf1n]
 clear hf1n
 have HT4:=hide ((uh HTQ).old k4)
 clear k4
 obtain ⟨⟨s0,s1,s2⟩,t0,t1,t2⟩:=three (uh HT4).r
 obtain ⟨⟨d0,d1,d2⟩,f0,f1,f2⟩:=three (uh HT4).c
 have HTA:=hide (((uh HT4).setR (.slice ao p.length c) i1 f1n).setK y)
 go_wp2_with fail
 clear s0 s1 s2 t0 t1 t2 d0 d1 d2 f0 f1 f2
 obtain ⟨WA,hWA⟩:∃ W,((((w4.setCell ⟨w.heap.size,0,none⟩ (.slice ao p.length c)).setCell ⟨w.heap.size,1,none⟩ (.int .i64 (i1:Int))).setCell ⟨w.heap.size,2,none⟩ (.int .i64 (f1n:Int))).setCell ⟨w.heap.size + 1 + 1 + 1,0,none⟩ (.int .u8 (y:Int))) = W:=⟨_,rfl⟩
 rw [hWA] at HTA ⊢
 clear hWA
 refine Calls.mono (xa2j ao c p i1 f1n 64 WA ((uh H).old (uh HTA).kept (by simp)) hli1 (by decide)) ?_
 rintro r w3 ⟨rv3,rfl,rd3,k3,b3⟩
 have hli2:=xa3c (p:=p) (i:=i1) (e:=f1n) (m:=64) hli1
 obtain ⟨y3,hy3⟩:∃ y,rBlob p i1 f1n 64 = y:=⟨_,rfl⟩
 have HY3:=hide hy3
 rw [hy3] at rd3 hli2 ⊢
 clear hy3
 obtain ⟨key,i2,e2⟩:=y3
 simp only at rd3 hli2 ⊢
 have HB3:=hide (fun y hy=>by have h9:=b3 y hy; have h8:=lt_of_block (uh HTA).c; omega:∀ y∈blk rv3,w.heap.size + 1 + 1 + 1 < y)
 obtain ⟨a3,m3,c3,hu3,_⟩:=id rd3
 subst hu3
 have HRD3:=hide rd3
 have HT3:=hide ((uh HTA).old k3)
 clear rd3 b3 k3
 obtain ⟨⟨s0,s1,s2⟩,t0,t1,t2⟩:=three (uh HT3).r
 obtain ⟨⟨d0,d1,d2⟩,f0,f1,f2⟩:=three (uh HT3).c
 have HK3:=hide (xa1b ((Kept.refl [w.heap.size,w.heap.size + 1,w.heap.size + 1 + 1,w.heap.size + 1 + 1 + 1] w3).setCell (p:=⟨w.heap.size + 1 + 1 + 1,1,none⟩) (Or.inl (by simp)) (.slice a3 m3 c3)) w.heap.size (Or.inl (by simp)) (.slice ao p.length c) (.int .i64 (i2:Int)) (.int .i64 (e2:Int)))
 have HTF:=hide (((uh HT3).setY (.slice a3 m3 c3)).setR (.slice ao p.length c) i2 e2)
 have HDE:=hide (by rw [← uh HD]; unfold docT2 docF; rw [if_neg hx1,if_neg (by omega),uh HF1,uh HY3,uh HYY]:D = (⟨y,key,[]⟩,i2,e2))
 go_wp2_with fail
 clear s0 s1 s2 t0 t1 t2 d0 d1 d2 f0 f1 f2
 obtain ⟨WF,hWF⟩:∃ W,((((w3.setCell ⟨w.heap.size + 1 + 1 + 1,1,none⟩ (.slice a3 m3 c3)).setCell ⟨w.heap.size,0,none⟩ (.slice ao p.length c)).setCell ⟨w.heap.size,1,none⟩ (.int .i64 (i2:Int))).setCell ⟨w.heap.size,2,none⟩ (.int .i64 (e2:Int))) = W:=⟨_,rfl⟩
 rw [hWF] at HTF HK3 ⊢
 clear hWF
 have hrg:WF.drew.rangeAt (w.heap.size + 1 + 1 + 1) 0 [.int .u8 (y:Int),.slice a3 m3 c3,.slice none 0 0]:=xa2x (uh HTF).c
 have hrr:WF.drew.rangeAt w.heap.size 0 [.slice ao p.length c,.int .i64 (i2:Int),.int .i64 (e2:Int)]:=xa2x (uh HTF).r
 have hth:WF.drew.there (w.heap.size + 1) 0 3:=xa2w (w:=WF.drew) (cs:=[.int .u8 0,.slice none 0 0,.slice none 0 0]) (uh HTF).a
 have htt:WF.drew.there (w.heap.size + 1 + 1) 0 3:=xa2w (w:=WF.drew) (cs:=[.slice none 0 0,.int .i64 0,.int .i64 0]) (uh HTF).b
 refine xb6d (by kernel_rfl) (by kernel_rfl) (by kernel_rfl) (by kernel_rfl) (by kernel_rfl) (by kernel_rfl) (by kernel_rfl) (by kernel_rfl) rfl rfl rfl rfl 89 272 _ _ _ _ _ _ rfl rfl rfl rfl
  (w.heap.size + 1 + 1 + 1) w.heap.size (w.heap.size + 1) (w.heap.size + 1 + 1) [.int .u8 (y:Int),.slice a3 m3 c3,.slice none 0 0] [.slice ao p.length c,.int .i64 (i2:Int),.int .i64 (e2:Int)] _ _ hrg hrr hth htt (by omega)
  Tryz.underlying89 rfl Tryz.size_entry (by intro v hv; simp at hv; rcases hv with rfl | rfl | rfl <;> rfl) Tryz.underlying272 rfl Tryz.size_rr (by intro v hv; simp at hv; rcases hv with rfl | rfl | rfl <;> rfl) rfl rfl rfl rfl rfl rfl rfl rfl rfl rfl rfl rfl rfl ?_
 have k1:=xa0d (w.heap.size + 1) (Or.inl (by simp)) [.int .u8 (y:Int),.slice a3 m3 c3,.slice none 0 0] 0 _ (Kept.refl [w.heap.size + 1] WF.drew)
 have k2:=xa0d (w.heap.size + 1 + 1) (Or.inl (by simp)) [.slice ao p.length c,.int .i64 (i2:Int),.int .i64 (e2:Int)] 0 _ (Kept.refl [w.heap.size + 1 + 1] (WF.drew.setCells (w.heap.size + 1) 0 [.int .u8 (y:Int),.slice a3 m3 c3,.slice none 0 0]))
 have HE1:=hide (k2.heap (xa1i (vs:=[.int .u8 (y:Int),.slice a3 m3 c3,.slice none 0 0]) (show WF.drew.heap[w.heap.size + 1]? = some (.cells ([.int .u8 0,.slice none 0 0,.slice none 0 0]:List Value).toArray 89 (0,0)) from (uh HTF).a) rfl) (by simp))
 have HE2:=hide (xa1i (vs:=[.slice ao p.length c,.int .i64 (i2:Int),.int .i64 (e2:Int)]) (k1.heap (show WF.drew.heap[w.heap.size + 1 + 1]? = some (.cells ([.slice none 0 0,.int .i64 0,.int .i64 0]:List Value).toArray 272 (0,0)) from (uh HTF).b) (by simp)) rfl)
 have HKF:=hide (xa0d (w.heap.size + 1 + 1) (Or.inr (by omega)) [.slice ao p.length c,.int .i64 (i2:Int),.int .i64 (e2:Int)] 0 _ (xa0d (w.heap.size + 1) (Or.inr (by omega)) [.int .u8 (y:Int),.slice a3 m3 c3,.slice none 0 0] 0 _ (uh HTF).kept.drew))
 have HKR:=hide (xa0d (w.heap.size + 1 + 1) (Or.inl (by simp)) [.slice ao p.length c,.int .i64 (i2:Int),.int .i64 (e2:Int)] 0 _ (xa0d (w.heap.size + 1) (Or.inl (by simp)) [.int .u8 (y:Int),.slice a3 m3 c3,.slice none 0 0] 0 _ (Kept.refl [w.heap.size,w.heap.size + 1,w.heap.size + 1 + 1,w.heap.size + 1 + 1 + 1] WF).drew))
 clear k1 k2
 all_goals go_wp2
 all_goals
  refine bodyPost_ret (v:=.tuple #[.agg #[.int .u8 (y:Int),.slice a3 m3 c3,.slice none 0 0],.agg #[(.slice ao p.length c),.int .i64 (i2:Int),.int .i64 (e2:Int)]]) ?_ rfl ⟨.slice a3 m3 c3,.slice none 0 0,by rw [uh HDE]; rfl,?_,uh HKF,?_⟩
  ·exact xa1y rfl _ _ (w.heap.size + 1) (w.heap.size + 1 + 1) _ _ #[.int .u8 (y:Int),.slice a3 m3 c3,.slice none 0 0] #[(.slice ao p.length c),.int .i64 (i2:Int),.int .i64 (e2:Int)] (0,0) (0,0) _ _ rfl (by exact uh HE1) rfl (by exact uh HE2) Tryz.underlying89 rfl Tryz.size_entry Tryz.underlying272 rfl Tryz.size_rr
  ·rw [uh HDE]
   exact ⟨hy256,((uh HRD3).kept (uh HK3) (fun x hx=>by have h9:=uh HB3 x hx; simp; omega)).kept (uh HKR) (fun x hx=>by have h9:=uh HB3 x hx; simp; omega),Rd.nil _⟩
  ·intro y hy
   rcases hy with hy | hy
   ·have h9:=uh HB3 y hy; omega
   ·simp [blk] at hy
theorem xb1o (ao:Option Addr) (c:Nat) (p:List Nat) (i e:Nat) (w:World) (h:Rd w (.slice ao p.length c) p) (hi:i≤p.length) :
  Calls Tryz.prog 185 #[rrV (.slice ao p.length c) i e] w fun r w'=>∃ kv vv,r = .returned (.tuple #[.agg (enC (docT p i e).1 kv vv),rrV (.slice ao p.length c) (docT p i e).2.1 (docT p i e).2.2])∧OkE w' (docT p i e).1 kv vv∧Kept [] w w'∧∀ y,y∈blk kv∨y∈blk vv→w.heap.size≤y:=by
 by_cases h1:(rNum p i e 1).1 = 1
 ·exact xb8l ao c p i e w h hi h1
 by_cases h2:(rNum p i e 1).1 = 2
 ·exact xb6l ao c p i e w h hi h2
 exact xb6h ao c p i e w h hi ⟨h1,h2⟩
theorem xb8g {p:List Nat} {i e:Nat} (m:Int) (h:e≠0):rBlob p i e m = ([],i,e):=by unfold rBlob; rw [if_pos h]
theorem xc1g (p:List Nat) (hp:∀ x∈p,x < 256) (i:Nat):(rNum p i 0 1).1 < 256:=by
 unfold rNum
 rw [if_neg (by simp)]
 split
 ·show (0:Nat) < 256; omega
 ·rename_i h
  show beL ((p.drop i).take 1) < 256
  have hi:i < p.length:=by omega
  rw [List.drop_eq_getElem_cons hi,List.take_succ_cons,List.take_zero]
  have h9:=hp _ (List.getElem_mem hi)
  simp only [beL,List.foldl_cons,List.foldl_nil]
  omega
theorem xc2v (p:List Nat) (hp:∀ x∈p,x < 256) (i:Nat):(docT p i 0).2.2 = (takeE p i).2.2∧((takeE p i).2.2 = 0→docT p i 0 = takeE p i):=by
 have hx:=xc1g p hp i
 have he:(rNum p i 0 1).2.2 = 0∨(rNum p i 0 1).2.2 = 3:=by
  unfold rNum
  rw [if_neg (by simp)]
  split
  ·exact Or.inr rfl
  ·exact Or.inl rfl
 unfold docT docT2 takeE docF
 obtain ⟨X,hX⟩:∃ X,rNum p i 0 1 = X:=⟨_,rfl⟩
 rw [hX] at hx he ⊢
 obtain ⟨x,j,e⟩:=X
 simp only at hx he ⊢
 rw [Nat.mod_eq_of_lt hx]
 by_cases h1:x = 1
 ·subst h1; simp
 by_cases h2:x = 2
 ·subst h2; simp
 have hn:¬ (x = 1∨x = 2):=by omega
 rw [if_neg h1,if_neg hn,if_neg hn]
 have h3:(if e = 0 then 3 else e) = 3:=by rcases he with h | h <;> subst h <;> rfl
 rw [h3,xb8g 64 (by decide)]
 exact ⟨rfl,fun h=>by simp at h⟩
def docN (p:List Nat):Nat→Nat→List En × Nat × Nat
 | i,0=>([],i,0)
 | i,n + 1=>if (docT p i 0).2.2≠0 then ([(docT p i 0).1],(docT p i 0).2) else ((docT p i 0).1 :: (docN p (docT p i 0).2.1 n).1,(docN p (docT p i 0).2.1 n).2)
theorem xb9o (p:List Nat) (hp:∀ x∈p,x < 256):∀ n i,(docN p i n).2.2 = (takeN p i n).2.2∧((takeN p i n).2.2 = 0→docN p i n = takeN p i n)
 | 0,i=>⟨rfl,fun _=>rfl⟩
 | n + 1,i=>by
  obtain ⟨h1,h2⟩:=xc2v p hp i
  unfold docN takeN
  by_cases h0:(takeE p i).2.2 = 0
  ·rw [h2 h0,if_neg (by simp [h0]),if_neg (by simp [h0])]
   obtain ⟨h3,h4⟩:=xb9o p hp n (takeE p i).2.1
   exact ⟨h3,fun h=>by rw [h4 h]⟩
  ·rw [if_pos h0,if_pos (by rw [h1]; exact h0)]
   exact ⟨h1,fun h=>absurd h h0⟩
def docY (p:List Nat) (f:Nat) (es:List En) (Y:List En × Nat × Nat):Nat × List En × Nat :=
 if doneE p Y.2.1 Y.2.2≠0 then (0,[],doneE p Y.2.1 Y.2.2) else (f,es++Y.1,0)
theorem xa2r {p:List Nat} {i e:Nat} (h:e≠0):doneE p i e = e:=by unfold doneE; rw [if_neg (by omega)]
theorem xc0w {p:List Nat} {f i e:Nat} {es l:List En} (h:e≠0):docY p f es (l,i,e) = (0,[],e):=by
 unfold docY; rw [xa2r h,if_pos h]
theorem xb7w {p:List Nat} {f i n:Nat} {es:List En} (h:(docT p i 0).2.2 = 0):docY p f es (docN p i (n + 1)) = docY p f (es++[(docT p i 0).1]) (docN p (docT p i 0).2.1 n):=by
 rw [show docN p i (n + 1) = if (docT p i 0).2.2≠0 then ([(docT p i 0).1],(docT p i 0).2) else ((docT p i 0).1 :: (docN p (docT p i 0).2.1 n).1,(docN p (docT p i 0).2.1 n).2) from rfl,if_neg (by simp [h])]
 unfold docY; simp
theorem xb7p {p:List Nat} {f i n:Nat} {es:List En} (h:(docT p i 0).2.2≠0):docY p f es (docN p i (n + 1)) = (0,[],(docT p i 0).2.2):=by
 rw [show docN p i (n + 1) = if (docT p i 0).2.2≠0 then ([(docT p i 0).1],(docT p i 0).2) else ((docT p i 0).1 :: (docN p (docT p i 0).2.1 n).1,(docN p (docT p i 0).2.1 n).2) from rfl,if_pos h]
 exact xc0w h
theorem xc0a (p:List Nat) (hp:∀ x∈p,x < 256) {f i1 e1 n i2 e2:Nat} (h1:rUvar p 0 0 = (f,i1,e1)) (h2:rUvar p i1 e1 = (n,i2,e2)) :
  (e2≠0→decB p = (0,[],e2))∧(e2 = 0→cntE f n≠0→decB p = (0,[],cntE f n))∧(e2 = 0→cntE f n = 0→decB p = docY p f [] (docN p i2 n)):=by
 unfold decB takeB
 rw [h1]
 simp only
 rw [h2]
 simp only
 refine ⟨fun h=>?_,fun h hc=>?_,fun h hc=>?_⟩
 ·simp [h]
 ·simp [h,hc]
 ·obtain ⟨h3,h4⟩:=xb9o p hp n i2
  simp only [h,hc,ne_eq,not_true_eq_false,if_false]
  by_cases h0:(takeN p i2 n).2.2 = 0
  ·rw [if_neg (by simp [h0])]
   unfold docY
   rw [h4 h0,h0]
   simp
  ·rw [if_pos h0]
   unfold docY
   rw [h3,xa2r h0,if_pos h0]
theorem xb3j {p:List Nat} {i e n j x:Nat} (h:rUvar p i e = (n,j,x)) (hx:x≠0):n = 0:=by
 unfold rUvar at h
 split at h
 ·injection h with h1 h2; exact h1.symm
 ·split at h
  ·injection h with h1 h2; exact h1.symm
  ·injection h with h1 h2; injection h2 with h3 h4; exact absurd h4.symm hx
set_option maxHeartbeats 1000000 in
theorem xa1z (ao:Option Addr) (c:Nat) (p:List Nat) (i e:Nat) (w:World) :
  Calls Tryz.prog 186 #[rrV (.slice ao p.length c) i e] w fun r w'=>r = .returned (.int .i64 (doneE p i e))∧Kept [] w w':=by
 by_cases he:e = 0
 ·subst he
  by_cases hi:i < p.length
  ·have HV:=hide (by simp [doneE,hi]:doneE p i 0 = 3)
   have hi':(i:Int) < p.length:=by omega
   go_enter Tryz.func186,Tryz.ntmps186
   go_wp2
   go_ret
   exact ⟨by rw [uh HV]; rfl,(Kept.refl [] w).alloc _⟩
  ·have HV:=hide (by simp [doneE,hi]:doneE p i 0 = 0)
   have hi':¬ (i:Int) < p.length:=by omega
   go_enter Tryz.func186,Tryz.ntmps186
   go_wp2
   go_ret
   exact ⟨by rw [uh HV]; rfl,(Kept.refl [] w).alloc _⟩
 ·have HV:=hide (by simp [doneE,he]:doneE p i e = e)
  have he':((e:Int) == 0) = false:=by simp; omega
  clear he
  go_enter Tryz.func186,Tryz.ntmps186
  go_wp2
  go_ret
  exact ⟨by rw [uh HV]; rfl,(Kept.refl [] w).alloc _⟩
theorem xa0m {P:Program} {fn:Func} {p q:Tmp} {ty:TypeId} (h:fn.results = #[.cell p ty,.tmp q]) (tmps:Array Value) (w:World) (g:Nat) (t:TypeId) (cs:Array Value) (fr:Nat × Nat) (d:TypeDesc)
  (hp:tmps.getD p undef = .pointer (some ⟨g,0,none⟩)) (hg:w.heap[g]? = some (.cells cs t fr))
  (hu:P.underlying ty = some d) (hd:(match d with | .struct _ | .array _ _=>true | _=>false) = true) (hi:(P.info? ty).map (·.size) = some cs.size) (v:Value) (hq:tmps.getD q undef = v) :
  (results fn tmps).run P w = .ok (.tuple #[.agg cs,v]) w:=by
 have hp':tmps[p]?.getD undef = .pointer (some ⟨g,0,none⟩):=by simpa using hp
 have hq':tmps[q]?.getD undef = v:=by simpa using hq
 simp [results,h,hp',hq',asAddr,run_loadVar_row w g t ty cs fr d hg hu hd hi]
structure TB (w W:World) (f:Nat) (vE gv:Value) (i e:Nat):Prop where
 z:W.heap[w.heap.size]? = some (.cells #[.int .u64 0,.slice none 0 0] 129 (0,0))
 b:W.heap[w.heap.size + 1]? = some (.cells #[.int .u64 (f:Int),vE] 129 (0,0))
 r:W.heap[w.heap.size + 1 + 1]? = some (.cells #[gv,.int .i64 (i:Int),.int .i64 (e:Int)] 272 (0,0))
 kept:Kept [] w W
theorem TB.old {w W W':World} {f i e:Nat} {vE gv:Value} (h:TB w W f vE gv i e) (q:Kept [] W W'):TB w W' f vE gv i e :=
 ⟨q.heap h.z (by simp),q.heap h.b (by simp),q.heap h.r (by simp),h.kept.trans q (by simp)⟩
theorem TB.setR {w W:World} {f i e:Nat} {vE gv:Value} (h:TB w W f vE gv i e) (gv':Value) (i' e':Nat) :
  TB w (((W.setCell ⟨w.heap.size + 1 + 1,0,none⟩ gv').setCell ⟨w.heap.size + 1 + 1,1,none⟩ (.int .i64 (i':Int))).setCell ⟨w.heap.size + 1 + 1,2,none⟩ (.int .i64 (e':Int))) f vE gv' i' e':=by
 have q:=xa1b (Kept.refl [w.heap.size + 1 + 1] W) (w.heap.size + 1 + 1) (Or.inl (by simp)) gv' (.int .i64 (i':Int)) (.int .i64 (e':Int))
 exact ⟨q.heap h.z (by simp; omega),q.heap h.b (by simp),xa4w h.r _ _ _,xa1b h.kept _ (Or.inr (by omega)) _ _ _⟩
theorem TB.setF {w W:World} {f i e:Nat} {vE gv:Value} (h:TB w W f vE gv i e) (f':Nat):TB w (W.setCell ⟨w.heap.size + 1,0,none⟩ (.int .u64 (f':Int))) f' vE gv i e:=by
 have q:=(Kept.refl [w.heap.size + 1] W).setCell (p:=⟨w.heap.size + 1,0,none⟩) (Or.inl (by simp)) (.int .u64 (f':Int))
 exact ⟨q.heap h.z (by simp),heap_setCell_same W _ 0 _ 129 _ h.b,q.heap h.r (by simp),h.kept.setCell (Or.inr (by show w.heap.size≤w.heap.size + 1; omega)) _⟩
theorem TB.setE {w W:World} {f i e:Nat} {vE gv:Value} (h:TB w W f vE gv i e) (v':Value):TB w (W.setCell ⟨w.heap.size + 1,1,none⟩ v') f v' gv i e:=by
 have q:=(Kept.refl [w.heap.size + 1] W).setCell (p:=⟨w.heap.size + 1,1,none⟩) (Or.inl (by simp)) v'
 exact ⟨q.heap h.z (by simp),heap_setCell_same W _ 1 _ 129 _ h.b,q.heap h.r (by simp),h.kept.setCell (Or.inr (by show w.heap.size≤w.heap.size + 1; omega)) _⟩
theorem TB.start (w:World) (gv:Value):TB w (((w.alloc (.cells #[.int .u64 0,.slice none 0 0] 129)).alloc (.cells #[.int .u64 0,.slice none 0 0] 129)).alloc (.cells #[gv,.int .i64 0,.int .i64 0] 272)) 0 (.slice none 0 0) gv 0 0:=by
 have h3:=xa2l w (.cells #[.int .u64 0,.slice none 0 0] 129) (.cells #[.int .u64 0,.slice none 0 0] 129) (.cells #[gv,.int .i64 0,.int .i64 0] 272)
 exact ⟨h3.1,h3.2.1,h3.2.2,(((Kept.refl [] w).alloc _).alloc _).alloc _⟩
theorem xc2g (p:List Nat) (i:Nat) (h:i≤p.length):(docT p i 0).2.1≤p.length:=by
 have h1:=xa6m (p:=p) (i:=i) (e:=0) (n:=1) h
 unfold docT docT2
 split
 ·exact xa3c (xa3c h1)
 ·exact xa3c h1
theorem xb3b {p:List Nat} {i e:Nat} (h:i≤p.length):(rUvar p i e).2.1≤p.length:=by
 have hf:=fuv_le (p.drop i) 0 0
 unfold rUvar
 split
 ·exact h
 split
 ·exact h
 ·simp only [List.length_drop] at hf ⊢; omega
set_option maxHeartbeats 2000000 in
theorem xa3m (v:Value) (p:List Nat) (w:World) (h:Rd w v p) :
  Calls Tryz.prog 136 #[v] w fun r w'=>∃ bv,r = .returned (.tuple #[.agg #[.int .u64 ((decB p).1:Int),bv],.int .i64 (decB p).2.2])∧NewN w.heap.size w' bv (decB p).2.1∧Kept [] w w':=by
 have H:=hide h
 obtain ⟨a1,n1,c1,hv1,hn1,_,⟨_,hlen⟩,_⟩:=id h
 subst hv1
 subst hn1
 have HDB:=hide (fun (f i1 e1 n i2 e2:Nat) (h1:rUvar p 0 0 = (f,i1,e1)) (h2:rUvar p i1 e1 = (n,i2,e2))=>xc0a p h.byte h1 h2)
 clear h
 obtain ⟨D,hD⟩:∃ D,decB p = D:=⟨_,rfl⟩
 rw [hD] at HDB ⊢
 clear hD
 go_enter Tryz.func136,Tryz.ntmps136
 have HT0:=hide (TB.start w (.slice a1 p.length c1))
 go_wp2_with fail
 refine Calls.mono (xa1h a1 c1 p 0 0 _ (by exact (uh H).old (uh HT0).kept (by simp)) (by omega)) ?_
 rintro r w1 ⟨rfl,k1⟩
 have hli1:=xb3b (p:=p) (i:=0) (e:=0) (by omega)
 have hfl:=xa6j p 0 0
 obtain ⟨x,hx⟩:∃ x,rUvar p 0 0 = x:=⟨_,rfl⟩
 have HX1:=hide hx
 rw [hx] at hli1 hfl ⊢
 clear hx
 obtain ⟨f,i1,e1⟩:=x
 simp only at hli1 hfl ⊢
 have HT1:=hide ((uh HT0).old k1)
 clear k1 HT0
 obtain ⟨⟨s0,s1,s2⟩,t0,t1,t2⟩:=three (uh HT1).r
 have hc0:w1.cell? ⟨w.heap.size + 1,0,none⟩ = some (.int .u64 0):=by rw [cell_of_row _ _ _ _ _ _ (uh HT1).b]; rfl
 have hf0:w1.frozen? ⟨w.heap.size + 1,0,none⟩ = false:=frozen_of_row _ _ _ _ _ (uh HT1).b
 have HTA:=hide (((uh HT1).setF f).setR (.slice a1 p.length c1) i1 e1)
 go_wp2_with fail
 clear s0 s1 s2 t0 t1 t2 hc0 hf0 HT1
 obtain ⟨WA,hWA⟩:∃ W,((((w1.setCell ⟨w.heap.size + 1,0,none⟩ (.int .u64 (f:Int))).setCell ⟨w.heap.size + 1 + 1,0,none⟩ (.slice a1 p.length c1)).setCell ⟨w.heap.size + 1 + 1,1,none⟩ (.int .i64 (i1:Int))).setCell ⟨w.heap.size + 1 + 1,2,none⟩ (.int .i64 (e1:Int))) = W:=⟨_,rfl⟩
 rw [hWA] at HTA ⊢
 clear hWA
 refine Calls.mono (xa1h a1 c1 p i1 e1 WA ((uh H).old (uh HTA).kept (by simp)) hli1) ?_
 rintro r w2 ⟨rfl,k2⟩
 have hli2:=xb3b (e:=e1) hli1
 have hcl:=xa6j p i1 e1
 obtain ⟨x,hx⟩:∃ x,rUvar p i1 e1 = x:=⟨_,rfl⟩
 have HX2:=hide hx
 rw [hx] at hli2 hcl ⊢
 clear hx
 obtain ⟨n,i2,e2⟩:=x
 simp only at hli2 hcl ⊢
 have HDD:=hide (uh HDB f i1 e1 n i2 e2 (uh HX1) (uh HX2))
 have HE0:=hide (fun he:e2≠0=>xb3j (uh HX2) he)
 clear HDB HX1 HX2
 have HT2:=hide ((uh HTA).old k2)
 clear k2 HTA
 obtain ⟨⟨s0,s1,s2⟩,t0,t1,t2⟩:=three (uh HT2).r
 have hc0:w2.cell? ⟨w.heap.size + 1,0,none⟩ = some (.int .u64 (f:Int)):=by rw [cell_of_row _ _ _ _ _ _ (uh HT2).b]; rfl
 have HTB:=hide ((uh HT2).setR (.slice a1 p.length c1) i2 e2)
 by_cases hA:64 < n
 ·have hA':(64:Int) < n:=by omega
  go_wp2_with fail
  clear s0 s1 s2 t0 t1 t2
  obtain ⟨WB,hWB⟩:∃ W,(((w2.setCell ⟨w.heap.size + 1 + 1,0,none⟩ (.slice a1 p.length c1)).setCell ⟨w.heap.size + 1 + 1,1,none⟩ (.int .i64 (i2:Int))).setCell ⟨w.heap.size + 1 + 1,2,none⟩ (.int .i64 (e2:Int))) = W:=⟨_,rfl⟩
  rw [hWB] at HTB ⊢
  clear hWB
  refine Calls.mono (xa3h a1 p.length c1 i2 e2 2 WB) ?_
  rintro r w3 ⟨rfl,k3⟩
  have HDE:=hide (show D = (0,[],if e2 = 0 then 2 else e2) from by
   by_cases h0:e2 = 0
   ·rw [if_pos h0]
    have h9:=(uh HDD).2.1 h0
    have hc:cntE f n = 2:=by unfold cntE; rw [if_pos hA]
    rw [hc] at h9
    exact h9 (by decide)
   ·rw [if_neg h0]; exact (uh HDD).1 h0)
  have hx0:(if e2 = 0 then 2 else e2)≠0:=by split <;> omega
  obtain ⟨x,hx⟩:∃ x,(if e2 = 0 then 2 else e2) = x:=⟨_,rfl⟩
  rw [hx] at HDE hx0 ⊢
  clear hx
  have HT3:=hide ((uh HTB).old k3)
  clear k3
  obtain ⟨⟨s0,s1,s2⟩,t0,t1,t2⟩:=three (uh HT3).r
  have HT4:=hide ((uh HT3).setR (.slice a1 p.length c1) i2 x)
  go_wp2_with fail
  clear s0 s1 s2 t0 t1 t2
  obtain ⟨WX,hWX⟩:∃ W,(((w3.setCell ⟨w.heap.size + 1 + 1,0,none⟩ (.slice a1 p.length c1)).setCell ⟨w.heap.size + 1 + 1,1,none⟩ (.int .i64 (i2:Int))).setCell ⟨w.heap.size + 1 + 1,2,none⟩ (.int .i64 (x:Int))) = W:=⟨_,rfl⟩
  rw [hWX] at HT4 ⊢
  clear hWX
  go_loopw [7] (fun t wr=>t = .int .i64 0∧wr = WX) (fun _ _=>0)
  case atStart=>exact ⟨rfl,rfl⟩
  case round =>
   obtain ⟨rfl,rfl⟩:=hrel
   obtain ⟨⟨s0,s1,s2⟩,t0,t1,t2⟩:=three (uh HT4).r
   have hx0':((x:Int) == 0) = false:=by rw [beq_eq_false_iff_ne]; omega
   have hx1:((x:Int) != 0) = true:=by rw [bne_iff_ne]; omega
   go_wp2_with fail
   refine Calls.mono (xa1z a1 c1 p i2 x wr) ?_
   rintro r w5 ⟨rfl,k5⟩
   rw [xa2r hx0]
   have HZ5:=hide (k5.heap (uh HT4).z (by simp))
   have HK5:=hide ((uh HT4).kept.trans k5 (by simp))
   clear k5
   go_wp2_with (refine wpList_store_row rfl 129 _ _ rfl w.heap.size #[.int .u64 0,.slice none 0 0] rfl rfl _ #[.int .u64 0,.slice none 0 0] (uh HZ5) Tryz.size_batch rfl (by simp [Value.oneCell']) ?_)
   refine bodyPost_ret (v:=.tuple #[.agg #[.int .u64 0,.slice none 0 0],.int .i64 x]) ?_ rfl ⟨.slice none 0 0,by rw [uh HDE]; rfl,by rw [uh HDE]; exact NewN.nil _ _ (Kept.size (L:=[]) ((uh HK5).setRowE (Or.inr (Nat.le_refl _)) _)),(uh HK5).setRowE (Or.inr (Nat.le_refl _)) _⟩
   exact xa0m rfl _ _ w.heap.size _ #[.int .u64 0,.slice none 0 0] (0,0) _ rfl (setRow_heap _ _ _ _ _ _ (uh HZ5)) Tryz.underlying129 rfl Tryz.size_batch _ rfl
 have hA':¬ (64:Int) < n:=by omega
 have hcv:IntKind.i64.wrap (n:Int) = n:=by simp [IntKind.wrap,IntKind.signed,IntKind.bits]; omega
 by_cases hB:n = 0
 ·have hB':((n:Int) == 0) = true:=by rw [hB]; rfl
  have hlt:¬ (0:Int) < n:=by omega
  go_wp2_with fail
  clear s0 s1 s2 t0 t1 t2
  obtain ⟨WB,hWB⟩:∃ W,(((w2.setCell ⟨w.heap.size + 1 + 1,0,none⟩ (.slice a1 p.length c1)).setCell ⟨w.heap.size + 1 + 1,1,none⟩ (.int .i64 (i2:Int))).setCell ⟨w.heap.size + 1 + 1,2,none⟩ (.int .i64 (e2:Int))) = W:=⟨_,rfl⟩
  rw [hWB] at HTB ⊢
  clear hWB
  refine Calls.mono (xa3h a1 p.length c1 i2 e2 3 WB) ?_
  rintro r w3 ⟨rfl,k3⟩
  have HDE:=hide (show D = (0,[],if e2 = 0 then 3 else e2) from by
   by_cases h0:e2 = 0
   ·rw [if_pos h0]
    have h9:=(uh HDD).2.1 h0
    have hc:cntE f n = 3:=by unfold cntE; rw [if_neg hA,if_pos (Or.inl hB)]
    rw [hc] at h9
    exact h9 (by decide)
   ·rw [if_neg h0]; exact (uh HDD).1 h0)
  have hx0:(if e2 = 0 then 3 else e2)≠0:=by split <;> omega
  obtain ⟨x,hx⟩:∃ x,(if e2 = 0 then 3 else e2) = x:=⟨_,rfl⟩
  rw [hx] at HDE hx0 ⊢
  clear hx
  have HT3:=hide ((uh HTB).old k3)
  clear k3
  obtain ⟨⟨s0,s1,s2⟩,t0,t1,t2⟩:=three (uh HT3).r
  have HT4:=hide ((uh HT3).setR (.slice a1 p.length c1) i2 x)
  go_wp2_with fail
  clear s0 s1 s2 t0 t1 t2
  obtain ⟨WX,hWX⟩:∃ W,(((w3.setCell ⟨w.heap.size + 1 + 1,0,none⟩ (.slice a1 p.length c1)).setCell ⟨w.heap.size + 1 + 1,1,none⟩ (.int .i64 (i2:Int))).setCell ⟨w.heap.size + 1 + 1,2,none⟩ (.int .i64 (x:Int))) = W:=⟨_,rfl⟩
  rw [hWX] at HT4 ⊢
  clear hWX
  go_loopw [7] (fun t wr=>t = .int .i64 0∧wr = WX) (fun _ _=>0)
  case atStart=>exact ⟨rfl,rfl⟩
  case round =>
   obtain ⟨rfl,rfl⟩:=hrel
   obtain ⟨⟨s0,s1,s2⟩,t0,t1,t2⟩:=three (uh HT4).r
   have hx0':((x:Int) == 0) = false:=by rw [beq_eq_false_iff_ne]; omega
   have hx1:((x:Int) != 0) = true:=by rw [bne_iff_ne]; omega
   go_wp2_with fail
   refine Calls.mono (xa1z a1 c1 p i2 x wr) ?_
   rintro r w5 ⟨rfl,k5⟩
   rw [xa2r hx0]
   have HZ5:=hide (k5.heap (uh HT4).z (by simp))
   have HK5:=hide ((uh HT4).kept.trans k5 (by simp))
   clear k5
   go_wp2_with (refine wpList_store_row rfl 129 _ _ rfl w.heap.size #[.int .u64 0,.slice none 0 0] rfl rfl _ #[.int .u64 0,.slice none 0 0] (uh HZ5) Tryz.size_batch rfl (by simp [Value.oneCell']) ?_)
   refine bodyPost_ret (v:=.tuple #[.agg #[.int .u64 0,.slice none 0 0],.int .i64 x]) ?_ rfl ⟨.slice none 0 0,by rw [uh HDE]; rfl,by rw [uh HDE]; exact NewN.nil _ _ (Kept.size (L:=[]) ((uh HK5).setRowE (Or.inr (Nat.le_refl _)) _)),(uh HK5).setRowE (Or.inr (Nat.le_refl _)) _⟩
   exact xa0m rfl _ _ w.heap.size _ #[.int .u64 0,.slice none 0 0] (0,0) _ rfl (setRow_heap _ _ _ _ _ _ (uh HZ5)) Tryz.underlying129 rfl Tryz.size_batch _ rfl
 have hB':((n:Int) == 0) = false:=by rw [beq_eq_false_iff_ne]; omega
 have h0e:e2 = 0:=by
  rcases Nat.eq_zero_or_pos e2 with h | h
  ·exact h
  ·exact absurd (uh HE0 (by omega)) hB
 have H0E:=hide h0e
 clear h0e
 go_wp2_with fail
 clear s0 s1 s2 t0 t1 t2
 refine Calls.mono (xb7n f n _ hfl (by omega)) ?_
 rintro r wz ⟨rfl,rfl⟩
 by_cases hF:¬ f + n < 18446744073709551616
 ·rw [decide_eq_false hF]
  have hlt:(0:Int) < n:=by omega
  have hTR:=hide (three (uh HTB).r)
  obtain ⟨⟨s0,s1,s2⟩,t0,t1,t2⟩:=uh hTR
  go_wp2_with fail
  clear s0 s1 s2 t0 t1 t2
  obtain ⟨WB,hWB⟩:∃ W,(((w2.setCell ⟨w.heap.size + 1 + 1,0,none⟩ (.slice a1 p.length c1)).setCell ⟨w.heap.size + 1 + 1,1,none⟩ (.int .i64 (i2:Int))).setCell ⟨w.heap.size + 1 + 1,2,none⟩ (.int .i64 (e2:Int))) = W:=⟨_,rfl⟩
  rw [hWB] at HTB ⊢
  clear hWB
  refine Calls.mono (xa3h a1 p.length c1 i2 e2 3 WB) ?_
  rintro r w3 ⟨rfl,k3⟩
  have HDE:=hide (show D = (0,[],if e2 = 0 then 3 else e2) from by
   by_cases h0:e2 = 0
   ·rw [if_pos h0]
    have h9:=(uh HDD).2.1 h0
    have hc:cntE f n = 3:=by unfold cntE; rw [if_neg hA,if_pos (Or.inr (by omega))]
    rw [hc] at h9
    exact h9 (by decide)
   ·rw [if_neg h0]; exact (uh HDD).1 h0)
  have hx0:(if e2 = 0 then 3 else e2)≠0:=by split <;> omega
  obtain ⟨x,hx⟩:∃ x,(if e2 = 0 then 3 else e2) = x:=⟨_,rfl⟩
  rw [hx] at HDE hx0 ⊢
  clear hx
  have HT3:=hide ((uh HTB).old k3)
  clear k3
  obtain ⟨⟨s0,s1,s2⟩,t0,t1,t2⟩:=three (uh HT3).r
  have HT4:=hide ((uh HT3).setR (.slice a1 p.length c1) i2 x)
  go_wp2_with fail
  clear s0 s1 s2 t0 t1 t2
  obtain ⟨WX,hWX⟩:∃ W,(((w3.setCell ⟨w.heap.size + 1 + 1,0,none⟩ (.slice a1 p.length c1)).setCell ⟨w.heap.size + 1 + 1,1,none⟩ (.int .i64 (i2:Int))).setCell ⟨w.heap.size + 1 + 1,2,none⟩ (.int .i64 (x:Int))) = W:=⟨_,rfl⟩
  rw [hWX] at HT4 ⊢
  clear hWX
  go_loopw [7] (fun t wr=>t = .int .i64 0∧wr = WX) (fun _ _=>0)
  case atStart=>exact ⟨rfl,rfl⟩
  case round =>
   obtain ⟨rfl,rfl⟩:=hrel
   obtain ⟨⟨s0,s1,s2⟩,t0,t1,t2⟩:=three (uh HT4).r
   have hx0':((x:Int) == 0) = false:=by rw [beq_eq_false_iff_ne]; omega
   have hx1:((x:Int) != 0) = true:=by rw [bne_iff_ne]; omega
   go_wp2_with fail
   refine Calls.mono (xa1z a1 c1 p i2 x wr) ?_
   rintro r w5 ⟨rfl,k5⟩
   rw [xa2r hx0]
   have HZ5:=hide (k5.heap (uh HT4).z (by simp))
   have HK5:=hide ((uh HT4).kept.trans k5 (by simp))
   clear k5
   go_wp2_with (refine wpList_store_row rfl 129 _ _ rfl w.heap.size #[.int .u64 0,.slice none 0 0] rfl rfl _ #[.int .u64 0,.slice none 0 0] (uh HZ5) Tryz.size_batch rfl (by simp [Value.oneCell']) ?_)
   refine bodyPost_ret (v:=.tuple #[.agg #[.int .u64 0,.slice none 0 0],.int .i64 x]) ?_ rfl ⟨.slice none 0 0,by rw [uh HDE]; rfl,by rw [uh HDE]; exact NewN.nil _ _ (Kept.size (L:=[]) ((uh HK5).setRowE (Or.inr (Nat.le_refl _)) _)),(uh HK5).setRowE (Or.inr (Nat.le_refl _)) _⟩
   exact xa0m rfl _ _ w.heap.size _ #[.int .u64 0,.slice none 0 0] (0,0) _ rfl (setRow_heap _ _ _ _ _ _ (uh HZ5)) Tryz.underlying129 rfl Tryz.size_batch _ rfl
 have hF':f + n < 18446744073709551616:=by omega
 rw [decide_eq_true hF']
 have hcn:cntE f n = 0:=by unfold cntE; rw [if_neg hA,if_neg (by omega)]
 have HDY:=hide ((uh HDD).2.2 (uh H0E) hcn)
 obtain ⟨WB,hWB⟩:∃ W,(((w2.setCell ⟨w.heap.size + 1 + 1,0,none⟩ (.slice a1 p.length c1)).setCell ⟨w.heap.size + 1 + 1,1,none⟩ (.int .i64 (i2:Int))).setCell ⟨w.heap.size + 1 + 1,2,none⟩ (.int .i64 (e2:Int))) = W:=⟨_,rfl⟩
 rw [hWB] at HTB ⊢
 clear hWB hF hcn HDD HE0
 go_wp2_with fail
 have HW6:=hide (Kept.refl [w.heap.size + 1,w.heap.size + 1 + 1] WB)
 go_loopw [7] (fun t7 wr=>∃ (j ij x:Nat) (vE:Value) (ts:List (En × Value × Value)),j≤n∧t7 = .int .i64 j∧ij≤p.length∧Hid (ts.length = j)∧Hid (x≠0→D = (0,[],x))∧Hid (x = 0→D = docY p f (ts.map (·.1)) (docN p ij (n - j)))∧Hid (TB w wr f vE (.slice a1 p.length c1) ij x)∧Hid (OwnN [w.heap.size + 1,w.heap.size + 1 + 1] WB wr vE ts)) (fun t _=>n - (intOf t).toNat)
 case atStart=>exact ⟨0,i2,e2,.slice none 0 0,[],Nat.zero_le _,rfl,hli2,hide rfl,hide (fun h=>absurd (uh H0E) h),hide (fun _=>uh HDY),HTB,hide (OwnN.start (uh HW6))⟩
 case round =>
  obtain ⟨j,ij,x,vE,ts,hj,rfl,hij,HJ,HX1,HX0,HT,HO⟩:=hrel
  obtain ⟨⟨s0,s1,s2⟩,t0,t1,t2⟩:=three (uh HT).r
  by_cases hgo:j < n∧x = 0
  ·obtain ⟨hlt,hx0⟩:=hgo
   subst hx0
   have HX2:=hide (uh HX0 rfl)
   have hlt':(j:Int) < n:=by omega
   have kal:=(Kept.refl [] wr).alloc (.cells #[.int .u8 0,.slice none 0 0,.slice none 0 0] 89)
   have HTa:=hide ((uh HT).old kal)
   have HOa:=hide ((uh HO).pass (M:=[]) kal (by simp) (by simp) (by simp))
   have HEa:=hide (heap_alloc_new wr (.cells #[.int .u8 0,.slice none 0 0,.slice none 0 0] 89))
   have HSa:=hide (show (wr.alloc (.cells #[.int .u8 0,.slice none 0 0,.slice none 0 0] 89)).heap.size = wr.heap.size + 1 by simp)
   obtain ⟨⟨d0,d1,d2⟩,f0,f1,f2⟩:=three (uh HTa).r
   clear kal
   go_wp2_with fail
   clear d0 d1 d2 f0 f1 f2 s0 s1 s2 t0 t1 t2
   obtain ⟨Wa,hWa⟩:∃ W,wr.alloc (.cells #[.int .u8 0,.slice none 0 0,.slice none 0 0] 89) = W:=⟨_,rfl⟩
   rw [hWa] at HTa HOa HEa HSa ⊢
   clear hWa
   refine Calls.mono (xb1o a1 c1 p ij 0 Wa ((uh H).old (uh HTa).kept (by simp)) hij) ?_
   rintro r w4 ⟨kv,vv,rfl,ok4,k4,b4⟩
   obtain ⟨m,hm⟩:∃ m,n - j = m + 1:=⟨n - j - 1,by omega⟩
   have hmm:n - (j + 1) = m:=by omega
   have HST:=hide (fun he:(docT p ij 0).2.2≠0=>by have h9:=uh HX2; rw [hm,xb7p he] at h9; exact h9:(docT p ij 0).2.2≠0→D = (0,[],(docT p ij 0).2.2))
   have HSP:=hide (fun he:(docT p ij 0).2.2 = 0=>by have h9:=uh HX2; rw [hm,xb7w he,← hmm] at h9; exact h9:(docT p ij 0).2.2 = 0→D = docY p f (ts.map (·.1)++[(docT p ij 0).1]) (docN p (docT p ij 0).2.1 (n - (j + 1))))
   have hle:=xc2g p ij hij
   obtain ⟨X,hX⟩:∃ X,docT p ij 0 = X:=⟨_,rfl⟩
   rw [hX] at HST HSP ok4 hle ⊢
   clear hX hm hmm HX0 HX1 HX2
   obtain ⟨en,i3,e3⟩:=X
   simp only at HST HSP ok4 hle ⊢
   unfold enC
   have HOK4:=hide ok4
   obtain ⟨a8,m8,c8,hu8,_⟩:=id ok4.key
   subst hu8
   obtain ⟨a9,m9,c9,hu9,_⟩:=id ok4.val
   subst hu9
   have HNW:=hide b4
   have HT4:=hide ((uh HTa).old k4)
   have HO4:=hide ((uh HOa).pass (M:=[]) k4 (by simp) (by simp) (by simp))
   have HE4:=hide (k4.heap (uh HEa) (by simp))
   clear ok4 k4 b4 HTa HOa HEa
   have hEs:w.heap.size + 1 + 1 < wr.heap.size:=lt_of_block (uh HT).r
   have hBs:w.heap.size + 1 + 1 < WB.heap.size:=lt_of_block (uh HTB).r
   have hWs:WB.heap.size≤wr.heap.size:=(uh HO).kept.size
   have HN1:=hide (fun e'=>Nat.lt_irrefl _ ((uh HO).own.lt wr.heap.size e').2:vE.ownBlock≠some wr.heap.size)
   have HN2:=hide (fun t ht=>⟨fun hb=>Nat.lt_irrefl _ (((uh HO).ok t ht).key.ltN _ hb),fun hb=>Nat.lt_irrefl _ (((uh HO).ok t ht).val.ltN _ hb)⟩:∀ t∈ts,wr.heap.size∉nblk t.2.1 t.1.key∧wr.heap.size∉nblk t.2.2 t.1.val)
   have k5:=(Kept.refl [wr.heap.size] w4).setRowE (g:=wr.heap.size) (Or.inl (by simp)) #[.int .u8 (en.k:Int),.slice a8 m8 c8,.slice a9 m9 c9]
   have HT5:=hide (⟨k5.heap (uh HT4).z (by simp; omega),k5.heap (uh HT4).b (by simp; omega),k5.heap (uh HT4).r (by simp; omega),(uh HT4).kept.trans k5 (by simp; omega)⟩:TB w (w4.setRow wr.heap.size #[.int .u8 (en.k:Int),.slice a8 m8 c8,.slice a9 m9 c9]) f vE (.slice a1 p.length c1) ij 0)
   have HE5:=hide (setRow_heap w4 wr.heap.size _ #[.int .u8 (en.k:Int),.slice a8 m8 c8,.slice a9 m9 c9] 89 (0,0) (uh HE4))
   have HO5:=hide ((uh HO4).pass k5 (by simp; omega) (fun x hx=>by rw [List.mem_singleton] at hx; subst hx; exact uh HN1) (fun x hx t ht=>by rw [List.mem_singleton] at hx; subst hx; exact uh HN2 t ht))
   have k6:=(Kept.refl [w.heap.size + 1 + 1] (w4.setRow wr.heap.size #[.int .u8 (en.k:Int),.slice a8 m8 c8,.slice a9 m9 c9])).setRowE (g:=w.heap.size + 1 + 1) (Or.inl (by simp)) #[.slice a1 p.length c1,.int .i64 (i3:Int),.int .i64 (e3:Int)]
   have HT6:=hide (⟨k6.heap (uh HT5).z (by simp; omega),k6.heap (uh HT5).b (by simp),setRow_heap _ _ _ _ _ _ (uh HT5).r,(uh HT5).kept.trans k6 (by simp; omega)⟩:TB w ((w4.setRow wr.heap.size #[.int .u8 (en.k:Int),.slice a8 m8 c8,.slice a9 m9 c9]).setRow (w.heap.size + 1 + 1) #[.slice a1 p.length c1,.int .i64 (i3:Int),.int .i64 (e3:Int)]) f vE (.slice a1 p.length c1) i3 e3)
   have HE6:=hide (k6.heap (uh HE5) (by simp; omega))
   have HO6:=hide ((uh HO5).pass k6 (by simp) (fun x hx e'=>by rw [List.mem_singleton] at hx; subst hx; have h9:=((uh HO5).own.lt _ e').1; omega) (fun x hx t ht=>by rw [List.mem_singleton] at hx; subst hx; exact ⟨fun hb=>by have h9:=((uh HO5).apart t ht _ (Or.inl hb)).2; omega,fun hb=>by have h9:=((uh HO5).apart t ht _ (Or.inr hb)).2; omega⟩))
   have HOK6:=hide (⟨(uh HOK4).k,((uh HOK4).key.kept k5 (fun x hx=>by have h9:=uh HNW x (Or.inl hx); have h8:=uh HSa; simp; omega)).kept k6 (fun x hx=>by have h9:=uh HNW x (Or.inl hx); have h8:=uh HSa; simp; omega),((uh HOK4).val.kept k5 (fun x hx=>by have h9:=uh HNW x (Or.inr hx); have h8:=uh HSa; simp; omega)).kept k6 (fun x hx=>by have h9:=uh HNW x (Or.inr hx); have h8:=uh HSa; simp; omega)⟩:OkE ((w4.setRow wr.heap.size #[.int .u8 (en.k:Int),.slice a8 m8 c8,.slice a9 m9 c9]).setRow (w.heap.size + 1 + 1) #[.slice a1 p.length c1,.int .i64 (i3:Int),.int .i64 (e3:Int)]) en (.slice a8 m8 c8) (.slice a9 m9 c9))
   clear k5 k6
   go_wp2_with (first
    | (refine wpList_store_row rfl 89 _ _ rfl wr.heap.size #[.int .u8 (en.k:Int),.slice a8 m8 c8,.slice a9 m9 c9] rfl rfl _ #[.int .u8 0,.slice none 0 0,.slice none 0 0] (uh HE4) Tryz.size_entry rfl (xa6k rfl rfl rfl) ?_)
    | (refine wpList_store_row rfl 272 _ _ rfl (w.heap.size + 1 + 1) #[.slice a1 p.length c1,.int .i64 (i3:Int),.int .i64 (e3:Int)] rfl rfl _ #[.slice a1 p.length c1,.int .i64 (ij:Int),.int .i64 0] (uh HT5).r Tryz.size_rr rfl (xa6k rfl rfl rfl) ?_; obtain ⟨WC,hWC⟩:∃ W,(w4.setRow wr.heap.size #[.int .u8 (en.k:Int),.slice a8 m8 c8,.slice a9 m9 c9]).setRow (w.heap.size + 1 + 1) #[.slice a1 p.length c1,.int .i64 (i3:Int),.int .i64 (e3:Int)] = W:=⟨_,rfl⟩; rw [hWC]; rw [hWC] at HT6 HE6 HO6 HOK6; clear hWC HT5 HE5 HO5; obtain ⟨⟨d0,d1,d2⟩,f0,f1,f2⟩:=three (uh HE6); have v1:=cell_of_row _ _ 1 _ _ _ (uh HT6).b; have HO7:=hide ((uh HO6).pass (M:=[]) ((Kept.refl [] WC).alloc (.cells #[.int .u8 (en.k:Int),.slice a8 m8 c8,.slice a9 m9 c9] 89)) (by simp) (by simp) (by simp)); have HB7:=hide (uh HO7).kept.size; have HV7:=hide (((Kept.refl [] WC).alloc (.cells #[.int .u8 (en.k:Int),.slice a8 m8 c8,.slice a9 m9 c9] 89)).heap (uh HT6).b (by simp)))
    | (at_builtin; refine xa9b rfl _ _ rfl rfl _ WB.heap.size vE ts en (.slice a8 m8 c8) (.slice a9 m9 c9) WC.heap.size (uh HO7).own (heap_alloc_new _ _) rfl rfl (by have:=uh HJ; omega) (uh HB7) rfl rfl ?_; intro g cap2 w8 HO8 HG8 HA8; have k8:=(Kept.refl vE.ownBlock.toList (WC.alloc (.cells #[.int .u8 (en.k:Int),.slice a8 m8 c8,.slice a9 m9 c9] 89))).grown (uh HG8) (by intro k hk; left; simp [hk]); have HNO:=hide (fun (y:Nat) (hy:y < WB.heap.size) (hm9:y∈vE.ownBlock.toList)=>by have h9:=((uh HO7).own.lt y (by simpa using hm9)).1; omega:∀ y,y < WB.heap.size→y∉vE.ownBlock.toList); have HT8:=hide (⟨k8.heap ((uh HT6).old ((Kept.refl [] WC).alloc _)).z (uh HNO _ (by omega)),k8.heap ((uh HT6).old ((Kept.refl [] WC).alloc _)).b (uh HNO _ (by omega)),k8.heap ((uh HT6).old ((Kept.refl [] WC).alloc _)).r (uh HNO _ (by omega)),((uh HT6).kept.alloc _).trans k8 (fun x hx=>by have h9:=((uh HO7).own.lt x (by simpa using hx)).1; omega)⟩:TB w w8 f vE (.slice a1 p.length c1) i3 e3); clear k8; have v8:=cell_of_row _ _ 1 _ _ _ (uh HT8).b; have z8:=frozen_of_row _ _ 1 _ _ (uh HT8).b))
   refine ⟨⟨j + 1,i3,e3,.slice (some ⟨g,0,none⟩) (ts.length + 1) cap2,ts++[(en,.slice a8 m8 c8,.slice a9 m9 c9)],by omega,by go_num,hle,hide (by rw [List.length_append,uh HJ]; rfl),HST,hide (fun h=>by rw [List.map_append]; exact uh HSP h),hide ((uh HT8).setE _),hide ?_⟩,?_⟩
   ·have o8:=(uh HO7).push ((uh HOK6).old ((Kept.refl [] WC).alloc _)) (fun b' hb'=>by
     have h9:Wa.heap.size≤b':=by
      rcases hb' with hb' | hb'
      ·exact uh HNW b' (Or.inl (xa5p hb').1)
      ·exact uh HNW b' (Or.inr (xa5p hb').1)
     have h8:=uh HSa
     exact ⟨fun e'=>by have h7:=((uh HO).own.lt b' e').2; omega,by omega⟩) (uh HO8) (uh HG8) (uh HA8)
    refine o8.pass ((Kept.refl [w.heap.size + 1] w8).setCell (p:=⟨w.heap.size + 1,1,none⟩) (Or.inl (by simp)) _) (by simp) (fun x hx e'=>?_) (fun x hx t ht=>⟨fun hb'=>?_,fun hb'=>?_⟩)
    ·have h9:=(o8.own.lt x e').1; rw [List.mem_singleton] at hx; omega
    ·have h9:=(o8.apart t ht x (Or.inl hb')).2; rw [List.mem_singleton] at hx; omega
    ·have h9:=(o8.apart t ht x (Or.inr hb')).2; rw [List.mem_singleton] at hx; omega
   ·simp [intOf]; omega
  ·have HDF:=hide (show D = if doneE p ij x≠0 then (0,[],doneE p ij x) else (f,ts.map (·.1),0) from by
    by_cases hx0:x = 0
    ·have h9:=uh HX0 hx0
     have hjn:n - j = 0:=by omega
     rw [hjn,show docN p ij 0 = ([],ij,0) from rfl] at h9
     rw [h9,hx0]
     unfold docY
     simp
    ·rw [xa2r hx0,if_pos hx0]; exact uh HX1 hx0)
   obtain ⟨aE,mE,cE,hvE⟩:∃ aE mE cE,vE = .slice aE mE cE:=by
    rcases (uh HO).own.2 with ⟨rfl,_⟩ | ⟨g,cap,cur,rfl,_⟩
    ·exact ⟨_,_,_,rfl⟩
    ·exact ⟨_,_,_,rfl⟩
   subst hvE
   have hBs:w.heap.size + 1 + 1 < WB.heap.size:=lt_of_block (uh HTB).r
   have hor:(j < n∧x≠0)∨¬ j < n:=by omega
   clear HX0 HX1
   rcases hor with ⟨h1,h2⟩ | h1
   ·have h1':(j:Int) < n:=by omega
    have h2':((x:Int) == 0) = false:=by rw [beq_eq_false_iff_ne]; omega
    clear h1 h2 hgo
    go_wp2_with fail
    refine Calls.mono (xa1z a1 c1 p ij x wr) ?_
    rintro r w5 ⟨rfl,k5⟩
    obtain ⟨fE,hfE⟩:∃ fE,doneE p ij x = fE:=⟨_,rfl⟩
    rw [hfE] at HDF ⊢
    clear hfE
    have HT5:=hide ((uh HT).old k5)
    have HO5:=hide ((uh HO).pass (M:=[]) k5 (by simp) (by simp) (by simp))
    clear k5 s0 s1 s2 t0 t1 t2
    by_cases h0:fE = 0
    ·subst h0
     have HE:=hide (by have h9:=uh HDF; rw [if_neg (by simp)] at h9; exact h9:D = (f,ts.map (·.1),0))
     have krow:=(Kept.refl [w.heap.size] w5).setRowE (g:=w.heap.size) (Or.inl (by simp)) #[.int .u64 (f:Int),.slice aE mE cE]
     have HOR:=hide (((uh HO5).mono (M:=[w.heap.size + 1,w.heap.size + 1 + 1,w.heap.size]) (by intro x hx; simp at hx; rcases hx with rfl | rfl <;> simp)).pass krow (by simp) (fun x hx e'=>by have h9:=((uh HO5).own.lt x e').1; rw [List.mem_singleton] at hx; omega) (fun x hx t ht=>⟨fun hb'=>by have h9:=((uh HO5).apart t ht x (Or.inl hb')).2; rw [List.mem_singleton] at hx; omega,fun hb'=>by have h9:=((uh HO5).apart t ht x (Or.inr hb')).2; rw [List.mem_singleton] at hx; omega⟩))
     clear krow
     go_wp2_with (first
      | (refine wpList_load_row rfl 129 _ rfl (w.heap.size + 1) rfl _ #[.int .u64 (f:Int),.slice aE mE cE] (0,0) _ (uh HT5).b Tryz.underlying129 rfl Tryz.size_batch ?_)
      | (refine wpList_store_row rfl 129 _ _ rfl w.heap.size #[.int .u64 (f:Int),.slice aE mE cE] rfl rfl _ #[.int .u64 0,.slice none 0 0] (uh HT5).z Tryz.size_batch rfl (by simp [Value.oneCell']) ?_))
     refine bodyPost_ret (v:=.tuple #[.agg #[.int .u64 (f:Int),.slice aE mE cE],.int .i64 0]) ?_ rfl ⟨.slice aE mE cE,by rw [uh HE]; rfl,by rw [uh HE]; exact ⟨_,WB,ts,rfl,uh HOR,by omega⟩,(uh HT5).kept.setRowE (Or.inr (Nat.le_refl _)) _⟩
     exact xa0m rfl _ _ w.heap.size _ #[.int .u64 (f:Int),.slice aE mE cE] (0,0) _ rfl (setRow_heap _ _ _ _ _ _ (uh HT5).z) Tryz.underlying129 rfl Tryz.size_batch _ rfl
    ·have HE:=hide (by have h9:=uh HDF; rw [if_pos h0] at h9; exact h9:D = (0,[],fE))
     have hb0:((fE:Int) != 0) = true:=by rw [bne_iff_ne]; omega
     go_wp2_with (refine wpList_store_row rfl 129 _ _ rfl w.heap.size #[.int .u64 0,.slice none 0 0] rfl rfl _ #[.int .u64 0,.slice none 0 0] (uh HT5).z Tryz.size_batch rfl (by simp [Value.oneCell']) ?_)
     refine bodyPost_ret (v:=.tuple #[.agg #[.int .u64 0,.slice none 0 0],.int .i64 fE]) ?_ rfl ⟨.slice none 0 0,by rw [uh HE]; rfl,by rw [uh HE]; exact NewN.nil _ _ (Kept.size (L:=[]) ((uh HT5).kept.setRowE (Or.inr (Nat.le_refl _)) _)),(uh HT5).kept.setRowE (Or.inr (Nat.le_refl _)) _⟩
     exact xa0m rfl _ _ w.heap.size _ #[.int .u64 0,.slice none 0 0] (0,0) _ rfl (setRow_heap _ _ _ _ _ _ (uh HT5).z) Tryz.underlying129 rfl Tryz.size_batch _ rfl
   ·have h1':¬ (j:Int) < n:=by omega
    clear h1 hgo
    go_wp2_with fail
    refine Calls.mono (xa1z a1 c1 p ij x wr) ?_
    rintro r w5 ⟨rfl,k5⟩
    obtain ⟨fE,hfE⟩:∃ fE,doneE p ij x = fE:=⟨_,rfl⟩
    rw [hfE] at HDF ⊢
    clear hfE
    have HT5:=hide ((uh HT).old k5)
    have HO5:=hide ((uh HO).pass (M:=[]) k5 (by simp) (by simp) (by simp))
    clear k5 s0 s1 s2 t0 t1 t2
    by_cases h0:fE = 0
    ·subst h0
     have HE:=hide (by have h9:=uh HDF; rw [if_neg (by simp)] at h9; exact h9:D = (f,ts.map (·.1),0))
     have krow:=(Kept.refl [w.heap.size] w5).setRowE (g:=w.heap.size) (Or.inl (by simp)) #[.int .u64 (f:Int),.slice aE mE cE]
     have HOR:=hide (((uh HO5).mono (M:=[w.heap.size + 1,w.heap.size + 1 + 1,w.heap.size]) (by intro x hx; simp at hx; rcases hx with rfl | rfl <;> simp)).pass krow (by simp) (fun x hx e'=>by have h9:=((uh HO5).own.lt x e').1; rw [List.mem_singleton] at hx; omega) (fun x hx t ht=>⟨fun hb'=>by have h9:=((uh HO5).apart t ht x (Or.inl hb')).2; rw [List.mem_singleton] at hx; omega,fun hb'=>by have h9:=((uh HO5).apart t ht x (Or.inr hb')).2; rw [List.mem_singleton] at hx; omega⟩))
     clear krow
     go_wp2_with (first
      | (refine wpList_load_row rfl 129 _ rfl (w.heap.size + 1) rfl _ #[.int .u64 (f:Int),.slice aE mE cE] (0,0) _ (uh HT5).b Tryz.underlying129 rfl Tryz.size_batch ?_)
      | (refine wpList_store_row rfl 129 _ _ rfl w.heap.size #[.int .u64 (f:Int),.slice aE mE cE] rfl rfl _ #[.int .u64 0,.slice none 0 0] (uh HT5).z Tryz.size_batch rfl (by simp [Value.oneCell']) ?_))
     refine bodyPost_ret (v:=.tuple #[.agg #[.int .u64 (f:Int),.slice aE mE cE],.int .i64 0]) ?_ rfl ⟨.slice aE mE cE,by rw [uh HE]; rfl,by rw [uh HE]; exact ⟨_,WB,ts,rfl,uh HOR,by omega⟩,(uh HT5).kept.setRowE (Or.inr (Nat.le_refl _)) _⟩
     exact xa0m rfl _ _ w.heap.size _ #[.int .u64 (f:Int),.slice aE mE cE] (0,0) _ rfl (setRow_heap _ _ _ _ _ _ (uh HT5).z) Tryz.underlying129 rfl Tryz.size_batch _ rfl
    ·have HE:=hide (by have h9:=uh HDF; rw [if_pos h0] at h9; exact h9:D = (0,[],fE))
     have hb0:((fE:Int) != 0) = true:=by rw [bne_iff_ne]; omega
     go_wp2_with (refine wpList_store_row rfl 129 _ _ rfl w.heap.size #[.int .u64 0,.slice none 0 0] rfl rfl _ #[.int .u64 0,.slice none 0 0] (uh HT5).z Tryz.size_batch rfl (by simp [Value.oneCell']) ?_)
     refine bodyPost_ret (v:=.tuple #[.agg #[.int .u64 0,.slice none 0 0],.int .i64 fE]) ?_ rfl ⟨.slice none 0 0,by rw [uh HE]; rfl,by rw [uh HE]; exact NewN.nil _ _ (Kept.size (L:=[]) ((uh HT5).kept.setRowE (Or.inr (Nat.le_refl _)) _)),(uh HT5).kept.setRowE (Or.inr (Nat.le_refl _)) _⟩
     exact xa0m rfl _ _ w.heap.size _ #[.int .u64 0,.slice none 0 0] (0,0) _ rfl (setRow_heap _ _ _ _ _ _ (uh HT5).z) Tryz.underlying129 rfl Tryz.size_batch _ rfl
theorem Tryz.size_rseg:(Tryz.prog.info? 176).map (·.size) = some 6:=by kernel_rfl
theorem xa9e (p:List Nat) (z:Int) (hb:∀ x∈p,x < 256):(nextF p z).pl < 18446744073709551616∧(nextF p z).pay.length≤65535:=by
 rcases xa2d p z hb with ⟨_,hN⟩ | ⟨_,hN⟩ | ⟨m,pl,pay,hzn,hN,b1,b2,b3,b4,b5,b6,b7⟩
 ·rw [hN]; simp
 ·rw [hN]; simp
 ·rw [hN]; exact ⟨b1,b3⟩
theorem hdF_no {p:List Nat} (hb:∀ x∈p,x < 256) (h:(nextF p 0).kind≠1∨payH (nextF p 0).pl (nextF p 0).pay = false):(hdF p).isSome = false:=by
 by_cases hk:(nextF p 0).kind = 1
 ·rcases h with h | h
  ·exact absurd hk h
  rcases xa2d p 0 hb with ⟨_,hN⟩ | ⟨_,hN⟩ | ⟨m,pl,pay,hzn,hN,b1,b2,b3,b4,b5,b6,b7⟩
  ·rw [hN] at hk; simp at hk
  ·rw [hN] at hk; simp at hk
  ·obtain rfl:m = 0:=by omega
   rw [List.drop_zero] at b7
   rw [hN] at h
   simp only at h
   unfold hdF
   rw [b7]
   simp [h]
 ·rw [xa7f hk]; rfl
theorem xc2t {p:List Nat} (hb:∀ x∈p,x < 256) (hk:(nextF p 0).kind = 1) (h:payH (nextF p 0).pl (nextF p 0).pay = true):(hdF p).isSome = true∧(nextF p 0).next = 48∧hdC p = ⟨beL (((nextF p 0).pay.drop 5).take 8),beL (((nextF p 0).pay.drop 13).take 8),beL (((nextF p 0).pay.drop 21).take 8),(nextF p 0).pay.getD 29 0⟩:=by
 rcases xa2d p 0 hb with ⟨_,hN⟩ | ⟨_,hN⟩ | ⟨m,pl,pay,hzn,hN,b1,b2,b3,b4,b5,b6,b7⟩
 ·rw [hN] at hk; simp at hk
 ·rw [hN] at hk; simp at hk
 ·obtain rfl:m = 0:=by omega
  rw [List.drop_zero] at b7
  rw [hN] at h ⊢
  simp only at h ⊢
  have h30:pay.length = 30:=by unfold payH at h; simp at h; exact h.1
  refine ⟨?_,by rw [h30]; rfl,?_⟩
  ·unfold hdF; rw [b7]; simp [h]
  ·unfold hdC hdF; rw [b7]; simp [h]
set_option maxHeartbeats 4000000 in
theorem xa9p (v:Value) (p:List Nat) (w:World) (h:Rd w v p) (hl:p.length≤100000000000) :
  Calls Tryz.prog 95 #[v] w fun e w'=>∃ bv,e = .returned (.tuple #[.agg #[.int .u64 (hdC p).a,.int .u64 (hdC p).b,.int .u64 (hdC p).c,.int .i64 (hdC p).d,bv,.int .i64 (sgU p)],.int .i64 (sgE p)])∧(∃ ts,sgB p = ts.map (fun t=>(t.1,t.2.2))∧OwnB w w' bv ts)∧Kept [] w w':=by
 have H:=hide h
 obtain ⟨a1,n1,c1,rfl,hn1,_⟩:=id h
 subst hn1
 clear h
 have HZ0:=hide (heap_alloc_new w (.cells #[.int .u64 0,.int .u64 0,.int .u64 0,.int .i64 0,.slice none 0 0,.int .i64 0] 176))
 have HK0:=hide ((Kept.refl [] w).alloc (.cells #[.int .u64 0,.int .u64 0,.int .u64 0,.int .i64 0,.slice none 0 0,.int .i64 0] 176))
 have HLP:=hide hl
 obtain ⟨U,hU⟩:∃ U,sgU p = U:=⟨_,rfl⟩
 obtain ⟨S,hS⟩:∃ S,sgB p = S:=⟨_,rfl⟩
 obtain ⟨E,hE⟩:∃ E,sgE p = E:=⟨_,rfl⟩
 obtain ⟨X,hX⟩:∃ X,hdC p = X:=⟨_,rfl⟩
 rw [hX,hU,hS,hE]
 have HNO:=hide (fun (h0:(hdF p).isSome = false)=>by
  rw [← hU,← hS,← hE]
  exact ⟨by rw [← hX]; rw [Option.isSome_eq_false_iff,Option.isNone_iff_eq_none] at h0; simp [hdC,h0],by simp [sgU,h0],by simp [sgB,h0],by simp [sgE,h0]⟩:(hdF p).isSome = false→X = ⟨0,0,0,0⟩∧U = 0∧S = []∧E = 3)
 have HYE:=hide (fun (h0:(hdF p).isSome = true)=>by
  rw [← hU,← hS,← hE,← hX]
  exact ⟨by simp [sgU,h0],by simp [sgB,h0],by simp [sgE,h0]⟩:(hdF p).isSome = true→U = (rdL p.length p 48 X.c).2∧S = (rdL p.length p 48 X.c).1∧E = 0)
 have HXE:=hide hX
 clear hU hS hE hX hl
 go_enter Tryz.func95,Tryz.ntmps95
 go_wp2_with fail
 refine Calls.mono (xa5y _ p 0 _ ((uh H).old (uh HK0) (by simp)) (by omega)) ?_
 rintro e w1 ⟨v1,rfl,n1,k1⟩
 obtain ⟨av,nv,cv,rfl,hnv,_⟩:=id n1.1
 have HNB:=hide (xa9e p 0 (uh H).byte)
 have HNN:=hide (fun h=>hdF_no (p:=p) (uh H).byte h)
 have HNY:=hide (fun h1 h2=>xc2t (p:=p) (uh H).byte h1 h2)
 obtain ⟨N,hN⟩:∃ N,nextF p 0 = N:=⟨_,rfl⟩
 rw [hN] at n1 HNB hnv ⊢
 simp only [hN] at HNN HNY
 clear hN
 have HN1:=hide n1.1
 have HZ1:=hide (k1.heap (uh HZ0) (by simp))
 have HK1:=hide ((uh HK0).trans k1 (by simp))
 clear n1 k1 hnv HZ0 HK0
 have KA:=hide ((Kept.refl [] w1).alloc (.cells #[.int .u64 (N.pl:Int),.slice av nv cv] 219))
 have HFW:=hide (heap_alloc_new w1 (.cells #[.int .u64 (N.pl:Int),.slice av nv cv] 219))
 obtain ⟨W1,hW1⟩:∃ W,w1.alloc (.cells #[.int .u64 (N.pl:Int),.slice av nv cv] 219) = W:=⟨_,rfl⟩
 rw [hW1] at KA HFW
 have HW1:=hide hW1
 clear hW1
 have g0:W1.cell? ⟨w1.heap.size,0,none⟩ = some (.int .u64 (N.pl:Int)):=by rw [cell_of_row _ _ _ _ _ _ (uh HFW)]; rfl
 have g1:W1.cell? ⟨w1.heap.size,1,none⟩ = some (.slice av nv cv):=by rw [cell_of_row _ _ _ _ _ _ (uh HFW)]; rfl
 rw [← uh HW1] at g0 g1
 go_wp2_with fail
 rw [uh HW1]
 clear g0 g1
 refine Calls.mono (xb2k N.pl _ N.pay W1 ((uh HN1).old (uh KA) (by simp)) (uh HNB).1 (uh HNB).2) ?_
 rintro e w2 ⟨a,b,c,d,rfl,hv2,k2⟩
 have HV2:=hide hv2
 have HZ2:=hide (k2.heap ((uh KA).heap (uh HZ1) (by simp)) (by simp))
 have HK2:=hide (((uh HK1).trans (uh KA) (by simp)).trans k2 (by simp))
 clear hv2 k2 HZ1 HK1 KA HFW HW1 HN1
 have HHW:=hide (heap_alloc_new w2 (.cells #[.int .u64 (a:Int),.int .u64 (b:Int),.int .u64 (c:Int),.int .i64 (d:Int)] 174))
 have HKW:=hide ((uh HK2).alloc (.cells #[.int .u64 (a:Int),.int .u64 (b:Int),.int .u64 (c:Int),.int .i64 (d:Int)] 174))
 have HZW:=hide (((Kept.refl [] w2).alloc (.cells #[.int .u64 (a:Int),.int .u64 (b:Int),.int .u64 (c:Int),.int .i64 (d:Int)] 174)).heap (uh HZ2) (by simp))
 obtain ⟨W2,hW2⟩:∃ W,w2.alloc (.cells #[.int .u64 (a:Int),.int .u64 (b:Int),.int .u64 (c:Int),.int .i64 (d:Int)] 174) = W:=⟨_,rfl⟩
 rw [hW2] at HHW HKW HZW
 have HW2:=hide hW2
 clear hW2
 obtain ⟨d0,d1,d2,d3,d4,d5⟩:=scells (uh HZW)
 obtain ⟨f0,f1,f2,f3,f4,f5⟩:=sfroz (uh HZW)
 obtain ⟨g0,g1,g2,g3⟩:=hcells (uh HHW)
 rw [← uh HW2] at d0 d1 d2 d3 d4 d5 f0 f1 f2 f3 f4 f5 g0 g1 g2 g3
 by_cases hok:N.kind = 1∧payH N.pl N.pay = true
 ·obtain ⟨hk,hp⟩:=hok
  obtain ⟨y1,y2,y3⟩:=uh HNY hk hp
  obtain ⟨z1,z2,z3,z4⟩:=uh HV2 hp
  rw [← z1,← z2,← z3,← z4,uh HXE] at y3
  have HV:=hide (uh HYE y1)
  rw [y3] at HV
  have HX:=hide y3
  have hkb:((N.kind:Int) != 1) = false:=by rw [hk]; rfl
  rw [hp,y2]
  clear hk hp y1 y2 y3 z1 z2 z3 z4 HNY HNN HNO HYE HV2 HXE
  obtain ⟨T,hT⟩:∃ T,rdL p.length p 48 c = T:=⟨_,rfl⟩
  have HT:=hide hT
  simp only [hT] at HV
  clear hT
  have HS0:=hide (heap_alloc_new W2 (.cells #[.int .u64 (a:Int),.int .u64 (b:Int),.int .u64 (c:Int),.int .i64 (d:Int),.slice none 0 0,.int .i64 48] 176))
  have HKS:=hide ((Kept.refl [] W2).alloc (.cells #[.int .u64 (a:Int),.int .u64 (b:Int),.int .u64 (c:Int),.int .i64 (d:Int),.slice none 0 0,.int .i64 48] 176))
  have HSZ:=hide (by rw [← uh HW2]; simp:W2.heap.size = w2.heap.size + 1)
  rw [uh HSZ] at HS0
  go_wp2_with fail
  rw [uh HW2]
  have HZS:=hide ((uh HKS).heap (uh HZW) (by simp))
  have HKw:=hide ((uh HKW).trans (uh HKS) (by simp))
  have HLT:=hide (by have:=lt_of_block (uh HZ2); omega:w.heap.size < w2.heap.size + 1)
  obtain ⟨W3,hW3⟩:∃ W,W2.alloc (.cells #[.int .u64 (a:Int),.int .u64 (b:Int),.int .u64 (c:Int),.int .i64 (d:Int),.slice none 0 0,.int .i64 48] 176) = W:=⟨_,rfl⟩
  have HS2:=hide (by rw [← hW3]; simp [uh HSZ]:W3.heap.size = w2.heap.size + 1 + 1)
  rw [hW3] at HS0 HKS HZS HKw ⊢
  clear hW3 d0 d1 d2 d3 d4 d5 f0 f1 f2 f3 f4 f5 g0 g1 g2 g3 HKS hkb
  go_loopw [10] (fun t10 wr=>∃ (n f i:Nat) (bv:Value) (ts:List (Nat × Value × List En)),t10 = .int .u64 (i:Int)∧Hid (n≤p.length + 48∧p.length≤n + f∧ts.length≤n)∧Hid (T = (ts.map (fun t=>(t.1,t.2.2))++(rdL f p n i).1,(rdL f p n i).2))∧Hid (wr.heap[w2.heap.size + 1]? = some (.cells #[.int .u64 (a:Int),.int .u64 (b:Int),.int .u64 (c:Int),.int .i64 (d:Int),bv,.int .i64 (n:Int)] 176 (0,0)))∧Hid (OwnB W3 wr bv ts)∧Hid (Kept [] w wr)∧Hid (wr.heap[w.heap.size]? = some (.cells #[.int .u64 0,.int .u64 0,.int .u64 0,.int .i64 0,.slice none 0 0,.int .i64 0] 176 (0,0)))) (fun _ wr=>p.length - (intOf ((wr.cell? ⟨w2.heap.size + 1,5,none⟩).getD undef)).toNat)
  case atStart=>exact ⟨48,p.length,c,.slice none 0 0,[],rfl,hide ⟨by omega,by omega,by simp⟩,hide (by rw [uh HT]; simp),HS0,hide (OwnB.start _),HKw,HZS⟩
  case round =>
   obtain ⟨n,f,i,bv,ts,rfl,HN,HR,HS,HO,HK,HZ⟩:=hrel
   obtain ⟨s0,s1,s2,s3,s4,s5⟩:=scells (uh HS)
   have HC5:=hide s5
   go_wp2_with fail
   refine Calls.mono (xa5y _ p (n:Int) wr ((uh H).old (uh HK) (by simp)) (by have:=(uh HN).1; have:=uh HLP; omega)) ?_
   rintro e w4 ⟨v4,rfl,n4,k4⟩
   obtain ⟨a4,m4,c4,rfl,hm4,_⟩:=id n4.1
   have HN4:=hide n4.1
   have HK4:=hide k4
   clear n4 k4 hm4 s0 s1 s2 s3 s4 s5
   obtain ⟨Y,hY⟩:∃ Y,nextF p (n:Int) = Y:=⟨_,rfl⟩
   have HRB:=hide (⟨by unfold rbOk; rw [hY],fun h=>by unfold rbE; rw [if_pos h,hY],fun h=>by unfold rbN; rw [if_pos h,hY]⟩:rbOk p (n:Int) i = decide (Y.kind = 1∧Y.pl = i∧(decB Y.pay).2.2 = 0∧(decB Y.pay).1 = i)∧(rbOk p (n:Int) i = true→rbE p (n:Int) i = (decB Y.pay).2.1)∧(rbOk p (n:Int) i = true→rbN p (n:Int) i = Y.next))
   rw [hY] at HN4 ⊢
   clear hY
   have KA:=hide ((Kept.refl [] w4).alloc (.cells #[.int .u64 (Y.pl:Int),.slice a4 m4 c4] 219))
   have HFW:=hide (heap_alloc_new w4 (.cells #[.int .u64 (Y.pl:Int),.slice a4 m4 c4] 219))
   obtain ⟨W4,hW4⟩:∃ W,w4.alloc (.cells #[.int .u64 (Y.pl:Int),.slice a4 m4 c4] 219) = W:=⟨_,rfl⟩
   rw [hW4] at KA HFW
   have HW4:=hide hW4
   clear hW4
   have g1:W4.cell? ⟨w4.heap.size,1,none⟩ = some (.slice a4 m4 c4):=by rw [cell_of_row _ _ _ _ _ _ (uh HFW)]; rfl
   rw [← uh HW4] at g1
   go_wp2_with fail
   rw [uh HW4]
   clear g1
   refine Calls.mono (xa3m _ Y.pay W4 ((uh HN4).old (uh KA) (by simp))) ?_
   rintro e w5 ⟨b5,rfl,nb,k5⟩
   obtain ⟨a5,n5,c5,_,_,hb5,hl5,_⟩:=id nb.rdN
   subst hb5
   have HL5:=hide hl5
   have HNB5:=hide nb
   have HKK:=hide (((uh HK4).trans (uh KA) (by simp)).trans k5 (by simp))
   have HG5:=hide (k5.heap (uh HFW) (by simp))
   have HSB:=hide (by have:=((uh HK4).trans (uh KA) (by simp)).size; exact this:wr.heap.size≤W4.heap.size)
   have HSB5:=hide k5.size
   have HO5:=hide ((uh HO).pass (uh HKK) (by simp))
   have HS5:=hide ((uh HKK).heap (uh HS) (by simp))
   have HZ5:=hide ((uh HKK).heap (uh HZ) (by simp))
   have HK5:=hide ((uh HK).trans (uh HKK) (by simp))
   have HBB:=hide (fun b hb=>((uh HO).own.lt b hb).2:∀ b,bv.ownBlock = some b→b < wr.heap.size)
   have HWB:=hide ((uh HO).sz)
   clear k5 nb hl5 HS HO HK HZ HKK HN4 HK4 KA HFW HW4
   obtain ⟨D,hD⟩:∃ D,decB Y.pay = D:=⟨_,rfl⟩
   rw [hD] at HRB HNB5 HL5 ⊢
   clear hD
   have HBW:=hide (heap_alloc_new w5 (.cells #[.int .u64 (D.1:Int),.slice a5 n5 c5] 129))
   have KA:=hide ((Kept.refl [] w5).alloc (.cells #[.int .u64 (D.1:Int),.slice a5 n5 c5] 129))
   obtain ⟨W5,hW5⟩:∃ W,w5.alloc (.cells #[.int .u64 (D.1:Int),.slice a5 n5 c5] 129) = W:=⟨_,rfl⟩
   rw [hW5] at HBW KA
   have HW5:=hide hW5
   clear hW5
   have HS6:=hide ((uh KA).heap (uh HS5) (by simp))
   have HZ6:=hide ((uh KA).heap (uh HZ5) (by simp))
   have HG6:=hide ((uh KA).heap (uh HG5) (by simp))
   obtain ⟨s0,s1,s2,s3,s4,s5⟩:=scells (uh HS6)
   obtain ⟨b0,b1⟩:=bcells (uh HBW)
   obtain ⟨z0,z1,z2,z3,z4,z5⟩:=scells (uh HZ6)
   obtain ⟨f0,f1,f2,f3,f4,f5⟩:=sfroz (uh HZ6)
   have g0:W5.cell? ⟨w4.heap.size,0,none⟩ = some (.int .u64 (Y.pl:Int)):=by rw [cell_of_row _ _ _ _ _ _ (uh HG6)]; rfl
   rw [← uh HW5] at s0 s1 s2 s3 s4 s5 b0 b1 z0 z1 z2 z3 z4 z5 f0 f1 f2 f3 f4 f5 g0
   by_cases hrb:rbOk p (n:Int) i = true
   ·obtain ⟨m,hm,hm1,hm2⟩:=xb8x (uh H).byte hrb
    have hes:=(uh HRB).2.1 hrb
    have hnx:=(uh HRB).2.2 hrb
    have h4:Y.kind = 1∧Y.pl = i∧D.2.2 = 0∧D.1 = i:=by have h9:=(uh HRB).1; rw [hrb] at h9; exact of_decide_eq_true h9.symm
    obtain ⟨q1,q2,q3,q4⟩:=h4
    obtain ⟨f',rfl⟩:∃ f',f = f' + 1:=⟨f - 1,by have:=(uh HN).2.1; omega⟩
    have HE:=hide (xb9f (k:=f') hrb)
    rw [hm,Int.toNat_natCast,hes] at HE
    rw [hm] at hnx
    obtain ⟨k0,pl0,pay0,nx0,hY0⟩:∃ k pl pay nx,Y = ⟨pl,pay,nx,k⟩:=⟨Y.kind,Y.pl,Y.pay,Y.next,rfl⟩
    subst hY0
    simp only at q1 q2 hnx g0 HRB HG5 HG6
    subst q1
    subst q2
    subst hnx
    obtain ⟨e1,es,e2⟩:=D
    simp only at q3 q4 HE HNB5 HL5 HBW HW5 KA b0 b1 s0 s1 s2 s3 s4 s5 z0 z1 z2 z3 z4 z5 f0 f1 f2 f3 f4 f5 g0
    subst q3
    subst q4
    have HM:=hide (⟨hm1,hm2⟩:n + 18 < m∧m≤p.length)
    clear hrb hm hm1 hm2 hes HRB
    have HO4:=hide (((uh HO5).pass (uh KA) (by simp)).pass ((Kept.refl [] W5).alloc (.cells #[.int .u64 (e1:Int),.slice a5 n5 c5] 129)) (by simp))
    have HX4:=hide (((Kept.refl [] W5).alloc (.cells #[.int .u64 (e1:Int),.slice a5 n5 c5] 129)).heap (uh HS6) (by simp))
    have HY4:=hide (((Kept.refl [] W5).alloc (.cells #[.int .u64 (e1:Int),.slice a5 n5 c5] 129)).heap (uh HZ6) (by simp))
    have HQ4:=hide (((Kept.refl [] W5).alloc (.cells #[.int .u64 (e1:Int),.slice a5 n5 c5] 129)).heap (uh HBW) (by simp))
    have HK4:=hide (((uh HK5).trans (uh KA) (by simp)).alloc (.cells #[.int .u64 (e1:Int),.slice a5 n5 c5] 129))
    have HN4:=hide (((uh HNB5).kept (uh KA) (by simp)).kept ((Kept.refl [] W5).alloc (.cells #[.int .u64 (e1:Int),.slice a5 n5 c5] 129)) (by simp))
    have HH4:=hide (by rw [← uh HW5]; exact heap_alloc2_new _ _ _:(W5.alloc (.cells #[.int .u64 (e1:Int),.slice a5 n5 c5] 129)).heap[w5.heap.size + 1]? = some (.cells #[.int .u64 (e1:Int),.slice a5 n5 c5] 129 (0,0)))
    rw [← uh HW5] at HO4 HX4 HY4 HQ4 HK4 HN4 HH4
    have HNB4:=hide (fun b hb=>by have:=uh HBB b hb; have:=uh HSB; have:=uh HSB5; exact Nat.ne_of_lt (by omega):∀ b,bv.ownBlock = some b→b≠w5.heap.size)
    have HNS4:=hide (fun b hb=>by have:=((uh HO5).own.lt b hb).1; have:=uh HS2; omega:∀ b,bv.ownBlock = some b→b≠w2.heap.size + 1)
    have HNZ4:=hide (fun b hb=>by have:=((uh HO5).own.lt b hb).1; have:=uh HS2; have:=uh HLT; omega:∀ b,bv.ownBlock = some b→b≠w.heap.size)
    go_upto_region 13 with (at_builtin; refine xa4y rfl (.tmp 73) (.tmp 75) rfl rfl _ W3.heap.size bv ts e1 (.slice a5 n5 c5) (w5.heap.size + 1) (uh HO4).own (uh HH4) rfl (by have:=uh HN; have:=uh HLP; omega) (uh HO4).sz rfl rfl ?_; intro g cap w6 HO6 HG6 HA6; (have HX6:=hide (((Kept.refl (bv.ownBlock.toList) _).grown (uh HG6) (by intro k hk; left; simp [hk])).heap (uh HX4) (by intro hm; exact uh HNS4 _ (by simpa using hm) rfl))); (obtain ⟨x0,x1,x2,x3,x4,x5⟩:=scells (uh HX6)); (obtain ⟨q0,q1,q2,q3,q4,q5⟩:=sfroz (uh HX6)))
    have HK6:=hide ((Kept.refl (bv.ownBlock.toList) _).grown (uh HG6) (by intro k hk; left; simp [hk]))
    have HB6:=hide ((uh HK6).heap (uh HQ4) (by intro hm; exact uh HNB4 _ (by simpa using hm) rfl))
    have HZ6:=hide ((uh HK6).heap (uh HY4) (by intro hm; exact uh HNZ4 _ (by simpa using hm) rfl))
    have HP6:=hide ((uh HO4).push (uh HN4) (by have:=uh HWB; have:=uh HSB; omega) (fun b hb=>by have:=uh HBB b hb; have:=uh HSB; omega) (uh HO6) (uh HG6) (uh HA6))
    have HKW6:=hide ((uh HK4).grown (uh HG6) (fun k hk=>Or.inr (by have:=((uh HO5).own.lt k hk).1; have:=uh HS2; have:=uh HLT; omega)))
    have HSS:=hide (by have:=lt_of_block (uh HX6); have:=(uh HO5).sz; have:=uh HS2; have:=uh HWB; have:=uh HSB; omega:w2.heap.size + 1≠w5.heap.size)
    clear x0 x1 x2 x3 x4 x5 q0 q1 q2 q3 q4 q5 HO6 HG6 HA6 HO4 HX4 HY4 HQ4 HK4 HN4 HH4 HNB4 HNS4 HNZ4 HK6 s0 s1 s2 s3 s4 s5 b0 b1 z0 z1 z2 z3 z4 z5 f0 f1 f2 f3 f4 f5 g0 HW5 HBW KA HS6
    have HX7:=hide (xa7h (uh HX6) (.slice (some ⟨g,0,none⟩) (ts.length + 1) cap) (.int .i64 (m:Int)))
    have HK7:=hide (((Kept.refl [w2.heap.size + 1] w6).setCell (p:=⟨w2.heap.size + 1,4,none⟩) (Or.inl (by simp)) (.slice (some ⟨g,0,none⟩) (ts.length + 1) cap)).setCell (p:=⟨w2.heap.size + 1,5,none⟩) (Or.inl (by simp)) (.int .i64 (m:Int)))
    have HKW7:=hide (((uh HKW6).setCell (p:=⟨w2.heap.size + 1,4,none⟩) (Or.inr (by have:=uh HLT; simp only; omega)) (.slice (some ⟨g,0,none⟩) (ts.length + 1) cap)).setCell (p:=⟨w2.heap.size + 1,5,none⟩) (Or.inr (by have:=uh HLT; simp only; omega)) (.int .i64 (m:Int)))
    generalize (w6.setCell ⟨w2.heap.size + 1,4,none⟩ (.slice (some ⟨g,0,none⟩) (ts.length + 1) cap)).setCell ⟨w2.heap.size + 1,5,none⟩ (.int .i64 (m:Int)) = W7 at HX7 HK7 HKW7 ⊢
    have HB7:=hide ((uh HK7).heap (uh HB6) (by intro hm; exact uh HSS (by simpa using (List.mem_singleton.1 hm).symm)))
    have HZ7:=hide ((uh HK7).heap (uh HZ6) (by intro hm; have:=List.mem_singleton.1 hm; have:=uh HLT; omega))
    have HP7:=hide ((uh HP6).pass (uh HK7) (by have:=uh HS2; simp; omega))
    obtain ⟨g0,g1⟩:=bcells (uh HB7)
    go_wp2_with fail
    go_roundw
    case rel =>
     refine ⟨m,f',(e1 + es.length) % 18446744073709551616,.slice (some ⟨g,0,none⟩) (ts.length + 1) cap,ts++[(e1,.slice a5 n5 c5,es)],?_,hide ⟨by have:=(uh HM).2; omega,by have:=(uh HN).2.1; have:=(uh HM).1; omega,by have:=(uh HN).2.2; have:=(uh HM).1; rw [List.length_append]; simp; omega⟩,hide ?_,HX7,HP7,HKW7,HZ7⟩
     ·have h9:=uh HL5
      rw [h9,IntKind.wrap_u64]
      simp
     ·rw [uh HR,uh HE]
      simp
    case measure =>
     rw [(scells (uh HX7)).2.2.2.2.2,uh HC5]
     have:=uh HM
     simp [intOf]
     omega
   ·rw [Bool.not_eq_true] at hrb
    have HE:=hide (rdL_no (k:=f) hrb)
    have HBS:=hide (by
     have h9:=(uh HO5).own.2
     rcases h9 with ⟨rfl,_⟩ | ⟨g,cap,cur,rfl,_⟩
     ·exact ⟨_,_,_,rfl⟩
     ·exact ⟨_,_,_,rfl⟩:∃ a n c,bv = .slice a n c)
    obtain ⟨ab,nb,cb,rfl⟩:=uh HBS
    have h4:¬ (Y.kind = 1∧Y.pl = i∧D.2.2 = 0∧D.1 = i):=by have h9:=(uh HRB).1; rw [hrb] at h9; exact of_decide_eq_false h9.symm
    clear hrb HRB
    by_cases t1:Y.kind = 1
    ·have t1':((Y.kind:Int) != 1) = false:=by rw [t1]; rfl
     by_cases t2:D.2.2 = 0
     ·have t2':((D.2.2:Int) != 0) = false:=by rw [t2]; rfl
      by_cases t3:Y.pl = i
      ·have t3':((Y.pl:Int) != (i:Int)) = false:=by rw [t3]; simp
       have t4:D.1≠i:=fun h=>h4 ⟨t1,t3,t2,h⟩
       have t4':((D.1:Int) != (i:Int)) = true:=by rw [bne_iff_ne]; omega
       clear t1 t2 t3 t4 h4
       go_wp2
       rw [uh HW5]
       refine bodyPost_ret (v:=.tuple #[.agg #[.int .u64 (a:Int),.int .u64 (b:Int),.int .u64 (c:Int),.int .i64 (d:Int),.slice ab nb cb,.int .i64 (n:Int)],.int .i64 0]) ?_ rfl ⟨.slice ab nb cb,by rw [(uh HV).1,(uh HV).2.2,uh HR,uh HE,uh HX]; rfl,?_,xa0q ((uh HK5).trans (uh KA) (by simp)) w.heap.size (Or.inr (Nat.le_refl _)) _ _ _ _ _ _⟩
       ·exact xa0b rfl _ _ w.heap.size _ #[.int .u64 (a:Int),.int .u64 (b:Int),.int .u64 (c:Int),.int .i64 (d:Int),.slice ab nb cb,.int .i64 (n:Int)] (0,0) _ rfl (xa1w (uh HZ6) _ _ _ _ _ _) Tryz.underlying176 rfl Tryz.size_rseg _ rfl
       ·rw [(uh HV).2.1,uh HR,uh HE,List.append_nil]
        exact ⟨ts,rfl,(((uh HO5).pass (uh KA) (by simp)).pass (xa0q (L:=[w.heap.size]) (Kept.refl _ W5) w.heap.size (Or.inl (by simp)) _ _ _ _ _ _) (by have:=uh HLT; have:=uh HS2; simp; omega)).base (by have:=uh HLT; have:=uh HS2; omega)⟩
      ·have t3':((Y.pl:Int) != (i:Int)) = true:=by rw [bne_iff_ne]; omega
       clear t1 t2 t3 h4
       go_wp2
       rw [uh HW5]
       refine bodyPost_ret (v:=.tuple #[.agg #[.int .u64 (a:Int),.int .u64 (b:Int),.int .u64 (c:Int),.int .i64 (d:Int),.slice ab nb cb,.int .i64 (n:Int)],.int .i64 0]) ?_ rfl ⟨.slice ab nb cb,by rw [(uh HV).1,(uh HV).2.2,uh HR,uh HE,uh HX]; rfl,?_,xa0q ((uh HK5).trans (uh KA) (by simp)) w.heap.size (Or.inr (Nat.le_refl _)) _ _ _ _ _ _⟩
       ·exact xa0b rfl _ _ w.heap.size _ #[.int .u64 (a:Int),.int .u64 (b:Int),.int .u64 (c:Int),.int .i64 (d:Int),.slice ab nb cb,.int .i64 (n:Int)] (0,0) _ rfl (xa1w (uh HZ6) _ _ _ _ _ _) Tryz.underlying176 rfl Tryz.size_rseg _ rfl
       ·rw [(uh HV).2.1,uh HR,uh HE,List.append_nil]
        exact ⟨ts,rfl,(((uh HO5).pass (uh KA) (by simp)).pass (xa0q (L:=[w.heap.size]) (Kept.refl _ W5) w.heap.size (Or.inl (by simp)) _ _ _ _ _ _) (by have:=uh HLT; have:=uh HS2; simp; omega)).base (by have:=uh HLT; have:=uh HS2; omega)⟩
     ·have t2':((D.2.2:Int) != 0) = true:=by rw [bne_iff_ne]; omega
      clear t1 t2 h4
      go_wp2
      rw [uh HW5]
      refine bodyPost_ret (v:=.tuple #[.agg #[.int .u64 (a:Int),.int .u64 (b:Int),.int .u64 (c:Int),.int .i64 (d:Int),.slice ab nb cb,.int .i64 (n:Int)],.int .i64 0]) ?_ rfl ⟨.slice ab nb cb,by rw [(uh HV).1,(uh HV).2.2,uh HR,uh HE,uh HX]; rfl,?_,xa0q ((uh HK5).trans (uh KA) (by simp)) w.heap.size (Or.inr (Nat.le_refl _)) _ _ _ _ _ _⟩
      ·exact xa0b rfl _ _ w.heap.size _ #[.int .u64 (a:Int),.int .u64 (b:Int),.int .u64 (c:Int),.int .i64 (d:Int),.slice ab nb cb,.int .i64 (n:Int)] (0,0) _ rfl (xa1w (uh HZ6) _ _ _ _ _ _) Tryz.underlying176 rfl Tryz.size_rseg _ rfl
      ·rw [(uh HV).2.1,uh HR,uh HE,List.append_nil]
       exact ⟨ts,rfl,(((uh HO5).pass (uh KA) (by simp)).pass (xa0q (L:=[w.heap.size]) (Kept.refl _ W5) w.heap.size (Or.inl (by simp)) _ _ _ _ _ _) (by have:=uh HLT; have:=uh HS2; simp; omega)).base (by have:=uh HLT; have:=uh HS2; omega)⟩
    ·have t1':((Y.kind:Int) != 1) = true:=by rw [bne_iff_ne]; omega
     clear t1 h4
     go_wp2
     rw [uh HW5]
     refine bodyPost_ret (v:=.tuple #[.agg #[.int .u64 (a:Int),.int .u64 (b:Int),.int .u64 (c:Int),.int .i64 (d:Int),.slice ab nb cb,.int .i64 (n:Int)],.int .i64 0]) ?_ rfl ⟨.slice ab nb cb,by rw [(uh HV).1,(uh HV).2.2,uh HR,uh HE,uh HX]; rfl,?_,xa0q ((uh HK5).trans (uh KA) (by simp)) w.heap.size (Or.inr (Nat.le_refl _)) _ _ _ _ _ _⟩
     ·exact xa0b rfl _ _ w.heap.size _ #[.int .u64 (a:Int),.int .u64 (b:Int),.int .u64 (c:Int),.int .i64 (d:Int),.slice ab nb cb,.int .i64 (n:Int)] (0,0) _ rfl (xa1w (uh HZ6) _ _ _ _ _ _) Tryz.underlying176 rfl Tryz.size_rseg _ rfl
     ·rw [(uh HV).2.1,uh HR,uh HE,List.append_nil]
      exact ⟨ts,rfl,(((uh HO5).pass (uh KA) (by simp)).pass (xa0q (L:=[w.heap.size]) (Kept.refl _ W5) w.heap.size (Or.inl (by simp)) _ _ _ _ _ _) (by have:=uh HLT; have:=uh HS2; simp; omega)).base (by have:=uh HLT; have:=uh HS2; omega)⟩
 ·have hN0:N.kind≠1∨payH N.pl N.pay = false:=by
   by_cases hk:N.kind = 1
   ·right
    by_cases hp:payH N.pl N.pay = true
    ·exact absurd ⟨hk,hp⟩ hok
    ·simpa using hp
   ·exact Or.inl hk
  have HV:=hide (uh HNO (uh HNN hN0))
  clear hok HNO HNN HNY HYE HV2 HXE
  by_cases hk:N.kind = 1
  ·have hkb:((N.kind:Int) != 1) = false:=by rw [hk]; rfl
   have hp:payH N.pl N.pay = false:=by rcases hN0 with h | h; exact absurd hk h; exact h
   rw [hp]
   clear hN0 hk hp
   go_wp2
   rw [uh HW2]
   refine bodyPost_ret (v:=.tuple #[.agg #[.int .u64 0,.int .u64 0,.int .u64 0,.int .i64 0,.slice none 0 0,.int .i64 0],.int .i64 3]) ?_ rfl ⟨.slice none 0 0,by rw [(uh HV).1,(uh HV).2.1,(uh HV).2.2.2]; rfl,by rw [(uh HV).2.2.1]; exact ⟨[],rfl,OwnB.empty (xa0q (uh HKW) w.heap.size (Or.inr (Nat.le_refl _)) _ _ _ _ _ _).size⟩,xa0q (uh HKW) w.heap.size (Or.inr (Nat.le_refl _)) _ _ _ _ _ _⟩
   exact xa0b rfl _ _ w.heap.size _ #[.int .u64 0,.int .u64 0,.int .u64 0,.int .i64 0,.slice none 0 0,.int .i64 0] (0,0) _ rfl (xa1w (uh HZW) _ _ _ _ _ _) Tryz.underlying176 rfl Tryz.size_rseg _ rfl
  ·have hkb:((N.kind:Int) != 1) = true:=by rw [bne_iff_ne]; omega
   generalize payH N.pl N.pay = PH at hN0 ⊢
   clear hN0 hk
   go_wp2
   rw [uh HW2]
   refine bodyPost_ret (v:=.tuple #[.agg #[.int .u64 0,.int .u64 0,.int .u64 0,.int .i64 0,.slice none 0 0,.int .i64 0],.int .i64 3]) ?_ rfl ⟨.slice none 0 0,by rw [(uh HV).1,(uh HV).2.1,(uh HV).2.2.2]; rfl,by rw [(uh HV).2.2.1]; exact ⟨[],rfl,OwnB.empty (xa0q (uh HKW) w.heap.size (Or.inr (Nat.le_refl _)) _ _ _ _ _ _).size⟩,xa0q (uh HKW) w.heap.size (Or.inr (Nat.le_refl _)) _ _ _ _ _ _⟩
   exact xa0b rfl _ _ w.heap.size _ #[.int .u64 0,.int .u64 0,.int .u64 0,.int .i64 0,.slice none 0 0,.int .i64 0] (0,0) _ rfl (xa1w (uh HZW) _ _ _ _ _ _) Tryz.underlying176 rfl Tryz.size_rseg _ rfl
end
section
open Go.ChangeShapes Go.WideShapes Go.ChangeAt Go.RowKit Go.Deep
theorem own:ownKnob Tryz.prog.godebug = none:=by kernel_rfl
theorem laidOut:laidOutB Tryz.prog = true:=by kernel_rfl
theorem xa7t {x:Int} (h:(Lit.int .u8 x).wf = true):0≤x∧x < 256:=by
 simp [Lit.wf,IntKind.min,IntKind.max,IntKind.signed,IntKind.bits] at h
 exact ⟨by omega,by omega⟩
theorem xa4r {x:Int} (h:(Lit.int .i64 x).wf = true):-9223372036854775808≤x∧x≤9223372036854775807:=by
 simp [Lit.wf,IntKind.min,IntKind.max,IntKind.signed,IntKind.bits] at h
 exact ⟨by omega,by omega⟩
theorem xa8y {H:Type} (d:DataW H):1≤Rows.uptoBulk d:=by
 cases d with
 | lit l=>cases l <;> simp [Rows.uptoBulk]
 | nil=>simp [Rows.uptoBulk]
 | ptr d=>simp [Rows.uptoBulk]
 | slice elems spare=>simp [Rows.uptoBulk]
 | agg parts=>simp [Rows.uptoBulk]
 | iface t d=>simp [Rows.uptoBulk]
 | map entries=>simp [Rows.uptoBulk]
 | held h=>simp [Rows.uptoBulk]
theorem xc1h {H:Type} (l:List (DataW H)):l.length≤Rows.uptoBulkAll l:=by
 induction l with
 | nil=>simp [Rows.uptoBulkAll]
 | cons x r ih=>have:=xa8y x; simp only [Rows.uptoBulkAll,List.length_cons]; omega
section
variable {H:Type} {enc:TypeId × Value→H} {W:World}
theorem xb3t {fuel:Nat} {cs:List Value} {x:DataW H × List MemPlace} (h:DataW.trod enc Tryz.prog W 0 (fun _=>true) true fuel 72 cs = some x) :
  ∃ v bs,cs = [v]∧(bs.length≤140737488355328→Rd W v bs)∧((bs = []∧x.1 = .nil)∨∃ elems spare,x.1 = .slice elems spare∧elems.length = bs.length):=by
 rcases open_ints Tryz.underlying72 Tryz.underlying5 (by kernel_rfl) h with ⟨rfl,rfl⟩ | ⟨a,len,cap,zs,rfl,_,hl,hm,hz,rfl,hcell,hwz⟩
 ·exact ⟨_,[],rfl,fun _=>Rd.nil W,.inl ⟨rfl,rfl⟩⟩
 ·have h2:(lits (H:=H) .u8 (zs.take len)).length = len:=by simp only [lits,List.length_map,List.length_take]; simp at hz; omega
  have hbl:((zs.take len).map Int.toNat).length = len:=by simp at hz; simp; omega
  refine ⟨_,(zs.take len).map Int.toNat,rfl,fun hB=>⟨_,_,_,rfl,hbl,hl,⟨by unfold maxLen at hm; omega,by omega⟩,by simp,?_,?_⟩,.inr ⟨_,_,rfl,by rw [h2,hbl]⟩⟩
  ·intro y hy
   obtain ⟨z,hz1,rfl⟩:=List.mem_map.1 hy
   have:=xa7t (hwz z (List.mem_of_mem_take hz1)); omega
  ·intro hp
   simp at hz
   have hc0:=hcell 0 (by omega)
   obtain ⟨b,off,spot⟩:=a
   have hspot:spot = none:=by simpa [Addr.add] using World.cell?_spot hc0
   subst hspot
   refine ⟨b,off,rfl,fun i hi=>?_⟩
   have hc:=hcell i (by omega)
   have hzi:i < zs.length:=by omega
   rw [Addr.add_mid] at hc
   rw [hc]
   have hw:=xa7t (hwz (zs[i]) (List.getElem_mem hzi))
   simp only [List.getD_eq_getElem?_getD,List.getElem?_eq_getElem hzi,Option.getD_some,List.getElem?_map,List.getElem?_take,hi,if_true,Option.map_some]
   simp [u8]; omega
theorem xb2v {d:DataW H} {bs:List Nat} (hx:(bs = []∧d = .nil)∨∃ elems spare,d = .slice elems spare∧elems.length = bs.length):bs.length + 1≤Rows.uptoBulk d:=by
 rcases hx with ⟨rfl,rfl⟩ | ⟨elems,spare,rfl,he⟩
 ·simp [Rows.uptoBulk]
 ·have:=xc1h elems
  simp only [Rows.uptoBulk]; omega
end
structure IFile where
 nm:ByteArray
 v:Value
 bs:List Nat
 sy:Int
 nd:Bool
def ifC (f:IFile):List Value:=[.string f.nm,f.v,.int .i64 f.sy,.bool f.nd]
def faC (x:Int × Int):List Value:=[.int .i64 x.1,.int .i64 x.2]
def Rng (x:Int):Prop:=-9223372036854775808≤x∧x≤9223372036854775807
def OkIf (W:World) (f:IFile):Prop:=Rd W f.v f.bs∧f.nm.size≤1048576∧Rng f.sy
structure OpD where
 k:Int
 s:ByteArray
 pv:Value
 ps:List Nat
 fv:Value
 fl:List (Int × Int)
 cr:Int
 n:Int
 kv:Value
 ks:List KeepD
section
variable {H:Type} {enc:TypeId × Value→H} {W:World}
theorem k_part {d:DataW H} {l:List (DataW H)} (h:d∈l):Rows.uptoBulk d≤Rows.uptoBulkAll l:=by
 induction l with
 | nil=>simp at h
 | cons a l ih =>
  simp only [Rows.uptoBulkAll]
  rcases List.mem_cons.1 h with rfl | h
  ·omega
  ·have:=ih h; omega
theorem k_sum {α:Type} (D:Nat→DataW H) (f:Nat→α) (μ:α→Nat) (l:List Nat) (h:∀ i∈l,μ (f i)≤Rows.uptoBulk (D i)):((l.map f).map μ).sum≤Rows.uptoBulkAll (l.map D):=by
 induction l with
 | nil=>simp
 | cons a l ih =>
  have h1:=h a (by simp)
  have h2:=ih (fun i hi=>h i (by simp [hi]))
  simp only [List.map_cons,Rows.uptoBulkAll,List.sum_cons]
  omega
theorem xb0r (cs:List Value) (a n:Nat):cs.drop a = (cs.drop a).take n++cs.drop (a + n):=by
 rw [← List.drop_drop,List.take_append_drop]
theorem xb7o {T E:TypeId} {s:Nat} (hu:Tryz.prog.underlying T = some (.slice E)) (hC:Tryz.prog.cellsOf E = s) {α:Type} [Inhabited α] (mk:α→List Value) (hne:∀ a,(mk a).length = s) (hs0:0 < s) (Q:α→Prop) (μ:α→Nat)
  (hel:∀ (n:Nat) (cs:List Value) (y:DataW H × List MemPlace),DataW.trod enc Tryz.prog W 0 (fun _=>true) true n E cs = some y→Rows.uptoBulk y.1≤1048576→∃ a,cs = mk a∧Q a∧μ a≤Rows.uptoBulk y.1)
  {fuel:Nat} {cs:List Value} {x:DataW H × List MemPlace} (h:DataW.trod enc Tryz.prog W 0 (fun _=>true) true fuel T cs = some x) (hB:Rows.uptoBulk x.1≤1048576) :
  ∃ (v:Value) (l:List α),cs = [v]∧RdC s W v (l.map mk)∧(∀ a∈l,Q a)∧(l.map μ).sum + 1≤Rows.uptoBulk x.1:=by
 rcases open_slice hu h with ⟨rfl,rfl⟩ | ⟨a,len,cap,m,n,D,Pl,rfl,_,hl,hm,hmm,rfl,hx⟩
 ·exact ⟨_,[],rfl,RdC.nil s W,by simp,by simp [Rows.uptoBulk]⟩
 ·rw [hC] at hx
  simp only [if_true] at hmm
  simp only [Rows.uptoBulk] at hB ⊢
  obtain ⟨f,hf⟩:=choose_lt (α:=α) (n:=len) (p:=fun i o=>((∀ j v,(mk o)[j]? = some v→W.cell? ((a.add (i * s)).add j) = some v)∧Q o)∧μ o≤Rows.uptoBulk (D i)) (by
   intro i hi
   obtain ⟨cs',h1,h2⟩:=hx i (by omega)
   have hDi:Rows.uptoBulk (D i)≤Rows.uptoBulkAll ((List.range len).map D):=k_part (List.mem_map.2 ⟨i,List.mem_range.2 hi,rfl⟩)
   obtain ⟨o,rfl,ho,hbb⟩:=hel _ _ _ h2 (by simp only; omega)
   obtain ⟨_,hlen,hc⟩:=World.cells?_some h1
   refine ⟨o,⟨fun j v hv=>?_,ho⟩,hbb⟩
   have hj:=(List.getElem?_eq_some_iff.1 hv).1
   have:=hc j (by rw [hne] at hj; exact hj)
   rw [this,← hv,List.getElem?_eq_getElem hj])
  refine ⟨_,(List.range len).map f,rfl,⟨some a,len,cap,rfl,by simp,hl,by unfold maxLen at hm; omega,?_⟩,?_,?_⟩
  ·intro hp
   obtain ⟨b,off,spot⟩:=a
   have h0:=(hf 0 hp).1.1
   have hc0:=h0 0 _ (List.getElem?_eq_getElem (by rw [hne]; exact hs0))
   have hspot:spot = none:=by simpa [Addr.add] using World.cell?_spot hc0
   subst hspot
   refine ⟨b,off,rfl,fun i hi j v hv=>?_⟩
   have hi':i < len:=by simpa using hi
   have e9:(((List.range len).map f).map mk)[i] = mk (f i):=by simp
   rw [e9] at hv
   have:=(hf i hi').1.1 j v hv
   rw [Addr.add_mid,Addr.add_mid] at this
   exact this
  ·intro o ho
   obtain ⟨i,hi,rfl⟩:=List.mem_map.1 ho
   exact (hf i (List.mem_range.1 hi)).1.2
  ·have:=k_sum D f μ (List.range len) (fun i hi=>(hf i (List.mem_range.1 hi)).2)
   omega
instance:Inhabited KeepD:=⟨⟨⟨#[]⟩,0,false⟩⟩
instance:Inhabited IFile:=⟨⟨⟨#[]⟩,undef,[],0,false⟩⟩
instance:Inhabited OpD:=⟨⟨0,⟨#[]⟩,undef,[],undef,[],0,0,undef,[]⟩⟩
theorem xb7x {fuel:Nat} {cs:List Value} {x:DataW H × List MemPlace} (h:DataW.trod enc Tryz.prog W 0 (fun _=>true) true fuel 74 cs = some x) (hB:Rows.uptoBulk x.1≤1048576) :
  ∃ f:IFile,cs = ifC f∧OkIf W f∧f.bs.length + 1≤Rows.uptoBulk x.1:=by
 obtain ⟨xs,n,_,rfl,hl,hlen,hf⟩:=DataW.trod_struct Tryz.underlying74 h
 rw [show Tryz.prog.cellsOf 74 = 4 from by kernel_rfl] at hl
 match xs,hlen with
 | [y0,y1,y2,y3],_ =>
  have f0:DataW.trod enc Tryz.prog W 0 (fun _=>true) true n 9 ((cs.drop 0).take 1) = some y0:=by have this:DataW.trod enc Tryz.prog W 0 (fun _=>true) true n 9 ((cs.drop 0).take (Tryz.prog.cellsOf 9)) = some y0:=hf 0 _ rfl; rw [show Tryz.prog.cellsOf 9 = 1 from by kernel_rfl] at this; exact this
  have f1:DataW.trod enc Tryz.prog W 0 (fun _=>true) true n 72 ((cs.drop 1).take 1) = some y1:=by have this:DataW.trod enc Tryz.prog W 0 (fun _=>true) true n 72 ((cs.drop 1).take (Tryz.prog.cellsOf 72)) = some y1:=hf 1 _ rfl; rw [show Tryz.prog.cellsOf 72 = 1 from by kernel_rfl] at this; exact this
  have f2:DataW.trod enc Tryz.prog W 0 (fun _=>true) true n 3 ((cs.drop 2).take 1) = some y2:=by have this:DataW.trod enc Tryz.prog W 0 (fun _=>true) true n 3 ((cs.drop 2).take (Tryz.prog.cellsOf 3)) = some y2:=hf 2 _ rfl; rw [show Tryz.prog.cellsOf 3 = 1 from by kernel_rfl] at this; exact this
  have f3:DataW.trod enc Tryz.prog W 0 (fun _=>true) true n 4 ((cs.drop 3).take 1) = some y3:=by have this:DataW.trod enc Tryz.prog W 0 (fun _=>true) true n 4 ((cs.drop 3).take (Tryz.prog.cellsOf 4)) = some y3:=hf 3 _ rfl; rw [show Tryz.prog.cellsOf 4 = 1 from by kernel_rfl] at this; exact this
  simp only [List.map_cons,List.map_nil,Rows.uptoBulk,Rows.uptoBulkAll] at hB ⊢
  obtain ⟨z0,e0,q0,w0⟩:=DataW.trod_string Tryz.underlying9 f0
  have b0:z0.size + 1≤Rows.uptoBulk y0.1:=by rw [q0]; show _≤z0.data.toList.length + 1; rw [Array.length_toList]; exact Nat.le_refl _
  obtain ⟨v1,z1,e1,hr1,hb1⟩:=xb3t f1
  have b1:=xb2v hb1
  have r1:=hr1 (by omega)
  obtain ⟨z2,e2,q2,w2⟩:=DataW.trod_int Tryz.underlying3 f2
  have g2:=xa4r w2
  have b2:=xa8y y2.1
  obtain ⟨z3,e3,q3⟩:=DataW.trod_bool Tryz.underlying4 f3
  have b3:=xa8y y3.1
  have hd:cs.drop 4 = []:=List.drop_eq_nil_of_le (by omega)
  have this:=xb0r cs 0 1
  rw [e0,xb0r cs 1 1,e1,xb0r cs 2 1,e2,xb0r cs 3 1,e3,hd,List.drop_zero] at this
  exact ⟨⟨z0,v1,z1,z2,z3⟩,by rw [this]; rfl,⟨r1,by show z0.size≤_; omega,g2⟩,by show z1.length + 1≤_; omega⟩
theorem xb5n {fuel:Nat} {cs:List Value} {x:DataW H × List MemPlace} (h:DataW.trod enc Tryz.prog W 0 (fun _=>true) true fuel 42 cs = some x) (hB:Rows.uptoBulk x.1≤1048576) :
  ∃ (v:Value) (l:List IFile),cs = [v]∧RdC 4 W v (l.map ifC)∧(∀ a∈l,OkIf W a)∧(l.map fun f=>f.bs.length + 1).sum + 1≤Rows.uptoBulk x.1 :=
 xb7o Tryz.underlying42 (by kernel_rfl:Tryz.prog.cellsOf 74 = 4) ifC (by intro a; rfl) (by decide) (OkIf W) (fun f=>f.bs.length + 1) (fun n cs y h hB=>xb7x h hB) h hB
end
end
section
open Go.RowKit Go.BigFrame Go.Maps Go.Sort
theorem xc0q (s:ByteArray):∀ n i r,s.size - i = n→ByteArray.toList.loop s i r = r.reverse++s.data.toList.drop i:=by
 intro n
 induction n with
 | zero =>
  intro i r h
  rw [ByteArray.toList.loop]
  have h1:s.size = s.data.toList.length:=(Array.length_toList).symm
  rw [if_neg (by omega),List.drop_eq_nil_of_le (by omega),List.append_nil]
 | succ n ih =>
  intro i r h
  rw [ByteArray.toList.loop]
  have h1:s.size = s.data.toList.length:=(Array.length_toList).symm
  have h2:i < s.data.toList.length:=by omega
  rw [if_pos (by omega),ih (i + 1) _ (by omega),List.drop_eq_getElem_cons h2]
  have h3:s.get! i = s.data.toList[i]:=by
   have h4:i < s.data.size:=by simpa using h2
   rw [Array.getElem_toList]
   exact getElem!_pos s.data i h4
  simp [h3]
theorem xa1p (s:ByteArray):s.toList = s.data.toList:=by
 unfold ByteArray.toList
 rw [xc0q s _ 0 [] rfl]
 simp
theorem xa5q (a b:ByteArray):Op.bytesLess a.toList b.toList = decide (a.data.toList < b.data.toList):=by
 rw [bytesLess_eq,xa1p,xa1p]
def okF (l:List IFile) (i:Nat) (h:i < l.length):Prop:=isNm l[i].nm = true∧0≤l[i].sy∧l[i].sy≤l[i].bs.length∧∀ hp:0 < i,l[i - 1].nm.data.toList < l[i].nm.data.toList
def FormedL (l:List IFile):Prop:=∀ i (h:i < l.length),okF l i h
def okB (l:List IFile) (i:Nat):Bool:=isNm (l.getD i default).nm && decide (0≤(l.getD i default).sy) && decide ((l.getD i default).sy≤(l.getD i default).bs.length) && (i == 0 || decide ((l.getD (i - 1) default).nm.data.toList < (l.getD i default).nm.data.toList))
def formedB (l:List IFile):Bool:=(List.range l.length).all (okB l)
theorem xb9l {l:List IFile} {i:Nat} (h:i < l.length):okB l i = true↔okF l i h:=by
 unfold okB okF
 rw [List.getD_eq_getElem?_getD,List.getElem?_eq_getElem h,Option.getD_some]
 by_cases hp:0 < i
 ·rw [List.getD_eq_getElem?_getD,List.getElem?_eq_getElem (show i - 1 < l.length by omega),Option.getD_some]
  have h0:(i == 0) = false:=by simp; omega
  simp only [h0,Bool.false_or,Bool.and_eq_true,decide_eq_true_eq]
  constructor
  ·rintro ⟨⟨⟨a,b⟩,c⟩,d⟩; exact ⟨a,b,c,fun _=>d⟩
  ·rintro ⟨a,b,c,d⟩; exact ⟨⟨⟨a,b⟩,c⟩,d hp⟩
 ·have h0:(i == 0) = true:=by simp; omega
  simp only [h0,Bool.true_or,Bool.and_eq_true,decide_eq_true_eq,and_true]
  constructor
  ·rintro ⟨⟨a,b⟩,c⟩; exact ⟨a,b,c,fun h9=>absurd h9 hp⟩
  ·rintro ⟨a,b,c,d⟩; exact ⟨⟨a,b⟩,c⟩
theorem xa2e (l:List IFile):formedB l = true↔FormedL l:=by
 unfold formedB
 rw [List.all_eq_true]
 constructor
 ·intro h i hi
  exact (xb9l hi).1 (h i (List.mem_range.2 hi))
 ·intro h i hi
  exact (xb9l (List.mem_range.1 hi)).2 (h i (List.mem_range.1 hi))
theorem xa2o {l:List IFile} (h:¬ FormedL l):formedB l = false:=by
 cases h1:formedB l
 ·rfl
 ·exact absurd ((xa2e l).1 h1) h
set_option maxHeartbeats 2000000 in
theorem xa7r (v:Value) (l:List IFile) (w:World) (h:RdC 4 w v (l.map ifC)) (ho:∀ f∈l,OkIf w f) (hl:l.length≤1048576) :
  Calls Tryz.prog 41 #[v] w fun e w'=>e = .returned (.bool (formedB l))∧Kept [] w w':=by
 obtain ⟨ao,len,cap,rfl,h1,h2,h3,h4⟩:=h
 rw [List.length_map] at h1
 subst h1
 have H4:=hide h4
 have HO:=hide ho
 clear h4 ho
 go_enter Tryz.func41,Tryz.ntmps41
 go_wp2_with fail
 go_loopw [7] (fun t7 wr=>∃ i:Nat,i≤l.length∧t7 = .int .i64 i∧Hid (∀ j (hj:j < l.length),j < i→okF l j hj)∧Hid (Kept [] w wr)) (fun t _=>l.length - (intOf t).toNat)
 case atStart=>exact ⟨0,Nat.zero_le _,rfl,hide (fun j hj h=>by omega),hide (Kept.refl _ _)⟩
 case round =>
  obtain ⟨i,hi,rfl,HA,HK⟩:=hrel
  by_cases hlt:i < l.length
  ·have hlt':(i:Int) < l.length:=by omega
   obtain ⟨b,off,rfl,hcc⟩:=uh H4 (by omega)
   have hr:=hcc i (by rw [List.length_map]; exact hlt)
   rw [List.getElem_map] at hr
   have p0:=(uh HK).cell (hr 0 _ rfl) (by simp)
   have p1:=(uh HK).cell (hr 1 _ rfl) (by simp)
   have p2:=(uh HK).cell (hr 2 _ rfl) (by simp)
   have p3:=(uh HK).cell (hr 3 _ rfl) (by simp)
   rw [Nat.add_zero] at p0
   have hof:=uh HO l[i] (List.getElem_mem hlt)
   have HPR:=hide (fun (hp:0 < i)=>by
    have h9:=hcc (i - 1) (by rw [List.length_map]; omega)
    rw [List.getElem_map] at h9
    exact h9 0 _ rfl:∀ hp:0 < i,w.cell? ⟨b,off + (i - 1) * 4 + 0,none⟩ = some (.string l[i - 1].nm))
   have HOK:Hid (isNm l[i].nm = true→0≤l[i].sy→l[i].sy≤l[i].bs.length→(∀ hp:0 < i,l[i - 1].nm.data.toList < l[i].nm.data.toList)→okF l i hlt):=hide (fun a1 a2 a3 a4=>⟨a1,a2,a3,a4⟩)
   have HNO:=hide (fun (hf:FormedL l)=>hf i hlt)
   unfold okF at HNO
   clear hr hcc
   obtain ⟨va,vl,vc,hv⟩:=(show ∃ va vl vc,l[i].v = .slice va vl vc by obtain ⟨a,b,c,h9,_⟩:=hof.1; exact ⟨a,b,c,h9⟩)
   have hvl:vl = l[i].bs.length:=by
    obtain ⟨a,b,c,h9,h10,_⟩:=hof.1
    rw [hv] at h9
    injection h9 with _ h9 _
    rw [h9,h10]
   have hnl:=hof.2.1
   rw [hv] at p1
   generalize hX:l[i] = X at *
   subst hvl
   clear hof hX
   go_upto_region 4 with fail
   have HK1:=hide ((uh HK).alloc (.cells #[.string X.nm,.slice va X.bs.length vc,.int .i64 X.sy,.bool X.nd] 74 (0,0)))
   have HG1:=hide (heap_alloc_new wr (.cells #[.string X.nm,.slice va X.bs.length vc,.int .i64 X.sy,.bool X.nd] 74 (0,0)))
   obtain ⟨W1,hW1⟩:∃ W,wr.alloc (.cells #[.string X.nm,.slice va X.bs.length vc,.int .i64 X.sy,.bool X.nd] 74 (0,0)) = W:=⟨_,rfl⟩
   rw [hW1] at HK1 HG1 ⊢
   clear hW1 p0 p1 p2 p3
   have c0:=cell_of_row _ _ 0 _ _ _ (uh HG1)
   have c1:=cell_of_row _ _ 1 _ _ _ (uh HG1)
   have c2:=cell_of_row _ _ 2 _ _ _ (uh HG1)
   simp at c0 c1 c2
   have HH2:=hide h2
   clear h2
   go_wp2_with fail
   refine Calls.mono (xa7e X.nm _ (by omega)) ?_
   rintro e w2 ⟨rfl,rfl⟩
   cases hn:isNm X.nm
   ·have HN:=hide hn
    clear hn
    go_wp2_with fail
    go_ret
    exact ⟨by rw [xa2o (fun hf=>by have h9:=(uh HNO hf).1; rw [uh HN] at h9; cases h9)]; rfl,uh HK1⟩
   ·have HN:=hide hn
    clear hn
    by_cases s0:X.sy < 0
    ·have HS:=hide s0
     go_wp2_with fail
     go_ret
     exact ⟨by rw [xa2o (fun hf=>by have h9:=(uh HNO hf).2.1; have:=uh HS; omega)]; rfl,uh HK1⟩
    ·have HS:=hide s0
     by_cases s1:(X.bs.length:Int) < X.sy
     ·have HS1:=hide s1
      go_wp2_with fail
      go_ret
      exact ⟨by rw [xa2o (fun hf=>by have h9:=(uh HNO hf).2.2.1; have:=uh HS1; omega)]; rfl,uh HK1⟩
     ·have HS1:=hide s1
      go_upto_region 6 with fail
      by_cases hp:0 < i
      ·have hip:(0:Int) < (i:Int):=by omega
       have q0:=(uh HK1).cell (uh HPR hp) (by simp)
       rw [Nat.add_zero] at q0
       have hsub:(i:Int) - 1 = ((i - 1:Nat):Int):=by omega
       have HLTP:=hide (fun hf=>(uh HNO hf).2.2.2 hp)
       have HOK2:=hide (fun (a4:l[i - 1].nm.data.toList < X.nm.data.toList)=>uh HOK (uh HN) (by have:=uh HS; omega) (by have:=uh HS1; omega) (fun _=>a4))
       generalize l[i - 1] = Y at q0 HLTP HOK2
       obtain ⟨i1,hi1⟩:∃ i1,i - 1 = i1:=⟨_,rfl⟩
       rw [hi1] at q0 hsub
       have hi1c:(i1:Int) < l.length:=by omega
       refine wp_region_quiet_lit (by kernel_rfl) (by kernel_rfl) ?_
       repeat (go_big_quiet_step (fail))
       refine wpQuiet_nil ?_
       rintro _ ⟨n5,rfl⟩
       rw [xa5q]
       by_cases hls:Y.nm.data.toList < X.nm.data.toList
       ·rw [decide_eq_true hls]
        have HLS:=hide hls
        clear hls q0 hsub hip
        go_wp2_with fail
        refine ⟨⟨i + 1,by omega,by simp,hide (fun j hj h9=>?_),hide ((uh HK1).drewN n5)⟩,?_⟩
        ·by_cases hji:j < i
         ·exact uh HA j hj hji
         ·have:j = i:=by omega
          subst this
          exact uh HOK2 (uh HLS)
        ·simp [intOf]; omega
       ·rw [decide_eq_false hls]
        have HLS:=hide hls
        clear hls q0 hsub hip
        go_wp2_with fail
        go_ret
        exact ⟨by rw [xa2o (fun hf=>uh HLS (uh HLTP hf))]; rfl,(uh HK1).drewN n5⟩
      ·have hip:¬ (0:Int) < (i:Int):=by omega
       refine wp_region_quiet_lit (by kernel_rfl) (by kernel_rfl) ?_
       repeat (go_big_quiet_step (fail))
       refine wpQuiet_nil ?_
       rintro _ ⟨n5,rfl⟩
       have HP:=hide hp
       go_wp2_with fail
       refine ⟨⟨i + 1,by omega,by simp,hide (fun j hj h9=>?_),hide ((uh HK1).drewN n5)⟩,?_⟩
       ·by_cases hji:j < i
        ·exact uh HA j hj hji
        ·have:j = i:=by omega
         subst this
         exact uh HOK (uh HN) (by have:=uh HS; omega) (by have:=uh HS1; omega) (fun h=>absurd h (uh HP))
       ·simp [intOf]; omega
  ·have hlt':¬ (i:Int) < l.length:=by omega
   have hie:i = l.length:=by omega
   subst hie
   go_wp2_with fail
   go_ret
   exact ⟨by rw [(xa2e l).2 (fun j hj=>uh HA j hj hj)]; rfl,uh HK⟩
def toDF (f:IFile):DF:=⟨f.nm,f.bs,f.sy.toNat,f.nd⟩
theorem xb0f {l:List IFile} (h:FormedL l):∀ (j i:Nat) (hj:j < l.length) (hi:i < j),l[i].nm.data.toList < l[j].nm.data.toList:=by
 intro j
 induction j with
 | zero=>intro i hj hi; omega
 | succ j ih =>
  intro i hj hi
  have h1:=(h (j + 1) hj).2.2.2 (by omega)
  by_cases hij:i = j
  ·subst hij
   exact h1
  ·exact List.lt_trans (ih i (by omega) (by omega)) h1
theorem xa5z {l:List IFile} (h:FormedL l):Dist (l.map toDF):=by
 unfold Dist
 rw [List.pairwise_map,List.pairwise_iff_getElem]
 intro i j hi hj hij e
 have h1:=xb0f h j i hj hij
 have e2:l[i].nm = l[j].nm:=e
 rw [e2] at h1
 exact List.lt_irrefl _ h1
set_option maxHeartbeats 1000000 in
theorem xb9w (sec:Int) (v:Value) (w:World) (h:sec < 1∨4096 < sec) :
  Calls Tryz.prog 13 #[.int .i64 sec,v] w fun e w'=>e = .returned (.tuple #[.pointer none,.int .i64 1])∧w' = w:=by
 by_cases h1:sec < 1
 ·clear h
  go_enter Tryz.func13,Tryz.ntmps13
  go_wp2_with fail
  go_ret2
  exact ⟨rfl,rfl⟩
 ·have h2:4096 < sec:=by omega
  clear h
  go_enter Tryz.func13,Tryz.ntmps13
  go_wp2_with fail
  go_ret2
  exact ⟨rfl,rfl⟩
set_option maxHeartbeats 1000000 in
theorem xb6p (sec:Int) (v:Value) (l:List IFile) (w:World) (h1:1≤sec) (h2:sec≤4096) (h:RdC 4 w v (l.map ifC)) (ho:∀ f∈l,OkIf w f) (hl:l.length≤1048576) (hf:formedB l = false) :
  Calls Tryz.prog 13 #[.int .i64 sec,v] w fun e w'=>e = .returned (.tuple #[.pointer none,.int .i64 3])∧Kept [] w w':=by
 have HC:=hide (xa7r v l w h ho hl)
 rw [hf] at HC
 have e1:¬ sec < 1:=by omega
 have e2:¬ 4096 < sec:=by omega
 clear h ho hf h1 h2
 go_enter Tryz.func13,Tryz.ntmps13
 go_wp2_with fail
 refine Calls.mono (uh HC) ?_
 rintro e w1 ⟨rfl,k1⟩
 have HK:=hide k1
 clear k1
 go_wp2_with fail
 go_ret2
 exact ⟨rfl,uh HK⟩
set_option maxHeartbeats 2000000 in
theorem xc2k (sec:Nat) (v:Value) (l:List IFile) (w:World) (h1:1≤sec) (h2:sec≤4096) (h:RdC 4 w v (l.map ifC)) (ho:∀ f∈l,OkIf w f) (hl:l.length≤1048576) (hf:formedB l = true) :
  Calls Tryz.prog 13 #[.int .i64 sec,v] w fun e w'=>∃ d m u gs,e = .returned (.tuple #[.pointer (some ⟨d,0,none⟩),.int .i64 0])∧DkAt w' d sec m l.length u (.map none) 0 0 false (fun _=>none) gs∧gs.map absF = l.map toDF∧Kept [] w w'∧∀ x∈dkB d m u (.map none) gs,w.heap.size≤x:=by
 have HC:=hide (xa7r v l w h ho hl)
 rw [hf] at HC
 have HF:=hide ((xa2e l).1 hf)
 have e1:¬ (sec:Int) < 1:=by omega
 have e2:¬ 4096 < (sec:Int):=by omega
 obtain ⟨ao,len,cap,rfl,g1,g2,g3,g4⟩:=h
 rw [List.length_map] at g1
 subst g1
 have H4:=hide g4
 have HO:=hide ho
 have HS:=hide (And.intro h1 h2)
 clear g4 ho hf h1 h2
 go_enter Tryz.func13,Tryz.ntmps13
 go_wp2_with fail
 refine Calls.mono (uh HC) ?_
 rintro e w1 ⟨rfl,k1⟩
 have HK1:=hide k1
 have hmm:=run_makeMap (P:=Tryz.prog) 97 w1
 clear k1
 go_wp2_with fail
 have k2:=(((Kept.refl [] w1).alloc (.map #[] 0)).alloc (.cells #[.int .i64 sec,.map (some w1.heap.size),.slice none 0 0,.map none,.int .i64 0,.int .i64 0,.bool false] 101 (0,0)))
 have hrow:=heap_alloc_new (w1.alloc (.map #[] 0)) (.cells #[.int .i64 sec,.map (some w1.heap.size),.slice none 0 0,.map none,.int .i64 0,.int .i64 0,.bool false] 101 (0,0))
 rw [show (w1.alloc (.map #[] 0)).heap.size = w1.heap.size + 1 by simp] at hrow
 have HD0:=hide (⟨hrow,⟨0,.map [],(World.ownsMap_made w1 Tryz.prog 9 ptrElem).alloc _,Nat.le_refl _,MapIs.empty⟩,Qr.nil _ _,.inl ⟨rfl,fun _=>rfl⟩,by simp,List.Pairwise.nil,by simp [mblk]⟩:DkAt ((w1.alloc (.map #[] 0)).alloc (.cells #[.int .i64 sec,.map (some w1.heap.size),.slice none 0 0,.map none,.int .i64 0,.int .i64 0,.bool false] 101 (0,0))) (w1.heap.size + 1) sec w1.heap.size 0 (.slice none 0 0) (.map none) 0 0 false (fun _=>none) [])
 have HK2:=hide ((uh HK1).trans k2 (by simp))
 have HS1:=hide (uh HK1).size
 clear hrow k2 hmm
 go_loopw [24] (fun t24 wr=>∃ (i:Nat) (u:Value) (gs:List DFile),i≤l.length∧t24 = .int .i64 i∧Hid (DkAt wr (w1.heap.size + 1) sec w1.heap.size i u (.map none) 0 0 false (fun _=>none) gs)∧Hid (gs.map absF = (l.take i).map toDF)∧Hid (Kept [] w wr)∧Hid (∀ x∈dkB (w1.heap.size + 1) w1.heap.size u (.map none) gs,w.heap.size≤x)) (fun t _=>l.length - (intOf t).toNat)
 case atStart=>exact ⟨0,_,[],Nat.zero_le _,rfl,HD0,hide rfl,HK2,hide (by intro x hx; have:=uh HS1; simp [dkB,blk,mblk] at hx; omega)⟩
 case round =>
  obtain ⟨i,u,gs,hi,rfl,HD,HGS,HK,HB⟩:=hrel
  by_cases hlt:i < l.length
  ·have hlt':(i:Int) < l.length:=by omega
   obtain ⟨b,off,rfl,hcc⟩:=uh H4 (by omega)
   have hr:=hcc i (by rw [List.length_map]; exact hlt)
   rw [List.getElem_map] at hr
   have p0:=(uh HK).cell (hr 0 _ rfl) (by simp)
   have p1:=(uh HK).cell (hr 1 _ rfl) (by simp)
   have p2:=(uh HK).cell (hr 2 _ rfl) (by simp)
   have p3:=(uh HK).cell (hr 3 _ rfl) (by simp)
   rw [Nat.add_zero] at p0
   have hof:=uh HO l[i] (List.getElem_mem hlt)
   have hok:=uh HF i hlt
   have HT:=hide (List.take_succ_eq_append_getElem hlt)
   have HLK:=hide (by
    refine xb0h ?_
    rw [uh HGS]
    unfold findA
    rw [List.find?_eq_none]
    intro x hx
    obtain ⟨a,ha,rfl⟩:=List.mem_map.1 hx
    obtain ⟨j,hj,rfl⟩:=List.getElem_of_mem ha
    have hj2:j < i:=by rw [List.length_take] at hj; omega
    rw [List.getElem_take]
    have h9:=xb0f (uh HF) i j hlt hj2
    intro e
    have e2:l[j].nm.data.toList = l[i].nm.data.toList:=by simpa [toDF] using e
    rw [e2] at h9
    exact List.lt_irrefl _ h9:look gs l[i].nm.data.toList = none)
   have HGL:=hide (by have:=congrArg List.length (uh HGS); rw [List.length_map,List.length_map,List.length_take] at this; omega:gs.length = i)
   clear hr hcc
   obtain ⟨va,vl,vc,hv⟩:=(show ∃ va vl vc,l[i].v = .slice va vl vc by obtain ⟨a,b,c,h9,_⟩:=hof.1; exact ⟨a,b,c,h9⟩)
   rw [hv] at p1
   have HRD:=hide (by rw [← hv]; exact hof.1.kept (uh HK) (by simp):Rd wr (.slice va vl vc) l[i].bs)
   have HNS:=hide hof.2.1
   have HNM:=hide hok.1
   have hsy:l[i].sy = ((l[i].sy.toNat:Nat):Int):=by have:=hok.2.1; omega
   have HSL:=hide (by have:=hok.2.2.1; omega:l[i].sy.toNat≤l[i].bs.length)
   have HLN:=hide (show l[i].bs.length≤140737488355328 by obtain ⟨a,b,c,h9,h10,h11,h12,_⟩:=hof.1; omega)
   clear hof hok hv
   have HTD:Hid (toDF l[i] = ⟨l[i].nm,l[i].bs,l[i].sy.toNat,l[i].nd⟩):=hide rfl
   rw [hsy] at p2
   generalize l[i].sy.toNat = SY at p2 HSL HTD
   generalize l[i] = X at p0 p1 p2 p3 HT HLK HRD HNS HNM HSL HLN HTD
   clear hsy
   go_upto_region 9 with fail
   have HG1:=hide (heap_alloc_new wr (.cells #[.string X.nm,.slice va vl vc,.int .i64 (SY:Int),.bool X.nd] 74 (0,0)))
   have HD1:=hide ((uh HD).kept ((Kept.refl [] wr).alloc (.cells #[.string X.nm,.slice va vl vc,.int .i64 (SY:Int),.bool X.nd] 74 (0,0))) (by simp))
   have HK1':=hide ((uh HK).alloc (.cells #[.string X.nm,.slice va vl vc,.int .i64 (SY:Int),.bool X.nd] 74 (0,0)))
   have HR1:=hide ((uh HRD).kept ((Kept.refl [] wr).alloc (.cells #[.string X.nm,.slice va vl vc,.int .i64 (SY:Int),.bool X.nd] 74 (0,0))) (by simp))
   obtain ⟨W1,hW1⟩:∃ W,wr.alloc (.cells #[.string X.nm,.slice va vl vc,.int .i64 (SY:Int),.bool X.nd] 74 (0,0)) = W:=⟨_,rfl⟩
   rw [hW1] at HG1 HD1 HK1' HR1 ⊢
   clear hW1 p0 p1 p2 p3 HD HRD
   have HGX:=hide (by
    intro hx
    simp only [List.mem_cons] at hx
    rcases hx with hx | hx | hx
    ·exact xa0i (uh HG1) (uh HD1).row (by decide) hx
    ·obtain ⟨n9,D9,ho9,_⟩:=(uh HD1).map
     exact map_ne ho9 (uh HG1) hx
    ·obtain ⟨cs,hc⟩:=xa5b (uh HD1).un hx
     exact xa0i (uh HG1) hc (by decide) rfl:wr.heap.size∉(w1.heap.size + 1) :: w1.heap.size :: blk u)
   refine xc3k (by kernel_rfl) (by kernel_rfl) (by kernel_rfl) (by kernel_rfl) (by kernel_rfl) (by kernel_rfl) (by kernel_rfl) (by kernel_rfl) (by kernel_rfl) (by kernel_rfl) (by kernel_rfl) (by kernel_rfl) (by kernel_rfl) (by kernel_rfl) (by kernel_rfl) (by kernel_rfl) (by kernel_rfl) (by kernel_rfl) (by kernel_rfl) (by kernel_rfl) (by kernel_rfl) (by kernel_rfl) (by kernel_rfl) (by kernel_rfl) (by kernel_rfl) (by kernel_rfl) rfl rfl rfl
    (.pointer (some ⟨w1.heap.size + 1,0,none⟩)) (.pointer (some ⟨wr.heap.size,0,none⟩)) (.string X.nm) (.pointer (some ⟨wr.heap.size,1,none⟩)) (.slice va vl vc) (.pointer (some ⟨wr.heap.size,2,none⟩)) (.int .i64 (SY:Int)) (.pointer (some ⟨wr.heap.size,3,none⟩)) (.bool X.nd) _ _ _ _ _ _ _ _ _
    (fun w'=>w'.heap[wr.heap.size]? = some (.cells #[.string X.nm,.slice va vl vc,.int .i64 (SY:Int),.bool X.nd] 74 (0,0)))
    (fun w'=>Kept [] W1 w')
    (fun u5 w'=>(∃ g,u5 = .slice (some ⟨g,0,none⟩) X.bs.length X.bs.length∧W1.heap.size≤g∧w'.heap[g]? = some (.cells (X.bs.map Go.Proofs.YtejchncdimcdbaaGreatDoor.u8).toArray 5 (0,0)))∧Kept [] W1 w')
    (fun u5 u11 w'=>(∃ g,u5 = .slice (some ⟨g,0,none⟩) X.bs.length X.bs.length∧W1.heap.size≤g∧w'.heap[g]? = some (.cells (X.bs.map Go.Proofs.YtejchncdimcdbaaGreatDoor.u8).toArray 5 (0,0)))∧(∃ G,u11 = .pointer (some ⟨G,0,none⟩)∧W1.heap.size≤G∧w'.heap[G]? = some (.cells #[.string X.nm,u5,.int .i64 (SY:Int),.bool X.nd] 106 (0,0)))∧Kept [] W1 w')
    (fun u5 u11 u12 w'=>∃ (u':Value) (F:DFile),u12 = .tuple #[]∧absF F = toDF X∧DkAt w' (w1.heap.size + 1) sec w1.heap.size (i + 1) u' (.map none) 0 0 false (fun _=>none) (gs++[F])∧Kept ((w1.heap.size + 1) :: w1.heap.size :: blk u) W1 w'∧(∀ x∈blk u',x∈blk u∨W1.heap.size≤x)∧(∀ x∈F.g :: blk F.v,W1.heap.size≤x))
    (fun u5=>.agg #[.string X.nm,u5,.int .i64 (SY:Int),.bool X.nd])
    (by simp only [Act.put,sa1,sa2,sa3]; rfl) (by exact Or.inl ⟨by rfl,fun W' hW'=>by go_simp⟩)
    (by simp only [Act.put,sa1,sa2,sa3]; rfl) (by exact Or.inl ⟨by rfl,fun W' hW'=>by go_simp⟩)
    (by simp only [Act.put,sa1,sa2,sa3]; rfl) (by exact Or.inl ⟨by rfl,fun W' hW'=>by have h9:=cell_of_row _ _ 0 _ _ _ hW'; simp at h9; go_simp⟩)
    (by simp only [Act.put,sa1,sa2,sa3]; rfl) (by exact Or.inl ⟨by rfl,fun W' hW'=>by go_simp⟩)
    (by simp only [Act.put,sa1,sa2,sa3]; rfl) (by exact Or.inl ⟨by rfl,fun W' hW'=>by have h9:=cell_of_row _ _ 1 _ _ _ hW'; simp at h9; go_simp⟩)
    (by simp only [Act.put,sa1,sa2,sa3]; rfl) (by exact Or.inl ⟨by rfl,fun W' hW'=>by go_simp⟩)
    (by simp only [Act.put,sa1,sa2,sa3]; rfl) (by exact Or.inl ⟨by rfl,fun W' hW'=>by have h9:=cell_of_row _ _ 2 _ _ _ hW'; simp at h9; go_simp⟩)
    (by simp only [Act.put,sa1,sa2,sa3]; rfl) (by exact Or.inl ⟨by rfl,fun W' hW'=>by go_simp⟩)
    (by simp only [Act.put,sa1,sa2,sa3]; rfl) (by exact Or.inl ⟨by rfl,fun W' hW'=>by have h9:=cell_of_row _ _ 3 _ _ _ hW'; simp at h9; go_simp⟩)
    (Kept.refl [] W1).drew
    ⟨fun w' h=>h.heap (uh HG1) (by simp),fun u5 w' h=>h.2.heap (uh HG1) (by simp),fun u5 u11 w' h=>h.2.2.heap (uh HG1) (by simp),fun u5 u11 u12 w' h=>by obtain ⟨u',F,_,_,_,k9,_⟩:=h; exact k9.heap (uh HG1) (uh HGX)⟩
    (by
     intro w' k K hK
     refine xa0e rfl Tryz.call43 [.slice va vl vc] rfl (xa3v _ X.bs w' ((uh HR1).kept k (by simp))) ?_
     rintro e w2 ⟨rfl,k2,h2⟩
     exact ⟨_,rfl,hK _ _ ⟨⟨_,rfl,k.size,h2⟩,k.trans k2 (by simp)⟩⟩)
    (by
     rintro u5 w' ⟨⟨g,rfl,hg,hh⟩,k⟩ K hK
     simp only [Act.put,sa1,sa2,sa3] at hK ⊢
     unfold Oper.wp execOp
     go_simp
     exact hK _ _ ⟨⟨_,rfl,hg,((Kept.refl [] w').alloc _).heap hh (by simp)⟩,⟨_,rfl,k.size,heap_alloc_new _ _⟩,k.alloc _⟩)
    (by
     rintro u5 u11 w' ⟨⟨g,rfl,hg,hh⟩,⟨G,rfl,hG,hGG⟩,k⟩ K hK
     refine xa0e rfl Tryz.call42 [.pointer (some ⟨w1.heap.size + 1,0,none⟩),.pointer (some ⟨G,0,none⟩)] rfl (xb9t (w1.heap.size + 1) sec w1.heap.size i ⟨G,X.nm,.slice (some ⟨g,0,none⟩) X.bs.length X.bs.length,X.bs,SY,X.nd⟩ w' u (.map none) 0 0 false (fun _=>none) gs ((uh HD1).kept k (by simp)) ⟨hGG,xa3l hh (uh HLN) (Nat.zero_le _),(uh HR1).byte,uh HSL⟩ (by omega) (by have:=uh HGL; omega) (by have:=uh HNS; show X.nm.size≤_; omega) (uh HLK) ?_) ?_
     ·intro a ha
      have h8:=(uh HD1).lt a.g (dkB_g ha)
      refine ⟨by show a.g≠G; omega,?_⟩
      intro x hx hy
      simp only [blk,List.mem_singleton] at hy
      have h7:=(uh HD1).lt x (dkB_v ha hx)
      omega
     ·rintro e w2 ⟨u',rfl,hd2,hk2,hu2⟩
      refine ⟨_,rfl,hK _ _ ⟨u',_,rfl,by rw [uh HTD]; rfl,hd2,(k.mono (by simp)).trans hk2 (fun x hx=>.inl hx),?_,?_⟩⟩
      ·intro x hx
       rcases hu2 x hx with h9 | h9
       ·exact .inl h9
       ·exact .inr (Nat.le_trans k.size h9)
      ·intro x hx
       simp only [blk,List.mem_cons,List.not_mem_nil,or_false] at hx
       rcases hx with rfl | rfl
       ·exact hG
       ·exact hg)
    (by rintro u5 w' ⟨⟨g,rfl,hg,hh⟩,k⟩; exact Or.inl ⟨by rfl,fun W' hW'=>by go_simp⟩)
    ?_
   rintro u5 u11 u12 w5 ⟨u',F,rfl,hF,hd5,hk5,hu5,hF5⟩
   simp only [Act.put,sa1,sa2,sa3]
   have hsz:=(uh HK1').size
   have HD5:=hide hd5
   have HGS5:=hide (by rw [List.map_append,uh HGS,uh HT,List.map_append]; simp [hF]:(gs++[F]).map absF = (l.take (i + 1)).map toDF)
   have HK5:=hide ((uh HK1').trans hk5 (by intro x hx; right; exact uh HB x (by simp only [List.mem_cons] at hx; rcases hx with h | h | h <;> simp [dkB,h])))
   have HB5:=hide (by
    intro x hx
    simp only [dkB,mblk,List.mem_cons,List.mem_append,List.mem_flatMap,List.not_mem_nil,or_false,List.mem_singleton] at hx
    rcases hx with hx | hx | hx | ⟨a,ha,hx⟩
    ·exact uh HB x (by simp [dkB,hx])
    ·exact uh HB x (by simp [dkB,hx])
    ·rcases hu5 x hx with h9 | h9
     ·exact uh HB x (by simp [dkB,h9])
     ·omega
    ·rcases ha with ha | rfl
     ·rcases hx with rfl | hx
      ·exact uh HB _ (dkB_g ha)
      ·exact uh HB x (dkB_v ha hx)
     ·have:=hF5 x (by simpa using hx)
      omega:∀ x∈dkB (w1.heap.size + 1) w1.heap.size u' (.map none) (gs++[F]),w.heap.size≤x)
   clear hF hd5 hk5 hu5 hF5 hsz
   go_wp2_with fail
   refine ⟨⟨i + 1,u',gs++[F],by omega,by simp,HD5,HGS5,HK5,HB5⟩,?_⟩
   simp [intOf]; omega
  ·have hlt':¬ (i:Int) < l.length:=by omega
   have hie:i = l.length:=by omega
   subst hie
   rw [List.take_length] at HGS
   go_wp2_with fail
   go_ret2
   exact ⟨_,rfl,_,u,gs,uh HD,uh HGS,uh HK,uh HB⟩
end
section
open Go.RowKit Go.BigFrame Go.Maps

end
section
open Go.RowKit Go.BigFrame Go.Maps Go.Sort
set_option maxHeartbeats 2000000 in
theorem xb6q (d sec m N:Nat) (w:World) (u fv:Value) (cr op:Int) (off:Bool) (ft:Int→Option Int) (fs:List DFile) (h:DkAt w d sec m N u fv cr op off ft fs) (hd:Dist (fs.map absF)) (hN:N≤1000000000) (hfs:fs.length≤1000000000) (hfb:∀ f∈fs,f.bs.length≤140737488350000) (hfn:∀ f∈fs,f.nm.size≤40) :
  Calls Tryz.prog 30 #[.pointer (some ⟨d,0,none⟩)] w fun e w'=>∃ v ts,e = .returned v∧OwnFl w.heap.size w' v ts∧ts.map Prod.fst = srtA (fs.map absF)∧Kept [] w w':=by
 have HD:=hide h
 have HDI:=hide hd
 have HFB:=hide hfb
 have HFN0:=hide hfn
 have HSO:=hide (xa7k d sec m N w u fv cr op off ft fs h hd hN)
 have HLN:=hide (by rw [xa8t,List.length_map]:(srtA (fs.map absF)).length = fs.length)
 have HNM:=hide (xa8r hd)
 have HMM:=hide (fun x (hx:x∈srtA (fs.map absF))=>xb4e.1 hx)
 generalize srtA (fs.map absF) = SA at HLN HNM HMM ⊢
 have HNL:=hide (by rw [← uh HNM,List.length_map]:(srtN (fs.map absF)).length = SA.length)
 generalize srtN (fs.map absF) = SS at HSO HNM HNL
 clear h hd hfb hfn
 go_enter Tryz.func30,Tryz.ntmps30
 go_wp2_with fail
 refine Calls.mono (xa4p d w sec m u fv cr op off (uh HD).row) ?_
 rintro e w1 ⟨rfl,rfl⟩
 go_wp2_with fail
 refine Calls.mono (uh HSO) ?_
 rintro e w2 ⟨nv,rfl,ho,hk⟩
 rw [uh HNL] at ho
 have HO:=hide ho
 have HK2:=hide hk
 obtain ⟨na,nl,nc,rfl,hn1,hn2,hn3,hn4⟩:RdS w2 nv SS:=xa3s (by rw [uh HNL]; exact ho)
 rw [uh HNL] at hn1
 subst hn1
 have HN4:=hide hn4
 have HLB:=hide (by rw [uh HLN]; exact hfs:SA.length≤1000000000)
 clear ho hk hn4
 go_wp2_with fail
 go_loopw [3,12] (fun v t12 wr=>∃ (i:Nat) (ts:List (DF × Value)),i≤SA.length∧t12 = .int .i64 i∧Hid (OwnFl w1.heap.size wr v ts)∧Hid (ts.map Prod.fst = SA.take i)∧Hid (Kept [] w1 wr)∧Hid (wr.ownsRow w1.heap.size 9 1 (.slice na SA.length nc) SA.length (SS.map encStr))) (fun _ t _=>SA.length - (intOf t).toNat)
 case atStart=>exact ⟨0,[],Nat.zero_le _,rfl,hide (OwnFl.nil _ _),hide rfl,HK2,HO⟩
 case round =>
  obtain ⟨i,ts,hi,rfl,HOW,HTS,HK,HNO⟩:=hrel
  obtain ⟨va,vl,vc,hv⟩:∃ va vl vc,u3 = .slice va vl vc:=by
   obtain ⟨a,l,c,h9,_⟩:=(uh HOW).rd.1
   exact ⟨a,l,c,h9⟩
  subst hv
  have HTL:=hide (by have:=congrArg List.length (uh HTS); rw [List.length_map,List.length_take] at this; omega:ts.length = i)
  have HLB2:=hide (uh HLB)
  by_cases hlt:i < SA.length
  ·have hlt':(i:Int) < SA.length:=by omega
   obtain ⟨ao',len',cap',e9,g1,g2,g3,g4⟩:=xa3s (by rw [uh HNL]; exact uh HNO:wr.ownsRow w1.heap.size 9 1 (.slice na SA.length nc) SS.length (SS.map encStr))
   injection e9 with e1 e2 e3
   subst e1 e2 e3
   obtain ⟨nb,no,rfl,hcc⟩:=g4 (by omega)
   have hsi:i < SS.length:=by rw [uh HNL]; exact hlt
   have c0:=hcc i hsi
   have hX:SS[i] = SA[i].nm.data.toList:=by
    have h9:=congrArg (fun l=>l[i]?) (uh HNM)
    simp only [List.getElem?_map,List.getElem?_eq_getElem hlt,List.getElem?_eq_getElem hsi,Option.map_some,Option.some.injEq] at h9
    exact h9.symm
   rw [hX] at c0
   have HT:=hide (List.take_succ_eq_append_getElem hlt)
   have hXm:=uh HMM SA[i] (List.getElem_mem hlt)
   clear hcc hX hsi g1 g4
   generalize SA[i] = X at c0 HT hXm
   obtain ⟨f,hfm,rfl⟩:=List.mem_map.1 hXm
   rw [show encStr (absF f).nm.data.toList = Value.string f.nm from rfl] at c0
   have hlook:look fs f.nm.data.toList = some f.g:=by
    obtain ⟨f',hf',hl',ha',_⟩:=xa4u (xa8v (uh HDI) hXm)
    have h8:f' = f:=xb9d (uh HDI) hf' hfm (congrArg DF.nm ha')
    rw [← h8]
    rw [h8] at hl' ⊢
    exact hl'
   obtain ⟨n9,D9,ho9,hn9,hD9⟩:=(uh HD).map
   have hkey:=WideMaps.keyOf_string_mk Tryz.underlying9 (s:=f.nm) (by have:=uh HFN0 f hfm; unfold maxLen; omega)
   have hlk:=xb7u (xa0r ho9 ((uh HK).block m ho9.lt (by simp))) hD9 f.nm hkey hlook
   have d1:=cell_of_row _ _ 1 _ _ _ ((uh HK).heap (uh HD).row (by simp))
   have hfile:=((uh HD).files f hfm).kept (uh HK) (by simp) (by simp)
   obtain ⟨fa,fc,hfv⟩:=xa1c hfile.2.1
   have hrow:=hfile.1
   rw [hfv] at hrow
   have f1:=cell_of_row _ _ 1 _ _ _ hrow
   have f2:=cell_of_row _ _ 2 _ _ _ hrow
   have f3:=cell_of_row _ _ 3 _ _ _ hrow
   simp at d1 f1 f2 f3
   have HRD:=hide (by rw [← hfv]; exact xa5n hfile.2.1 hfile.2.2.1 (by have:=uh HFB f hfm; omega):Rd wr (.slice fa f.bs.length fc) f.bs)
   have HBY:=hide hfile.2.2.1
   have HBL:=hide (uh HFB f hfm)
   have HFN:=hide (by
    intro hx
    have h8:=lt_of_block ((uh HD).files f hfm).1
    simp only [Option.mem_toList] at hx
    have:=((uh HOW).own.lt _ hx).1
    omega:f.g∉(Value.slice va vl vc).ownBlock.toList)
   have HBS:=hide (uh HK).size
   clear hfile hrow hkey ho9 hn9 hD9 hlook hXm hfv hfm
   go_upto_region 8 with fail
   clear hlk d1 c0
   refine xc2i (by kernel_rfl) (by kernel_rfl) (by kernel_rfl) (by kernel_rfl) (by kernel_rfl) (by kernel_rfl) (by kernel_rfl) (by kernel_rfl) (by kernel_rfl) (by kernel_rfl) (by kernel_rfl) (by kernel_rfl) (by kernel_rfl) (by kernel_rfl) (by kernel_rfl) (by kernel_rfl) (by kernel_rfl) (by kernel_rfl) (by kernel_rfl) (by kernel_rfl) (by kernel_rfl) (by kernel_rfl) (by kernel_rfl) (by kernel_rfl) (by kernel_rfl) (by kernel_rfl) (by kernel_rfl) (by kernel_rfl) (by kernel_rfl) (by kernel_rfl) (by kernel_rfl) (by kernel_rfl) (by kernel_rfl) (by kernel_rfl) (by kernel_rfl) (by kernel_rfl) (by kernel_rfl) (by kernel_rfl) rfl rfl rfl
    (.slice va vl vc) (.string f.nm) (.pointer (some ⟨f.g,0,none⟩)) (.pointer (some ⟨f.g,0,none⟩)) (.pointer (some ⟨f.g,1,none⟩)) (.slice fa f.bs.length fc) (.pointer (some ⟨f.g,0,none⟩)) (.pointer (some ⟨f.g,0,none⟩)) (.pointer (some ⟨f.g,2,none⟩)) (.int .i64 (f.sy:Int)) (.pointer (some ⟨f.g,0,none⟩)) (.pointer (some ⟨f.g,0,none⟩)) (.pointer (some ⟨f.g,3,none⟩)) (.bool f.nd) _ _ _ _ _ _ _ _ _ _ _ _ _ _
    (fun w'=>Kept (Value.slice va vl vc).ownBlock.toList wr w')
    (fun w'=>Kept [] wr w')
    (fun u6 w'=>(∃ g,u6 = .slice (some ⟨g,0,none⟩) f.bs.length f.bs.length∧wr.heap.size≤g∧w'.heap[g]? = some (.cells (f.bs.map u8).toArray 5 (0,0)))∧Kept [] wr w')
    (fun u6 u16 w'=>(∃ g,u6 = .slice (some ⟨g,0,none⟩) f.bs.length f.bs.length∧wr.heap.size≤g∧w'.heap[g]? = some (.cells (f.bs.map u8).toArray 5 (0,0)))∧(∃ H,u16 = .slice (some ⟨H,0,none⟩) 1 1∧w'.heap[H]? = some (.cells #[.string f.nm,u6,.int .i64 (f.sy:Int),.bool f.nd] 74 (0,0)))∧Kept [] wr w')
    (fun u6 u16 u17 w'=>(∃ g cap,u17 = .slice (some ⟨g,0,none⟩) (ts.length + 1) cap)∧OwnFl w1.heap.size w' u17 (ts++[(absF f,u6)])∧Kept (Value.slice va vl vc).ownBlock.toList wr w')
    (fun u6=>.agg #[.string f.nm,u6,.int .i64 (f.sy:Int),.bool f.nd])
    (fun _ _ u17=>u17)
    (by simp only [Act.put,sa1,sa2,sa3]; rfl) (by exact Or.inl ⟨by rfl,fun W' hW'=>by go_simp⟩)
    (by simp only [Act.put,sa1,sa2,sa3]; rfl) (by exact Or.inl ⟨by rfl,fun W' hW'=>by go_simp⟩)
    (by simp only [Act.put,sa1,sa2,sa3]; rfl) (by exact Or.inl ⟨by rfl,fun W' hW'=>by go_simp⟩)
    (by simp only [Act.put,sa1,sa2,sa3]; rfl) (by exact Or.inl ⟨by rfl,fun W' hW'=>by go_simp⟩)
    (by simp only [Act.put,sa1,sa2,sa3]; rfl) (by exact Or.inl ⟨by rfl,fun W' hW'=>by go_simp⟩)
    (by simp only [Act.put,sa1,sa2,sa3]; rfl) (by exact Or.inl ⟨by rfl,fun W' hW'=>by have h9:=hW'.cell f1 (uh HFN); go_simp⟩)
    (by simp only [Act.put,sa1,sa2,sa3]; rfl) (by exact Or.inl ⟨by rfl,fun W' hW'=>by go_simp⟩)
    (by simp only [Act.put,sa1,sa2,sa3]; rfl) (by exact Or.inl ⟨by rfl,fun W' hW'=>by go_simp⟩)
    (by simp only [Act.put,sa1,sa2,sa3]; rfl) (by exact Or.inl ⟨by rfl,fun W' hW'=>by go_simp⟩)
    (by simp only [Act.put,sa1,sa2,sa3]; rfl) (by exact Or.inl ⟨by rfl,fun W' hW'=>by have h9:=hW'.cell f2 (uh HFN); go_simp⟩)
    (by simp only [Act.put,sa1,sa2,sa3]; rfl) (by exact Or.inl ⟨by rfl,fun W' hW'=>by go_simp⟩)
    (by simp only [Act.put,sa1,sa2,sa3]; rfl) (by exact Or.inl ⟨by rfl,fun W' hW'=>by go_simp⟩)
    (by simp only [Act.put,sa1,sa2,sa3]; rfl) (by exact Or.inl ⟨by rfl,fun W' hW'=>by go_simp⟩)
    (by simp only [Act.put,sa1,sa2,sa3]; rfl) (by exact Or.inl ⟨by rfl,fun W' hW'=>by have h9:=hW'.cell f3 (uh HFN); go_simp⟩)
    (Kept.refl [] wr).drew
    ⟨fun w' h=>h.mono (by simp),fun u6 w' h=>h.2.mono (by simp),fun u6 u16 w' h=>h.2.2.mono (by simp),fun u6 u16 u17 w' h=>h.2.2⟩
    (by
     intro w' k K hK
     refine xa0e rfl Tryz.call43 [.slice fa f.bs.length fc] rfl (xa3v _ f.bs w' ((uh HRD).kept k (by simp))) ?_
     rintro e w2 ⟨rfl,k2,h2⟩
     exact ⟨_,rfl,hK _ _ ⟨⟨_,rfl,k.size,h2⟩,k.trans k2 (by simp)⟩⟩)
    (by
     rintro u6 w' ⟨⟨g,rfl,hg,hh⟩,k⟩ K hK
     simp only [Act.put,sa1,sa2,sa3] at hK ⊢
     unfold Oper.wp execOp
     go_simp
     exact hK _ _ ⟨⟨_,rfl,hg,((Kept.refl [] w').alloc _).heap hh (by simp)⟩,⟨_,rfl,heap_alloc_new _ _⟩,k.alloc _⟩)
    (by
     rintro u6 u16 w' ⟨⟨g,rfl,hg,hh⟩,⟨H,rfl,hH⟩,k⟩ K hK
     have hO:=(uh HOW).keptF k (by simp)
     obtain ⟨g',cap',w1',hrun,h3,h4,h5⟩:=pushFl w' w1.heap.size (.slice va vl vc) ts (absF f,.slice (some ⟨g,0,none⟩) f.bs.length f.bs.length) H hO hH ⟨xa3l hh (by have:=uh HBL; show f.bs.length≤_; omega) (by have:=uh HBS; omega),uh HBY,by have:=uh HBL; show f.bs.length≤_; omega⟩ (by
      intro a ha x hx hy
      simp only [blk,List.mem_singleton] at hy
      subst hy
      have:=((uh HOW).ge x (by simp only [flB,List.mem_append,List.mem_flatMap]; exact .inr ⟨a,ha,hx⟩)).2
      omega) (by have:=uh HTL; have:=uh HLB2; omega) (Nat.le_trans (uh HBS) k.size)
     exact xa6c rfl rfl rfl rfl hrun (hK _ _ ⟨⟨_,_,rfl⟩,h3,(k.mono (by simp)).grown h4 (by intro x hx; left; simp [hx])⟩))
    (by rintro u6 w' ⟨⟨g,rfl,hg,hh⟩,k⟩; exact Or.inl ⟨by rfl,fun W' hW'=>by go_simp⟩)
    (by rintro u6 u16 u17 w' ⟨⟨g,cap,rfl⟩,h1,k⟩; exact Or.inl ⟨by rfl,fun W' hW'=>by go_simp⟩)
    ?_
   rintro u6 u16 u17 w5 ⟨⟨g5,cap5,rfl⟩,h5,k5⟩
   simp only [Act.put,sa1,sa2,sa3]
   have HOW5:=hide h5
   have HK5:=hide ((uh HK).trans k5 (by intro x hx; right; simp only [Option.mem_toList] at hx; exact ((uh HOW).own.lt x hx).1))
   have HNO5:=hide (k5.owns (uh HNO) (by
    intro x hx hm
    simp only [Option.mem_toList] at hm
    obtain ⟨cs1,hc1⟩:=xa0f (uh HNO) (xa1a hx)
    obtain ⟨cs2,hc2⟩:=xa0f (uh HOW).own (xa1a hm)
    exact xa0i hc1 hc2 (by decide) rfl))
   clear h5 k5 f1 f2 f3
   go_wp2_with fail
   refine ⟨⟨i + 1,_,by omega,by have:=uh HLB2; go_num,HOW5,hide ?_,HK5,HNO5⟩,?_⟩
   ·rw [uh HT,List.map_append,uh HTS]
    rfl
   ·have:=uh HLB2
    simp [intOf]; omega
  ·have hlt':¬ (i:Int) < SA.length:=by omega
   have hie:i = SA.length:=by omega
   subst hie
   rw [List.take_length] at HTS
   go_wp2_with fail
   go_ret
   exact ⟨_,rfl,ts,uh HOW,uh HTS,uh HK⟩
theorem xc2f (d nb bb:Nat) (B:List Nat) (σ:DSt) (w:World) (h:DK w d B nb bb σ) (hn:nb≤1000000000) (hb:bb≤140737488350000) :
  Calls Tryz.prog 30 #[.pointer (some ⟨d,0,none⟩)] w fun e w'=>∃ v ts,e = .returned v∧OwnFl w.heap.size w' v ts∧ts.map Prod.fst = srtA σ.A∧Kept [] w w':=by
 obtain ⟨sec,cr0,op,off,ft,A⟩:=σ
 obtain ⟨⟨m,u,fv,fs,h1,rfl,hA⟩,h2,h3,h4,h5,h6,h7⟩:=h
 dsimp only at *
 subst hA
 exact xb6q d sec m nb w u fv cr0 op off ft fs h1 h2 hn (by rw [List.length_map] at h4; omega) (fun f hf=>Nat.le_trans (h5 (absF f) (List.mem_map.2 ⟨f,hf,rfl⟩)) hb) (fun f hf=>(xa3n (h7 (absF f) (List.mem_map.2 ⟨f,hf,rfl⟩))).2)
theorem from_D (sec:Nat) (v:Value) (l:List IFile) (bb:Nat) (w:World) (h1:1≤sec) (h2:sec≤4096) (h:RdC 4 w v (l.map ifC)) (ho:∀ f∈l,OkIf w f) (hl:l.length≤1048576) (hb:∀ f∈l,f.bs.length≤bb) (hf:formedB l = true) :
  Calls Tryz.prog 13 #[.int .i64 sec,v] w fun e w'=>∃ d B,e = .returned (.tuple #[.pointer (some ⟨d,0,none⟩),.int .i64 0])∧DK w' d B l.length bb ⟨sec,0,0,false,fun _=>none,l.map toDF⟩∧Kept [] w w'∧∀ x∈B,w.heap.size≤x:=by
 refine Calls.mono (xc2k sec v l w h1 h2 h ho hl hf) ?_
 rintro e w' ⟨d,m,u,gs,rfl,hD,hG,hK,hB⟩
 have hF:=(xa2e l).1 hf
 refine ⟨d,_,rfl,⟨⟨m,u,_,gs,hD,rfl,hG.symm⟩,xa5z hF,⟨by simp,by simp⟩,by simp,?_,⟨h1,h2⟩,?_⟩,hK,hB⟩
 ·intro f hf2
  obtain ⟨a,ha,rfl⟩:=List.mem_map.1 hf2
  exact hb a ha
 ·intro f hf2
  obtain ⟨a,ha,rfl⟩:=List.mem_map.1 hf2
  obtain ⟨i,hi,rfl⟩:=List.getElem_of_mem ha
  exact (hF i hi).1
end
section
open Go Go.RowKit Go.BigFrame
section
variable {P:Program} {Q:Exit→Act→World→Prop}
end
end
section
open Go.RowKit Go.BigFrame Go.Maps Go.Sort


def FrR (sec:Int) (l:List IFile):Nat:=if 1≤sec∧sec≤4096 then (if formedB l then 0 else 3) else 1
theorem RdFl.kept {L:List Nat} {w w':World} {v:Value} {ts:List (DF × Value)} (h:RdFl w v ts) (k:Kept L w w') (hn:∀ x∈flB v ts,x∉L):RdFl w' v ts :=
 ⟨h.1.kept k (fun x hx=>hn x (by simp [flB,hx])),fun t ht=>(h.2 t ht).kept k (fun x hx=>hn x (by simp only [flB,List.mem_append,List.mem_flatMap]; exact .inr ⟨t,ht,hx⟩))⟩
theorem RdFl.old {w w':World} {v:Value} {ts:List (DF × Value)} (h:RdFl w v ts) (k:Kept [] w w'):RdFl w' v ts:=h.kept k (by simp)
theorem OwnFl.shapeL {B:Nat} {w:World} {v:Value} {ts:List (DF × Value)} (h:OwnFl B w v ts):∃ a c,v = .slice a ts.length c∧(0 < ts.length→∃ g,a = some ⟨g,0,none⟩):=by
 rcases h.own.2 with ⟨rfl,h0⟩ | ⟨g,cap,cur,rfl,_⟩
 ·exact ⟨none,0,by rw [h0],fun h9=>by omega⟩
 ·exact ⟨_,cap,rfl,fun _=>⟨g,rfl⟩⟩
theorem xa4x {w:World} {g n c i:Nat} {ts:List (DF × Value)} (h:RdFl w (.slice (some ⟨g,0,none⟩) n c) ts) (hi:i < ts.length) :
  w.cell? ⟨g,i * 4,none⟩ = some (.string ts[i].1.nm)∧w.cell? ⟨g,i * 4 + 1,none⟩ = some ts[i].2∧w.cell? ⟨g,i * 4 + 2,none⟩ = some (.int .i64 (ts[i].1.sy:Int))∧w.cell? ⟨g,i * 4 + 3,none⟩ = some (.bool ts[i].1.nd):=by
 obtain ⟨ao,len,cap,e9,r1,r2,r3,r4⟩:=h.1
 cases e9
 rw [List.length_map] at r1
 obtain ⟨b9,o9,e8,hcc⟩:=r4 (by omega)
 cases e8
 have hr:=hcc i (by rw [List.length_map]; exact hi)
 rw [List.getElem_map] at hr
 have p0:=hr 0 _ rfl
 have p1:=hr 1 _ rfl
 have p2:=hr 2 _ rfl
 have p3:=hr 3 _ rfl
 simp only [Nat.zero_add,Nat.add_zero] at p0 p1 p2 p3
 exact ⟨p0,p1,p2,p3⟩
theorem fst_at {ts:List (DF × Value)} {S:List DF} (h:ts.map Prod.fst = S) {i:Nat} (h1:i < ts.length) (h2:i < S.length):ts[i].1 = S[i]:=by
 have h9:=congrArg (fun l=>l[i]?) h
 simpa [List.getElem?_eq_getElem h1,List.getElem?_eq_getElem h2] using h9
set_option maxHeartbeats 2000000 in
theorem xb0l (s:ByteArray) (w:World) (hs:s.size≤140737488355328) :
  Calls Tryz.prog 44 #[.string s] w fun e w'=>e = .returned (.bool (isNm s))∧w' = w:=by
 by_cases h1:1≤s.size
 ·by_cases h2:s.size≤40
  ·have e1:¬ (s.size:Int) < 1:=by omega
   have e2:¬ (40:Int) < (s.size:Int):=by omega
   have H1:=hide h1
   have H2:=hide h2
   clear h1 h2
   go_enter Tryz.func44,Tryz.ntmps44
   go_wp2_with fail
   go_loopw [3] (fun t3 wr=>∃ k:Nat,k≤s.size∧t3 = .int .i64 k∧Hid (∀ j (hj:j < s.size),j < k→nameB (s[j]'hj).toNat = true)∧wr = w) (fun t _=>s.size - (intOf t).toNat)
   case atStart=>exact ⟨0,Nat.zero_le _,rfl,hide (fun j hj h=>by omega),rfl⟩
   case round =>
    obtain ⟨k,hk,rfl,HA,rfl⟩:=hrel
    by_cases hlt:k < s.size
    ·have e3:(k:Int) < (s.size:Int):=by omega
     have hb:(s[k]'hlt).toNat < 256:=(s[k]'hlt).toNat_lt
     have HBAD:=hide (fun h9=>xb5h hlt h9:nameB (s[k]'hlt).toNat = false→isNm s = false)
     have HGO:=hide (fun h9 j hj h=>by
      by_cases hjk:j < k
      ·exact uh HA j hj hjk
      ·have:j = k:=by omega
       subst this
       exact h9:nameB (s[k]'hlt).toNat = true→∀ j (hj:j < s.size),j < k + 1→nameB (s[j]'hj).toNat = true)
     go_upto_region 7 with fail
     generalize (s[k]'hlt).toNat = c at hb HBAD HGO ⊢
     clear HA
     by_cases hgd:(97≤c∧c≤122)∨(48≤c∧c≤57)∨c = 45
     ·have HN:=hide (uh HGO (by unfold nameB; simp; omega))
      clear HGO HBAD
      rcases hgd with h9 | h9 | h9
      ·have g1:(97:Int)≤c:=by omega
       have g2:(c:Int)≤122:=by omega
       clear h9
       go_wp2_with fail
       refine ⟨⟨k + 1,by omega,by simp,HN,trivial⟩,?_⟩
       simp [intOf]; omega
      ·have g1:¬ (97:Int)≤c:=by omega
       have g2:(48:Int)≤c:=by omega
       have g3:(c:Int)≤57:=by omega
       clear h9
       go_wp2_with fail
       refine ⟨⟨k + 1,by omega,by simp,HN,trivial⟩,?_⟩
       simp [intOf]; omega
      ·have g1:¬ (97:Int)≤c:=by omega
       have g2:¬ (48:Int)≤c:=by omega
       have g3:((c:Int) == 45) = true:=by simp; omega
       clear h9
       go_wp2_with fail
       refine ⟨⟨k + 1,by omega,by simp,HN,trivial⟩,?_⟩
       simp [intOf]; omega
     ·have HN:=hide (uh HBAD (by unfold nameB; simp; omega))
      clear HGO HBAD
      have g3:((c:Int) == 45) = false:=by simp; omega
      rcases (by omega:122 < c∨(57 < c∧c < 97)∨c < 48) with h9 | h9 | h9
      ·have g1:(97:Int)≤c:=by omega
       have g2:¬ (c:Int)≤122:=by omega
       have g4:(48:Int)≤c:=by omega
       have g5:¬ (c:Int)≤57:=by omega
       clear h9 hgd
       go_wp2_with fail
       go_ret
       exact ⟨by rw [uh HN]; rfl,rfl⟩
      ·have g1:¬ (97:Int)≤c:=by omega
       have g4:(48:Int)≤c:=by omega
       have g5:¬ (c:Int)≤57:=by omega
       clear h9 hgd
       go_wp2_with fail
       go_ret
       exact ⟨by rw [uh HN]; rfl,rfl⟩
      ·have g1:¬ (97:Int)≤c:=by omega
       have g4:¬ (48:Int)≤c:=by omega
       clear h9 hgd
       go_wp2_with fail
       go_ret
       exact ⟨by rw [uh HN]; rfl,rfl⟩
    ·have e3:¬ (k:Int) < (s.size:Int):=by omega
     have hk2:k = s.size:=by omega
     go_wp2_with fail
     go_ret
     exact ⟨by rw [xb0g (uh H1) (uh H2) (fun j hj=>uh HA j hj (by omega))]; rfl,rfl⟩
  ·rw [xa6h (by omega)]
   have e2:(40:Int) < (s.size:Int):=by omega
   have e1:¬ (s.size:Int) < 1:=by omega
   go_enter Tryz.func44,Tryz.ntmps44
   go_wp2_with fail
   go_ret
   exact ⟨rfl,rfl⟩
 ·rw [xa6h (by omega)]
  have e1:(s.size:Int) < 1:=by omega
  go_enter Tryz.func44,Tryz.ntmps44
  go_wp2_with fail
  go_ret
  exact ⟨rfl,rfl⟩
theorem xb0a {w:World} {B:Nat} {e s n:Nat} {v:Value} {xs:List Value} (h:w.ownsRow B e s v n xs):w.ownsRow 0 e s v n xs:=by
 obtain ⟨h1,h2⟩:=h
 refine ⟨h1,?_⟩
 rcases h2 with h2 | ⟨g,cap,cur,hv,hg,r⟩
 ·exact .inl h2
 ·exact .inr ⟨g,cap,cur,hv,Nat.zero_le _,r⟩
structure RK (w:World) (c:Nat) (R:List Nat) (nb bb:Nat) (σ:DSt):Prop where
 ex:∃ fsv ts fav fl,w.heap[c]? = some (.cells #[.int .i64 (σ.sec:Int),fsv,fav,.int .i64 σ.cr,.int .i64 σ.op,.bool σ.off] 94 (0,0))∧OwnFl 0 w fsv ts∧ts.map Prod.fst = σ.A∧RdC 2 w fav (fl.map faC)∧fl.length≤1048576∧fstF fl = σ.ft∧c∉zblk fav (fl.map faC)∧(∀ x∈blk fsv,x∉zblk fav (fl.map faC))∧(∀ x∈zblk fav (fl.map faC),x < w.heap.size)∧R = c :: (flB fsv ts++zblk fav (fl.map faC))
 opb:0≤σ.op∧σ.op≤nb
 len:σ.A.length≤nb
 byt:∀ f∈σ.A,f.bs.length≤bb
 secb:1≤σ.sec∧σ.sec≤4096
 syl:∀ f∈σ.A,f.sy≤f.bs.length
 dist:Dist σ.A
theorem RK.lt {w:World} {c nb bb:Nat} {R:List Nat} {σ:DSt} (h:RK w c R nb bb σ):∀ x∈R,x < w.heap.size:=by
 obtain ⟨fsv,ts,fav,fl,h1,h2,h3,h4,h5,h6,h7,h8,h9,rfl⟩:=h.ex
 intro x hx
 simp only [List.mem_cons,List.mem_append] at hx
 rcases hx with rfl | hx | hx
 ·exact lt_of_block h1
 ·exact (h2.ge x hx).2
 ·exact h9 x hx
theorem RK.kept {L:List Nat} {w w':World} {c nb bb:Nat} {R:List Nat} {σ:DSt} (h:RK w c R nb bb σ) (k:Kept L w w') (hn:∀ x∈R,x∉L):RK w' c R nb bb σ:=by
 obtain ⟨fsv,ts,fav,fl,h1,h2,h3,h4,h5,h6,h7,h8,h9,rfl⟩:=h.ex
 exact ⟨⟨fsv,ts,fav,fl,k.heap h1 (hn c (by simp)),h2.keptF k (fun x hx=>hn x (by simp [hx])),h3,h4.keptZ k (fun x hx=>hn x (by simp [hx])),h5,h6,h7,h8,fun x hx=>Nat.lt_of_lt_of_le (h9 x hx) k.size,rfl⟩,h.opb,h.len,h.byt,h.secb,h.syl,h.dist⟩
theorem RK.old {w w':World} {c nb bb:Nat} {R:List Nat} {σ:DSt} (h:RK w c R nb bb σ) (k:Kept [] w w'):RK w' c R nb bb σ:=h.kept k (by simp)
theorem RK.more {w:World} {c nb bb:Nat} {R:List Nat} {σ:DSt} (h:RK w c R nb bb σ) {nb' bb':Nat} (h1:nb≤nb') (h2:bb≤bb'):RK w c R nb' bb' σ:=by
 obtain ⟨fsv,ts,fav,fl,g1,g2,g3,g4,g5,g6⟩:=h.ex
 exact ⟨⟨fsv,ts,fav,fl,g1,g2,g3,g4,g5,g6⟩,⟨h.opb.1,by have:=h.opb.2; omega⟩,Nat.le_trans h.len h1,fun f hf=>Nat.le_trans (h.byt f hf) h2,h.secb,h.syl,h.dist⟩
def fndA (A:List DF) (s:List UInt8):Option Nat:=A.findIdx? fun f=>f.nm.data.toList == s
def fndI (A:List DF) (s:List UInt8):Int:=match fndA A s with | none=>-1 | some i=>(i:Int)
theorem xa3w (A:List DF) (s:List UInt8):(fndA A s).isSome = (findA A s).isSome:=by
 unfold fndA findA
 rw [List.findIdx?_isSome,Bool.eq_iff_iff,List.find?_isSome,List.any_eq_true]
theorem xb5r {A:List DF} {s:List UInt8} {i:Nat} (h:fndA A s = some i):∃ hi:i < A.length,A[i].nm.data.toList = s∧findA A s = some A[i]:=by
 unfold fndA at h
 obtain ⟨hi,h1,h2⟩:=List.findIdx?_eq_some_iff_getElem.1 h
 refine ⟨hi,by simpa using h1,?_⟩
 unfold findA
 rw [List.find?_eq_some_iff_getElem]
 exact ⟨h1,i,hi,rfl,fun j hj=>by simpa using h2 j hj⟩
theorem xa7u {P:Program} {fn:Func} {p:Tmp} {ty:TypeId} (h:fn.results = #[.cell p ty]) (tmps:Array Value) (w:World) (g:Nat) (t:TypeId) (cs:Array Value) (fr:Nat × Nat) (d:TypeDesc)
  (hp:tmps.getD p undef = .pointer (some ⟨g,0,none⟩)) (hg:w.heap[g]? = some (.cells cs t fr))
  (hu:P.underlying ty = some d) (hd:(match d with | .struct _ | .array _ _=>true | _=>false) = true) (hi:(P.info? ty).map (·.size) = some cs.size) :
  (results fn tmps).run P w = .ok (.agg cs) w:=by
 have hp':tmps[p]?.getD undef = .pointer (some ⟨g,0,none⟩):=by simpa using hp
 simp [results,h,hp',asAddr,run_loadVar_row w g t ty cs fr d hg hu hd hi]
theorem xa2m {P:Program} {fn:Func} {p q:Tmp} {ty:TypeId} (h:fn.results = #[.cell p ty,.tmp q]) (tmps:Array Value) (w:World) (g:Nat) (t:TypeId) (cs:Array Value) (fr:Nat × Nat) (d:TypeDesc)
  (hp:tmps.getD p undef = .pointer (some ⟨g,0,none⟩)) (hg:w.heap[g]? = some (.cells cs t fr))
  (hu:P.underlying ty = some d) (hd:(match d with | .struct _ | .array _ _=>true | _=>false) = true) (hi:(P.info? ty).map (·.size) = some cs.size) (v:Value) (hq:tmps.getD q undef = v) :
  (results fn tmps).run P w = .ok (.tuple #[.agg cs,v]) w:=by
 have hp':tmps[p]?.getD undef = .pointer (some ⟨g,0,none⟩):=by simpa using hp
 have hq':tmps[q]?.getD undef = v:=by simpa using hq
 simp [results,h,hp',hq',asAddr,run_loadVar_row w g t ty cs fr d hg hu hd hi]
theorem xb2u {w:World} {g:Nat} {a b c d:Value} {t:TypeId} (h:w.heap[g]? = some (.cells #[a,b,c,d] t (0,0))) (x y z u:Value):((((w.setCell ⟨g,0,none⟩ x).setCell ⟨g,1,none⟩ y).setCell ⟨g,2,none⟩ z).setCell ⟨g,3,none⟩ u).heap[g]? = some (.cells #[x,y,z,u] t (0,0)):=by
 rw [heap_setCell_same _ g 3 _ t _ (heap_setCell_same _ g 2 _ t _ (heap_setCell_same _ g 1 _ t _ (heap_setCell_same w g 0 _ t _ h)))]; rfl
theorem xa8m {L:List Nat} {w0 w:World} (k:Kept L w0 w) (g:Nat) (hg:g∈L∨w0.heap.size≤g) (x y z u:Value):Kept L w0 ((((w.setCell ⟨g,0,none⟩ x).setCell ⟨g,1,none⟩ y).setCell ⟨g,2,none⟩ z).setCell ⟨g,3,none⟩ u):=(((k.setCell hg x).setCell hg y).setCell hg z).setCell hg u
theorem xa8p {w:World} {g:Nat} {a b:Value} {t:TypeId} (h:w.heap[g]? = some (.cells #[a,b] t (0,0))) (x y:Value):((w.setCell ⟨g,0,none⟩ x).setCell ⟨g,1,none⟩ y).heap[g]? = some (.cells #[x,y] t (0,0)):=by
 rw [heap_setCell_same _ g 1 _ t _ (heap_setCell_same w g 0 _ t _ h)]; rfl
theorem xa7o {L:List Nat} {w0 w:World} (k:Kept L w0 w) (g:Nat) (hg:g∈L∨w0.heap.size≤g) (x y:Value):Kept L w0 ((w.setCell ⟨g,0,none⟩ x).setCell ⟨g,1,none⟩ y):=(k.setCell hg x).setCell hg y
theorem Tryz.size_dfile:(Tryz.prog.info? 74).map (·.size) = some 4:=by kernel_rfl
theorem Tryz.size_fault:(Tryz.prog.info? 141).map (·.size) = some 2:=by kernel_rfl
set_option maxHeartbeats 1000000 in
theorem xb6v (u v:Value) (p q:List Nat) (w:World) (hu:Rd w u p) (hv:Rd w v q) (hl:p.length + q.length≤140737488355328) :
  Calls Tryz.prog 140 #[u,v] w fun e w'=>∃ lv,e = .returned lv∧w'.ownsRow w.heap.size 5 1 lv (p++q).length ((p++q).map u8)∧Kept [] w w':=by
 have HU:=hide hu
 have HV:=hide hv
 obtain ⟨a1,n1,c1,rfl,hn1,_⟩:=hu
 obtain ⟨a2,n2,c2,rfl,hn2,_⟩:=hv
 subst hn1
 subst hn2
 obtain ⟨i0,hi,hz0,hz1,hz2⟩:=info_parts Tryz.info5
 have hmk:∀ W:World,(Instr.makeSlice 72 (.int .i64 0) (.int .i64 ((p.length:Int) + q.length))).run Tryz.prog W =
   .ok (.slice (some ⟨W.heap.size,0,none⟩) 0 (p.length + q.length)) (W.alloc (.cells (zeros (p.length + q.length)).toArray 5)):=fun W=>by
  have h:=run_make (P:=Tryz.prog) W 72 5 i0 (.int .u8 0) Tryz.underlying72 hi hz0 .i64 .i64 0 ((p.length:Int) + q.length) (by omega) (by omega) (by rw [hz2]; omega) (by omega)
  have e:((p.length:Int) + q.length).toNat = p.length + q.length:=by omega
  rw [e] at h
  simpa [hz1,Value.cells,madeZeros] using h
 clear hi hz0 hz1 hz2
 have HO:=hide (World.ownsRow_made (base:=w.heap.size) (e:=5) (size:=1) w (zeros (p.length + q.length)).toArray (p.length + q.length) (Nat.le_refl _) (by unfold maxLen; omega) (by simp [zeros]))
 have HU1:=hide ((uh HU).old ((Kept.refl [] w).alloc (.cells (zeros (p.length + q.length)).toArray 5)) (by simp))
 go_enter Tryz.func140,Tryz.ntmps140
 go_wp2_with (at_builtin; first
  | (refine xa0l rfl (.tmp 12) (.tmp 13) rfl rfl _ w.heap.size (.slice (some ⟨w.heap.size,0,none⟩) 0 (p.length + q.length)) [] p a1 p.length c1 (by exact uh HO) (by exact uh HU1) (by simp; omega) (by simp) rfl rfl ?_; intro ao1 cap1 w1 HO1 HG1 HA1; simp only [List.nil_append,List.length_nil,Nat.zero_add] at HO1 HA1; have HK1:=hide (((Kept.refl [] w).alloc _).grown (uh HG1) (by intro k hk; right; simp [Value.ownBlock] at hk; omega)); have HA1':=hide (show ∀ g,(Value.slice ao1 p.length cap1).ownBlock = some g→w.heap.size≤g from fun g hg=>((uh HO1).lt g hg).1); clear HG1 HA1)
  | (refine xa0l rfl (.tmp 15) (.tmp 16) rfl rfl _ w.heap.size (.slice ao1 p.length cap1) p q a2 q.length c2 (by exact uh HO1) (by exact (uh HV).old (uh HK1) (by simp)) hl (by have:=(uh HK1).size; omega) (by simp [Act.eval]) (by simp [Act.eval]) ?_; intro ao2 cap2 w2 HO2 HG2 HA2; have HK2:=hide ((uh HK1).grown (uh HG2) (by intro k hk; right; exact uh HA1' k hk)); clear HG2 HA2))
 go_ret
 refine ⟨_,rfl,uh HO2,uh HK2⟩
set_option maxHeartbeats 1000000 in
theorem xa3o (c nb bb:Nat) (R:List Nat) (σ:DSt) (s:ByteArray) (w:World) (h:RK w c R nb bb σ) (hn:nb≤1000000000) :
  Calls Tryz.prog 133 #[.pointer (some ⟨c,0,none⟩),.string s] w fun e w'=>e = .returned (.int .i64 (fndI σ.A s.data.toList))∧w' = w:=by
 obtain ⟨fsv,ts,fav,fl,h1,h2,h3,h4,h5,h6,h7⟩:=h.ex
 have hlen:=h.len
 obtain ⟨a3,c3,hv3,hg3⟩:=h2.shapeL
 subst hv3
 have hl3:ts.length = σ.A.length:=by have:=congrArg List.length h3; simpa using this
 have q1:=cell_of_row _ _ 1 _ _ _ h1
 simp at q1
 generalize σ.A = A at h3 hl3 hlen ⊢
 rw [hl3] at hg3 q1
 have HR:=hide h2.rd
 rw [hl3] at HR
 have HG:=hide hg3
 have HL:=hide hl3
 have HT:=hide h3
 clear h1 h2 h3 h4 h5 h6 h7 hl3 hg3 h
 go_enter Tryz.func133,Tryz.ntmps133
 go_wp2_with fail
 go_loopw [11] (fun t11 wr=>∃ k:Nat,k≤A.length∧t11 = .int .i64 k∧Hid (∀ j (hj:j < A.length),j < k→A[j].nm.data.toList≠s.data.toList)∧wr = w) (fun t _=>A.length - (intOf t).toNat)
 case atStart=>exact ⟨0,Nat.zero_le _,rfl,hide (fun j hj h=>by omega),rfl⟩
 case round =>
  obtain ⟨k,hk,rfl,HA,rfl⟩:=hrel
  by_cases hlt:k < A.length
  ·have hlt':(k:Int) < A.length:=by omega
   have l3:k < ts.length:=by rw [uh HL]; exact hlt
   obtain ⟨g3,rfl⟩:=uh HG (by omega)
   obtain ⟨p0,_,_,_⟩:=xa4x (uh HR) l3
   have x3:=fst_at (uh HT) l3 hlt
   rw [x3] at p0
   clear x3
   by_cases he:A[k].nm.data.toList = s.data.toList
   ·have hb:(A[k].nm.toList == s.toList) = true:=by rw [xa1p,xa1p,he]; simp
    have HF:=hide (by
     unfold fndI
     rw [show fndA A s.data.toList = some k from List.findIdx?_eq_some_iff_getElem.2 ⟨hlt,by simp [he],fun j hj=>by simpa using uh HA j (by omega) hj⟩]:fndI A s.data.toList = (k:Int))
    clear he HA
    generalize A[k].nm = nm at p0 hb
    go_wp2_with fail
    go_ret
    exact ⟨by rw [uh HF]; rfl,rfl⟩
   ·have hb:(A[k].nm.toList == s.toList) = false:=by rw [xa1p,xa1p]; exact beq_eq_false_iff_ne.2 he
    have HN:=hide (fun j hj h=>by
     by_cases hjk:j < k
     ·exact uh HA j hj hjk
     ·have:j = k:=by omega
      subst this
      exact he:∀ j (hj:j < A.length),j < k + 1→A[j].nm.data.toList≠s.data.toList)
    clear he HA
    generalize A[k].nm = nm at p0 hb
    go_wp2_with fail
    refine ⟨⟨k + 1,by omega,by simp,HN,trivial⟩,?_⟩
    simp [intOf]; omega
  ·have hlt':¬ (k:Int) < A.length:=by omega
   have HF:=hide (by
    unfold fndI
    rw [show fndA A s.data.toList = none from List.findIdx?_eq_none_iff.2 (fun x hx=>by
     obtain ⟨j,hj,rfl⟩:=List.getElem_of_mem hx
     have:=uh HA j hj (by omega)
     simpa using this)]:fndI A s.data.toList = -1)
   clear HA
   go_wp2_with fail
   go_ret
   exact ⟨by rw [uh HF]; rfl,rfl⟩
set_option maxHeartbeats 1000000 in
theorem xb1i (X:DF) (xv:Value) (w:World) (hx:Rd w xv X.bs) :
  Calls Tryz.prog 45 #[.agg #[.string X.nm,xv,.int .i64 (X.sy:Int),.bool X.nd]] w fun e w'=>∃ g,e = .returned (.agg #[.string X.nm,.slice (some ⟨g,0,none⟩) X.bs.length X.bs.length,.int .i64 (X.sy:Int),.bool X.nd])∧w'.ownsRow w.heap.size 5 1 (.slice (some ⟨g,0,none⟩) X.bs.length X.bs.length) X.bs.length (X.bs.map u8)∧Kept [] w w':=by
 obtain ⟨xa,xl,xc,hxv⟩:∃ a l c,xv = .slice a l c:=by obtain ⟨a,l,c,h1,_⟩:=hx; exact ⟨a,l,c,h1⟩
 subst hxv
 have hlen:X.bs.length≤140737488355328:=by obtain ⟨a,b,c,h9,h10,h11,h12,_⟩:=hx; omega
 have kA:=(Kept.refl [] w).alloc (.cells #[.string X.nm,.slice xa xl xc,.int .i64 (X.sy:Int),.bool X.nd] 74 (0,0))
 have gA:=heap_alloc_new w (.cells #[.string X.nm,.slice xa xl xc,.int .i64 (X.sy:Int),.bool X.nd] 74 (0,0))
 obtain ⟨WA,hWA⟩:∃ W,w.alloc (.cells #[.string X.nm,.slice xa xl xc,.int .i64 (X.sy:Int),.bool X.nd] 74 (0,0)) = W:=⟨_,rfl⟩
 rw [hWA] at kA gA
 have HWA:=hide hWA
 have kB:=(Kept.refl [] WA).alloc (.cells #[.string ⟨#[]⟩,.slice none 0 0,.int .i64 0,.bool false] 74 (0,0))
 have gB:=heap_alloc_new WA (.cells #[.string ⟨#[]⟩,.slice none 0 0,.int .i64 0,.bool false] 74 (0,0))
 obtain ⟨WB,hWB⟩:∃ W,WA.alloc (.cells #[.string ⟨#[]⟩,.slice none 0 0,.int .i64 0,.bool false] 74 (0,0)) = W:=⟨_,rfl⟩
 rw [hWB] at kB gB
 have HWB:=hide hWB
 have HK:=hide (kA.trans kB (by simp))
 have HGA:=hide (kB.heap gA (by simp))
 have HGB:=hide gB
 have HSB:=hide (lt_of_block gB)
 have HSA:=hide (lt_of_block gA)
 have a1:=cell_of_row _ _ 1 _ _ _ (uh HGA)
 simp at a1
 have HX:=hide (hx.old (uh HK) (by simp))
 have HLN:=hide hlen
 clear hWA hWB kA kB gA gB hx hlen
 go_enter Tryz.func45,Tryz.ntmps45
 go_wp2_with (first | (rw [uh HWA]) | (rw [uh HWB]) | fail)
 refine Calls.mono (xa9g (.slice xa xl xc) X.bs WB (uh HX)) ?_
 rintro e w2 ⟨rfl,k2,hh2⟩
 have HG2:=hide (k2.heap (uh HGA) (by simp))
 have HB2:=hide (k2.heap (uh HGB) (by simp))
 have HH2:=hide hh2
 have HK2:=hide ((uh HK).trans k2 (by simp))
 clear k2 hh2 a1
 have q1:=cell_of_row _ _ 1 _ _ _ (uh HG2)
 simp at q1
 have z1:=frozen_of_row _ _ 1 _ _ (uh HG2)
 go_upto_region 2 with fail
 have HG3:=hide (heap_setCell_same w2 _ 1 _ _ (.slice (some ⟨WB.heap.size,0,none⟩) X.bs.length X.bs.length) (uh HG2))
 have HK3:=hide ((uh HK2).setCell (p:=⟨w.heap.size,1,none⟩) (.inr (Nat.le_refl _)) (.slice (some ⟨WB.heap.size,0,none⟩) X.bs.length X.bs.length))
 have kz:=(Kept.refl [w.heap.size] w2).setCell (p:=⟨w.heap.size,1,none⟩) (.inl (by simp)) (.slice (some ⟨WB.heap.size,0,none⟩) X.bs.length X.bs.length)
 have HH3:=hide (kz.heap (uh HH2) (by have:=uh HSA; have:=uh HSB; simp; omega))
 have HB3:=hide (kz.heap (uh HB2) (by have:=uh HSA; simp; omega))
 obtain ⟨W3,hW3⟩:∃ W,w2.setCell ⟨w.heap.size,1,none⟩ (.slice (some ⟨WB.heap.size,0,none⟩) X.bs.length X.bs.length) = W:=⟨_,rfl⟩
 rw [hW3] at HG3 HK3 HH3 HB3 ⊢
 clear hW3 q1 z1 kz
 have r0:=cell_of_row _ _ 0 _ _ _ (uh HG3)
 have r1:=cell_of_row _ _ 1 _ _ _ (uh HG3)
 have r2:=cell_of_row _ _ 2 _ _ _ (uh HG3)
 have r3:=cell_of_row _ _ 3 _ _ _ (uh HG3)
 simp at r0 r1 r2 r3
 have b0:=cell_of_row _ _ 0 _ _ _ (uh HB3)
 have b1:=cell_of_row _ _ 1 _ _ _ (uh HB3)
 have b2:=cell_of_row _ _ 2 _ _ _ (uh HB3)
 have b3:=cell_of_row _ _ 3 _ _ _ (uh HB3)
 simp at b0 b1 b2 b3
 have f0:=frozen_of_row _ _ 0 _ _ (uh HB3)
 have f1:=frozen_of_row _ _ 1 _ _ (uh HB3)
 have f2:=frozen_of_row _ _ 2 _ _ (uh HB3)
 have f3:=frozen_of_row _ _ 3 _ _ (uh HB3)
 go_wp2_with fail
 have kf:=xa8m (Kept.refl [WA.heap.size] W3) WA.heap.size (.inl (by simp)) (.string X.nm) (.slice (some ⟨WB.heap.size,0,none⟩) X.bs.length X.bs.length) (.int .i64 (X.sy:Int)) (.bool X.nd)
 refine bodyPost_ret (v:=.agg #[.string X.nm,.slice (some ⟨WB.heap.size,0,none⟩) X.bs.length X.bs.length,.int .i64 (X.sy:Int),.bool X.nd]) ?_ rfl ⟨WB.heap.size,rfl,?_,?_⟩
 ·exact xa7u rfl _ _ WA.heap.size _ _ (0,0) _ rfl (xb2u (uh HB3) _ _ _ _) Tryz.underlying74 rfl Tryz.size_dfile
 ·exact xa3l (kf.heap (uh HH3) (by have:=uh HSB; simp; omega)) (uh HLN) (uh HK).size
 ·exact xa8m (uh HK3) WA.heap.size (.inr (by have:=uh HSA; omega)) _ _ _ _
end
section
open Go.RowKit

end


section
open Go.RowKit Go.BigFrame Go.Maps Go.Sort

end
section
open Go.RowKit

end
section
open Go.RowKit Go.BigFrame Go.Maps Go.Sort



theorem Rd.take0D {w:World} {ao:Option Addr} {cap n:Nat} {p:List Nat} (h:Rd w (.slice ao p.length cap) p) (hn:n≤p.length):Rd w (.slice ao n cap) (p.take n):=by
 obtain ⟨ao1,len,cap1,e,h1,h2,⟨h3,h3'⟩,h4,h5,h6⟩:=h
 cases e
 refine ⟨_,_,_,rfl,by rw [List.length_take]; omega,by omega,⟨by omega,by omega⟩,h4,fun x hx=>h5 x (List.mem_of_mem_take hx),fun hp=>?_⟩
 obtain ⟨b,off,e2,hc⟩:=h6 (by omega)
 refine ⟨b,off,e2,fun i hi=>?_⟩
 have h9:=hc i (by omega)
 rw [List.getD_eq_getElem?_getD,List.getElem?_take_of_lt hi,← List.getD_eq_getElem?_getD]
 exact h9
theorem xc2p {fl:List (Int × Int)} {a:Int} {i:Nat} (h:fstF (fl.take i) a = none) (hi:i < fl.length):(fl[i].1 = a→fstF fl a = some fl[i].2)∧(fl[i].1≠a→fstF (fl.take (i + 1)) a = none):=by
 unfold fstF at *
 rw [Option.map_eq_none_iff] at h
 constructor
 ·intro e
  conv=>lhs; rw [← List.take_append_drop i fl,List.find?_append,h,List.drop_eq_getElem_cons hi,List.find?_cons_of_pos (by simp [e])]
  rfl
 ·intro e
  rw [List.take_succ_eq_append_getElem hi,List.find?_append,h]
  simp [e]
set_option maxHeartbeats 1000000 in
theorem xb2j (c nb bb:Nat) (R:List Nat) (σ:DSt) (a:Int) (w:World) (h:RK w c R nb bb σ) (hn:nb≤1000000000) :
  Calls Tryz.prog 139 #[.pointer (some ⟨c,0,none⟩),.int .i64 a] w fun e w'=>∃ b,e = .returned (.tuple #[.agg #[.int .i64 b,.int .i64 ((σ.ft a).getD 0)],.bool (σ.ft a).isSome])∧Kept [] w w':=by
 obtain ⟨fsv,ts,fav,fl,h1,h2,h3,h4,h5,h6,h7⟩:=h.ex
 obtain ⟨ka,kl,kc,rfl,g1,g2,g3,g4⟩:=h4
 rw [List.length_map] at g1
 subst g1
 rw [← h6]
 have hk0:=(Kept.refl [] w).alloc (.cells #[.int .i64 0,.int .i64 0] 141 (0,0))
 have hg:=heap_alloc_new w (.cells #[.int .i64 0,.int .i64 0] 141 (0,0))
 obtain ⟨W,hW⟩:∃ W,w.alloc (.cells #[.int .i64 0,.int .i64 0] 141 (0,0)) = W:=⟨_,rfl⟩
 rw [hW] at hk0 hg
 have HW:=hide hW
 have HK:=hide hk0
 have HG:=hide hg
 have H4:=hide g4
 have q2:=cell_of_row _ _ 2 _ _ _ (hk0.heap h1 (by simp))
 simp at q2
 clear hW hk0 hg g4 h1 h2 h3 h6 h7 h
 go_enter Tryz.func139,Tryz.ntmps139
 go_wp2_with (first | (rw [uh HW]) | fail)
 go_loopw [13] (fun t13 wr=>∃ i:Nat,i≤fl.length∧t13 = .int .i64 i∧Hid (fstF (fl.take i) a = none)∧Hid (Kept [] W wr)) (fun t _=>fl.length - (intOf t).toNat)
 case atStart=>exact ⟨0,Nat.zero_le _,rfl,hide rfl,hide (Kept.refl _ _)⟩
 case round =>
  obtain ⟨i,hi,rfl,HF,HKW⟩:=hrel
  by_cases hlt:i < fl.length
  ·have hlt':(i:Int) < fl.length:=by omega
   obtain ⟨b,off,rfl,hcc⟩:=uh H4 (by omega)
   have hr:=hcc i (by rw [List.length_map]; exact hlt)
   rw [List.getElem_map] at hr
   have HKX:=hide ((uh HK).trans (uh HKW) (by simp))
   have p0:=(uh HKX).cell (hr 0 _ rfl) (by simp)
   have p1:=(uh HKX).cell (hr 1 _ rfl) (by simp)
   rw [Nat.add_zero] at p0
   have HAT:=hide (xc2p (uh HF) hlt)
   clear hr hcc
   generalize fl[i] = X at p0 p1 HAT
   go_upto_region 4 with fail
   obtain ⟨V,hV⟩:∃ V,wr.alloc (.cells #[.int .i64 X.1,.int .i64 X.2] 141 (0,0)) = V:=⟨_,rfl⟩
   have hkv:=(Kept.refl [] wr).alloc (.cells #[.int .i64 X.1,.int .i64 X.2] 141 (0,0))
   have hgv:=heap_alloc_new wr (.cells #[.int .i64 X.1,.int .i64 X.2] 141 (0,0))
   rw [hV] at hkv hgv ⊢
   have HKV:=hide ((uh HKW).trans hkv (by simp))
   have r0:=cell_of_row _ _ 0 _ _ _ hgv
   have r1:=cell_of_row _ _ 1 _ _ _ hgv
   simp at r0 r1
   clear hV hkv hgv p0 p1
   by_cases hn:X.1 = a
   ·have hnb:(X.1 == a) = true:=by simp [hn]
    have HR:=hide ((uh HAT).1 hn)
    have HZ:=hide ((uh HKV).heap (uh HG) (by simp))
    have b0:=cell_of_row _ _ 0 _ _ _ (uh HZ)
    have b1:=cell_of_row _ _ 1 _ _ _ (uh HZ)
    simp at b0 b1
    have f0:=frozen_of_row _ _ 0 _ _ (uh HZ)
    have f1:=frozen_of_row _ _ 1 _ _ (uh HZ)
    clear hn HAT
    go_wp2_with fail
    refine bodyPost_ret (v:=.tuple #[.agg #[.int .i64 X.1,.int .i64 X.2],.bool true]) ?_ rfl ⟨X.1,by rw [uh HR]; rfl,?_⟩
    ·exact xa2m rfl _ _ w.heap.size _ _ (0,0) _ rfl (xa8p (uh HZ) _ _) Tryz.underlying141 rfl Tryz.size_fault _ rfl
    ·exact xa7o ((uh HK).trans (uh HKV) (by simp)) w.heap.size (.inr (Nat.le_refl _)) _ _
   ·have hnb:(X.1 == a) = false:=by simp [hn]
    have HR:=hide ((uh HAT).2 hn)
    clear hn HAT
    go_wp2_with fail
    refine ⟨⟨i + 1,by omega,by simp,HR,HKV⟩,?_⟩
    simp [intOf]; omega
  ·have hlt':¬ (i:Int) < fl.length:=by omega
   have hie:i = fl.length:=by omega
   subst hie
   rw [List.take_length] at HF
   have HZ:=hide ((uh HKW).heap (uh HG) (by simp))
   have b0:=cell_of_row _ _ 0 _ _ _ (uh HZ)
   have b1:=cell_of_row _ _ 1 _ _ _ (uh HZ)
   simp at b0 b1
   have f0:=frozen_of_row _ _ 0 _ _ (uh HZ)
   have f1:=frozen_of_row _ _ 1 _ _ (uh HZ)
   go_wp2_with fail
   refine bodyPost_ret (v:=.tuple #[.agg #[.int .i64 0,.int .i64 0],.bool false]) ?_ rfl ⟨⟨0,by rw [uh HF]; rfl⟩,?_⟩
   ·exact xa2m rfl _ _ w.heap.size _ _ (0,0) _ rfl (xa8p (uh HZ) _ _) Tryz.underlying141 rfl Tryz.size_fault _ rfl
   ·exact xa7o ((uh HK).trans (uh HKW) (by simp)) w.heap.size (.inr (Nat.le_refl _)) _ _
theorem ownsB {w:World} {B B':Nat} {e s n:Nat} {v:Value} {xs:List Value} (hb:B'≤B) (h:w.ownsRow B e s v n xs):w.ownsRow B' e s v n xs:=by
 obtain ⟨h1,h2⟩:=h
 refine ⟨h1,?_⟩
 rcases h2 with h2 | ⟨g,cap,cur,hv,hg,r⟩
 ·exact .inl h2
 ·exact .inr ⟨g,cap,cur,hv,Nat.le_trans hb hg,r⟩
end
end Go.Proofs.YtejchncdimcdbaaGreatDoor
