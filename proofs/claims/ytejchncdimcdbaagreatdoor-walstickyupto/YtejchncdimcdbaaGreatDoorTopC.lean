import Derived.Test.YtejchncdimcdbaaGreatDoorTopB
namespace Go.Proofs.YtejchncdimcdbaaGreatDoor
set_option linter.unusedVariables false
set_option linter.unusedSimpArgs false
set_option maxRecDepth 100000
section
open Go.RowKit Go.BigFrame
theorem xa7z (σ:DSt) (n:ByteArray):(stCreate σ n).1 < 100:=by
 unfold stCreate
 split
 ·simp
 ·exact opE_le _ _ _ _ (by unfold ownA; (repeat' split) <;> omega)
theorem xa2f (σ:DSt) (n:ByteArray) (p:List Nat):(stAppend σ n p).1 < 100:=by
 unfold stAppend
 split
 ·simp
 ·split <;> exact opE_le _ _ _ _ (by omega)
theorem xa2q (σ:DSt) (n:ByteArray):(stSync σ n).1 < 100:=by
 unfold stSync
 split
 ·simp
 ·split <;> exact opE_le _ _ _ _ (by omega)
theorem xa9p (σ:DSt):(stNames σ).1 < 100:=by
 unfold stNames
 split
 ·simp
 ·exact opE_le _ _ _ _ (by omega)
theorem thn_lt {r:Nat × DSt} {f:DSt→Nat × DSt} (h:r.1 < 100) (hf:∀ τ,(f τ).1 < 100):(thn r f).1 < 100:=by
 unfold thn
 split
 ·exact hf _
 ·exact h
theorem xa9d (σ:DSt) (n ep fs:Nat) (wd:Int):(stBegin σ n ep fs wd).1 < 100 :=
 thn_lt (thn_lt (thn_lt (xa7z _ _) (fun τ=>xa2f _ _ _)) (fun τ=>xa2q _ _)) (fun τ=>xa9p _)
theorem xb5v (σ:DSt) (s:LSt):(lgRot σ s).1 < 100:=by
 unfold lgRot
 split
 ·exact xa2q _ _
 ·split
  ·simp
  ·split
   ·exact xa9d _ _ _ _ _
   ·simp
theorem xb1f (σ:DSt) (s:LSt) (p:List Nat):(lgWrite σ s p).1 < 100:=by
 unfold lgWrite
 split
 ·split
  ·exact xb5v _ _
  ·exact xa2f _ _ _
 ·exact xa2f _ _ _
theorem xb8g {f:Nat} {es:List En} (h:chkB f es = 0) (hf:f < 18446744073709551616):(sbB f es).length≤40000:=by
 unfold sbB
 rw [if_pos h,xa3w]
 have:=(xa6t h hf).2
 omega
theorem st_row {w:World} {l d:Nat} {s:LSt} {t:TypeId} (h:w.heap[l]? = some (.cells (lgC d s) t (0,0))) (x:Nat):(w.setCell ⟨l,9,none⟩ (.int .i64 (x:Int))).heap[l]? = some (.cells (lgC d { s with st:=x }) t (0,0)):=by
 rw [heap_setCell_same w l 9 _ t _ h]
 rfl
theorem nx_row {w:World} {l d:Nat} {s:LSt} {t:TypeId} (h:w.heap[l]? = some (.cells (lgC d s) t (0,0))) (x:Nat):(w.setCell ⟨l,8,none⟩ (.int .u64 (x:Int))).heap[l]? = some (.cells (lgC d { s with nx:=x }) t (0,0)):=by
 rw [heap_setCell_same w l 8 _ t _ h]
 rfl
theorem LK.set {w w':World} {l d nb ob bb:Nat} {B:List Nat} {σ:DSt} {s:LSt} (h:LK w l d B nb ob bb σ s) (x y:Nat) (hx:x < 100) (hy:y < 18446744073709551616) (k:Kept [l] w w') (hr:w'.heap[l]? = some (.cells (lgC d { s with st:=x,nx:=y }) 117 (0,0))):LK w' l d B nb ob bb σ { s with st:=x,nx:=y } :=
 ⟨hr,h.dk.kept k (fun z hz hm=>h.nl (by rw [← List.mem_singleton.1 hm]; exact hz)),h.nl,h.num,h.ep,hy,h.wd,h.bt,h.byt,h.lim,hx⟩
theorem EvL.on {w w3 w':World} {l:Nat} {B B':List Nat} (h:EvL w w3 l B B') (k:Kept [l] w3 w'):EvL w w' l B B' :=
 ⟨h.1.trans k (fun x hx=>Or.inl (by rw [List.mem_singleton.1 hx]; simp)),h.2⟩
set_option maxHeartbeats 4000000 in
theorem xa1l (l d nb ob bb g0:Nat) (B:List Nat) (σ:DSt) (s:LSt) (v:Value) (es:List En) (w:World) (h:LK w l d B nb ob bb σ s) (hv:VarsG g0 w) (hB:∀ x∈B,g0≤x) (hl0:g0≤l) (hg0:g0≤w.heap.size) (hr:RdN w v es) (h1:nb≤800000000) (h2:ob≤800000000) (h3:bb≤140737488200000) :
  Calls Tryz.prog 19 #[.pointer (some ⟨l,0,none⟩),v] w fun e w'=>∃ B',e = .returned (.int .i64 ((lgAppend σ s es).1:Nat))∧LK w' l d B' (nb + 1) (ob + 6) (bb + 40048) (lgAppend σ s es).2.1 (lgAppend σ s es).2.2∧EvL w w' l B B':=by
 have H:=hide h
 have HVG:=hide hv
 have HB:=hide hB
 have HSB:=hide (xa6d s.nx v es w h.nx hr)
 obtain ⟨va,n,vc,kv,vv,rfl,hlen,hcap,hmx,_⟩:=id hr
 subst hlen
 have HLE:=hide (by omega:es.length≤9223372036854775807)
 obtain ⟨C,hC⟩:∃ C,chkB s.nx es = C:=⟨_,rfl⟩
 obtain ⟨ps,hps⟩:∃ ps,sbB s.nx es = ps:=⟨_,rfl⟩
 obtain ⟨⟨E1,τ1,s1⟩,hW⟩:∃ R,lgWrite σ s ps = R:=⟨_,rfl⟩
 have HE1:=hide (by have:=xb1f σ s ps; rw [hW] at this; exact this:E1 < 100)
 have HS1:=hide (by have:=xb0q σ s ps; rw [hW] at this; exact this.2:s1.nx = s.nx)
 obtain ⟨⟨E,τ,s'⟩,hL⟩:∃ R,lgAppend σ s es = R:=⟨_,rfl⟩
 have HA:=hide (fun (h0:C≠0)=>(by rw [← hL]; unfold lgAppend; rw [hC]; simp only [ne_eq,h0,not_false_eq_true,if_true]:(E,τ,s') = (C,σ,s)))
 have HBB:=hide (fun (h0:C = 0) (h9:lgFail s≠0)=>(by rw [← hL]; unfold lgAppend; rw [hC]; simp only [ne_eq,h0,not_true_eq_false,if_false,h9,not_false_eq_true,if_true]:(E,τ,s') = (lgFail s,σ,s)))
 have HC0:=hide (fun (h0:C = 0) (h9:lgFail s = 0) (h8:E1 = 0)=>(by rw [← hL]; unfold lgAppend; rw [hC,hps]; simp only [ne_eq,h0,not_true_eq_false,if_false,h9]; rw [hW]; simp only [h8,if_true]:(E,τ,s') = (E1,τ1,{ s1 with st:=E1,nx:=(s.nx + es.length) % 18446744073709551616 })))
 have HC1:=hide (fun (h0:C = 0) (h9:lgFail s = 0) (h8:E1≠0)=>(by rw [← hL]; unfold lgAppend; rw [hC,hps]; simp only [ne_eq,h0,not_true_eq_false,if_false,h9]; rw [hW]; simp only [h8,if_false]:(E,τ,s') = (E1,τ1,{ s1 with st:=E1,nx:=s.nx })))
 rw [hL]
 have HPL:=hide (fun (h0:C = 0)=>(by rw [← hps]; exact xb8g (by rw [hC]; exact h0) h.nx:ps.length≤40000))
 rw [hC,hps] at HSB
 have c8:=(xa0j h.row).2.2.2.2.2.2.2.2.1
 have HWW:=hide hW
 clear h hv hB hr hL hC hps hW hcap hmx
 dsimp only at *
 go_enter Tryz.func19,Tryz.ntmps19
 go_wp2_with fail
 refine Calls.mono (uh HSB) ?_
 rintro e w1 ⟨pv,rfl,nw,k1⟩
 have HK1:=hide k1
 have HNW:=hide nw
 obtain ⟨pa,pn,pc,rfl,hpn,_⟩:=id nw.1
 clear k1 nw HSB c8
 by_cases hc:C = 0
 ·subst hc
  have HFA:=hide (xa7r l d s w1 ((uh HK1).heap (uh H).row (by simp)))
  go_wp2_with fail
  refine Calls.mono (uh HFA) ?_
  rintro e w2 ⟨rfl,rfl⟩
  by_cases hf:lgFail s = 0
  ·rw [hf]
   have HWR:=hide (xa9k l d nb ob bb g0 B σ s (.slice pa pn pc) ps w2 ((uh H).old (uh HK1)) ((uh HVG).old (uh HK1)) (uh HB) hl0 (Nat.le_trans hg0 (uh HK1).size) (uh HNW).1 (fun x hx hm=>by
     have h9:w.heap.size≤x:=by
      have hx2:=(xa2t hx).1
      rcases (uh HNW).2 with ⟨h8,h7⟩ | ⟨g,h8,h7,_⟩
      ·exact absurd h8 (xa2t hx).2
      ·rw [h8] at hx2; simp only [blk,List.mem_singleton] at hx2; subst hx2; exact h7
     rcases List.mem_cons.1 hm with rfl | hm
     ·have:=(uh H).lt; omega
     ·have:=(uh H).dk.lt _ hm; omega) (uh HPL (by simp)) h1 h2 h3)
   rw [uh HWW] at HWR
   dsimp only at *
   go_wp2_with fail
   refine Calls.mono (uh HWR) ?_
   rintro e w3 ⟨B3,rfl,hl3,ev3⟩
   have HL3:=hide hl3
   have HE3:=hide (EvL.pre (uh HK1) ev3)
   obtain ⟨c0,c1,c2,c3,c4,c5,c6,c7,c8,c9⟩:=xa0j hl3.row
   obtain ⟨f0,f1,f2,f3,f4,f5,f6,f8,f9⟩:=lfroz hl3.row
   rw [uh HS1] at c8
   clear hl3 ev3 HWR
   have hle3:bb + 48 + ps.length≤bb + 40048:=by have:=uh HPL (by simp); omega
   by_cases he:E1 = 0
   ·have hw:IntKind.u64.wrap ((s.nx:Int) + (es.length:Int)) = (((s.nx + es.length) % 18446744073709551616:Nat):Int):=by rw [IntKind.wrap_u64]; simp
    have hw2:IntKind.u64.wrap (es.length:Int) = (es.length:Int):=by rw [IntKind.wrap_u64]; have:=uh HLE; omega
    have hst:=st_row (uh HL3).row E1
    have kst:Kept [l] w3 (w3.setCell ⟨l,9,none⟩ (.int .i64 (E1:Int))):=(Kept.refl [l] w3).setCell (p:=⟨l,9,none⟩) (.inl (by simp)) _
    have hnx:=nx_row hst ((s.nx + es.length) % 18446744073709551616)
    have knx:=kst.setCell (p:=⟨l,8,none⟩) (.inl (by simp)) (.int .u64 (((s.nx + es.length) % 18446744073709551616:Nat):Int))
    have HFIN:=hide ((uh HL3).set E1 ((s.nx + es.length) % 18446744073709551616) (uh HE1) (Nat.mod_lt _ (by omega)) knx hnx)
    have HEV:=hide ((uh HE3).on knx)
    clear hst kst hnx knx
    have hz:=uh HC0 (by simp) hf he
    cases hz
    subst he
    go_wp2_with fail
    go_ret
    have hfin:=((uh HFIN).more (nb':=nb + 1) (ob':=ob + 6) (bb':=bb + 40048) (by omega) (by omega) hle3)
    have hev:=uh HEV
    simp only [Int.natCast_emod,Int.natCast_add,Int.cast_ofNat_Int] at hfin hev
    first | exact ⟨B3,rfl,hfin,hev⟩ | exact ⟨rfl,B3,hfin,hev⟩
   ·have hq:((E1:Int) == 0) = false:=by simp; omega
    have hst:=st_row (uh HL3).row E1
    have kst:Kept [l] w3 (w3.setCell ⟨l,9,none⟩ (.int .i64 (E1:Int))):=(Kept.refl [l] w3).setCell (p:=⟨l,9,none⟩) (.inl (by simp)) _
    have HFIN:=hide ((uh HL3).set E1 s.nx (uh HE1) (uh H).nx kst (by rw [hst,← uh HS1]))
    have HEV:=hide ((uh HE3).on kst)
    clear hst kst
    have hz:=uh HC1 (by simp) hf he
    cases hz
    go_wp2_with fail
    go_ret
    have hfin:=((uh HFIN).more (nb':=nb + 1) (ob':=ob + 6) (bb':=bb + 40048) (by omega) (by omega) hle3)
    first | exact ⟨B3,rfl,hfin,uh HEV⟩ | exact ⟨rfl,B3,hfin,uh HEV⟩
  ·have hz:=uh HBB (by simp) hf
   cases hz
   have hq:((lgFail s:Int) == 0) = false:=by simp; omega
   go_wp2_with fail
   go_ret
   have hfin:=((uh H).old (uh HK1)).more (nb':=nb + 1) (ob':=ob + 6) (bb':=bb + 40048) (by omega) (by omega) (by omega)
   have hev:=EvL.pre (uh HK1) (EvL.refl w2 l B)
   first | exact ⟨B,rfl,hfin,hev⟩ | exact ⟨rfl,B,hfin,hev⟩
 ·have hz:=uh HA hc
  cases hz
  have hq:((C:Int) == 0) = false:=by simp; omega
  go_wp2_with fail
  go_ret
  have hfin:=((uh H).old (uh HK1)).more (nb':=nb + 1) (ob':=ob + 6) (bb':=bb + 40048) (by omega) (by omega) (by omega)
  have hev:=EvL.pre (uh HK1) (EvL.refl w1 l B)
  first | exact ⟨B,rfl,hfin,hev⟩ | exact ⟨rfl,B,hfin,hev⟩
set_option maxHeartbeats 4000000 in
theorem xa4l (l d nb ob bb g0:Nat) (B:List Nat) (σ:DSt) (s:LSt) (w:World) (h:LK w l d B nb ob bb σ s) (hv:VarsG g0 w) (h1:nb≤800000000) (h2:ob≤800000000) :
  Calls Tryz.prog 21 #[.pointer (some ⟨l,0,none⟩)] w fun e w'=>∃ B',e = .returned (.int .i64 ((lgSync σ s).1:Nat))∧LK w' l d B' nb (ob + 1) bb (lgSync σ s).2.1 (lgSync σ s).2.2∧EvL w w' l B B':=by
 have H:=hide h
 obtain ⟨c0,c1,_⟩:=xa0j h.row
 have HFL:=hide (xa2z l s.num d nb ob bb B σ w c0 c1 h.num hv.now h.dk h.nl (by omega) (by omega))
 have HFA:=hide (xa7r l d s w h.row)
 obtain ⟨⟨E1,τ1⟩,hW⟩:∃ R,stSync σ (nmB s.num) = R:=⟨_,rfl⟩
 have HE1:=hide (by have:=xa2q σ (nmB s.num); rw [hW] at this; exact this:E1 < 100)
 obtain ⟨⟨E,τ,s'⟩,hL⟩:∃ R,lgSync σ s = R:=⟨_,rfl⟩
 have HBB:=hide (fun (h9:lgFail s≠0)=>(by rw [← hL]; unfold lgSync; simp only [ne_eq,h9,not_false_eq_true,if_true]:(E,τ,s') = (lgFail s,σ,s)))
 have HCC:=hide (fun (h9:lgFail s = 0)=>(by rw [← hL]; unfold lgSync; simp only [ne_eq,not_true_eq_false,if_false,h9]; rw [hW]:(E,τ,s') = (E1,τ1,{ s with st:=E1 })))
 rw [hL]
 rw [hW] at HFL
 clear h hv hL hW c0 c1
 dsimp only at *
 go_enter Tryz.func21,Tryz.ntmps21
 go_wp2_with fail
 refine Calls.mono (uh HFA) ?_
 rintro e w2 ⟨rfl,rfl⟩
 by_cases hf:lgFail s = 0
 ·have hz:=uh HCC hf
  cases hz
  rw [hf]
  go_wp2_with fail
  refine Calls.mono (uh HFL) ?_
  rintro e w3 ⟨B3,rfl,hd3,ev3⟩
  have hr3:=ev3.1.heap (uh H).row (uh H).nl
  obtain ⟨c0,c1,c2,c3,c4,c5,c6,c7,c8,c9⟩:=xa0j hr3
  obtain ⟨f0,f1,f2,f3,f4,f5,f6,f8,f9⟩:=lfroz hr3
  have hst:=st_row hr3 E1
  have kst:Kept [l] w3 (w3.setCell ⟨l,9,none⟩ (.int .i64 (E1:Int))):=(Kept.refl [l] w3).setCell (p:=⟨l,9,none⟩) (.inl (by simp)) _
  have HFIN:=hide ((uh H).turn ev3 hd3 kst hst (uh H).num rfl (uh H).nx rfl (by have:=(uh H).bt; simp only; omega) (by have:=(uh H).byt; simp only; omega) rfl (uh HE1))
  clear hst kst hr3 hd3 ev3
  go_wp2_with fail
  go_ret
  first | exact ⟨B3,rfl,(uh HFIN).1,(uh HFIN).2⟩ | exact ⟨rfl,B3,(uh HFIN).1,(uh HFIN).2⟩
 ·have hz:=uh HBB hf
  cases hz
  have hq:((lgFail s:Int) == 0) = false:=by simp; omega
  go_wp2_with fail
  go_ret
  have hfin:=(uh H).more (nb':=nb) (ob':=ob + 1) (bb':=bb) (by omega) (by omega) (by omega)
  have hev:=EvL.refl w2 l B
  first | exact ⟨B,rfl,hfin,hev⟩ | exact ⟨rfl,B,hfin,hev⟩
end
section
open Go.RowKit Go.BigFrame Go.Maps Go.Sort
theorem xa7q {w:World} {b s:Nat}:∀ {rows:List (List Value)} {off:Nat} (hc:∀ i (h:i < rows.length),w.rangeAt b (off + i * s) rows[i]) (hs:∀ r∈rows,r.length = s) (j:Nat) (u:Value),rows.flatten[j]? = some u→w.cell? ⟨b,off + j,none⟩ = some u
 | [],off,hc,hs,j,u,hj=>by simp at hj
 | r :: rs,off,hc,hs,j,u,hj=>by
  have hr:r.length = s:=hs r (by simp)
  rw [List.flatten_cons] at hj
  by_cases h:j < s
  ·rw [List.getElem?_append_left (by omega)] at hj
   have h9:=hc 0 (by simp) j u (by simpa using hj)
   simpa using h9
  ·rw [List.getElem?_append_right (by omega),hr] at hj
   have ih:=xa7q (rows:=rs) (off:=off + s) (fun i hi=>by
    have h9:=hc (i + 1) (by simpa using hi)
    simp only [List.getElem_cons_succ] at h9
    rw [show off + s + i * s = off + (i + 1) * s by rw [Nat.add_mul]; omega]
    exact h9) (fun r hr=>hs r (by simp [hr])) (j - s) u hj
   rw [show off + j = off + s + (j - s) by omega]
   exact ih
theorem xa0t {w:World} {base e s n:Nat} {v:Value} {xs:List Value} (h:w.ownsRow base e s v n xs):∃ ao cap,v = .slice ao n cap:=by
 rcases h.2 with ⟨rfl,rfl⟩ | ⟨g,cap,cur,rfl,_⟩
 ·exact ⟨_,_,rfl⟩
 ·exact ⟨_,_,rfl⟩
theorem xb0a {s:Nat}:∀ {rows:List (List Value)},(∀ r∈rows,r.length = s)→rows.flatten.length = rows.length * s
 | [],_=>by simp
 | r :: rs,h=>by
  have ih:=xb0a (rows:=rs) (fun r hr=>h r (by simp [hr]))
  rw [List.flatten_cons,List.length_append,ih,h r (by simp),List.length_cons,Nat.add_mul]
  omega
theorem xb0y {s:Nat}:∀ {rows:List (List Value)} (hs:∀ r∈rows,r.length = s) {i j:Nat} (hi:i < rows.length) {u:Value},rows[i][j]? = some u→rows.flatten[i * s + j]? = some u
 | r :: rs,hs,0,j,hi,u,hu=>by
  have hj:=(List.getElem?_eq_some_iff.1 hu).1
  rw [List.flatten_cons,Nat.zero_mul,Nat.zero_add,List.getElem?_append_left (by simpa using hj)]
  simpa using hu
 | r :: rs,hs,i + 1,j,hi,u,hu=>by
  have hr:r.length = s:=hs r (by simp)
  have ih:=xb0y (rows:=rs) (fun r hr=>hs r (by simp [hr])) (i:=i) (j:=j) (by simpa using hi) (u:=u) (by simpa using hu)
  rw [List.flatten_cons,List.getElem?_append_right (by rw [hr,Nat.add_mul]; omega),hr,show (i + 1) * s + j - s = i * s + j by rw [Nat.add_mul]; omega]
  exact ih
theorem xb5i {w:World} {base e s:Nat} {v:Value} {rows:List (List Value)} (h:w.ownsRow base e s v rows.length rows.flatten) (hs:∀ r∈rows,r.length = s):RdC s w v rows:=by
 rcases h.2 with ⟨rfl,h0⟩ | ⟨g,cap,cur,rfl,_,hg,hc,hm,hsz,ht⟩
 ·have:rows = []:=List.eq_nil_of_length_eq_zero h0
  subst this
  exact RdC.nil s w
 ·refine ⟨_,_,_,rfl,rfl,hc,by unfold maxLen at hm; omega,fun _=>⟨g,0,rfl,fun i hi j u hu=>?_⟩⟩
  have h9:=h.cells (g:=g) rfl (i * s + j) u (xb0y hs hi hu)
  rw [Addr.add_lit,Nat.zero_add] at h9
  rw [Nat.zero_add]
  exact h9
theorem xa6k {P:Program} {w:World} (base:Nat) (t ty e:TypeId) (i:TypeInfo) (size c:Nat) (ht:P.underlying t = some (.slice e)) (hi:P.info? e = some i)
  (v:Value) (n:Nat) (xs:List Value) (hown:w.ownsRow base e size v n xs) :
  (Builtin.append_ #[t,t] ty #[v,.slice none 0 c]).run P w = .ok v w:=by
 rcases hown.2 with ⟨rfl,rfl⟩ | ⟨g,cap,cur,rfl,_,_,hnc,_⟩
 ·simp [Builtin.append_,run_underlying ht,sizeOf,typeInfo,hi,Builtin.lenOf,Builtin.firstCells]
 ·simp [Builtin.append_,run_underlying ht,sizeOf,typeInfo,hi,Builtin.lenOf,Builtin.firstCells,hnc,storeCells]
theorem appendC (w:World) (base T e:Nat) (z:Value) (s bytes:Nat) (hu:Tryz.prog.underlying T = some (.slice e)) (hinf:(Tryz.prog.info? e).map (fun i=>(i.zero,i.size,i.bytes)) = some (some z,s,bytes)) (hzs:z.cells.size = s) (hs0:0 < s)
  (v:Value) (n:Nat) (xs:List Value) (h:w.ownsRow base e s v n xs) (ao:Option Addr) (m c:Nat) (rows:List (List Value)) (hr:RdC s w (.slice ao m c) rows) (hs:∀ r∈rows,r.length = s) (hone:∀ r∈rows,∀ u∈r,u.oneCell' = true)
  (hl:(n + m) * bytes≤140737488355328) (hl2:n + m≤1000000000000) (hb:base≤w.heap.size) :
  ∃ ao' cap' w1,(Builtin.append_ #[T,T] T #[v,.slice ao m c]).run Tryz.prog w = .ok (.slice ao' (n + m) cap') w1∧w1.ownsRow base e s (.slice ao' (n + m) cap') (n + m) (xs++rows.flatten)∧w.grownBy w1 v.ownBlock∧((Value.slice ao' (n + m) cap').ownBlock = v.ownBlock∨(Value.slice ao' (n + m) cap').ownBlock = some w.heap.size):=by
 obtain ⟨i0,hi,hz0,hz1,hz2⟩:=info_parts hinf
 obtain ⟨ao1,n1,c1,he,h1,h2,h3,h4⟩:=hr
 cases he
 have hf1:∀ u∈rows.flatten,u.oneCell' = true:=by
  intro u hu
  obtain ⟨r,hr,hur⟩:=List.mem_flatten.1 hu
  exact hone r hr u hur
 have hfl:rows.flatten.length = m * s:=by rw [xb0a hs,h1]
 cases ao with
 | none =>
  have hm:m = 0:=by
   rcases Nat.eq_zero_or_pos m with h9 | h9
   ·exact h9
   ·obtain ⟨b,off,e9,_⟩:=h4 h9; cases e9
  subst hm
  have hp:rows = []:=List.eq_nil_of_length_eq_zero h1
  subst hp
  have hrun:=xa6k (P:=Tryz.prog) (w:=w) base T T e i0 s c hu hi v n xs h
  obtain ⟨ao',cap',rfl⟩:=xa0t h
  exact ⟨ao',cap',w,hrun,by simpa using h,World.grownBy.refl _ _,.inl rfl⟩
 | some ad =>
  have hnews:∀ j u,rows.flatten[j]? = some u→w.cell? (ad.add j) = some u:=by
   intro j u hj
   have hm:0 < m:=by
    have:=(List.getElem?_eq_some_iff.1 hj).1
    rw [hfl] at this
    rcases Nat.eq_zero_or_pos m with h9 | h9
    ·subst h9; omega
    ·exact h9
   obtain ⟨b,off,e9,hc⟩:=h4 hm
   cases e9
   rw [Addr.add_mid]
   exact xa7q hc hs j u hj
  obtain ⟨v',w1,hrun,hown,hgrow,_,hat⟩:=run_append_own_at (P:=Tryz.prog) w base T T e i0 z s bytes hu hi hz0 hz1 hz2 hzs hs0 v n xs h ad m c rows.flatten hfl hnews hf1 (by unfold maxLen; omega) hl hb
  obtain ⟨ao',cap',rfl⟩:=xa0t hown
  exact ⟨ao',cap',w1,hrun,hown,hgrow,hat⟩
theorem xa3y {ops:Array Oper} {rest:List Oper} {o:Oper} {a:Act} {Q:Exit→Act→World→Prop} (hgd:o.guard = none) (T e:Nat) (s x:Operand)
  (ho:o.op = .call { callee:=.builtin .append,args:=#[s,x],argTypes:=#[T,T] }) (hty:o.type = T)
  (w:World) (base:Nat) (z:Value) (sz bytes:Nat) (hu:Tryz.prog.underlying T = some (.slice e)) (hinf:(Tryz.prog.info? e).map (fun i=>(i.zero,i.size,i.bytes)) = some (some z,sz,bytes)) (hzs:z.cells.size = sz) (hs0:0 < sz)
  (v:Value) (n:Nat) (xs:List Value) (h:w.ownsRow base e sz v n xs) (ao:Option Addr) (m c:Nat) (rows:List (List Value)) (hr:RdC sz w (.slice ao m c) rows) (hs:∀ r∈rows,r.length = sz) (hone:∀ r∈rows,∀ u∈r,u.oneCell' = true)
  (hl:(n + m) * bytes≤140737488355328) (hl2:n + m≤1000000000000) (hb:base≤w.heap.size) (he:a.eval s = v) (hx:a.eval x = .slice ao m c)
  (hK:∀ ao' cap' w1,Hid (w1.ownsRow base e sz (.slice ao' (n + m) cap') (n + m) (xs++rows.flatten))→Hid (w.grownBy w1 v.ownBlock)→Hid ((Value.slice ao' (n + m) cap').ownBlock = v.ownBlock∨(Value.slice ao' (n + m) cap').ownBlock = some w.heap.size) →
   wpList Tryz.prog ops Q rest (a.put o.dst (.slice ao' (n + m) cap')) w1) :
  wpList Tryz.prog ops Q (o :: rest) a w:=by
 obtain ⟨ao',cap',w1,hrun,h2,h3,h4⟩:=appendC w base T e z sz bytes hu hinf hzs hs0 v n xs h ao m c rows hr hs hone hl hl2 hb
 refine wpList_plain hgd fun K hK'=>?_
 unfold Oper.wp execOp
 simp only [ho,hty,resolve,invoke,builtin,Sem.run_bind,Sem.run_pure,Result.andThen_ok,List.map_toArray,List.map_cons,List.map_nil,he,hx,hrun]
 exact hK' _ _ (hK ao' cap' w1 h2 h3 h4)
end
section
open Go.RowKit Go.BigFrame
def rowB (t:Nat × Value × List En):List Value:=[.int .u64 (t.1:Int),t.2.1]
theorem xa3o (ts:List (Nat × Value × List En)):(ts.map rowB).flatten = cellsB ts:=by
 unfold cellsB
 rw [List.flatMap_def]
 rfl
theorem xa8x (ts:List (Nat × Value × List En)):∀ r∈ts.map rowB,r.length = 2:=by
 intro r hr
 obtain ⟨a,_,rfl⟩:=List.mem_map.1 hr
 rfl
theorem RdN.oneV {w:World} {v:Value} {es:List En} (h:RdN w v es):v.oneCell' = true:=by
 obtain ⟨a,n,c,_,_,rfl,_⟩:=h
 rfl
theorem OwnB.rdC {w0 w:World} {v:Value} {ts:List (Nat × Value × List En)} (h:OwnB w0 w v ts):RdC 2 w v (ts.map rowB) :=
 xb5i (e:=129) (base:=w0.heap.size) (by rw [xa3o,List.length_map]; exact h.own) (xa8x ts)
theorem OwnB.rdN {w0 w:World} {v:Value} {ts:List (Nat × Value × List En)} (h:OwnB w0 w v ts):∀ t∈ts,RdN w t.2.1 t.2.2:=by
 intro t ht
 obtain ⟨B,C,_,_,_,h5⟩:=h.rd t ht
 exact h5 [] w (Kept.refl _ _) (by simp)
theorem OwnB.oneC {w0 w:World} {v:Value} {ts:List (Nat × Value × List En)} (h:OwnB w0 w v ts):∀ r∈ts.map rowB,∀ u∈r,u.oneCell' = true:=by
 intro r hr u hu
 obtain ⟨a,ha,rfl⟩:=List.mem_map.1 hr
 simp only [rowB,List.mem_cons,List.not_mem_nil,or_false] at hu
 rcases hu with rfl | rfl
 ·rfl
 ·exact (h.rdN a ha).oneV
theorem xa5h (ts ss:List (Nat × Value × List En)):cellsB (ts++ss) = cellsB ts++cellsB ss:=by simp [cellsB]
theorem OwnB.stay {w0 w w':World} {M:List Nat} {v:Value} {ts:List (Nat × Value × List En)} (h:OwnB w0 w v ts) (k:Kept M w w') (hM:∀ x∈M,x < w0.heap.size∨w.heap.size≤x):OwnB w0 w' v ts:=by
 have k2:Kept (M.filter (· < w0.heap.size)) w w':=⟨k.os,k.tape,k.output,k.size,fun j hj hn=>k.block j hj (fun hm=>hn (by
  rw [List.mem_filter]
  refine ⟨hm,?_⟩
  rcases hM j hm with h1 | h1
  ·simpa using h1
  ·omega))⟩
 exact h.pass k2 (fun x hx=>by rw [List.mem_filter] at hx; simpa using hx.2)
end
section
open Go.RowKit Go.BigFrame Go.Maps Go.Sort
structure OwnX (X:List Nat) (w0 w:World) (v:Value) (ts:List (Nat × Value × List En)):Prop where
 own:w.ownsRow w0.heap.size 129 2 v ts.length (cellsB ts)
 rd:∀ t∈ts,∃ B C,C≤w.heap.size∧w0.heap.size≤B∧(∀ b,v.ownBlock = some b→b < B∨C≤b)∧(∀ b∈X,b < B∨C≤b)∧∀ M w',Kept M w w'→(∀ x∈M,x < B∨C≤x)→RdN w' t.2.1 t.2.2
 sz:w0.heap.size≤w.heap.size
 ap:∀ b,v.ownBlock = some b→b∉X
theorem OwnX.start (w:World):OwnX [] w w (.slice none 0 0) []:=⟨World.ownsRow_nil _ _ _ _,by simp,Nat.le_refl _,by simp⟩
theorem OwnX.pass {X:List Nat} {w0 w w':World} {M:List Nat} {v:Value} {ts:List (Nat × Value × List En)} (h:OwnX X w0 w v ts) (k:Kept M w w') (hM:∀ x∈M,x < w0.heap.size∨x∈X):OwnX X w0 w' v ts:=by
 refine ⟨k.owns h.own (fun b hb hm=>?_),fun t ht=>?_,Nat.le_trans h.sz k.size,h.ap⟩
 ·rcases hM b hm with h1 | h1
  ·have:=(h.own.lt b hb).1; omega
  ·exact h.ap b hb h1
 ·obtain ⟨B,C,h1,h2,h3,h4,h5⟩:=h.rd t ht
  refine ⟨B,C,Nat.le_trans h1 k.size,h2,h3,h4,fun N w2 kN hN=>h5 (M++N) w2 ((k.mono (M:=M++N) (fun x hx=>by simp [hx])).trans kN (fun x hx=>Or.inl (by simp [hx]))) (fun x hx=>?_)⟩
  rcases List.mem_append.1 hx with hx | hx
  ·rcases hM x hx with h6 | h6
   ·omega
   ·exact h4 x h6
  ·exact hN x hx
theorem OwnX.turn {X Y:List Nat} {w0 w:World} {v:Value} {ts:List (Nat × Value × List En)} (h:OwnX X w0 w v ts) {n:Nat} (hY:∀ b∈Y,b∈X∨n≤b) {wo:World} (hn:wo.heap.size = n) (ho:OwnX X w0 wo v ts) (k:Kept X wo w):OwnX Y w0 w v ts:=by
 refine ⟨h.own,fun t ht=>?_,h.sz,fun b hb hm=>?_⟩
 ·obtain ⟨B,C,h1,h2,h3,h4,h5⟩:=ho.rd t ht
  refine ⟨B,C,Nat.le_trans h1 k.size,h2,h3,fun b hb=>?_,fun N w2 kN hN=>h5 (X++N) w2 ((k.mono (M:=X++N) (fun x hx=>by simp [hx])).trans kN (fun x hx=>Or.inl (by simp [hx]))) (fun x hx=>?_)⟩
  ·rcases hY b hb with h6 | h6
   ·exact h4 b h6
   ·omega
  ·rcases List.mem_append.1 hx with hx | hx
   ·exact h4 x hx
   ·exact hN x hx
 ·rcases hY b hm with h6 | h6
  ·exact h.ap b hb h6
  ·have:=(ho.own.lt b hb).2; omega
theorem OwnX.cat {X M:List Nat} {w0 w1 wr w W:World} {v v2 v':Value} {ts ss:List (Nat × Value × List En)} (h:OwnX X w0 w v ts) (h2:OwnB w1 wr v2 ss) (k:Kept M wr w) (hM:∀ x∈M,x < w1.heap.size∨wr.heap.size≤x) (h01:w0.heap.size≤w1.heap.size) (hv:∀ b,v.ownBlock = some b→b < w1.heap.size) (hX:∀ b∈X,b < w1.heap.size∨wr.heap.size≤b) (hXl:∀ b∈X,b < w.heap.size)
  (o:W.ownsRow w0.heap.size 129 2 v' (ts.length + ss.length) (cellsB ts++cellsB ss)) (gr:w.grownBy W v.ownBlock) (hg:v'.ownBlock = v.ownBlock∨v'.ownBlock = some w.heap.size) :
  OwnX X w0 W v' (ts++ss):=by
 have kW:Kept v.ownBlock.toList w W:=((Kept.refl _ w)).grown gr (by intro k hk; left; simp [hk])
 refine ⟨by rw [xa5h,List.length_append]; exact o,fun t ht=>?_,Nat.le_trans h.sz kW.size,fun b hb hm=>?_⟩
 ·rcases List.mem_append.1 ht with ht | ht
  ·obtain ⟨B1,C,h1,h2,h3,h4,h5⟩:=h.rd t ht
   refine ⟨B1,C,Nat.le_trans h1 kW.size,h2,fun b hb=>?_,h4,fun N w2 kN hN=>h5 (v.ownBlock.toList++N) w2 ((kW.mono (M:=v.ownBlock.toList++N) (fun x hx=>List.mem_append_left _ hx)).trans kN (fun x hx=>Or.inl (by simp [hx]))) (fun x hx=>?_)⟩
   ·rcases hg with hg | hg
    ·rw [hg] at hb; exact h3 _ hb
    ·rw [hg] at hb; simp only [Option.some.injEq] at hb; omega
   ·rcases List.mem_append.1 hx with hx | hx
    ·exact h3 x (by simpa using hx)
    ·exact hN x hx
  ·obtain ⟨B1,C,h1,h5,h3,h4⟩:=h2.rd t ht
   refine ⟨B1,C,Nat.le_trans h1 (Nat.le_trans k.size kW.size),Nat.le_trans h01 h5,fun b hb=>?_,fun b hb=>?_,fun N w2 kN hN=>h4 ((M++v.ownBlock.toList)++N) w2 (((k.mono (M:=(M++v.ownBlock.toList)++N) (fun x hx=>by simp [hx])).trans (kW.mono (M:=(M++v.ownBlock.toList)++N) (fun x hx=>by simp at hx; simp [hx])) (fun x hx=>Or.inl hx)).trans kN (fun x hx=>Or.inl (by simp [hx]))) (fun x hx=>?_)⟩
   ·have hks:=k.size
    rcases hg with hg | hg
    ·rw [hg] at hb; have:=hv _ hb; exact Or.inl (by omega)
    ·rw [hg] at hb; simp only [Option.some.injEq] at hb; omega
   ·rcases hX b hb with h6 | h6
    ·exact Or.inl (by omega)
    ·exact Or.inr (by omega)
   ·rcases List.mem_append.1 hx with hx | hx
    ·rcases List.mem_append.1 hx with hx | hx
     ·rcases hM x hx with h6 | h6
      ·exact Or.inl (by omega)
      ·exact Or.inr (by omega)
     ·have:=hv x (by simpa using hx); exact Or.inl (by omega)
    ·exact hN x hx
 ·rcases hg with hg | hg
  ·rw [hg] at hb; exact h.ap b hb hm
  ·rw [hg] at hb; simp only [Option.some.injEq] at hb; have:=hXl b hm; omega
def fdC (f:FSt) (sv bv:Value):Array Value:=#[.int .u64 (f.last:Int),.int .u64 (f.ep:Int),.int .u64 (f.sz:Int),sv,bv]
theorem xa0s {w:World} {g:Nat} {f:FSt} {sv bv:Value} {ty:TypeId} (h:w.heap[g]? = some (.cells (fdC f sv bv) ty (0,0))):w.cell? ⟨g,0,none⟩ = some (.int .u64 (f.last:Int))∧w.cell? ⟨g,1,none⟩ = some (.int .u64 (f.ep:Int))∧w.cell? ⟨g,2,none⟩ = some (.int .u64 (f.sz:Int))∧w.cell? ⟨g,3,none⟩ = some sv∧w.cell? ⟨g,4,none⟩ = some bv:=by
 refine ⟨?_,?_,?_,?_,?_⟩ <;> rw [cell_of_row _ _ _ _ _ _ h] <;> rfl
theorem ffroz {w:World} {b:Nat} {cs:Array Value} {t:TypeId} (h:w.heap[b]? = some (.cells cs t (0,0))):w.frozen? ⟨b,0,none⟩ = false∧w.frozen? ⟨b,1,none⟩ = false∧w.frozen? ⟨b,2,none⟩ = false∧w.frozen? ⟨b,3,none⟩ = false∧w.frozen? ⟨b,4,none⟩ = false :=
 ⟨frozen_of_row _ _ _ _ _ h,frozen_of_row _ _ _ _ _ h,frozen_of_row _ _ _ _ _ h,frozen_of_row _ _ _ _ _ h,frozen_of_row _ _ _ _ _ h⟩
structure FK (w0 w:World) (g:Nat) (f:FSt) (sv bv:Value) (ts:List (Nat × Value × List En)):Prop where
 row:w.heap[g]? = some (.cells (fdC f sv bv) 110 (0,0))
 gl:g < w0.heap.size
 sg:w.ownsRow w0.heap.size 9 1 sv f.sg.length (f.sg.map encStr)
 bs:OwnX sv.ownBlock.toList w0 w bv ts
 eq:f.bs = ts.map fun t=>(t.1,t.2.2)
 last:f.last < 18446744073709551616
 ep:f.ep < 18446744073709551616
 szb:f.sz < 18446744073709551616
theorem FK.pass {w0 w w':World} {g:Nat} {f:FSt} {sv bv:Value} {ts:List (Nat × Value × List En)} (h:FK w0 w g f sv bv ts) (k:Kept [] w w'):FK w0 w' g f sv bv ts :=
 { h with row:=k.heap h.row (by simp),sg:=k.owns h.sg (by simp),bs:=h.bs.pass k (by simp) }
set_option maxHeartbeats 2000000 in
theorem xb3a (g a b c:Nat) (z:Int) (f:FSt) (sv bv:Value) (w:World) (hr:w.heap[g]? = some (.cells (fdC f sv bv) 110 (0,0))) (p:List Nat) (hc:(hdC p).c = c) (hb:(hdC p).b = b) :
  Calls Tryz.prog 84 #[.pointer (some ⟨g,0,none⟩),.agg #[.int .u64 (a:Int),.int .u64 (b:Int),.int .u64 (c:Int),.int .i64 z]] w fun e w'=>e = .returned (.bool (goOnF f p))∧Kept [] w w':=by
 have hk:=(Kept.refl [] w).alloc (.cells #[.int .u64 (a:Int),.int .u64 (b:Int),.int .u64 (c:Int),.int .i64 z] 81)
 have hh:=heap_alloc_new w (.cells #[.int .u64 (a:Int),.int .u64 (b:Int),.int .u64 (c:Int),.int .i64 z] 81)
 obtain ⟨c0,c1,c2,c3,c4⟩:=xa0s (hk.heap hr (by simp))
 obtain ⟨q0,q1,q2,q3⟩:=hcells hh
 have HK:=hide hk
 unfold goOnF
 rw [hc,hb]
 clear hk hh hr hc hb c0 c3 c4 q0 q3
 by_cases h1:c = f.sz
 ·rw [decide_eq_true h1,Bool.true_and]
  subst h1
  by_cases h2:f.ep≤b
  ·have g2:(f.ep:Int)≤(b:Int):=by omega
   rw [decide_eq_true h2,Bool.true_and]
   by_cases h3:b < 18446744073709551615
   ·have g3:(b:Int) < 18446744073709551615:=by omega
    rw [decide_eq_true h3]
    go_enter Tryz.func84,Tryz.ntmps84
    go_upto_region 1 with fail
    refine wp_region_quiet_lit (by kernel_rfl) (by kernel_rfl) ?_
    repeat (go_big_quiet_step (fail))
    refine wpQuiet_nil ?_
    rintro _ ⟨m5,rfl⟩
    go_wp2_with fail
    go_ret
    exact ⟨rfl,(uh HK).drewN m5⟩
   ·have g3:¬ (b:Int) < 18446744073709551615:=by omega
    rw [decide_eq_false h3]
    go_enter Tryz.func84,Tryz.ntmps84
    go_upto_region 1 with fail
    refine wp_region_quiet_lit (by kernel_rfl) (by kernel_rfl) ?_
    repeat (go_big_quiet_step (fail))
    refine wpQuiet_nil ?_
    rintro _ ⟨m5,rfl⟩
    go_wp2_with fail
    go_ret
    exact ⟨rfl,(uh HK).drewN m5⟩
  ·have g2:¬ (f.ep:Int)≤(b:Int):=by omega
   rw [decide_eq_false h2,Bool.false_and]
   go_enter Tryz.func84,Tryz.ntmps84
   go_upto_region 1 with fail
   refine wp_region_quiet_lit (by kernel_rfl) (by kernel_rfl) ?_
   repeat (go_big_quiet_step (fail))
   refine wpQuiet_nil ?_
   rintro _ ⟨m5,rfl⟩
   go_wp2_with fail
   go_ret
   exact ⟨rfl,(uh HK).drewN m5⟩
 ·have g1:((c:Int) == (f.sz:Int)) = false:=by simp; omega
  rw [decide_eq_false h1,Bool.false_and,Bool.false_and]
  go_enter Tryz.func84,Tryz.ntmps84
  go_upto_region 1 with fail
  refine wp_region_quiet_lit (by kernel_rfl) (by kernel_rfl) ?_
  repeat (go_big_quiet_step (fail))
  refine wpQuiet_nil ?_
  rintro _ ⟨m5,rfl⟩
  go_wp2_with fail
  go_ret
  exact ⟨rfl,(uh HK).drewN m5⟩
def RdS (w:World) (v:Value) (ss:List (List UInt8)):Prop :=
 ∃ (ao:Option Addr) (len cap:Nat),v = .slice ao len cap∧ss.length = len∧len≤cap∧cap≤9223372036854775807∧(0 < len→∃ b off,ao = some ⟨b,off,none⟩∧∀ i (h:i < ss.length),w.cell? ⟨b,off + i,none⟩ = some (encStr ss[i]))
theorem RdS.kept {L:List Nat} {w w':World} {v:Value} {ss:List (List UInt8)} (h:RdS w v ss) (k:Kept L w w') (hn:∀ x∈blk v,x∉L):RdS w' v ss:=by
 obtain ⟨ao,len,cap,rfl,h1,h2,h3,h4⟩:=h
 refine ⟨ao,len,cap,rfl,h1,h2,h3,fun hp=>?_⟩
 obtain ⟨b,off,rfl,hc⟩:=h4 hp
 exact ⟨b,off,rfl,fun i hi=>k.cell (hc i hi) (hn b (by simp [blk]))⟩
theorem xa4h {w:World} {base:Nat} {v:Value} {ss:List (List UInt8)} (h:w.ownsRow base 9 1 v ss.length (ss.map encStr)):RdS w v ss:=by
 rcases h.2 with ⟨rfl,h0⟩ | ⟨g,cap,cur,rfl,hb,hg,hc,hm,hs,ht⟩
 ·exact ⟨none,0,0,rfl,h0,Nat.le_refl _,by omega,fun h=>by omega⟩
 ·refine ⟨some ⟨g,0,none⟩,ss.length,cap,rfl,rfl,hc,by unfold maxLen at hm; omega,fun hp=>⟨g,0,rfl,fun i hi=>?_⟩⟩
  have h9:=h.cells (g:=g) rfl i (encStr ss[i]) (by rw [List.getElem?_map,List.getElem?_eq_getElem hi]; rfl)
  rw [Addr.add_lit] at h9
  exact h9
end
section
open Go Go.RowKit Go.BigFrame
section
variable {P:Program} {Q:Exit→Act→World→Prop}
theorem wp_c11 {id:Nat} {o0 o1 o2 o3 o4 o5 o6 o7 o8 o9 o10:Oper} {a:Act} {w:World} (hm:P.follows .mixedOrders = true) (hs:Region.noSelect #[o0,o1,o2,o3,o4,o5,o6,o7,o8,o9,o10] = true)
  (f0:Region.free .any #[o0,o1,o2,o3,o4,o5,o6,o7,o8,o9,o10] #[false,false,false,false,false,false,false,false,false,false,false] 0 = true) (r0:(Region.ready .any #[o0,o1,o2,o3,o4,o5,o6,o7,o8,o9,o10] #[false,false,false,false,false,false,false,false,false,false,false]).contains 0 = true) (e0:o10.after.any (fun e=>Region.binds .any e && e.on == 0) = true)
  (f1:Region.free .any #[o0,o1,o2,o3,o4,o5,o6,o7,o8,o9,o10] #[true,false,false,false,false,false,false,false,false,false,false] 1 = true) (r1:(Region.ready .any #[o0,o1,o2,o3,o4,o5,o6,o7,o8,o9,o10] #[true,false,false,false,false,false,false,false,false,false,false]).contains 1 = true) (e1:o10.after.any (fun e=>Region.binds .any e && e.on == 1) = true)
  (f2:Region.free .any #[o0,o1,o2,o3,o4,o5,o6,o7,o8,o9,o10] #[true,true,false,false,false,false,false,false,false,false,false] 2 = true) (r2:(Region.ready .any #[o0,o1,o2,o3,o4,o5,o6,o7,o8,o9,o10] #[true,true,false,false,false,false,false,false,false,false,false]).contains 2 = true) (e2:o10.after.any (fun e=>Region.binds .any e && e.on == 2) = true)
  (f3:Region.free .any #[o0,o1,o2,o3,o4,o5,o6,o7,o8,o9,o10] #[true,true,true,false,false,false,false,false,false,false,false] 3 = true) (r3:(Region.ready .any #[o0,o1,o2,o3,o4,o5,o6,o7,o8,o9,o10] #[true,true,true,false,false,false,false,false,false,false,false]).contains 3 = true) (e3:o10.after.any (fun e=>Region.binds .any e && e.on == 3) = true)
  (f4:Region.free .any #[o0,o1,o2,o3,o4,o5,o6,o7,o8,o9,o10] #[true,true,true,true,false,false,false,false,false,false,false] 4 = true) (r4:(Region.ready .any #[o0,o1,o2,o3,o4,o5,o6,o7,o8,o9,o10] #[true,true,true,true,false,false,false,false,false,false,false]).contains 4 = true) (e4:o10.after.any (fun e=>Region.binds .any e && e.on == 4) = true)
  (f5:Region.free .any #[o0,o1,o2,o3,o4,o5,o6,o7,o8,o9,o10] #[true,true,true,true,true,false,false,false,false,false,false] 5 = true) (r5:(Region.ready .any #[o0,o1,o2,o3,o4,o5,o6,o7,o8,o9,o10] #[true,true,true,true,true,false,false,false,false,false,false]).contains 5 = true) (e5:o10.after.any (fun e=>Region.binds .any e && e.on == 5) = true)
  (f6:Region.free .any #[o0,o1,o2,o3,o4,o5,o6,o7,o8,o9,o10] #[true,true,true,true,true,true,false,false,false,false,false] 6 = true) (r6:(Region.ready .any #[o0,o1,o2,o3,o4,o5,o6,o7,o8,o9,o10] #[true,true,true,true,true,true,false,false,false,false,false]).contains 6 = true) (e6:o10.after.any (fun e=>Region.binds .any e && e.on == 6) = true)
  (q7:Region.ready .any #[o0,o1,o2,o3,o4,o5,o6,o7,o8,o9,o10] #[true,true,true,true,true,true,true,false,false,false,false] = [7]) (g7:o7.guard = none)
  (q8:Region.ready .any #[o0,o1,o2,o3,o4,o5,o6,o7,o8,o9,o10] #[true,true,true,true,true,true,true,true,false,false,false] = [8]) (g8:o8.guard = none)
  (q9:Region.ready .any #[o0,o1,o2,o3,o4,o5,o6,o7,o8,o9,o10] #[true,true,true,true,true,true,true,true,true,false,false] = [9]) (g9:o9.guard = none)
  (q10:Region.ready .any #[o0,o1,o2,o3,o4,o5,o6,o7,o8,o9,o10] #[true,true,true,true,true,true,true,true,true,true,false] = [10]) (g10:o10.guard = none)
  (rr:Region.ready .any #[o0,o1,o2,o3,o4,o5,o6,o7,o8,o9,o10] #[true,true,true,true,true,true,true,true,true,true,true] = [])
  (v0 v1 v2 v3 v4 v5 v6:Value) (A0 A1 A2 A3 A4 A5 A6:Act) (T:World→Prop)
  (I0:World→Prop)
  (I1:Value→World→Prop)
  (I2:Value→Value→World→Prop)
  (I3:Value→Value→Value→World→Prop)
  (IE:Value→Value→Value→World→Prop)
  (p0:a.put o0.dst v0 = A0) (hy0:YieldsIf P #[o0,o1,o2,o3,o4,o5,o6,o7,o8,o9,o10] T o0 v0 a)
  (p1:A0.put o1.dst v1 = A1) (hy1:YieldsIf P #[o0,o1,o2,o3,o4,o5,o6,o7,o8,o9,o10] T o1 v1 A0)
  (p2:A1.put o2.dst v2 = A2) (hy2:YieldsIf P #[o0,o1,o2,o3,o4,o5,o6,o7,o8,o9,o10] T o2 v2 A1)
  (p3:A2.put o3.dst v3 = A3) (hy3:YieldsIf P #[o0,o1,o2,o3,o4,o5,o6,o7,o8,o9,o10] T o3 v3 A2)
  (p4:A3.put o4.dst v4 = A4) (hy4:YieldsIf P #[o0,o1,o2,o3,o4,o5,o6,o7,o8,o9,o10] T o4 v4 A3)
  (p5:A4.put o5.dst v5 = A5) (hy5:YieldsIf P #[o0,o1,o2,o3,o4,o5,o6,o7,o8,o9,o10] T o5 v5 A4)
  (p6:A5.put o6.dst v6 = A6) (hy6:YieldsIf P #[o0,o1,o2,o3,o4,o5,o6,o7,o8,o9,o10] T o6 v6 A5)
  (i0:I0 w.drew)
  (hIT:(∀ w',I0  w'→T w')∧(∀ (u0:Value) w',I1 u0 w'→T w')∧(∀ (u0 u1:Value) w',I2 u0 u1 w'→T w')∧(∀ (u0 u1 u2:Value) w',I3 u0 u1 u2 w'→T w'))
  (s0:∀ w',I0  w'→∀ K:Act→World→Prop,(∀ (u0:Value) w2,I1 u0 w2→K (A6.put o7.dst u0) w2)→o7.wp P A6 w' K (NoPanic Q))
  (s1:∀ (u0:Value) w',I1 u0 w'→∀ K:Act→World→Prop,(∀ (u1:Value) w2,I2 u0 u1 w2→K ((A6.put o7.dst u0).put o8.dst u1) w2)→o8.wp P (A6.put o7.dst u0) w' K (NoPanic Q))
  (s2:∀ (u0 u1:Value) w',I2 u0 u1 w'→∀ K:Act→World→Prop,(∀ (u2:Value) w2,I3 u0 u1 u2 w2→K (((A6.put o7.dst u0).put o8.dst u1).put o9.dst u2) w2)→o9.wp P ((A6.put o7.dst u0).put o8.dst u1) w' K (NoPanic Q))
  (se:∀ (u0 u1 u2:Value) w',I3 u0 u1 u2 w'→∀ K:Act→World→Prop,(∀ w2,IE u0 u1 u2 w2→K (((A6.put o7.dst u0).put o8.dst u1).put o9.dst u2) w2)→o10.wp P (((A6.put o7.dst u0).put o8.dst u1).put o9.dst u2) w' K (NoPanic Q))
  (h:∀ (u0 u1 u2:Value) w',IE u0 u1 u2 w'→Q .normal (((A6.put o7.dst u0).put o8.dst u1).put o9.dst u2) w') :
  (Code.region id #[o0,o1,o2,o3,o4,o5,o6,o7,o8,o9,o10] true).wp P Q a w:=by
 subst p0 p1 p2 p3 p4 p5 p6
 obtain ⟨z0,z1,z2,z3⟩:=hIT
 refine wp_region_noPanic ?_
 refine wp_region_any hm ?_
 refine AnyL.any (S:=fun d w'=>d.getD 10 true = false→T w') _ _ _ _ ?_
 show AnyL P .any #[o0,o1,o2,o3,o4,o5,o6,o7,o8,o9,o10] (NoPanic Q) _ 11 #[false,false,false,false,false,false,false,false,false,false,false] a w.drew
 have hSi:∀ i,i≠10→∀ (d:Array Bool) (w':World),((d.setIfInBounds i true).getD 10 true = false→T w')↔(d.getD 10 true = false→T w'):=by
  intro i h4 d w'
  rw [getD_set_ne true h4]
 refine AnyL.take (i:=0) (t:=10) (oi:=o0) (ot:=o10) (T:=T) rfl rfl (by decide) hs f0 r0 e0 (fun _ _ _ h=>h) (fun d w' h9 hd=>h9 hd) (hSi 0 (by decide)) hy0 rfl (fun _=>z0 _ i0) ?_
 refine AnyL.take (i:=1) (t:=10) (oi:=o1) (ot:=o10) (T:=T) rfl rfl (by decide) hs f1 r1 e1 (fun _ _ _ h=>h) (fun d w' h9 hd=>h9 hd) (hSi 1 (by decide)) hy1 rfl (fun _=>z0 _ i0) ?_
 refine AnyL.take (i:=2) (t:=10) (oi:=o2) (ot:=o10) (T:=T) rfl rfl (by decide) hs f2 r2 e2 (fun _ _ _ h=>h) (fun d w' h9 hd=>h9 hd) (hSi 2 (by decide)) hy2 rfl (fun _=>z0 _ i0) ?_
 refine AnyL.take (i:=3) (t:=10) (oi:=o3) (ot:=o10) (T:=T) rfl rfl (by decide) hs f3 r3 e3 (fun _ _ _ h=>h) (fun d w' h9 hd=>h9 hd) (hSi 3 (by decide)) hy3 rfl (fun _=>z0 _ i0) ?_
 refine AnyL.take (i:=4) (t:=10) (oi:=o4) (ot:=o10) (T:=T) rfl rfl (by decide) hs f4 r4 e4 (fun _ _ _ h=>h) (fun d w' h9 hd=>h9 hd) (hSi 4 (by decide)) hy4 rfl (fun _=>z0 _ i0) ?_
 refine AnyL.take (i:=5) (t:=10) (oi:=o5) (ot:=o10) (T:=T) rfl rfl (by decide) hs f5 r5 e5 (fun _ _ _ h=>h) (fun d w' h9 hd=>h9 hd) (hSi 5 (by decide)) hy5 rfl (fun _=>z0 _ i0) ?_
 refine AnyL.take (i:=6) (t:=10) (oi:=o6) (ot:=o10) (T:=T) rfl rfl (by decide) hs f6 r6 e6 (fun _ _ _ h=>h) (fun d w' h9 hd=>h9 hd) (hSi 6 (by decide)) hy6 rfl (fun _=>z0 _ i0) ?_
 refine AnyL.forced q7 rfl g7 (fun K hK=>s0  w.drew i0 K (fun u0 w1 i1=>hK _ _ (fun _=>z1 u0 w1 i1) ?_))
 refine AnyL.forced q8 rfl g8 (fun K hK=>s1 u0 w1 i1 K (fun u1 w2 i2=>hK _ _ (fun _=>z2 u0 u1 w2 i2) ?_))
 refine AnyL.forced q9 rfl g9 (fun K hK=>s2 u0 u1 w2 i2 K (fun u2 w3 i3=>hK _ _ (fun _=>z3 u0 u1 u2 w3 i3) ?_))
 refine AnyL.forced q10 rfl g10 (fun K hK=>se u0 u1 u2 w3 i3 K (fun we ie=>hK _ _ (fun h9=>(by cases h9)) ?_))
 exact ⟨rr,NoPanic.normal (h u0 u1 u2 we ie)⟩
end
end
section
open Go.RowKit Go.BigFrame Go.Maps Go.Sort
theorem Tryz.infoStr:(Tryz.prog.info? 9).map (fun i=>(i.zero,i.size,i.bytes)) = some (some (.string ⟨#[]⟩),1,16):=by kernel_rfl
theorem xb7i {w:World} {H:Nat} {x:Value} {t:TypeId} (h:w.heap[H]? = some (.cells #[x] t (0,0))):RdC 1 w (.slice (some ⟨H,0,none⟩) 1 1) [[x]]:=by
 refine ⟨_,_,_,rfl,rfl,Nat.le_refl _,by omega,fun _=>⟨H,0,rfl,fun i hi j u hu=>?_⟩⟩
 have hi0:i = 0:=by simp at hi; omega
 subst hi0
 simp only [List.getElem_cons_zero] at hu
 match j with
 | 0 =>
  simp only [List.getElem?_cons_zero,Option.some.injEq] at hu
  subst hu
  have h9:=cell_of_row _ _ 0 _ _ _ h
  simpa using h9
 | j + 1=>simp at hu
theorem xa6n (s:List UInt8):encStr s = .string (strU s):=rfl
theorem OwnX.shape {X:List Nat} {w0 w:World} {v:Value} {ts:List (Nat × Value × List En)} (h:OwnX X w0 w v ts):∃ a c,v = .slice a ts.length c:=xa0t h.own
theorem FK.turn {w0 w w':World} {g:Nat} {f f':FSt} {sv bv:Value} {ts:List (Nat × Value × List En)} (h:FK w0 w g f sv bv ts) (k:Kept [g] w w') (hr:w'.heap[g]? = some (.cells (fdC f' sv bv) 110 (0,0))) (h1:f'.sg = f.sg) (h2:f'.bs = f.bs) (h3:f'.last < 18446744073709551616) (h4:f'.ep < 18446744073709551616) (h5:f'.sz < 18446744073709551616):FK w0 w' g f' sv bv ts:=by
 have hg:∀ x∈[g],x < w0.heap.size:=fun x hx=>by rw [List.mem_singleton.1 hx]; exact h.gl
 exact ⟨hr,h.gl,by rw [h1]; exact k.owns h.sg (fun b hb hm=>by have:=(h.sg.lt b hb).1; have:=hg b hm; omega),h.bs.pass k (fun x hx=>Or.inl (hg x hx)),by rw [h2]; exact h.eq,h3,h4,h5⟩
theorem xb4b (l:List (Nat × List En)) (i:Nat) (h:i < l.length):cntB (l.take (i + 1)) = cntB (l.take i) + l[i].2.length:=by
 unfold cntB
 rw [List.take_succ_eq_append_getElem h,List.map_append,List.sum_append]
 simp only [List.map_cons,List.map_nil,List.sum_cons,List.sum_nil,Nat.add_zero]
theorem xa9n {o:Oper} {a:Act} {w:World} {K:Act→World→Prop} {Q:Exit→Act→World→Prop} (T:Nat) (s x:Operand)
  (ho:o.op = .call { callee:=.builtin .append,args:=#[s,x],argTypes:=#[T,T] }) (hty:o.type = T) (v y:Value) (he:a.eval s = v) (hx:a.eval x = y) (u:Value) (w2:World) (hrun:(Builtin.append_ #[T,T] T #[v,y]).run Tryz.prog w = .ok u w2) (hK:K (a.put o.dst u) w2):o.wp Tryz.prog a w K Q:=by
 unfold Oper.wp execOp
 simp only [ho,hty,resolve,invoke,builtin,Sem.run_bind,Sem.run_pure,Result.andThen_ok,List.map_toArray,List.map_cons,List.map_nil,he,hx,hrun]
 exact hK
set_option maxHeartbeats 8000000 in
theorem xb5o (g a b c u:Nat) (z:Int) (s:List UInt8) (f:FSt) (sv bv v2:Value) (ts ss:List (Nat × Value × List En)) (w0 w1 wR w:World) (M:List Nat) (h:FK w0 w g f sv bv ts) (hk:Kept [g] w0 w) (h2:OwnB w1 wR v2 ss) (k:Kept M wR w) (hM:∀ x∈M,x < w1.heap.size∨wR.heap.size≤x) (h01:w0.heap.size≤w1.heap.size) (hv:∀ x,bv.ownBlock = some x→x < w1.heap.size) (hX:∀ x,sv.ownBlock = some x→x < w1.heap.size)
  (hb:b < 18446744073709551616) (hl:ts.length + ss.length≤1000000000000) (hl2:f.sg.length≤1000000000) :
  Calls Tryz.prog 85 #[.pointer (some ⟨g,0,none⟩),.string (strU s),.agg #[.int .u64 (a:Int),.int .u64 (b:Int),.int .u64 (c:Int),.int .i64 z,v2,.int .i64 (u:Int)]] w fun e w'=>∃ sv' bv',e = .returned (.tuple #[])∧FK w0 w' g ⟨f.last,b,(f.sz + cntB (ss.map fun t=>(t.1,t.2.2))) % 18446744073709551616,f.sg++[s],f.bs++ss.map fun t=>(t.1,t.2.2)⟩ sv' bv' (ts++ss)∧Kept [g] w0 w':=by
 obtain ⟨a2,c2,rfl⟩:=xa0t h2.own
 obtain ⟨sa,sc,rfl⟩:=xa0t h.sg
 obtain ⟨ba,bc,rfl⟩:=h.bs.shape
 have hgw:g < w.heap.size:=lt_of_block h.row
 have k1:=(Kept.refl [] w).alloc (.cells #[.int .u64 (a:Int),.int .u64 (b:Int),.int .u64 (c:Int),.int .i64 z,.slice a2 ss.length c2,.int .i64 (u:Int)] 83)
 have hq:=heap_alloc_new w (.cells #[.int .u64 (a:Int),.int .u64 (b:Int),.int .u64 (c:Int),.int .i64 z,.slice a2 ss.length c2,.int .i64 (u:Int)] 83)
 have hr1:=k1.heap h.row (by simp)
 obtain ⟨s0,s1,s2,s3,s4,s5⟩:=scells hq
 obtain ⟨d0,d1,d2,d3,d4⟩:=xa0s hr1
 obtain ⟨z0,z1,z2,z3,z4⟩:=ffroz hr1
 have H:=hide h
 have HK:=hide hk
 have H2:=hide h2
 have HKR:=hide k
 have HM:=hide hM
 have HV:=hide hv
 have HX:=hide hX
 have HK1:=hide k1
 have HQ:=hide hq
 have HR1:=hide hr1
 have HGW:=hide hgw
 have HSZ:=hide k.size
 clear h hk h2 k hM hv hX k1 hq hr1 hgw
 go_enter Tryz.func85,Tryz.ntmps85
 go_upto_region 2 with fail
 have hS:=heap_setCell_same _ g 1 _ _ (.int .u64 (b:Int)) (uh HR1)
 have kS:=(Kept.refl [g] (w.alloc (.cells #[.int .u64 (a:Int),.int .u64 (b:Int),.int .u64 (c:Int),.int .i64 z,.slice a2 ss.length c2,.int .i64 (u:Int)] 83))).setCell (p:=⟨g,1,none⟩) (.inl (by simp)) (.int .u64 (b:Int))
 have hS2:((w.alloc (.cells #[.int .u64 (a:Int),.int .u64 (b:Int),.int .u64 (c:Int),.int .i64 z,.slice a2 ss.length c2,.int .i64 (u:Int)] 83)).setCell ⟨g,1,none⟩ (.int .u64 (b:Int))).heap[g]? = some (.cells (fdC ⟨f.last,b,f.sz,f.sg,f.bs⟩ (.slice sa f.sg.length sc) (.slice ba ts.length bc)) 110 (0,0)):=by rw [hS]; rfl
 have HF2:=hide (((uh H).pass (uh HK1)).turn kS hS2 rfl rfl (uh H).last hb (uh H).szb)
 have HQ2:=hide (kS.heap (uh HQ) (by intro hm; have:=List.mem_singleton.1 hm; have:=uh HGW; omega))
 have HK2:=hide (((uh HK1).mono (M:=[g]) (by simp)).trans kS (by simp))
 clear hS hS2 kS s0 s1 s2 s3 s4 s5 d0 d1 d2 d3 d4 z0 z1 z2 z3 z4
 generalize (w.alloc (.cells #[.int .u64 (a:Int),.int .u64 (b:Int),.int .u64 (c:Int),.int .i64 z,.slice a2 ss.length c2,.int .i64 (u:Int)] 83)).setCell ⟨g,1,none⟩ (.int .u64 (b:Int)) = W2 at HF2 HQ2 HK2 ⊢
 obtain ⟨d0,d1,d2,d3,d4⟩:=xa0s (uh HF2).row
 have HK3:=hide ((Kept.refl [] W2).alloc (.cells #[.string (strU s)] 9))
 have HN3:=hide (xb7i (heap_alloc_new W2 (.cells #[.string (strU s)] 9)))
 have HF3:=hide ((uh HF2).pass (uh HK3))
 have HZ3:=hide (by have:=lt_of_block (uh HF2).row; exact (uh HF3).gl:g < w0.heap.size)
 go_upto_region 3 with (at_builtin; refine xa3y rfl 76 9 (.tmp 18) (.tmp 20) rfl rfl _ w0.heap.size (.string ⟨#[]⟩) 1 16 Tryz.underlying76 Tryz.infoStr rfl (by decide) (.slice sa f.sg.length sc) f.sg.length (f.sg.map encStr) (uh HF3).sg (some ⟨W2.heap.size,0,none⟩) 1 1 [[.string (strU s)]] (uh HN3) (by simp) (by simp [Value.oneCell']) (by omega) (by omega) (uh HF3).bs.sz rfl rfl ?_; intro a5 cap5 w5 HO5 HGR5 HA5; (have HKA:=hide ((Kept.refl ((Value.slice sa f.sg.length sc).ownBlock.toList) _).grown (uh HGR5) (by intro k hk; left; simp [hk]))); (have HR5:=hide ((uh HKA).heap (uh HF3).row (by intro hm; have h9:=((uh HF3).sg.lt g (by simpa using hm)).1; have:=uh HZ3; omega))); (obtain ⟨e0,e1,e2,e3,e4⟩:=xa0s (uh HR5)); (obtain ⟨z0,z1,z2,z3,z4⟩:=ffroz (uh HR5)))
 have hS:=heap_setCell_same _ g 3 _ _ (.slice a5 (f.sg.length + 1) cap5) (uh HR5)
 have kS:=(Kept.refl [g] w5).setCell (p:=⟨g,3,none⟩) (.inl (by simp)) (.slice a5 (f.sg.length + 1) cap5)
 have hS2:(w5.setCell ⟨g,3,none⟩ (.slice a5 (f.sg.length + 1) cap5)).heap[g]? = some (.cells (fdC ⟨f.last,b,f.sz,f.sg++[s],f.bs⟩ (.slice a5 (f.sg.length + 1) cap5) (.slice ba ts.length bc)) 110 (0,0)):=by rw [hS]; rfl
 have hoX:=(uh HF3).bs.pass (uh HKA) (fun x hx=>Or.inr hx)
 have hoY:OwnX (Value.slice a5 (f.sg.length + 1) cap5).ownBlock.toList w0 w5 (.slice ba ts.length bc) ts:=hoX.turn (n:=(W2.alloc (.cells #[.string (strU s)] 9)).heap.size) (fun x hx=>by
  rcases uh HA5 with h9 | h9
  ·rw [h9] at hx; exact Or.inl hx
  ·rw [h9] at hx; simp only [Option.toList_some,List.mem_singleton] at hx; exact Or.inr (by omega)) rfl (uh HF3).bs (uh HKA)
 have hgl:=(uh HF3).gl
 have HF6:=hide (⟨hS2,hgl,by
   have h9:=uh HO5
   rw [List.length_append,List.map_append]
   refine kS.owns h9 (fun x hx hm=>?_)
   have:=(h9.lt x hx).1
   have:=List.mem_singleton.1 hm
   omega,hoY.pass kS (fun x hx=>Or.inl (by rw [List.mem_singleton.1 hx]; exact hgl)),(uh H).eq,(uh H).last,hb,(uh H).szb⟩:FK w0 (w5.setCell ⟨g,3,none⟩ (.slice a5 (f.sg.length + 1) cap5)) g ⟨f.last,b,f.sz,f.sg++[s],f.bs⟩ (.slice a5 (f.sg.length + 1) cap5) (.slice ba ts.length bc) ts)
 have HX6:=hide (fun x hx=>by
   rcases uh HA5 with h9 | h9
   ·rw [h9] at hx; exact Or.inl (uh HX x hx)
   ·rw [h9] at hx
    have h8:=(uh HK2).size
    have h7:=(uh HKR).size
    simp only [Option.some.injEq] at hx
    have h6:(W2.alloc (.cells #[.string (strU s)] 9)).heap.size = W2.heap.size + 1:=by simp
    exact Or.inr (by omega):∀ x,(Value.slice a5 (f.sg.length + 1) cap5).ownBlock = some x→x < w1.heap.size∨wR.heap.size≤x)
 have kA5:Kept (Value.slice sa f.sg.length sc).ownBlock.toList W2 w5:=((uh HK3).mono (by simp)).trans (uh HKA) (fun x hx=>Or.inl hx)
 have HQ6:=hide (kS.heap (kA5.heap (uh HQ2) (by
   intro hm
   have h9:=((uh HF2).sg.lt w.heap.size (by simpa using hm)).2
   have h8:=uh HX w.heap.size (by simpa using hm)
   have h7:=(uh HKR).size
   have h6:=(uh H2).sz
   omega)) (by intro hm; have:=List.mem_singleton.1 hm; have:=uh HGW; omega))
 have HK6:=hide (by
   have h9:Kept (g :: (Value.slice sa f.sg.length sc).ownBlock.toList) w (w5.setCell ⟨g,3,none⟩ (.slice a5 (f.sg.length + 1) cap5)):=(((uh HK2).mono (M:=g :: (Value.slice sa f.sg.length sc).ownBlock.toList) (by simp)).trans kA5 (fun x hx=>Or.inl (by simp [hx]))).trans kS (fun x hx=>Or.inl (by simp at hx; simp [hx]))
   exact h9)
 have HKW6:=hide ((uh HK).trans (uh HK6) (fun x hx=>by
   rcases List.mem_cons.1 hx with rfl | hx
   ·exact Or.inl (by simp)
   ·exact Or.inr ((uh HF2).sg.lt x (by simpa using hx)).1):Kept [g] w0 (w5.setCell ⟨g,3,none⟩ (.slice a5 (f.sg.length + 1) cap5)))
 have HR6:=hide ((uh HKR).mono (M:=M++(g :: (Value.slice sa f.sg.length sc).ownBlock.toList)) (fun x hx=>by simp [hx]) |>.trans (uh HK6) (fun x hx=>Or.inl (by simp at hx; simp [hx])))
 have HM6:=hide (fun x hx=>by
   rcases List.mem_append.1 hx with hx | hx
   ·exact uh HM x hx
   ·rcases List.mem_cons.1 hx with rfl | hx
    ·exact Or.inl (by omega)
    ·exact Or.inl (uh HX x (by simpa using hx)):∀ x∈M++(g :: (Value.slice sa f.sg.length sc).ownBlock.toList),x < w1.heap.size∨wR.heap.size≤x)
 clear hS hS2 kS hoX hoY kA5 d0 d1 d2 d3 d4 e0 e1 e2 e3 e4 z0 z1 z2 z3 z4 HF2 HF3 HO5 HGR5 HKA HR5 HK3 HN3 HQ2 HK2 HA5 HKR HM HX HK HQ HR1 HK1
 generalize (M++(g :: (Value.slice sa f.sg.length sc).ownBlock.toList)) = M6 at HR6 HM6
 generalize w5.setCell ⟨g,3,none⟩ (.slice a5 (f.sg.length + 1) cap5) = W6 at HF6 HQ6 HK6 HKW6 HR6 ⊢
 obtain ⟨d0,d1,d2,d3,d4⟩:=xa0s (uh HF6).row
 obtain ⟨s0,s1,s2,s3,s4,s5⟩:=scells (uh HQ6)
 have HQL:=hide (by intro x hx; have h9:=uh HV x hx; have h8:=(uh H2).sz; have h7:=uh HSZ; omega:∀ x,(Value.slice ba ts.length bc).ownBlock = some x→x≠w.heap.size)
 have HGB:=hide (by intro hm; have h9:=((uh HF6).bs.own.lt g (by simpa using hm)).1; have:=(uh HF6).gl; omega:g∉(Value.slice ba ts.length bc).ownBlock.toList)
 refine wp_c11 (by kernel_rfl) (by kernel_rfl) (by kernel_rfl) (by kernel_rfl) (by kernel_rfl) (by kernel_rfl) (by kernel_rfl) (by kernel_rfl) (by kernel_rfl) (by kernel_rfl) (by kernel_rfl) (by kernel_rfl) (by kernel_rfl) (by kernel_rfl) (by kernel_rfl) (by kernel_rfl) (by kernel_rfl) (by kernel_rfl) (by kernel_rfl) (by kernel_rfl) (by kernel_rfl) (by kernel_rfl) (by kernel_rfl) (by kernel_rfl) rfl (by kernel_rfl) rfl (by kernel_rfl) rfl (by kernel_rfl) rfl (by kernel_rfl)
  (.pointer (some ⟨g,0,none⟩)) (.pointer (some ⟨g,0,none⟩)) (.pointer (some ⟨g,0,none⟩)) (.pointer (some ⟨g,4,none⟩)) (.slice ba ts.length bc) (.pointer (some ⟨w.heap.size,4,none⟩)) (.slice a2 ss.length c2) _ _ _ _ _ _ _
  (fun w'=>Kept (Value.slice ba ts.length bc).ownBlock.toList W6 w')
  (fun w'=>Kept [] W6 w')
  (fun u0 w'=>∃ a8 cap8 wq,u0 = .slice a8 (ts.length + ss.length) cap8∧Kept [] W6 wq∧w'.ownsRow w0.heap.size 129 2 u0 (ts.length + ss.length) (cellsB ts++cellsB ss)∧wq.grownBy w' (Value.slice ba ts.length bc).ownBlock∧(u0.ownBlock = (Value.slice ba ts.length bc).ownBlock∨u0.ownBlock = some wq.heap.size))
  (fun u0 u1 w'=>u1 = .pointer (some ⟨g,0,none⟩)∧∃ a8 cap8 wq,u0 = .slice a8 (ts.length + ss.length) cap8∧Kept [] W6 wq∧w'.ownsRow w0.heap.size 129 2 u0 (ts.length + ss.length) (cellsB ts++cellsB ss)∧wq.grownBy w' (Value.slice ba ts.length bc).ownBlock∧(u0.ownBlock = (Value.slice ba ts.length bc).ownBlock∨u0.ownBlock = some wq.heap.size))
  (fun u0 u1 u2 w'=>u2 = .pointer (some ⟨g,4,none⟩)∧∃ a8 cap8 wq,u0 = .slice a8 (ts.length + ss.length) cap8∧Kept [] W6 wq∧w'.ownsRow w0.heap.size 129 2 u0 (ts.length + ss.length) (cellsB ts++cellsB ss)∧wq.grownBy w' (Value.slice ba ts.length bc).ownBlock∧(u0.ownBlock = (Value.slice ba ts.length bc).ownBlock∨u0.ownBlock = some wq.heap.size))
  (fun u0 u1 u2 w'=>∃ a8 cap8 wq w8,u0 = .slice a8 (ts.length + ss.length) cap8∧Kept [] W6 wq∧w8.ownsRow w0.heap.size 129 2 u0 (ts.length + ss.length) (cellsB ts++cellsB ss)∧wq.grownBy w8 (Value.slice ba ts.length bc).ownBlock∧(u0.ownBlock = (Value.slice ba ts.length bc).ownBlock∨u0.ownBlock = some wq.heap.size)∧w' = w8.setCell ⟨g,4,none⟩ u0)
  (by simp only [Act.put,sa1,sa2,sa3]; rfl) (by exact Or.inl ⟨by rfl,fun W' hW'=>by go_simp⟩)
  (by simp only [Act.put,sa1,sa2,sa3]; rfl) (by exact Or.inl ⟨by rfl,fun W' hW'=>by go_simp⟩)
  (by simp only [Act.put,sa1,sa2,sa3]; rfl) (by exact Or.inl ⟨by rfl,fun W' hW'=>by go_simp⟩)
  (by simp only [Act.put,sa1,sa2,sa3]; rfl) (by exact Or.inl ⟨by rfl,fun W' hW'=>by go_simp⟩)
  (by simp only [Act.put,sa1,sa2,sa3]; rfl) (by exact Or.inl ⟨by rfl,fun W' hW'=>by have h90:=hW'.cell d4 (uh HGB); go_simp⟩)
  (by simp only [Act.put,sa1,sa2,sa3]; rfl) (by exact Or.inl ⟨by rfl,fun W' hW'=>by go_simp⟩)
  (by simp only [Act.put,sa1,sa2,sa3]; rfl) (by exact Or.inl ⟨by rfl,fun W' hW'=>by have h90:=hW'.cell s4 (by intro hm; exact uh HQL _ (by simpa using hm) rfl); go_simp⟩)
  (Kept.refl [] W6).drew
  ⟨fun w' h=>h.mono (by simp),fun u0 w' h=>by obtain ⟨a8,cap8,wq,_,h1,_,h2,_⟩:=h; exact (h1.mono (by simp)).grown h2 (by intro k hk; left; simp [hk]),fun u0 u1 w' h=>by obtain ⟨_,a8,cap8,wq,_,h1,_,h2,_⟩:=h; exact (h1.mono (by simp)).grown h2 (by intro k hk; left; simp [hk]),fun u0 u1 u2 w' h=>by obtain ⟨_,a8,cap8,wq,_,h1,_,h2,_⟩:=h; exact (h1.mono (by simp)).grown h2 (by intro k hk; left; simp [hk])⟩
  (by
   intro w' k K hK
   have hB7:=(uh H2).stay ((uh HR6).trans k (by simp)) (uh HM6)
   have hF7:=(uh HF6).pass k
   obtain ⟨a8,cap8,w8,hrun,h8,hg8,ha8⟩:=appendC w' w0.heap.size 46 129 (.agg #[.int .u64 0,.slice none 0 0]) 2 32 Tryz.underlying46 Tryz.infoBt rfl (by decide) (.slice ba ts.length bc) ts.length (cellsB ts) hF7.bs.own a2 ss.length c2 (ss.map rowB) hB7.rdC (xa8x ss) hB7.oneC (by omega) (by omega) hF7.bs.sz
   rw [xa3o] at h8
   have hK2:=hK _ _ ⟨a8,cap8,w',rfl,k,h8,hg8,ha8⟩
   clear hK
   simp only [Act.put,sa1,sa2,sa3] at hK2 ⊢
   exact xa9n 46 (.tmp 28) (.tmp 30) rfl rfl (.slice ba ts.length bc) (.slice a2 ss.length c2) rfl rfl _ _ hrun hK2)
  (by rintro u0 w' ⟨a8,cap8,wq,rfl,h1,h2,h3,h4⟩ K hK; unfold Oper.wp execOp; go_simp; exact hK _ _ ⟨rfl,a8,cap8,wq,rfl,h1,h2,h3,h4⟩)
  (by rintro u0 u1 w' ⟨rfl,a8,cap8,wq,rfl,h1,h2,h3,h4⟩ K hK; unfold Oper.wp execOp; go_simp; exact hK _ _ ⟨rfl,a8,cap8,wq,rfl,h1,h2,h3,h4⟩)
  (by
   rintro u0 u1 u2 w' ⟨rfl,a8,cap8,wq,rfl,h1,h2,h3,h4⟩ K hK
   have kk:Kept (Value.slice ba ts.length bc).ownBlock.toList W6 w':=(h1.mono (by simp)).grown h3 (by intro k hk; left; simp [hk])
   have hr9:=kk.heap (uh HF6).row (uh HGB)
   have hw9:=(xa0s hr9).2.2.2.2
   have hz9:=(ffroz hr9).2.2.2.2
   unfold Oper.wp execOp
   go_simp
   exact hK _ ⟨a8,cap8,wq,w',rfl,h1,h2,h3,h4,rfl⟩)
  ?_
 rintro u0 u1 u2 w9 ⟨a8,cap8,wq,w8,rfl,kq,ho8,gr8,ha8,rfl⟩
 simp only [Act.put,sa1,sa2,sa3]
 have kk:Kept (Value.slice ba ts.length bc).ownBlock.toList W6 w8:=(kq.mono (by simp)).grown gr8 (by intro k hk; left; simp [hk])
 have hr8:=kk.heap (uh HF6).row (uh HGB)
 have kS:=(Kept.refl [g] w8).setCell (p:=⟨g,4,none⟩) (.inl (by simp)) (.slice a8 (ts.length + ss.length) cap8)
 have hS2:(w8.setCell ⟨g,4,none⟩ (.slice a8 (ts.length + ss.length) cap8)).heap[g]? = some (.cells (fdC ⟨f.last,b,f.sz,f.sg++[s],f.bs++ss.map fun t=>(t.1,t.2.2)⟩ (.slice a5 (f.sg.length + 1) cap5) (.slice a8 (ts.length + ss.length) cap8)) 110 (0,0)):=by rw [heap_setCell_same _ g 4 _ _ _ hr8]; rfl
 have hgl:=(uh HF6).gl
 have hFq:=(uh HF6).pass kq
 have hcat:=hFq.bs.cat (uh H2) ((uh HR6).trans kq (by simp)) (uh HM6) h01 (uh HV) (fun x hx=>uh HX6 x (by simpa using hx)) (fun x hx=>(hFq.sg.lt x (by simpa using hx)).2) ho8 gr8 ha8
 have kA:Kept (Value.slice ba ts.length bc).ownBlock.toList wq w8:=(Kept.refl _ wq).grown gr8 (by intro k hk; left; simp [hk])
 have hsg8:=kA.owns hFq.sg (fun x hx hm=>hFq.bs.ap x (by simpa using hm) (by simpa using hx))
 have HF9:=hide (⟨hS2,hgl,kS.owns hsg8 (fun x hx hm=>by have:=(hsg8.lt x hx).1; have:=List.mem_singleton.1 hm; omega),hcat.pass kS (fun x hx=>Or.inl (by rw [List.mem_singleton.1 hx]; exact hgl)),by rw [(uh H).eq,List.map_append],(uh H).last,hb,(uh H).szb⟩:FK w0 (w8.setCell ⟨g,4,none⟩ (.slice a8 (ts.length + ss.length) cap8)) g ⟨f.last,b,f.sz,f.sg++[s],f.bs++ss.map fun t=>(t.1,t.2.2)⟩ (.slice a5 (f.sg.length + 1) cap5) (.slice a8 (ts.length + ss.length) cap8) (ts++ss))
 have k69:Kept (g :: (Value.slice ba ts.length bc).ownBlock.toList) W6 (w8.setCell ⟨g,4,none⟩ (.slice a8 (ts.length + ss.length) cap8)):=(kk.mono (fun x hx=>by simp [hx])).trans kS (fun x hx=>Or.inl (by simp at hx; simp [hx]))
 have HKW9:=hide ((uh HKW6).trans k69 (fun x hx=>by
   rcases List.mem_cons.1 hx with rfl | hx
   ·exact Or.inl (by simp)
   ·exact Or.inr (hFq.bs.own.lt x (by simpa using hx)).1))
 have HQ9:=hide (k69.heap (uh HQ6) (by
   intro hm
   rcases List.mem_cons.1 hm with h9 | h9
   ·have:=uh HGW; omega
   ·exact uh HQL _ (by simpa using h9) rfl))
 have HB9:=hide ((uh H2).stay (((uh HR6).mono (M:=M6++(g :: (Value.slice ba ts.length bc).ownBlock.toList)) (fun x hx=>by simp [hx])).trans k69 (fun x hx=>Or.inl (by simp at hx; simp [hx]))) (fun x hx=>by
   rcases List.mem_append.1 hx with hx | hx
   ·exact uh HM6 x hx
   ·rcases List.mem_cons.1 hx with rfl | hx
    ·exact Or.inl (by omega)
    ·exact Or.inl (uh HV x (by simpa using hx))))
 clear kk hr8 kS hS2 hFq hcat kA hsg8 k69 d0 d1 d2 d3 d4 s0 s1 s2 s3 s4 s5 kq ho8 gr8 ha8 HF6 HQ6 HK6 HKW6 HR6 HM6 HX6 HQL HGB H2 HV
 generalize w8.setCell ⟨g,4,none⟩ (.slice a8 (ts.length + ss.length) cap8) = W9 at HF9 HKW9 HQ9 HB9 ⊢
 obtain ⟨s0,s1,s2,s3,s4,s5⟩:=scells (uh HQ9)
 go_wp2_with fail
 clear s0 s1 s2 s3 s4 s5
 go_loopw [37] (fun t37 wr=>∃ i:Nat,i≤ss.length∧t37 = .int .i64 (i:Int)∧Hid (FK w0 wr g ⟨f.last,b,(f.sz + cntB ((ss.map fun t=>(t.1,t.2.2)).take i)) % 18446744073709551616,f.sg++[s],f.bs++ss.map fun t=>(t.1,t.2.2)⟩ (.slice a5 (f.sg.length + 1) cap5) (.slice a8 (ts.length + ss.length) cap8) (ts++ss))∧Hid (Kept [g] w0 wr)∧Hid (OwnB w1 wr (.slice a2 ss.length c2) ss)) (fun t _=>ss.length - (intOf t).toNat)
 case atStart=>exact ⟨0,Nat.zero_le _,rfl,hide (by have h9:=uh HF9; rw [List.take_zero,show cntB [] = 0 from rfl,Nat.add_zero,Nat.mod_eq_of_lt (uh H).szb]; exact h9),HKW9,HB9⟩
 case round =>
  obtain ⟨i,hi,rfl,HF,HK,HB⟩:=hrel
  by_cases hlt:i < ss.length
  ·have hlt':(i:Int) < ss.length:=by omega
   have hmi:i < (ss.map fun t=>(t.1,t.2.2)).length:=by rw [List.length_map]; exact hlt
   have HCN:=hide (xb4b (ss.map fun t=>(t.1,t.2.2)) i hmi)
   rw [List.getElem_map] at HCN
   obtain ⟨qa,ql,qc,hq1,hq2,hq3,hq4,hq5⟩:=(uh HB).rdC
   injection hq1 with e1 e2 e3
   subst e1 e2 e3
   obtain ⟨b2,o2,rfl,hcc⟩:=hq5 (by omega)
   have hri:=hcc i (by rw [List.length_map]; exact hlt)
   rw [List.getElem_map] at hri
   have hrn:=(uh HB).rdN ss[i] (List.getElem_mem hlt)
   generalize ss[i] = X at hri hrn HCN
   obtain ⟨pl,y,es⟩:=X
   dsimp only at hrn HCN
   obtain ⟨ea,en,ec,kv,vv,rfl,hen,hecn,hecm,_⟩:=hrn
   subst hen
   have x0:=hri 0 _ rfl
   have x1:=hri 1 _ rfl
   simp only [Nat.add_zero] at x0
   have HLE:=hide (by omega:es.length≤9223372036854775807)
   clear hcc hri hq2 hq3 hq4 hq5 hmi hecn hecm
   have ha1:IntKind.i64.wrap ((i:Int) + 1) = (i:Int) + 1:=by rw [IntKind.wrap_i64]; omega
   go_upto_region 7 with fail
   have k1:=(Kept.refl [] wr).alloc (.cells #[.int .u64 (pl:Int),.slice ea es.length ec] 129)
   have hh1:=heap_alloc_new wr (.cells #[.int .u64 (pl:Int),.slice ea es.length ec] 129)
   have HF1:=hide ((uh HF).pass k1)
   have HK1:=hide ((uh HK).trans k1 (by simp))
   have HB1:=hide ((uh HB).stay k1 (by simp))
   clear x0 x1
   obtain ⟨W1,hW1⟩:∃ W,wr.alloc (.cells #[.int .u64 (pl:Int),.slice ea es.length ec] 129) = W:=⟨_,rfl⟩
   rw [hW1] at HF1 HK1 HB1 hh1 ⊢
   clear hW1 k1 HF HK HB
   obtain ⟨y0,y1⟩:=bcells hh1
   obtain ⟨d0,d1,d2,d3,d4⟩:=xa0s (uh HF1).row
   dsimp only at d2
   have hw2:IntKind.u64.wrap (es.length:Int) = (es.length:Int):=by rw [IntKind.wrap_u64]; have:=uh HLE; omega
   have hw3:IntKind.u64.wrap ((((f.sz + cntB ((ss.map fun t=>(t.1,t.2.2)).take i)) % 18446744073709551616:Nat):Int) + (es.length:Int)) = (((f.sz + cntB ((ss.map fun t=>(t.1,t.2.2)).take (i + 1))) % 18446744073709551616:Nat):Int):=by
    rw [IntKind.wrap_u64,uh HCN]
    omega
   obtain ⟨SZ,hSZ⟩:∃ SZ,(f.sz + cntB ((ss.map fun t=>(t.1,t.2.2)).take i)) % 18446744073709551616 = SZ:=⟨_,rfl⟩
   obtain ⟨SZ2,hSZ2⟩:∃ SZ2,(f.sz + cntB ((ss.map fun t=>(t.1,t.2.2)).take (i + 1))) % 18446744073709551616 = SZ2:=⟨_,rfl⟩
   rw [hSZ,hSZ2] at hw3
   rw [hSZ] at d2 HF1
   have HSZ2:=hide hSZ2
   have HS2B:=hide (by rw [← hSZ2]; exact Nat.mod_lt _ (by omega):SZ2 < 18446744073709551616)
   clear hSZ hSZ2 hh1 d0 d1 d3 d4 HCN
   refine xa0z 9 (by kernel_rfl) (by kernel_rfl) ?_
   simp only [List.take_succ_cons,List.take_zero,List.drop_succ_cons,List.drop_zero]
   repeat (go_big_quiet_step (fail))
   refine wpQuiet_nil ?_
   rintro _ ⟨n5,rfl⟩
   have kD:Kept [] W1 (W1.drewN n5):=(Kept.refl [] W1).drewN n5
   have HF2:=hide ((uh HF1).pass kD)
   have HK2:=hide ((uh HK1).trans kD (by simp))
   have HB2:=hide ((uh HB1).stay kD (by simp))
   clear kD y0 y1 d2 HF1 HK1 HB1
   generalize W1.drewN n5 = W3 at HF2 HK2 HB2 ⊢
   obtain ⟨d0,d1,d2,d3,d4⟩:=xa0s (uh HF2).row
   obtain ⟨z0,z1,z2,z3,z4⟩:=ffroz (uh HF2).row
   dsimp only at d2
   have hS2:(W3.setCell ⟨g,2,none⟩ (.int .u64 (SZ2:Int))).heap[g]? = some (.cells (fdC ⟨f.last,b,SZ2,f.sg++[s],f.bs++ss.map fun t=>(t.1,t.2.2)⟩ (.slice a5 (f.sg.length + 1) cap5) (.slice a8 (ts.length + ss.length) cap8)) 110 (0,0)):=by rw [heap_setCell_same _ g 2 _ _ _ (uh HF2).row]; rfl
   have kS:=(Kept.refl [g] W3).setCell (p:=⟨g,2,none⟩) (.inl (by simp)) (.int .u64 (SZ2:Int))
   have HF3:=hide ((uh HF2).turn kS hS2 rfl rfl (uh HF2).last (uh HF2).ep (uh HS2B))
   have HK3:=hide ((uh HK2).trans kS (fun x hx=>Or.inl hx))
   have HB3:=hide ((uh HB2).stay kS (fun x hx=>Or.inl (by rw [List.mem_singleton.1 hx]; have:=(uh HF2).gl; omega)))
   clear hS2 kS
   go_wp2_with fail
   go_roundw
   case rel=>exact ⟨i + 1,by omega,by simp,hide (by rw [uh HSZ2]; exact uh HF3),HK3,HB3⟩
   case measure=>simp [intOf]; omega
  ·have hlt':¬ (i:Int) < ss.length:=by omega
   have hie:i = ss.length:=by omega
   subst hie
   have hfin:=uh HF
   rw [List.take_of_length_le (by rw [List.length_map]; exact Nat.le_refl _)] at hfin
   have HFI:=hide hfin
   clear hfin
   go_wp2_with fail
   refine bodyPost_end (v:=.tuple #[]) (results_none rfl _ _ _) rfl ⟨rfl,⟨_,_,uh HFI⟩,uh HK⟩
end
section
open Go.RowKit Go.BigFrame
theorem rdL_le:∀ (k:Nat) (p:List Nat) (z i:Nat),(rdL k p z i).1.length≤k
 | 0,p,z,i=>by simp [rdL]
 | k + 1,p,z,i=>by
  rw [rdL]
  split
  ·have:=rdL_le k p (rbN p z i).toNat ((i + (rbE p z i).length) % 18446744073709551616)
   simp only [List.length_cons]
   omega
  ·simp
theorem sgB_le (p:List Nat):(sgB p).length≤p.length:=by
 unfold sgB
 split
 ·exact rdL_le _ _ _ _
 ·simp
def rdT (σ:DSt) (l:List (List UInt8)):Nat:=(l.map fun s=>(stRead σ (strU s)).1.length).sum
theorem xb7f (σ:DSt) (s:List UInt8) (l:List (List UInt8)):rdT σ (s :: l) = (stRead σ (strU s)).1.length + rdT σ l:=by simp [rdT]
def totA (A:List DF):Nat:=(A.map fun f=>f.bs.length).sum
theorem xb3p {A:List DF} (hd:Dist A) {f:DF} (hf:f∈A):findA A f.nm.data.toList = some f:=by
 unfold findA
 have hd2:A.Pairwise fun a b=>a.nm≠b.nm:=hd
 induction hd2 with
 | nil=>simp at hf
 | @cons y l hy hl ih =>
  rcases List.mem_cons.1 hf with rfl | hf
  ·simp
  ·rw [List.find?_cons]
   have hne:(y.nm.data.toList == f.nm.data.toList) = false:=by
    rw [beq_eq_false_iff_ne]
    intro e
    exact hy f hf (ba_ext e)
   rw [hne]
   exact ih hl hf
theorem rdT_le (σ:DSt) (hd:Dist σ.A):rdT σ (nmsOf σ)≤totA σ.A:=by
 unfold rdT nmsOf
 by_cases ho:σ.off = true
 ·rw [if_pos ho]; simp
 ·rw [if_neg ho]
  have hp:(srtN σ.A).Perm (σ.A.map fun f=>f.nm.data.toList):=List.mergeSort_perm _ _
  rw [(hp.map (fun s=>(stRead σ (strU s)).1.length)).sum_nat,List.map_map]
  unfold totA
  apply Nat.le_of_eq
  congr 1
  apply List.map_congr_left
  intro f hf
  simp only [Function.comp]
  unfold stRead
  rw [if_neg ho]
  have h1:(strU f.nm.data.toList).data.toList = f.nm.data.toList:=by simp [strU]
  rw [h1,xb3p hd hf]
theorem xb4y {σ:DSt} {s:List UInt8} (h:s∈nmsOf σ):∃ f∈σ.A,s = f.nm.data.toList:=by
 unfold nmsOf at h
 by_cases ho:σ.off = true
 ·rw [if_pos ho] at h; simp at h
 ·rw [if_neg ho] at h
  have hp:(srtN σ.A).Perm (σ.A.map fun f=>f.nm.data.toList):=List.mergeSort_perm _ _
  obtain ⟨f,hf,e⟩:=List.mem_map.1 (hp.mem_iff.1 h)
  exact ⟨f,hf,e.symm⟩
theorem xb4n (σ:DSt):(nmsOf σ).length≤σ.A.length:=by
 unfold nmsOf
 split
 ·simp
 ·have hp:(srtN σ.A).Perm (σ.A.map fun f=>f.nm.data.toList):=List.mergeSort_perm _ _
  rw [hp.length_eq,List.length_map]
  exact Nat.le_refl _
theorem hd_lt (p:List Nat):(hdC p).a < 18446744073709551616∧(hdC p).b < 18446744073709551616∧(hdC p).c < 18446744073709551616:=by
 unfold hdC hdF
 split
 ·simp
 ·split
  ·exact ⟨beL_lt _,beL_lt _,beL_lt _⟩
  ·simp
theorem nbU_lt (l:List Nat):nbU l < 18446744073709551616:=by
 unfold nbU
 split
 ·exact dv_lt _ 0 (by omega)
 ·omega
def dH (sec:Nat) (op:Int) (A:List DF):DSt:=⟨sec,0,op,false,fun _=>none,A⟩
theorem opE_h (op:Int) (own:Nat) (h:0≤op):opE (fun _=>none) 0 op own = own:=by
 unfold opE
 rw [if_neg (by omega)]
 by_cases h0:own = 0
 ·simp [h0]
 ·simp [h0]
theorem tick_h (sec:Nat) (op:Int) (A C:List DF) (h:0≤op):tick (dH sec op A) C = dH sec (op + 1) C:=by
 unfold tick dH
 simp only [DSt.mk.injEq,true_and,and_true]
 simp
 omega
theorem xb5w {sec:Nat} {op:Int} {A:List DF} {s:ByteArray} (h:0≤op) (hs:isNm s = true) (hn:findA A s.data.toList = none):stCreate (dH sec op A) s = (0,dH sec (op + 1) (A++[⟨s,[],0,false⟩])):=by
 have ho:ownA A s = 0:=by unfold ownA; rw [hs,hn]; rfl
 unfold stCreate
 rw [tick_h sec op A _ h]
 show (if false = true then _ else (opE (fun _=>none) 0 op (ownA A s),_)) = _
 rw [if_neg (by simp),opE_h op _ h]
 show (ownA A s,dH sec (op + 1) (if ownA A s = 0∧opE (fun _=>none) 0 op (ownA A s)≠7 then A++[⟨s,[],0,false⟩] else A)) = _
 rw [opE_h op _ h,ho]
 simp
theorem xa9w {sec:Nat} {op:Int} {A:List DF} {s:ByteArray} (p:List Nat) (h:0≤op) (hn:(findA A s.data.toList).isSome = true):stAppend (dH sec op A) s p = (0,dH sec (op + 1) (upA A s fun f=>{ f with bs:=f.bs++p })):=by
 have hk:appK (dH sec op A) p = p.length:=by
  unfold appK
  show (if opE (fun _=>none) 0 op 0 = 7 then _ else _) = _
  rw [opE_h op 0 h]; simp
 unfold stAppend
 rw [hk,List.take_length,tick_h sec op A _ h,tick_h sec op A _ h]
 show (if false = true then _ else if (findA A s.data.toList).isSome = true then (opE (fun _=>none) 0 op 0,_) else _) = _
 rw [if_neg (by simp),if_pos hn,opE_h op 0 h]
 rfl
theorem sync_h {sec:Nat} {op:Int} {A:List DF} {s:ByteArray} (h:0≤op) (hn:(findA A s.data.toList).isSome = true):stSync (dH sec op A) s = (0,dH sec (op + 1) (upA A s fun f=>{ f with sy:=f.bs.length })):=by
 unfold stSync
 rw [tick_h sec op A _ h,tick_h sec op A _ h]
 show (if false = true then _ else if (findA A s.data.toList).isSome = true then (opE (fun _=>none) 0 op 0,dH sec (op + 1) (if opE (fun _=>none) 0 op 0 = 0 then _ else _)) else _) = _
 rw [if_neg (by simp),if_pos hn,opE_h op 0 h]
 simp
 rfl
theorem xb8v {sec:Nat} {op:Int} {A:List DF} (h:0≤op):stNames (dH sec op A) = (0,dH sec (op + 1) (ndA A)):=by
 unfold stNames
 rw [tick_h sec op A _ h]
 show (if false = true then _ else (opE (fun _=>none) 0 op 0,dH sec (op + 1) (if opE (fun _=>none) 0 op 0 = 0 then _ else _))) = _
 rw [if_neg (by simp),opE_h op 0 h]
 simp
 rfl
theorem xa6r (A:List DF) (s:ByteArray) (F:DF→DF) (x:DF) (hx:x.nm = s) (hA:∀ f∈A,f.nm≠s):upA (A++[x]) s F = A++[F x]:=by
 unfold upA
 rw [List.map_append]
 congr 1
 ·conv=>rhs; rw [← List.map_id A]
  apply List.map_congr_left
  intro f hf
  rw [if_neg (hA f hf)]
  rfl
 ·simp [hx]
theorem xb5t {A:List DF} {s:ByteArray} (h:∀ f∈A,f.nm≠s):findA A s.data.toList = none:=by
 unfold findA
 rw [List.find?_eq_none]
 intro f hf
 simp only [beq_iff_eq]
 intro e
 exact h f hf (ba_ext e)
theorem xa2r {A:List DF} {s:ByteArray} {x:DF} (hx:x.nm = s):(findA (A++[x]) s.data.toList).isSome = true:=by
 unfold findA
 rw [List.find?_isSome]
 exact ⟨x,by simp,by simp [hx]⟩
theorem nmB_ok (n:Nat):isNm (nmB n) = true:=by
 unfold isNm
 rw [xa3d,Bool.and_eq_true]
 refine ⟨by decide,?_⟩
 rw [List.all_eq_true]
 intro b hb
 unfold nmB strB at hb
 simp only [List.mem_map] at hb
 obtain ⟨x,hx,rfl⟩:=hb
 have hx2:x = 115∨x = 101∨x = 103∨x = 45∨(48≤x∧x≤57):=by
  rcases List.mem_append.1 hx with h | h
  ·simp at h; omega
  ·have:=xa7n 20 n x h; omega
 have hm:(UInt8.ofNat x).toNat = x:=by simp; omega
 rw [hm]
 unfold nameB
 simp only [Bool.or_eq_true,decide_eq_true_eq]
 omega
theorem xb4r {sec:Nat} {op:Int} {A:List DF} (n ep fs:Nat) {wd:Int} (h:0≤op) (hw:wideB wd = true) (hA:∀ f∈A,f.nm≠nmB n) :
  stBegin (dH sec op A) n ep fs wd = (0,dH sec (op + 4) (ndA (A++[⟨nmB n,ehB n ep fs wd,48,false⟩]))):=by
 unfold stBegin
 rw [xb5w h (nmB_ok n) (xb5t hA)]
 rw [xa9g (r:=(0,_)) rfl]
 rw [xa9w _ (by omega) (xa2r rfl),xa6r _ _ _ _ rfl hA]
 rw [xa9g (r:=(0,_)) rfl]
 rw [sync_h (by omega) (xa2r rfl),xa6r _ _ _ _ rfl hA]
 rw [xa9g (r:=(0,_)) rfl]
 rw [xb8v (by omega)]
 simp only [List.nil_append,xb5d hw]
 rw [show op + 1 + 1 + 1 + 1 = op + 4 by omega]
end
section
open Go.RowKit Go.BigFrame Go.Maps Go.Sort

theorem DK.old {w w':World} {d nb bb:Nat} {B:List Nat} {σ:DSt} (h:DK w d B nb bb σ) (k:Kept [] w w'):DK w' d B nb bb σ:=h.kept k (by simp)
end
section
open Go Go.RowKit Go.BigFrame
section
variable {P:Program} {Q:Exit→Act→World→Prop}
theorem xb8d {id:Nat} {o0 o1 o2 o3 o4 o5 o6 o7 o8 o9 o10 o11 o12 o13 o14 o15 o16 o17 o18:Oper} {a:Act} {w:World} (hm:P.follows .mixedOrders = true) (hs:Region.noSelect #[o0,o1,o2,o3,o4,o5,o6,o7,o8,o9,o10,o11,o12,o13,o14,o15,o16,o17,o18] = true)
  (f0:Region.free .any #[o0,o1,o2,o3,o4,o5,o6,o7,o8,o9,o10,o11,o12,o13,o14,o15,o16,o17,o18] #[false,false,false,false,false,false,false,false,false,false,false,false,false,false,false,false,false,false,false] 0 = true) (r0:(Region.ready .any #[o0,o1,o2,o3,o4,o5,o6,o7,o8,o9,o10,o11,o12,o13,o14,o15,o16,o17,o18] #[false,false,false,false,false,false,false,false,false,false,false,false,false,false,false,false,false,false,false]).contains 0 = true)
  (f1:Region.free .any #[o0,o1,o2,o3,o4,o5,o6,o7,o8,o9,o10,o11,o12,o13,o14,o15,o16,o17,o18] #[true,false,false,false,false,false,false,false,false,false,false,false,false,false,false,false,false,false,false] 1 = true) (r1:(Region.ready .any #[o0,o1,o2,o3,o4,o5,o6,o7,o8,o9,o10,o11,o12,o13,o14,o15,o16,o17,o18] #[true,false,false,false,false,false,false,false,false,false,false,false,false,false,false,false,false,false,false]).contains 1 = true)
  (f2:Region.free .any #[o0,o1,o2,o3,o4,o5,o6,o7,o8,o9,o10,o11,o12,o13,o14,o15,o16,o17,o18] #[true,true,false,false,false,false,false,false,false,false,false,false,false,false,false,false,false,false,false] 2 = true) (r2:(Region.ready .any #[o0,o1,o2,o3,o4,o5,o6,o7,o8,o9,o10,o11,o12,o13,o14,o15,o16,o17,o18] #[true,true,false,false,false,false,false,false,false,false,false,false,false,false,false,false,false,false,false]).contains 2 = true)
  (f3:Region.free .any #[o0,o1,o2,o3,o4,o5,o6,o7,o8,o9,o10,o11,o12,o13,o14,o15,o16,o17,o18] #[true,true,true,false,false,false,false,false,false,false,false,false,false,false,false,false,false,false,false] 3 = true) (r3:(Region.ready .any #[o0,o1,o2,o3,o4,o5,o6,o7,o8,o9,o10,o11,o12,o13,o14,o15,o16,o17,o18] #[true,true,true,false,false,false,false,false,false,false,false,false,false,false,false,false,false,false,false]).contains 3 = true)
  (f4:Region.free .any #[o0,o1,o2,o3,o4,o5,o6,o7,o8,o9,o10,o11,o12,o13,o14,o15,o16,o17,o18] #[true,true,true,true,false,false,false,false,false,false,false,false,false,false,false,false,false,false,false] 4 = true) (r4:(Region.ready .any #[o0,o1,o2,o3,o4,o5,o6,o7,o8,o9,o10,o11,o12,o13,o14,o15,o16,o17,o18] #[true,true,true,true,false,false,false,false,false,false,false,false,false,false,false,false,false,false,false]).contains 4 = true)
  (f5:Region.free .any #[o0,o1,o2,o3,o4,o5,o6,o7,o8,o9,o10,o11,o12,o13,o14,o15,o16,o17,o18] #[true,true,true,true,true,false,false,false,false,false,false,false,false,false,false,false,false,false,false] 5 = true) (r5:(Region.ready .any #[o0,o1,o2,o3,o4,o5,o6,o7,o8,o9,o10,o11,o12,o13,o14,o15,o16,o17,o18] #[true,true,true,true,true,false,false,false,false,false,false,false,false,false,false,false,false,false,false]).contains 5 = true)
  (f7:Region.free .any #[o0,o1,o2,o3,o4,o5,o6,o7,o8,o9,o10,o11,o12,o13,o14,o15,o16,o17,o18] #[true,true,true,true,true,true,false,false,false,false,false,false,false,false,false,false,false,false,false] 7 = true) (r7:(Region.ready .any #[o0,o1,o2,o3,o4,o5,o6,o7,o8,o9,o10,o11,o12,o13,o14,o15,o16,o17,o18] #[true,true,true,true,true,true,false,false,false,false,false,false,false,false,false,false,false,false,false]).contains 7 = true)
  (f8:Region.free .any #[o0,o1,o2,o3,o4,o5,o6,o7,o8,o9,o10,o11,o12,o13,o14,o15,o16,o17,o18] #[true,true,true,true,true,true,false,true,false,false,false,false,false,false,false,false,false,false,false] 8 = true) (r8:(Region.ready .any #[o0,o1,o2,o3,o4,o5,o6,o7,o8,o9,o10,o11,o12,o13,o14,o15,o16,o17,o18] #[true,true,true,true,true,true,false,true,false,false,false,false,false,false,false,false,false,false,false]).contains 8 = true)
  (f9:Region.free .any #[o0,o1,o2,o3,o4,o5,o6,o7,o8,o9,o10,o11,o12,o13,o14,o15,o16,o17,o18] #[true,true,true,true,true,true,false,true,true,false,false,false,false,false,false,false,false,false,false] 9 = true) (r9:(Region.ready .any #[o0,o1,o2,o3,o4,o5,o6,o7,o8,o9,o10,o11,o12,o13,o14,o15,o16,o17,o18] #[true,true,true,true,true,true,false,true,true,false,false,false,false,false,false,false,false,false,false]).contains 9 = true)
  (f10:Region.free .any #[o0,o1,o2,o3,o4,o5,o6,o7,o8,o9,o10,o11,o12,o13,o14,o15,o16,o17,o18] #[true,true,true,true,true,true,false,true,true,true,false,false,false,false,false,false,false,false,false] 10 = true) (r10:(Region.ready .any #[o0,o1,o2,o3,o4,o5,o6,o7,o8,o9,o10,o11,o12,o13,o14,o15,o16,o17,o18] #[true,true,true,true,true,true,false,true,true,true,false,false,false,false,false,false,false,false,false]).contains 10 = true)
  (f11:Region.free .any #[o0,o1,o2,o3,o4,o5,o6,o7,o8,o9,o10,o11,o12,o13,o14,o15,o16,o17,o18] #[true,true,true,true,true,true,false,true,true,true,true,false,false,false,false,false,false,false,false] 11 = true) (r11:(Region.ready .any #[o0,o1,o2,o3,o4,o5,o6,o7,o8,o9,o10,o11,o12,o13,o14,o15,o16,o17,o18] #[true,true,true,true,true,true,false,true,true,true,true,false,false,false,false,false,false,false,false]).contains 11 = true)
  (f12:Region.free .any #[o0,o1,o2,o3,o4,o5,o6,o7,o8,o9,o10,o11,o12,o13,o14,o15,o16,o17,o18] #[true,true,true,true,true,true,false,true,true,true,true,true,false,false,false,false,false,false,false] 12 = true) (r12:(Region.ready .any #[o0,o1,o2,o3,o4,o5,o6,o7,o8,o9,o10,o11,o12,o13,o14,o15,o16,o17,o18] #[true,true,true,true,true,true,false,true,true,true,true,true,false,false,false,false,false,false,false]).contains 12 = true)
  (f13:Region.free .any #[o0,o1,o2,o3,o4,o5,o6,o7,o8,o9,o10,o11,o12,o13,o14,o15,o16,o17,o18] #[true,true,true,true,true,true,false,true,true,true,true,true,true,false,false,false,false,false,false] 13 = true) (r13:(Region.ready .any #[o0,o1,o2,o3,o4,o5,o6,o7,o8,o9,o10,o11,o12,o13,o14,o15,o16,o17,o18] #[true,true,true,true,true,true,false,true,true,true,true,true,true,false,false,false,false,false,false]).contains 13 = true)
  (f14:Region.free .any #[o0,o1,o2,o3,o4,o5,o6,o7,o8,o9,o10,o11,o12,o13,o14,o15,o16,o17,o18] #[true,true,true,true,true,true,false,true,true,true,true,true,true,true,false,false,false,false,false] 14 = true) (r14:(Region.ready .any #[o0,o1,o2,o3,o4,o5,o6,o7,o8,o9,o10,o11,o12,o13,o14,o15,o16,o17,o18] #[true,true,true,true,true,true,false,true,true,true,true,true,true,true,false,false,false,false,false]).contains 14 = true)
  (q_:Region.ready .any #[o0,o1,o2,o3,o4,o5,o6,o7,o8,o9,o10,o11,o12,o13,o14,o15,o16,o17,o18] #[true,true,true,true,true,true,false,true,true,true,true,true,true,true,true,false,false,false,false] = [6])
  (f_6_15:Region.free .any #[o0,o1,o2,o3,o4,o5,o6,o7,o8,o9,o10,o11,o12,o13,o14,o15,o16,o17,o18] #[true,true,true,true,true,true,true,true,true,true,true,true,true,true,true,false,false,false,false] 15 = true) (r_6_15:(Region.ready .any #[o0,o1,o2,o3,o4,o5,o6,o7,o8,o9,o10,o11,o12,o13,o14,o15,o16,o17,o18] #[true,true,true,true,true,true,true,true,true,true,true,true,true,true,true,false,false,false,false]).contains 15 = true)
  (q6_:Region.ready .any #[o0,o1,o2,o3,o4,o5,o6,o7,o8,o9,o10,o11,o12,o13,o14,o15,o16,o17,o18] #[true,true,true,true,true,true,true,true,true,true,true,true,true,true,true,true,false,false,false] = [16])
  (q6_16_:Region.ready .any #[o0,o1,o2,o3,o4,o5,o6,o7,o8,o9,o10,o11,o12,o13,o14,o15,o16,o17,o18] #[true,true,true,true,true,true,true,true,true,true,true,true,true,true,true,true,true,false,false] = [17])
  (f6_16_17_18:Region.free .any #[o0,o1,o2,o3,o4,o5,o6,o7,o8,o9,o10,o11,o12,o13,o14,o15,o16,o17,o18] #[true,true,true,true,true,true,true,true,true,true,true,true,true,true,true,true,true,true,false] 18 = true) (r6_16_17_18:(Region.ready .any #[o0,o1,o2,o3,o4,o5,o6,o7,o8,o9,o10,o11,o12,o13,o14,o15,o16,o17,o18] #[true,true,true,true,true,true,true,true,true,true,true,true,true,true,true,true,true,true,false]).contains 18 = true)
  (q6_16_17_:Region.ready .any #[o0,o1,o2,o3,o4,o5,o6,o7,o8,o9,o10,o11,o12,o13,o14,o15,o16,o17,o18] #[true,true,true,true,true,true,true,true,true,true,true,true,true,true,true,true,true,true,true] = [])
  (g6:o6.guard = none)    (g16:o16.guard = none)    (g17:o17.guard = none)
  (v0 v1 v2 v3 v4 v5 v7 v8 v9 v10 v11 v12 v13 v14:Value) (A0 A1 A2 A3 A4 A5 A6 A7 A8 A9 A10 A11 A12 A13:Act)
  (S:World→Prop)
  (I_:World→Prop)
  (I6_:Value→World→Prop)
  (I6_16_:Value→Value→World→Prop)
  (I6_16_17_:Value→Value→Value→World→Prop)
  (v15:Value→Value)
  (v18:Value→Value→Value→Value)
  (p0:a.put o0.dst v0 = A0) (hy0:YieldsIf P #[o0,o1,o2,o3,o4,o5,o6,o7,o8,o9,o10,o11,o12,o13,o14,o15,o16,o17,o18] S o0 v0 a)
  (p1:A0.put o1.dst v1 = A1) (hy1:YieldsIf P #[o0,o1,o2,o3,o4,o5,o6,o7,o8,o9,o10,o11,o12,o13,o14,o15,o16,o17,o18] S o1 v1 A0)
  (p2:A1.put o2.dst v2 = A2) (hy2:YieldsIf P #[o0,o1,o2,o3,o4,o5,o6,o7,o8,o9,o10,o11,o12,o13,o14,o15,o16,o17,o18] S o2 v2 A1)
  (p3:A2.put o3.dst v3 = A3) (hy3:YieldsIf P #[o0,o1,o2,o3,o4,o5,o6,o7,o8,o9,o10,o11,o12,o13,o14,o15,o16,o17,o18] S o3 v3 A2)
  (p4:A3.put o4.dst v4 = A4) (hy4:YieldsIf P #[o0,o1,o2,o3,o4,o5,o6,o7,o8,o9,o10,o11,o12,o13,o14,o15,o16,o17,o18] S o4 v4 A3)
  (p5:A4.put o5.dst v5 = A5) (hy5:YieldsIf P #[o0,o1,o2,o3,o4,o5,o6,o7,o8,o9,o10,o11,o12,o13,o14,o15,o16,o17,o18] S o5 v5 A4)
  (p7:A5.put o7.dst v7 = A6) (hy7:YieldsIf P #[o0,o1,o2,o3,o4,o5,o6,o7,o8,o9,o10,o11,o12,o13,o14,o15,o16,o17,o18] S o7 v7 A5)
  (p8:A6.put o8.dst v8 = A7) (hy8:YieldsIf P #[o0,o1,o2,o3,o4,o5,o6,o7,o8,o9,o10,o11,o12,o13,o14,o15,o16,o17,o18] S o8 v8 A6)
  (p9:A7.put o9.dst v9 = A8) (hy9:YieldsIf P #[o0,o1,o2,o3,o4,o5,o6,o7,o8,o9,o10,o11,o12,o13,o14,o15,o16,o17,o18] S o9 v9 A7)
  (p10:A8.put o10.dst v10 = A9) (hy10:YieldsIf P #[o0,o1,o2,o3,o4,o5,o6,o7,o8,o9,o10,o11,o12,o13,o14,o15,o16,o17,o18] S o10 v10 A8)
  (p11:A9.put o11.dst v11 = A10) (hy11:YieldsIf P #[o0,o1,o2,o3,o4,o5,o6,o7,o8,o9,o10,o11,o12,o13,o14,o15,o16,o17,o18] S o11 v11 A9)
  (p12:A10.put o12.dst v12 = A11) (hy12:YieldsIf P #[o0,o1,o2,o3,o4,o5,o6,o7,o8,o9,o10,o11,o12,o13,o14,o15,o16,o17,o18] S o12 v12 A10)
  (p13:A11.put o13.dst v13 = A12) (hy13:YieldsIf P #[o0,o1,o2,o3,o4,o5,o6,o7,o8,o9,o10,o11,o12,o13,o14,o15,o16,o17,o18] S o13 v13 A11)
  (p14:A12.put o14.dst v14 = A13) (hy14:YieldsIf P #[o0,o1,o2,o3,o4,o5,o6,o7,o8,o9,o10,o11,o12,o13,o14,o15,o16,o17,o18] S o14 v14 A12)
  (i0:I_ w.drew)
  (hIS:(∀ w',I_  w'→S w')∧(∀ (u6:Value) w',I6_ u6 w'→S w')∧(∀ (u6 u16:Value) w',I6_16_ u6 u16 w'→S w')∧(∀ (u6 u16 u17:Value) w',I6_16_17_ u6 u16 u17 w'→S w'))
  (s_6:∀ w',I_  w'→∀ K:Act→World→Prop,(∀ (u6:Value) w2,I6_ u6 w2→K (A13.put o6.dst u6) w2)→o6.wp P A13 w' K (NoPanic Q))
  (s6_16:∀ (u6:Value) w',I6_ u6 w'→∀ K:Act→World→Prop,(∀ (u16:Value) w2,I6_16_ u6 u16 w2→K (((A13.put o6.dst u6).put o15.dst (v15 u6)).put o16.dst u16) w2)→o16.wp P ((A13.put o6.dst u6).put o15.dst (v15 u6)) w' K (NoPanic Q))
  (s6_16_17:∀ (u6 u16:Value) w',I6_16_ u6 u16 w'→∀ K:Act→World→Prop,(∀ (u17:Value) w2,I6_16_17_ u6 u16 u17 w2→K ((((A13.put o6.dst u6).put o15.dst (v15 u6)).put o16.dst u16).put o17.dst u17) w2)→o17.wp P (((A13.put o6.dst u6).put o15.dst (v15 u6)).put o16.dst u16) w' K (NoPanic Q))
  (y_6_15:∀ (u6:Value) w',I6_ u6 w'→YieldsIf P #[o0,o1,o2,o3,o4,o5,o6,o7,o8,o9,o10,o11,o12,o13,o14,o15,o16,o17,o18] S o15 (v15 u6) (A13.put o6.dst u6))
  (y6_16_17_18:∀ (u6 u16 u17:Value) w',I6_16_17_ u6 u16 u17 w'→YieldsIf P #[o0,o1,o2,o3,o4,o5,o6,o7,o8,o9,o10,o11,o12,o13,o14,o15,o16,o17,o18] S o18 (v18 u6 u16 u17) ((((A13.put o6.dst u6).put o15.dst (v15 u6)).put o16.dst u16).put o17.dst u17))
  (h:∀ (u6 u16 u17:Value) w',I6_16_17_ u6 u16 u17 w'→Q .normal (((((A13.put o6.dst u6).put o15.dst (v15 u6)).put o16.dst u16).put o17.dst u17).put o18.dst (v18 u6 u16 u17)) w') :
  (Code.region id #[o0,o1,o2,o3,o4,o5,o6,o7,o8,o9,o10,o11,o12,o13,o14,o15,o16,o17,o18] true).wp P Q a w:=by
 subst p0 p1 p2 p3 p4 p5 p7 p8 p9 p10 p11 p12 p13 p14
 obtain ⟨z_,z6_,z6_16_,z6_16_17_⟩:=hIS
 refine wp_region_noPanic ?_
 refine wp_region_held_drew (S:=S) hm (z_ _ i0) (fun hH=>?_)
 show wpAnyH P .any #[o0,o1,o2,o3,o4,o5,o6,o7,o8,o9,o10,o11,o12,o13,o14,o15,o16,o17,o18] (NoPanic Q) S 19 #[false,false,false,false,false,false,false,false,false,false,false,false,false,false,false,false,false,false,false] a w.drew
 refine wpAnyH_take (i:=0) (oi:=o0) rfl hs f0 r0 (fun _ _ _ h=>h) hy0 hH ?_
 refine wpAnyH_take (i:=1) (oi:=o1) rfl hs f1 r1 (fun _ _ _ h=>h) hy1 hH ?_
 refine wpAnyH_take (i:=2) (oi:=o2) rfl hs f2 r2 (fun _ _ _ h=>h) hy2 hH ?_
 refine wpAnyH_take (i:=3) (oi:=o3) rfl hs f3 r3 (fun _ _ _ h=>h) hy3 hH ?_
 refine wpAnyH_take (i:=4) (oi:=o4) rfl hs f4 r4 (fun _ _ _ h=>h) hy4 hH ?_
 refine wpAnyH_take (i:=5) (oi:=o5) rfl hs f5 r5 (fun _ _ _ h=>h) hy5 hH ?_
 refine wpAnyH_take (i:=7) (oi:=o7) rfl hs f7 r7 (fun _ _ _ h=>h) hy7 hH ?_
 refine wpAnyH_take (i:=8) (oi:=o8) rfl hs f8 r8 (fun _ _ _ h=>h) hy8 hH ?_
 refine wpAnyH_take (i:=9) (oi:=o9) rfl hs f9 r9 (fun _ _ _ h=>h) hy9 hH ?_
 refine wpAnyH_take (i:=10) (oi:=o10) rfl hs f10 r10 (fun _ _ _ h=>h) hy10 hH ?_
 refine wpAnyH_take (i:=11) (oi:=o11) rfl hs f11 r11 (fun _ _ _ h=>h) hy11 hH ?_
 refine wpAnyH_take (i:=12) (oi:=o12) rfl hs f12 r12 (fun _ _ _ h=>h) hy12 hH ?_
 refine wpAnyH_take (i:=13) (oi:=o13) rfl hs f13 r13 (fun _ _ _ h=>h) hy13 hH ?_
 refine wpAnyH_take (i:=14) (oi:=o14) rfl hs f14 r14 (fun _ _ _ h=>h) hy14 hH ?_
 generalize ((((((((((((((a.put o0.dst v0).put o1.dst v1).put o2.dst v2).put o3.dst v3).put o4.dst v4).put o5.dst v5).put o7.dst v7).put o8.dst v8).put o9.dst v9).put o10.dst v10).put o11.dst v11).put o12.dst v12).put o13.dst v13).put o14.dst v14) = B at *
 have wa6:∀ y,Region.wanted o6 y = true:=fun y=>by unfold Region.wanted; rw [g6]
 have wa16:∀ y,Region.wanted o16 y = true:=fun y=>by unfold Region.wanted; rw [g16]
 have wa17:∀ y,Region.wanted o17 y = true:=fun y=>by unfold Region.wanted; rw [g17]
 have t6_16_17_:∀ (u6 u16 u17:Value) w',I6_16_17_ u6 u16 u17 w'→wpAnyH P .any #[o0,o1,o2,o3,o4,o5,o6,o7,o8,o9,o10,o11,o12,o13,o14,o15,o16,o17,o18] (NoPanic Q) S 0 #[true,true,true,true,true,true,true,true,true,true,true,true,true,true,true,true,true,true,true] (((((B.put o6.dst u6).put o15.dst (v15 u6)).put o16.dst u16).put o17.dst u17).put o18.dst (v18 u6 u16 u17)) w':=by
  intro u6 u16 u17 w0 i0
  exact ⟨q6_16_17_,NoPanic.normal (h u6 u16 u17 w0 i0)⟩
 have t6_16_:∀ (u6 u16:Value) w',I6_16_ u6 u16 w'→wpAnyH P .any #[o0,o1,o2,o3,o4,o5,o6,o7,o8,o9,o10,o11,o12,o13,o14,o15,o16,o17,o18] (NoPanic Q) S 2 #[true,true,true,true,true,true,true,true,true,true,true,true,true,true,true,true,true,false,false] (((B.put o6.dst u6).put o15.dst (v15 u6)).put o16.dst u16) w':=by
  intro u6 u16 w0 i0
  refine wpAnyH_ready (rs:=[17]) q6_16_ (by simp) (AllReadyH.cons (o:=o17) rfl (fun K hK=>?_) AllReadyH.nil)
  ·rw [if_pos (wa17 _)]
   refine s6_16_17 u6 u16 w0 i0 K (fun u17 w1 i1=>hK.out _ _ (z6_16_17_ u6 u16 u17 w1 i1) (fun _=>?_))
   clear hK
   refine wpAnyH_take (i:=18) (oi:=o18) rfl hs f6_16_17_18 r6_16_17_18 (fun _ _ _ h=>h) (y6_16_17_18 u6 u16 u17 w1 i1) (z6_16_17_ u6 u16 u17 w1 i1) ?_
   exact t6_16_17_ u6 u16 u17 w1 i1
 have t6_:∀ (u6:Value) w',I6_ u6 w'→wpAnyH P .any #[o0,o1,o2,o3,o4,o5,o6,o7,o8,o9,o10,o11,o12,o13,o14,o15,o16,o17,o18] (NoPanic Q) S 3 #[true,true,true,true,true,true,true,true,true,true,true,true,true,true,true,true,false,false,false] ((B.put o6.dst u6).put o15.dst (v15 u6)) w':=by
  intro u6 w0 i0
  refine wpAnyH_ready (rs:=[16]) q6_ (by simp) (AllReadyH.cons (o:=o16) rfl (fun K hK=>?_) AllReadyH.nil)
  ·rw [if_pos (wa16 _)]
   refine s6_16 u6 w0 i0 K (fun u16 w1 i1=>hK.out _ _ (z6_16_ u6 u16 w1 i1) (fun _=>?_))
   clear hK
   exact t6_16_ u6 u16 w1 i1
 have t_:∀ w',I_  w'→wpAnyH P .any #[o0,o1,o2,o3,o4,o5,o6,o7,o8,o9,o10,o11,o12,o13,o14,o15,o16,o17,o18] (NoPanic Q) S 5 #[true,true,true,true,true,true,false,true,true,true,true,true,true,true,true,false,false,false,false] B w':=by
  intro w0 i0
  refine wpAnyH_ready (rs:=[6]) q_ (by simp) (AllReadyH.cons (o:=o6) rfl (fun K hK=>?_) AllReadyH.nil)
  ·rw [if_pos (wa6 _)]
   refine s_6  w0 i0 K (fun u6 w1 i1=>hK.out _ _ (z6_ u6 w1 i1) (fun _=>?_))
   clear hK
   refine wpAnyH_take (i:=15) (oi:=o15) rfl hs f_6_15 r_6_15 (fun _ _ _ h=>h) (y_6_15 u6 w1 i1) (z6_ u6 w1 i1) ?_
   exact t6_ u6 w1 i1
 exact t_ w.drew i0
theorem xb8t {id:Nat} {o0 o1 o2 o3 o4 o5 o6 o7 o8 o9 o10 o11 o12:Oper} {a:Act} {w:World} (hm:P.follows .mixedOrders = true) (hs:Region.noSelect #[o0,o1,o2,o3,o4,o5,o6,o7,o8,o9,o10,o11,o12] = true)
  (f0:Region.free .any #[o0,o1,o2,o3,o4,o5,o6,o7,o8,o9,o10,o11,o12] #[false,false,false,false,false,false,false,false,false,false,false,false,false] 0 = true) (r0:(Region.ready .any #[o0,o1,o2,o3,o4,o5,o6,o7,o8,o9,o10,o11,o12] #[false,false,false,false,false,false,false,false,false,false,false,false,false]).contains 0 = true)
  (f1:Region.free .any #[o0,o1,o2,o3,o4,o5,o6,o7,o8,o9,o10,o11,o12] #[true,false,false,false,false,false,false,false,false,false,false,false,false] 1 = true) (r1:(Region.ready .any #[o0,o1,o2,o3,o4,o5,o6,o7,o8,o9,o10,o11,o12] #[true,false,false,false,false,false,false,false,false,false,false,false,false]).contains 1 = true)
  (f2:Region.free .any #[o0,o1,o2,o3,o4,o5,o6,o7,o8,o9,o10,o11,o12] #[true,true,false,false,false,false,false,false,false,false,false,false,false] 2 = true) (r2:(Region.ready .any #[o0,o1,o2,o3,o4,o5,o6,o7,o8,o9,o10,o11,o12] #[true,true,false,false,false,false,false,false,false,false,false,false,false]).contains 2 = true)
  (f3:Region.free .any #[o0,o1,o2,o3,o4,o5,o6,o7,o8,o9,o10,o11,o12] #[true,true,true,false,false,false,false,false,false,false,false,false,false] 3 = true) (r3:(Region.ready .any #[o0,o1,o2,o3,o4,o5,o6,o7,o8,o9,o10,o11,o12] #[true,true,true,false,false,false,false,false,false,false,false,false,false]).contains 3 = true)
  (f4:Region.free .any #[o0,o1,o2,o3,o4,o5,o6,o7,o8,o9,o10,o11,o12] #[true,true,true,true,false,false,false,false,false,false,false,false,false] 4 = true) (r4:(Region.ready .any #[o0,o1,o2,o3,o4,o5,o6,o7,o8,o9,o10,o11,o12] #[true,true,true,true,false,false,false,false,false,false,false,false,false]).contains 4 = true)
  (f6:Region.free .any #[o0,o1,o2,o3,o4,o5,o6,o7,o8,o9,o10,o11,o12] #[true,true,true,true,true,false,false,false,false,false,false,false,false] 6 = true) (r6:(Region.ready .any #[o0,o1,o2,o3,o4,o5,o6,o7,o8,o9,o10,o11,o12] #[true,true,true,true,true,false,false,false,false,false,false,false,false]).contains 6 = true)
  (f7:Region.free .any #[o0,o1,o2,o3,o4,o5,o6,o7,o8,o9,o10,o11,o12] #[true,true,true,true,true,false,true,false,false,false,false,false,false] 7 = true) (r7:(Region.ready .any #[o0,o1,o2,o3,o4,o5,o6,o7,o8,o9,o10,o11,o12] #[true,true,true,true,true,false,true,false,false,false,false,false,false]).contains 7 = true)
  (f8:Region.free .any #[o0,o1,o2,o3,o4,o5,o6,o7,o8,o9,o10,o11,o12] #[true,true,true,true,true,false,true,true,false,false,false,false,false] 8 = true) (r8:(Region.ready .any #[o0,o1,o2,o3,o4,o5,o6,o7,o8,o9,o10,o11,o12] #[true,true,true,true,true,false,true,true,false,false,false,false,false]).contains 8 = true)
  (f9:Region.free .any #[o0,o1,o2,o3,o4,o5,o6,o7,o8,o9,o10,o11,o12] #[true,true,true,true,true,false,true,true,true,false,false,false,false] 9 = true) (r9:(Region.ready .any #[o0,o1,o2,o3,o4,o5,o6,o7,o8,o9,o10,o11,o12] #[true,true,true,true,true,false,true,true,true,false,false,false,false]).contains 9 = true)
  (q_:Region.ready .any #[o0,o1,o2,o3,o4,o5,o6,o7,o8,o9,o10,o11,o12] #[true,true,true,true,true,false,true,true,true,true,false,false,false] = [5])
  (f_5_10:Region.free .any #[o0,o1,o2,o3,o4,o5,o6,o7,o8,o9,o10,o11,o12] #[true,true,true,true,true,true,true,true,true,true,false,false,false] 10 = true) (r_5_10:(Region.ready .any #[o0,o1,o2,o3,o4,o5,o6,o7,o8,o9,o10,o11,o12] #[true,true,true,true,true,true,true,true,true,true,false,false,false]).contains 10 = true)
  (q5_:Region.ready .any #[o0,o1,o2,o3,o4,o5,o6,o7,o8,o9,o10,o11,o12] #[true,true,true,true,true,true,true,true,true,true,true,false,false] = [11])
  (q5_11_:Region.ready .any #[o0,o1,o2,o3,o4,o5,o6,o7,o8,o9,o10,o11,o12] #[true,true,true,true,true,true,true,true,true,true,true,true,false] = [12])
  (q5_11_12_:Region.ready .any #[o0,o1,o2,o3,o4,o5,o6,o7,o8,o9,o10,o11,o12] #[true,true,true,true,true,true,true,true,true,true,true,true,true] = [])
  (g5:o5.guard = none)    (g11:o11.guard = none)    (g12:o12.guard = none)
  (v0 v1 v2 v3 v4 v6 v7 v8 v9:Value) (A0 A1 A2 A3 A4 A5 A6 A7 A8:Act)
  (S:World→Prop)
  (I_:World→Prop)
  (I5_:Value→World→Prop)
  (I5_11_:Value→Value→World→Prop)
  (I5_11_12_:Value→Value→Value→World→Prop)
  (v10:Value→Value)
  (p0:a.put o0.dst v0 = A0) (hy0:YieldsIf P #[o0,o1,o2,o3,o4,o5,o6,o7,o8,o9,o10,o11,o12] S o0 v0 a)
  (p1:A0.put o1.dst v1 = A1) (hy1:YieldsIf P #[o0,o1,o2,o3,o4,o5,o6,o7,o8,o9,o10,o11,o12] S o1 v1 A0)
  (p2:A1.put o2.dst v2 = A2) (hy2:YieldsIf P #[o0,o1,o2,o3,o4,o5,o6,o7,o8,o9,o10,o11,o12] S o2 v2 A1)
  (p3:A2.put o3.dst v3 = A3) (hy3:YieldsIf P #[o0,o1,o2,o3,o4,o5,o6,o7,o8,o9,o10,o11,o12] S o3 v3 A2)
  (p4:A3.put o4.dst v4 = A4) (hy4:YieldsIf P #[o0,o1,o2,o3,o4,o5,o6,o7,o8,o9,o10,o11,o12] S o4 v4 A3)
  (p6:A4.put o6.dst v6 = A5) (hy6:YieldsIf P #[o0,o1,o2,o3,o4,o5,o6,o7,o8,o9,o10,o11,o12] S o6 v6 A4)
  (p7:A5.put o7.dst v7 = A6) (hy7:YieldsIf P #[o0,o1,o2,o3,o4,o5,o6,o7,o8,o9,o10,o11,o12] S o7 v7 A5)
  (p8:A6.put o8.dst v8 = A7) (hy8:YieldsIf P #[o0,o1,o2,o3,o4,o5,o6,o7,o8,o9,o10,o11,o12] S o8 v8 A6)
  (p9:A7.put o9.dst v9 = A8) (hy9:YieldsIf P #[o0,o1,o2,o3,o4,o5,o6,o7,o8,o9,o10,o11,o12] S o9 v9 A7)
  (i0:I_ w.drew)
  (hIS:(∀ w',I_  w'→S w')∧(∀ (u5:Value) w',I5_ u5 w'→S w')∧(∀ (u5 u11:Value) w',I5_11_ u5 u11 w'→S w')∧(∀ (u5 u11 u12:Value) w',I5_11_12_ u5 u11 u12 w'→S w'))
  (s_5:∀ w',I_  w'→∀ K:Act→World→Prop,(∀ (u5:Value) w2,I5_ u5 w2→K (A8.put o5.dst u5) w2)→o5.wp P A8 w' K (NoPanic Q))
  (s5_11:∀ (u5:Value) w',I5_ u5 w'→∀ K:Act→World→Prop,(∀ (u11:Value) w2,I5_11_ u5 u11 w2→K (((A8.put o5.dst u5).put o10.dst (v10 u5)).put o11.dst u11) w2)→o11.wp P ((A8.put o5.dst u5).put o10.dst (v10 u5)) w' K (NoPanic Q))
  (s5_11_12:∀ (u5 u11:Value) w',I5_11_ u5 u11 w'→∀ K:Act→World→Prop,(∀ (u12:Value) w2,I5_11_12_ u5 u11 u12 w2→K ((((A8.put o5.dst u5).put o10.dst (v10 u5)).put o11.dst u11).put o12.dst u12) w2)→o12.wp P (((A8.put o5.dst u5).put o10.dst (v10 u5)).put o11.dst u11) w' K (NoPanic Q))
  (y_5_10:∀ (u5:Value) w',I5_ u5 w'→YieldsIf P #[o0,o1,o2,o3,o4,o5,o6,o7,o8,o9,o10,o11,o12] S o10 (v10 u5) (A8.put o5.dst u5))
  (h:∀ (u5 u11 u12:Value) w',I5_11_12_ u5 u11 u12 w'→Q .normal ((((A8.put o5.dst u5).put o10.dst (v10 u5)).put o11.dst u11).put o12.dst u12) w') :
  (Code.region id #[o0,o1,o2,o3,o4,o5,o6,o7,o8,o9,o10,o11,o12] true).wp P Q a w:=by
 subst p0 p1 p2 p3 p4 p6 p7 p8 p9
 obtain ⟨z_,z5_,z5_11_,z5_11_12_⟩:=hIS
 refine wp_region_noPanic ?_
 refine wp_region_held_drew (S:=S) hm (z_ _ i0) (fun hH=>?_)
 show wpAnyH P .any #[o0,o1,o2,o3,o4,o5,o6,o7,o8,o9,o10,o11,o12] (NoPanic Q) S 13 #[false,false,false,false,false,false,false,false,false,false,false,false,false] a w.drew
 refine wpAnyH_take (i:=0) (oi:=o0) rfl hs f0 r0 (fun _ _ _ h=>h) hy0 hH ?_
 refine wpAnyH_take (i:=1) (oi:=o1) rfl hs f1 r1 (fun _ _ _ h=>h) hy1 hH ?_
 refine wpAnyH_take (i:=2) (oi:=o2) rfl hs f2 r2 (fun _ _ _ h=>h) hy2 hH ?_
 refine wpAnyH_take (i:=3) (oi:=o3) rfl hs f3 r3 (fun _ _ _ h=>h) hy3 hH ?_
 refine wpAnyH_take (i:=4) (oi:=o4) rfl hs f4 r4 (fun _ _ _ h=>h) hy4 hH ?_
 refine wpAnyH_take (i:=6) (oi:=o6) rfl hs f6 r6 (fun _ _ _ h=>h) hy6 hH ?_
 refine wpAnyH_take (i:=7) (oi:=o7) rfl hs f7 r7 (fun _ _ _ h=>h) hy7 hH ?_
 refine wpAnyH_take (i:=8) (oi:=o8) rfl hs f8 r8 (fun _ _ _ h=>h) hy8 hH ?_
 refine wpAnyH_take (i:=9) (oi:=o9) rfl hs f9 r9 (fun _ _ _ h=>h) hy9 hH ?_
 generalize (((((((((a.put o0.dst v0).put o1.dst v1).put o2.dst v2).put o3.dst v3).put o4.dst v4).put o6.dst v6).put o7.dst v7).put o8.dst v8).put o9.dst v9) = B at *
 have wa5:∀ y,Region.wanted o5 y = true:=fun y=>by unfold Region.wanted; rw [g5]
 have wa11:∀ y,Region.wanted o11 y = true:=fun y=>by unfold Region.wanted; rw [g11]
 have wa12:∀ y,Region.wanted o12 y = true:=fun y=>by unfold Region.wanted; rw [g12]
 have t5_11_12_:∀ (u5 u11 u12:Value) w',I5_11_12_ u5 u11 u12 w'→wpAnyH P .any #[o0,o1,o2,o3,o4,o5,o6,o7,o8,o9,o10,o11,o12] (NoPanic Q) S 0 #[true,true,true,true,true,true,true,true,true,true,true,true,true] ((((B.put o5.dst u5).put o10.dst (v10 u5)).put o11.dst u11).put o12.dst u12) w':=by
  intro u5 u11 u12 w0 i0
  exact ⟨q5_11_12_,NoPanic.normal (h u5 u11 u12 w0 i0)⟩
 have t5_11_:∀ (u5 u11:Value) w',I5_11_ u5 u11 w'→wpAnyH P .any #[o0,o1,o2,o3,o4,o5,o6,o7,o8,o9,o10,o11,o12] (NoPanic Q) S 1 #[true,true,true,true,true,true,true,true,true,true,true,true,false] (((B.put o5.dst u5).put o10.dst (v10 u5)).put o11.dst u11) w':=by
  intro u5 u11 w0 i0
  refine wpAnyH_ready (rs:=[12]) q5_11_ (by simp) (AllReadyH.cons (o:=o12) rfl (fun K hK=>?_) AllReadyH.nil)
  ·rw [if_pos (wa12 _)]
   refine s5_11_12 u5 u11 w0 i0 K (fun u12 w1 i1=>hK.out _ _ (z5_11_12_ u5 u11 u12 w1 i1) (fun _=>?_))
   clear hK
   exact t5_11_12_ u5 u11 u12 w1 i1
 have t5_:∀ (u5:Value) w',I5_ u5 w'→wpAnyH P .any #[o0,o1,o2,o3,o4,o5,o6,o7,o8,o9,o10,o11,o12] (NoPanic Q) S 2 #[true,true,true,true,true,true,true,true,true,true,true,false,false] ((B.put o5.dst u5).put o10.dst (v10 u5)) w':=by
  intro u5 w0 i0
  refine wpAnyH_ready (rs:=[11]) q5_ (by simp) (AllReadyH.cons (o:=o11) rfl (fun K hK=>?_) AllReadyH.nil)
  ·rw [if_pos (wa11 _)]
   refine s5_11 u5 w0 i0 K (fun u11 w1 i1=>hK.out _ _ (z5_11_ u5 u11 w1 i1) (fun _=>?_))
   clear hK
   exact t5_11_ u5 u11 w1 i1
 have t_:∀ w',I_  w'→wpAnyH P .any #[o0,o1,o2,o3,o4,o5,o6,o7,o8,o9,o10,o11,o12] (NoPanic Q) S 4 #[true,true,true,true,true,false,true,true,true,true,false,false,false] B w':=by
  intro w0 i0
  refine wpAnyH_ready (rs:=[5]) q_ (by simp) (AllReadyH.cons (o:=o5) rfl (fun K hK=>?_) AllReadyH.nil)
  ·rw [if_pos (wa5 _)]
   refine s_5  w0 i0 K (fun u5 w1 i1=>hK.out _ _ (z5_ u5 w1 i1) (fun _=>?_))
   clear hK
   refine wpAnyH_take (i:=10) (oi:=o10) rfl hs f_5_10 r_5_10 (fun _ _ _ h=>h) (y_5_10 u5 w1 i1) (z5_ u5 w1 i1) ?_
   exact t5_ u5 w1 i1
 exact t_ w.drew i0
end
end
section
open Go.RowKit Go.BigFrame Go.Maps Go.Sort
def srtA (A:List DF):List DF:=A.mergeSort fun a b=>decide (a.nm.data.toList≤b.nm.data.toList)
theorem xa6p (A:List DF):(srtA A).Perm A:=List.mergeSort_perm _ _
theorem xb6t {A:List DF} {f:DF}:f∈srtA A↔f∈A:=(xa6p A).mem_iff
theorem xa8n (A:List DF):(srtA A).length = A.length:=(xa6p A).length_eq
theorem xb0m {A:List DF} (hd:Dist A):(srtA A).map (fun f=>f.nm.data.toList) = srtN A:=by
 unfold srtA srtN
 rw [List.map_mergeSort]
 intro a _ b _
 rfl
theorem xb6r {A:List DF} (hd:Dist A) {f:DF} (hf:f∈A):findA A f.nm.data.toList = some f:=by
 cases h:findA A f.nm.data.toList with
 | none=>exact absurd rfl (xa5n h f hf)
 | some g =>
  unfold findA at h
  have h1:=List.mem_of_find?_eq_some h
  have h2:g.nm.data.toList = f.nm.data.toList:=by simpa using List.find?_some h
  have h3:=ba_ext h2
  congr 1
  have hd2:A.Pairwise fun a b=>a.nm≠b.nm:=hd
  clear h hd
  induction hd2 with
  | nil=>simp at hf
  | @cons x l hx hl ih =>
   simp only [List.mem_cons] at hf h1
   rcases hf with rfl | hf
   ·rcases h1 with rfl | h1
    ·rfl
    ·exact absurd h3.symm (hx g h1)
   ·rcases h1 with rfl | h1
    ·exact absurd h3 (hx f hf)
    ·exact ih hf h1
def dfC (t:DF × Value):List Value:=[.string t.1.nm,t.2,.int .i64 (t.1.sy:Int),.bool t.1.nd]
theorem xb4k:∀ (ts:List (DF × Value)) (i:Nat) (h:i < ts.length) (j:Nat) (v:Value),(dfC ts[i])[j]? = some v→(ts.flatMap dfC)[i * 4 + j]? = some v
 | t :: r,0,_,j,v,hv=>by
  have hj:=(List.getElem?_eq_some_iff.1 hv).1
  rw [List.flatMap_cons,List.getElem?_append_left (by simpa using hj)]
  simpa using hv
 | t :: r,i + 1,h,j,v,hv=>by
  have h':i < r.length:=by simpa using h
  have h1:=xb4k r i h' j v (by simpa using hv)
  rw [List.flatMap_cons,List.getElem?_append_right (by simp [dfC]; omega)]
  rw [show (i + 1) * 4 + j - (dfC t).length = i * 4 + j by simp [dfC]; omega]
  exact h1
structure OwnFl (B:Nat) (w:World) (v:Value) (ts:List (DF × Value)):Prop where
 own:w.ownsRow B 74 4 v ts.length (ts.flatMap dfC)
 el:∀ t∈ts,w.ownsRow B 5 1 t.2 t.1.bs.length (t.1.bs.map u8)∧(∀ x∈t.1.bs,x < 256)∧t.1.bs.length≤140737488355328
 ap:ts.Pairwise fun a b=>∀ x∈blk a.2,x∉blk b.2
theorem OwnFl.nil (B:Nat) (w:World):OwnFl B w (.slice none 0 0) []:=⟨World.ownsRow_nil _ _ _ _,by simp,List.Pairwise.nil⟩
def RdFl (w:World) (v:Value) (ts:List (DF × Value)):Prop:=RdC 4 w v (ts.map dfC)∧∀ t∈ts,Rd w t.2 t.1.bs
theorem OwnFl.rd {B:Nat} {w:World} {v:Value} {ts:List (DF × Value)} (h:OwnFl B w v ts):RdFl w v ts:=by
 refine ⟨?_,fun t ht=>xa2u (h.el t ht).1 (h.el t ht).2.1 (h.el t ht).2.2⟩
 rcases h.own.2 with ⟨rfl,h0⟩ | ⟨g,cap,cur,rfl,_,hg,hc,hm',hs,ht⟩
 ·have:ts = []:=List.eq_nil_of_length_eq_zero h0
  subst this
  exact RdC.nil 4 w
 ·refine ⟨some ⟨g,0,none⟩,ts.length,cap,rfl,by simp,hc,by unfold maxLen at hm'; omega,fun _=>⟨g,0,rfl,fun i hi j u hu=>?_⟩⟩
  have hi':i < ts.length:=by simpa using hi
  rw [List.getElem_map] at hu
  have h9:=h.own.cells (g:=g) rfl (i * 4 + j) u (xb4k ts i hi' j u hu)
  rw [Addr.add_lit,Nat.zero_add] at h9
  rw [Nat.zero_add]
  exact h9
theorem OwnFl.kept {L:List Nat} {B:Nat} {w w':World} {v:Value} {ts:List (DF × Value)} (h:OwnFl B w v ts) (k:Kept L w w') (hv:∀ x∈blk v,x∉L) (ht:∀ t∈ts,∀ x∈blk t.2,x∉L):OwnFl B w' v ts :=
 ⟨k.owns h.own (fun x hx=>hv x (xa1b hx)),fun t h1=>⟨k.owns (h.el t h1).1 (fun x hx=>ht t h1 x (xa1b hx)),(h.el t h1).2⟩,h.ap⟩
theorem xb7d {w:World} {base e s n:Nat} {v:Value} {xs:List Value} (h:w.ownsRow base e s v n xs) {x:Nat} (hx:x∈blk v):v.ownBlock = some x:=by
 rcases h.2 with ⟨rfl,_⟩ | ⟨g,cap,cur,rfl,_,hg,_⟩
 ·simp [blk] at hx
 ·simp only [blk,List.mem_singleton] at hx
  subst hx
  rfl
def flB (v:Value) (ts:List (DF × Value)):List Nat:=blk v++ts.flatMap fun t=>blk t.2
theorem OwnFl.ge {B:Nat} {w:World} {v:Value} {ts:List (DF × Value)} (h:OwnFl B w v ts):∀ x∈flB v ts,B≤x∧x < w.heap.size:=by
 intro x hx
 simp only [flB,List.mem_append,List.mem_flatMap] at hx
 rcases hx with hx | ⟨t,ht,hx⟩
 ·exact h.own.lt x (xb7d h.own hx)
 ·exact (h.el t ht).1.lt x (xa5g (h.el t ht).1 hx)
theorem OwnFl.keptF {L:List Nat} {B:Nat} {w w':World} {v:Value} {ts:List (DF × Value)} (h:OwnFl B w v ts) (k:Kept L w w') (hn:∀ x∈flB v ts,x∉L):OwnFl B w' v ts :=
 h.kept k (fun x hx=>hn x (by simp [flB,hx])) (fun t ht x hx=>hn x (by simp only [flB,List.mem_append,List.mem_flatMap]; exact .inr ⟨t,ht,hx⟩))
theorem Tryz.infoF:(Tryz.prog.info? 74).map (fun i=>(i.zero,i.size,i.bytes)) = some (some (.agg #[.string ⟨#[]⟩,.slice none 0 0,.int .i64 0,.bool false]),4,56):=by kernel_rfl
theorem pushFl (w:World) (B:Nat) (v:Value) (ts:List (DF × Value)) (t:DF × Value) (H:Nat) (h:OwnFl B w v ts) (hnew:w.heap[H]? = some (.cells (dfC t).toArray 74 (0,0))) (ho:w.ownsRow B 5 1 t.2 t.1.bs.length (t.1.bs.map u8)∧(∀ x∈t.1.bs,x < 256)∧t.1.bs.length≤140737488355328)
  (ha:∀ a∈ts,∀ x∈blk a.2,x∉blk t.2) (hl:ts.length + 1≤1000000000) (hb:B≤w.heap.size) :
  ∃ g cap w1,(Builtin.append_ #[42,42] 42 #[v,.slice (some ⟨H,0,none⟩) 1 1]).run Tryz.prog w = .ok (.slice (some ⟨g,0,none⟩) (ts.length + 1) cap) w1 ∧
   OwnFl B w1 (.slice (some ⟨g,0,none⟩) (ts.length + 1) cap) (ts++[t])∧w.grownBy w1 v.ownBlock∧(v.ownBlock = some g∨g = w.heap.size):=by
 obtain ⟨i0,hi,hz0,hz1,hz2⟩:=info_parts Tryz.infoF
 obtain ⟨ao,len,cap0,hv2⟩:∃ ao len cap,t.2 = .slice ao len cap:=by
  obtain ⟨a,c,h9⟩:=xa0x ho.1
  exact ⟨a,_,c,h9⟩
 obtain ⟨g,cap,w1,hr,hown,hgrow,hat,hlt⟩:=run_append_lies (P:=Tryz.prog) w 42 42 B 74 i0 (.agg #[.string ⟨#[]⟩,.slice none 0 0,.int .i64 0,.bool false]) 4 56 Tryz.underlying42 hi hz0 hz1 hz2 rfl (by decide)
  v ts.length (ts.flatMap dfC) h.own ⟨H,0,none⟩ 1 1 (dfC t) rfl (World.news_of_block hnew) (by intro u hu; simp only [dfC,List.mem_cons,List.not_mem_nil,or_false] at hu; rcases hu with rfl | rfl | rfl | rfl; rfl; rw [hv2]; rfl; rfl; rfl) (by decide) (by unfold maxLen; omega) (by omega) hb _ rfl
 have k1:Kept v.ownBlock.toList w w1:=(Kept.refl _ w).grown hgrow (by intro k hk; left; simp [hk])
 have hty:∀ {x:Nat} {cs:Array Value},w.heap[x]? = some (.cells cs 5 (0,0))→x∉v.ownBlock.toList:=by
  intro x cs hx hm
  simp only [Option.mem_toList] at hm
  rcases h.own.2 with ⟨hv,_⟩ | ⟨g9,c9,cur9,hv,_,hg9,_⟩
  ·rw [hv] at hm; cases hm
  ·rw [hv] at hm
   injection hm with hm
   subst hm
   exact xa0d hx hg9 (by decide) rfl
 refine ⟨g,cap,w1,hr,⟨?_,?_,?_⟩,hgrow,hat⟩
 ·rw [List.flatMap_append,List.length_append]
  simpa using hown
 ·intro a ha2
  rw [List.mem_append,List.mem_singleton] at ha2
  have h9:w.ownsRow B 5 1 a.2 a.1.bs.length (a.1.bs.map u8)∧(∀ x∈a.1.bs,x < 256)∧a.1.bs.length≤140737488355328:=by
   rcases ha2 with h1 | rfl
   ·exact h.el a h1
   ·exact ho
  refine ⟨k1.owns h9.1 ?_,h9.2⟩
  intro x hx
  obtain ⟨cs,hc⟩:=xa0b h9.1 (xa1b hx)
  exact hty hc
 ·rw [List.pairwise_append]
  exact ⟨h.ap,List.pairwise_singleton _ _,by intro a h1 b h2; rw [List.mem_singleton] at h2; subst h2; exact ha a h1⟩
theorem xb2o {w:World} {b n:Nat} {D:DataW Unit} {f:List UInt8→Option Nat} (hown:w.ownsMap Tryz.prog 9 ptrElem b n D) (hD:MapIs D f) (s:ByteArray) (hk:keyOf Tryz.prog 9 (.string s) = some (.string s.data.toList)) {g:Nat} (hg:f s.data.toList = some g) :
  (Instr.lookup 97 (.map (some b)) (.string s) false).run Tryz.prog w = .ok (.pointer (some ⟨g,0,none⟩)) w:=by
 obtain ⟨v,ps,hrun,hv⟩:=hown.lookup keyS Tryz.underlying97 (zeroPF _) xa3q hk
 rw [(hD _).2,hg] at hv
 rw [hrun]
 rcases xa1o hv with ⟨rfl,h⟩ | ⟨g',rfl,h⟩
 ·simp at h
 ·simp at h
  have:g = g':=by omega
  subst this
  rfl
theorem xa8d {o:Oper} {a:Act} {w:World} {K:Act→World→Prop} {Q:Exit→Act→World→Prop} {s x:Operand} (ho:o.op = .call { callee:=.builtin .append,args:=#[s,x],argTypes:=#[42,42] }) (hty:o.type = 42) {v u r:Value} {w1:World} (hs:a.eval s = v) (hx:a.eval x = u)
  (hrun:(Builtin.append_ #[42,42] 42 #[v,u]).run Tryz.prog w = .ok r w1) (hK:K (a.put o.dst r) w1):o.wp Tryz.prog a w K Q:=by
 unfold Oper.wp execOp
 simp only [ho,hty,resolve,invoke,builtin,Sem.run_bind,Sem.run_pure,Result.andThen_ok,List.map_toArray,List.map_cons,List.map_nil,hs,hx,hrun]
 exact hK
theorem xb5k (a b:List UInt8):(decide (a≤b) || decide (b≤a)) = true:=by
 rcases List.le_total a b with h | h <;> simp [h]
end
section
open Go.RowKit Go.BigFrame
theorem xb0c (σ:DSt):(nmsOf σ).Pairwise (fun a b=>a≤b):=by
 unfold nmsOf
 split
 ·exact List.Pairwise.nil
 ·have h:=List.pairwise_mergeSort (le:=fun a b:List UInt8=>decide (a≤b)) (fun a b c h1 h2=>by simp at h1 h2 ⊢; exact List.le_trans h1 h2) (fun a b=>xb5k _ _) (σ.A.map fun f=>f.nm.data.toList)
  unfold srtN
  exact h.imp (fun h=>by simpa using h)
theorem xb4x:∀ (s t:List UInt8),natL s < natL t→s < t
 | [],[],h=>absurd h (List.lt_irrefl _)
 | [],y :: t,_=>by simp
 | x :: s,[],h=>absurd h (List.not_lt_nil _)
 | x :: s,y :: t,h=>by
  rw [List.cons_lt_cons_iff]
  simp only [natL,List.map_cons] at h
  rcases List.cons_lt_cons_iff.1 h with h | ⟨h1,h2⟩
  ·exact Or.inl (by rw [UInt8.lt_iff_toNat_lt]; exact h)
  ·exact Or.inr ⟨UInt8.toNat_inj.1 h1,xb4x s t h2⟩
theorem xa9c {l:List Nat} (h:nbE l = 0):l = nmL (nbU l):=by
 unfold nbE at h
 unfold nbU
 split at h
 ·rename_i h1; rw [if_pos h1]; exact h1
 ·cases h
theorem num_le {s t:List UInt8} (h:s≤t) (hs:nbE (natL s) = 0) (ht:nbE (natL t) = 0):nbU (natL s)≤nbU (natL t):=by
 by_cases hc:nbU (natL s)≤nbU (natL t)
 ·exact hc
 ·exfalso
  have h1:=nmL_lt (show nbU (natL t) < nbU (natL s) by omega) (nbU_lt _)
  rw [← xa9c hs,← xa9c ht] at h1
  exact (List.not_lt.2 h) (xb4x _ _ h1)
end
section
open Go.RowKit Go.BigFrame Go.Maps Go.Sort
theorem xa7p (s:List UInt8):(strU s).size = s.length:=by simp [strU,ByteArray.size]
theorem xb6c (σ:DSt) (s:ByteArray):(stSync σ s).1 < 100:=xa2q σ s
set_option maxHeartbeats 4000000 in
theorem xa7x (g d nb ob bb:Nat) (B:List Nat) (σ:DSt) (f:FSt) (sv bv:Value) (w:World) (hr:w.heap[g]? = some (.cells (fdC f sv bv) 110 (0,0))) (hs:RdS w sv f.sg) (hsz:∀ s∈f.sg,s.length≤40) (hD:DKf w d B nb ob bb σ) (hsB:∀ x∈blk sv,x∉B) (hn:nb≤1000000000) (hob:ob + f.sg.length≤1000000000) :
  Calls Tryz.prog 47 #[.pointer (some ⟨g,0,none⟩),.pointer (some ⟨d,0,none⟩)] w fun e w'=>∃ B',e = .returned (.int .i64 ((stSyncs σ f.sg).1:Nat))∧DKf w' d B' nb (ob + f.sg.length) bb (stSyncs σ f.sg).2∧Ev w w' B B':=by
 have HS:=hide hs
 obtain ⟨sa,sl,sc,rfl,h1,h2,h3,h4⟩:=hs
 obtain ⟨c0,c1,c2,c3,c4⟩:=xa0s hr
 have H4:=hide h4
 have HSZ:=hide hsz
 have HDK:=hide hD
 have HSB:=hide hsB
 obtain ⟨L,hL⟩:∃ L,f.sg = L:=⟨_,rfl⟩
 rw [hL] at h1 H4 HSZ hob ⊢
 subst h1
 clear hsz hD hsB h4 c0 c1 c2 c4 hr HS hL
 obtain ⟨⟨E0,τ0⟩,hR0⟩:∃ R,stSyncs σ L = R:=⟨_,rfl⟩
 rw [hR0]
 have HR0:=hide hR0
 clear hR0
 dsimp only at *
 go_enter Tryz.func47,Tryz.ntmps47
 go_wp2_with fail
 clear c3
 go_loopw [13] (fun t13 wr=>∃ (i:Nat) (Bi:List Nat) (τ:DSt),i≤L.length∧t13 = .int .i64 (i:Int)∧Hid (stSyncs τ (L.drop i) = (E0,τ0))∧Hid (DKf wr d Bi nb (ob + i) bb τ)∧Hid (Ev w wr B Bi)) (fun t _=>L.length - (intOf t).toNat)
 case atStart=>exact ⟨0,B,σ,Nat.zero_le _,rfl,by rw [List.drop_zero]; exact HR0,HDK,hide (Ev.refl _ _)⟩
 case round =>
  obtain ⟨i,Bi,τ,hi,rfl,HT,HD,HE⟩:=hrel
  by_cases hlt:i < L.length
  ·have hlt':(i:Int) < L.length:=by omega
   obtain ⟨b,off,rfl,hc⟩:=uh H4 (by omega)
   have q0:=(uh HE).1.cell (hc i hlt) (uh HSB b (by simp [blk]))
   have HSI:=hide (uh HSZ L[i] (List.getElem_mem hlt))
   have HDR:=hide (List.drop_eq_getElem_cons hlt)
   generalize L[i] = s at q0 HSI HDR
   have hic:(i:Int) < sc:=by omega
   rw [xa6n] at q0
   have ha1:IntKind.i64.wrap ((i:Int) + 1) = (i:Int) + 1:=by rw [IntKind.wrap_i64]; omega
   clear hc
   have HSY:=hide (sync_F d nb (ob + i) bb Bi τ (strU s) wr (uh HD) (by rw [xa7p]; have:=uh HSI; omega) hn (by omega))
   have HLT:=hide (xb6c τ (strU s))
   obtain ⟨⟨E1,τ1⟩,hR1⟩:∃ R,stSync τ (strU s) = R:=⟨_,rfl⟩
   have HN:=hide (fun (h0:E1≠0)=>(by have h9:=uh HT; rw [uh HDR] at h9; unfold stSyncs at h9; rw [hR1,if_pos h0] at h9; exact h9:(E1,τ1) = (E0,τ0)))
   have HY:=hide (fun (h0:E1 = 0)=>(by have h9:=uh HT; rw [uh HDR] at h9; unfold stSyncs at h9; rw [hR1,if_neg (by simpa using h0)] at h9; exact h9:stSyncs τ1 (L.drop (i + 1)) = (E0,τ0)))
   rw [hR1] at HSY HLT
   clear hR1 HT HDR
   dsimp only at *
   go_wp2_with fail
   refine Calls.mono (uh HSY) ?_
   rintro e w1 ⟨B1,rfl,hd1,ev1⟩
   have HD1:=hide hd1
   have HE1:=hide ((uh HE).trans ev1)
   clear hd1 ev1 q0 HSY HD HE
   by_cases h0:E1 = 0
   ·subst h0
    have HT1:=hide (uh HY rfl)
    go_wp2_with fail
    go_roundw
    case rel=>exact ⟨i + 1,B1,τ1,by omega,by simp,HT1,HD1,HE1⟩
    case measure=>simp [intOf]; omega
   ·have h0':((E1:Int) != 0) = true:=by rw [bne_iff_ne]; omega
    have hz:=uh HN h0
    cases hz
    go_wp2_with fail
    go_ret
    first | exact ⟨B1,rfl,(uh HD1).more (Nat.le_refl _) (by omega) (Nat.le_refl _),uh HE1⟩ | exact ⟨rfl,B1,(uh HD1).more (Nat.le_refl _) (by omega) (Nat.le_refl _),uh HE1⟩
  ·have hlt':¬ (i:Int) < L.length:=by omega
   have hie:i = L.length:=by omega
   subst hie
   have hz:=uh HT
   rw [List.drop_length] at hz
   unfold stSyncs at hz
   cases hz
   go_wp2_with fail
   go_ret
   first | exact ⟨Bi,rfl,uh HD,uh HE⟩ | exact ⟨rfl,Bi,uh HD,uh HE⟩
theorem Tryz.size_found:(Tryz.prog.info? 110).map (·.size) = some 5:=by kernel_rfl
theorem xa1y {w:World} {g:Nat} {a b c d e:Value} {t:TypeId} (h:w.heap[g]? = some (.cells #[a,b,c,d,e] t (0,0))) (x y z u r:Value):(((((w.setCell ⟨g,0,none⟩ x).setCell ⟨g,1,none⟩ y).setCell ⟨g,2,none⟩ z).setCell ⟨g,3,none⟩ u).setCell ⟨g,4,none⟩ r).heap[g]? = some (.cells #[x,y,z,u,r] t (0,0)):=by
 rw [heap_setCell_same _ g 4 _ t _ (heap_setCell_same _ g 3 _ t _ (heap_setCell_same _ g 2 _ t _ (heap_setCell_same _ g 1 _ t _ (heap_setCell_same w g 0 _ t _ h))))]; rfl
theorem xa1m {L:List Nat} {w0 w:World} (k:Kept L w0 w) (g:Nat) (hg:g∈L∨w0.heap.size≤g) (x y z u r:Value):Kept L w0 (((((w.setCell ⟨g,0,none⟩ x).setCell ⟨g,1,none⟩ y).setCell ⟨g,2,none⟩ z).setCell ⟨g,3,none⟩ u).setCell ⟨g,4,none⟩ r):=((((k.setCell hg x).setCell hg y).setCell hg z).setCell hg u).setCell hg r
theorem cells5 {w:World} {g:Nat} {a b c d e:Value} {t:TypeId} (h:w.heap[g]? = some (.cells #[a,b,c,d,e] t (0,0))):w.cell? ⟨g,0,none⟩ = some a∧w.cell? ⟨g,1,none⟩ = some b∧w.cell? ⟨g,2,none⟩ = some c∧w.cell? ⟨g,3,none⟩ = some d∧w.cell? ⟨g,4,none⟩ = some e:=by
 refine ⟨?_,?_,?_,?_,?_⟩ <;> rw [cell_of_row _ _ _ _ _ _ h] <;> rfl
theorem OwnX.base {X:List Nat} {w0 w1 w:World} {v:Value} {ts:List (Nat × Value × List En)} (h:OwnX X w1 w v ts) (hb:w0.heap.size≤w1.heap.size):OwnX X w0 w v ts:=by
 refine ⟨xa2n h.own hb,fun t ht=>?_,Nat.le_trans hb h.sz,h.ap⟩
 obtain ⟨B,C,h1,h2,h3,h4,h5⟩:=h.rd t ht
 exact ⟨B,C,h1,Nat.le_trans hb h2,h3,h4,h5⟩
abbrev zFd:Array Value:=#[.int .u64 0,.int .u64 0,.int .u64 0,.slice none 0 0,.slice none 0 0]
def FindR (w w':World) (R:Option FSt) (e:Ending):Prop :=
 (R = none∧e = .returned (.tuple #[.agg zFd,.bool false])) ∨
 ∃ f sv bv ts,R = some f∧e = .returned (.tuple #[.agg (fdC f sv bv),.bool true])∧w'.ownsRow w.heap.size 9 1 sv f.sg.length (f.sg.map encStr)∧OwnX sv.ownBlock.toList w w' bv ts∧f.bs = ts.map (fun t=>(t.1,t.2.2))∧f.last < 18446744073709551615∧f.ep < 18446744073709551615∧f.sz < 18446744073709551616
theorem xb8q {σ:DSt} {wd:Int} {f:FSt} {s:List UInt8} (h:nbE (natL s)≠0):stepF σ wd f s = some f:=by unfold stepF; rw [if_pos h]
theorem xb7h {σ:DSt} {wd:Int} {f:FSt} {s:List UInt8} (h:nbE (natL s) = 0) (h2:nbU (natL s) = 18446744073709551615):stepF σ wd f s = none:=by unfold stepF; rw [if_neg (by simpa using h),if_pos h2]
theorem xb8w {σ:DSt} {wd:Int} {f:FSt} {s:List UInt8} {p:List Nat} (hp:(stRead σ (strU s)).1 = p) (h:nbE (natL s) = 0) (h2:nbU (natL s)≠18446744073709551615) (h3:sgE p≠0):stepF σ wd f s = some ⟨nbU (natL s),f.ep,f.sz,f.sg,f.bs⟩:=by unfold stepF; rw [if_neg (by simpa using h),if_neg h2,hp,if_pos h3]
theorem xb7y {σ:DSt} {wd:Int} {f:FSt} {s:List UInt8} {p:List Nat} (hp:(stRead σ (strU s)).1 = p) (h:nbE (natL s) = 0) (h2:nbU (natL s)≠18446744073709551615) (h3:sgE p = 0) (h4:¬ ((hdC p).a = nbU (natL s)∧((hdC p).d:Int) = wd∧goOnF f p = true)):stepF σ wd f s = none:=by unfold stepF; rw [if_neg (by simpa using h),if_neg h2,hp,if_neg (by simpa using h3),if_neg h4]
theorem xb8l {σ:DSt} {wd:Int} {f:FSt} {s:List UInt8} {p:List Nat} (hp:(stRead σ (strU s)).1 = p) (h:nbE (natL s) = 0) (h2:nbU (natL s)≠18446744073709551615) (h3:sgE p = 0) (h4:(hdC p).a = nbU (natL s)∧((hdC p).d:Int) = wd∧goOnF f p = true):stepF σ wd f s = some ⟨nbU (natL s),(hdC p).b,(f.sz + cntB (sgB p)) % 18446744073709551616,f.sg++[s],f.bs++sgB p⟩:=by unfold stepF; rw [if_neg (by simpa using h),if_neg h2,hp,if_neg (by simpa using h3),if_pos h4]
theorem xb1d (f:FSt) (n:Nat) (p:List Nat):goOnF ⟨n,f.ep,f.sz,f.sg,f.bs⟩ p = goOnF f p:=rfl
theorem xa5z {σ:DSt} {wd:Int} {f:FSt} {s:List UInt8} {r:List (List UInt8)} {R:Option FSt} (h:findF σ wd f (s :: r) = R) (h2:stepF σ wd f s = none):R = none:=by
 unfold findF at h; rw [h2] at h; exact h.symm
theorem xa4k {σ:DSt} {wd:Int} {f g:FSt} {s:List UInt8} {r:List (List UInt8)} {R:Option FSt} (h:findF σ wd f (s :: r) = R) (h2:stepF σ wd f s = some g):findF σ wd g r = R:=by
 unfold findF at h; rw [h2] at h; exact h
set_option maxHeartbeats 8000000 in
theorem xb2f (d nb ob bb g0:Nat) (wd:Int) (B:List Nat) (σ:DSt) (w:World) (hD:DKf w d B nb ob bb σ) (hv:VarsG g0 w) (hg0:g0≤w.heap.size) (hn:nb≤1000000000) (hob:ob≤1000000000) (hb:bb≤100000000000) (hT:rdT σ (nmsOf σ)≤1000000000000) :
  Calls Tryz.prog 46 #[.pointer (some ⟨d,0,none⟩),.int .i64 wd] w fun e w'=>FindR w w' (findF σ wd fst0 (nmsOf σ)) e∧Kept [] w w':=by
 have HDK:=hide hD
 have HVG:=hide hv
 have kA:=(Kept.refl [] w).alloc (.cells zFd 110)
 have kB:=kA.alloc (.cells zFd 110)
 have hA:=heap_alloc_new w (.cells zFd 110)
 have hA2:=((Kept.refl [] (w.alloc (.cells zFd 110))).alloc (.cells zFd 110)).heap hA (by simp)
 have hB:=heap_alloc_new (w.alloc (.cells zFd 110)) (.cells zFd 110)
 rw [show (w.alloc (.cells zFd 110)).heap.size = w.heap.size + 1 by simp] at hB
 obtain ⟨L,hL⟩:∃ L,nmsOf σ = L:=⟨_,rfl⟩
 have HNL:=hide (by rw [← hL]; exact Nat.le_trans (xb4n σ) (Nat.le_trans hD.len hn):L.length≤1000000000)
 have HNM:=hide (fun s hs=>by
  rw [← hL] at hs
  obtain ⟨f,hf,rfl⟩:=xb4y hs
  have:=(xa4d (hD.nms f hf)).2
  exact Nat.le_trans (Nat.le_of_eq (Array.length_toList)) this:∀ s∈L,s.length≤40)
 have HNC:=hide (xb3m d (max nb ob) bb B σ _ (hD.toDK.kept kB (by simp)) (by omega))
 rw [hL] at hT HNC ⊢
 obtain ⟨R,hR⟩:∃ R,findF σ wd fst0 L = R:=⟨_,rfl⟩
 rw [hR]
 have HR:=hide hR
 have HKB:=hide kB
 have HA:=hide hA2
 have HB:=hide hB
 have HW:=hide (rfl:w.heap.size = w.heap.size)
 clear hD hv kA kB hA hA2 hB hL hR
 go_enter Tryz.func46,Tryz.ntmps46
 go_wp2_with fail
 refine Calls.mono (uh HNC) ?_
 rintro e w1 ⟨v1,rfl,ho1,k1⟩
 have HRS:=hide (xa4h ho1)
 have HBL:=hide (fun x (hx:x∈blk v1)=>ho1.lt x (xa5g ho1 hx))
 have HK1:=hide ((uh HKB).trans k1 (by simp))
 have HA1:=hide (k1.heap (uh HA) (by simp))
 have HB1:=hide (k1.heap (uh HB) (by simp))
 have HZ1:=hide (by have:=k1.size; simp at this; omega:w.heap.size + 2≤w1.heap.size)
 obtain ⟨va,vl,vc,rfl,g1,g2,g3,g4⟩:=uh HRS
 subst g1
 have H4:=hide g4
 clear k1 ho1 g4 HNC HKB HA HB
 go_wp2_with fail
 have HF0:=hide (⟨uh HB1,by have:=uh HZ1; omega,World.ownsRow_nil _ _ _ _,OwnX.start w1,rfl,by decide,by decide,by decide⟩:FK w1 w1 (w.heap.size + 1) fst0 (.slice none 0 0) (.slice none 0 0) [])
 go_loopw [17] (fun t17 wr=>∃ (i:Nat) (f:FSt) (sv bv:Value) (ts:List (Nat × Value × List En)),i≤L.length∧t17 = .int .i64 (i:Int)∧Hid (findF σ wd f (L.drop i) = R)∧Hid (FK w1 wr (w.heap.size + 1) f sv bv ts)∧Hid (Kept [w.heap.size + 1] w1 wr)∧Hid (f.last < 18446744073709551615∧f.ep < 18446744073709551615∧f.sg.length≤i∧ts.length + rdT σ (L.drop i)≤1000000000000)) (fun t _=>L.length - (intOf t).toNat)
 case atStart=>exact ⟨0,fst0,_,_,[],Nat.zero_le _,rfl,by rw [List.drop_zero]; exact HR,HF0,hide (Kept.refl _ _),hide ⟨by decide,by decide,by decide,by rw [List.drop_zero]; simpa using hT⟩⟩
 case round =>
  obtain ⟨i,f,sv,bv,ts,hi,rfl,HT,HF,HK,HBD⟩:=hrel
  have HAR:=hide ((uh HK).heap (uh HA1) (by intro hm; have:=List.mem_singleton.1 hm; omega))
  by_cases hlt:i < L.length
  ·have hlt':(i:Int) < L.length:=by omega
   obtain ⟨b,off,rfl,hc⟩:=uh H4 (by omega)
   have q0:=(uh HK).cell (hc i hlt) (by intro hm; have h9:=(uh HBL b (by simp [blk])).1; have h8:b = w.heap.size + 1:=List.mem_singleton.1 hm; simp at h9; omega)
   have HSI:=hide (uh HNM L[i] (List.getElem_mem hlt))
   have HDR:=hide (List.drop_eq_getElem_cons hlt)
   generalize L[i] = s at q0 HSI HDR
   have hic:(i:Int) < vc:=by omega
   rw [xa6n] at q0
   have ha1:IntKind.i64.wrap ((i:Int) + 1) = (i:Int) + 1:=by rw [IntKind.wrap_i64]; omega
   have HVR:=hide ((((uh HVG).old (uh HK1)).on (uh HK) (fun x hx=>by rw [List.mem_singleton.1 hx]; omega)))
   have HDR2:=hide (((uh HDK).old (uh HK1)).kept (uh HK) (fun x hx hm=>by have h9:=(uh HDK).lt x hx; have:=List.mem_singleton.1 hm; omega))
   clear hc
   have HT2:=hide (by have h9:=uh HT; rw [uh HDR] at h9; exact h9:findF σ wd f (s :: L.drop (i + 1)) = R)
   have HRT:=hide (by have h9:=(uh HBD).2.2.2; rw [uh HDR,xb7f] at h9; exact h9:ts.length + ((stRead σ (strU s)).1.length + rdT σ (L.drop (i + 1)))≤1000000000000)
   have HNU:=hide (xb0j (natL s) wr (xb3i s) (by have:=uh HSI; simp [natL]; omega) (uh HVR).now)
   rw [xb6k] at HNU
   have HUL:=hide (nbU_lt (natL s))
   obtain ⟨P,hP⟩:∃ x,(stRead σ (strU s)).1 = x:=⟨_,rfl⟩
   obtain ⟨NE,hNE⟩:∃ x,nbE (natL s) = x:=⟨_,rfl⟩
   obtain ⟨NU,hNU⟩:∃ x,nbU (natL s) = x:=⟨_,rfl⟩
   have H1:=hide (fun (h:NE≠0)=>xa4k (uh HT2) (xb8q (by rw [hNE]; exact h)))
   have H2:=hide (fun (h:NE = 0) (h2:NU = 18446744073709551615)=>xa5z (uh HT2) (xb7h (by rw [hNE]; exact h) (by rw [hNU]; exact h2)))
   have H3:=hide (fun (h:NE = 0) (h2:NU≠18446744073709551615) (h3:sgE P≠0)=>(by have h9:=xa4k (uh HT2) (xb8w hP (by rw [hNE]; exact h) (by rw [hNU]; exact h2) h3); rw [hNU] at h9; exact h9:findF σ wd ⟨NU,f.ep,f.sz,f.sg,f.bs⟩ (L.drop (i + 1)) = R))
   have H4':=hide (fun (h:NE = 0) (h2:NU≠18446744073709551615) (h3:sgE P = 0) (h4:¬ ((hdC P).a = NU∧((hdC P).d:Int) = wd∧goOnF f P = true))=>xa5z (uh HT2) (xb7y hP (by rw [hNE]; exact h) (by rw [hNU]; exact h2) h3 (by rw [hNU]; exact h4)))
   have H5:=hide (fun (h:NE = 0) (h2:NU≠18446744073709551615) (h3:sgE P = 0) (h4:(hdC P).a = NU∧((hdC P).d:Int) = wd∧goOnF f P = true)=>(by have h9:=xa4k (uh HT2) (xb8l hP (by rw [hNE]; exact h) (by rw [hNU]; exact h2) h3 (by rw [hNU]; exact h4)); rw [hNU] at h9; exact h9:findF σ wd ⟨NU,(hdC P).b,(f.sz + cntB (sgB P)) % 18446744073709551616,f.sg++[s],f.bs++sgB P⟩ (L.drop (i + 1)) = R))
   have HPL:=hide (by
    rw [← hP]
    unfold stRead
    split
    ·simp
    ·split
     ·simp
     ·rename_i x hx
      exact Nat.le_trans ((uh HDK).byt x (List.mem_of_find?_eq_some hx)) hb:P.length≤100000000000)
   rw [hP] at HRT
   rw [hNE,hNU] at HNU
   rw [hNU] at HUL
   have HPQ:=hide hP
   clear hNE hNU hP HT HT2 HDR
   go_wp2_with fail
   refine Calls.mono (uh HNU) ?_
   rintro e w2 ⟨rfl,k2⟩
   have HF2:=hide ((uh HF).pass k2)
   have HK2:=hide ((uh HK).trans k2 (by simp))
   have HA2:=hide (k2.heap (uh HAR) (by simp))
   have HV2:=hide ((uh HVR).old k2)
   have HD2:=hide ((uh HDR2).old k2)
   clear k2 q0 HNU HF HK HAR HVR HDR2
   by_cases hne:NE = 0
   ·subst hne
    by_cases hnu:NU = 18446744073709551615
    ·have hq:((NU:Int) == 18446744073709551615) = true:=by rw [hnu]; rfl
     have HRN:=hide (uh H2 (by simp) hnu)
     obtain ⟨z0,z1,z2,z3,z4⟩:=cells5 (uh HA2)
     obtain ⟨y0,y1,y2,y3,y4⟩:=ffroz (uh HA2)
     clear hnu H1 H2 H3 H4' H5
     go_wp2_with fail
     refine bodyPost_ret (v:=.tuple #[.agg zFd,.bool false]) ?_ rfl ⟨Or.inl ⟨uh HRN,rfl⟩,?_⟩
     ·exact xa0g rfl _ _ w.heap.size _ zFd (0,0) _ rfl (xa1y (uh HA2) _ _ _ _ _) Tryz.underlying110 rfl Tryz.size_found _ rfl
     ·exact xa1m ((uh HK1).trans (uh HK2) (fun x hx=>Or.inr (by rw [List.mem_singleton.1 hx]; omega))) w.heap.size (Or.inr (Nat.le_refl _)) _ _ _ _ _
    ·have hq:((NU:Int) == 18446744073709551615) = false:=by simp; omega
     obtain ⟨c0,c1,c2,c3,c4⟩:=xa0s (uh HF2).row
     obtain ⟨y0,y1,y2,y3,y4⟩:=ffroz (uh HF2).row
     have kS:=(Kept.refl [w.heap.size + 1] w2).setCell (p:=⟨w.heap.size + 1,0,none⟩) (.inl (by simp)) (.int .u64 (NU:Int))
     have hS2:(w2.setCell ⟨w.heap.size + 1,0,none⟩ (.int .u64 (NU:Int))).heap[w.heap.size + 1]? = some (.cells (fdC ⟨NU,f.ep,f.sz,f.sg,f.bs⟩ sv bv) 110 (0,0)):=by rw [heap_setCell_same _ _ 0 _ _ _ (uh HF2).row]; rfl
     have HF3:=hide ((uh HF2).turn (f':=⟨NU,f.ep,f.sz,f.sg,f.bs⟩) kS hS2 rfl rfl (uh HUL) (uh HF2).ep (uh HF2).szb)
     have HK3:=hide ((uh HK2).trans kS (fun x hx=>Or.inl hx))
     have HA3:=hide (kS.heap (uh HA2) (by intro hm; have:=List.mem_singleton.1 hm; omega))
     have HD3:=hide ((uh HD2).kept kS (fun x hx hm=>by have h9:=(uh HDK).lt x hx; have:=List.mem_singleton.1 hm; omega))
     obtain ⟨W3,hW3⟩:∃ W,w2.setCell ⟨w.heap.size + 1,0,none⟩ (.int .u64 (NU:Int)) = W:=⟨_,rfl⟩
     rw [hW3] at HF3 HK3 HA3 HD3
     have HW3:=hide hW3
     have HRD:=hide (read_D d (max nb ob) bb B σ (strU s) W3 (uh HD3).toDK (by rw [xa7p]; have:=uh HSI; omega) (by omega))
     clear hW3 kS hS2 HF2 HK2 HA2 HV2 HD2
     go_upto_region 10 with fail
     rw [uh HW3]
     clear c0 c1 c2 c3 c4 y0 y1 y2 y3 y4
     go_wp2_with fail
     refine Calls.mono (uh HRD) ?_
     rintro e w4 ⟨v4,rfl,hw4,k4⟩
     rw [uh HPQ] at hw4
     have hr4:=hw4.rd
     obtain ⟨a4,n4,c4,rfl,hn4,_⟩:=id hr4
     have HF4:=hide ((uh HF3).pass k4)
     have HK4:=hide ((uh HK3).trans k4 (by simp))
     have HA4:=hide (k4.heap (uh HA3) (by simp))
     have HRO:=hide (xb2n _ P w4 hr4 (uh HPL))
     clear k4 hw4 hr4 hn4 HRD HF3 HK3 HA3 HD3 HW3
     go_wp2_with fail
     refine Calls.mono (uh HRO) ?_
     rintro e w5 ⟨b5,rfl,⟨ss,hss,ho5⟩,k5⟩
     obtain ⟨a5,c5,rfl⟩:=xa0t ho5.own
     obtain ⟨SE,hSE⟩:∃ x,sgE P = x:=⟨_,rfl⟩
     obtain ⟨⟨xa,xb,xc,xd⟩,hX⟩:∃ x,hdC P = x:=⟨_,rfl⟩
     obtain ⟨SU,hSU⟩:∃ x,sgU P = x:=⟨_,rfl⟩
     have HWG:=hide (fun (V:World) (hr:V.heap[w.heap.size + 1]? = some (.cells (fdC ⟨NU,f.ep,f.sz,f.sg,f.bs⟩ sv bv) 110 (0,0)))=>xb3a (w.heap.size + 1) xa xb xc (xd:Int) ⟨NU,f.ep,f.sz,f.sg,f.bs⟩ sv bv V hr P (by rw [hX]) (by rw [hX]))
     have HXB:=hide (by have h9:=(hd_lt P).2.1; rw [hX] at h9; exact h9:xb < 18446744073709551616)
     rw [hSE] at H3 H4' H5
     rw [hX] at H4' H5
     rw [hSE,hX,hSU]
     dsimp only at H4' H5 ⊢
     rw [hss] at H5
     have HGO:=hide (xb1d f NU P)
     have HGE:=hide (fun (h:goOnF f P = true)=>by unfold goOnF at h; rw [hX] at h; simp only [Bool.and_eq_true,decide_eq_true_eq] at h; exact h.2:goOnF f P = true→xb < 18446744073709551615)
     obtain ⟨GO,hGO⟩:∃ x,goOnF f P = x:=⟨_,rfl⟩
     have HSL:=hide (by rw [← List.length_map (f:=fun t:Nat × Value × List En=>(t.1,t.2.2)),← hss]; exact sgB_le P:ss.length≤P.length)
     rw [hGO] at H4' H5 HGO HGE
     rw [uh HGO] at HWG
     have HF5:=hide ((uh HF4).pass k5)
     have HK5:=hide ((uh HK4).trans k5 (by simp))
     have HA5:=hide (k5.heap (uh HA4) (by simp))
     have HO5:=hide ho5
     have HVB:=hide (fun x hx=>((uh HF4).bs.own.lt x hx).2:∀ x,bv.ownBlock = some x→x < w4.heap.size)
     have HVS:=hide (fun x hx=>((uh HF4).sg.lt x hx).2:∀ x,sv.ownBlock = some x→x < w4.heap.size)
     have H01:=hide (uh HK4).size
     have kN:=(Kept.refl [] w5).alloc (.cells #[.int .u64 (xa:Int),.int .u64 (xb:Int),.int .u64 (xc:Int),.int .i64 (xd:Int),.slice a5 ss.length c5,.int .i64 (SU:Int)] 83)
     have hNw:=heap_alloc_new w5 (.cells #[.int .u64 (xa:Int),.int .u64 (xb:Int),.int .u64 (xc:Int),.int .i64 (xd:Int),.slice a5 ss.length c5,.int .i64 (SU:Int)] 83)
     have HF6:=hide ((uh HF5).pass kN)
     have HK6:=hide ((uh HK5).trans kN (by simp))
     have HA6:=hide (kN.heap (uh HA5) (by simp))
     have HKN:=hide kN
     have HNW:=hide hNw
     clear k5 ho5 hSE hX hSU hss hGO kN hNw HRO HF4 HK4 HA4 HF5 HK5 HA5 HPQ HPL H1 H2 HGO
     by_cases hse:SE = 0
     ·subst hse
      go_upto_region 13 with fail
      obtain ⟨W6,hW6⟩:∃ W,w5.alloc (.cells #[.int .u64 (xa:Int),.int .u64 (xb:Int),.int .u64 (xc:Int),.int .i64 (xd:Int),.slice a5 ss.length c5,.int .i64 (SU:Int)] 83) = W:=⟨_,rfl⟩
      rw [hW6] at HF6 HK6 HA6 HKN HNW ⊢
      clear hW6
      obtain ⟨s0,s1,s2,s3,s4,s5⟩:=scells (uh HNW)
      obtain ⟨z0,z1,z2,z3,z4⟩:=cells5 (uh HA6)
      obtain ⟨y0,y1,y2,y3,y4⟩:=ffroz (uh HA6)
      by_cases ha:xa = NU
      ·have ha':((xa:Int) != (NU:Int)) = false:=by rw [ha]; simp
       by_cases hd:(xd:Int) = wd
       ·have hd':((xd:Int) != wd) = false:=by rw [hd]; simp
        by_cases hgo:GO = true
        ·have HT3:=hide (uh H5 (by simp) hnu rfl ⟨ha,hd,hgo⟩)
         have HNM9:=hide hnu
         have HEB:=hide (uh HGE hgo)
         subst hgo
         clear ha hd hnu H3 H4' H5
         go_wp2_with fail
         refine Calls.mono (uh HWG W6 (uh HF6).row) ?_
         rintro e w7 ⟨rfl,k7⟩
         have HF7:=hide ((uh HF6).pass k7)
         have HK7:=hide ((uh HK6).trans k7 (by simp))
         have HN7:=hide (k7.heap (uh HNW) (by simp))
         have HKN7:=hide ((uh HKN).trans k7 (by simp))
         clear k7 s0 s1 s2 s3 s4 s5 z0 z1 z2 z3 z4 y0 y1 y2 y3 y4 HF6 HK6 HNW HKN HWG HA6
         obtain ⟨s0,s1,s2,s3,s4,s5⟩:=scells (uh HN7)
         go_wp2_with fail
         refine Calls.mono (xb5o (w.heap.size + 1) xa xb xc SU (xd:Int) s ⟨NU,f.ep,f.sz,f.sg,f.bs⟩ sv bv (.slice a5 ss.length c5) ts ss w1 w4 w5 w7 [] (uh HF7) (uh HK7) (uh HO5) (uh HKN7) (by simp) (uh H01) (uh HVB) (uh HVS) (uh HXB) (by have:=uh HRT; have:=uh HSL; omega) (by have:=(uh HBD).2.2.1; have:=uh HNL; dsimp only; omega)) ?_
         rintro e w8 ⟨sv8,bv8,rfl,hf8,hk8⟩
         have HF8:=hide hf8
         have HK8:=hide hk8
         have HBX:=hide (by have h9:=uh HXB; have h8:=hf8.ep; exact h8:xb < 18446744073709551616)
         clear hf8 hk8 s0 s1 s2 s3 s4 s5 HF7 HK7 HN7 HKN7 HO5 HVB HVS H01
         go_wp2_with fail
         go_roundw
         case rel=>exact ⟨i + 1,_,sv8,bv8,ts++ss,by omega,by simp,HT3,HF8,HK8,hide ⟨by show NU < 18446744073709551615; have:=uh HUL; have:=uh HNM9; omega,uh HEB,by have:=(uh HBD).2.2.1; simp only [List.length_append,List.length_cons,List.length_nil]; omega,by rw [List.length_append]; have:=uh HRT; have:=uh HSL; omega⟩⟩
         case measure=>simp [intOf]; omega
        ·have HRN:=hide (uh H4' (by simp) hnu rfl (fun h=>hgo h.2.2))
         have hgo2:GO = false:=by simpa using hgo
         subst hgo2
         clear ha hd hnu hgo H3 H4' H5
         go_wp2_with fail
         refine Calls.mono (uh HWG W6 (uh HF6).row) ?_
         rintro e w7 ⟨rfl,k7⟩
         have HK7:=hide ((uh HK6).trans k7 (by simp))
         have HA7:=hide (k7.heap (uh HA6) (by simp))
         clear k7 s0 s1 s2 s3 s4 s5 z0 z1 z2 z3 z4 y0 y1 y2 y3 y4 HF6 HK6 HNW HKN HWG HA6
         obtain ⟨z0,z1,z2,z3,z4⟩:=cells5 (uh HA7)
         obtain ⟨y0,y1,y2,y3,y4⟩:=ffroz (uh HA7)
         go_wp2_with fail
         refine bodyPost_ret (v:=.tuple #[.agg zFd,.bool false]) ?_ rfl ⟨Or.inl ⟨uh HRN,rfl⟩,?_⟩
         ·exact xa0g rfl _ _ w.heap.size _ zFd (0,0) _ rfl (xa1y (uh HA7) _ _ _ _ _) Tryz.underlying110 rfl Tryz.size_found _ rfl
         ·exact xa1m ((uh HK1).trans (uh HK7) (fun x hx=>Or.inr (by rw [List.mem_singleton.1 hx]; omega))) w.heap.size (Or.inr (Nat.le_refl _)) _ _ _ _ _
       ·have hd':((xd:Int) != wd) = true:=by rw [bne_iff_ne]; exact hd
        have HRN:=hide (uh H4' (by simp) hnu rfl (fun h=>hd h.2.1))
        clear ha hd hnu H3 H4' H5
        go_wp2_with fail
        refine bodyPost_ret (v:=.tuple #[.agg zFd,.bool false]) ?_ rfl ⟨Or.inl ⟨uh HRN,rfl⟩,?_⟩
        ·exact xa0g rfl _ _ w.heap.size _ zFd (0,0) _ rfl (xa1y (uh HA6) _ _ _ _ _) Tryz.underlying110 rfl Tryz.size_found _ rfl
        ·exact xa1m ((uh HK1).trans (uh HK6) (fun x hx=>Or.inr (by rw [List.mem_singleton.1 hx]; omega))) w.heap.size (Or.inr (Nat.le_refl _)) _ _ _ _ _
      ·have ha':((xa:Int) != (NU:Int)) = true:=by rw [bne_iff_ne]; omega
       have HRN:=hide (uh H4' (by simp) hnu rfl (fun h=>ha h.1))
       clear ha hnu H3 H4' H5
       go_wp2_with fail
       refine bodyPost_ret (v:=.tuple #[.agg zFd,.bool false]) ?_ rfl ⟨Or.inl ⟨uh HRN,rfl⟩,?_⟩
       ·exact xa0g rfl _ _ w.heap.size _ zFd (0,0) _ rfl (xa1y (uh HA6) _ _ _ _ _) Tryz.underlying110 rfl Tryz.size_found _ rfl
       ·exact xa1m ((uh HK1).trans (uh HK6) (fun x hx=>Or.inr (by rw [List.mem_singleton.1 hx]; omega))) w.heap.size (Or.inr (Nat.le_refl _)) _ _ _ _ _
     ·have hse':((SE:Int) != 0) = true:=by rw [bne_iff_ne]; omega
      have HT3:=hide (uh H3 (by simp) hnu hse)
      have HNL9:=hide (by have:=uh HUL; omega:NU < 18446744073709551615)
      clear hse hnu H3 H4' H5
      go_wp2_with fail
      go_roundw
      case rel=>exact ⟨i + 1,_,sv,bv,ts,by omega,by simp,HT3,HF6,HK6,hide ⟨uh HNL9,(uh HBD).2.1,by have:=(uh HBD).2.2.1; dsimp only; omega,by have:=uh HRT; omega⟩⟩
      case measure=>simp [intOf]; omega
   ·have hne':((NE:Int) != 0) = true:=by rw [bne_iff_ne]; omega
    have HT3:=hide (uh H1 hne)
    go_wp2_with fail
    go_roundw
    case rel=>exact ⟨i + 1,f,sv,bv,ts,by omega,by simp,HT3,HF2,HK2,hide ⟨(uh HBD).1,(uh HBD).2.1,by have:=(uh HBD).2.2.1; omega,by have:=uh HRT; omega⟩⟩
    case measure=>simp [intOf]; omega
  ·have hlt':¬ (i:Int) < L.length:=by omega
   have hie:i = L.length:=by omega
   subst hie
   have hz:=uh HT
   rw [List.drop_length] at hz
   unfold findF at hz
   have HRN:=hide hz.symm
   obtain ⟨sa,sc,rfl⟩:=xa0t (uh HF).sg
   obtain ⟨ba,bc,rfl⟩:=(uh HF).bs.shape
   obtain ⟨z0,z1,z2,z3,z4⟩:=cells5 (uh HAR)
   obtain ⟨y0,y1,y2,y3,y4⟩:=ffroz (uh HAR)
   obtain ⟨c0,c1,c2,c3,c4⟩:=xa0s (uh HF).row
   clear hz HT
   go_wp2_with fail
   have kF:Kept [w.heap.size] wr _:=xa1m (Kept.refl [w.heap.size] wr) w.heap.size (Or.inl (by simp)) (.int .u64 (f.last:Int)) (.int .u64 (f.ep:Int)) (.int .u64 (f.sz:Int)) (.slice sa f.sg.length sc) (.slice ba ts.length bc)
   refine bodyPost_ret (v:=.tuple #[.agg (fdC f (.slice sa f.sg.length sc) (.slice ba ts.length bc)),.bool true]) ?_ rfl ⟨Or.inr ⟨f,_,_,ts,uh HRN,rfl,?_,?_,(uh HF).eq,(uh HBD).1,(uh HBD).2.1,(uh HF).szb⟩,?_⟩
   ·exact xa0g rfl _ _ w.heap.size _ (fdC f (.slice sa f.sg.length sc) (.slice ba ts.length bc)) (0,0) _ rfl (xa1y (uh HAR) _ _ _ _ _) Tryz.underlying110 rfl Tryz.size_found _ rfl
   ·exact xa2n (kF.owns (uh HF).sg (fun x hx hm=>by have h9:=((uh HF).sg.lt x hx).1; have:=List.mem_singleton.1 hm; have:=uh HZ1; omega)) (by have:=uh HZ1; omega)
   ·exact ((uh HF).bs.pass kF (fun x hx=>Or.inl (by rw [List.mem_singleton.1 hx]; have:=uh HZ1; omega))).base (by have:=uh HZ1; omega)
   ·exact xa1m ((uh HK1).trans (uh HK) (fun x hx=>Or.inr (by rw [List.mem_singleton.1 hx]; omega))) w.heap.size (Or.inr (Nat.le_refl _)) _ _ _ _ _
end
section
open Go Go.RowKit Go.BigFrame
section
variable {P:Program} {Q:Exit→Act→World→Prop}
theorem xb7t {id:Nat} {o0 o1 o2 o3 o4 o5 o6 o7 o8 o9 o10:Oper} {a:Act} {w:World} (hm:P.follows .mixedOrders = true) (hs:Region.noSelect #[o0,o1,o2,o3,o4,o5,o6,o7,o8,o9,o10] = true)
  (f0:Region.free .any #[o0,o1,o2,o3,o4,o5,o6,o7,o8,o9,o10] #[false,false,false,false,false,false,false,false,false,false,false] 0 = true) (r0:(Region.ready .any #[o0,o1,o2,o3,o4,o5,o6,o7,o8,o9,o10] #[false,false,false,false,false,false,false,false,false,false,false]).contains 0 = true)
  (f1:Region.free .any #[o0,o1,o2,o3,o4,o5,o6,o7,o8,o9,o10] #[true,false,false,false,false,false,false,false,false,false,false] 1 = true) (r1:(Region.ready .any #[o0,o1,o2,o3,o4,o5,o6,o7,o8,o9,o10] #[true,false,false,false,false,false,false,false,false,false,false]).contains 1 = true)
  (f2:Region.free .any #[o0,o1,o2,o3,o4,o5,o6,o7,o8,o9,o10] #[true,true,false,false,false,false,false,false,false,false,false] 2 = true) (r2:(Region.ready .any #[o0,o1,o2,o3,o4,o5,o6,o7,o8,o9,o10] #[true,true,false,false,false,false,false,false,false,false,false]).contains 2 = true)
  (f3:Region.free .any #[o0,o1,o2,o3,o4,o5,o6,o7,o8,o9,o10] #[true,true,true,false,false,false,false,false,false,false,false] 3 = true) (r3:(Region.ready .any #[o0,o1,o2,o3,o4,o5,o6,o7,o8,o9,o10] #[true,true,true,false,false,false,false,false,false,false,false]).contains 3 = true)
  (f4:Region.free .any #[o0,o1,o2,o3,o4,o5,o6,o7,o8,o9,o10] #[true,true,true,true,false,false,false,false,false,false,false] 4 = true) (r4:(Region.ready .any #[o0,o1,o2,o3,o4,o5,o6,o7,o8,o9,o10] #[true,true,true,true,false,false,false,false,false,false,false]).contains 4 = true)
  (f6:Region.free .any #[o0,o1,o2,o3,o4,o5,o6,o7,o8,o9,o10] #[true,true,true,true,true,false,false,false,false,false,false] 6 = true) (r6:(Region.ready .any #[o0,o1,o2,o3,o4,o5,o6,o7,o8,o9,o10] #[true,true,true,true,true,false,false,false,false,false,false]).contains 6 = true)
  (f7:Region.free .any #[o0,o1,o2,o3,o4,o5,o6,o7,o8,o9,o10] #[true,true,true,true,true,false,true,false,false,false,false] 7 = true) (r7:(Region.ready .any #[o0,o1,o2,o3,o4,o5,o6,o7,o8,o9,o10] #[true,true,true,true,true,false,true,false,false,false,false]).contains 7 = true)
  (q_:Region.ready .any #[o0,o1,o2,o3,o4,o5,o6,o7,o8,o9,o10] #[true,true,true,true,true,false,true,true,false,false,false] = [5])
  (f_5_8:Region.free .any #[o0,o1,o2,o3,o4,o5,o6,o7,o8,o9,o10] #[true,true,true,true,true,true,true,true,false,false,false] 8 = true) (r_5_8:(Region.ready .any #[o0,o1,o2,o3,o4,o5,o6,o7,o8,o9,o10] #[true,true,true,true,true,true,true,true,false,false,false]).contains 8 = true)
  (f_5_9:Region.free .any #[o0,o1,o2,o3,o4,o5,o6,o7,o8,o9,o10] #[true,true,true,true,true,true,true,true,true,false,false] 9 = true) (r_5_9:(Region.ready .any #[o0,o1,o2,o3,o4,o5,o6,o7,o8,o9,o10] #[true,true,true,true,true,true,true,true,true,false,false]).contains 9 = true)
  (f_5_10:Region.free .any #[o0,o1,o2,o3,o4,o5,o6,o7,o8,o9,o10] #[true,true,true,true,true,true,true,true,true,true,false] 10 = true) (r_5_10:(Region.ready .any #[o0,o1,o2,o3,o4,o5,o6,o7,o8,o9,o10] #[true,true,true,true,true,true,true,true,true,true,false]).contains 10 = true)
  (q5_:Region.ready .any #[o0,o1,o2,o3,o4,o5,o6,o7,o8,o9,o10] #[true,true,true,true,true,true,true,true,true,true,true] = [])
  (g5:o5.guard = none)
  (v0 v1 v2 v3 v4 v6 v7:Value) (A0 A1 A2 A3 A4 A5 A6:Act)
  (S:World→Prop)
  (I_:World→Prop)
  (I5_:Value→World→Prop)
  (v8:Value→Value)
  (v9:Value→Value)
  (v10:Value→Value)
  (p0:a.put o0.dst v0 = A0) (hy0:YieldsIf P #[o0,o1,o2,o3,o4,o5,o6,o7,o8,o9,o10] S o0 v0 a)
  (p1:A0.put o1.dst v1 = A1) (hy1:YieldsIf P #[o0,o1,o2,o3,o4,o5,o6,o7,o8,o9,o10] S o1 v1 A0)
  (p2:A1.put o2.dst v2 = A2) (hy2:YieldsIf P #[o0,o1,o2,o3,o4,o5,o6,o7,o8,o9,o10] S o2 v2 A1)
  (p3:A2.put o3.dst v3 = A3) (hy3:YieldsIf P #[o0,o1,o2,o3,o4,o5,o6,o7,o8,o9,o10] S o3 v3 A2)
  (p4:A3.put o4.dst v4 = A4) (hy4:YieldsIf P #[o0,o1,o2,o3,o4,o5,o6,o7,o8,o9,o10] S o4 v4 A3)
  (p6:A4.put o6.dst v6 = A5) (hy6:YieldsIf P #[o0,o1,o2,o3,o4,o5,o6,o7,o8,o9,o10] S o6 v6 A4)
  (p7:A5.put o7.dst v7 = A6) (hy7:YieldsIf P #[o0,o1,o2,o3,o4,o5,o6,o7,o8,o9,o10] S o7 v7 A5)
  (i0:I_ w.drew)
  (hIS:(∀ w',I_  w'→S w')∧(∀ (u5:Value) w',I5_ u5 w'→S w'))
  (s_5:∀ w',I_  w'→∀ K:Act→World→Prop,(∀ (u5:Value) w2,I5_ u5 w2→K (A6.put o5.dst u5) w2)→o5.wp P A6 w' K (NoPanic Q))
  (y_5_8:∀ (u5:Value) w',I5_ u5 w'→YieldsIf P #[o0,o1,o2,o3,o4,o5,o6,o7,o8,o9,o10] S o8 (v8 u5) (A6.put o5.dst u5))
  (y_5_9:∀ (u5:Value) w',I5_ u5 w'→YieldsIf P #[o0,o1,o2,o3,o4,o5,o6,o7,o8,o9,o10] S o9 (v9 u5) ((A6.put o5.dst u5).put o8.dst (v8 u5)))
  (y_5_10:∀ (u5:Value) w',I5_ u5 w'→YieldsIf P #[o0,o1,o2,o3,o4,o5,o6,o7,o8,o9,o10] S o10 (v10 u5) (((A6.put o5.dst u5).put o8.dst (v8 u5)).put o9.dst (v9 u5)))
  (h:∀ (u5:Value) w',I5_ u5 w'→Q .normal ((((A6.put o5.dst u5).put o8.dst (v8 u5)).put o9.dst (v9 u5)).put o10.dst (v10 u5)) w') :
  (Code.region id #[o0,o1,o2,o3,o4,o5,o6,o7,o8,o9,o10] true).wp P Q a w:=by
 subst p0 p1 p2 p3 p4 p6 p7
 obtain ⟨z_,z5_⟩:=hIS
 refine wp_region_noPanic ?_
 refine wp_region_held_drew (S:=S) hm (z_ _ i0) (fun hH=>?_)
 show wpAnyH P .any #[o0,o1,o2,o3,o4,o5,o6,o7,o8,o9,o10] (NoPanic Q) S 11 #[false,false,false,false,false,false,false,false,false,false,false] a w.drew
 refine wpAnyH_take (i:=0) (oi:=o0) rfl hs f0 r0 (fun _ _ _ h=>h) hy0 hH ?_
 refine wpAnyH_take (i:=1) (oi:=o1) rfl hs f1 r1 (fun _ _ _ h=>h) hy1 hH ?_
 refine wpAnyH_take (i:=2) (oi:=o2) rfl hs f2 r2 (fun _ _ _ h=>h) hy2 hH ?_
 refine wpAnyH_take (i:=3) (oi:=o3) rfl hs f3 r3 (fun _ _ _ h=>h) hy3 hH ?_
 refine wpAnyH_take (i:=4) (oi:=o4) rfl hs f4 r4 (fun _ _ _ h=>h) hy4 hH ?_
 refine wpAnyH_take (i:=6) (oi:=o6) rfl hs f6 r6 (fun _ _ _ h=>h) hy6 hH ?_
 refine wpAnyH_take (i:=7) (oi:=o7) rfl hs f7 r7 (fun _ _ _ h=>h) hy7 hH ?_
 generalize (((((((a.put o0.dst v0).put o1.dst v1).put o2.dst v2).put o3.dst v3).put o4.dst v4).put o6.dst v6).put o7.dst v7) = B at *
 have wa5:∀ y,Region.wanted o5 y = true:=fun y=>by unfold Region.wanted; rw [g5]
 have t5_:∀ (u5:Value) w',I5_ u5 w'→wpAnyH P .any #[o0,o1,o2,o3,o4,o5,o6,o7,o8,o9,o10] (NoPanic Q) S 0 #[true,true,true,true,true,true,true,true,true,true,true] ((((B.put o5.dst u5).put o8.dst (v8 u5)).put o9.dst (v9 u5)).put o10.dst (v10 u5)) w':=by
  intro u5 w0 i0
  exact ⟨q5_,NoPanic.normal (h u5 w0 i0)⟩
 have t_:∀ w',I_  w'→wpAnyH P .any #[o0,o1,o2,o3,o4,o5,o6,o7,o8,o9,o10] (NoPanic Q) S 4 #[true,true,true,true,true,false,true,true,false,false,false] B w':=by
  intro w0 i0
  refine wpAnyH_ready (rs:=[5]) q_ (by simp) (AllReadyH.cons (o:=o5) rfl (fun K hK=>?_) AllReadyH.nil)
  ·rw [if_pos (wa5 _)]
   refine s_5  w0 i0 K (fun u5 w1 i1=>hK.out _ _ (z5_ u5 w1 i1) (fun _=>?_))
   clear hK
   refine wpAnyH_take (i:=8) (oi:=o8) rfl hs f_5_8 r_5_8 (fun _ _ _ h=>h) (y_5_8 u5 w1 i1) (z5_ u5 w1 i1) ?_
   refine wpAnyH_take (i:=9) (oi:=o9) rfl hs f_5_9 r_5_9 (fun _ _ _ h=>h) (y_5_9 u5 w1 i1) (z5_ u5 w1 i1) ?_
   refine wpAnyH_take (i:=10) (oi:=o10) rfl hs f_5_10 r_5_10 (fun _ _ _ h=>h) (y_5_10 u5 w1 i1) (z5_ u5 w1 i1) ?_
   exact t5_ u5 w1 i1
 exact t_ w.drew i0
end
end
section
open Go.RowKit Go.BigFrame Go.Maps Go.Sort
theorem OwnX.re {X Y M:List Nat} {w0 wo w:World} {v:Value} {ts:List (Nat × Value × List En)} (h:OwnX X w0 wo v ts) (k:Kept M wo w) (hM:∀ x∈M,x < w0.heap.size∨wo.heap.size≤x) (hY:∀ x∈Y,x < w0.heap.size∨wo.heap.size≤x):OwnX Y w0 w v ts:=by
 refine ⟨k.owns h.own (fun b hb hm=>?_),fun t ht=>?_,Nat.le_trans h.sz k.size,fun b hb hm=>?_⟩
 ·have h1:=h.own.lt b hb
  rcases hM b hm with h2 | h2 <;> omega
 ·obtain ⟨B,C,h1,h2,h3,h4,h5⟩:=h.rd t ht
  refine ⟨B,C,Nat.le_trans h1 k.size,h2,h3,fun b hb=>?_,fun N w2 kN hN=>h5 (M++N) w2 ((k.mono (M:=M++N) (fun x hx=>by simp [hx])).trans kN (fun x hx=>Or.inl (by simp [hx]))) (fun x hx=>?_)⟩
  ·rcases hY b hb with h6 | h6
   ·exact Or.inl (by omega)
   ·exact Or.inr (by omega)
  ·rcases List.mem_append.1 hx with hx | hx
   ·rcases hM x hx with h6 | h6
    ·exact Or.inl (by omega)
    ·exact Or.inr (by omega)
   ·exact hN x hx
 ·have h1:=h.own.lt b hb
  rcases hY b hm with h2 | h2 <;> omega
theorem OwnX.none (X:List Nat) {w0 w:World} (h:w0.heap.size≤w.heap.size):OwnX X w0 w (.slice none 0 0) []:=⟨World.ownsRow_nil _ _ _ _,by simp,h,by simp [Value.ownBlock]⟩
theorem ops_F (d nb ob bb:Nat) (B:List Nat) (σ:DSt) (w:World) (h:DKf w d B nb ob bb σ) :
  Calls Tryz.prog 29 #[.pointer (some ⟨d,0,none⟩)] w fun e w'=>e = .returned (.int .i64 σ.op)∧w' = w:=by
 obtain ⟨m,u,fv,fs,h1,rfl,hA⟩:=h.ex
 exact xb8b d σ.sec m nb w u fv σ.cr σ.op σ.off σ.ft fs h1
theorem off_F (d nb ob bb:Nat) (B:List Nat) (σ:DSt) (w:World) (h:DKf w d B nb ob bb σ) :
  Calls Tryz.prog 31 #[.pointer (some ⟨d,0,none⟩)] w fun e w'=>e = .returned (.bool σ.off)∧w' = w:=by
 obtain ⟨m,u,fv,fs,h1,rfl,hA⟩:=h.ex
 exact xb8f d σ.sec m nb w u fv σ.cr σ.op σ.off σ.ft fs h1
structure OpR (w w':World) (d nb ob bb:Nat) (B B':List Nat) (A:OpA) (lp bv:Value) (ts:List (Nat × Value × List En)):Prop where
 dk:DKf w' d B' (nb + 1) (ob + nb + 4) (bb + 48) A.σ
 ev:Ev w w' B B'
 bs:A.bs = ts.map (fun t=>(t.1,t.2.2))
 ow:OwnX B' w w' bv ts
 no:A.l = none→lp = .pointer none
 so:∀ s,A.l = some s→∃ l,lp = .pointer (some ⟨l,0,none⟩)∧w.heap.size≤l∧LK w' l d B' (nb + 1) (ob + nb + 4) (bb + 48) A.σ s∧OwnX (l :: B') w w' bv ts
theorem OpR.fail {w w':World} {d nb ob bb:Nat} {B B':List Nat} {e:Nat} {τ:DSt} (hd:DKf w' d B' (nb + 1) (ob + nb + 4) (bb + 48) τ) (ev:Ev w w' B B'):OpR w w' d nb ob bb B B' ⟨e,τ,none,[]⟩ (.pointer none) (.slice none 0 0) [] :=
 ⟨hd,ev,rfl,OwnX.none _ ev.1.size,fun _=>rfl,fun s h=>by cases h⟩
def OpP (w:World) (d nb ob bb:Nat) (B:List Nat) (A:OpA) (e:Ending) (w':World):Prop:=∃ B' lp bv ts,e = .returned (.tuple #[lp,bv,.int .i64 (A.e:Nat)])∧OpR w w' d nb ob bb B B' A lp bv ts
def opF2 (σ:DSt) (wd lim:Int):Option FSt→OpA
 | none=>⟨11,σ,none,[]⟩
 | some f=>opOf σ wd lim f
theorem opD_eq {σ:DSt} {wd lim:Int} (h:argOk wd lim = true) (h2:σ.off = false):opD σ wd lim = opF2 σ wd lim (findF σ wd fst0 (nmsOf σ)):=by
 unfold opD
 rw [h,if_neg (by simp),h2,if_neg (by simp)]
 cases findF σ wd fst0 (nmsOf σ) <;> rfl
theorem xb1l {σ:DSt} {wd:Int}:∀ {l:List (List UInt8)} {f g:FSt},findF σ wd f l = some g→g.sg.length≤f.sg.length + l.length∧∀ x∈g.sg,x∈f.sg∨x∈l
 | [],f,g,h=>by unfold findF at h; cases h; exact ⟨by simp,fun x hx=>Or.inl hx⟩
 | s :: r,f,g,h=>by
  cases hs:stepF σ wd f s with
  | none=>have:=xa5z h hs; cases this
  | some q =>
   have ih:=xb1l (xa4k h hs)
   have hq:q.sg.length≤f.sg.length + 1∧∀ x∈q.sg,x∈f.sg∨x = s:=by
    unfold stepF at hs
    split at hs
    ·cases hs; exact ⟨by omega,fun x hx=>Or.inl hx⟩
    ·split at hs
     ·cases hs
     ·split at hs
      ·cases hs; exact ⟨by show f.sg.length≤_; omega,fun x hx=>Or.inl hx⟩
      ·split at hs
       ·cases hs
        exact ⟨by show (f.sg++[s]).length≤_; simp,fun x hx=>by have hx2:x∈f.sg++[s]:=hx; simpa using hx2⟩
       ·cases hs
   refine ⟨by simp only [List.length_cons]; omega,fun x hx=>?_⟩
   rcases ih.2 x hx with h1 | h1
   ·rcases hq.2 x h1 with h2 | h2
    ·exact Or.inl h2
    ·exact Or.inr (by simp [h2])
   ·exact Or.inr (by simp [h1])
set_option maxHeartbeats 2000000 in
theorem xb2r (p:Value) (hp:p = .pointer none∨∃ d,p = .pointer (some ⟨d,0,none⟩)) (wd lim:Int) (w:World) (h:argOk wd lim = false) :
  Calls Tryz.prog 15 #[p,.int .i64 wd,.int .i64 lim] w fun e w'=>e = .returned (.tuple #[.pointer none,.slice none 0 0,.int .i64 1])∧w' = w:=by
 have h0:¬ (1≤wd∧wd≤32∧1≤lim∧lim≤1048576):=by simpa [argOk] using h
 by_cases c1:wd < 1
 ·clear h h0
  go_enter Tryz.func15,Tryz.ntmps15
  go_wp2_with fail
  refine bodyPost_ret (v:=.tuple #[.pointer none,.slice none 0 0,.int .i64 1]) (by rw [results_tmp3 rfl]; rfl) rfl ⟨rfl,rfl⟩
 ·by_cases c2:32 < wd
  ·clear h h0
   go_enter Tryz.func15,Tryz.ntmps15
   go_wp2_with fail
   refine bodyPost_ret (v:=.tuple #[.pointer none,.slice none 0 0,.int .i64 1]) (by rw [results_tmp3 rfl]; rfl) rfl ⟨rfl,rfl⟩
  ·by_cases c3:lim < 1
   ·clear h h0
    go_enter Tryz.func15,Tryz.ntmps15
    go_wp2_with fail
    refine bodyPost_ret (v:=.tuple #[.pointer none,.slice none 0 0,.int .i64 1]) (by rw [results_tmp3 rfl]; rfl) rfl ⟨rfl,rfl⟩
   ·have c4:1048576 < lim:=by omega
    clear h h0
    go_enter Tryz.func15,Tryz.ntmps15
    go_wp2_with fail
    refine bodyPost_ret (v:=.tuple #[.pointer none,.slice none 0 0,.int .i64 1]) (by rw [results_tmp3 rfl]; rfl) rfl ⟨rfl,rfl⟩
set_option maxHeartbeats 8000000 in
theorem xa7j (d nb ob bb g0:Nat) (wd lim:Int) (B:List Nat) (σ:DSt) (w:World) (hD:DKf w d B nb ob bb σ) (hv:VarsG g0 w) (hB:∀ x∈B,g0≤x) (hg0:g0≤w.heap.size) (hn:nb≤400000000) (hob:ob≤400000000) (hb:bb≤90000000000) (hT:rdT σ (nmsOf σ)≤1000000000000) :
  Calls Tryz.prog 15 #[.pointer (some ⟨d,0,none⟩),.int .i64 wd,.int .i64 lim] w fun e w'=>OpP w d nb ob bb B (opD σ wd lim) e w':=by
 by_cases hag:argOk wd lim = true
 ·have h0:1≤wd∧wd≤32∧1≤lim∧lim≤1048576:=by simpa [argOk] using hag
  have HWB:=hide (by unfold wideB; simp; omega:wideB wd = true)
  have HLB:=hide (⟨h0.2.2.1,h0.2.2.2⟩:1≤lim∧lim≤1048576)
  have c1:¬ wd < 1:=by omega
  have c2:¬ 32 < wd:=by omega
  have c3:¬ lim < 1:=by omega
  have c4:¬ 1048576 < lim:=by omega
  have hof:=off_F d nb ob bb B σ w hD
  by_cases hoff:σ.off = true
  ·have hA:opD σ wd lim = ⟨12,σ,none,[]⟩:=by unfold opD; rw [hag,if_neg (by simp),if_pos hoff]
   rw [hA]
   rw [hoff] at hof
   have HOF:=hide hof
   have HDK:=hide (hD.more (nb':=nb + 1) (ob':=ob + nb + 4) (bb':=bb + 48) (by omega) (by omega) (by omega))
   clear hag h0 hof hoff hA hD hv hB
   go_enter Tryz.func15,Tryz.ntmps15
   go_wp2_with fail
   refine Calls.mono (uh HOF) ?_
   rintro e w' ⟨rfl,rfl⟩
   go_wp2_with fail
   refine bodyPost_ret (v:=.tuple #[.pointer none,.slice none 0 0,.int .i64 12]) (by rw [results_tmp3 rfl]; rfl) rfl ⟨B,_,_,[],rfl,OpR.fail (uh HDK) (Ev.refl _ _)⟩
  ·have hoff':σ.off = false:=by simpa using hoff
   have HA:=hide (opD_eq hag hoff')
   rw [hoff'] at hof
   have HOF:=hide hof
   have HDK:=hide hD
   have HVG:=hide hv
   have HB:=hide hB
   have HFI:=hide (xb2f d nb ob bb g0 wd B σ w hD hv hg0 (by omega) (by omega) (by omega) hT)
   have HSG:=hide (fun f (h:findF σ wd fst0 (nmsOf σ) = some f)=>by
    have h9:=xb1l h
    refine ⟨Nat.le_trans h9.1 (by show 0 + _≤_; rw [Nat.zero_add]; exact Nat.le_trans (xb4n σ) hD.len),fun s hs=>?_⟩
    rcases h9.2 s hs with h8 | h8
    ·cases h8
    ·obtain ⟨q,hq,rfl⟩:=xb4y h8
     exact Nat.le_trans (Nat.le_of_eq (Array.length_toList)) (xa4d (hD.nms q hq)).2:∀ f,findF σ wd fst0 (nmsOf σ) = some f→f.sg.length≤nb∧∀ s∈f.sg,s.length≤40)
   obtain ⟨R,hR⟩:∃ R,findF σ wd fst0 (nmsOf σ) = R:=⟨_,rfl⟩
   obtain ⟨A,hA⟩:∃ A,opD σ wd lim = A:=⟨_,rfl⟩
   rw [hR] at HFI HA
   rw [hA] at HA ⊢
   simp only [hR] at HSG
   clear hag h0 hof hoff hoff' hR hA hD hv hB hT
   go_enter Tryz.func15,Tryz.ntmps15
   go_wp2_with fail
   refine Calls.mono (uh HOF) ?_
   rintro e w' ⟨rfl,rfl⟩
   go_wp2_with fail
   refine Calls.mono (uh HFI) ?_
   rintro e w1 ⟨⟨rfl,rfl⟩ | ⟨f,sv,bv,ts,rfl,rfl,ho,hx,heq,hlast,hep,hsz⟩,k1⟩
   ·have hz:=uh HA
    simp only [opF2] at hz
    subst hz
    have kN:=k1.alloc (.cells zFd 110)
    have HFA:=hide (OpR.fail (e:=11) ((uh HDK).kept kN (by simp) |>.more (nb':=nb + 1) (ob':=ob + nb + 4) (bb':=bb + 48) (by omega) (by omega) (by omega)) (⟨kN.mono (by simp),fun x hx=>Or.inl hx⟩:Ev w' _ B B))
    clear k1 kN HFI HOF HSG
    go_wp2_with fail
    refine bodyPost_ret (v:=.tuple #[.pointer none,.slice none 0 0,.int .i64 11]) (by rw [results_tmp3 rfl]; rfl) rfl ⟨B,_,_,[],rfl,uh HFA⟩
   ·have hz:=uh HA
    simp only [opF2] at hz
    obtain ⟨sa,sc,rfl⟩:=xa0t ho
    obtain ⟨ba,bc,rfl⟩:=hx.shape
    have kN:=(Kept.refl [] w1).alloc (.cells #[.int .u64 (f.last:Int),.int .u64 (f.ep:Int),.int .u64 (f.sz:Int),.slice sa f.sg.length sc,.slice ba ts.length bc] 110)
    have hN:(w1.alloc (.cells #[.int .u64 (f.last:Int),.int .u64 (f.ep:Int),.int .u64 (f.sz:Int),.slice sa f.sg.length sc,.slice ba ts.length bc] 110)).heap[w1.heap.size]? = some (.cells (fdC f (.slice sa f.sg.length sc) (.slice ba ts.length bc)) 110 (0,0)):=heap_alloc_new w1 (.cells #[.int .u64 (f.last:Int),.int .u64 (f.ep:Int),.int .u64 (f.sz:Int),.slice sa f.sg.length sc,.slice ba ts.length bc] 110)
    have HK1:=hide (k1.trans kN (by simp))
    have HZ:=hide hz
    have HSZ1:=hide k1.size
    have HHX:=hide hx
    have HHQ:=hide heq
    have HSF:=hide ((uh HSG) f rfl)
    have HLA:=hide hlast
    have HEP:=hide hep
    have HSZ:=hide hsz
    have HN:=hide hN
    have HD2:=hide ((uh HDK).old (k1.trans kN (by simp)))
    have HRS:=hide ((xa4h ho).kept kN (by simp))
    have HBS:=hide (fun x (hx:x∈blk (.slice sa f.sg.length sc)) (hm:x∈B)=>by
     have h9:=(ho.lt x (xa5g ho hx)).1
     have:=(uh HDK).lt x hm
     omega:∀ x∈blk (.slice sa f.sg.length sc),x∉B)
    clear hz k1 kN hN hx ho heq hlast hep hsz HFI HOF HSG HA
    unfold fdC
    go_upto_region 8 with fail
    obtain ⟨W2,hW2⟩:∃ W,w1.alloc (.cells #[.int .u64 (f.last:Int),.int .u64 (f.ep:Int),.int .u64 (f.sz:Int),.slice sa f.sg.length sc,.slice ba ts.length bc] 110) = W:=⟨_,rfl⟩
    have HS2:=hide (by rw [← hW2]; simp:W2.heap.size = w1.heap.size + 1)
    rw [hW2] at HK1 HN HD2 HRS ⊢
    have HK12:=hide (by rw [← hW2]; exact (Kept.refl [] w1).alloc (.cells #[.int .u64 (f.last:Int),.int .u64 (f.ep:Int),.int .u64 (f.sz:Int),.slice sa f.sg.length sc,.slice ba ts.length bc] 110):Kept [] w1 W2)
    clear hW2
    have HFL:=hide (xa7x w1.heap.size d nb ob bb B σ f (.slice sa f.sg.length sc) (.slice ba ts.length bc) W2 (uh HN) (uh HRS) (uh HSF).2 (uh HD2) (uh HBS) (by omega) (by have:=(uh HSF).1; omega))
    obtain ⟨⟨E3,τ3⟩,hR3⟩:∃ R,stSyncs σ f.sg = R:=⟨_,rfl⟩
    obtain ⟨⟨E5,τ5⟩,hR5⟩:∃ R,stBegin τ3 (f.last + 1) (f.ep + 1) f.sz wd = R:=⟨_,rfl⟩
    have HA1:=hide (fun (h0:E3≠0)=>(by rw [uh HZ]; unfold opOf; rw [hR3]; dsimp only; rw [if_pos h0]:A = ⟨E3,τ3,none,[]⟩))
    have HA2:=hide (fun (h0:E3 = 0) (h1:E5≠0)=>(by rw [uh HZ]; unfold opOf; rw [hR3]; dsimp only; rw [hR5]; dsimp only; rw [if_neg (by simpa using h0),if_pos h1]:A = ⟨E5,τ5,none,[]⟩))
    have HA3:=hide (fun (h0:E3 = 0) (h1:E5 = 0)=>(by rw [uh HZ]; unfold opOf; rw [hR3]; dsimp only; rw [hR5]; dsimp only; rw [if_neg (by simpa using h0),if_neg (by simpa using h1)]:A = ⟨0,τ5,some ⟨f.last + 1,f.ep + 1,f.sz,wd,48,0,lim,f.sz,0⟩,f.bs⟩))
    rw [hR3] at HFL
    have HR5:=hide hR5
    clear hR3 hR5 HZ
    dsimp only at *
    go_wp2_with fail
    refine Calls.mono (uh HFL) ?_
    rintro e w3 ⟨B3,rfl,hd3,ev3⟩
    have HD3:=hide hd3
    have HE3:=hide (Ev.pre (uh HK1) ev3)
    have HN3:=hide (ev3.1.heap (uh HN) (by intro hm; have:=(uh HDK).lt _ hm; have:=uh HSZ1; omega))
    have HS3:=hide ev3.1.size
    have HKE:=hide ev3
    clear hd3 ev3 HFL
    by_cases h3:E3 = 0
    ·subst h3
     obtain ⟨e0,e1,e2,e3,e4⟩:=xa0s (uh HN3)
     have hw1:IntKind.u64.wrap ((f.last:Int) + 1) = ((f.last + 1:Nat):Int):=by rw [IntKind.wrap_u64]; have:=uh HLA; omega
     have hw2:IntKind.u64.wrap ((f.ep:Int) + 1) = ((f.ep + 1:Nat):Int):=by rw [IntKind.wrap_u64]; have:=uh HEP; omega
     have kC:=(Kept.refl [] w3).alloc (.cells (curC d (f.last + 1) (f.ep + 1) f.sz wd 0 0) 115)
     have hC:=heap_alloc_new w3 (.cells (curC d (f.last + 1) (f.ep + 1) f.sz wd 0 0) 115)
     have HD4:=hide ((uh HD3).old kC)
     have HN4:=hide (kC.heap (uh HN3) (by simp))
     have HKC:=hide kC
     have HC:=hide hC
     clear kC hC
     go_upto_region 14 with fail
     clear e0 e1 e2 e3 e4 hw1 hw2
     obtain ⟨W4,hW4⟩:∃ W,w3.alloc (.cells (curC d (f.last + 1) (f.ep + 1) f.sz wd 0 0) 115) = W:=⟨_,rfl⟩
     have HW4':=hide hW4
     have HS4:=hide (by rw [← hW4]; simp:W4.heap.size = w3.heap.size + 1)
     rw [hW4] at HD4 HN4 HKC HC
     have hW5:w3.alloc (.cells #[.pointer (some ⟨d,0,none⟩),.int .u64 ((f.last:Int) + 1),.int .u64 ((f.ep:Int) + 1),.int .u64 (f.sz:Int),.int .i64 wd,.int .i64 0,.int .i64 0] 115) = W4:=by rw [← hW4]; unfold curC; push_cast; rfl
     rw [hW5]
     clear hW5
     clear hW4 HW4'
     have HBG:=hide (xa5a w3.heap.size (f.last + 1) (f.ep + 1) f.sz d nb (ob + f.sg.length) bb g0 wd B3 τ3 W4 (uh HC) (uh HWB) (by have:=uh HLA; omega) (((uh HVG).on (uh HE3).1 (uh HB)).old (uh HKC)) ((uh HE3).ge (uh HB) hg0) (by have:=(uh HE3).1.size; have:=(uh HKC).size; omega) (uh HD4) (fun hm=>by have:=(uh HD3).lt _ hm; omega) (by omega) (by have:=(uh HSF).1; omega) (by omega))
     rw [uh HR5] at HBG
     dsimp only at HBG
     go_wp2_with fail
     refine Calls.mono (uh HBG) ?_
     rintro e w5 ⟨B5,rfl,hd5,k5,hb5,hr5⟩
     dsimp only at hd5
     have HSB:=hide (uh HSF).1
     have HD5:=hide (hd5.more (Nat.le_refl _) (by have:=uh HSB; omega:ob + f.sg.length + 4≤ob + nb + 4) (Nat.le_refl _))
     have HK5:=hide k5
     have HR5':=hide hr5
     have HB5:=hide hb5
     have HN5:=hide (k5.heap (uh HN4) (by
       intro hm
       rcases List.mem_cons.1 hm with h9 | h9
       ·have:=uh HS3
        have:=uh HS2
        omega
       ·have h8:=(uh HD3).lt _ h9
        rcases (uh HKE).2 _ h9 with h7 | h7
        ·have:=(uh HDK).lt _ h7
         have:=uh HSZ1
         omega
        ·have:=uh HS2
         omega))
     have k35:Kept (w3.heap.size :: B3) w3 w5:=((uh HKC).mono (M:=w3.heap.size :: B3) (by simp)).trans k5 (fun x hx=>Or.inl hx)
     have HE5:=hide (⟨(uh HE3).1.trans k35 (fun x hx=>by
       rcases List.mem_cons.1 hx with rfl | hx
       ·exact Or.inr (uh HE3).1.size
       ·exact (uh HE3).2 x hx),fun x hx=>by
       rcases hb5 x hx with h9 | h9
       ·exact (uh HE3).2 x h9
       ·exact Or.inr (by have:=(uh HE3).1.size; have:=(uh HKC).size; omega)⟩:Ev w' w5 B B5)
     have HQ5:=hide (fun x hx=>by
       rcases hb5 x hx with h9 | h9
       ·rcases (uh HKE).2 x h9 with h8 | h8
        ·exact Or.inl ((uh HDK).lt x h8)
        ·exact Or.inr (by have:=uh HS2; omega)
       ·exact Or.inr (by have:=uh HS4; have:=uh HS3; have:=uh HS2; omega):∀ x∈B5,x < w'.heap.size∨w1.heap.size≤x)
     have HKX:=hide (((uh HK12).mono (M:=w3.heap.size :: (B3++B)) (by simp)).trans (((uh HKE).1.mono (M:=w3.heap.size :: (B3++B)) (fun x hx=>by simp [hx])).trans (k35.mono (M:=w3.heap.size :: (B3++B)) (fun x hx=>by
       rcases List.mem_cons.1 hx with rfl | hx
       ·simp
       ·simp [hx])) (fun x hx=>Or.inl hx)) (fun x hx=>Or.inl hx):Kept (w3.heap.size :: (B3++B)) w1 w5)
     have HMX:=hide (fun x hx=>by
       rcases List.mem_cons.1 hx with rfl | hx
       ·exact Or.inr (by have:=uh HS3; have:=uh HS2; omega)
       ·rcases List.mem_append.1 hx with hx | hx
        ·rcases (uh HKE).2 x hx with h8 | h8
         ·exact Or.inl ((uh HDK).lt x h8)
         ·exact Or.inr (by have:=uh HS2; omega)
        ·exact Or.inl ((uh HDK).lt x hx):∀ x∈w3.heap.size :: (B3++B),x < w'.heap.size∨w1.heap.size≤x)
     clear hd5 k5 hb5 hr5 HBG HD4 HN4 HKC HC k35
     by_cases h5:E5 = 0
     ·subst h5
      have hz:=uh HA3 (by simp) (by simp)
      subst hz
      go_upto_region 17 with fail
      obtain ⟨e0,e1,e2,e3,e4⟩:=xa0s (uh HN5)
      obtain ⟨q0,q1,q2,q3,q4,q5,q6⟩:=xa1f (uh HR5')
      refine xb7t (by kernel_rfl) (by kernel_rfl) (by kernel_rfl) (by kernel_rfl) (by kernel_rfl) (by kernel_rfl) (by kernel_rfl) (by kernel_rfl) (by kernel_rfl) (by kernel_rfl) (by kernel_rfl) (by kernel_rfl) (by kernel_rfl) (by kernel_rfl) (by kernel_rfl) (by kernel_rfl) (by kernel_rfl) (by kernel_rfl) (by kernel_rfl) (by kernel_rfl) (by kernel_rfl) (by kernel_rfl) (by kernel_rfl) (by kernel_rfl) rfl
       (.agg (curC d (f.last + 1) (f.ep + 1) f.sz wd 48 0)) (.int .i64 lim) (.pointer (some ⟨w1.heap.size,2,none⟩)) (.int .u64 (f.sz:Int)) (.agg (lgC d ⟨f.last + 1,f.ep + 1,f.sz,wd,48,0,lim,f.sz,0⟩)) (.pointer (some ⟨w1.heap.size,4,none⟩)) (.slice ba ts.length bc) _ _ _ _ _ _ _
       (fun w'=>Kept [] w5 w')
       (fun w'=>Kept [] w5 w')
       (fun u5 w'=>∃ l,u5 = .pointer (some ⟨l,0,none⟩)∧w5.heap.size≤l∧w'.heap[l]? = some (.cells (lgC d ⟨f.last + 1,f.ep + 1,f.sz,wd,48,0,lim,f.sz,0⟩) 117 (0,0))∧Kept [] w5 w')
       (fun u5=>u5) (fun _=>.slice ba ts.length bc) (fun _=>.int .i64 0)
       (by simp only [Act.put,sa1,sa2,sa3]; rfl) (by exact Or.inl ⟨by rfl,fun W' hW'=>by have h0:=hW'.cell q0 (by simp); have h1:=hW'.cell q1 (by simp); have h2:=hW'.cell q2 (by simp); have h3:=hW'.cell q3 (by simp); have h4:=hW'.cell q4 (by simp); have h5:=hW'.cell q5 (by simp); have h6:=hW'.cell q6 (by simp); go_simp; unfold curC; push_cast; rfl⟩)
       (by simp only [Act.put,sa1,sa2,sa3]; rfl) (by exact Or.inl ⟨by rfl,fun W' hW'=>by go_simp⟩)
       (by simp only [Act.put,sa1,sa2,sa3]; rfl) (by exact Or.inl ⟨by rfl,fun W' hW'=>by go_simp⟩)
       (by simp only [Act.put,sa1,sa2,sa3]; rfl) (by exact Or.inl ⟨by rfl,fun W' hW'=>by have h2:=hW'.cell e2 (by simp); go_simp⟩)
       (by simp only [Act.put,sa1,sa2,sa3]; rfl) (by exact Or.inl ⟨by rfl,fun W' hW'=>by unfold curC lgC; go_simp; try (push_cast; rfl)⟩)
       (by simp only [Act.put,sa1,sa2,sa3]; rfl) (by exact Or.inl ⟨by rfl,fun W' hW'=>by go_simp⟩)
       (by simp only [Act.put,sa1,sa2,sa3]; rfl) (by exact Or.inl ⟨by rfl,fun W' hW'=>by have h4:=hW'.cell e4 (by simp); go_simp⟩)
       (Kept.refl [] w5).drew
       ⟨fun w' h=>h,fun u5 w' h=>h.choose_spec.2.2.2⟩
       (by
        intro w' k K hK
        have hK2:=hK _ _ ⟨w'.heap.size,rfl,k.size,heap_alloc_new w' (.cells (lgC d ⟨f.last + 1,f.ep + 1,f.sz,wd,48,0,lim,f.sz,0⟩) 117),k.alloc _⟩
        clear hK
        simp only [Act.put,sa1,sa2,sa3] at hK2 ⊢
        unfold Oper.wp execOp
        go_simp
        exact hK2)
       (by rintro u5 w' ⟨l,rfl,_⟩; exact Or.inl ⟨by rfl,fun W' hW'=>by go_simp⟩)
       (by rintro u5 w' ⟨l,rfl,_⟩; exact Or.inl ⟨by rfl,fun W' hW'=>by go_simp⟩)
       (by rintro u5 w' ⟨l,rfl,_⟩; exact Or.inl ⟨by rfl,fun W' hW'=>by go_simp⟩)
       ?_
      rintro u5 w6 ⟨l,rfl,hl,hrl,k6⟩
      simp only [Act.put,sa1,sa2,sa3]
      clear e0 e1 e2 e3 e4 q0 q1 q2 q3 q4 q5 q6
      have hdk:=(uh HD5).old k6
      have hlB:l∉B5:=fun hm=>by have:=(uh HD5).lt _ hm; omega
      have HFN:=hide (⟨hdk,⟨(uh HE5).1.trans k6 (by simp),(uh HE5).2⟩,(uh HHQ),(uh HHX).re ((uh HKX).trans k6 (by simp)) (uh HMX) (uh HQ5),(fun h=>(by cases h)),fun s hs=>by
        cases hs
        exact ⟨l,rfl,by have:=(uh HE5).1.size; omega,⟨hrl,hdk,hlB,by have:=uh HLA; show f.last + 1 < _; omega,by have:=uh HEP; show f.ep + 1 < _; omega,uh HSZ,uh HWB,by show 0≤_; omega,by show 48≤_; omega,uh HLB,by show 0 < 100; omega⟩,(uh HHX).re ((uh HKX).trans k6 (by simp)) (uh HMX) (fun x hx=>by
         rcases List.mem_cons.1 hx with rfl | hx
         ·exact Or.inr (by have:=(uh HKX).size; omega)
         ·exact uh HQ5 x hx)⟩⟩:OpR w' w6 d nb ob bb B B5 ⟨0,τ5,some ⟨f.last + 1,f.ep + 1,f.sz,wd,48,0,lim,f.sz,0⟩,f.bs⟩ (.pointer (some ⟨l,0,none⟩)) (.slice ba ts.length bc) ts)
      clear hdk hlB hl hrl k6
      go_wp2_with fail
      refine bodyPost_ret (v:=.tuple #[.pointer (some ⟨l,0,none⟩),.slice ba ts.length bc,.int .i64 0]) (by rw [results_tmp3 rfl]; rfl) rfl ⟨B5,_,_,ts,rfl,uh HFN⟩
     ·have h5':((E5:Int) != 0) = true:=by rw [bne_iff_ne]; omega
      have hz:=uh HA2 (by simp) h5
      subst hz
      clear h5
      go_wp2_with fail
      refine bodyPost_ret (v:=.tuple #[.pointer none,.slice none 0 0,.int .i64 (E5:Int)]) (by rw [results_tmp3 rfl]; rfl) rfl ⟨B5,_,_,[],rfl,OpR.fail (uh HD5) (uh HE5)⟩
    ·have h3':((E3:Int) != 0) = true:=by rw [bne_iff_ne]; omega
     have hz:=uh HA1 h3
     subst hz
     have HD9:=hide ((uh HD3).more (nb':=nb + 1) (ob':=ob + nb + 4) (bb':=bb + 48) (by omega) (by have:=(uh HSF).1; omega) (by omega))
     clear h3
     go_wp2_with fail
     refine bodyPost_ret (v:=.tuple #[.pointer none,.slice none 0 0,.int .i64 (E3:Int)]) (by rw [results_tmp3 rfl]; rfl) rfl ⟨B3,_,_,[],rfl,OpR.fail (uh HD9) (uh HE3)⟩
 ·have hag':argOk wd lim = false:=by simpa using hag
  have hA:opD σ wd lim = ⟨1,σ,none,[]⟩:=by unfold opD; rw [if_pos hag']
  rw [hA]
  refine Calls.mono (xb2r _ (Or.inr ⟨d,rfl⟩) wd lim w hag') ?_
  rintro e w' ⟨rfl,rfl⟩
  exact ⟨B,_,_,[],rfl,OpR.fail (hD.more (by omega) (by omega) (by omega)) (Ev.refl _ _)⟩
theorem nmB_ne {a b:Nat} (ha:a < 18446744073709551616) (hb:b < 18446744073709551616) (h:a≠b):nmB a≠nmB b:=by
 intro e
 exact h (xb7s ha hb (xb1h (xa3x a) (xa3x b) e))
theorem awk1:opD (dH 16 0 []) 4 1 = ⟨0,dH 16 4 [⟨nmB 1,ehB 1 1 0 4,48,true⟩],some ⟨1,1,0,4,48,0,1,0,0⟩,[]⟩:=by
 rw [opD_eq (by decide) rfl]
 have h1:nmsOf (dH 16 0 []) = []:=by simp [nmsOf,srtN,dH]
 rw [h1]
 show opOf (dH 16 0 []) 4 1 fst0 = _
 unfold opOf
 have h2:stSyncs (dH 16 0 []) fst0.sg = (0,dH 16 0 []):=rfl
 rw [h2]
 dsimp only
 have h3:=xb4r (sec:=16) (op:=0) (A:=[]) (fst0.last + 1) (fst0.ep + 1) fst0.sz (wd:=4) (by omega) (by decide) (by simp)
 rw [h3]
 rfl
theorem lay_h {sec:Nat} {op:Int} {A:List DF} {s:LSt} (p:List Nat) (h:0≤op) (hn:(findA A (nmB s.num).data.toList).isSome = true):lgLay (dH sec op A) s p = (0,dH sec (op + 1) (upA A (nmB s.num) fun f=>{ f with bs:=f.bs++p }),{ s with byt:=s.byt + p.length,bt:=s.bt + 1 }):=by
 unfold lgLay
 rw [xa9w p h hn]
 rfl
theorem xb0d {x:DF} {s:ByteArray} (hx:x.nm = s):(findA [x] s.data.toList).isSome = true:=xa2r (A:=[]) hx
theorem awk2:∃ n p,lgAppend (dH 16 4 [⟨nmB 1,ehB 1 1 0 4,48,true⟩]) ⟨1,1,0,4,48,0,1,0,0⟩ [⟨1,[1],[2]⟩] = (0,dH 16 5 [⟨nmB 1,p,48,true⟩],⟨1,1,0,4,48 + n,1,1,1,0⟩):=by
 have hc:chkB 0 [⟨1,[1],[2]⟩] = 0:=by decide
 refine ⟨(sbB 0 [⟨1,[1],[2]⟩]).length,ehB 1 1 0 4++sbB 0 [⟨1,[1],[2]⟩],?_⟩
 have hw:lgWrite (dH 16 4 [⟨nmB 1,ehB 1 1 0 4,48,true⟩]) ⟨1,1,0,4,48,0,1,0,0⟩ (sbB 0 [⟨1,[1],[2]⟩]) = (0,dH 16 5 [⟨nmB 1,ehB 1 1 0 4++sbB 0 [⟨1,[1],[2]⟩],48,true⟩],⟨1,1,0,4,48 + (sbB 0 [⟨1,[1],[2]⟩]).length,1,1,0,0⟩):=by
  unfold lgWrite
  rw [if_neg (by decide),lay_h _ (by omega) (xb0d rfl)]
  have hu:=xa6r [] (nmB 1) (fun f=>{ f with bs:=f.bs++sbB 0 [⟨1,[1],[2]⟩] }) ⟨nmB 1,ehB 1 1 0 4,48,true⟩ rfl (by simp)
  rw [List.nil_append,List.nil_append] at hu
  dsimp only
  rw [hu]
  rfl
 unfold lgAppend
 dsimp only
 rw [if_neg (by simp [hc]),if_neg (by decide),hw]
 rfl
theorem awk3 (n:Nat) (p:List Nat):∃ A m,lgAppend (dH 16 5 [⟨nmB 1,p,48,true⟩]) ⟨1,1,0,4,48 + n,1,1,1,0⟩ [⟨1,[3],[4]⟩] = (0,dH 16 11 A,⟨2,1,1,4,m,1,1,2,0⟩)∧(findA A (nmB 2).data.toList).isSome = true:=by
 have hc:chkB 1 [⟨1,[3],[4]⟩] = 0:=by decide
 have hs:=sync_h (sec:=16) (op:=5) (A:=[⟨nmB 1,p,48,true⟩]) (s:=nmB 1) (by omega) (xb0d rfl)
 have hu:=xa6r [] (nmB 1) (fun f=>{ f with sy:=f.bs.length }) ⟨nmB 1,p,48,true⟩ rfl (by simp)
 rw [List.nil_append,List.nil_append] at hu
 rw [hu] at hs
 dsimp only at hs
 have hb:=xb4r (sec:=16) (op:=5 + 1) (A:=[⟨nmB 1,p,p.length,true⟩]) 2 1 1 (wd:=4) (by omega) (by decide) (fun f hf=>by
  rw [List.mem_singleton] at hf
  subst hf
  exact nmB_ne (by omega) (by omega) (by omega))
 have hr:lgRot (dH 16 5 [⟨nmB 1,p,48,true⟩]) ⟨1,1,0,4,48 + n,1,1,1,0⟩ = (0,dH 16 10 [⟨nmB 1,p,p.length,true⟩,⟨nmB 2,ehB 2 1 1 4,48,true⟩],⟨2,1,1,4,48,0,1,1,0⟩):=by
  unfold lgRot
  dsimp only
  rw [hs]
  dsimp only
  rw [hb]
  rfl
 have hl:=lay_h (sec:=16) (op:=10) (A:=[⟨nmB 1,p,p.length,true⟩,⟨nmB 2,ehB 2 1 1 4,48,true⟩]) (s:=⟨2,1,1,4,48,0,1,1,0⟩) (sbB 1 [⟨1,[3],[4]⟩]) (by omega) (xa2r (A:=[⟨nmB 1,p,p.length,true⟩]) rfl)
 refine ⟨upA [⟨nmB 1,p,p.length,true⟩,⟨nmB 2,ehB 2 1 1 4,48,true⟩] (nmB 2) fun f=>{ f with bs:=f.bs++sbB 1 [⟨1,[3],[4]⟩] },48 + (sbB 1 [⟨1,[3],[4]⟩]).length,?_,?_⟩
 ·have hw:lgWrite (dH 16 5 [⟨nmB 1,p,48,true⟩]) ⟨1,1,0,4,48 + n,1,1,1,0⟩ (sbB 1 [⟨1,[3],[4]⟩]) = (0,dH 16 11 (upA [⟨nmB 1,p,p.length,true⟩,⟨nmB 2,ehB 2 1 1 4,48,true⟩] (nmB 2) fun f=>{ f with bs:=f.bs++sbB 1 [⟨1,[3],[4]⟩] }),⟨2,1,1,4,48 + (sbB 1 [⟨1,[3],[4]⟩]).length,1,1,1,0⟩):=by
   unfold lgWrite
   have hf:lgFull ⟨1,1,0,4,48 + n,1,1,1,0⟩ = true:=by unfold lgFull; simp; omega
   rw [if_pos hf,hr]
   dsimp only
   rw [if_neg (by simp),hl]
   rfl
  unfold lgAppend
  dsimp only
  rw [if_neg (by simp [hc]),if_neg (by simp [lgFail]),hw]
  rfl
 ·unfold findA upA
  rw [List.find?_isSome]
  exact ⟨{ (⟨nmB 2,ehB 2 1 1 4,48,true⟩:DF) with bs:=ehB 2 1 1 4++sbB 1 [⟨1,[3],[4]⟩] },by simp,by simp⟩
theorem awk4 (A:List DF) (m:Nat) (h:(findA A (nmB 2).data.toList).isSome = true):∃ C,lgSync (dH 16 11 A) ⟨2,1,1,4,m,1,1,2,0⟩ = (0,dH 16 12 C,⟨2,1,1,4,m,1,1,2,0⟩):=by
 unfold lgSync
 rw [if_neg (by simp [lgFail])]
 dsimp only
 rw [sync_h (by omega) h]
 exact ⟨_,rfl⟩
theorem LK.varsG {g0:Nat} {w w':World} {l:Nat} {B B':List Nat} (hv:VarsG g0 w) (ev:EvL w w' l B B') (hB:∀ x∈B,g0≤x) (hl:g0≤l):VarsG g0 w':=hv.on ev.1 (fun x hx=>by
 rcases List.mem_cons.1 hx with rfl | hx
 ·exact hl
 ·exact hB x hx)
set_option maxHeartbeats 2000000 in
theorem xb0w (k v:Nat) (w:World) (hk:k < 256) (hv:v < 256) :
  Calls Tryz.prog 37 #[.int .u8 (k:Int),.int .u8 (v:Int)] w fun e w'=>∃ ka kc va vc,e = .returned (.agg #[.int .u8 1,.slice ka 1 kc,.slice va 1 vc])∧OkE w' ⟨1,[k],[v]⟩ (.slice ka 1 kc) (.slice va 1 vc)∧Kept [] w w':=by
 have HE:=hide (xa6c w (.cells #[.int .u8 1,.slice (some ⟨w.heap.size + 1,0,none⟩) 1 1,.slice (some ⟨w.heap.size + 1 + 1,0,none⟩) 1 1] 89) (.cells #[.int .u8 (k:Int)] 5) (.cells #[.int .u8 (v:Int)] 5))
 have HK:=hide ((((Kept.refl [] w).alloc (.cells #[.int .u8 1,.slice (some ⟨w.heap.size + 1,0,none⟩) 1 1,.slice (some ⟨w.heap.size + 1 + 1,0,none⟩) 1 1] 89)).alloc (.cells #[.int .u8 (k:Int)] 5)).alloc (.cells #[.int .u8 (v:Int)] 5))
 go_enter Tryz.func37,Tryz.ntmps37
 go_wp2_with fail
 obtain ⟨h1,h2,h3⟩:=uh HE
 refine bodyPost_ret (v:=.agg #[.int .u8 1,.slice (some ⟨w.heap.size + 1,0,none⟩) 1 1,.slice (some ⟨w.heap.size + 1 + 1,0,none⟩) 1 1]) ?_ rfl ⟨_,_,_,_,rfl,⟨by show (1:Nat) < 256; omega,rd_row [k] h2 rfl (by simpa using hk) 1 rfl (by omega),rd_row [v] h3 rfl (by simpa using hv) 1 rfl (by omega)⟩,uh HK⟩
 exact xa2i rfl _ _ w.heap.size _ #[.int .u8 1,.slice (some ⟨w.heap.size + 1,0,none⟩) 1 1,.slice (some ⟨w.heap.size + 1 + 1,0,none⟩) 1 1] (0,0) _ rfl h1 Tryz.underlying89 rfl Tryz.size_entry
set_option maxHeartbeats 4000000 in
theorem xb1c (w:World) (hv:VarsS w):Calls Tryz.prog 9 #[] w fun e w'=>e = .returned (.bool true)∧Kept [] w w':=by
 have HVG:=hide (VarsG.start hv)
 have HN:=hide (newM_D 16 w (by omega) (by omega))
 clear hv
 go_enter Tryz.func9,Tryz.ntmps9
 go_wp2_with fail
 refine Calls.mono (uh HN) ?_
 rintro e w1 ⟨d,B,rfl,hD,k1,hB⟩
 have hF:DKf w1 d B 0 0 0 (dH 16 0 []):=hD.toF (by show (0:Int)≤0; omega)
 have HOP:=hide (xa7j d 0 0 0 w.heap.size 4 1 B (dH 16 0 []) w1 hF ((uh HVG).old k1) hB k1.size (by omega) (by omega) (by omega) (Nat.le_trans (rdT_le _ hF.dist) (by show 0≤_; omega)))
 rw [awk1] at HOP
 have HK1:=hide k1
 have HB1:=hide hB
 clear hD hF k1 hB HN
 go_wp2_with fail
 refine Calls.mono (uh HOP) ?_
 rintro e w2 ⟨B2,lp,bv,ts,rfl,hR⟩
 obtain ⟨l,rfl,hl,hLK,_⟩:=hR.so _ rfl
 have hts:ts = []:=by have h9:=hR.bs; cases ts with | nil=>rfl | cons a b=>cases h9
 subst hts
 obtain ⟨ba,bc,rfl⟩:=hR.ow.shape
 have HLK2:=hide hLK
 have HK2:=hide ((uh HK1).trans hR.ev.1 (fun x hx=>Or.inr (uh HB1 x hx)))
 have HB2:=hide (hR.ev.ge (uh HB1) (uh HK1).size)
 have HV2:=hide (((uh HVG).old (uh HK1)).on hR.ev.1 (uh HB1))
 have HL:=hide (Nat.le_trans (uh HK1).size hl)
 have HOS:=hide (ops_F _ _ _ _ _ _ w2 hLK.dk)
 clear hR hLK hl HOP HK1 HB1
 go_wp2_with fail
 refine Calls.mono (uh HOS) ?_
 rintro e w3 ⟨rfl,rfl⟩
 have HP1:=hide (xb0w 1 2 w3 (by omega) (by omega))
 clear HOS
 go_wp2_with fail
 refine Calls.mono (uh HP1) ?_
 rintro e w4 ⟨ka,kc,va,vc,rfl,ok4,k4⟩
 have hN4:=heap_alloc_new w4 (.cells #[.int .u8 1,.slice ka 1 kc,.slice va 1 vc] 89)
 have kA4:=(Kept.refl [] w4).alloc (.cells #[.int .u8 1,.slice ka 1 kc,.slice va 1 vc] 89)
 have hrn:=RdN.one (e:=⟨1,[1],[2]⟩) hN4 (ok4.old kA4)
 have HAP:=hide (xa1l l d _ _ _ w.heap.size B2 _ _ _ _ _ (((uh HLK2).old k4).old kA4) (((uh HV2).old k4).old kA4) (uh HB2) (uh HL) (Nat.le_trans (uh HK2).size (Nat.le_trans k4.size kA4.size)) hrn (by omega) (by omega) (by omega))
 have HKA:=hide (k4.trans kA4 (by simp))
 clear hN4 kA4 hrn ok4 k4 HP1
 obtain ⟨n5,p5,hw5⟩:=awk2
 rw [hw5] at HAP
 clear hw5
 go_wp2_with fail
 refine Calls.mono (uh HAP) ?_
 rintro e w5 ⟨B5,rfl,hLK5,ev5⟩
 have HLK5:=hide hLK5
 have HK5:=hide (((uh HK2).trans (uh HKA) (by simp)).trans ev5.1 (fun x hx=>Or.inr (by
  rcases List.mem_cons.1 hx with rfl | hx
  ·exact uh HL
  ·exact uh HB2 x hx)))
 have HB5:=hide (ev5.ge (uh HB2) (Nat.le_trans (uh HK2).size (uh HKA).size))
 have HV5:=hide (LK.varsG ((uh HV2).old (uh HKA)) ev5 (uh HB2) (uh HL))
 clear hLK5 ev5 HAP HKA HB2 HV2 HLK2 HK2
 have HP1:=hide (xb0w 3 4 w5 (by omega) (by omega))
 go_wp2_with fail
 refine Calls.mono (uh HP1) ?_
 rintro e w6 ⟨ka,kc,va,vc,rfl,ok4,k4⟩
 have hN4:=heap_alloc_new w6 (.cells #[.int .u8 1,.slice ka 1 kc,.slice va 1 vc] 89)
 have kA4:=(Kept.refl [] w6).alloc (.cells #[.int .u8 1,.slice ka 1 kc,.slice va 1 vc] 89)
 have hrn:=RdN.one (e:=⟨1,[3],[4]⟩) hN4 (ok4.old kA4)
 have HAP:=hide (xa1l l d _ _ _ w.heap.size B5 _ _ _ _ _ (((uh HLK5).old k4).old kA4) (((uh HV5).old k4).old kA4) (uh HB5) (uh HL) (Nat.le_trans (uh HK5).size (Nat.le_trans k4.size kA4.size)) hrn (by omega) (by omega) (by omega))
 have HKA:=hide (k4.trans kA4 (by simp))
 clear hN4 kA4 hrn ok4 k4 HP1
 try dsimp only at HAP
 obtain ⟨A7,m7,hw7,hf7⟩:=awk3 n5 p5
 rw [hw7] at HAP
 clear hw7
 go_wp2_with fail
 refine Calls.mono (uh HAP) ?_
 rintro e w7 ⟨B7,rfl,hLK7,ev7⟩
 have HLK7:=hide hLK7
 have HK7:=hide (((uh HK5).trans (uh HKA) (by simp)).trans ev7.1 (fun x hx=>Or.inr (by
  rcases List.mem_cons.1 hx with rfl | hx
  ·exact uh HL
  ·exact uh HB5 x hx)))
 have HB7:=hide (ev7.ge (uh HB5) (Nat.le_trans (uh HK5).size (uh HKA).size))
 have HV7:=hide (LK.varsG ((uh HV5).old (uh HKA)) ev7 (uh HB5) (uh HL))
 clear hLK7 ev7 HAP HKA HB5 HV5 HLK5 HK5
 have HSY:=hide (xa4l l d _ _ _ w.heap.size B7 _ _ w7 (uh HLK7) (uh HV7) (by omega) (by omega))
 try dsimp only at HSY
 obtain ⟨C8,hw8⟩:=awk4 A7 m7 hf7
 rw [hw8] at HSY
 clear hw8 hf7
 go_wp2_with fail
 refine Calls.mono (uh HSY) ?_
 rintro e w8 ⟨B8,rfl,hLK8,ev8⟩
 have HLK8:=hide hLK8
 have HK8:=hide ((uh HK7).trans ev8.1 (fun x hx=>Or.inr (by
  rcases List.mem_cons.1 hx with rfl | hx
  ·exact uh HL
  ·exact uh HB7 x hx)))
 clear hLK8 ev8 HSY HB7 HV7 HLK7 HK7
 go_wp2_with fail
 refine Calls.mono (xa1r l d _ w8 (uh HLK8).row) ?_
 rintro e w9 ⟨rfl,rfl⟩
 go_wp2_with fail
 refine Calls.mono (xa9z l d _ w9 (uh HLK8).row) ?_
 rintro e w10 ⟨rfl,rfl⟩
 go_wp2_with fail
 refine Calls.mono (xb2a l d _ w10 (uh HLK8).row) ?_
 rintro e w11 ⟨rfl,rfl⟩
 go_wp2_with fail
 refine Calls.mono (xa1k l d _ w11 (uh HLK8).row) ?_
 rintro e w12 ⟨rfl,rfl⟩
 go_wp2_with fail
 refine Calls.mono (ops_F _ _ _ _ _ _ w12 (uh HLK8).dk) ?_
 rintro e w13 ⟨rfl,rfl⟩
 go_wp2_with fail
 go_ret
 exact ⟨rfl,uh HK8⟩
end
section
open Go.RowKit Go.BigFrame

end
section
open Go Go.RowKit Go.BigFrame
section
variable {P:Program} {Q:Exit→Act→World→Prop}
end
end
section
open Go.RowKit Go.BigFrame

end
section
open Go.RowKit Go.BigFrame Go.Maps Go.Sort

end
section
open Go.RowKit Go.BigFrame
set_option maxHeartbeats 2000000 in
theorem xa1q (v:Value) (es:List En) (w:World) (h:RdN w v es) (hl:es.length≤1048576) :
  Calls Tryz.prog 66 #[v] w fun r w'=>∃ v',r = .returned v'∧NewN w.heap.size w' v' es∧Kept [] w w':=by
 obtain ⟨ao,len,cap,kv,vv,rfl,h1,h2,h3,h4,h5⟩:=h
 have H4:=hide h4
 have H5:=hide h5
 clear h4 h5
 subst h1
 go_enter Tryz.func66,Tryz.ntmps66
 go_wp2_with fail
 go_loopw [8,3] (fun t12 t3 wr=>∃ (i:Nat) (ts:List (En × Value × Value)),i≤es.length∧t12 = .int .i64 i∧Hid (ts.map (·.1) = es.take i)∧Hid (OwnN [] w wr t3 ts)) (fun t _ _=>es.length - (intOf t).toNat)
 case atStart=>exact ⟨0,[],Nat.zero_le _,rfl,hide (by simp),hide (OwnN.start (Kept.refl [] w))⟩
 case round =>
  obtain ⟨i,ts,hi,rfl,HTS,HO⟩:=hrel
  have HTL:=hide (by have h9:=congrArg List.length (uh HTS); simp only [List.length_map,List.length_take] at h9; omega:ts.length≤1048576)
  by_cases hlt:i < es.length
  ·have hlt':(i:Int) < es.length:=by omega
   obtain ⟨b,off,rfl,hcc⟩:=uh H5 (by omega)
   have hr:=hcc i hlt
   have q0:=(uh HO).kept.cell (hr 0 _ rfl) (by simp)
   have q1:=(uh HO).kept.cell (hr 1 _ rfl) (by simp)
   have q2:=(uh HO).kept.cell (hr 2 _ rfl) (by simp)
   rw [Nat.add_zero] at q0
   have HE:=hide ((uh H4 i hlt).old (uh HO).kept)
   have HSN:=hide (by rw [List.take_succ_eq_append_getElem hlt]:es.take (i + 1) = es.take i++[es[i]])
   clear hcc hr
   generalize kv i = kvi at q1 HE
   generalize vv i = vvi at q2 HE
   generalize es[i] = e at q0 HE HSN
   obtain ⟨a8,m8,c8,rfl,_⟩:=id (uh HE).key
   obtain ⟨a9,m9,c9,rfl,_⟩:=id (uh HE).val
   have HSZ:=hide (uh HO).kept.size
   go_wp2_with fail
   have k1:=(Kept.refl [] wr).alloc (.cells #[.int .u8 (e.k:Int),.slice a8 m8 c8,.slice a9 m9 c9] 89)
   refine Calls.mono (xa5p e _ _ _ ((uh HE).old k1)) ?_
   rintro r w2 ⟨kv2,vv2,rfl,ok2,k2,n2⟩
   obtain ⟨a3,m3,c3,hu3,_⟩:=id ok2.key
   subst hu3
   obtain ⟨a4,m4,c4,hu4,_⟩:=id ok2.val
   subst hu4
   have HN2:=hide (fun y hy=>by have h9:=n2 y hy; rw [show (wr.alloc (.cells #[.int .u8 (e.k:Int),.slice a8 m8 c8,.slice a9 m9 c9] 89)).heap.size = wr.heap.size + 1 from Array.size_push _] at h9; exact h9:∀ y,y∈blk (.slice a3 m3 c3)∨y∈blk (.slice a4 m4 c4)→wr.heap.size + 1≤y)
   have HO2:=hide (((uh HO).old (M:=[]) (k1.trans k2 (by simp)) (by simp)).old (M:=[]) ((Kept.refl [] w2).alloc (.cells #[.int .u8 (e.k:Int),.slice a3 m3 c3,.slice a4 m4 c4] 89)) (by simp))
   have HK2:=hide (ok2.old ((Kept.refl [] w2).alloc (.cells #[.int .u8 (e.k:Int),.slice a3 m3 c3,.slice a4 m4 c4] 89)))
   have HB2:=hide (uh HO2).kept.size
   have HOL:=hide (fun g hg=>((uh HO).own.lt g hg).2:∀ g,u3.ownBlock = some g→g < wr.heap.size)
   clear k1 k2 n2 ok2
   simp only [enC]
   go_wp2_with (at_builtin; refine xa6b rfl _ _ rfl rfl _ w.heap.size u3 ts e (.slice a3 m3 c3) (.slice a4 m4 c4) w2.heap.size (uh HO2).own (heap_alloc_new _ _) rfl rfl (by have:=uh HTL; omega) (uh HB2) rfl rfl ?_; intro g cap2 w5 HO5 HG5 HA5)
   refine ⟨⟨i + 1,ts++[(e,.slice a3 m3 c3,.slice a4 m4 c4)],by omega,by go_num,hide ?_,hide ?_⟩,?_⟩
   ·rw [List.map_append,uh HTS,uh HSN]; rfl
   ·refine (uh HO2).push (uh HK2) (fun b' hb'=>?_) (uh HO5) (uh HG5) (uh HA5)
    have h9:wr.heap.size + 1≤b':=by
     rcases hb' with hb' | hb'
     ·exact uh HN2 b' (Or.inl (xa2x hb').1)
     ·exact uh HN2 b' (Or.inr (xa2x hb').1)
    have h8:=uh HSZ
    exact ⟨fun e9=>by have h7:=uh HOL b' e9; omega,by omega⟩
   ·simp [intOf]; omega
  ·have hlt':¬ (i:Int) < es.length:=by omega
   have hie:i = es.length:=by omega
   subst hie
   rw [List.take_length] at HTS
   go_wp2
   go_ret
   exact ⟨_,rfl,⟨[],w,ts,(uh HTS).symm,uh HO,Nat.le_refl _⟩,(uh HO).kept⟩



end

section
open Go.RowKit
attribute [local go_sem ↓] Go.wp_at_zero Go.wp_at_succ
attribute [local go_sem ↓] Go.wp_at_zero Go.wp_at_succ
end
section
open Go.RowKit Go.BigFrame


end
section
open Go Go.RowKit Go.BigFrame
section
variable {P:Program} {Q:Exit→Act→World→Prop}
end
end
section
open Go.RowKit Go.BigFrame

end

section
open Go.RowKit Go.BigFrame


end
section
open Go.RowKit
attribute [local go_sem ↓] Go.wp_at_zero Go.wp_at_succ
end
section
open Go
section
variable {P:Program} {ops:Array Oper} {Q:Exit→Act→World→Prop}
end
end
section
open Go.RowKit Go.BigFrame













end
section
open Go.ChangeShapes Go.WideShapes Go.ChangeAt Go.RowKit Go.Deep
theorem own:ownKnob Tryz.prog.godebug = none:=by kernel_rfl
theorem laidOut:laidOutB Tryz.prog = true:=by kernel_rfl
theorem xa3i {x:Int} (h:(Lit.int .u8 x).wf = true):0≤x∧x < 256:=by
 simp [Lit.wf,IntKind.min,IntKind.max,IntKind.signed,IntKind.bits] at h
 exact ⟨by omega,by omega⟩
theorem xa1c {x:Int} (h:(Lit.int .i64 x).wf = true):-9223372036854775808≤x∧x≤9223372036854775807:=by
 simp [Lit.wf,IntKind.min,IntKind.max,IntKind.signed,IntKind.bits] at h
 exact ⟨by omega,by omega⟩
theorem xa0r {H:Type} (d:DataW H):1≤Rows.uptoBulk d:=by
 cases d with
 | lit l=>cases l <;> simp [Rows.uptoBulk]
 | nil=>simp [Rows.uptoBulk]
 | ptr d=>simp [Rows.uptoBulk]
 | slice elems spare=>simp [Rows.uptoBulk]
 | agg parts=>simp [Rows.uptoBulk]
 | iface t d=>simp [Rows.uptoBulk]
 | map entries=>simp [Rows.uptoBulk]
 | held h=>simp [Rows.uptoBulk]
theorem xb5g {H:Type} (l:List (DataW H)):l.length≤Rows.uptoBulkAll l:=by
 induction l with
 | nil=>simp [Rows.uptoBulkAll]
 | cons x r ih=>have:=xa0r x; simp only [Rows.uptoBulkAll,List.length_cons]; omega
section
variable {H:Type} {enc:TypeId × Value→H} {W:World}
theorem xa5i {fuel:Nat} {cs:List Value} {x:DataW H × List MemPlace} (h:DataW.trod enc Tryz.prog W 0 (fun _=>true) true fuel 72 cs = some x) :
  ∃ v bs,cs = [v]∧(bs.length≤140737488355328→Rd W v bs)∧((bs = []∧x.1 = .nil)∨∃ elems spare,x.1 = .slice elems spare∧elems.length = bs.length):=by
 rcases open_ints Tryz.underlying72 Tryz.underlying5 (by kernel_rfl) h with ⟨rfl,rfl⟩ | ⟨a,len,cap,zs,rfl,_,hl,hm,hz,rfl,hcell,hwz⟩
 ·exact ⟨_,[],rfl,fun _=>Rd.nil W,.inl ⟨rfl,rfl⟩⟩
 ·have h2:(lits (H:=H) .u8 (zs.take len)).length = len:=by simp only [lits,List.length_map,List.length_take]; simp at hz; omega
  have hbl:((zs.take len).map Int.toNat).length = len:=by simp at hz; simp; omega
  refine ⟨_,(zs.take len).map Int.toNat,rfl,fun hB=>⟨_,_,_,rfl,hbl,hl,⟨by unfold maxLen at hm; omega,by omega⟩,by simp,?_,?_⟩,.inr ⟨_,_,rfl,by rw [h2,hbl]⟩⟩
  ·intro y hy
   obtain ⟨z,hz1,rfl⟩:=List.mem_map.1 hy
   have:=xa3i (hwz z (List.mem_of_mem_take hz1)); omega
  ·intro hp
   simp at hz
   have hc0:=hcell 0 (by omega)
   obtain ⟨b,off,spot⟩:=a
   have hspot:spot = none:=by simpa [Addr.add] using World.cell?_spot hc0
   subst hspot
   refine ⟨b,off,rfl,fun i hi=>?_⟩
   have hc:=hcell i (by omega)
   have hzi:i < zs.length:=by omega
   rw [Addr.add_mid] at hc
   rw [hc]
   have hw:=xa3i (hwz (zs[i]) (List.getElem_mem hzi))
   simp only [List.getD_eq_getElem?_getD,List.getElem?_eq_getElem hzi,Option.getD_some,List.getElem?_map,List.getElem?_take,hi,if_true,Option.map_some]
   simp [u8]; omega
theorem xa4o {d:DataW H} {bs:List Nat} (hx:(bs = []∧d = .nil)∨∃ elems spare,d = .slice elems spare∧elems.length = bs.length):bs.length + 1≤Rows.uptoBulk d:=by
 rcases hx with ⟨rfl,rfl⟩ | ⟨elems,spare,rfl,he⟩
 ·simp [Rows.uptoBulk]
 ·have:=xb5g elems
  simp only [Rows.uptoBulk]; omega
end
structure IFile where
 nm:ByteArray
 v:Value
 bs:List Nat
 sy:Int
 nd:Bool
def ifC (f:IFile):List Value:=[.string f.nm,f.v,.int .i64 f.sy,.bool f.nd]
def faC (x:Int × Int):List Value:=[.int .i64 x.1,.int .i64 x.2]
def Rng (x:Int):Prop:=-9223372036854775808≤x∧x≤9223372036854775807
def OkKe (k:KeepD):Prop:=k.nm.size≤1048576∧Rng k.kb
def OkFa (x:Int × Int):Prop:=Rng x.1∧Rng x.2
def OkIf (W:World) (f:IFile):Prop:=Rd W f.v f.bs∧f.nm.size≤1048576∧Rng f.sy
structure OpD where
 k:Int
 s:ByteArray
 pv:Value
 ps:List Nat
 fv:Value
 fl:List (Int × Int)
 cr:Int
 n:Int
 kv:Value
 ks:List KeepD
section
variable {H:Type} {enc:TypeId × Value→H} {W:World}
theorem k_part {d:DataW H} {l:List (DataW H)} (h:d∈l):Rows.uptoBulk d≤Rows.uptoBulkAll l:=by
 induction l with
 | nil=>simp at h
 | cons a l ih =>
  simp only [Rows.uptoBulkAll]
  rcases List.mem_cons.1 h with rfl | h
  ·omega
  ·have:=ih h; omega
theorem k_sum {α:Type} (D:Nat→DataW H) (f:Nat→α) (μ:α→Nat) (l:List Nat) (h:∀ i∈l,μ (f i)≤Rows.uptoBulk (D i)):((l.map f).map μ).sum≤Rows.uptoBulkAll (l.map D):=by
 induction l with
 | nil=>simp
 | cons a l ih =>
  have h1:=h a (by simp)
  have h2:=ih (fun i hi=>h i (by simp [hi]))
  simp only [List.map_cons,Rows.uptoBulkAll,List.sum_cons]
  omega
theorem xa0q (cs:List Value) (a n:Nat):cs.drop a = (cs.drop a).take n++cs.drop (a + n):=by
 rw [← List.drop_drop,List.take_append_drop]
theorem xa2m {T E:TypeId} {s:Nat} (hu:Tryz.prog.underlying T = some (.slice E)) (hC:Tryz.prog.cellsOf E = s) {α:Type} [Inhabited α] (mk:α→List Value) (hne:∀ a,(mk a).length = s) (hs0:0 < s) (Q:α→Prop) (μ:α→Nat)
  (hel:∀ (n:Nat) (cs:List Value) (y:DataW H × List MemPlace),DataW.trod enc Tryz.prog W 0 (fun _=>true) true n E cs = some y→Rows.uptoBulk y.1≤1048576→∃ a,cs = mk a∧Q a∧μ a≤Rows.uptoBulk y.1)
  {fuel:Nat} {cs:List Value} {x:DataW H × List MemPlace} (h:DataW.trod enc Tryz.prog W 0 (fun _=>true) true fuel T cs = some x) (hB:Rows.uptoBulk x.1≤1048576) :
  ∃ (v:Value) (l:List α),cs = [v]∧RdC s W v (l.map mk)∧(∀ a∈l,Q a)∧(l.map μ).sum + 1≤Rows.uptoBulk x.1:=by
 rcases open_slice hu h with ⟨rfl,rfl⟩ | ⟨a,len,cap,m,n,D,Pl,rfl,_,hl,hm,hmm,rfl,hx⟩
 ·exact ⟨_,[],rfl,RdC.nil s W,by simp,by simp [Rows.uptoBulk]⟩
 ·rw [hC] at hx
  simp only [if_true] at hmm
  simp only [Rows.uptoBulk] at hB ⊢
  obtain ⟨f,hf⟩:=choose_lt (α:=α) (n:=len) (p:=fun i o=>((∀ j v,(mk o)[j]? = some v→W.cell? ((a.add (i * s)).add j) = some v)∧Q o)∧μ o≤Rows.uptoBulk (D i)) (by
   intro i hi
   obtain ⟨cs',h1,h2⟩:=hx i (by omega)
   have hDi:Rows.uptoBulk (D i)≤Rows.uptoBulkAll ((List.range len).map D):=k_part (List.mem_map.2 ⟨i,List.mem_range.2 hi,rfl⟩)
   obtain ⟨o,rfl,ho,hbb⟩:=hel _ _ _ h2 (by simp only; omega)
   obtain ⟨_,hlen,hc⟩:=World.cells?_some h1
   refine ⟨o,⟨fun j v hv=>?_,ho⟩,hbb⟩
   have hj:=(List.getElem?_eq_some_iff.1 hv).1
   have:=hc j (by rw [hne] at hj; exact hj)
   rw [this,← hv,List.getElem?_eq_getElem hj])
  refine ⟨_,(List.range len).map f,rfl,⟨some a,len,cap,rfl,by simp,hl,by unfold maxLen at hm; omega,?_⟩,?_,?_⟩
  ·intro hp
   obtain ⟨b,off,spot⟩:=a
   have h0:=(hf 0 hp).1.1
   have hc0:=h0 0 _ (List.getElem?_eq_getElem (by rw [hne]; exact hs0))
   have hspot:spot = none:=by simpa [Addr.add] using World.cell?_spot hc0
   subst hspot
   refine ⟨b,off,rfl,fun i hi j v hv=>?_⟩
   have hi':i < len:=by simpa using hi
   have e9:(((List.range len).map f).map mk)[i] = mk (f i):=by simp
   rw [e9] at hv
   have:=(hf i hi').1.1 j v hv
   rw [Addr.add_mid,Addr.add_mid] at this
   exact this
  ·intro o ho
   obtain ⟨i,hi,rfl⟩:=List.mem_map.1 ho
   exact (hf i (List.mem_range.1 hi)).1.2
  ·have:=k_sum D f μ (List.range len) (fun i hi=>(hf i (List.mem_range.1 hi)).2)
   omega
instance:Inhabited KeepD:=⟨⟨⟨#[]⟩,0,false⟩⟩
instance:Inhabited IFile:=⟨⟨⟨#[]⟩,undef,[],0,false⟩⟩
instance:Inhabited OpD:=⟨⟨0,⟨#[]⟩,undef,[],undef,[],0,0,undef,[]⟩⟩
theorem xb4t {α:Type} (l:List α) (μ:α→Nat) (h:∀ a,1≤μ a):l.length≤(l.map μ).sum:=by
 induction l with
 | nil=>simp
 | cons a l ih=>have:=h a; simp only [List.length_cons,List.map_cons,List.sum_cons]; omega
theorem xb3v {fuel:Nat} {cs:List Value} {x:DataW H × List MemPlace} (h:DataW.trod enc Tryz.prog W 0 (fun _=>true) true fuel 157 cs = some x) (hB:Rows.uptoBulk x.1≤1048576) :
  ∃ k:KeepD,cs = keC k∧OkKe k∧1≤Rows.uptoBulk x.1:=by
 obtain ⟨xs,n,_,rfl,hl,hlen,hf⟩:=DataW.trod_struct Tryz.underlying157 h
 rw [show Tryz.prog.cellsOf 157 = 3 from by kernel_rfl] at hl
 match xs,hlen with
 | [y0,y1,y2],_ =>
  have f0:DataW.trod enc Tryz.prog W 0 (fun _=>true) true n 9 ((cs.drop 0).take 1) = some y0:=by have this:DataW.trod enc Tryz.prog W 0 (fun _=>true) true n 9 ((cs.drop 0).take (Tryz.prog.cellsOf 9)) = some y0:=hf 0 _ rfl; rw [show Tryz.prog.cellsOf 9 = 1 from by kernel_rfl] at this; exact this
  have f1:DataW.trod enc Tryz.prog W 0 (fun _=>true) true n 3 ((cs.drop 1).take 1) = some y1:=by have this:DataW.trod enc Tryz.prog W 0 (fun _=>true) true n 3 ((cs.drop 1).take (Tryz.prog.cellsOf 3)) = some y1:=hf 1 _ rfl; rw [show Tryz.prog.cellsOf 3 = 1 from by kernel_rfl] at this; exact this
  have f2:DataW.trod enc Tryz.prog W 0 (fun _=>true) true n 4 ((cs.drop 2).take 1) = some y2:=by have this:DataW.trod enc Tryz.prog W 0 (fun _=>true) true n 4 ((cs.drop 2).take (Tryz.prog.cellsOf 4)) = some y2:=hf 2 _ rfl; rw [show Tryz.prog.cellsOf 4 = 1 from by kernel_rfl] at this; exact this
  simp only [List.map_cons,List.map_nil,Rows.uptoBulk,Rows.uptoBulkAll] at hB ⊢
  obtain ⟨z0,e0,q0,w0⟩:=DataW.trod_string Tryz.underlying9 f0
  have b0:z0.size + 1≤Rows.uptoBulk y0.1:=by rw [q0]; show _≤z0.data.toList.length + 1; rw [Array.length_toList]; exact Nat.le_refl _
  obtain ⟨z1,e1,q1,w1⟩:=DataW.trod_int Tryz.underlying3 f1
  have g1:=xa1c w1
  have b1:=xa0r y1.1
  obtain ⟨z2,e2,q2⟩:=DataW.trod_bool Tryz.underlying4 f2
  have b2:=xa0r y2.1
  have hd:cs.drop 3 = []:=List.drop_eq_nil_of_le (by omega)
  have this:=xa0q cs 0 1
  rw [e0,xa0q cs 1 1,e1,xa0q cs 2 1,e2,hd,List.drop_zero] at this
  exact ⟨⟨z0,z1,z2⟩,by rw [this]; rfl,⟨by show z0.size≤_; omega,g1⟩,by omega⟩
theorem xb0i {fuel:Nat} {cs:List Value} {x:DataW H × List MemPlace} (h:DataW.trod enc Tryz.prog W 0 (fun _=>true) true fuel 35 cs = some x) (hB:Rows.uptoBulk x.1≤1048576) :
  ∃ (v:Value) (l:List KeepD),cs = [v]∧RdC 3 W v (l.map keC)∧(∀ a∈l,OkKe a)∧l.length + 1≤Rows.uptoBulk x.1:=by
 obtain ⟨v,l,h1,h2,h3,h4⟩:=xa2m Tryz.underlying35 (by kernel_rfl:Tryz.prog.cellsOf 157 = 3) keC (by intro a; rfl) (by decide) OkKe (fun _=>1) (fun n cs y h hB=>xb3v h hB) h hB
 exact ⟨v,l,h1,h2,h3,by have:=xb4t l (fun _=>1) (by simp); omega⟩
theorem xa9q {fuel:Nat} {cs:List Value} {x:DataW H × List MemPlace} (h:DataW.trod enc Tryz.prog W 0 (fun _=>true) true fuel 141 cs = some x) (hB:Rows.uptoBulk x.1≤1048576) :
  ∃ k:Int × Int,cs = faC k∧OkFa k∧1≤Rows.uptoBulk x.1:=by
 obtain ⟨xs,n,_,rfl,hl,hlen,hf⟩:=DataW.trod_struct Tryz.underlying141 h
 rw [show Tryz.prog.cellsOf 141 = 2 from by kernel_rfl] at hl
 match xs,hlen with
 | [y0,y1],_ =>
  have f0:DataW.trod enc Tryz.prog W 0 (fun _=>true) true n 3 ((cs.drop 0).take 1) = some y0:=by have this:DataW.trod enc Tryz.prog W 0 (fun _=>true) true n 3 ((cs.drop 0).take (Tryz.prog.cellsOf 3)) = some y0:=hf 0 _ rfl; rw [show Tryz.prog.cellsOf 3 = 1 from by kernel_rfl] at this; exact this
  have f1:DataW.trod enc Tryz.prog W 0 (fun _=>true) true n 3 ((cs.drop 1).take 1) = some y1:=by have this:DataW.trod enc Tryz.prog W 0 (fun _=>true) true n 3 ((cs.drop 1).take (Tryz.prog.cellsOf 3)) = some y1:=hf 1 _ rfl; rw [show Tryz.prog.cellsOf 3 = 1 from by kernel_rfl] at this; exact this
  simp only [List.map_cons,List.map_nil,Rows.uptoBulk,Rows.uptoBulkAll] at hB ⊢
  obtain ⟨z0,e0,q0,w0⟩:=DataW.trod_int Tryz.underlying3 f0
  have g0:=xa1c w0
  have b0:=xa0r y0.1
  obtain ⟨z1,e1,q1,w1⟩:=DataW.trod_int Tryz.underlying3 f1
  have g1:=xa1c w1
  have b1:=xa0r y1.1
  have hd:cs.drop 2 = []:=List.drop_eq_nil_of_le (by omega)
  have this:=xa0q cs 0 1
  rw [e0,xa0q cs 1 1,e1,hd,List.drop_zero] at this
  exact ⟨(z0,z1),by rw [this]; rfl,⟨g0,g1⟩,by omega⟩
theorem xa8c {fuel:Nat} {cs:List Value} {x:DataW H × List MemPlace} (h:DataW.trod enc Tryz.prog W 0 (fun _=>true) true fuel 33 cs = some x) (hB:Rows.uptoBulk x.1≤1048576) :
  ∃ (v:Value) (l:List (Int × Int)),cs = [v]∧RdC 2 W v (l.map faC)∧(∀ a∈l,OkFa a)∧l.length + 1≤Rows.uptoBulk x.1:=by
 obtain ⟨v,l,h1,h2,h3,h4⟩:=xa2m Tryz.underlying33 (by kernel_rfl:Tryz.prog.cellsOf 141 = 2) faC (by intro a; rfl) (by decide) OkFa (fun _=>1) (fun n cs y h hB=>xa9q h hB) h hB
 exact ⟨v,l,h1,h2,h3,by have:=xb4t l (fun _=>1) (by simp); omega⟩
theorem xb2t {fuel:Nat} {cs:List Value} {x:DataW H × List MemPlace} (h:DataW.trod enc Tryz.prog W 0 (fun _=>true) true fuel 37 cs = some x) (hB:Rows.uptoBulk x.1≤1048576) :
  ∃ (n:Int) (v:Value) (l:List KeepD),cs = [.int .i64 n,v]∧Rng n∧RdC 3 W v (l.map keC)∧(∀ a∈l,OkKe a)∧l.length + 1≤Rows.uptoBulk x.1:=by
 obtain ⟨xs,n,_,rfl,hl,hlen,hf⟩:=DataW.trod_struct Tryz.underlying37 h
 rw [show Tryz.prog.cellsOf 37 = 2 from by kernel_rfl] at hl
 match xs,hlen with
 | [y0,y1],_ =>
  have f0:DataW.trod enc Tryz.prog W 0 (fun _=>true) true n 3 ((cs.drop 0).take 1) = some y0:=by have this:DataW.trod enc Tryz.prog W 0 (fun _=>true) true n 3 ((cs.drop 0).take (Tryz.prog.cellsOf 3)) = some y0:=hf 0 _ rfl; rw [show Tryz.prog.cellsOf 3 = 1 from by kernel_rfl] at this; exact this
  have f1:DataW.trod enc Tryz.prog W 0 (fun _=>true) true n 35 ((cs.drop 1).take 1) = some y1:=by have this:DataW.trod enc Tryz.prog W 0 (fun _=>true) true n 35 ((cs.drop 1).take (Tryz.prog.cellsOf 35)) = some y1:=hf 1 _ rfl; rw [show Tryz.prog.cellsOf 35 = 1 from by kernel_rfl] at this; exact this
  simp only [List.map_cons,List.map_nil,Rows.uptoBulk,Rows.uptoBulkAll] at hB ⊢
  obtain ⟨z0,e0,q0,w0⟩:=DataW.trod_int Tryz.underlying3 f0
  have g0:=xa1c w0
  have b0:=xa0r y0.1
  obtain ⟨v1,z1,e1,r1,a1,b1⟩:=xb0i f1 (by omega)
  have hd:cs.drop 2 = []:=List.drop_eq_nil_of_le (by omega)
  have this:=xa0q cs 0 1
  rw [e0,xa0q cs 1 1,e1,hd,List.drop_zero] at this
  exact ⟨z0,v1,z1,by rw [this]; rfl,g0,r1,a1,by omega⟩
end
end
section
open Go.RowKit Go.BigFrame Go.Maps Go.Sort
theorem xb7b (s:ByteArray):∀ n i r,s.size - i = n→ByteArray.toList.loop s i r = r.reverse++s.data.toList.drop i:=by
 intro n
 induction n with
 | zero =>
  intro i r h
  rw [ByteArray.toList.loop]
  have h1:s.size = s.data.toList.length:=(Array.length_toList).symm
  rw [if_neg (by omega),List.drop_eq_nil_of_le (by omega),List.append_nil]
 | succ n ih =>
  intro i r h
  rw [ByteArray.toList.loop]
  have h1:s.size = s.data.toList.length:=(Array.length_toList).symm
  have h2:i < s.data.toList.length:=by omega
  rw [if_pos (by omega),ih (i + 1) _ (by omega),List.drop_eq_getElem_cons h2]
  have h3:s.get! i = s.data.toList[i]:=by
   have h4:i < s.data.size:=by simpa using h2
   rw [Array.getElem_toList]
   exact getElem!_pos s.data i h4
  simp [h3]
theorem xa4r (s:ByteArray):s.toList = s.data.toList:=by
 unfold ByteArray.toList
 rw [xb7b s _ 0 [] rfl]
 simp
theorem xb5x (a b:ByteArray):Op.bytesLess a.toList b.toList = decide (a.data.toList < b.data.toList):=by
 rw [bytesLess_eq,xa4r,xa4r]
def okF (l:List IFile) (i:Nat) (h:i < l.length):Prop:=isNm l[i].nm = true∧0≤l[i].sy∧l[i].sy≤l[i].bs.length∧∀ hp:0 < i,l[i - 1].nm.data.toList < l[i].nm.data.toList
def FormedL (l:List IFile):Prop:=∀ i (h:i < l.length),okF l i h
def okB (l:List IFile) (i:Nat):Bool:=isNm (l.getD i default).nm && decide (0≤(l.getD i default).sy) && decide ((l.getD i default).sy≤(l.getD i default).bs.length) && (i == 0 || decide ((l.getD (i - 1) default).nm.data.toList < (l.getD i default).nm.data.toList))
def formedB (l:List IFile):Bool:=(List.range l.length).all (okB l)
theorem xb4w {l:List IFile} {i:Nat} (h:i < l.length):okB l i = true↔okF l i h:=by
 unfold okB okF
 rw [List.getD_eq_getElem?_getD,List.getElem?_eq_getElem h,Option.getD_some]
 by_cases hp:0 < i
 ·rw [List.getD_eq_getElem?_getD,List.getElem?_eq_getElem (show i - 1 < l.length by omega),Option.getD_some]
  have h0:(i == 0) = false:=by simp; omega
  simp only [h0,Bool.false_or,Bool.and_eq_true,decide_eq_true_eq]
  constructor
  ·rintro ⟨⟨⟨a,b⟩,c⟩,d⟩; exact ⟨a,b,c,fun _=>d⟩
  ·rintro ⟨a,b,c,d⟩; exact ⟨⟨⟨a,b⟩,c⟩,d hp⟩
 ·have h0:(i == 0) = true:=by simp; omega
  simp only [h0,Bool.true_or,Bool.and_eq_true,decide_eq_true_eq,and_true]
  constructor
  ·rintro ⟨⟨a,b⟩,c⟩; exact ⟨a,b,c,fun h9=>absurd h9 hp⟩
  ·rintro ⟨a,b,c,d⟩; exact ⟨⟨a,b⟩,c⟩
theorem xa0v (l:List IFile):formedB l = true↔FormedL l:=by
 unfold formedB
 rw [List.all_eq_true]
 constructor
 ·intro h i hi
  exact (xb4w hi).1 (h i (List.mem_range.2 hi))
 ·intro h i hi
  exact (xb4w (List.mem_range.1 hi)).2 (h i (List.mem_range.1 hi))
theorem xa1v {l:List IFile} (h:¬ FormedL l):formedB l = false:=by
 cases h1:formedB l
 ·rfl
 ·exact absurd ((xa0v l).1 h1) h
set_option maxHeartbeats 2000000 in
theorem xa4n (v:Value) (l:List IFile) (w:World) (h:RdC 4 w v (l.map ifC)) (ho:∀ f∈l,OkIf w f) (hl:l.length≤1048576) :
  Calls Tryz.prog 41 #[v] w fun e w'=>e = .returned (.bool (formedB l))∧Kept [] w w':=by
 obtain ⟨ao,len,cap,rfl,h1,h2,h3,h4⟩:=h
 rw [List.length_map] at h1
 subst h1
 have H4:=hide h4
 have HO:=hide ho
 clear h4 ho
 go_enter Tryz.func41,Tryz.ntmps41
 go_wp2_with fail
 go_loopw [7] (fun t7 wr=>∃ i:Nat,i≤l.length∧t7 = .int .i64 i∧Hid (∀ j (hj:j < l.length),j < i→okF l j hj)∧Hid (Kept [] w wr)) (fun t _=>l.length - (intOf t).toNat)
 case atStart=>exact ⟨0,Nat.zero_le _,rfl,hide (fun j hj h=>by omega),hide (Kept.refl _ _)⟩
 case round =>
  obtain ⟨i,hi,rfl,HA,HK⟩:=hrel
  by_cases hlt:i < l.length
  ·have hlt':(i:Int) < l.length:=by omega
   obtain ⟨b,off,rfl,hcc⟩:=uh H4 (by omega)
   have hr:=hcc i (by rw [List.length_map]; exact hlt)
   rw [List.getElem_map] at hr
   have p0:=(uh HK).cell (hr 0 _ rfl) (by simp)
   have p1:=(uh HK).cell (hr 1 _ rfl) (by simp)
   have p2:=(uh HK).cell (hr 2 _ rfl) (by simp)
   have p3:=(uh HK).cell (hr 3 _ rfl) (by simp)
   rw [Nat.add_zero] at p0
   have hof:=uh HO l[i] (List.getElem_mem hlt)
   have HPR:=hide (fun (hp:0 < i)=>by
    have h9:=hcc (i - 1) (by rw [List.length_map]; omega)
    rw [List.getElem_map] at h9
    exact h9 0 _ rfl:∀ hp:0 < i,w.cell? ⟨b,off + (i - 1) * 4 + 0,none⟩ = some (.string l[i - 1].nm))
   have HOK:Hid (isNm l[i].nm = true→0≤l[i].sy→l[i].sy≤l[i].bs.length→(∀ hp:0 < i,l[i - 1].nm.data.toList < l[i].nm.data.toList)→okF l i hlt):=hide (fun a1 a2 a3 a4=>⟨a1,a2,a3,a4⟩)
   have HNO:=hide (fun (hf:FormedL l)=>hf i hlt)
   unfold okF at HNO
   clear hr hcc
   obtain ⟨va,vl,vc,hv⟩:=(show ∃ va vl vc,l[i].v = .slice va vl vc by obtain ⟨a,b,c,h9,_⟩:=hof.1; exact ⟨a,b,c,h9⟩)
   have hvl:vl = l[i].bs.length:=by
    obtain ⟨a,b,c,h9,h10,_⟩:=hof.1
    rw [hv] at h9
    injection h9 with _ h9 _
    rw [h9,h10]
   have hnl:=hof.2.1
   rw [hv] at p1
   generalize hX:l[i] = X at *
   subst hvl
   clear hof hX
   go_upto_region 4 with fail
   have HK1:=hide ((uh HK).alloc (.cells #[.string X.nm,.slice va X.bs.length vc,.int .i64 X.sy,.bool X.nd] 74 (0,0)))
   have HG1:=hide (heap_alloc_new wr (.cells #[.string X.nm,.slice va X.bs.length vc,.int .i64 X.sy,.bool X.nd] 74 (0,0)))
   obtain ⟨W1,hW1⟩:∃ W,wr.alloc (.cells #[.string X.nm,.slice va X.bs.length vc,.int .i64 X.sy,.bool X.nd] 74 (0,0)) = W:=⟨_,rfl⟩
   rw [hW1] at HK1 HG1 ⊢
   clear hW1 p0 p1 p2 p3
   have c0:=cell_of_row _ _ 0 _ _ _ (uh HG1)
   have c1:=cell_of_row _ _ 1 _ _ _ (uh HG1)
   have c2:=cell_of_row _ _ 2 _ _ _ (uh HG1)
   simp at c0 c1 c2
   have HH2:=hide h2
   clear h2
   go_wp2_with fail
   refine Calls.mono (xa5c X.nm _ (by omega)) ?_
   rintro e w2 ⟨rfl,rfl⟩
   cases hn:isNm X.nm
   ·have HN:=hide hn
    clear hn
    go_wp2_with fail
    go_ret
    exact ⟨by rw [xa1v (fun hf=>by have h9:=(uh HNO hf).1; rw [uh HN] at h9; cases h9)]; rfl,uh HK1⟩
   ·have HN:=hide hn
    clear hn
    by_cases s0:X.sy < 0
    ·have HS:=hide s0
     go_wp2_with fail
     go_ret
     exact ⟨by rw [xa1v (fun hf=>by have h9:=(uh HNO hf).2.1; have:=uh HS; omega)]; rfl,uh HK1⟩
    ·have HS:=hide s0
     by_cases s1:(X.bs.length:Int) < X.sy
     ·have HS1:=hide s1
      go_wp2_with fail
      go_ret
      exact ⟨by rw [xa1v (fun hf=>by have h9:=(uh HNO hf).2.2.1; have:=uh HS1; omega)]; rfl,uh HK1⟩
     ·have HS1:=hide s1
      go_upto_region 6 with fail
      by_cases hp:0 < i
      ·have hip:(0:Int) < (i:Int):=by omega
       have q0:=(uh HK1).cell (uh HPR hp) (by simp)
       rw [Nat.add_zero] at q0
       have hsub:(i:Int) - 1 = ((i - 1:Nat):Int):=by omega
       have HLTP:=hide (fun hf=>(uh HNO hf).2.2.2 hp)
       have HOK2:=hide (fun (a4:l[i - 1].nm.data.toList < X.nm.data.toList)=>uh HOK (uh HN) (by have:=uh HS; omega) (by have:=uh HS1; omega) (fun _=>a4))
       generalize l[i - 1] = Y at q0 HLTP HOK2
       obtain ⟨i1,hi1⟩:∃ i1,i - 1 = i1:=⟨_,rfl⟩
       rw [hi1] at q0 hsub
       have hi1c:(i1:Int) < l.length:=by omega
       refine wp_region_quiet_lit (by kernel_rfl) (by kernel_rfl) ?_
       repeat (go_big_quiet_step (fail))
       refine wpQuiet_nil ?_
       rintro _ ⟨n5,rfl⟩
       rw [xb5x]
       by_cases hls:Y.nm.data.toList < X.nm.data.toList
       ·rw [decide_eq_true hls]
        have HLS:=hide hls
        clear hls q0 hsub hip
        go_wp2_with fail
        refine ⟨⟨i + 1,by omega,by simp,hide (fun j hj h9=>?_),hide ((uh HK1).drewN n5)⟩,?_⟩
        ·by_cases hji:j < i
         ·exact uh HA j hj hji
         ·have:j = i:=by omega
          subst this
          exact uh HOK2 (uh HLS)
        ·simp [intOf]; omega
       ·rw [decide_eq_false hls]
        have HLS:=hide hls
        clear hls q0 hsub hip
        go_wp2_with fail
        go_ret
        exact ⟨by rw [xa1v (fun hf=>uh HLS (uh HLTP hf))]; rfl,(uh HK1).drewN n5⟩
      ·have hip:¬ (0:Int) < (i:Int):=by omega
       refine wp_region_quiet_lit (by kernel_rfl) (by kernel_rfl) ?_
       repeat (go_big_quiet_step (fail))
       refine wpQuiet_nil ?_
       rintro _ ⟨n5,rfl⟩
       have HP:=hide hp
       go_wp2_with fail
       refine ⟨⟨i + 1,by omega,by simp,hide (fun j hj h9=>?_),hide ((uh HK1).drewN n5)⟩,?_⟩
       ·by_cases hji:j < i
        ·exact uh HA j hj hji
        ·have:j = i:=by omega
         subst this
         exact uh HOK (uh HN) (by have:=uh HS; omega) (by have:=uh HS1; omega) (fun h=>absurd h (uh HP))
       ·simp [intOf]; omega
  ·have hlt':¬ (i:Int) < l.length:=by omega
   have hie:i = l.length:=by omega
   subst hie
   go_wp2_with fail
   go_ret
   exact ⟨by rw [(xa0v l).2 (fun j hj=>uh HA j hj hj)]; rfl,uh HK⟩
def toDF (f:IFile):DF:=⟨f.nm,f.bs,f.sy.toNat,f.nd⟩
theorem xa6x {l:List IFile} (h:FormedL l):∀ (j i:Nat) (hj:j < l.length) (hi:i < j),l[i].nm.data.toList < l[j].nm.data.toList:=by
 intro j
 induction j with
 | zero=>intro i hj hi; omega
 | succ j ih =>
  intro i hj hi
  have h1:=(h (j + 1) hj).2.2.2 (by omega)
  by_cases hij:i = j
  ·subst hij
   exact h1
  ·exact List.lt_trans (ih i (by omega) (by omega)) h1
theorem xa7t {l:List IFile} (h:FormedL l):Dist (l.map toDF):=by
 unfold Dist
 rw [List.pairwise_map,List.pairwise_iff_getElem]
 intro i j hi hj hij e
 have h1:=xa6x h j i hj hij
 have e2:l[i].nm = l[j].nm:=e
 rw [e2] at h1
 exact List.lt_irrefl _ h1
set_option maxHeartbeats 1000000 in
theorem xb6m (sec:Int) (v:Value) (w:World) (h:sec < 1∨4096 < sec) :
  Calls Tryz.prog 13 #[.int .i64 sec,v] w fun e w'=>e = .returned (.tuple #[.pointer none,.int .i64 1])∧w' = w:=by
 by_cases h1:sec < 1
 ·clear h
  go_enter Tryz.func13,Tryz.ntmps13
  go_wp2_with fail
  go_ret2
  exact ⟨rfl,rfl⟩
 ·have h2:4096 < sec:=by omega
  clear h
  go_enter Tryz.func13,Tryz.ntmps13
  go_wp2_with fail
  go_ret2
  exact ⟨rfl,rfl⟩
set_option maxHeartbeats 1000000 in
theorem xb3d (sec:Int) (v:Value) (l:List IFile) (w:World) (h1:1≤sec) (h2:sec≤4096) (h:RdC 4 w v (l.map ifC)) (ho:∀ f∈l,OkIf w f) (hl:l.length≤1048576) (hf:formedB l = false) :
  Calls Tryz.prog 13 #[.int .i64 sec,v] w fun e w'=>e = .returned (.tuple #[.pointer none,.int .i64 3])∧Kept [] w w':=by
 have HC:=hide (xa4n v l w h ho hl)
 rw [hf] at HC
 have e1:¬ sec < 1:=by omega
 have e2:¬ 4096 < sec:=by omega
 clear h ho hf h1 h2
 go_enter Tryz.func13,Tryz.ntmps13
 go_wp2_with fail
 refine Calls.mono (uh HC) ?_
 rintro e w1 ⟨rfl,k1⟩
 have HK:=hide k1
 clear k1
 go_wp2_with fail
 go_ret2
 exact ⟨rfl,uh HK⟩
set_option maxHeartbeats 2000000 in
theorem xb7r (sec:Nat) (v:Value) (l:List IFile) (w:World) (h1:1≤sec) (h2:sec≤4096) (h:RdC 4 w v (l.map ifC)) (ho:∀ f∈l,OkIf w f) (hl:l.length≤1048576) (hf:formedB l = true) :
  Calls Tryz.prog 13 #[.int .i64 sec,v] w fun e w'=>∃ d m u gs,e = .returned (.tuple #[.pointer (some ⟨d,0,none⟩),.int .i64 0])∧DkAt w' d sec m l.length u (.map none) 0 0 false (fun _=>none) gs∧gs.map absF = l.map toDF∧Kept [] w w'∧∀ x∈dkB d m u (.map none) gs,w.heap.size≤x:=by
 have HC:=hide (xa4n v l w h ho hl)
 rw [hf] at HC
 have HF:=hide ((xa0v l).1 hf)
 have e1:¬ (sec:Int) < 1:=by omega
 have e2:¬ 4096 < (sec:Int):=by omega
 obtain ⟨ao,len,cap,rfl,g1,g2,g3,g4⟩:=h
 rw [List.length_map] at g1
 subst g1
 have H4:=hide g4
 have HO:=hide ho
 have HS:=hide (And.intro h1 h2)
 clear g4 ho hf h1 h2
 go_enter Tryz.func13,Tryz.ntmps13
 go_wp2_with fail
 refine Calls.mono (uh HC) ?_
 rintro e w1 ⟨rfl,k1⟩
 have HK1:=hide k1
 have hmm:=run_makeMap (P:=Tryz.prog) 97 w1
 clear k1
 go_wp2_with fail
 have k2:=(((Kept.refl [] w1).alloc (.map #[] 0)).alloc (.cells #[.int .i64 sec,.map (some w1.heap.size),.slice none 0 0,.map none,.int .i64 0,.int .i64 0,.bool false] 101 (0,0)))
 have hrow:=heap_alloc_new (w1.alloc (.map #[] 0)) (.cells #[.int .i64 sec,.map (some w1.heap.size),.slice none 0 0,.map none,.int .i64 0,.int .i64 0,.bool false] 101 (0,0))
 rw [show (w1.alloc (.map #[] 0)).heap.size = w1.heap.size + 1 by simp] at hrow
 have HD0:=hide (⟨hrow,⟨0,.map [],(World.ownsMap_made w1 Tryz.prog 9 ptrElem).alloc _,Nat.le_refl _,MapIs.empty⟩,Qr.nil _ _,.inl ⟨rfl,fun _=>rfl⟩,by simp,List.Pairwise.nil,by simp [mblk]⟩:DkAt ((w1.alloc (.map #[] 0)).alloc (.cells #[.int .i64 sec,.map (some w1.heap.size),.slice none 0 0,.map none,.int .i64 0,.int .i64 0,.bool false] 101 (0,0))) (w1.heap.size + 1) sec w1.heap.size 0 (.slice none 0 0) (.map none) 0 0 false (fun _=>none) [])
 have HK2:=hide ((uh HK1).trans k2 (by simp))
 have HS1:=hide (uh HK1).size
 clear hrow k2 hmm
 go_loopw [24] (fun t24 wr=>∃ (i:Nat) (u:Value) (gs:List DFile),i≤l.length∧t24 = .int .i64 i∧Hid (DkAt wr (w1.heap.size + 1) sec w1.heap.size i u (.map none) 0 0 false (fun _=>none) gs)∧Hid (gs.map absF = (l.take i).map toDF)∧Hid (Kept [] w wr)∧Hid (∀ x∈dkB (w1.heap.size + 1) w1.heap.size u (.map none) gs,w.heap.size≤x)) (fun t _=>l.length - (intOf t).toNat)
 case atStart=>exact ⟨0,_,[],Nat.zero_le _,rfl,HD0,hide rfl,HK2,hide (by intro x hx; have:=uh HS1; simp [dkB,blk,mblk] at hx; omega)⟩
 case round =>
  obtain ⟨i,u,gs,hi,rfl,HD,HGS,HK,HB⟩:=hrel
  by_cases hlt:i < l.length
  ·have hlt':(i:Int) < l.length:=by omega
   obtain ⟨b,off,rfl,hcc⟩:=uh H4 (by omega)
   have hr:=hcc i (by rw [List.length_map]; exact hlt)
   rw [List.getElem_map] at hr
   have p0:=(uh HK).cell (hr 0 _ rfl) (by simp)
   have p1:=(uh HK).cell (hr 1 _ rfl) (by simp)
   have p2:=(uh HK).cell (hr 2 _ rfl) (by simp)
   have p3:=(uh HK).cell (hr 3 _ rfl) (by simp)
   rw [Nat.add_zero] at p0
   have hof:=uh HO l[i] (List.getElem_mem hlt)
   have hok:=uh HF i hlt
   have HT:=hide (List.take_succ_eq_append_getElem hlt)
   have HLK:=hide (by
    refine xa7e ?_
    rw [uh HGS]
    unfold findA
    rw [List.find?_eq_none]
    intro x hx
    obtain ⟨a,ha,rfl⟩:=List.mem_map.1 hx
    obtain ⟨j,hj,rfl⟩:=List.getElem_of_mem ha
    have hj2:j < i:=by rw [List.length_take] at hj; omega
    rw [List.getElem_take]
    have h9:=xa6x (uh HF) i j hlt hj2
    intro e
    have e2:l[j].nm.data.toList = l[i].nm.data.toList:=by simpa [toDF] using e
    rw [e2] at h9
    exact List.lt_irrefl _ h9:look gs l[i].nm.data.toList = none)
   have HGL:=hide (by have:=congrArg List.length (uh HGS); rw [List.length_map,List.length_map,List.length_take] at this; omega:gs.length = i)
   clear hr hcc
   obtain ⟨va,vl,vc,hv⟩:=(show ∃ va vl vc,l[i].v = .slice va vl vc by obtain ⟨a,b,c,h9,_⟩:=hof.1; exact ⟨a,b,c,h9⟩)
   rw [hv] at p1
   have HRD:=hide (by rw [← hv]; exact hof.1.kept (uh HK) (by simp):Rd wr (.slice va vl vc) l[i].bs)
   have HNS:=hide hof.2.1
   have HNM:=hide hok.1
   have hsy:l[i].sy = ((l[i].sy.toNat:Nat):Int):=by have:=hok.2.1; omega
   have HSL:=hide (by have:=hok.2.2.1; omega:l[i].sy.toNat≤l[i].bs.length)
   have HLN:=hide (show l[i].bs.length≤140737488355328 by obtain ⟨a,b,c,h9,h10,h11,h12,_⟩:=hof.1; omega)
   clear hof hok hv
   have HTD:Hid (toDF l[i] = ⟨l[i].nm,l[i].bs,l[i].sy.toNat,l[i].nd⟩):=hide rfl
   rw [hsy] at p2
   generalize l[i].sy.toNat = SY at p2 HSL HTD
   generalize l[i] = X at p0 p1 p2 p3 HT HLK HRD HNS HNM HSL HLN HTD
   clear hsy
   go_upto_region 9 with fail
   have HG1:=hide (heap_alloc_new wr (.cells #[.string X.nm,.slice va vl vc,.int .i64 (SY:Int),.bool X.nd] 74 (0,0)))
   have HD1:=hide ((uh HD).kept ((Kept.refl [] wr).alloc (.cells #[.string X.nm,.slice va vl vc,.int .i64 (SY:Int),.bool X.nd] 74 (0,0))) (by simp))
   have HK1':=hide ((uh HK).alloc (.cells #[.string X.nm,.slice va vl vc,.int .i64 (SY:Int),.bool X.nd] 74 (0,0)))
   have HR1:=hide ((uh HRD).kept ((Kept.refl [] wr).alloc (.cells #[.string X.nm,.slice va vl vc,.int .i64 (SY:Int),.bool X.nd] 74 (0,0))) (by simp))
   obtain ⟨W1,hW1⟩:∃ W,wr.alloc (.cells #[.string X.nm,.slice va vl vc,.int .i64 (SY:Int),.bool X.nd] 74 (0,0)) = W:=⟨_,rfl⟩
   rw [hW1] at HG1 HD1 HK1' HR1 ⊢
   clear hW1 p0 p1 p2 p3 HD HRD
   have HGX:=hide (by
    intro hx
    simp only [List.mem_cons] at hx
    rcases hx with hx | hx | hx
    ·exact xa0d (uh HG1) (uh HD1).row (by decide) hx
    ·obtain ⟨n9,D9,ho9,_⟩:=(uh HD1).map
     exact map_ne ho9 (uh HG1) hx
    ·obtain ⟨cs,hc⟩:=xa2b (uh HD1).un hx
     exact xa0d (uh HG1) hc (by decide) rfl:wr.heap.size∉(w1.heap.size + 1) :: w1.heap.size :: blk u)
   refine xb8t (by kernel_rfl) (by kernel_rfl) (by kernel_rfl) (by kernel_rfl) (by kernel_rfl) (by kernel_rfl) (by kernel_rfl) (by kernel_rfl) (by kernel_rfl) (by kernel_rfl) (by kernel_rfl) (by kernel_rfl) (by kernel_rfl) (by kernel_rfl) (by kernel_rfl) (by kernel_rfl) (by kernel_rfl) (by kernel_rfl) (by kernel_rfl) (by kernel_rfl) (by kernel_rfl) (by kernel_rfl) (by kernel_rfl) (by kernel_rfl) (by kernel_rfl) (by kernel_rfl) rfl rfl rfl
    (.pointer (some ⟨w1.heap.size + 1,0,none⟩)) (.pointer (some ⟨wr.heap.size,0,none⟩)) (.string X.nm) (.pointer (some ⟨wr.heap.size,1,none⟩)) (.slice va vl vc) (.pointer (some ⟨wr.heap.size,2,none⟩)) (.int .i64 (SY:Int)) (.pointer (some ⟨wr.heap.size,3,none⟩)) (.bool X.nd) _ _ _ _ _ _ _ _ _
    (fun w'=>w'.heap[wr.heap.size]? = some (.cells #[.string X.nm,.slice va vl vc,.int .i64 (SY:Int),.bool X.nd] 74 (0,0)))
    (fun w'=>Kept [] W1 w')
    (fun u5 w'=>(∃ g,u5 = .slice (some ⟨g,0,none⟩) X.bs.length X.bs.length∧W1.heap.size≤g∧w'.heap[g]? = some (.cells (X.bs.map Go.Proofs.YtejchncdimcdbaaGreatDoor.u8).toArray 5 (0,0)))∧Kept [] W1 w')
    (fun u5 u11 w'=>(∃ g,u5 = .slice (some ⟨g,0,none⟩) X.bs.length X.bs.length∧W1.heap.size≤g∧w'.heap[g]? = some (.cells (X.bs.map Go.Proofs.YtejchncdimcdbaaGreatDoor.u8).toArray 5 (0,0)))∧(∃ G,u11 = .pointer (some ⟨G,0,none⟩)∧W1.heap.size≤G∧w'.heap[G]? = some (.cells #[.string X.nm,u5,.int .i64 (SY:Int),.bool X.nd] 106 (0,0)))∧Kept [] W1 w')
    (fun u5 u11 u12 w'=>∃ (u':Value) (F:DFile),u12 = .tuple #[]∧absF F = toDF X∧DkAt w' (w1.heap.size + 1) sec w1.heap.size (i + 1) u' (.map none) 0 0 false (fun _=>none) (gs++[F])∧Kept ((w1.heap.size + 1) :: w1.heap.size :: blk u) W1 w'∧(∀ x∈blk u',x∈blk u∨W1.heap.size≤x)∧(∀ x∈F.g :: blk F.v,W1.heap.size≤x))
    (fun u5=>.agg #[.string X.nm,u5,.int .i64 (SY:Int),.bool X.nd])
    (by simp only [Act.put,sa1,sa2,sa3]; rfl) (by exact Or.inl ⟨by rfl,fun W' hW'=>by go_simp⟩)
    (by simp only [Act.put,sa1,sa2,sa3]; rfl) (by exact Or.inl ⟨by rfl,fun W' hW'=>by go_simp⟩)
    (by simp only [Act.put,sa1,sa2,sa3]; rfl) (by exact Or.inl ⟨by rfl,fun W' hW'=>by have h9:=cell_of_row _ _ 0 _ _ _ hW'; simp at h9; go_simp⟩)
    (by simp only [Act.put,sa1,sa2,sa3]; rfl) (by exact Or.inl ⟨by rfl,fun W' hW'=>by go_simp⟩)
    (by simp only [Act.put,sa1,sa2,sa3]; rfl) (by exact Or.inl ⟨by rfl,fun W' hW'=>by have h9:=cell_of_row _ _ 1 _ _ _ hW'; simp at h9; go_simp⟩)
    (by simp only [Act.put,sa1,sa2,sa3]; rfl) (by exact Or.inl ⟨by rfl,fun W' hW'=>by go_simp⟩)
    (by simp only [Act.put,sa1,sa2,sa3]; rfl) (by exact Or.inl ⟨by rfl,fun W' hW'=>by have h9:=cell_of_row _ _ 2 _ _ _ hW'; simp at h9; go_simp⟩)
    (by simp only [Act.put,sa1,sa2,sa3]; rfl) (by exact Or.inl ⟨by rfl,fun W' hW'=>by go_simp⟩)
    (by simp only [Act.put,sa1,sa2,sa3]; rfl) (by exact Or.inl ⟨by rfl,fun W' hW'=>by have h9:=cell_of_row _ _ 3 _ _ _ hW'; simp at h9; go_simp⟩)
    (Kept.refl [] W1).drew
    ⟨fun w' h=>h.heap (uh HG1) (by simp),fun u5 w' h=>h.2.heap (uh HG1) (by simp),fun u5 u11 w' h=>h.2.2.heap (uh HG1) (by simp),fun u5 u11 u12 w' h=>by obtain ⟨u',F,_,_,_,k9,_⟩:=h; exact k9.heap (uh HG1) (uh HGX)⟩
    (by
     intro w' k K hK
     refine xa0e rfl Tryz.call43 [.slice va vl vc] rfl (xa2c _ X.bs w' ((uh HR1).kept k (by simp))) ?_
     rintro e w2 ⟨rfl,k2,h2⟩
     exact ⟨_,rfl,hK _ _ ⟨⟨_,rfl,k.size,h2⟩,k.trans k2 (by simp)⟩⟩)
    (by
     rintro u5 w' ⟨⟨g,rfl,hg,hh⟩,k⟩ K hK
     simp only [Act.put,sa1,sa2,sa3] at hK ⊢
     unfold Oper.wp execOp
     go_simp
     exact hK _ _ ⟨⟨_,rfl,hg,((Kept.refl [] w').alloc _).heap hh (by simp)⟩,⟨_,rfl,k.size,heap_alloc_new _ _⟩,k.alloc _⟩)
    (by
     rintro u5 u11 w' ⟨⟨g,rfl,hg,hh⟩,⟨G,rfl,hG,hGG⟩,k⟩ K hK
     refine xa0e rfl Tryz.call42 [.pointer (some ⟨w1.heap.size + 1,0,none⟩),.pointer (some ⟨G,0,none⟩)] rfl (xb4g (w1.heap.size + 1) sec w1.heap.size i ⟨G,X.nm,.slice (some ⟨g,0,none⟩) X.bs.length X.bs.length,X.bs,SY,X.nd⟩ w' u (.map none) 0 0 false (fun _=>none) gs ((uh HD1).kept k (by simp)) ⟨hGG,xa3g hh (uh HLN) (Nat.zero_le _),(uh HR1).byte,uh HSL⟩ (by omega) (by have:=uh HGL; omega) (by have:=uh HNS; show X.nm.size≤_; omega) (uh HLK) ?_) ?_
     ·intro a ha
      have h8:=(uh HD1).lt a.g (dkB_g ha)
      refine ⟨by show a.g≠G; omega,?_⟩
      intro x hx hy
      simp only [blk,List.mem_singleton] at hy
      have h7:=(uh HD1).lt x (dkB_v ha hx)
      omega
     ·rintro e w2 ⟨u',rfl,hd2,hk2,hu2⟩
      refine ⟨_,rfl,hK _ _ ⟨u',_,rfl,by rw [uh HTD]; rfl,hd2,(k.mono (by simp)).trans hk2 (fun x hx=>.inl hx),?_,?_⟩⟩
      ·intro x hx
       rcases hu2 x hx with h9 | h9
       ·exact .inl h9
       ·exact .inr (Nat.le_trans k.size h9)
      ·intro x hx
       simp only [blk,List.mem_cons,List.not_mem_nil,or_false] at hx
       rcases hx with rfl | rfl
       ·exact hG
       ·exact hg)
    (by rintro u5 w' ⟨⟨g,rfl,hg,hh⟩,k⟩; exact Or.inl ⟨by rfl,fun W' hW'=>by go_simp⟩)
    ?_
   rintro u5 u11 u12 w5 ⟨u',F,rfl,hF,hd5,hk5,hu5,hF5⟩
   simp only [Act.put,sa1,sa2,sa3]
   have hsz:=(uh HK1').size
   have HD5:=hide hd5
   have HGS5:=hide (by rw [List.map_append,uh HGS,uh HT,List.map_append]; simp [hF]:(gs++[F]).map absF = (l.take (i + 1)).map toDF)
   have HK5:=hide ((uh HK1').trans hk5 (by intro x hx; right; exact uh HB x (by simp only [List.mem_cons] at hx; rcases hx with h | h | h <;> simp [dkB,h])))
   have HB5:=hide (by
    intro x hx
    simp only [dkB,mblk,List.mem_cons,List.mem_append,List.mem_flatMap,List.not_mem_nil,or_false,List.mem_singleton] at hx
    rcases hx with hx | hx | hx | ⟨a,ha,hx⟩
    ·exact uh HB x (by simp [dkB,hx])
    ·exact uh HB x (by simp [dkB,hx])
    ·rcases hu5 x hx with h9 | h9
     ·exact uh HB x (by simp [dkB,h9])
     ·omega
    ·rcases ha with ha | rfl
     ·rcases hx with rfl | hx
      ·exact uh HB _ (dkB_g ha)
      ·exact uh HB x (dkB_v ha hx)
     ·have:=hF5 x (by simpa using hx)
      omega:∀ x∈dkB (w1.heap.size + 1) w1.heap.size u' (.map none) (gs++[F]),w.heap.size≤x)
   clear hF hd5 hk5 hu5 hF5 hsz
   go_wp2_with fail
   refine ⟨⟨i + 1,u',gs++[F],by omega,by simp,HD5,HGS5,HK5,HB5⟩,?_⟩
   simp [intOf]; omega
  ·have hlt':¬ (i:Int) < l.length:=by omega
   have hie:i = l.length:=by omega
   subst hie
   rw [List.take_length] at HGS
   go_wp2_with fail
   go_ret2
   exact ⟨_,rfl,_,u,gs,uh HD,uh HGS,uh HK,uh HB⟩
end
section
open Go.RowKit Go.BigFrame Go.Maps
def MapF (D:DataW Unit) (ft:Int→Option Int):Prop:=∀ a,Maps.has D (.int .i64 a) = (ft a).isSome∧∀ z,D.atKey (.int .i64 a) z = match ft a with | none=>z | some c=>.lit (.int .i64 c)
theorem MapF.empty:MapF (.map []) (fun _=>none):=fun s=>⟨rfl,fun z=>Maps.atKey_of_not_has rfl z⟩
theorem MapF.put {D:DataW Unit} {f:Int→Option Int} (h:MapF D f) (hm:Maps.IsMap D) (a:Int) (hk:WideAt.IsKeyLit (.int .i64 a)) (c:Int) :
  MapF (D.put (.int .i64 a) (.lit (.int .i64 c))) (fun t=>if t = a then some c else f t):=by
 intro t
 by_cases ht:t = a
 ·subst ht
  simp only [if_true]
  exact ⟨Maps.has_put_same hm hk _,fun z=>Maps.atKey_put_same hm hk _ z⟩
 ·have hne:Lit.int .i64 t≠Lit.int .i64 a:=by simpa using ht
  simp only [if_neg ht]
  exact ⟨by rw [Maps.has_put_other hne]; exact (h t).1,fun z=>by rw [Maps.atKey_put_other hne]; exact (h t).2 z⟩
theorem xa7a (ks:List (Int × Int)) (k:Int × Int) (s:Int):fstF (ks++[k]) s = if (fstF ks s).isSome then fstF ks s else if s = k.1 then some k.2 else none:=by
 unfold fstF
 rw [List.find?_append]
 cases List.find? (fun x=>x.1 == s) ks with
 | some x=>rfl
 | none =>
  simp only [Option.none_or,Option.map_none,Option.isSome_none,Bool.false_eq_true,if_false]
  by_cases h:s = k.1
  ·subst h; simp
  ·rw [if_neg h]
   have:(k.1 == s) = false:=by simpa using fun e=>h e.symm
   simp [this]
theorem xb6h {ks:List (Int × Int)} {k:Int × Int} (h:fstF ks k.1 = none):(fun t=>if t = k.1 then some k.2 else fstF ks t) = fstF (ks++[k]):=by
 funext t
 rw [xa7a]
 by_cases ht:t = k.1
 ·subst ht; rw [if_pos rfl,h]; simp
 ·rw [if_neg ht,if_neg ht]
  cases fstF ks t <;> rfl
theorem xb3n {ks:List (Int × Int)} {k:Int × Int} (h:(fstF ks k.1).isSome = true):fstF (ks++[k]) = fstF ks:=by
 funext t
 rw [xa7a]
 by_cases ht:t = k.1
 ·subst ht; rw [if_pos h]
 ·rw [if_neg ht]
  cases fstF ks t <;> rfl
theorem wf_rng {x:Int} (h:Rng x):(Lit.int .i64 x).wf = true:=by
 unfold Rng at h
 simp [Lit.wf,IntKind.min,IntKind.max,IntKind.signed,IntKind.bits]
 omega
set_option maxHeartbeats 2000000 in
theorem xb5q (d sec m N:Nat) (lv:Value) (fl:List (Int × Int)) (crash:Int) (w:World) (u fv:Value) (cr op:Int) (off:Bool) (ft:Int→Option Int) (fs:List DFile)
  (h:DkAt w d sec m N u fv cr op off ft fs) (hfl:RdC 2 w lv (fl.map faC)) (hfd:d∉zblk lv (fl.map faC)) (hfo:∀ x∈fl,OkFa x) (hll:fl.length≤1048576) :
  Calls Tryz.prog 27 #[.pointer (some ⟨d,0,none⟩),lv,.int .i64 crash] w fun e w'=>∃ M,e = .returned (.tuple #[])∧w.heap.size≤M∧DkAt w' d sec m (N + fl.length) u (.map (some M)) crash 0 off (fstF fl) fs∧Kept [d] w w':=by
 have HD:=hide h
 obtain ⟨ao,len,cap,rfl,g1,g2,g3,g4⟩:=hfl
 rw [List.length_map] at g1
 subst g1
 have H4:=hide g4
 have HFO:=hide hfo
 have HFD:=hide hfd
 have hrow:=h.row
 unfold DRow at hrow
 have HR:=hide hrow
 have c3:=cell_of_row _ _ 3 _ _ _ hrow
 have c4:=cell_of_row _ _ 4 _ _ _ hrow
 have c5:=cell_of_row _ _ 5 _ _ _ hrow
 simp at c3 c4 c5
 have z3:=frozen_of_row _ _ 3 _ _ hrow
 have z4:=frozen_of_row _ _ 4 _ _ hrow
 have z5:=frozen_of_row _ _ 5 _ _ hrow
 clear h g4 hfo hfd hrow
 go_enter Tryz.func27,Tryz.ntmps27
 go_wp2_with fail
 refine Calls.mono (xa1t d w sec m u fv cr op off (uh HD).row) ?_
 rintro e w1 ⟨rfl,rfl⟩
 go_upto_region 2 with fail
 have HR1:=hide (heap_setCell_same _ _ 4 _ _ (.int .i64 crash) (heap_setCell_same w1 _ 5 _ _ (.int .i64 0) (uh HR)))
 have HK1:=hide (((Kept.refl [d] w1).setCell (p:=⟨d,5,none⟩) (.inl (by simp)) (.int .i64 0)).setCell (p:=⟨d,4,none⟩) (.inl (by simp)) (.int .i64 crash))
 obtain ⟨W1,hW1⟩:∃ W,(w1.setCell ⟨d,5,none⟩ (.int .i64 0)).setCell ⟨d,4,none⟩ (.int .i64 crash) = W:=⟨_,rfl⟩
 rw [hW1] at HR1 HK1 ⊢
 clear hW1 c3 c4 c5 z3 z4 z5
 have hmm:=run_makeMap (P:=Tryz.prog) 99 W1
 have HK2:=hide ((uh HK1).alloc (.map #[] 0))
 have HR2:=hide (((Kept.refl [] W1).alloc (.map #[] 0)).heap (uh HR1) (by simp))
 have c3:(W1.alloc (.map #[] 0)).cell? ⟨d,3,none⟩ = some fv:=by have h9:=cell_of_row _ _ 3 _ _ _ (uh HR2); simp at h9; exact h9
 have z3:=frozen_of_row _ _ 3 _ _ (uh HR2)
 go_wp2_with fail
 have HR3:=hide (heap_setCell_same _ _ 3 _ _ (.map (some W1.heap.size)) (uh HR2))
 have HK3:=hide ((uh HK2).setCell (p:=⟨d,3,none⟩) (.inl (by simp)) (.map (some W1.heap.size)))
 have HDM:=hide (by have:=lt_of_block (uh HR1); omega:W1.heap.size≠d)
 have HO3:=hide ((World.ownsMap_made W1 Tryz.prog 3 (plainElem (H:=Unit) Tryz.prog 3)).setCell (a:=⟨d,3,none⟩) (uh HDM) (.map (some W1.heap.size)))
 obtain ⟨W3,hW3⟩:∃ W,(W1.alloc (.map #[] 0)).setCell ⟨d,3,none⟩ (.map (some W1.heap.size)) = W:=⟨_,rfl⟩
 rw [hW3] at HR3 HK3 HO3 ⊢
 clear hW3 c3 z3 hmm
 have HMS:=hide (by have:=(uh HK1).size; omega:w1.heap.size≤W1.heap.size)
 generalize hMM:W1.heap.size = M at *
 have HRR:=hide (uh HR3)
 go_loopw [25] (fun t25 wr=>∃ (i:Nat) (D:DataW Unit),i≤fl.length∧t25 = .int .i64 i∧Hid (wr.ownsMap Tryz.prog 3 (plainElem Tryz.prog 3) M i D)∧Hid (MapF D (fstF (fl.take i)))∧Hid (Kept [d] w1 wr)∧Hid (wr.heap[d]? = W3.heap[d]?)) (fun t _=>fl.length - (intOf t).toNat)
 case atStart=>exact ⟨0,.map [],Nat.zero_le _,rfl,HO3,hide MapF.empty,HK3,hide rfl⟩
 case round =>
  obtain ⟨i,D,hi,rfl,HO,HMF,HK,HE⟩:=hrel
  have HRW:=hide ((uh HE).trans (uh HR3))
  by_cases hlt:i < fl.length
  ·have hlt':(i:Int) < fl.length:=by omega
   obtain ⟨b,off',rfl,hcc⟩:=uh H4 (by omega)
   have hr:=hcc i (by rw [List.length_map]; exact hlt)
   rw [List.getElem_map] at hr
   have hbd:b∉[d]:=by
    intro hx
    simp only [List.mem_singleton] at hx
    exact uh HFD (xb4u (by simp [blk,hx]) (by intro e; simp at e; subst e; simp at hlt))
   have p0:=(uh HK).cell (hr 0 _ rfl) hbd
   have p1:=(uh HK).cell (hr 1 _ rfl) hbd
   rw [Nat.add_zero] at p0
   have HT:=hide (List.take_succ_eq_append_getElem hlt)
   have hX:=uh HFO fl[i] (List.getElem_mem hlt)
   clear hcc hr hbd
   generalize fl[i] = X at p0 p1 HT hX
   have HX:=hide hX
   clear hX
   go_upto_region 6 with fail
   have HG1:=hide (heap_alloc_new wr (.cells #[.int .i64 X.1,.int .i64 X.2] 141 (0,0)))
   have HOa:=hide ((uh HO).alloc (.cells #[.int .i64 X.1,.int .i64 X.2] 141 (0,0)))
   have HKa:=hide ((uh HK).alloc (.cells #[.int .i64 X.1,.int .i64 X.2] 141 (0,0)))
   have HRa:=hide (((Kept.refl [] wr).alloc (.cells #[.int .i64 X.1,.int .i64 X.2] 141 (0,0))).heap (uh HRW) (by simp))
   obtain ⟨V,hV⟩:∃ W,wr.alloc (.cells #[.int .i64 X.1,.int .i64 X.2] 141 (0,0)) = W:=⟨_,rfl⟩
   rw [hV] at HG1 HOa HKa HRa ⊢
   clear hV p0 p1
   have q0:=cell_of_row _ _ 0 _ _ _ (uh HG1)
   have q1:=cell_of_row _ _ 1 _ _ _ (uh HG1)
   have c3:=cell_of_row _ _ 3 _ _ _ (uh HRa)
   simp at q0 q1 c3
   have hkey:=Maps.keyOf_int_mk (P:=Tryz.prog) (k:=3) Tryz.underlying3 (a:=X.1) (wf_rng (uh HX).1)
   have hlk:=fun j:Nat=>xa3r (ft:=fstF (fl.take i)) (xa0f (w':=V.drewN j) (uh HOa) rfl) (uh HMF) X.1 hkey
   have HKEY:=hide hkey
   clear hkey
   cases hfs:fstF (fl.take i) X.1 with
   | some Y =>
    rw [hfs] at hlk
    simp only [Option.getD_some,Option.isSome_some] at hlk
    have HFS:=hide hfs
    clear hfs
    refine wp_region_quiet_lit (by kernel_rfl) (by kernel_rfl) ?_
    repeat (go_big_quiet_step (fail))
    refine wpQuiet_nil ?_
    rintro _ ⟨n5,rfl⟩
    clear hlk q0 q1 c3
    go_wp2_with fail
    refine ⟨⟨i + 1,D,by omega,by simp,hide ((uh HOa).mono (Nat.le_succ _)),hide ?_,hide ((uh HKa).drewN n5),hide ?_⟩,?_⟩
    ·rw [uh HT,xb3n (by rw [uh HFS]; rfl)]
     exact uh HMF
    ·exact (uh HRa).trans (uh HR3).symm
    ·simp [intOf]; omega
   | none =>
    rw [hfs] at hlk
    simp only [Option.getD_none,Option.isSome_none] at hlk
    have HFS:=hide hfs
    clear hfs
    refine wp_region_quiet_lit (by kernel_rfl) (by kernel_rfl) ?_
    repeat (go_big_quiet_step (fail))
    refine wpQuiet_nil ?_
    rintro _ ⟨n5,rfl⟩
    clear hlk
    go_upto_region 8 with fail
    refine xa0z 8 (by kernel_rfl) (by kernel_rfl) ?_
    simp only [List.take_succ_cons,List.take_zero,List.drop_succ_cons,List.drop_zero]
    repeat (go_big_quiet_step (fail))
    refine wpQuiet_nil ?_
    rintro _ ⟨n6,rfl⟩
    clear q0 q1 c3
    at_mapUpdate
    refine wpList_mapUpdate_in _ rfl _ _ _ 99 rfl 3 3 keyI Tryz.underlying99 (plainElem Tryz.prog 3) M i D rfl (xa0f (uh HOa) rfl) (by unfold maxLen; omega) _ _ _ rfl rfl (uh HKEY) _ _ (plainElem_int Tryz.underlying3 (wf_rng (uh HX).2)) ?_
    intro w7 hown7 hturn7
    have HO7:=hide hown7
    have HK7:=hide ((((uh HKa).drewN (n5 + n6))).grown (by simpa [xa8l] using hturn7.grown) (by intro k hk; injection hk with hk; subst hk; exact .inr (uh HMS)))
    have HE7:=hide ((hturn7.grown.block d (lt_of_block (uh HRa)) (by simpa using fun e=>uh HDM e.symm)).trans ((uh HRa).trans (uh HR3).symm))
    clear hown7 hturn7
    go_wp2_with fail
    refine ⟨⟨i + 1,_,by omega,by simp,HO7,hide ?_,HK7,HE7⟩,?_⟩
    ·rw [uh HT,← xb6h (uh HFS)]
     exact (uh HMF).put (uh HO).isMap _ trivial X.2
    ·simp [intOf]; omega
  ·have hlt':¬ (i:Int) < fl.length:=by omega
   have hie:i = fl.length:=by omega
   subst hie
   rw [List.take_length] at HMF
   go_wp2_with fail
   refine bodyPost_end (v:=.tuple #[]) (results_none rfl _ _ _) rfl ⟨rfl,M,uh HMS,((uh HD).more (Nat.le_add_right N fl.length)).turnedF (uh HK) (uh HRW) (.inr ⟨M,_,D,rfl,uh HO,Nat.le_add_left _ _,uh HMF⟩) ?_,uh HK⟩
   simp only [mblk,List.mem_singleton]
   intro e
   obtain ⟨n9,D9,ho9,_⟩:=(uh HD).map
   have:=ho9.lt
   have:=uh HMS
   omega
end
section
open Go.RowKit Go.BigFrame Go.Maps Go.Sort
set_option maxHeartbeats 2000000 in
theorem xb2y (d sec m N:Nat) (w:World) (u fv:Value) (cr op:Int) (off:Bool) (ft:Int→Option Int) (fs:List DFile) (h:DkAt w d sec m N u fv cr op off ft fs) (hd:Dist (fs.map absF)) (hN:N≤1000000000) (hfs:fs.length≤1000000000) (hfb:∀ f∈fs,f.bs.length≤140737488350000) (hfn:∀ f∈fs,f.nm.size≤40) :
  Calls Tryz.prog 30 #[.pointer (some ⟨d,0,none⟩)] w fun e w'=>∃ v ts,e = .returned v∧OwnFl w.heap.size w' v ts∧ts.map Prod.fst = srtA (fs.map absF)∧Kept [] w w':=by
 have HD:=hide h
 have HDI:=hide hd
 have HFB:=hide hfb
 have HFN0:=hide hfn
 have HSO:=hide (xa4z d sec m N w u fv cr op off ft fs h hd hN)
 have HLN:=hide (by rw [xa8n,List.length_map]:(srtA (fs.map absF)).length = fs.length)
 have HNM:=hide (xb0m hd)
 have HMM:=hide (fun x (hx:x∈srtA (fs.map absF))=>xb6t.1 hx)
 generalize srtA (fs.map absF) = SA at HLN HNM HMM ⊢
 have HNL:=hide (by rw [← uh HNM,List.length_map]:(srtN (fs.map absF)).length = SA.length)
 generalize srtN (fs.map absF) = SS at HSO HNM HNL
 clear h hd hfb hfn
 go_enter Tryz.func30,Tryz.ntmps30
 go_wp2_with fail
 refine Calls.mono (xa1t d w sec m u fv cr op off (uh HD).row) ?_
 rintro e w1 ⟨rfl,rfl⟩
 go_wp2_with fail
 refine Calls.mono (uh HSO) ?_
 rintro e w2 ⟨nv,rfl,ho,hk⟩
 rw [uh HNL] at ho
 have HO:=hide ho
 have HK2:=hide hk
 obtain ⟨na,nl,nc,rfl,hn1,hn2,hn3,hn4⟩:RdS w2 nv SS:=xa4h (by rw [uh HNL]; exact ho)
 rw [uh HNL] at hn1
 subst hn1
 have HN4:=hide hn4
 have HLB:=hide (by rw [uh HLN]; exact hfs:SA.length≤1000000000)
 clear ho hk hn4
 go_wp2_with fail
 go_loopw [3,12] (fun v t12 wr=>∃ (i:Nat) (ts:List (DF × Value)),i≤SA.length∧t12 = .int .i64 i∧Hid (OwnFl w1.heap.size wr v ts)∧Hid (ts.map Prod.fst = SA.take i)∧Hid (Kept [] w1 wr)∧Hid (wr.ownsRow w1.heap.size 9 1 (.slice na SA.length nc) SA.length (SS.map encStr))) (fun _ t _=>SA.length - (intOf t).toNat)
 case atStart=>exact ⟨0,[],Nat.zero_le _,rfl,hide (OwnFl.nil _ _),hide rfl,HK2,HO⟩
 case round =>
  obtain ⟨i,ts,hi,rfl,HOW,HTS,HK,HNO⟩:=hrel
  obtain ⟨va,vl,vc,hv⟩:∃ va vl vc,u3 = .slice va vl vc:=by
   obtain ⟨a,l,c,h9,_⟩:=(uh HOW).rd.1
   exact ⟨a,l,c,h9⟩
  subst hv
  have HTL:=hide (by have:=congrArg List.length (uh HTS); rw [List.length_map,List.length_take] at this; omega:ts.length = i)
  have HLB2:=hide (uh HLB)
  by_cases hlt:i < SA.length
  ·have hlt':(i:Int) < SA.length:=by omega
   obtain ⟨ao',len',cap',e9,g1,g2,g3,g4⟩:=xa4h (by rw [uh HNL]; exact uh HNO:wr.ownsRow w1.heap.size 9 1 (.slice na SA.length nc) SS.length (SS.map encStr))
   injection e9 with e1 e2 e3
   subst e1 e2 e3
   obtain ⟨nb,no,rfl,hcc⟩:=g4 (by omega)
   have hsi:i < SS.length:=by rw [uh HNL]; exact hlt
   have c0:=hcc i hsi
   have hX:SS[i] = SA[i].nm.data.toList:=by
    have h9:=congrArg (fun l=>l[i]?) (uh HNM)
    simp only [List.getElem?_map,List.getElem?_eq_getElem hlt,List.getElem?_eq_getElem hsi,Option.map_some,Option.some.injEq] at h9
    exact h9.symm
   rw [hX] at c0
   have HT:=hide (List.take_succ_eq_append_getElem hlt)
   have hXm:=uh HMM SA[i] (List.getElem_mem hlt)
   clear hcc hX hsi g1 g4
   generalize SA[i] = X at c0 HT hXm
   obtain ⟨f,hfm,rfl⟩:=List.mem_map.1 hXm
   rw [show encStr (absF f).nm.data.toList = Value.string f.nm from rfl] at c0
   have hlook:look fs f.nm.data.toList = some f.g:=by
    obtain ⟨f',hf',hl',ha',_⟩:=xa2p (xb6r (uh HDI) hXm)
    have h8:f' = f:=xb4p (uh HDI) hf' hfm (congrArg DF.nm ha')
    rw [← h8]
    rw [h8] at hl' ⊢
    exact hl'
   obtain ⟨n9,D9,ho9,hn9,hD9⟩:=(uh HD).map
   have hkey:=WideMaps.keyOf_string_mk Tryz.underlying9 (s:=f.nm) (by have:=uh HFN0 f hfm; unfold maxLen; omega)
   have hlk:=xb2o (xa0f ho9 ((uh HK).block m ho9.lt (by simp))) hD9 f.nm hkey hlook
   have d1:=cell_of_row _ _ 1 _ _ _ ((uh HK).heap (uh HD).row (by simp))
   have hfile:=((uh HD).files f hfm).kept (uh HK) (by simp) (by simp)
   obtain ⟨fa,fc,hfv⟩:=xa0x hfile.2.1
   have hrow:=hfile.1
   rw [hfv] at hrow
   have f1:=cell_of_row _ _ 1 _ _ _ hrow
   have f2:=cell_of_row _ _ 2 _ _ _ hrow
   have f3:=cell_of_row _ _ 3 _ _ _ hrow
   simp at d1 f1 f2 f3
   have HRD:=hide (by rw [← hfv]; exact xa2u hfile.2.1 hfile.2.2.1 (by have:=uh HFB f hfm; omega):Rd wr (.slice fa f.bs.length fc) f.bs)
   have HBY:=hide hfile.2.2.1
   have HBL:=hide (uh HFB f hfm)
   have HFN:=hide (by
    intro hx
    have h8:=lt_of_block ((uh HD).files f hfm).1
    simp only [Option.mem_toList] at hx
    have:=((uh HOW).own.lt _ hx).1
    omega:f.g∉(Value.slice va vl vc).ownBlock.toList)
   have HBS:=hide (uh HK).size
   clear hfile hrow hkey ho9 hn9 hD9 hlook hXm hfv hfm
   go_upto_region 8 with fail
   clear hlk d1 c0
   refine xb8d (by kernel_rfl) (by kernel_rfl) (by kernel_rfl) (by kernel_rfl) (by kernel_rfl) (by kernel_rfl) (by kernel_rfl) (by kernel_rfl) (by kernel_rfl) (by kernel_rfl) (by kernel_rfl) (by kernel_rfl) (by kernel_rfl) (by kernel_rfl) (by kernel_rfl) (by kernel_rfl) (by kernel_rfl) (by kernel_rfl) (by kernel_rfl) (by kernel_rfl) (by kernel_rfl) (by kernel_rfl) (by kernel_rfl) (by kernel_rfl) (by kernel_rfl) (by kernel_rfl) (by kernel_rfl) (by kernel_rfl) (by kernel_rfl) (by kernel_rfl) (by kernel_rfl) (by kernel_rfl) (by kernel_rfl) (by kernel_rfl) (by kernel_rfl) (by kernel_rfl) (by kernel_rfl) (by kernel_rfl) rfl rfl rfl
    (.slice va vl vc) (.string f.nm) (.pointer (some ⟨f.g,0,none⟩)) (.pointer (some ⟨f.g,0,none⟩)) (.pointer (some ⟨f.g,1,none⟩)) (.slice fa f.bs.length fc) (.pointer (some ⟨f.g,0,none⟩)) (.pointer (some ⟨f.g,0,none⟩)) (.pointer (some ⟨f.g,2,none⟩)) (.int .i64 (f.sy:Int)) (.pointer (some ⟨f.g,0,none⟩)) (.pointer (some ⟨f.g,0,none⟩)) (.pointer (some ⟨f.g,3,none⟩)) (.bool f.nd) _ _ _ _ _ _ _ _ _ _ _ _ _ _
    (fun w'=>Kept (Value.slice va vl vc).ownBlock.toList wr w')
    (fun w'=>Kept [] wr w')
    (fun u6 w'=>(∃ g,u6 = .slice (some ⟨g,0,none⟩) f.bs.length f.bs.length∧wr.heap.size≤g∧w'.heap[g]? = some (.cells (f.bs.map u8).toArray 5 (0,0)))∧Kept [] wr w')
    (fun u6 u16 w'=>(∃ g,u6 = .slice (some ⟨g,0,none⟩) f.bs.length f.bs.length∧wr.heap.size≤g∧w'.heap[g]? = some (.cells (f.bs.map u8).toArray 5 (0,0)))∧(∃ H,u16 = .slice (some ⟨H,0,none⟩) 1 1∧w'.heap[H]? = some (.cells #[.string f.nm,u6,.int .i64 (f.sy:Int),.bool f.nd] 74 (0,0)))∧Kept [] wr w')
    (fun u6 u16 u17 w'=>(∃ g cap,u17 = .slice (some ⟨g,0,none⟩) (ts.length + 1) cap)∧OwnFl w1.heap.size w' u17 (ts++[(absF f,u6)])∧Kept (Value.slice va vl vc).ownBlock.toList wr w')
    (fun u6=>.agg #[.string f.nm,u6,.int .i64 (f.sy:Int),.bool f.nd])
    (fun _ _ u17=>u17)
    (by simp only [Act.put,sa1,sa2,sa3]; rfl) (by exact Or.inl ⟨by rfl,fun W' hW'=>by go_simp⟩)
    (by simp only [Act.put,sa1,sa2,sa3]; rfl) (by exact Or.inl ⟨by rfl,fun W' hW'=>by go_simp⟩)
    (by simp only [Act.put,sa1,sa2,sa3]; rfl) (by exact Or.inl ⟨by rfl,fun W' hW'=>by go_simp⟩)
    (by simp only [Act.put,sa1,sa2,sa3]; rfl) (by exact Or.inl ⟨by rfl,fun W' hW'=>by go_simp⟩)
    (by simp only [Act.put,sa1,sa2,sa3]; rfl) (by exact Or.inl ⟨by rfl,fun W' hW'=>by go_simp⟩)
    (by simp only [Act.put,sa1,sa2,sa3]; rfl) (by exact Or.inl ⟨by rfl,fun W' hW'=>by have h9:=hW'.cell f1 (uh HFN); go_simp⟩)
    (by simp only [Act.put,sa1,sa2,sa3]; rfl) (by exact Or.inl ⟨by rfl,fun W' hW'=>by go_simp⟩)
    (by simp only [Act.put,sa1,sa2,sa3]; rfl) (by exact Or.inl ⟨by rfl,fun W' hW'=>by go_simp⟩)
    (by simp only [Act.put,sa1,sa2,sa3]; rfl) (by exact Or.inl ⟨by rfl,fun W' hW'=>by go_simp⟩)
    (by simp only [Act.put,sa1,sa2,sa3]; rfl) (by exact Or.inl ⟨by rfl,fun W' hW'=>by have h9:=hW'.cell f2 (uh HFN); go_simp⟩)
    (by simp only [Act.put,sa1,sa2,sa3]; rfl) (by exact Or.inl ⟨by rfl,fun W' hW'=>by go_simp⟩)
    (by simp only [Act.put,sa1,sa2,sa3]; rfl) (by exact Or.inl ⟨by rfl,fun W' hW'=>by go_simp⟩)
    (by simp only [Act.put,sa1,sa2,sa3]; rfl) (by exact Or.inl ⟨by rfl,fun W' hW'=>by go_simp⟩)
    (by simp only [Act.put,sa1,sa2,sa3]; rfl) (by exact Or.inl ⟨by rfl,fun W' hW'=>by have h9:=hW'.cell f3 (uh HFN); go_simp⟩)
    (Kept.refl [] wr).drew
    ⟨fun w' h=>h.mono (by simp),fun u6 w' h=>h.2.mono (by simp),fun u6 u16 w' h=>h.2.2.mono (by simp),fun u6 u16 u17 w' h=>h.2.2⟩
    (by
     intro w' k K hK
     refine xa0e rfl Tryz.call43 [.slice fa f.bs.length fc] rfl (xa2c _ f.bs w' ((uh HRD).kept k (by simp))) ?_
     rintro e w2 ⟨rfl,k2,h2⟩
     exact ⟨_,rfl,hK _ _ ⟨⟨_,rfl,k.size,h2⟩,k.trans k2 (by simp)⟩⟩)
    (by
     rintro u6 w' ⟨⟨g,rfl,hg,hh⟩,k⟩ K hK
     simp only [Act.put,sa1,sa2,sa3] at hK ⊢
     unfold Oper.wp execOp
     go_simp
     exact hK _ _ ⟨⟨_,rfl,hg,((Kept.refl [] w').alloc _).heap hh (by simp)⟩,⟨_,rfl,heap_alloc_new _ _⟩,k.alloc _⟩)
    (by
     rintro u6 u16 w' ⟨⟨g,rfl,hg,hh⟩,⟨H,rfl,hH⟩,k⟩ K hK
     have hO:=(uh HOW).keptF k (by simp)
     obtain ⟨g',cap',w1',hrun,h3,h4,h5⟩:=pushFl w' w1.heap.size (.slice va vl vc) ts (absF f,.slice (some ⟨g,0,none⟩) f.bs.length f.bs.length) H hO hH ⟨xa3g hh (by have:=uh HBL; show f.bs.length≤_; omega) (by have:=uh HBS; omega),uh HBY,by have:=uh HBL; show f.bs.length≤_; omega⟩ (by
      intro a ha x hx hy
      simp only [blk,List.mem_singleton] at hy
      subst hy
      have:=((uh HOW).ge x (by simp only [flB,List.mem_append,List.mem_flatMap]; exact .inr ⟨a,ha,hx⟩)).2
      omega) (by have:=uh HTL; have:=uh HLB2; omega) (Nat.le_trans (uh HBS) k.size)
     exact xa8d rfl rfl rfl rfl hrun (hK _ _ ⟨⟨_,_,rfl⟩,h3,(k.mono (by simp)).grown h4 (by intro x hx; left; simp [hx])⟩))
    (by rintro u6 w' ⟨⟨g,rfl,hg,hh⟩,k⟩; exact Or.inl ⟨by rfl,fun W' hW'=>by go_simp⟩)
    (by rintro u6 u16 u17 w' ⟨⟨g,cap,rfl⟩,h1,k⟩; exact Or.inl ⟨by rfl,fun W' hW'=>by go_simp⟩)
    ?_
   rintro u6 u16 u17 w5 ⟨⟨g5,cap5,rfl⟩,h5,k5⟩
   simp only [Act.put,sa1,sa2,sa3]
   have HOW5:=hide h5
   have HK5:=hide ((uh HK).trans k5 (by intro x hx; right; simp only [Option.mem_toList] at hx; exact ((uh HOW).own.lt x hx).1))
   have HNO5:=hide (k5.owns (uh HNO) (by
    intro x hx hm
    simp only [Option.mem_toList] at hm
    obtain ⟨cs1,hc1⟩:=xa0b (uh HNO) (xa1b hx)
    obtain ⟨cs2,hc2⟩:=xa0b (uh HOW).own (xa1b hm)
    exact xa0d hc1 hc2 (by decide) rfl))
   clear h5 k5 f1 f2 f3
   go_wp2_with fail
   refine ⟨⟨i + 1,_,by omega,by have:=uh HLB2; go_num,HOW5,hide ?_,HK5,HNO5⟩,?_⟩
   ·rw [uh HT,List.map_append,uh HTS]
    rfl
   ·have:=uh HLB2
    simp [intOf]; omega
  ·have hlt':¬ (i:Int) < SA.length:=by omega
   have hie:i = SA.length:=by omega
   subst hie
   rw [List.take_length] at HTS
   go_wp2_with fail
   go_ret
   exact ⟨_,rfl,ts,uh HOW,uh HTS,uh HK⟩
theorem plan_D (d nb bb:Nat) (B:List Nat) (σ:DSt) (lv:Value) (fl:List (Int × Int)) (cr:Int) (w:World) (h:DK w d B nb bb σ) (hfl:RdC 2 w lv (fl.map faC)) (hfd:∀ x∈zblk lv (fl.map faC),x∉B) (hfo:∀ x∈fl,OkFa x) (hll:fl.length≤1048576) :
  Calls Tryz.prog 27 #[.pointer (some ⟨d,0,none⟩),lv,.int .i64 cr] w fun e w'=>∃ B',e = .returned (.tuple #[])∧DK w' d B' (nb + fl.length) bb (stPlan σ fl cr)∧Ev w w' B B':=by
 obtain ⟨sec,cr0,op,off,ft,A⟩:=σ
 obtain ⟨⟨m,u,fv,fs,h1,rfl,hA⟩,h2,h3,h4,h5,h6,h7⟩:=h
 dsimp only at *
 subst hA
 refine Calls.mono (xb5q d sec m nb lv fl cr w u fv cr0 op off ft fs h1 hfl (fun hx=>hfd d hx (by simp [dkB])) hfo hll) ?_
 rintro e w' ⟨M,rfl,hM,hD,hK⟩
 refine ⟨_,rfl,⟨⟨m,u,_,fs,hD,rfl,rfl⟩,h2,⟨by simp [stPlan],by simp only [stPlan]; omega⟩,by simp only [stPlan]; omega,h5,h6,h7⟩,hK.mono (by intro x hx; simp at hx; simp [dkB,hx]),?_⟩
 intro x hx
 simp only [dkB,mblk,List.mem_cons,List.mem_append,List.not_mem_nil,or_false] at hx ⊢
 rcases hx with h | h | (h | h) | h
 ·exact .inl (.inl h)
 ·exact .inl (.inr (.inl h))
 ·exact .inl (.inr (.inr (.inl (.inl h))))
 ·exact .inr (by omega)
 ·exact .inl (.inr (.inr (.inr h)))
theorem xa9b (d nb bb:Nat) (B:List Nat) (σ:DSt) (w:World) (h:DK w d B nb bb σ) (hn:nb≤1000000000) (hb:bb≤140737488350000) :
  Calls Tryz.prog 30 #[.pointer (some ⟨d,0,none⟩)] w fun e w'=>∃ v ts,e = .returned v∧OwnFl w.heap.size w' v ts∧ts.map Prod.fst = srtA σ.A∧Kept [] w w':=by
 obtain ⟨sec,cr0,op,off,ft,A⟩:=σ
 obtain ⟨⟨m,u,fv,fs,h1,rfl,hA⟩,h2,h3,h4,h5,h6,h7⟩:=h
 dsimp only at *
 subst hA
 exact xb2y d sec m nb w u fv cr0 op off ft fs h1 h2 hn (by rw [List.length_map] at h4; omega) (fun f hf=>Nat.le_trans (h5 (absF f) (List.mem_map.2 ⟨f,hf,rfl⟩)) hb) (fun f hf=>(xa4d (h7 (absF f) (List.mem_map.2 ⟨f,hf,rfl⟩))).2)
theorem from_D (sec:Nat) (v:Value) (l:List IFile) (bb:Nat) (w:World) (h1:1≤sec) (h2:sec≤4096) (h:RdC 4 w v (l.map ifC)) (ho:∀ f∈l,OkIf w f) (hl:l.length≤1048576) (hb:∀ f∈l,f.bs.length≤bb) (hf:formedB l = true) :
  Calls Tryz.prog 13 #[.int .i64 sec,v] w fun e w'=>∃ d B,e = .returned (.tuple #[.pointer (some ⟨d,0,none⟩),.int .i64 0])∧DK w' d B l.length bb ⟨sec,0,0,false,fun _=>none,l.map toDF⟩∧Kept [] w w'∧∀ x∈B,w.heap.size≤x:=by
 refine Calls.mono (xb7r sec v l w h1 h2 h ho hl hf) ?_
 rintro e w' ⟨d,m,u,gs,rfl,hD,hG,hK,hB⟩
 have hF:=(xa0v l).1 hf
 refine ⟨d,_,rfl,⟨⟨m,u,_,gs,hD,rfl,hG.symm⟩,xa7t hF,⟨by simp,by simp⟩,by simp,?_,⟨h1,h2⟩,?_⟩,hK,hB⟩
 ·intro f hf2
  obtain ⟨a,ha,rfl⟩:=List.mem_map.1 hf2
  exact hb a ha
 ·intro f hf2
  obtain ⟨a,ha,rfl⟩:=List.mem_map.1 hf2
  obtain ⟨i,hi,rfl⟩:=List.getElem_of_mem ha
  exact (hF i hi).1
end
section
open Go Go.RowKit Go.BigFrame
section
variable {P:Program} {Q:Exit→Act→World→Prop}
end
end
section
open Go.RowKit Go.BigFrame Go.Maps Go.Sort
theorem xb4f:∀ (ts:List IFile) (i:Nat) (h:i < ts.length) (j:Nat) (v:Value),(ifC ts[i])[j]? = some v→(ts.flatMap ifC)[i * 4 + j]? = some v
 | t :: r,0,_,j,v,hv=>by
  have hj:=(List.getElem?_eq_some_iff.1 hv).1
  rw [List.flatMap_cons,List.getElem?_append_left (by simpa using hj)]
  simpa using hv
 | t :: r,i + 1,h,j,v,hv=>by
  have h':i < r.length:=by simpa using h
  have h1:=xb4f r i h' j v (by simpa using hv)
  rw [List.flatMap_cons,List.getElem?_append_right (by simp [ifC]; omega)]
  rw [show (i + 1) * 4 + j - (ifC t).length = i * 4 + j by simp [ifC]; omega]
  exact h1
structure OwnI (B:Nat) (w:World) (v:Value) (ts:List IFile):Prop where
 own:w.ownsRow B 74 4 v ts.length (ts.flatMap ifC)
 el:∀ t∈ts,w.ownsRow B 5 1 t.v t.bs.length (t.bs.map u8)∧(∀ x∈t.bs,x < 256)∧t.bs.length≤140737488355328
 ap:ts.Pairwise fun a b=>∀ x∈blk a.v,x∉blk b.v
theorem OwnI.nil (B:Nat) (w:World):OwnI B w (.slice none 0 0) []:=⟨World.ownsRow_nil _ _ _ _,by simp,List.Pairwise.nil⟩
theorem OwnI.rd {B:Nat} {w:World} {v:Value} {ts:List IFile} (h:OwnI B w v ts):RdC 4 w v (ts.map ifC)∧∀ t∈ts,Rd w t.v t.bs:=by
 refine ⟨?_,fun t ht=>xa2u (h.el t ht).1 (h.el t ht).2.1 (h.el t ht).2.2⟩
 rcases h.own.2 with ⟨rfl,h0⟩ | ⟨g,cap,cur,rfl,_,hg,hc,hm',hs,ht⟩
 ·have:ts = []:=List.eq_nil_of_length_eq_zero h0
  subst this
  exact RdC.nil 4 w
 ·refine ⟨some ⟨g,0,none⟩,ts.length,cap,rfl,by simp,hc,by unfold maxLen at hm'; omega,fun _=>⟨g,0,rfl,fun i hi j u hu=>?_⟩⟩
  have hi':i < ts.length:=by simpa using hi
  rw [List.getElem_map] at hu
  have h9:=h.own.cells (g:=g) rfl (i * 4 + j) u (xb4f ts i hi' j u hu)
  rw [Addr.add_lit,Nat.zero_add] at h9
  rw [Nat.zero_add]
  exact h9
def iK (f:IFile):ByteArray × List Nat × Int × Bool:=(f.nm,f.bs,f.sy,f.nd)

theorem xa9s {l l':List IFile} (h:l'.map iK = l.map iK):formedB l' = formedB l∧l'.map toDF = l.map toDF∧l'.length = l.length:=by
 have hl:l'.length = l.length:=by have:=congrArg List.length h; simpa using this
 have hi:∀ i (h1:i < l.length) (h2:i < l'.length),iK l'[i] = iK l[i]:=by
  intro i h1 h2
  have:=congrArg (fun x=>x[i]?) h
  simpa [List.getElem?_eq_getElem h1,List.getElem?_eq_getElem h2] using this
 refine ⟨?_,?_,hl⟩
 ·rw [Bool.eq_iff_iff,xa0v,xa0v]
  have key:∀ (a b:List IFile),a.length = b.length→(∀ i (h1:i < b.length) (h2:i < a.length),iK a[i] = iK b[i])→FormedL b→FormedL a:=by
   intro a b hab hk hf i hia
   have hib:i < b.length:=by omega
   have e:=hk i hib hia
   simp only [iK,Prod.mk.injEq] at e
   obtain ⟨f1,f2,f3,f4⟩:=hf i hib
   refine ⟨by rw [e.1]; exact f1,by rw [e.2.2.1]; exact f2,by rw [e.2.2.1,e.2.1]; exact f3,fun hp=>?_⟩
   have e2:=hk (i - 1) (by omega) (by omega)
   simp only [iK,Prod.mk.injEq] at e2
   rw [e.1,e2.1]
   exact f4 hp
  exact ⟨key l l' hl.symm (fun i h1 h2=>(hi i h2 h1).symm),key l' l hl hi⟩
 ·have e:∀ f:IFile,toDF f = (fun (x:ByteArray × List Nat × Int × Bool)=>(⟨x.1,x.2.1,x.2.2.1.toNat,x.2.2.2⟩:DF)) (iK f):=fun f=>rfl
  have:∀ a:List IFile,a.map toDF = (a.map iK).map (fun (x:ByteArray × List Nat × Int × Bool)=>(⟨x.1,x.2.1,x.2.2.1.toNat,x.2.2.2⟩:DF)):=by
   intro a
   rw [List.map_map]
   rfl
  rw [this,this,h]
theorem OwnI.ok {B:Nat} {w:World} {v:Value} {ts l:List IFile} (h:OwnI B w v ts) (hk:ts.map iK = l.map iK) (ho:∀ f∈l,f.nm.size≤1048576∧Rng f.sy):∀ f∈ts,OkIf w f:=by
 intro f hf
 have h1:iK f∈l.map iK:=by rw [← hk]; exact List.mem_map.2 ⟨f,hf,rfl⟩
 obtain ⟨a,ha,hae⟩:=List.mem_map.1 h1
 simp only [iK,Prod.mk.injEq] at hae
 exact ⟨h.rd.2 f hf,by rw [← hae.1]; exact (ho a ha).1,by rw [← hae.2.2.1]; exact (ho a ha).2⟩
def FrR (sec:Int) (l:List IFile):Nat:=if 1≤sec∧sec≤4096 then (if formedB l then 0 else 3) else 1
theorem xb4a (sec:Int) (v:Value) (l ts:List IFile) (B bb:Nat) (w:World) (h:OwnI B w v ts) (hk:ts.map iK = l.map iK) (ho:∀ f∈l,f.nm.size≤1048576∧Rng f.sy) (hl:l.length≤1048576) (hb:∀ f∈l,f.bs.length≤bb) :
  Calls Tryz.prog 13 #[.int .i64 sec,v] w fun e w'=>∃ p,e = .returned (.tuple #[p,.int .i64 (FrR sec l:Nat)])∧Kept [] w w'∧(FrR sec l≠0→p = .pointer none)∧(FrR sec l = 0→∃ d D,p = .pointer (some ⟨d,0,none⟩)∧DK w' d D l.length bb ⟨sec.toNat,0,0,false,fun _=>none,l.map toDF⟩∧∀ x∈D,w.heap.size≤x):=by
 obtain ⟨k1,k2,k3⟩:=xa9s hk
 have hok:=h.ok hk ho
 unfold FrR
 by_cases hs:1≤sec∧sec≤4096
 ·rw [if_pos hs]
  cases hf:formedB l
  ·refine Calls.mono (xb3d sec v ts w hs.1 hs.2 h.rd.1 hok (by omega) (by rw [k1]; exact hf)) ?_
   rintro e w' ⟨rfl,kk⟩
   exact ⟨_,rfl,kk,fun _=>rfl,fun h9=>by simp at h9⟩
  ·have hs2:((sec.toNat:Nat):Int) = sec:=by omega
   have hc:=from_D sec.toNat v ts bb w (by omega) (by omega) h.rd.1 hok (by omega) (by
    intro f hf2
    have h1:iK f∈l.map iK:=by rw [← hk]; exact List.mem_map.2 ⟨f,hf2,rfl⟩
    obtain ⟨a,ha,hae⟩:=List.mem_map.1 h1
    simp only [iK,Prod.mk.injEq] at hae
    rw [← hae.2.1]
    exact hb a ha) (by rw [k1]; exact hf)
   rw [hs2] at hc
   refine Calls.mono hc ?_
   rintro e w' ⟨d,D,rfl,hd,kk,hn⟩
   rw [k2,k3] at hd
   exact ⟨_,rfl,kk,fun h9=>absurd rfl h9,fun _=>⟨d,D,rfl,hd,hn⟩⟩
 ·rw [if_neg hs]
  refine Calls.mono (xb6m sec v w (by omega)) ?_
  rintro e w' ⟨rfl,rfl⟩
  exact ⟨_,rfl,Kept.refl _ _,fun _=>rfl,fun h9=>by simp at h9⟩
theorem RdFl.kept {L:List Nat} {w w':World} {v:Value} {ts:List (DF × Value)} (h:RdFl w v ts) (k:Kept L w w') (hn:∀ x∈flB v ts,x∉L):RdFl w' v ts :=
 ⟨h.1.kept k (fun x hx=>hn x (by simp [flB,hx])),fun t ht=>(h.2 t ht).kept k (fun x hx=>hn x (by simp only [flB,List.mem_append,List.mem_flatMap]; exact .inr ⟨t,ht,hx⟩))⟩
theorem RdFl.old {w w':World} {v:Value} {ts:List (DF × Value)} (h:RdFl w v ts) (k:Kept [] w w'):RdFl w' v ts:=h.kept k (by simp)
theorem OwnFl.shapeL {B:Nat} {w:World} {v:Value} {ts:List (DF × Value)} (h:OwnFl B w v ts):∃ a c,v = .slice a ts.length c∧(0 < ts.length→∃ g,a = some ⟨g,0,none⟩):=by
 rcases h.own.2 with ⟨rfl,h0⟩ | ⟨g,cap,cur,rfl,_⟩
 ·exact ⟨none,0,by rw [h0],fun h9=>by omega⟩
 ·exact ⟨_,cap,rfl,fun _=>⟨g,rfl⟩⟩


end
section
open Go.RowKit
def strOfD (p:List Nat):ByteArray:=⟨(p.map UInt8.ofNat).toArray⟩
theorem xa7i (v:Value) (p:List Nat) (w:World) (h:Rd w v p) (hu5:Tryz.prog.underlying 5 = some (.int .u8)) (hu9:Tryz.prog.underlying 9 = some .string) :
  (convert 72 9 v).run Tryz.prog w = .ok (.string (strOfD p)) w:=by
 obtain ⟨ao,len,cap,rfl,rfl,h2,h3,h4,h5,h6⟩:=h
 have hl:p.length = (p.map UInt8.ofNat).length:=by simp
 cases ao with
 | none =>
  have hz:=h4 rfl
  have hp0:p = []:=List.eq_nil_of_length_eq_zero (by omega)
  subst hp0
  rw [run_convert_bytes_string w 72 9 5 none _ cap Tryz.underlying72 hu5 hu9]
  simp [Conv.bytesToString,strOfD]
  rfl
 | some a =>
  rw [hl]
  refine run_convert_bytes_back w 72 9 5 a cap (p.map UInt8.ofNat) Tryz.underlying72 hu5 hu9 (fun j hj=>?_)
  simp at hj
  obtain ⟨b,off,he,hc⟩:=h6 (by omega)
  cases he
  have:=hc j hj
  rw [Addr.add_mid,this]
  have hb:=h5 (p[j]) (List.getElem_mem hj)
  simp [u8,List.getD_eq_getElem?_getD,List.getElem?_eq_getElem hj,UInt8.toNat_ofNat]
  omega
end


section
open Go.RowKit Go.BigFrame Go.Maps Go.Sort

end
section
open Go.RowKit

end
section
open Go.RowKit Go.BigFrame Go.Maps Go.Sort





end
section
open Go Go.RowKit Go.BigFrame
section
variable {P:Program} {Q:Exit→Act→World→Prop}
end
end
section
open Go.RowKit Go.BigFrame Go.Maps Go.Sort







end
section
open Go Go.RowKit Go.BigFrame
section
variable {P:Program} {Q:Exit→Act→World→Prop}
end
end
section
open Go.RowKit Go.BigFrame Go.Maps Go.Sort

end
section
open Go Go.RowKit Go.BigFrame
section
variable {P:Program} {Q:Exit→Act→World→Prop}
end
end
section
open Go.RowKit Go.BigFrame Go.Maps Go.Sort


end
section
open Go.RowKit Go.BigFrame

end
section
open Go.RowKit Go.BigFrame Go.Maps Go.Sort



end
section
open Go Go.RowKit Go.BigFrame
section
variable {P:Program} {Q:Exit→Act→World→Prop}
end
end
section
open Go.RowKit Go.BigFrame Go.Maps Go.Sort

end
section
open Go Go.RowKit Go.BigFrame
section
variable {P:Program} {Q:Exit→Act→World→Prop}
end
end
section
open Go.RowKit Go.BigFrame Go.Maps Go.Sort

def E3 (e:Nat):Prop:=e = 0∨e = 7∨e = 12
theorem opE_3 (ft:Int→Option Int) (cr op:Int):E3 (opE ft cr op 0):=by
 unfold opE E3
 (repeat' split) <;> simp_all
def nmS (σ:DSt):List ByteArray:=σ.A.map DF.nm
theorem xb1a (A:List DF) (s:ByteArray):(findA A s.data.toList).isSome = true↔s∈A.map DF.nm:=by
 unfold findA
 rw [List.find?_isSome,List.mem_map]
 constructor
 ·rintro ⟨f,hf,h⟩
  exact ⟨f,hf,ba_ext (by simpa using h)⟩
 ·rintro ⟨f,hf,rfl⟩
  exact ⟨f,hf,by simp⟩
theorem sync_3 {σ:DSt} {s:ByteArray} (h:s∈nmS σ):E3 (stSync σ s).1:=by
 unfold stSync
 split
 ·exact Or.inr (Or.inr rfl)
 ·rw [if_pos ((xb1a _ _).2 h)]
  exact opE_3 _ _ _
theorem xa8y {σ:DSt} {s:ByteArray} (p:List Nat) (h:s∈nmS σ):E3 (stAppend σ s p).1:=by
 unfold stAppend
 split
 ·exact Or.inr (Or.inr rfl)
 ·rw [if_pos ((xb1a _ _).2 h)]
  exact opE_3 _ _ _
theorem xb8y (σ:DSt):E3 (stNames σ).1:=by
 unfold stNames
 split
 ·exact Or.inr (Or.inr rfl)
 ·exact opE_3 _ _ _
theorem xb6y {σ:DSt} {s:ByteArray} (hs:isNm s = true) (h:s∉nmS σ):E3 (stCreate σ s).1:=by
 unfold stCreate
 split
 ·exact Or.inr (Or.inr rfl)
 ·have:ownA σ.A s = 0:=by
   unfold ownA
   rw [if_pos hs]
   cases hq:(findA σ.A s.data.toList).isSome
   ·rfl
   ·exact absurd ((xb1a _ _).1 hq) h
  rw [this]
  exact opE_3 _ _ _
theorem xa2w (σ:DSt) (s:ByteArray):nmS (stSync σ s).2 = nmS σ:=by
 unfold stSync nmS
 (repeat' split) <;> first | rfl | (exact upA_nm (fun x=>rfl))
theorem xa2k (σ:DSt) (s:ByteArray) (p:List Nat):nmS (stAppend σ s p).2 = nmS σ:=by
 unfold stAppend nmS
 (repeat' split) <;> first | rfl | (exact upA_nm (fun x=>rfl))
theorem xb6n (σ:DSt):nmS (stNames σ).2 = nmS σ:=by
 unfold stNames nmS
 (repeat' split) <;> first | rfl | (show (ndA σ.A).map DF.nm = _; unfold ndA; rw [List.map_map]; rfl)
theorem xa4c {σ:DSt} {s:ByteArray} (h:(stCreate σ s).1 = 0):nmS (stCreate σ s).2 = nmS σ++[s]:=by
 unfold stCreate at h ⊢
 split
 ·rename_i h1
  rw [if_pos h1] at h
  cases h
 ·rename_i h1
  rw [if_neg h1] at h
  have h2:opE σ.ft σ.cr σ.op (ownA σ.A s) = 0:=h
  have h3:ownA σ.A s = 0:=by
   unfold opE at h2
   by_cases h4:ownA σ.A s = 0
   ·exact h4
   ·split at h2
    ·cases h2
    ·first | exact h2 | (rw [if_pos h4] at h2; exact h2)
  show (if ownA σ.A s = 0∧opE σ.ft σ.cr σ.op (ownA σ.A s)≠7 then σ.A++[⟨s,[],0,false⟩] else σ.A).map DF.nm = _
  rw [if_pos ⟨h3,by rw [h2]; omega⟩,List.map_append]
  rfl
theorem thn_3 {r:Nat × DSt} {f:DSt→Nat × DSt} (h:E3 r.1) (hf:r.1 = 0→E3 (f r.2).1):E3 (thn r f).1:=by
 unfold thn
 split
 ·rename_i h0; exact hf h0
 ·exact h
theorem thn_ok {r:Nat × DSt} {f:DSt→Nat × DSt} (h:(thn r f).1 = 0):r.1 = 0∧(f r.2).1 = 0∧(thn r f).2 = (f r.2).2:=by
 unfold thn at h ⊢
 split
 ·rename_i h0; rw [if_pos h0] at h; exact ⟨h0,h,rfl⟩
 ·rename_i h0; rw [if_neg h0] at h; exact absurd h h0
theorem xb8s {σ:DSt} {n ep fs:Nat} {wd:Int} (h:nmB n∉nmS σ):E3 (stBegin σ n ep fs wd).1:=by
 unfold stBegin
 refine thn_3 (thn_3 (thn_3 (xb6y (nmB_ok n) h) (fun h1=>?_)) (fun h1=>?_)) (fun _=>xb8y _)
 ·exact xa8y _ (by rw [xa4c h1]; simp)
 ·obtain ⟨h2,h3,h4⟩:=thn_ok h1
  exact sync_3 (by rw [h4,xa2k,xa4c h2]; simp)
theorem xb1b {σ:DSt} {n ep fs:Nat} {wd:Int} (h:(stBegin σ n ep fs wd).1 = 0):nmS (stBegin σ n ep fs wd).2 = nmS σ++[nmB n]:=by
 unfold stBegin at h ⊢
 obtain ⟨h1,h2,h3⟩:=thn_ok h
 obtain ⟨h4,h5,h6⟩:=thn_ok h1
 obtain ⟨h7,h8,h9⟩:=thn_ok h4
 rw [h3,xb6n,h6,xa2w,h9,xa2k,xa4c h7]
def LI (σ:DSt) (s:LSt):Prop:=nmB s.num∈nmS σ∧∀ u,u < 18446744073709551616→nmB u∈nmS σ→u≤s.num
def SI (σ:DSt) (s:LSt):Prop:=E3 s.st∧(s.st = 0→LI σ s)
theorem LI.next {σ:DSt} {s:LSt} (h:LI σ s) (hn:s.num + 1 < 18446744073709551616):nmB (s.num + 1)∉nmS σ:=fun hm=>by
 have:=h.2 (s.num + 1) hn hm
 omega
theorem rot_SI {σ:DSt} {s:LSt} (h:LI σ s) (hn:s.num < 18446744073709551616):E3 (lgRot σ s).1∧((lgRot σ s).1 = 0→LI (lgRot σ s).2.1 (lgRot σ s).2.2):=by
 unfold lgRot
 split
 ·exact ⟨sync_3 h.1,fun h0=>by rename_i h1; exact absurd h0 h1⟩
 ·split
  ·exact ⟨Or.inr (Or.inl rfl),fun h0=>by cases h0⟩
  ·rename_i h1 h2
   have hn2:s.num + 1 < 18446744073709551616:=by omega
   have hno:nmB (s.num + 1)∉nmS (stSync σ (nmB s.num)).2:=by rw [xa2w]; exact h.next hn2
   split
   ·exact ⟨xb8s hno,fun h0=>by rename_i h3; exact absurd h0 h3⟩
   ·rename_i h3
    refine ⟨Or.inl rfl,fun _=>?_⟩
    have hb:=xb1b (σ:=(stSync σ (nmB s.num)).2) (n:=s.num + 1) (ep:=s.ep) (fs:=s.nx) (wd:=s.wd) (by simpa using h3)
    rw [xa2w] at hb
    refine ⟨by show nmB (s.num + 1)∈_; rw [hb]; simp,fun u hu hm=>?_⟩
    show u≤s.num + 1
    have hm2:nmB u∈nmS (stBegin (stSync σ (nmB s.num)).2 (s.num + 1) s.ep s.nx s.wd).2:=hm
    rw [hb] at hm2
    rcases List.mem_append.1 hm2 with h9 | h9
    ·have:=h.2 u hu h9; omega
    ·have h8:nmB u = nmB (s.num + 1):=by simpa using h9
     by_cases h7:u = s.num + 1
     ·omega
     ·exact absurd h8 (nmB_ne hu hn2 h7)
theorem lay_SI {σ:DSt} {s:LSt} (p:List Nat) (h:LI σ s):E3 (lgLay σ s p).1∧((lgLay σ s p).1 = 0→LI (lgLay σ s p).2.1 (lgLay σ s p).2.2):=by
 unfold lgLay
 refine ⟨xa8y _ h.1,fun h0=>?_⟩
 have h1:(stAppend σ (nmB s.num) p).1 = 0:=h0
 show LI (stAppend σ (nmB s.num) p).2 (if _ then _ else _)
 rw [if_pos h1]
 exact ⟨by show nmB s.num∈_; rw [xa2k]; exact h.1,fun u hu hm=>by rw [xa2k] at hm; exact h.2 u hu hm⟩
theorem xb6v {σ:DSt} {s:LSt} (p:List Nat) (h:LI σ s) (hn:s.num < 18446744073709551616):E3 (lgWrite σ s p).1∧((lgWrite σ s p).1 = 0→LI (lgWrite σ s p).2.1 (lgWrite σ s p).2.2):=by
 unfold lgWrite
 split
 ·split
  ·exact ⟨(rot_SI h hn).1,fun h0=>by rename_i h1; exact absurd h0 h1⟩
  ·rename_i h1
   exact lay_SI p ((rot_SI h hn).2 (by simpa using h1))
 ·exact lay_SI p h
theorem xa4m {s:LSt} (h:lgFail s = 0):s.st = 0:=by
 unfold lgFail at h
 split at h
 ·exact h
 ·cases h
theorem SI.append {σ:DSt} {s:LSt} (es:List En) (h:SI σ s) (hn:s.num < 18446744073709551616):SI (lgAppend σ s es).2.1 (lgAppend σ s es).2.2:=by
 unfold lgAppend
 split
 ·exact h
 ·split
  ·exact h
  ·rename_i h1 h2
   have h3:s.st = 0:=xa4m (by simpa using h2)
   have h4:=xb6v (sbB s.nx es) (h.2 h3) hn
   exact ⟨h4.1,fun h0=>h4.2 h0⟩
theorem SI.sync {σ:DSt} {s:LSt} (h:SI σ s):SI (lgSync σ s).2.1 (lgSync σ s).2.2:=by
 unfold lgSync
 split
 ·exact h
 ·rename_i h2
  have h3:s.st = 0:=xa4m (by simpa using h2)
  have h4:=h.2 h3
  exact ⟨sync_3 h4.1,fun _=>⟨by show nmB s.num∈nmS (stSync σ (nmB s.num)).2; rw [xa2w]; exact h4.1,fun u hu hm=>by
   have hm2:nmB u∈nmS (stSync σ (nmB s.num)).2:=hm
   rw [xa2w] at hm2
   exact h4.2 u hu hm2⟩⟩
theorem xb0x {σ:DSt} {s:LSt} (h:s.st≠0):lgSync σ s = (lgFail s,σ,s):=by
 unfold lgSync
 rw [if_pos (fun h0=>h (xa4m h0))]
theorem xa5r {σ:DSt} {s:LSt} (es:List En) (h:s.st≠0):lgAppend σ s es = (if chkB s.nx es≠0 then chkB s.nx es else lgFail s,σ,s):=by
 unfold lgAppend
 split
 ·rfl
 ·rw [if_pos (fun h0=>h (xa4m h0))]
theorem chkE_3 (e:En):chkE e = 0∨chkE e = 2∨chkE e = 3:=by unfold chkE; (repeat' split) <;> simp
theorem xb7l {a b:Nat} (ha:a = 0∨a = 2∨a = 3) (hb:b = 0∨b = 2∨b = 3):leastE a b = 0∨leastE a b = 2∨leastE a b = 3:=by unfold leastE; split <;> assumption
theorem chkB_3 (f:Nat) (es:List En):chkB f es = 0∨chkB f es = 2∨chkB f es = 3:=by
 unfold chkB
 have h0:cntE f es.length = 0∨cntE f es.length = 2∨cntE f es.length = 3:=by unfold cntE; (repeat' split) <;> simp
 generalize cntE f es.length = a at h0 ⊢
 induction es generalizing a with
 | nil=>exact h0
 | cons e r ih=>exact ih _ (xb7l h0 (chkE_3 e))
def phF (f:DF):Nat:=f.bs.length + if f.sy = f.bs.length then 0 else 4096
def phi (A:List DF):Nat:=(A.map phF).sum
theorem xb5u (A:List DF):totA A≤phi A:=by
 unfold totA phi
 induction A with
 | nil=>simp
 | cons f r ih =>
  simp only [List.map_cons,List.sum_cons]
  have:f.bs.length≤phF f:=by unfold phF; omega
  omega

theorem xb1p {σ:DSt} {wd:Int} {f g:FSt} {s:List UInt8} (h:stepF σ wd f s = some g):(nbE (natL s)≠0∧g.last = f.last)∨(nbE (natL s) = 0∧g.last = nbU (natL s)):=by
 unfold stepF at h
 split at h
 ·rename_i h1; cases h; exact Or.inl ⟨h1,rfl⟩
 ·rename_i h1
  have h1':nbE (natL s) = 0:=by simpa using h1
  split at h
  ·cases h
  ·split at h
   ·cases h; exact Or.inr ⟨h1',rfl⟩
   ·split at h
    ·cases h; exact Or.inr ⟨h1',rfl⟩
    ·cases h
theorem xa2y {σ:DSt} {wd:Int}:∀ {l:List (List UInt8)} {f g:FSt},findF σ wd f l = some g→l.Pairwise (fun a b=>a≤b)→(∀ s∈l,nbE (natL s) = 0→f.last≤nbU (natL s))→f.last≤g.last∧∀ s∈l,nbE (natL s) = 0→nbU (natL s)≤g.last
 | [],f,g,h,_,_=>by unfold findF at h; cases h; exact ⟨Nat.le_refl _,by simp⟩
 | s :: r,f,g,h,hp,hm=>by
  obtain ⟨hp1,hp2⟩:=List.pairwise_cons.1 hp
  cases hs:stepF σ wd f s with
  | none=>unfold findF at h; rw [hs] at h; cases h
  | some q =>
   have h2:findF σ wd q r = some g:=by unfold findF at h; rw [hs] at h; exact h
   rcases xb1p hs with ⟨h3,h4⟩ | ⟨h3,h4⟩
   ·have ih:=xa2y h2 hp2 (fun t ht he=>by rw [h4]; exact hm t (by simp [ht]) he)
    refine ⟨by rw [h4] at ih; exact ih.1,fun t ht he=>?_⟩
    rcases List.mem_cons.1 ht with rfl | ht
    ·exact absurd he h3
    ·exact ih.2 t ht he
   ·have ih:=xa2y h2 hp2 (fun t ht he=>by rw [h4]; exact num_le (hp1 t ht) h3 he)
    have h5:=hm s (by simp) h3
    refine ⟨by have:=ih.1; omega,fun t ht he=>?_⟩
    rcases List.mem_cons.1 ht with rfl | ht
    ·have:=ih.1; omega
    ·exact ih.2 t ht he
theorem xb7w {σ:DSt} {u:Nat} (ho:σ.off = false) (h:nmB u∈nmS σ):(nmB u).data.toList∈nmsOf σ:=by
 unfold nmsOf
 rw [ho]
 have hp:(srtN σ.A).Perm (σ.A.map fun f=>f.nm.data.toList):=List.mergeSort_perm _ _
 show (nmB u).data.toList∈srtN σ.A
 rw [hp.mem_iff,List.mem_map]
 obtain ⟨f,hf,e⟩:=List.mem_map.1 h
 exact ⟨f,hf,by rw [e]⟩
theorem xb8e (u:Nat):natL (nmB u).data.toList = nmL u:=by
 unfold natL nmB strB
 simp only [List.map_map]
 conv=>rhs; rw [← List.map_id (nmL u)]
 apply List.map_congr_left
 intro x hx
 have:=xa3x u x hx
 simp only [Function.comp,id]
 simp
 omega
theorem xb8j {u:Nat} (hu:u < 18446744073709551616):nbE (natL (nmB u).data.toList) = 0∧nbU (natL (nmB u).data.toList) = u:=by
 rw [xb8e]
 have h1:=xb4c hu
 unfold nbE nbU
 rw [h1,if_pos rfl,if_pos rfl]
 exact ⟨rfl,rfl⟩
theorem xa9f:∀ (l:List (List UInt8)) (σ:DSt),nmS (stSyncs σ l).2 = nmS σ
 | [],σ=>rfl
 | s :: r,σ=>by
  unfold stSyncs
  split
  ·exact xa2w _ _
  ·rw [xa9f r]; exact xa2w _ _
theorem xb6e {σ:DSt} {wd lim:Int} {s:LSt} (h:(opD σ wd lim).l = some s):SI (opD σ wd lim).σ s∧s.st = 0:=by
 by_cases hag:argOk wd lim = true
 ·by_cases hoff:σ.off = true
  ·unfold opD at h; rw [hag,if_neg (by simp),if_pos hoff] at h; cases h
  ·have hoff':σ.off = false:=by simpa using hoff
   rw [opD_eq hag hoff'] at h ⊢
   cases hF:findF σ wd fst0 (nmsOf σ) with
   | none=>rw [hF] at h; cases h
   | some f =>
    rw [hF] at h
    simp only [opF2] at h ⊢
    have hL:=xa2y hF (xb0c σ) (fun s _ _=>Nat.zero_le _)
    have hS:=xa9f f.sg σ
    unfold opOf at h ⊢
    split at h
    ·cases h
    ·rename_i h1
     rw [if_neg h1]
     split at h
     ·cases h
     ·rename_i h2
      rw [if_neg h2]
      cases h
      refine ⟨⟨Or.inl rfl,fun _=>?_⟩,rfl⟩
      have hb:=xb1b (σ:=(stSyncs σ f.sg).2) (n:=f.last + 1) (ep:=f.ep + 1) (fs:=f.sz) (wd:=wd) (by simpa using h2)
      rw [hS] at hb
      refine ⟨by show nmB (f.last + 1)∈nmS (stBegin (stSyncs σ f.sg).2 (f.last + 1) (f.ep + 1) f.sz wd).2; rw [hb]; simp,fun u hu hm=>?_⟩
      show u≤f.last + 1
      have hm2:nmB u∈nmS (stBegin (stSyncs σ f.sg).2 (f.last + 1) (f.ep + 1) f.sz wd).2:=hm
      rw [hb] at hm2
      rcases List.mem_append.1 hm2 with h9 | h9
      ·have h8:=xb8j hu
       have h7:=hL.2 _ (xb7w hoff' h9) h8.1
       rw [h8.2] at h7
       omega
      ·by_cases hu1:f.last + 1 < 18446744073709551616
       ·by_cases h7:u = f.last + 1
        ·omega
        ·exact absurd (List.mem_singleton.1 h9) (nmB_ne hu hu1 h7)
       ·omega
 ·unfold opD at h; rw [if_pos (by simpa using hag)] at h; cases h
end
section
open Go.RowKit Go.BigFrame



end
section
open Go.RowKit Go.BigFrame Go.Maps Go.Sort


end
section
open Go Go.RowKit Go.BigFrame
section
variable {P:Program} {Q:Exit→Act→World→Prop}
theorem wp_sc8 {id:Nat} {o0 o1 o2 o3 o4 o5 o6 o7:Oper} {a:Act} {w:World} (hm:P.follows .mixedOrders = true) (hs:Region.noSelect #[o0,o1,o2,o3,o4,o5,o6,o7] = true)
  (f0:Region.free .any #[o0,o1,o2,o3,o4,o5,o6,o7] #[false,false,false,false,false,false,false,false] 0 = true) (r0:(Region.ready .any #[o0,o1,o2,o3,o4,o5,o6,o7] #[false,false,false,false,false,false,false,false]).contains 0 = true)
  (f2:Region.free .any #[o0,o1,o2,o3,o4,o5,o6,o7] #[true,false,false,false,false,false,false,false] 2 = true) (r2:(Region.ready .any #[o0,o1,o2,o3,o4,o5,o6,o7] #[true,false,false,false,false,false,false,false]).contains 2 = true)
  (f3:Region.free .any #[o0,o1,o2,o3,o4,o5,o6,o7] #[true,false,true,false,false,false,false,false] 3 = true) (r3:(Region.ready .any #[o0,o1,o2,o3,o4,o5,o6,o7] #[true,false,true,false,false,false,false,false]).contains 3 = true)
  (q_:Region.ready .any #[o0,o1,o2,o3,o4,o5,o6,o7] #[true,false,true,true,false,false,false,false] = [1,6])
  (q1_:Region.ready .any #[o0,o1,o2,o3,o4,o5,o6,o7] #[true,true,true,true,false,false,false,false] = [4,6])
  (f1_4_5:Region.free .any #[o0,o1,o2,o3,o4,o5,o6,o7] #[true,true,true,true,true,false,false,false] 5 = true) (r1_4_5:(Region.ready .any #[o0,o1,o2,o3,o4,o5,o6,o7] #[true,true,true,true,true,false,false,false]).contains 5 = true)
  (q6_:Region.ready .any #[o0,o1,o2,o3,o4,o5,o6,o7] #[true,false,true,true,false,false,true,false] = [1])
  (q1_4_:Region.ready .any #[o0,o1,o2,o3,o4,o5,o6,o7] #[true,true,true,true,true,true,false,false] = [6])
  (q1_6_:Region.ready .any #[o0,o1,o2,o3,o4,o5,o6,o7] #[true,true,true,true,false,false,true,false] = [4])
  (f1_6_4_5:Region.free .any #[o0,o1,o2,o3,o4,o5,o6,o7] #[true,true,true,true,true,false,true,false] 5 = true) (r1_6_4_5:(Region.ready .any #[o0,o1,o2,o3,o4,o5,o6,o7] #[true,true,true,true,true,false,true,false]).contains 5 = true)
  (q1_4_6_:Region.ready .any #[o0,o1,o2,o3,o4,o5,o6,o7] #[true,true,true,true,true,true,true,false] = [7])
  (q1_4_6_7_:Region.ready .any #[o0,o1,o2,o3,o4,o5,o6,o7] #[true,true,true,true,true,true,true,true] = [])
  (g1:o1.guard = none)    (g4:o4.guard = none)    (g6:o6.guard = none)    (g7:o7.guard = none)
  (ne6_1:∀ d,o6.dst = some d→o1.dst≠some d)
  (ne6_4:∀ d,o6.dst = some d→o4.dst≠some d)
  (ne6_5:∀ d,o6.dst = some d→o5.dst≠some d)
  (v0 v2 v3:Value) (A0 A1 A2:Act)
  (S:World→Prop)
  (I_:World→Prop)
  (I1_:Value→World→Prop)
  (I6_:Value→World→Prop)
  (I1_4_:Value→Value→World→Prop)
  (I1_6_:Value→Value→World→Prop)
  (I1_4_6_:Value→Value→Value→World→Prop)
  (I1_4_6_7_:Value→Value→Value→Value→World→Prop)
  (v5:Value→Value→Value)
  (p0:a.put o0.dst v0 = A0) (hy0:YieldsIf P #[o0,o1,o2,o3,o4,o5,o6,o7] S o0 v0 a)
  (p2:A0.put o2.dst v2 = A1) (hy2:YieldsIf P #[o0,o1,o2,o3,o4,o5,o6,o7] S o2 v2 A0)
  (p3:A1.put o3.dst v3 = A2) (hy3:YieldsIf P #[o0,o1,o2,o3,o4,o5,o6,o7] S o3 v3 A1)
  (i0:I_ w.drew)
  (hIS:(∀ w',I_  w'→S w')∧(∀ (u1:Value) w',I1_ u1 w'→S w')∧(∀ (u6:Value) w',I6_ u6 w'→S w')∧(∀ (u1 u4:Value) w',I1_4_ u1 u4 w'→S w')∧(∀ (u1 u6:Value) w',I1_6_ u1 u6 w'→S w')∧(∀ (u1 u4 u6:Value) w',I1_4_6_ u1 u4 u6 w'→S w')∧(∀ (u1 u4 u6 u7:Value) w',I1_4_6_7_ u1 u4 u6 u7 w'→S w'))
  (s_1:∀ w',I_  w'→∀ K:Act→World→Prop,(∀ (u1:Value) w2,I1_ u1 w2→K (A2.put o1.dst u1) w2)→o1.wp P A2 w' K (NoPanic Q))
  (s_6:∀ w',I_  w'→∀ K:Act→World→Prop,(∀ (u6:Value) w2,I6_ u6 w2→K (A2.put o6.dst u6) w2)→o6.wp P A2 w' K (NoPanic Q))
  (s1_4:∀ (u1:Value) w',I1_ u1 w'→∀ K:Act→World→Prop,(∀ (u4:Value) w2,I1_4_ u1 u4 w2→K ((A2.put o1.dst u1).put o4.dst u4) w2)→o4.wp P (A2.put o1.dst u1) w' K (NoPanic Q))
  (s1_6:∀ (u1:Value) w',I1_ u1 w'→∀ K:Act→World→Prop,(∀ (u6:Value) w2,I1_6_ u1 u6 w2→K ((A2.put o1.dst u1).put o6.dst u6) w2)→o6.wp P (A2.put o1.dst u1) w' K (NoPanic Q))
  (s6_1:∀ (u6:Value) w',I6_ u6 w'→∀ K:Act→World→Prop,(∀ (u1:Value) w2,I1_6_ u1 u6 w2→K ((A2.put o6.dst u6).put o1.dst u1) w2)→o1.wp P (A2.put o6.dst u6) w' K (NoPanic Q))
  (s1_4_6:∀ (u1 u4:Value) w',I1_4_ u1 u4 w'→∀ K:Act→World→Prop,(∀ (u6:Value) w2,I1_4_6_ u1 u4 u6 w2→K ((((A2.put o1.dst u1).put o4.dst u4).put o5.dst (v5 u1 u4)).put o6.dst u6) w2)→o6.wp P (((A2.put o1.dst u1).put o4.dst u4).put o5.dst (v5 u1 u4)) w' K (NoPanic Q))
  (s1_6_4:∀ (u1 u6:Value) w',I1_6_ u1 u6 w'→∀ K:Act→World→Prop,(∀ (u4:Value) w2,I1_4_6_ u1 u4 u6 w2→K (((A2.put o1.dst u1).put o6.dst u6).put o4.dst u4) w2)→o4.wp P ((A2.put o1.dst u1).put o6.dst u6) w' K (NoPanic Q))
  (s1_4_6_7:∀ (u1 u4 u6:Value) w',I1_4_6_ u1 u4 u6 w'→∀ K:Act→World→Prop,(∀ (u7:Value) w2,I1_4_6_7_ u1 u4 u6 u7 w2→K (((((A2.put o1.dst u1).put o4.dst u4).put o5.dst (v5 u1 u4)).put o6.dst u6).put o7.dst u7) w2)→o7.wp P ((((A2.put o1.dst u1).put o4.dst u4).put o5.dst (v5 u1 u4)).put o6.dst u6) w' K (NoPanic Q))
  (y1_4_5:∀ (u1 u4:Value) w',I1_4_ u1 u4 w'→YieldsIf P #[o0,o1,o2,o3,o4,o5,o6,o7] S o5 (v5 u1 u4) ((A2.put o1.dst u1).put o4.dst u4))
  (y1_6_4_5:∀ (u1 u4 u6:Value) w',I1_4_6_ u1 u4 u6 w'→YieldsIf P #[o0,o1,o2,o3,o4,o5,o6,o7] S o5 (v5 u1 u4) (((A2.put o1.dst u1).put o4.dst u4).put o6.dst u6))
  (h:∀ (u1 u4 u6 u7:Value) w',I1_4_6_7_ u1 u4 u6 u7 w'→Q .normal (((((A2.put o1.dst u1).put o4.dst u4).put o5.dst (v5 u1 u4)).put o6.dst u6).put o7.dst u7) w') :
  (Code.region id #[o0,o1,o2,o3,o4,o5,o6,o7] true).wp P Q a w:=by
 subst p0 p2 p3
 obtain ⟨z_,z1_,z6_,z1_4_,z1_6_,z1_4_6_,z1_4_6_7_⟩:=hIS
 refine wp_region_noPanic ?_
 refine wp_region_held_drew (S:=S) hm (z_ _ i0) (fun hH=>?_)
 show wpAnyH P .any #[o0,o1,o2,o3,o4,o5,o6,o7] (NoPanic Q) S 8 #[false,false,false,false,false,false,false,false] a w.drew
 refine wpAnyH_take (i:=0) (oi:=o0) rfl hs f0 r0 (fun _ _ _ h=>h) hy0 hH ?_
 refine wpAnyH_take (i:=2) (oi:=o2) rfl hs f2 r2 (fun _ _ _ h=>h) hy2 hH ?_
 refine wpAnyH_take (i:=3) (oi:=o3) rfl hs f3 r3 (fun _ _ _ h=>h) hy3 hH ?_
 generalize (((a.put o0.dst v0).put o2.dst v2).put o3.dst v3) = B at *
 have wa1:∀ y,Region.wanted o1 y = true:=fun y=>by unfold Region.wanted; rw [g1]
 have wa4:∀ y,Region.wanted o4 y = true:=fun y=>by unfold Region.wanted; rw [g4]
 have wa6:∀ y,Region.wanted o6 y = true:=fun y=>by unfold Region.wanted; rw [g6]
 have wa7:∀ y,Region.wanted o7 y = true:=fun y=>by unfold Region.wanted; rw [g7]
 have t1_4_6_7_:∀ (u1 u4 u6 u7:Value) w',I1_4_6_7_ u1 u4 u6 u7 w'→wpAnyH P .any #[o0,o1,o2,o3,o4,o5,o6,o7] (NoPanic Q) S 0 #[true,true,true,true,true,true,true,true] (((((B.put o1.dst u1).put o4.dst u4).put o5.dst (v5 u1 u4)).put o6.dst u6).put o7.dst u7) w':=by
  intro u1 u4 u6 u7 w0 i0
  exact ⟨q1_4_6_7_,NoPanic.normal (h u1 u4 u6 u7 w0 i0)⟩
 have t1_4_6_:∀ (u1 u4 u6:Value) w',I1_4_6_ u1 u4 u6 w'→wpAnyH P .any #[o0,o1,o2,o3,o4,o5,o6,o7] (NoPanic Q) S 1 #[true,true,true,true,true,true,true,false] ((((B.put o1.dst u1).put o4.dst u4).put o5.dst (v5 u1 u4)).put o6.dst u6) w':=by
  intro u1 u4 u6 w0 i0
  refine wpAnyH_ready (rs:=[7]) q1_4_6_ (by simp) (AllReadyH.cons (o:=o7) rfl (fun K hK=>?_) AllReadyH.nil)
  ·rw [if_pos (wa7 _)]
   refine s1_4_6_7 u1 u4 u6 w0 i0 K (fun u7 w1 i1=>hK.out _ _ (z1_4_6_7_ u1 u4 u6 u7 w1 i1) (fun _=>?_))
   clear hK
   exact t1_4_6_7_ u1 u4 u6 u7 w1 i1
 have t1_6_:∀ (u1 u6:Value) w',I1_6_ u1 u6 w'→wpAnyH P .any #[o0,o1,o2,o3,o4,o5,o6,o7] (NoPanic Q) S 3 #[true,true,true,true,false,false,true,false] ((B.put o1.dst u1).put o6.dst u6) w':=by
  intro u1 u6 w0 i0
  refine wpAnyH_ready (rs:=[4]) q1_6_ (by simp) (AllReadyH.cons (o:=o4) rfl (fun K hK=>?_) AllReadyH.nil)
  ·rw [if_pos (wa4 _)]
   refine s1_6_4 u1 u6 w0 i0 K (fun u4 w1 i1=>hK.out _ _ (z1_4_6_ u1 u4 u6 w1 i1) (fun _=>?_))
   clear hK
   rw [Act.put_comm _ _ _ ne6_4]
   refine wpAnyH_take (i:=5) (oi:=o5) rfl hs f1_6_4_5 r1_6_4_5 (fun _ _ _ h=>h) (y1_6_4_5 u1 u4 u6 w1 i1) (z1_4_6_ u1 u4 u6 w1 i1) ?_
   rw [Act.put_comm _ _ _ ne6_5]
   exact t1_4_6_ u1 u4 u6 w1 i1
 have t1_4_:∀ (u1 u4:Value) w',I1_4_ u1 u4 w'→wpAnyH P .any #[o0,o1,o2,o3,o4,o5,o6,o7] (NoPanic Q) S 2 #[true,true,true,true,true,true,false,false] (((B.put o1.dst u1).put o4.dst u4).put o5.dst (v5 u1 u4)) w':=by
  intro u1 u4 w0 i0
  refine wpAnyH_ready (rs:=[6]) q1_4_ (by simp) (AllReadyH.cons (o:=o6) rfl (fun K hK=>?_) AllReadyH.nil)
  ·rw [if_pos (wa6 _)]
   refine s1_4_6 u1 u4 w0 i0 K (fun u6 w1 i1=>hK.out _ _ (z1_4_6_ u1 u4 u6 w1 i1) (fun _=>?_))
   clear hK
   exact t1_4_6_ u1 u4 u6 w1 i1
 have t6_:∀ (u6:Value) w',I6_ u6 w'→wpAnyH P .any #[o0,o1,o2,o3,o4,o5,o6,o7] (NoPanic Q) S 4 #[true,false,true,true,false,false,true,false] (B.put o6.dst u6) w':=by
  intro u6 w0 i0
  refine wpAnyH_ready (rs:=[1]) q6_ (by simp) (AllReadyH.cons (o:=o1) rfl (fun K hK=>?_) AllReadyH.nil)
  ·rw [if_pos (wa1 _)]
   refine s6_1 u6 w0 i0 K (fun u1 w1 i1=>hK.out _ _ (z1_6_ u1 u6 w1 i1) (fun _=>?_))
   clear hK
   rw [Act.put_comm _ _ _ ne6_1]
   exact t1_6_ u1 u6 w1 i1
 have t1_:∀ (u1:Value) w',I1_ u1 w'→wpAnyH P .any #[o0,o1,o2,o3,o4,o5,o6,o7] (NoPanic Q) S 4 #[true,true,true,true,false,false,false,false] (B.put o1.dst u1) w':=by
  intro u1 w0 i0
  refine wpAnyH_ready (rs:=[4,6]) q1_ (by simp) (AllReadyH.cons (o:=o4) rfl (fun K hK=>?_) (AllReadyH.cons (o:=o6) rfl (fun K hK=>?_) AllReadyH.nil))
  ·rw [if_pos (wa4 _)]
   refine s1_4 u1 w0 i0 K (fun u4 w1 i1=>hK.out _ _ (z1_4_ u1 u4 w1 i1) (fun _=>?_))
   clear hK
   refine wpAnyH_take (i:=5) (oi:=o5) rfl hs f1_4_5 r1_4_5 (fun _ _ _ h=>h) (y1_4_5 u1 u4 w1 i1) (z1_4_ u1 u4 w1 i1) ?_
   exact t1_4_ u1 u4 w1 i1
  ·rw [if_pos (wa6 _)]
   refine s1_6 u1 w0 i0 K (fun u6 w1 i1=>hK.out _ _ (z1_6_ u1 u6 w1 i1) (fun _=>?_))
   clear hK
   exact t1_6_ u1 u6 w1 i1
 have t_:∀ w',I_  w'→wpAnyH P .any #[o0,o1,o2,o3,o4,o5,o6,o7] (NoPanic Q) S 5 #[true,false,true,true,false,false,false,false] B w':=by
  intro w0 i0
  refine wpAnyH_ready (rs:=[1,6]) q_ (by simp) (AllReadyH.cons (o:=o1) rfl (fun K hK=>?_) (AllReadyH.cons (o:=o6) rfl (fun K hK=>?_) AllReadyH.nil))
  ·rw [if_pos (wa1 _)]
   refine s_1  w0 i0 K (fun u1 w1 i1=>hK.out _ _ (z1_ u1 w1 i1) (fun _=>?_))
   clear hK
   exact t1_ u1 w1 i1
  ·rw [if_pos (wa6 _)]
   refine s_6  w0 i0 K (fun u6 w1 i1=>hK.out _ _ (z6_ u6 w1 i1) (fun _=>?_))
   clear hK
   exact t6_ u6 w1 i1
 exact t_ w.drew i0
end
end
section
open Go.RowKit Go.BigFrame Go.Maps Go.Sort
def o9C (t:Bool × Value × List En):List Value:=[.bool t.1,t.2.1]
def RdO9 (w:World) (v:Value) (os:List (Bool × List En)):Prop:=∃ ts:List (Bool × Value × List En),os = ts.map (fun t=>(t.1,t.2.2))∧RdC 2 w v (ts.map o9C)∧∀ t∈ts,RdN w t.2.1 t.2.2∧t.2.2.length≤1048576
def OldO (g:Nat) (w:World) (v:Value) (os:List (Bool × List En)):Prop:=∀ M w',Kept M w w'→(∀ x∈M,g≤x)→RdO9 w' v os
theorem OldO.on {g:Nat} {L:List Nat} {w w':World} {v:Value} {os:List (Bool × List En)} (h:OldO g w v os) (k:Kept L w w') (hL:∀ x∈L,g≤x):OldO g w' v os:=by
 intro M w2 k2 hM
 exact h (L++M) w2 ((k.mono (M:=L++M) (fun x hx=>by simp [hx])).trans (k2.mono (M:=L++M) (fun x hx=>by simp [hx])) (fun x hx=>Or.inl hx)) (fun x hx=>by
  rcases List.mem_append.1 hx with hx | hx
  ·exact hL x hx
  ·exact hM x hx)
structure KS (w0 w:World) (kb:Nat) (X:List Nat) (mv:Value) (ts:List (Nat × Value × List En)) (must:Nat):Prop where
 row:w.heap[kb]? = some (.cells #[mv,.int .i64 (must:Int)] 63 (0,0))
 ow:OwnX X w0 w mv ts
 kx:kb∉X
 kl:kb < w0.heap.size
theorem OwnX.mv {X Y:List Nat} {w0 wo w:World} {v:Value} {ts:List (Nat × Value × List En)} (h:OwnX X w0 wo v ts) (k:Kept X wo w) (hY:∀ b∈Y,b∈X∨wo.heap.size≤b):OwnX Y w0 w v ts :=
 (h.pass k (fun x hx=>Or.inr hx)).turn (n:=wo.heap.size) hY rfl h k
structure ScS where
 σ:DSt
 s:LSt
 may:List (Nat × List En)
 must:Nat
def scStep (c:ScS) (o:Bool × List En):ScS :=
 if o.1 then ⟨(lgSync c.σ c.s).2.1,(lgSync c.σ c.s).2.2,c.may,if (lgSync c.σ c.s).1 = 0 then c.may.length else c.must⟩
 else ⟨(lgAppend c.σ c.s o.2).2.1,(lgAppend c.σ c.s o.2).2.2,if (lgAppend c.σ c.s o.2).1 = 0∨(c.s.st = 0∧(lgAppend c.σ c.s o.2).2.2.st≠0) then c.may++[(c.s.nx,o.2)] else c.may,c.must⟩
def scR (c:ScS) (os:List (Bool × List En)):ScS:=os.foldl scStep c
theorem xb6a (c:ScS) (os:List (Bool × List En)) (i:Nat) (h:i < os.length):scR c (os.take (i + 1)) = scStep (scR c (os.take i)) os[i]:=by
 unfold scR
 rw [List.take_succ_eq_append_getElem h,List.foldl_append]
 rfl



end
section
open Go Go.RowKit Go.BigFrame
section
variable {P:Program} {Q:Exit→Act→World→Prop}
theorem wp_k11 {id:Nat} {o0 o1 o2 o3 o4 o5 o6 o7 o8 o9 o10:Oper} {a:Act} {w:World} (hm:P.follows .mixedOrders = true) (hs:Region.noSelect #[o0,o1,o2,o3,o4,o5,o6,o7,o8,o9,o10] = true)
  (f0:Region.free .any #[o0,o1,o2,o3,o4,o5,o6,o7,o8,o9,o10] #[false,false,false,false,false,false,false,false,false,false,false] 0 = true) (r0:(Region.ready .any #[o0,o1,o2,o3,o4,o5,o6,o7,o8,o9,o10] #[false,false,false,false,false,false,false,false,false,false,false]).contains 0 = true) (e0:o10.after.any (fun e=>Region.binds .any e && e.on == 0) = true)
  (f1:Region.free .any #[o0,o1,o2,o3,o4,o5,o6,o7,o8,o9,o10] #[true,false,false,false,false,false,false,false,false,false,false] 1 = true) (r1:(Region.ready .any #[o0,o1,o2,o3,o4,o5,o6,o7,o8,o9,o10] #[true,false,false,false,false,false,false,false,false,false,false]).contains 1 = true) (e1:o10.after.any (fun e=>Region.binds .any e && e.on == 1) = true)
  (f2:Region.free .any #[o0,o1,o2,o3,o4,o5,o6,o7,o8,o9,o10] #[true,true,false,false,false,false,false,false,false,false,false] 2 = true) (r2:(Region.ready .any #[o0,o1,o2,o3,o4,o5,o6,o7,o8,o9,o10] #[true,true,false,false,false,false,false,false,false,false,false]).contains 2 = true) (e2:o10.after.any (fun e=>Region.binds .any e && e.on == 2) = true)
  (f3:Region.free .any #[o0,o1,o2,o3,o4,o5,o6,o7,o8,o9,o10] #[true,true,true,false,false,false,false,false,false,false,false] 3 = true) (r3:(Region.ready .any #[o0,o1,o2,o3,o4,o5,o6,o7,o8,o9,o10] #[true,true,true,false,false,false,false,false,false,false,false]).contains 3 = true) (e3:o10.after.any (fun e=>Region.binds .any e && e.on == 3) = true)
  (f4:Region.free .any #[o0,o1,o2,o3,o4,o5,o6,o7,o8,o9,o10] #[true,true,true,true,false,false,false,false,false,false,false] 4 = true) (r4:(Region.ready .any #[o0,o1,o2,o3,o4,o5,o6,o7,o8,o9,o10] #[true,true,true,true,false,false,false,false,false,false,false]).contains 4 = true) (e4:o10.after.any (fun e=>Region.binds .any e && e.on == 4) = true)
  (f5:Region.free .any #[o0,o1,o2,o3,o4,o5,o6,o7,o8,o9,o10] #[true,true,true,true,true,false,false,false,false,false,false] 5 = true) (r5:(Region.ready .any #[o0,o1,o2,o3,o4,o5,o6,o7,o8,o9,o10] #[true,true,true,true,true,false,false,false,false,false,false]).contains 5 = true) (e5:o10.after.any (fun e=>Region.binds .any e && e.on == 5) = true)
  (q6:Region.ready .any #[o0,o1,o2,o3,o4,o5,o6,o7,o8,o9,o10] #[true,true,true,true,true,true,false,false,false,false,false] = [6]) (g6:o6.guard = none)
  (q7:Region.ready .any #[o0,o1,o2,o3,o4,o5,o6,o7,o8,o9,o10] #[true,true,true,true,true,true,true,false,false,false,false] = [7]) (g7:o7.guard = none)
  (q8:Region.ready .any #[o0,o1,o2,o3,o4,o5,o6,o7,o8,o9,o10] #[true,true,true,true,true,true,true,true,false,false,false] = [8]) (g8:o8.guard = none)
  (q9:Region.ready .any #[o0,o1,o2,o3,o4,o5,o6,o7,o8,o9,o10] #[true,true,true,true,true,true,true,true,true,false,false] = [9]) (g9:o9.guard = none)
  (q10:Region.ready .any #[o0,o1,o2,o3,o4,o5,o6,o7,o8,o9,o10] #[true,true,true,true,true,true,true,true,true,true,false] = [10]) (g10:o10.guard = none)
  (rr:Region.ready .any #[o0,o1,o2,o3,o4,o5,o6,o7,o8,o9,o10] #[true,true,true,true,true,true,true,true,true,true,true] = [])
  (v0 v1 v2 v3 v4 v5:Value) (A0 A1 A2 A3 A4 A5:Act) (T:World→Prop)
  (I0:World→Prop)
  (I1:Value→World→Prop)
  (I2:Value→Value→World→Prop)
  (I3:Value→Value→Value→World→Prop)
  (I4:Value→Value→Value→Value→World→Prop)
  (IE:Value→Value→Value→Value→World→Prop)
  (p0:a.put o0.dst v0 = A0) (hy0:YieldsIf P #[o0,o1,o2,o3,o4,o5,o6,o7,o8,o9,o10] T o0 v0 a)
  (p1:A0.put o1.dst v1 = A1) (hy1:YieldsIf P #[o0,o1,o2,o3,o4,o5,o6,o7,o8,o9,o10] T o1 v1 A0)
  (p2:A1.put o2.dst v2 = A2) (hy2:YieldsIf P #[o0,o1,o2,o3,o4,o5,o6,o7,o8,o9,o10] T o2 v2 A1)
  (p3:A2.put o3.dst v3 = A3) (hy3:YieldsIf P #[o0,o1,o2,o3,o4,o5,o6,o7,o8,o9,o10] T o3 v3 A2)
  (p4:A3.put o4.dst v4 = A4) (hy4:YieldsIf P #[o0,o1,o2,o3,o4,o5,o6,o7,o8,o9,o10] T o4 v4 A3)
  (p5:A4.put o5.dst v5 = A5) (hy5:YieldsIf P #[o0,o1,o2,o3,o4,o5,o6,o7,o8,o9,o10] T o5 v5 A4)
  (i0:I0 w.drew)
  (hIT:(∀ w',I0  w'→T w')∧(∀ (u0:Value) w',I1 u0 w'→T w')∧(∀ (u0 u1:Value) w',I2 u0 u1 w'→T w')∧(∀ (u0 u1 u2:Value) w',I3 u0 u1 u2 w'→T w')∧(∀ (u0 u1 u2 u3:Value) w',I4 u0 u1 u2 u3 w'→T w'))
  (s0:∀ w',I0  w'→∀ K:Act→World→Prop,(∀ (u0:Value) w2,I1 u0 w2→K (A5.put o6.dst u0) w2)→o6.wp P A5 w' K (NoPanic Q))
  (s1:∀ (u0:Value) w',I1 u0 w'→∀ K:Act→World→Prop,(∀ (u1:Value) w2,I2 u0 u1 w2→K ((A5.put o6.dst u0).put o7.dst u1) w2)→o7.wp P (A5.put o6.dst u0) w' K (NoPanic Q))
  (s2:∀ (u0 u1:Value) w',I2 u0 u1 w'→∀ K:Act→World→Prop,(∀ (u2:Value) w2,I3 u0 u1 u2 w2→K (((A5.put o6.dst u0).put o7.dst u1).put o8.dst u2) w2)→o8.wp P ((A5.put o6.dst u0).put o7.dst u1) w' K (NoPanic Q))
  (s3:∀ (u0 u1 u2:Value) w',I3 u0 u1 u2 w'→∀ K:Act→World→Prop,(∀ (u3:Value) w2,I4 u0 u1 u2 u3 w2→K ((((A5.put o6.dst u0).put o7.dst u1).put o8.dst u2).put o9.dst u3) w2)→o9.wp P (((A5.put o6.dst u0).put o7.dst u1).put o8.dst u2) w' K (NoPanic Q))
  (se:∀ (u0 u1 u2 u3:Value) w',I4 u0 u1 u2 u3 w'→∀ K:Act→World→Prop,(∀ w2,IE u0 u1 u2 u3 w2→K ((((A5.put o6.dst u0).put o7.dst u1).put o8.dst u2).put o9.dst u3) w2)→o10.wp P ((((A5.put o6.dst u0).put o7.dst u1).put o8.dst u2).put o9.dst u3) w' K (NoPanic Q))
  (h:∀ (u0 u1 u2 u3:Value) w',IE u0 u1 u2 u3 w'→Q .normal ((((A5.put o6.dst u0).put o7.dst u1).put o8.dst u2).put o9.dst u3) w') :
  (Code.region id #[o0,o1,o2,o3,o4,o5,o6,o7,o8,o9,o10] true).wp P Q a w:=by
 subst p0 p1 p2 p3 p4 p5
 obtain ⟨z0,z1,z2,z3,z4⟩:=hIT
 refine wp_region_noPanic ?_
 refine wp_region_any hm ?_
 refine AnyL.any (S:=fun d w'=>d.getD 10 true = false→T w') _ _ _ _ ?_
 show AnyL P .any #[o0,o1,o2,o3,o4,o5,o6,o7,o8,o9,o10] (NoPanic Q) _ 11 #[false,false,false,false,false,false,false,false,false,false,false] a w.drew
 have hSi:∀ i,i≠10→∀ (d:Array Bool) (w':World),((d.setIfInBounds i true).getD 10 true = false→T w')↔(d.getD 10 true = false→T w'):=by
  intro i h4 d w'
  rw [getD_set_ne true h4]
 refine AnyL.take (i:=0) (t:=10) (oi:=o0) (ot:=o10) (T:=T) rfl rfl (by decide) hs f0 r0 e0 (fun _ _ _ h=>h) (fun d w' h9 hd=>h9 hd) (hSi 0 (by decide)) hy0 rfl (fun _=>z0 _ i0) ?_
 refine AnyL.take (i:=1) (t:=10) (oi:=o1) (ot:=o10) (T:=T) rfl rfl (by decide) hs f1 r1 e1 (fun _ _ _ h=>h) (fun d w' h9 hd=>h9 hd) (hSi 1 (by decide)) hy1 rfl (fun _=>z0 _ i0) ?_
 refine AnyL.take (i:=2) (t:=10) (oi:=o2) (ot:=o10) (T:=T) rfl rfl (by decide) hs f2 r2 e2 (fun _ _ _ h=>h) (fun d w' h9 hd=>h9 hd) (hSi 2 (by decide)) hy2 rfl (fun _=>z0 _ i0) ?_
 refine AnyL.take (i:=3) (t:=10) (oi:=o3) (ot:=o10) (T:=T) rfl rfl (by decide) hs f3 r3 e3 (fun _ _ _ h=>h) (fun d w' h9 hd=>h9 hd) (hSi 3 (by decide)) hy3 rfl (fun _=>z0 _ i0) ?_
 refine AnyL.take (i:=4) (t:=10) (oi:=o4) (ot:=o10) (T:=T) rfl rfl (by decide) hs f4 r4 e4 (fun _ _ _ h=>h) (fun d w' h9 hd=>h9 hd) (hSi 4 (by decide)) hy4 rfl (fun _=>z0 _ i0) ?_
 refine AnyL.take (i:=5) (t:=10) (oi:=o5) (ot:=o10) (T:=T) rfl rfl (by decide) hs f5 r5 e5 (fun _ _ _ h=>h) (fun d w' h9 hd=>h9 hd) (hSi 5 (by decide)) hy5 rfl (fun _=>z0 _ i0) ?_
 refine AnyL.forced q6 rfl g6 (fun K hK=>s0  w.drew i0 K (fun u0 w1 i1=>hK _ _ (fun _=>z1 u0 w1 i1) ?_))
 refine AnyL.forced q7 rfl g7 (fun K hK=>s1 u0 w1 i1 K (fun u1 w2 i2=>hK _ _ (fun _=>z2 u0 u1 w2 i2) ?_))
 refine AnyL.forced q8 rfl g8 (fun K hK=>s2 u0 u1 w2 i2 K (fun u2 w3 i3=>hK _ _ (fun _=>z3 u0 u1 u2 w3 i3) ?_))
 refine AnyL.forced q9 rfl g9 (fun K hK=>s3 u0 u1 u2 w3 i3 K (fun u3 w4 i4=>hK _ _ (fun _=>z4 u0 u1 u2 u3 w4 i4) ?_))
 refine AnyL.forced q10 rfl g10 (fun K hK=>se u0 u1 u2 u3 w4 i4 K (fun we ie=>hK _ _ (fun h9=>(by cases h9)) ?_))
 exact ⟨rr,NoPanic.normal (h u0 u1 u2 u3 we ie)⟩
end
end
end Go.Proofs.YtejchncdimcdbaaGreatDoor
