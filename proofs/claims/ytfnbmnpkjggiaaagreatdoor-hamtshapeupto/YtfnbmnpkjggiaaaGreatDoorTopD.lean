import Derived.Test.YtfnbmnpkjggiaaaGreatDoorTopC
namespace Go.Proofs.YtfnbmnpkjggiaaaGreatDoor
set_option linter.unusedVariables false
set_option linter.unusedSimpArgs false
set_option maxRecDepth 100000
section
open Go Go.RowKit Go.BigFrame
theorem lg_s18 {P:Program} {Q:Exit→Act→World→Prop} {id:Nat} {o0 o1 o2 o3 o4 o5 o6 o7 o8 o9 o10 o11 o12 o13 o14 o15 o16 o17 o18 o19 o20 o21 o22 o23 o24:Oper} {a:Act} {w:World} (hm:P.follows .mixedOrders = true) (hb:linB #[o0,o1,o2,o3,o4,o5,o6,o7,o8,o9,o10,o11,o12,o13,o14,o15,o16,o17,o18,o19,o20,o21,o22,o23,o24] [0,1,2,3,4,5] [6,7,8] [9,10,11,12,13,14,15,16,17,18,19,20,21,22,23,24] = true) (S:World→Prop) (hS:S w.drew)
  (h:LinG P #[o0,o1,o2,o3,o4,o5,o6,o7,o8,o9,o10,o11,o12,o13,o14,o15,o16,o17,o18,o19,o20,o21,o22,o23,o24] S (ChG P #[o0,o1,o2,o3,o4,o5,o6,o7,o8,o9,o10,o11,o12,o13,o14,o15,o16,o17,o18,o19,o20,o21,o22,o23,o24] Q S (fun a w=>S w∧LinG P #[o0,o1,o2,o3,o4,o5,o6,o7,o8,o9,o10,o11,o12,o13,o14,o15,o16,o17,o18,o19,o20,o21,o22,o23,o24] S (Q .normal) [o9,o10,o11,o12,o13,o14,o15,o16,o17,o18,o19,o20,o21,o22,o23,o24] a w) [o6,o7,o8]) [o0,o1,o2,o3,o4,o5] a w.drew):(Code.region id #[o0,o1,o2,o3,o4,o5,o6,o7,o8,o9,o10,o11,o12,o13,o14,o15,o16,o17,o18,o19,o20,o21,o22,o23,o24] true).wp P Q a w:=xb5o (R:=[0,1,2,3,4,5]) (C:=[6,7,8]) (T:=[9,10,11,12,13,14,15,16,17,18,19,20,21,22,23,24]) (rs:=[o0,o1,o2,o3,o4,o5]) (cs:=[o6,o7,o8]) (ts:=[o9,o10,o11,o12,o13,o14,o15,o16,o17,o18,o19,o20,o21,o22,o23,o24]) hm hb rfl rfl rfl hS h
theorem lg_s23 {P:Program} {Q:Exit→Act→World→Prop} {id:Nat} {o0 o1 o2 o3 o4 o5 o6:Oper} {a:Act} {w:World} (hm:P.follows .mixedOrders = true) (hb:linB #[o0,o1,o2,o3,o4,o5,o6] [0,1,3,4] [2,5,6] [] = true) (hg:([o0,o1,o3,o4]++([o2,o5,o6]++[])).all (fun o=>o.guard.isNone) = true) (S:World→Prop) (hS:S w.drew)
  (h:LinY P S (ChL P Q S (Q .normal) [o2,o5,o6]) [o0,o1,o3,o4] a w.drew):(Code.region id #[o0,o1,o2,o3,o4,o5,o6] true).wp P Q a w:=xa1f (R:=[0,1,3,4]) (C:=[2,5,6]) (rs:=[o0,o1,o3,o4]) (cs:=[o2,o5,o6]) hm hb rfl rfl hg hS h

end
section
open Go.RowKit Go.BigFrame
structure HOp where
 kd:Int
 fr:Int
 kv:Value
 vv:Value
 q:List Nat
 v:List Nat
instance:Inhabited HOp:=⟨⟨0,0,undef,undef,[],[]⟩⟩
theorem xb8m {H:Hs} (hH:H.Ok) {q:List Nat} {L:Prs} {m:Nat} (hf:∀ i,i < m→sgl H (dnL H q L i) = false):m≤2 * H.wd:=by
 cases m with
 | zero=>omega
 | succ i=>have:=deep hH (dn_on (H:=H) (q:=q) (L:=L) i).pre (hf i (by omega)); omega
theorem xa3l {w:World} {g:Nat} {d:List Nat} {t:TypeId} {fr:Nat × Nat} (h:w.heap[g]? = some (.cells (brow d) t fr)):w.rangeAt g 0 (d.map u8):=xa0m [] (d.map u8) [] (by rw [List.nil_append,List.append_nil]; exact h) rfl
def strOfH (p:List Nat):ByteArray:=⟨(p.map UInt8.ofNat).toArray⟩
theorem xb7a (s:ByteArray):∀ n i r,s.size - i = n→ByteArray.toList.loop s i r = r.reverse++s.data.toList.drop i:=by
 intro n
 induction n with
 | zero =>
  intro i r h
  rw [ByteArray.toList.loop]
  have h1:s.size = s.data.toList.length:=(Array.length_toList).symm
  rw [if_neg (by omega),List.drop_eq_nil_of_le (by omega),List.append_nil]
 | succ n ih =>
  intro i r h
  rw [ByteArray.toList.loop]
  have h1:s.size = s.data.toList.length:=(Array.length_toList).symm
  have h2:i < s.data.toList.length:=by omega
  rw [if_pos (by omega),ih (i + 1) _ (by omega),List.drop_eq_getElem_cons h2]
  have h3:s.get! i = s.data.toList[i]:=by
   have h4:i < s.data.size:=by simpa using h2
   rw [Array.getElem_toList]
   exact getElem!_pos s.data i h4
  simp [h3]
theorem xa6n (s:ByteArray):s.toList = s.data.toList:=by
 unfold ByteArray.toList
 rw [xb7a s _ 0 [] rfl]
 simp
theorem xb3n (v:Value) (p:List Nat) (w:World) (h:Rd w v p) (hu5:Tryz.prog.underlying 5 = some (.int .u8)) (hu9:Tryz.prog.underlying 9 = some .string) :
  (convert 32 9 v).run Tryz.prog w = .ok (.string (strOfH p)) w:=by
 obtain ⟨ao,len,cap,rfl,rfl,h2,h3,h4,h5,h6⟩:=h
 have hl:p.length = (p.map UInt8.ofNat).length:=by simp
 cases ao with
 | none =>
  have hz:=h4 rfl
  have hp0:p = []:=List.eq_nil_of_length_eq_zero (by omega)
  subst hp0
  rw [run_convert_bytes_string w 32 9 5 none _ cap Tryz.underlying32 hu5 hu9]
  simp [Conv.bytesToString,strOfH]
  rfl
 | some a =>
  rw [hl]
  refine run_convert_bytes_back w 32 9 5 a cap (p.map UInt8.ofNat) Tryz.underlying32 hu5 hu9 (fun j hj=>?_)
  simp at hj
  obtain ⟨b,off,he,hc⟩:=h6 (by omega)
  cases he
  have:=hc j hj
  rw [Addr.add_mid,this]
  have hb:=h5 (p[j]) (List.getElem_mem hj)
  simp [u8,List.getD_eq_getElem?_getD,List.getElem?_eq_getElem hj,UInt8.toNat_ofNat]
  omega
theorem xa3v {o:Oper} {a:Act} {w:World} {x:Operand} {v:Value} {p:List Nat} (ho:o.op = .convert 32 9 x) (hx:a.eval x = v) (h:Rd w v p):(execOp a.eval o).run Tryz.prog w = .ok (.value (.string (strOfH p))) w:=by
 have h9:=xb3n v p w h (by kernel_rfl) (by kernel_rfl)
 unfold execOp
 simp only [ho,hx,Sem.run_bind,h9,Result.andThen_ok]
 rfl
theorem xb0n:∀ (p q:List Nat),(∀ x∈p,x < 256)→(∀ x∈q,x < 256)→ordL p q < 0→Op.bytesLess (p.map UInt8.ofNat) (q.map UInt8.ofNat) = true
 | [],[],_,_,h=>by simp [ordL] at h
 | [],y :: q,_,_,_=>by simp [Op.bytesLess]
 | x :: p,[],_,_,h=>by simp [ordL] at h
 | x :: p,y :: q,hp,hq,h=>by
  have hx:=hp x (by simp)
  have hy:=hq y (by simp)
  unfold ordL at h
  by_cases h1:x < y
  ·have h2:(UInt8.ofNat x) < (UInt8.ofNat y):=by rw [UInt8.lt_iff_toNat_lt]; simp [Nat.mod_eq_of_lt hx,Nat.mod_eq_of_lt hy,h1]
   simp [Op.bytesLess,h2]
  ·rw [if_neg h1] at h
   by_cases h3:y < x
   ·rw [if_pos h3] at h; omega
   ·rw [if_neg h3] at h
    obtain rfl:x = y:=by omega
    have ih:=xb0n p q (fun z hz=>hp z (by simp [hz])) (fun z hz=>hq z (by simp [hz])) h
    simp [Op.bytesLess,ih]
theorem less_H {p q:List Nat} (hp:∀ x∈p,x < 256) (hq:∀ x∈q,x < 256) (h:ordL p q < 0):Op.bytesLess (strOfH p).toList (strOfH q).toList = true:=by
 rw [xa6n,xa6n]
 have:=xb0n p q hp hq h
 simpa [strOfH] using this
theorem xa5b {q:List Nat} {L:Prs}:fnd q L = (getP q L).isSome:=by unfold fnd; cases getP q L <;> rfl
theorem xb4z (q:List Nat):∀ E:Prs,E.any (fun x=>decide (x.1 = q)) = fnd q E
 | []=>rfl
 | y :: E=>by
  rw [List.any_cons,xb4z q E]
  unfold fnd
  rw [xa5m]
  by_cases e:y.1 = q
  ·rw [if_pos e,decide_eq_true e]; rfl
  ·rw [if_neg e,decide_eq_false e,Bool.false_or]
theorem xb5t {H:Hs} (hH:H.Ok) {q:List Nat} {L:Prs} {i:Nat} (hn:sgl H (dnL H q L i) = false) (hs:sgl H (dnL H q L (i + 1)) = true) (hne:dnL H q L (i + 1)≠[]):(kidsL H i (dnL H q L i)).length≠1:=fun h=>by
 have hk:=xb1f hH h
 have hd:=dgk hH q i
 have hb:(bm H i (dnL H q L i)).testBit (dgt (H.kd q) i) = true:=by
  rw [bm_bit hd]
  cases hc:ch H i (dgt (H.kd q) i) (dnL H q L i) with
  | nil=>exact absurd hc hne
  | cons _ _=>rfl
 have h1:=kid_at (L:=dnL H q L i) hd hb
 have hm:=List.mem_of_getElem? h1
 rw [hk,List.mem_singleton] at hm
 have hm2:dnL H q L (i + 1) = dnL H q L i:=hm
 rw [hm2,hn] at hs
 cases hs
theorem xa8m {H:Hs} {E:Prs} (hs:Srt H E) (hg:sgl H E = true) {i:Nat} (hi:i + 1 < E.length):ordL (E.getD i ([],[])).1 (E.getD (i + 1) ([],[])).1 < 0:=by
 have h1:i < E.length:=by omega
 rw [List.getD_eq_getElem?_getD,List.getElem?_eq_getElem h1,List.getD_eq_getElem?_getD,List.getElem?_eq_getElem hi]
 have h2:=List.pairwise_iff_getElem.1 hs i (i + 1) h1 hi (by omega)
 have h3:=xa1m.1 hg E[i] (List.getElem_mem h1) E[i + 1] (List.getElem_mem hi)
 rw [xb1o h3] at h2
 exact h2
set_option maxHeartbeats 8000000 in
theorem hamtShape_walk (z:Int) (pv:Value) (ps:Prs) (kv:Value) (q:List Nat) (w:World) (hz:-9223372036854775808≤z∧z≤9223372036854775807) (hP:RdK w pv ps) (hx:kwt ps≤1048576) (hq:Rd w kv q) (hq2:q.length≤140737488355328) (hT:Tabs w) :
  Calls Tryz.prog 8 #[.int .i64 z,pv,kv] w fun e w'=>e = .returned (.bool true)∧Below w.heap.size w w':=by
 have hpl:=xb4y ps
 have HPL:=hide (show ps.length≤1000000 by omega)
 obtain ⟨S,hS⟩:∃ S:Nat→Prop,S = fun _=>True:=⟨_,rfl⟩
 have HS:=hide (show ∀ (n y:Nat),n≤y→S y from fun _ _ _=>by rw [hS]; trivial)
 have HT:=hide hT
 have HP:=hide hP
 have HQ:=hide hq
 obtain ⟨pa,pn,pc,_,_,rfl,_⟩:=id hP
 obtain ⟨qa,qn,qc,rfl,hqn,_⟩:=id hq
 have HQN:=hide hqn
 clear hT hS hpl hx hP hq hq2 hqn
 go_enter Tryz.func8,Tryz.ntmps8
 go_wp2_with fail
 refine Calls.mono (xa9n w (uh HT)) ?_
 rintro e w1 ⟨rfl,k1⟩
 have HK1:=hide k1
 clear k1
 go_wp2_with fail
 refine Calls.mono (xb0p z w1 hz) ?_
 rintro e w2 ⟨rfl,h2⟩
 rw [h2]
 clear h2
 cases hw:widthB z with
 | false =>
  go_wp2_with fail
  go_ret
  exact ⟨rfl,(uh HK1).below (Nat.le_refl _) (by simp)⟩
 | true =>
  obtain ⟨k,rfl,hk⟩:=xb2o hw
  clear hz
  by_cases hq64:q.length≤64
  ·have hqi:¬ (64:Int) < qn:=by have:=uh HQN; omega
   have HQ64:=hide hq64
   have HW:=hide hw
   clear hw hq64
   go_wp2_with fail
   refine Calls.mono (xb2u S k hk _ ps w1 ((uh HP).old (uh HK1)) (by have:=uh HPL; omega) (uh HS _) ((uh HT).k (uh HK1))) ?_
   rintro e w3 ⟨m3,rfl,hm3,k3⟩
   obtain ⟨g,rfl⟩:=hm3.form
   have HM3:=hide hm3
   have HK3:=hide ((uh HK1).trans k3 (by simp))
   have HLL:=hide (show (insAll (hsZ k) [] (shortP ps)).length≤1000000 by have h1:=xa3x (hsZ k) (shortP ps) []; have h2:=xa7e ps; have h3:=uh HPL; simp at h1; omega)
   clear hm3 k3
   generalize insAll (hsZ k) [] (shortP ps) = L at HM3 HLL
   go_wp2_with fail
   refine Calls.mono (xb6y S k _ _ L q w3 (uh HM3) ((uh HQ).old (uh HK3) (by simp)) (uh HQ64) ((uh HT).k (uh HK3))) ?_
   rintro e w8 ⟨sv,ev,rfl,⟨m,hrs,hrk,hns,hsg⟩,k8⟩
   have hm2k:=xb8m (hsZ_ok hk) hns
   have hm2:m≤2 * k:=hm2k
   have HM8:=hide ((uh HM3).agr (Agr.nil k8))
   have HK8:=hide ((uh HK3).trans k8 (by simp))
   obtain ⟨sa,sn,sc,svs,rfl,hsl,hsc1,hsc2,hsr,hsc⟩:=hrs
   have hsn:m = sn:=by simpa using hsl
   subst hsn
   have HSR:=hide hsr
   have HSC:=hide hsc
   have HNS:=hide hns
   have HSG:=hide hsg
   obtain ⟨ea,en,ec,eks,evs,rfl,hen,hec1,hec2,herd,hece⟩:=id hrk
   have HERD:=hide herd
   have HECE:=hide hece
   have HRK:=hide hrk
   have HEN:=hide hen
   clear hm2k k8 hsl hsr hsc hns hsg hrk HM3 hen herd hece
   go_wp2_with fail
   have hka:=xa1s k (.slice qa qn qc) q w8 hk ((uh HQ).old (uh HK8) (by simp)) (by have:=uh HQ64; omega)
   refine Calls.mono hka ?_
   rintro e w9 ⟨rfl,k9⟩
   have hkl:((hsZ k).kd q).length = 32:=((hsZ_ok hk).dg q).1
   have hkd:(hsZ k).kd q = sumD (k:Int) (2 :: q):=rfl
   rw [← hkd]
   have HK9:=hide k9
   have HZ9:=hide (heap_alloc_new w9 (.cells (zb 32) 64))
   have HA9:=hide ((Kept.refl [] w9).alloc (.cells (zb 32) 64))
   have HKL:=hide hkl
   clear k9 hkd hka hkl
   go_upto_region 10 with (refine wpList_store_row rfl 64 (.tmp 11) (.tmp 49) rfl w9.heap.size (brow ((hsZ k).kd q)) rfl rfl _ (zb 32) (uh HZ9) (by rw [xa0a,uh HKL]; exact Tryz.size_dig) (by rw [xa0h,xa0a,uh HKL]) (xa0f _) ?_)
   have HR10:=hide (show ((w9.alloc (.cells #[.int .u8 0,.int .u8 0,.int .u8 0,.int .u8 0,.int .u8 0,.int .u8 0,.int .u8 0,.int .u8 0,.int .u8 0,.int .u8 0,.int .u8 0,.int .u8 0,.int .u8 0,.int .u8 0,.int .u8 0,.int .u8 0,.int .u8 0,.int .u8 0,.int .u8 0,.int .u8 0,.int .u8 0,.int .u8 0,.int .u8 0,.int .u8 0,.int .u8 0,.int .u8 0,.int .u8 0,.int .u8 0,.int .u8 0,.int .u8 0,.int .u8 0,.int .u8 0] 64)).setRow w9.heap.size (brow ((hsZ k).kd q))).heap[w9.heap.size]? = some (.cells (brow ((hsZ k).kd q)) 64 (0,0)) from setRow_heap _ _ _ _ _ _ (uh HZ9))
   have HK10:=hide ((uh HK9).trans ((uh HA9).setRow (g:=w9.heap.size) (Or.inr (Nat.le_refl _)) (brow ((hsZ k).kd q))) (by simp))
   have HK10:=hide (show Kept [] w8 ((w9.alloc (.cells #[.int .u8 0,.int .u8 0,.int .u8 0,.int .u8 0,.int .u8 0,.int .u8 0,.int .u8 0,.int .u8 0,.int .u8 0,.int .u8 0,.int .u8 0,.int .u8 0,.int .u8 0,.int .u8 0,.int .u8 0,.int .u8 0,.int .u8 0,.int .u8 0,.int .u8 0,.int .u8 0,.int .u8 0,.int .u8 0,.int .u8 0,.int .u8 0,.int .u8 0,.int .u8 0,.int .u8 0,.int .u8 0,.int .u8 0,.int .u8 0,.int .u8 0,.int .u8 0] 64)).setRow w9.heap.size (brow ((hsZ k).kd q))) from uh HK10)
   generalize (w9.alloc (.cells #[.int .u8 0,.int .u8 0,.int .u8 0,.int .u8 0,.int .u8 0,.int .u8 0,.int .u8 0,.int .u8 0,.int .u8 0,.int .u8 0,.int .u8 0,.int .u8 0,.int .u8 0,.int .u8 0,.int .u8 0,.int .u8 0,.int .u8 0,.int .u8 0,.int .u8 0,.int .u8 0,.int .u8 0,.int .u8 0,.int .u8 0,.int .u8 0,.int .u8 0,.int .u8 0,.int .u8 0,.int .u8 0,.int .u8 0,.int .u8 0,.int .u8 0,.int .u8 0] 64)).setRow w9.heap.size (brow ((hsZ k).kd q)) = W10 at HR10 HK10 ⊢
   generalize w9.heap.size = g11 at HR10 ⊢
   clear HZ9 HA9 HK9
   have HKX:=hide ((uh HK8).trans (uh HK10) (by simp))
   have hwm:IntKind.i64.wrap ((m:Int) - 1) = (m:Int) - 1:=by simp [IntKind.wrap,IntKind.signed,IntKind.bits]; omega
   have HFN:=hide (show fnd q L = (dnL (hsZ k) q L m).any (fun x=>decide (x.1 = q)) by rw [xb4z]; unfold fnd; rw [dn_get])
   by_cases he0:0 < en
   ·have he1:(0:Int) < en:=by omega
    have HMN:=hide (show dnL (hsZ k) q L m≠[] from fun e=>by have h9:=uh HEN; rw [e] at h9; simp at h9; omega)
    have HSRT:=hide (dn_srt (q:=q) (uh HM8).srt m)
    have HON:=hide (dn_on (H:=hsZ k) (q:=q) (L:=L) m)
    have HSUB:=hide (dn_sub (H:=hsZ k) (q:=q) (L:=L) m)
    cases m with
    | zero =>
     generalize dnL (hsZ k) q L 0 = E at HEN HERD HSG HRK HFN HMN HSRT HON HSUB
     go_upto_region 14 with fail
     obtain ⟨eb,eoff,rfl,hecl⟩:=uh HECE he0
     have HECL:=hide hecl
     have HKEY:=hide (fun w' (kk:Kept [] w8 w')=>xa1s k (eks.getD 0 undef) (E.getD 0 ([],[])).1 w' hk ((uh HERD 0 he0).1.old kk (by simp)) (by have h1:=((uh HM8).fit _ (uh HSUB (E.getD 0 ([],[])) (by rw [List.getD_eq_getElem?_getD,List.getElem?_eq_getElem (show 0 < E.length by have:=uh HEN; omega)]; exact List.getElem_mem _))).1; exact Nat.le_trans h1 (by omega)))
     have HKEY:Hid (∀ w',Kept [] w8 w'→Calls Tryz.prog 33 #[.int .i64 k,eks.getD 0 undef] w' fun e w''=>e = .returned (.agg (brow ((hsZ k).kd (E.getD 0 ([],[])).1)))∧Kept [] w' w''):=HKEY
     have HZ0:=hide (hecl 0 he0).1
     have HKD0:=hide (fun (x:List Nat × List Nat) (hx:x∈E)=>show (hsZ k).kd (E.getD 0 ([],[])).1 = (hsZ k).kd x.1 from xa1m.1 (uh HSG) _ (by rw [List.getD_eq_getElem?_getD,List.getElem?_eq_getElem (show 0 < E.length by have:=uh HEN; omega)]; exact List.getElem_mem _) x hx)
     have hrz:=(uh HERD 0 he0).1
     obtain ⟨zv,hzv⟩:∃ zv,zv = eks.getD 0 undef:=⟨_,rfl⟩
     have HKEY:Hid (∀ w',Kept [] w8 w'→Calls Tryz.prog 33 #[.int .i64 k,zv] w' fun e w''=>e = .returned (.agg (brow ((hsZ k).kd (E.getD 0 ([],[])).1)))∧Kept [] w' w''):=by rw [hzv]; exact HKEY
     have HZ0:Hid (w8.cell? ⟨eb,eoff,none⟩ = some zv):=by rw [hzv]; have h9:=uh HZ0; rw [Nat.zero_mul,Nat.add_zero] at h9; exact hide h9
     rw [← hzv] at hrz
     obtain ⟨z1,z2,z3,rfl,_⟩:=id hrz
     clear hrz hzv hecl
     go_wp2_with fail
     go_loopw [73] (fun t73 wr=>∃ (i:Nat),t73 = .int .i64 i∧i≤en∧Hid (Kept [] W10 wr)) (fun t _=>en - (intOf t).toNat)
     case atStart=>exact ⟨0,rfl,Nat.zero_le _,hide (Kept.refl _ _)⟩
     case round =>
      obtain ⟨i,rfl,hi,HKr⟩:=hrel
      have HK8r:=hide ((uh HK10).trans (uh HKr) (by simp))
      by_cases hlt:i < en
      ·have hlt2:(i:Int) < en:=by omega
       obtain ⟨hx1,hx2⟩:=uh HECL i (by omega)
       obtain ⟨hr1,hr2⟩:=uh HERD i (by omega)
       have hjL:i < E.length:=by have:=uh HEN; omega
       have HTK:=hide (show (E.take (i + 1)).any (fun x=>decide (x.1 = q)) = ((E.take i).any (fun x=>decide (x.1 = q)) || decide ((E.getD i ([],[])).1 = q)) by
        rw [List.take_succ_eq_append_getElem hjL,List.any_append,List.getD_eq_getElem?_getD,List.getElem?_eq_getElem hjL]; simp)
       have HMEM:=hide (show E.getD i ([],[])∈E by rw [List.getD_eq_getElem?_getD,List.getElem?_eq_getElem hjL]; exact List.getElem_mem hjL)
       have HPRV:=hide (fun (p:Nat) (h:i = p + 1)=>show ordL (E.getD p ([],[])).1 (E.getD i ([],[])).1 < 0 by subst h; exact xa8m (uh HSRT) (uh HSG) hjL)
       have HPRV:Hid (∀ p,i = p + 1→ordL (E.getD p ([],[])).1 (E.getD i ([],[])).1 < 0):=HPRV
       generalize eks.getD i undef = kx at hx1 hr1
       generalize evs.getD i undef = vx at hx2 hr2
       generalize E.getD i ([],[]) = ej at hr1 hr2 HTK HMEM HPRV
       obtain ⟨ka,va⟩:=ej
       have HR1:=hide hr1
       have HR2:=hide hr2
       obtain ⟨x1,x2,x3,rfl,_⟩:=id hr1
       obtain ⟨y1,y2,y3,rfl,_⟩:=id hr2
       have HX1:=hide ((uh HK8r).cell hx1 (by simp))
       have HX2:=hide ((uh HK8r).cell hx2 (by simp))
       clear hx1 hx2 hr1 hr2 hjL
       have HRG:=hide (show wr.rangeAt eb (eoff + i * 2) [.slice x1 x2 x3,.slice y1 y2 y3] from fun y u hy=>by
        match y,hy with
        | 0,hy=>rw [Nat.add_zero,uh HX1]; exact hy
        | 1,hy=>rw [uh HX2]; exact hy)
       have HP2:=hide (heap_alloc_new wr (.cells #[.slice x1 x2 x3,.slice y1 y2 y3] 46))
       have HK2:=hide ((Kept.refl [] wr).alloc (.cells #[.slice x1 x2 x3,.slice y1 y2 y3] 46))
       go_upto_region 17 with (refine wpList_load_mid rfl 46 (.tmp 76) rfl eb (eoff + i * 2) rfl [.slice x1 x2 x3,.slice y1 y2 y3] _ (uh HRG) Tryz.underlying46 rfl Tryz.size_pair ?_)
       try simp only [Act.put]
       generalize wr.alloc (.cells #[.slice x1 x2 x3,.slice y1 y2 y3] 46) = W2 at HP2 HK2 ⊢
       obtain ⟨g13,hg13⟩:∃ g13,g13 = wr.heap.size:=⟨_,rfl⟩
       rw [← hg13] at HP2 ⊢
       clear hg13
       have hcp:=xa0m [] [.slice x1 x2 x3,.slice y1 y2 y3] [] (uh HP2) rfl
       have hQ1:=(show W2.cell? ⟨g13,0,none⟩ = some (.slice x1 x2 x3) from hcp 0 _ rfl)
       have hQ2:=(show W2.cell? ⟨g13,1,none⟩ = some (.slice y1 y2 y3) from hcp 1 _ rfl)
       clear hcp HRG HP2
       have HKE:=hide (uh HKD0 (ka,va) (uh HMEM))
       have HKEY:Hid (∀ w',Kept [] w8 w'→Calls Tryz.prog 33 #[.int .i64 k,.slice z1 z2 z3] w' fun e w''=>e = .returned (.agg (brow ((hsZ k).kd ka)))∧Kept [] w' w''):=by
        have h9:=uh HKE
        have h8:=uh HKEY
        rw [h9] at h8
        exact hide h8
       have hka:=xa1s k (.slice x1 x2 x3) ka W2 hk ((uh HR1).old ((uh HK8r).trans (uh HK2) (by simp)) (by simp)) (by have h1:ka.length≤64:=((uh HM8).fit (ka,va) (uh HSUB (ka,va) (uh HMEM))).1; exact Nat.le_trans h1 (by omega))
       go_wp2_with fail
       refine Calls.mono hka ?_
       rintro e W3 ⟨rfl,k3⟩
       have hkd:(hsZ k).kd ka = sumD (k:Int) (2 :: ka):=rfl
       rw [← hkd]
       have HKAL:=hide (show ((hsZ k).kd ka).length = 32 from ((hsZ_ok hk).dg ka).1)
       have hQ1:=k3.cell hQ1 (by simp)
       have hQ2:=k3.cell hQ2 (by simp)
       have HK3:=hide ((uh HK2).trans k3 (by simp))
       have HZ3:=hide (heap_alloc_new W3 (.cells (zb 32) 64))
       have HA3:=hide ((Kept.refl [] W3).alloc (.cells (zb 32) 64))
       clear k3 hkd hka
       go_upto_region 18 with (refine wpList_store_row rfl 64 (.tmp 14) (.tmp 81) rfl W3.heap.size (brow ((hsZ k).kd ka)) rfl rfl _ (zb 32) (uh HZ3) (by rw [xa0a,uh HKAL]; exact Tryz.size_dig) (by rw [xa0h,xa0a,uh HKAL]) (xa0f _) ?_)
       have HB14:=hide (show ((W3.alloc (.cells #[.int .u8 0,.int .u8 0,.int .u8 0,.int .u8 0,.int .u8 0,.int .u8 0,.int .u8 0,.int .u8 0,.int .u8 0,.int .u8 0,.int .u8 0,.int .u8 0,.int .u8 0,.int .u8 0,.int .u8 0,.int .u8 0,.int .u8 0,.int .u8 0,.int .u8 0,.int .u8 0,.int .u8 0,.int .u8 0,.int .u8 0,.int .u8 0,.int .u8 0,.int .u8 0,.int .u8 0,.int .u8 0,.int .u8 0,.int .u8 0,.int .u8 0,.int .u8 0] 64)).setRow W3.heap.size (brow ((hsZ k).kd ka))).heap[W3.heap.size]? = some (.cells (brow ((hsZ k).kd ka)) 64 (0,0)) from setRow_heap _ _ _ _ _ _ (uh HZ3))
       have HK34:=hide (show Kept [] W3 ((W3.alloc (.cells #[.int .u8 0,.int .u8 0,.int .u8 0,.int .u8 0,.int .u8 0,.int .u8 0,.int .u8 0,.int .u8 0,.int .u8 0,.int .u8 0,.int .u8 0,.int .u8 0,.int .u8 0,.int .u8 0,.int .u8 0,.int .u8 0,.int .u8 0,.int .u8 0,.int .u8 0,.int .u8 0,.int .u8 0,.int .u8 0,.int .u8 0,.int .u8 0,.int .u8 0,.int .u8 0,.int .u8 0,.int .u8 0,.int .u8 0,.int .u8 0,.int .u8 0,.int .u8 0] 64)).setRow W3.heap.size (brow ((hsZ k).kd ka))) from (uh HA3).setRow (g:=W3.heap.size) (Or.inr (Nat.le_refl _)) (brow ((hsZ k).kd ka)))
       generalize (W3.alloc (.cells #[.int .u8 0,.int .u8 0,.int .u8 0,.int .u8 0,.int .u8 0,.int .u8 0,.int .u8 0,.int .u8 0,.int .u8 0,.int .u8 0,.int .u8 0,.int .u8 0,.int .u8 0,.int .u8 0,.int .u8 0,.int .u8 0,.int .u8 0,.int .u8 0,.int .u8 0,.int .u8 0,.int .u8 0,.int .u8 0,.int .u8 0,.int .u8 0,.int .u8 0,.int .u8 0,.int .u8 0,.int .u8 0,.int .u8 0,.int .u8 0,.int .u8 0,.int .u8 0] 64)).setRow W3.heap.size (brow ((hsZ k).kd ka)) = W4 at HB14 HK34 ⊢
       generalize W3.heap.size = g14 at HB14 ⊢
       clear HZ3 HA3
       have HQ4:=hide ((uh HK34).cell hQ1 (by simp))
       have HQ4b:=hide ((uh HK34).cell hQ2 (by simp))
       have HKr4:=hide ((uh HK3).trans (uh HK34) (by simp))
       have HRB:=hide (xa3l (uh HB14))
       have HZ1:=hide (((uh HK8r).trans (uh HKr4) (by simp)).cell (uh HZ0) (by simp))
       clear hQ1 hQ2 HX1 HX2 HTK
       cases i with
       | zero =>
        have hd2:=(Kept.refl [] W4).drew
        refine lg_s18 (by kernel_rfl) (by kernel_rfl) (fun W=>Kept [] W4 W) hd2 ?_
        refine LinG.ld (by rfl) 64 (.tmp 14) rfl g14 0 rfl (((hsZ k).kd ka).map u8) _ (fun W hW=>hW.rng (uh HRB) (by simp)) Tryz.underlying64 rfl (by rw [List.length_map,uh HKAL]; exact Tryz.size_dig) (by simp only [Act.put,sa1,sa2,sa3]; rfl) ?_
        refine LinG.rd (by rfl) (.int .i64 k) (fun W hW=>by go_simp) (by simp only [Act.put,sa1,sa2,sa3]; rfl) ?_
        refine LinG.rd (by rfl) (.slice (some ⟨eb,eoff,none⟩) en ec) (fun W hW=>by go_simp) (by simp only [Act.put,sa1,sa2,sa3]; rfl) ?_
        refine LinG.rd (by rfl) (.pointer (some ⟨eb,eoff,none⟩)) (fun W hW=>by go_simp) (by simp only [Act.put,sa1,sa2,sa3]; rfl) ?_
        refine LinG.rd (by rfl) (.pointer (some ⟨eb,eoff,none⟩)) (fun W hW=>by go_simp) (by simp only [Act.put,sa1,sa2,sa3]; rfl) ?_
        refine LinG.rd (by rfl) (.slice z1 z2 z3) (fun W hW=>by have h9:=hW.cell (uh HZ1) (by simp); go_simp) (by simp only [Act.put,sa1,sa2,sa3]; rfl) ?_
        refine LinG.fin (ChG.call (by rfl) rfl Tryz.call33 [.int .i64 k,.slice z1 z2 z3] rfl (uh HKEY W4.drew (((uh HK8r).trans (uh HKr4) (by simp)).trans hd2 (by simp))) ?_)
        rintro e w5 ⟨rfl,k5⟩
        have hk5:=hd2.trans k5 (by simp)
        refine ⟨_,rfl,hk5,?_⟩
        simp only [Act.put,sa1,sa2,sa3]
        refine ChG.op (by rfl) (.bool false) (xa7x 64 (.tmp 82) (.tmp 88) 64 rfl (brow ((hsZ k).kd ka)) (brow ((hsZ k).kd ka)) rfl rfl w5 true (by kernel_rfl) (by have h9:=dig_eq w5 ((hsZ k).kd ka) ((hsZ k).kd ka) (uh HKAL) (uh HKAL); rw [decide_eq_true rfl] at h9; exact h9)) hk5 (by simp only [Act.put,sa1,sa2,sa3]; rfl) ?_
        refine ChG.op (by rfl) (.bool false) (by go_simp) hk5 (by simp only [Act.put,sa1,sa2,sa3]; rfl) (ChG.fin ⟨hk5,?_⟩)
        refine LinG.rd (by rfl) (.int .i64 0) (fun W hW=>by go_simp) (by simp only [Act.put,sa1,sa2,sa3]; rfl) ?_
        refine LinG.rd (by rfl) (.bool false) (fun W hW=>by go_simp) (by simp only [Act.put,sa1,sa2,sa3]; rfl) ?_
        refine LinG.rd (by rfl) (.bool false) (fun W hW=>by go_simp) (by simp only [Act.put,sa1,sa2,sa3]; rfl) ?_
        refine LinG.no (by rfl) (by simp only [Act.put,sa1,sa2,sa3]; rfl) ?_
        refine LinG.no (by rfl) (by simp only [Act.put,sa1,sa2,sa3]; rfl) ?_
        refine LinG.no (by rfl) (by simp only [Act.put,sa1,sa2,sa3]; rfl) ?_
        refine LinG.no (by rfl) (by simp only [Act.put,sa1,sa2,sa3]; rfl) ?_
        refine LinG.no (by rfl) (by simp only [Act.put,sa1,sa2,sa3]; rfl) ?_
        refine LinG.no (by rfl) (by simp only [Act.put,sa1,sa2,sa3]; rfl) ?_
        refine LinG.no (by rfl) (by simp only [Act.put,sa1,sa2,sa3]; rfl) ?_
        refine LinG.no (by rfl) (by simp only [Act.put,sa1,sa2,sa3]; rfl) ?_
        refine LinG.no (by rfl) (by simp only [Act.put,sa1,sa2,sa3]; rfl) ?_
        refine LinG.no (by rfl) (by simp only [Act.put,sa1,sa2,sa3]; rfl) ?_
        refine LinG.no (by rfl) (by simp only [Act.put,sa1,sa2,sa3]; rfl) ?_
        refine LinG.rd (by rfl) (.bool false) (fun W hW=>by go_simp) (by simp only [Act.put,sa1,sa2,sa3]; rfl) ?_
        refine LinG.rd (by rfl) (.bool false) (fun W hW=>by go_simp) (by simp only [Act.put,sa1,sa2,sa3]; rfl) ?_
        refine LinG.fin ?_
        have HK5:=hide ((uh HKr4).trans hk5 (by simp))
        have HQ5:=hide (hk5.cell (uh HQ4) (by simp))
        have HQ6:=hide (hk5.cell (uh HQ4b) (by simp))
        have H14:=hide (show w5.heap[g14]? = some (.cells (brow ((hsZ k).kd ka)) 64 (0,0)) from (hk5.block g14 (lt_of_block (uh HB14)) (by simp)).trans (uh HB14))
        have HK105:=hide ((uh HKr).trans (uh HK5) (by simp))
        have H11:=hide (show w5.heap[g11]? = some (.cells (brow ((hsZ k).kd q)) 64 (0,0)) from ((uh HK105).block g11 (lt_of_block (uh HR10)) (by simp)).trans (uh HR10))
        clear hk5 k5 hd2
        obtain ⟨wo,hwo⟩:∃ wo,wo = wr:=⟨_,rfl⟩
        subst hwo
        go_wp2_with fail
        go_loopw [15] (fun t15 wr=>∃ (j:Nat),t15 = .int .i64 j∧j≤0∧Hid (Kept [] w5 wr)) (fun t _=>0 - (intOf t).toNat)
        case atStart=>exact ⟨0,rfl,Nat.zero_le _,hide (Kept.refl _ _)⟩
        case round =>
         obtain ⟨j,rfl,hj,HKj⟩:=hrel
         by_cases hjm:j < 0
         ·exfalso; omega
         ·have hjm2:¬ (j:Int) < (0:Nat):=by omega
          have hq5:=(uh HKj).cell (uh HQ5) (by simp)
          have HK10j:=hide ((uh HK105).trans (uh HKj) (by simp))
          have HK8j:=hide ((uh HK10).trans (uh HK10j) (by simp))
          go_wp2_with fail
          refine Calls.mono (xa3a S k _ _ L ka wr ((uh HM8).agr (Agr.nil (uh HK8j))) ((uh HR1).old (uh HK8j) (by simp)) ((uh HM8).fit (ka,va) (uh HSUB (ka,va) (uh HMEM))).1 ((uh HT).k ((uh HKX).trans (uh HK10j) (by simp)))) ?_
          rintro e w11 ⟨ov,rfl,r11,_,k11⟩
          have hgv:getP ka L = some va:=(xa2x (uh HM8).srt).2 (uh HSUB (ka,va) (uh HMEM))
          have hfv:fnd ka L = true:=by rw [xa5b,hgv]; rfl
          rw [hgv] at r11
          rw [hfv]
          have r11:Rd w11 ov va:=r11
          have HR11:=hide r11
          have hq6:=k11.cell ((uh HKj).cell (uh HQ6) (by simp)) (by simp)
          have HK11:=hide ((uh HK10j).trans k11 (by simp))
          have HK8e:=hide ((uh HK8j).trans k11 (by simp))
          obtain ⟨o1,o2,o3,rfl,_⟩:=id r11
          clear hgv hfv r11 k11 hq5
          go_wp2_with fail
          refine Calls.mono (same_k _ _ va va w11 (uh HR11) ((uh HR2).old (uh HK8e) (by simp))) ?_
          rintro e w12 ⟨rfl,k12⟩
          rw [decide_eq_true rfl]
          have HK12:=hide ((uh HK11).trans k12 (by simp))
          clear k12 hq6
          go_wp2_with fail
          refine ⟨⟨0 + 1,by go_num,hlt,HK12⟩,?_⟩
          simp [intOf]; try omega
       | succ p =>
        obtain ⟨hu1,_⟩:=uh HECL p (by omega)
        obtain ⟨hrp,_⟩:=uh HERD p (by omega)
        have HOR:=hide (uh HPRV p rfl)
        generalize eks.getD p undef = up at hu1 hrp
        generalize (E.getD p ([],[])).1 = kp at hrp HOR
        have HRP:=hide hrp
        have HLS:=hide (less_H hrp.byte (uh HR1).byte (uh HOR))
        obtain ⟨u1,u2,u3,rfl,_⟩:=id hrp
        have HU1:=hide (((uh HK8r).trans (uh HKr4) (by simp)).cell hu1 (by simp))
        have hwp:IntKind.i64.wrap (((p + 1:Nat):Int) - 1) = (p:Int):=by simp [IntKind.wrap,IntKind.signed,IntKind.bits]; omega
        have hwp2:IntKind.i64.wrap (p:Int) = (p:Int):=by simp [IntKind.wrap,IntKind.signed,IntKind.bits]; omega
        have hpe:p < en:=by omega
        have hpe2:¬ en≤p:=by omega
        clear hu1 hrp
        have hd2:=(Kept.refl [] W4).drew
        refine lg_s18 (by kernel_rfl) (by kernel_rfl) (fun W=>Kept [] W4 W) hd2 ?_
        refine LinG.ld (by rfl) 64 (.tmp 14) rfl g14 0 rfl (((hsZ k).kd ka).map u8) _ (fun W hW=>hW.rng (uh HRB) (by simp)) Tryz.underlying64 rfl (by rw [List.length_map,uh HKAL]; exact Tryz.size_dig) (by simp only [Act.put,sa1,sa2,sa3]; rfl) ?_
        refine LinG.rd (by rfl) (.int .i64 k) (fun W hW=>by go_simp) (by simp only [Act.put,sa1,sa2,sa3]; rfl) ?_
        refine LinG.rd (by rfl) (.slice (some ⟨eb,eoff,none⟩) en ec) (fun W hW=>by go_simp) (by simp only [Act.put,sa1,sa2,sa3]; rfl) ?_
        refine LinG.rd (by rfl) (.pointer (some ⟨eb,eoff,none⟩)) (fun W hW=>by go_simp) (by simp only [Act.put,sa1,sa2,sa3]; rfl) ?_
        refine LinG.rd (by rfl) (.pointer (some ⟨eb,eoff,none⟩)) (fun W hW=>by go_simp) (by simp only [Act.put,sa1,sa2,sa3]; rfl) ?_
        refine LinG.rd (by rfl) (.slice z1 z2 z3) (fun W hW=>by have h9:=hW.cell (uh HZ1) (by simp); go_simp) (by simp only [Act.put,sa1,sa2,sa3]; rfl) ?_
        refine LinG.fin (ChG.call (by rfl) rfl Tryz.call33 [.int .i64 k,.slice z1 z2 z3] rfl (uh HKEY W4.drew (((uh HK8r).trans (uh HKr4) (by simp)).trans hd2 (by simp))) ?_)
        rintro e w5 ⟨rfl,k5⟩
        have hk5:=hd2.trans k5 (by simp)
        refine ⟨_,rfl,hk5,?_⟩
        simp only [Act.put,sa1,sa2,sa3]
        refine ChG.op (by rfl) (.bool false) (xa7x 64 (.tmp 82) (.tmp 88) 64 rfl (brow ((hsZ k).kd ka)) (brow ((hsZ k).kd ka)) rfl rfl w5 true (by kernel_rfl) (by have h9:=dig_eq w5 ((hsZ k).kd ka) ((hsZ k).kd ka) (uh HKAL) (uh HKAL); rw [decide_eq_true rfl] at h9; exact h9)) hk5 (by simp only [Act.put,sa1,sa2,sa3]; rfl) ?_
        refine ChG.op (by rfl) (.bool false) (by go_simp) hk5 (by simp only [Act.put,sa1,sa2,sa3]; rfl) (ChG.fin ⟨hk5,?_⟩)
        refine LinG.rd (by rfl) (.int .i64 (p + 1:Nat)) (fun W hW=>by go_simp) (by simp only [Act.put,sa1,sa2,sa3]; rfl) ?_
        refine LinG.rd (by rfl) (.bool true) (fun W hW=>by go_simp) (by simp only [Act.put,sa1,sa2,sa3]; rfl) ?_
        refine LinG.rd (by rfl) (.bool true) (fun W hW=>by go_simp) (by simp only [Act.put,sa1,sa2,sa3]; rfl) ?_
        refine LinG.rd (by rfl) (.slice (some ⟨eb,eoff,none⟩) en ec) (fun W hW=>by go_simp) (by simp only [Act.put,sa1,sa2,sa3]; rfl) ?_
        refine LinG.rd (by rfl) (.int .i64 (p + 1:Nat)) (fun W hW=>by go_simp) (by simp only [Act.put,sa1,sa2,sa3]; rfl) ?_
        refine LinG.rd (by rfl) (.int .i64 p) (fun W hW=>by go_simp) (by simp only [Act.put,sa1,sa2,sa3]; rfl) ?_
        refine LinG.rd (by rfl) (.pointer (some ⟨eb,eoff + p * 2,none⟩)) (fun W hW=>by go_simp) (by simp only [Act.put,sa1,sa2,sa3]; rfl) ?_
        refine LinG.rd (by rfl) (.pointer (some ⟨eb,eoff + p * 2,none⟩)) (fun W hW=>by go_simp) (by simp only [Act.put,sa1,sa2,sa3]; rfl) ?_
        refine LinG.rd (by rfl) (.slice u1 u2 u3) (fun W hW=>by have h9:=hW.cell (uh HU1) (by simp); go_simp) (by simp only [Act.put,sa1,sa2,sa3]; rfl) ?_
        refine LinG.rd (by rfl) (.string (strOfH kp)) (fun W hW=>xa3v rfl rfl ((uh HRP).old (((uh HK8r).trans (uh HKr4) (by simp)).trans hW (by simp)) (by simp))) (by simp only [Act.put,sa1,sa2,sa3]; rfl) ?_
        refine LinG.rd (by rfl) (.pointer (some ⟨g13,0,none⟩)) (fun W hW=>by go_simp) (by simp only [Act.put,sa1,sa2,sa3]; rfl) ?_
        refine LinG.rd (by rfl) (.slice x1 x2 x3) (fun W hW=>by have h9:=hW.cell (uh HQ4) (by simp); go_simp) (by simp only [Act.put,sa1,sa2,sa3]; rfl) ?_
        refine LinG.rd (by rfl) (.string (strOfH ka)) (fun W hW=>xa3v rfl rfl ((uh HR1).old (((uh HK8r).trans (uh HKr4) (by simp)).trans hW (by simp)) (by simp))) (by simp only [Act.put,sa1,sa2,sa3]; rfl) ?_
        refine LinG.rd (by rfl) (.bool false) (fun W hW=>by have h9:=uh HLS; go_simp) (by simp only [Act.put,sa1,sa2,sa3]; rfl) ?_
        refine LinG.rd (by rfl) (.bool false) (fun W hW=>by go_simp) (by simp only [Act.put,sa1,sa2,sa3]; rfl) ?_
        refine LinG.rd (by rfl) (.bool false) (fun W hW=>by go_simp) (by simp only [Act.put,sa1,sa2,sa3]; rfl) ?_
        refine LinG.fin ?_
        have HK5:=hide ((uh HKr4).trans hk5 (by simp))
        have HQ5:=hide (hk5.cell (uh HQ4) (by simp))
        have HQ6:=hide (hk5.cell (uh HQ4b) (by simp))
        have H14:=hide (show w5.heap[g14]? = some (.cells (brow ((hsZ k).kd ka)) 64 (0,0)) from (hk5.block g14 (lt_of_block (uh HB14)) (by simp)).trans (uh HB14))
        have HK105:=hide ((uh HKr).trans (uh HK5) (by simp))
        have H11:=hide (show w5.heap[g11]? = some (.cells (brow ((hsZ k).kd q)) 64 (0,0)) from ((uh HK105).block g11 (lt_of_block (uh HR10)) (by simp)).trans (uh HR10))
        clear hk5 k5 hd2
        obtain ⟨wo,hwo⟩:∃ wo,wo = wr:=⟨_,rfl⟩
        subst hwo
        go_wp2_with fail
        go_loopw [15] (fun t15 wr=>∃ (j:Nat),t15 = .int .i64 j∧j≤0∧Hid (Kept [] w5 wr)) (fun t _=>0 - (intOf t).toNat)
        case atStart=>exact ⟨0,rfl,Nat.zero_le _,hide (Kept.refl _ _)⟩
        case round =>
         obtain ⟨j,rfl,hj,HKj⟩:=hrel
         by_cases hjm:j < 0
         ·exfalso; omega
         ·have hjm2:¬ (j:Int) < (0:Nat):=by omega
          have hq5:=(uh HKj).cell (uh HQ5) (by simp)
          have HK10j:=hide ((uh HK105).trans (uh HKj) (by simp))
          have HK8j:=hide ((uh HK10).trans (uh HK10j) (by simp))
          go_wp2_with fail
          refine Calls.mono (xa3a S k _ _ L ka wr ((uh HM8).agr (Agr.nil (uh HK8j))) ((uh HR1).old (uh HK8j) (by simp)) ((uh HM8).fit (ka,va) (uh HSUB (ka,va) (uh HMEM))).1 ((uh HT).k ((uh HKX).trans (uh HK10j) (by simp)))) ?_
          rintro e w11 ⟨ov,rfl,r11,_,k11⟩
          have hgv:getP ka L = some va:=(xa2x (uh HM8).srt).2 (uh HSUB (ka,va) (uh HMEM))
          have hfv:fnd ka L = true:=by rw [xa5b,hgv]; rfl
          rw [hgv] at r11
          rw [hfv]
          have r11:Rd w11 ov va:=r11
          have HR11:=hide r11
          have hq6:=k11.cell ((uh HKj).cell (uh HQ6) (by simp)) (by simp)
          have HK11:=hide ((uh HK10j).trans k11 (by simp))
          have HK8e:=hide ((uh HK8j).trans k11 (by simp))
          obtain ⟨o1,o2,o3,rfl,_⟩:=id r11
          clear hgv hfv r11 k11 hq5
          go_wp2_with fail
          refine Calls.mono (same_k _ _ va va w11 (uh HR11) ((uh HR2).old (uh HK8e) (by simp))) ?_
          rintro e w12 ⟨rfl,k12⟩
          rw [decide_eq_true rfl]
          have HK12:=hide ((uh HK11).trans k12 (by simp))
          clear k12 hq6
          go_wp2_with fail
          refine ⟨⟨p + 1 + 1,by go_num,hlt,HK12⟩,?_⟩
          simp [intOf]; try omega
      ·have hlt2:¬ (i:Int) < en:=by omega
       have HKf:=hide ((uh HK10).trans (uh HKr) (by simp))
       have HKg:=hide ((uh HKX).trans (uh HKr) (by simp))
       go_wp2_with fail
       refine Calls.mono (xa3a S k _ _ L q wr ((uh HM8).agr (Agr.nil (uh HKf))) ((uh HQ).old (uh HKg) (by simp)) (uh HQ64) ((uh HT).k (uh HKg))) ?_
       rintro e w40 ⟨ov,rfl,_,_,k40⟩
       rw [uh HFN]
       have HK40:=hide ((uh HKr).trans k40 (by simp))
       clear k40 HKf HKg
       go_wp2_with fail
       go_loopw [22,151] (fun t22 t151 wr=>∃ (i:Nat) (fb:Bool),t151 = .int .i64 i∧t22 = .bool fb∧i≤en∧Hid (fb = (E.take i).any (fun x=>decide (x.1 = q)))∧Hid (Kept [] W10 wr)) (fun _ t _=>en - (intOf t).toNat)
       case atStart=>exact ⟨0,false,rfl,rfl,Nat.zero_le _,hide (by simp),HK40⟩
       case round =>
        obtain ⟨i,fb,rfl,rfl,hi,HFB,HKr⟩:=hrel
        have HK8r:=hide ((uh HK10).trans (uh HKr) (by simp))
        have HKXr:=hide ((uh HKX).trans (uh HKr) (by simp))
        by_cases hlt:i < en
        ·have hlt2:(i:Int) < en:=by omega
         obtain ⟨hx1,hx2⟩:=uh HECL i (by omega)
         obtain ⟨hr1,hr2⟩:=uh HERD i (by omega)
         have hjL:i < E.length:=by have:=uh HEN; omega
         have HTK:=hide (show (E.take (i + 1)).any (fun x=>decide (x.1 = q)) = ((E.take i).any (fun x=>decide (x.1 = q)) || decide ((E.getD i ([],[])).1 = q)) by
          rw [List.take_succ_eq_append_getElem hjL,List.any_append,List.getD_eq_getElem?_getD,List.getElem?_eq_getElem hjL]; simp)
         have HMEM:=hide (show E.getD i ([],[])∈E by rw [List.getD_eq_getElem?_getD,List.getElem?_eq_getElem hjL]; exact List.getElem_mem hjL)
         have HPRV:=hide (fun (p:Nat) (h:i = p + 1)=>show ordL (E.getD p ([],[])).1 (E.getD i ([],[])).1 < 0 by subst h; exact xa8m (uh HSRT) (uh HSG) hjL)
         have HPRV:Hid (∀ p,i = p + 1→ordL (E.getD p ([],[])).1 (E.getD i ([],[])).1 < 0):=HPRV
         generalize eks.getD i undef = kx at hx1 hr1
         generalize evs.getD i undef = vx at hx2 hr2
         generalize E.getD i ([],[]) = ej at hr1 hr2 HTK HMEM HPRV
         obtain ⟨ka,va⟩:=ej
         have HR1:=hide hr1
         have HR2:=hide hr2
         obtain ⟨x1,x2,x3,rfl,_⟩:=id hr1
         obtain ⟨y1,y2,y3,rfl,_⟩:=id hr2
         have HX1:=hide ((uh HK8r).cell hx1 (by simp))
         have HX2:=hide ((uh HK8r).cell hx2 (by simp))
         clear hx1 hx2 hr1 hr2 hjL
         have HRG:=hide (show wr.rangeAt eb (eoff + i * 2) [.slice x1 x2 x3,.slice y1 y2 y3] from fun y u hy=>by
          match y,hy with
          | 0,hy=>rw [Nat.add_zero,uh HX1]; exact hy
          | 1,hy=>rw [uh HX2]; exact hy)
         have HP2:=hide (heap_alloc_new wr (.cells #[.slice x1 x2 x3,.slice y1 y2 y3] 46))
         have HK2:=hide ((Kept.refl [] wr).alloc (.cells #[.slice x1 x2 x3,.slice y1 y2 y3] 46))
         go_upto_region 34 with (refine wpList_load_mid rfl 46 (.tmp 153) rfl eb (eoff + i * 2) rfl [.slice x1 x2 x3,.slice y1 y2 y3] _ (uh HRG) Tryz.underlying46 rfl Tryz.size_pair ?_)
         try simp only [Act.put]
         generalize wr.alloc (.cells #[.slice x1 x2 x3,.slice y1 y2 y3] 46) = W2 at HP2 HK2 ⊢
         obtain ⟨g13,hg13⟩:∃ g13,g13 = wr.heap.size:=⟨_,rfl⟩
         rw [← hg13] at HP2 ⊢
         clear hg13
         have hcp:=xa0m [] [.slice x1 x2 x3,.slice y1 y2 y3] [] (uh HP2) rfl
         have hQ1:=(show W2.cell? ⟨g13,0,none⟩ = some (.slice x1 x2 x3) from hcp 0 _ rfl)
         have hQ2:=(show W2.cell? ⟨g13,1,none⟩ = some (.slice y1 y2 y3) from hcp 1 _ rfl)
         clear hcp HRG HP2
         have HK102:=hide ((uh HKr).trans (uh HK2) (by simp))
         have HTK:Hid ((E.take (i + 1)).any (fun x=>decide (x.1 = q)) = ((E.take i).any (fun x=>decide (x.1 = q)) || decide (ka = q))):=HTK
         cases fb with
         | true =>
          go_wp2_with fail
          refine ⟨⟨i + 1,true,by go_num,rfl,hlt,hide (by rw [uh HTK,← uh HFB]; rfl),HK102⟩,?_⟩
          simp [intOf]; try omega
         | false =>
          go_wp2_with fail
          refine Calls.mono (same_k _ _ ka q W2 ((uh HR1).old ((uh HK8r).trans (uh HK2) (by simp)) (by simp)) ((uh HQ).old ((uh HKXr).trans (uh HK2) (by simp)) (by simp))) ?_
          rintro e w41 ⟨rfl,k41⟩
          obtain ⟨sb,hsb⟩:∃ sb,sb = decide (ka = q):=⟨_,rfl⟩
          rw [← hsb]
          have HK41:=hide ((uh HK102).trans k41 (by simp))
          have HTK2:=hide (show (E.take (i + 1)).any (fun x=>decide (x.1 = q)) = sb by rw [uh HTK,← uh HFB,hsb,Bool.false_or])
          clear k41 hsb hQ1 hQ2
          go_wp2_with fail
          refine ⟨⟨i + 1,sb,by go_num,by first | rfl | simp,hlt,hide (uh HTK2).symm,HK41⟩,?_⟩
          simp [intOf]; try omega
        ·have hlt2:¬ (i:Int) < en:=by omega
         have hfe:E.any (fun x=>decide (x.1 = q)) = fb:=by have h9:=uh HFB; rw [List.take_of_length_le (by have:=uh HEN; omega)] at h9; exact h9.symm
         rw [hfe]
         clear hfe HFB
         have hbb:(fb == fb) = true:=by cases fb <;> rfl
         go_wp2_with fail
         go_ret
         exact ⟨by first | rfl | simp,(uh HKXr).below (Nat.le_refl _) (by simp)⟩
    | succ mm =>
     have hmp:(0:Int) < (mm + 1:Nat):=by omega
     have HKN:=hide (xb5t (hsZ_ok hk) (uh HNS mm (by omega)) (uh HSG) (uh HMN))
     obtain ⟨sb,soff,rfl,hcl⟩:=uh HSC (by omega)
     have hx2:=(hcl mm (by omega)).2
     have hr2:=(uh HSR mm (by omega)).2
     have hst:((List.range (mm + 1)).map (stp k q L)).getD mm (0,[]) = stp k q L mm:=by simp [List.getD_eq_getElem?_getD]
     rw [hst] at hr2
     have hr2:RdD w8 (svs.getD mm undef) ((kidsL (hsZ k) mm (dnL (hsZ k) q L mm)).map (nodP (hsZ k) (63 - mm))):=hr2
     generalize svs.getD mm undef = kidv at hx2 hr2
     obtain ⟨x1,x2,x3,rfl,hkl2,_⟩:=id hr2
     rw [List.length_map] at hkl2
     have hx1n:¬ (x2:Int) = 1:=by have h9:=uh HKN; omega
     have hx1b:((x2:Int) == 1) = false:=by rw [beq_eq_false_iff_ne]; exact hx1n
     have hc2:=(uh HK10).cell hx2 (by simp)
     have hwmm:IntKind.i64.wrap (((mm + 1:Nat):Int) - 1) = (mm:Int):=by simp [IntKind.wrap,IntKind.signed,IntKind.bits]; omega
     clear hst hcl hkl2 hr2 hx2
     generalize dnL (hsZ k) q L (mm + 1) = E at HEN HERD HSG HRK HFN HMN HSRT HON HSUB
     go_upto_region 14 with fail
     obtain ⟨eb,eoff,rfl,hecl⟩:=uh HECE he0
     have HECL:=hide hecl
     have HKEY:=hide (fun w' (kk:Kept [] w8 w')=>xa1s k (eks.getD 0 undef) (E.getD 0 ([],[])).1 w' hk ((uh HERD 0 he0).1.old kk (by simp)) (by have h1:=((uh HM8).fit _ (uh HSUB (E.getD 0 ([],[])) (by rw [List.getD_eq_getElem?_getD,List.getElem?_eq_getElem (show 0 < E.length by have:=uh HEN; omega)]; exact List.getElem_mem _))).1; exact Nat.le_trans h1 (by omega)))
     have HKEY:Hid (∀ w',Kept [] w8 w'→Calls Tryz.prog 33 #[.int .i64 k,eks.getD 0 undef] w' fun e w''=>e = .returned (.agg (brow ((hsZ k).kd (E.getD 0 ([],[])).1)))∧Kept [] w' w''):=HKEY
     have HZ0:=hide (hecl 0 he0).1
     have HKD0:=hide (fun (x:List Nat × List Nat) (hx:x∈E)=>show (hsZ k).kd (E.getD 0 ([],[])).1 = (hsZ k).kd x.1 from xa1m.1 (uh HSG) _ (by rw [List.getD_eq_getElem?_getD,List.getElem?_eq_getElem (show 0 < E.length by have:=uh HEN; omega)]; exact List.getElem_mem _) x hx)
     have hrz:=(uh HERD 0 he0).1
     obtain ⟨zv,hzv⟩:∃ zv,zv = eks.getD 0 undef:=⟨_,rfl⟩
     have HKEY:Hid (∀ w',Kept [] w8 w'→Calls Tryz.prog 33 #[.int .i64 k,zv] w' fun e w''=>e = .returned (.agg (brow ((hsZ k).kd (E.getD 0 ([],[])).1)))∧Kept [] w' w''):=by rw [hzv]; exact HKEY
     have HZ0:Hid (w8.cell? ⟨eb,eoff,none⟩ = some zv):=by rw [hzv]; have h9:=uh HZ0; rw [Nat.zero_mul,Nat.add_zero] at h9; exact hide h9
     rw [← hzv] at hrz
     obtain ⟨z1,z2,z3,rfl,_⟩:=id hrz
     clear hrz hzv hecl
     go_wp2_with fail
     go_loopw [73] (fun t73 wr=>∃ (i:Nat),t73 = .int .i64 i∧i≤en∧Hid (Kept [] W10 wr)) (fun t _=>en - (intOf t).toNat)
     case atStart=>exact ⟨0,rfl,Nat.zero_le _,hide (Kept.refl _ _)⟩
     case round =>
      obtain ⟨i,rfl,hi,HKr⟩:=hrel
      have HK8r:=hide ((uh HK10).trans (uh HKr) (by simp))
      by_cases hlt:i < en
      ·have hlt2:(i:Int) < en:=by omega
       obtain ⟨hx1,hx2⟩:=uh HECL i (by omega)
       obtain ⟨hr1,hr2⟩:=uh HERD i (by omega)
       have hjL:i < E.length:=by have:=uh HEN; omega
       have HTK:=hide (show (E.take (i + 1)).any (fun x=>decide (x.1 = q)) = ((E.take i).any (fun x=>decide (x.1 = q)) || decide ((E.getD i ([],[])).1 = q)) by
        rw [List.take_succ_eq_append_getElem hjL,List.any_append,List.getD_eq_getElem?_getD,List.getElem?_eq_getElem hjL]; simp)
       have HMEM:=hide (show E.getD i ([],[])∈E by rw [List.getD_eq_getElem?_getD,List.getElem?_eq_getElem hjL]; exact List.getElem_mem hjL)
       have HPRV:=hide (fun (p:Nat) (h:i = p + 1)=>show ordL (E.getD p ([],[])).1 (E.getD i ([],[])).1 < 0 by subst h; exact xa8m (uh HSRT) (uh HSG) hjL)
       have HPRV:Hid (∀ p,i = p + 1→ordL (E.getD p ([],[])).1 (E.getD i ([],[])).1 < 0):=HPRV
       generalize eks.getD i undef = kx at hx1 hr1
       generalize evs.getD i undef = vx at hx2 hr2
       generalize E.getD i ([],[]) = ej at hr1 hr2 HTK HMEM HPRV
       obtain ⟨ka,va⟩:=ej
       have HR1:=hide hr1
       have HR2:=hide hr2
       obtain ⟨x1,x2,x3,rfl,_⟩:=id hr1
       obtain ⟨y1,y2,y3,rfl,_⟩:=id hr2
       have HX1:=hide ((uh HK8r).cell hx1 (by simp))
       have HX2:=hide ((uh HK8r).cell hx2 (by simp))
       clear hx1 hx2 hr1 hr2 hjL
       have HRG:=hide (show wr.rangeAt eb (eoff + i * 2) [.slice x1 x2 x3,.slice y1 y2 y3] from fun y u hy=>by
        match y,hy with
        | 0,hy=>rw [Nat.add_zero,uh HX1]; exact hy
        | 1,hy=>rw [uh HX2]; exact hy)
       have HP2:=hide (heap_alloc_new wr (.cells #[.slice x1 x2 x3,.slice y1 y2 y3] 46))
       have HK2:=hide ((Kept.refl [] wr).alloc (.cells #[.slice x1 x2 x3,.slice y1 y2 y3] 46))
       go_upto_region 17 with (refine wpList_load_mid rfl 46 (.tmp 76) rfl eb (eoff + i * 2) rfl [.slice x1 x2 x3,.slice y1 y2 y3] _ (uh HRG) Tryz.underlying46 rfl Tryz.size_pair ?_)
       try simp only [Act.put]
       generalize wr.alloc (.cells #[.slice x1 x2 x3,.slice y1 y2 y3] 46) = W2 at HP2 HK2 ⊢
       obtain ⟨g13,hg13⟩:∃ g13,g13 = wr.heap.size:=⟨_,rfl⟩
       rw [← hg13] at HP2 ⊢
       clear hg13
       have hcp:=xa0m [] [.slice x1 x2 x3,.slice y1 y2 y3] [] (uh HP2) rfl
       have hQ1:=(show W2.cell? ⟨g13,0,none⟩ = some (.slice x1 x2 x3) from hcp 0 _ rfl)
       have hQ2:=(show W2.cell? ⟨g13,1,none⟩ = some (.slice y1 y2 y3) from hcp 1 _ rfl)
       clear hcp HRG HP2
       have HKE:=hide (uh HKD0 (ka,va) (uh HMEM))
       have HKEY:Hid (∀ w',Kept [] w8 w'→Calls Tryz.prog 33 #[.int .i64 k,.slice z1 z2 z3] w' fun e w''=>e = .returned (.agg (brow ((hsZ k).kd ka)))∧Kept [] w' w''):=by
        have h9:=uh HKE
        have h8:=uh HKEY
        rw [h9] at h8
        exact hide h8
       have hka:=xa1s k (.slice x1 x2 x3) ka W2 hk ((uh HR1).old ((uh HK8r).trans (uh HK2) (by simp)) (by simp)) (by have h1:ka.length≤64:=((uh HM8).fit (ka,va) (uh HSUB (ka,va) (uh HMEM))).1; exact Nat.le_trans h1 (by omega))
       go_wp2_with fail
       refine Calls.mono hka ?_
       rintro e W3 ⟨rfl,k3⟩
       have hkd:(hsZ k).kd ka = sumD (k:Int) (2 :: ka):=rfl
       rw [← hkd]
       have HKAL:=hide (show ((hsZ k).kd ka).length = 32 from ((hsZ_ok hk).dg ka).1)
       have hQ1:=k3.cell hQ1 (by simp)
       have hQ2:=k3.cell hQ2 (by simp)
       have HK3:=hide ((uh HK2).trans k3 (by simp))
       have HZ3:=hide (heap_alloc_new W3 (.cells (zb 32) 64))
       have HA3:=hide ((Kept.refl [] W3).alloc (.cells (zb 32) 64))
       clear k3 hkd hka
       go_upto_region 18 with (refine wpList_store_row rfl 64 (.tmp 14) (.tmp 81) rfl W3.heap.size (brow ((hsZ k).kd ka)) rfl rfl _ (zb 32) (uh HZ3) (by rw [xa0a,uh HKAL]; exact Tryz.size_dig) (by rw [xa0h,xa0a,uh HKAL]) (xa0f _) ?_)
       have HB14:=hide (show ((W3.alloc (.cells #[.int .u8 0,.int .u8 0,.int .u8 0,.int .u8 0,.int .u8 0,.int .u8 0,.int .u8 0,.int .u8 0,.int .u8 0,.int .u8 0,.int .u8 0,.int .u8 0,.int .u8 0,.int .u8 0,.int .u8 0,.int .u8 0,.int .u8 0,.int .u8 0,.int .u8 0,.int .u8 0,.int .u8 0,.int .u8 0,.int .u8 0,.int .u8 0,.int .u8 0,.int .u8 0,.int .u8 0,.int .u8 0,.int .u8 0,.int .u8 0,.int .u8 0,.int .u8 0] 64)).setRow W3.heap.size (brow ((hsZ k).kd ka))).heap[W3.heap.size]? = some (.cells (brow ((hsZ k).kd ka)) 64 (0,0)) from setRow_heap _ _ _ _ _ _ (uh HZ3))
       have HK34:=hide (show Kept [] W3 ((W3.alloc (.cells #[.int .u8 0,.int .u8 0,.int .u8 0,.int .u8 0,.int .u8 0,.int .u8 0,.int .u8 0,.int .u8 0,.int .u8 0,.int .u8 0,.int .u8 0,.int .u8 0,.int .u8 0,.int .u8 0,.int .u8 0,.int .u8 0,.int .u8 0,.int .u8 0,.int .u8 0,.int .u8 0,.int .u8 0,.int .u8 0,.int .u8 0,.int .u8 0,.int .u8 0,.int .u8 0,.int .u8 0,.int .u8 0,.int .u8 0,.int .u8 0,.int .u8 0,.int .u8 0] 64)).setRow W3.heap.size (brow ((hsZ k).kd ka))) from (uh HA3).setRow (g:=W3.heap.size) (Or.inr (Nat.le_refl _)) (brow ((hsZ k).kd ka)))
       generalize (W3.alloc (.cells #[.int .u8 0,.int .u8 0,.int .u8 0,.int .u8 0,.int .u8 0,.int .u8 0,.int .u8 0,.int .u8 0,.int .u8 0,.int .u8 0,.int .u8 0,.int .u8 0,.int .u8 0,.int .u8 0,.int .u8 0,.int .u8 0,.int .u8 0,.int .u8 0,.int .u8 0,.int .u8 0,.int .u8 0,.int .u8 0,.int .u8 0,.int .u8 0,.int .u8 0,.int .u8 0,.int .u8 0,.int .u8 0,.int .u8 0,.int .u8 0,.int .u8 0,.int .u8 0] 64)).setRow W3.heap.size (brow ((hsZ k).kd ka)) = W4 at HB14 HK34 ⊢
       generalize W3.heap.size = g14 at HB14 ⊢
       clear HZ3 HA3
       have HQ4:=hide ((uh HK34).cell hQ1 (by simp))
       have HQ4b:=hide ((uh HK34).cell hQ2 (by simp))
       have HKr4:=hide ((uh HK3).trans (uh HK34) (by simp))
       have HRB:=hide (xa3l (uh HB14))
       have HZ1:=hide (((uh HK8r).trans (uh HKr4) (by simp)).cell (uh HZ0) (by simp))
       clear hQ1 hQ2 HX1 HX2 HTK
       cases i with
       | zero =>
        have hd2:=(Kept.refl [] W4).drew
        refine lg_s18 (by kernel_rfl) (by kernel_rfl) (fun W=>Kept [] W4 W) hd2 ?_
        refine LinG.ld (by rfl) 64 (.tmp 14) rfl g14 0 rfl (((hsZ k).kd ka).map u8) _ (fun W hW=>hW.rng (uh HRB) (by simp)) Tryz.underlying64 rfl (by rw [List.length_map,uh HKAL]; exact Tryz.size_dig) (by simp only [Act.put,sa1,sa2,sa3]; rfl) ?_
        refine LinG.rd (by rfl) (.int .i64 k) (fun W hW=>by go_simp) (by simp only [Act.put,sa1,sa2,sa3]; rfl) ?_
        refine LinG.rd (by rfl) (.slice (some ⟨eb,eoff,none⟩) en ec) (fun W hW=>by go_simp) (by simp only [Act.put,sa1,sa2,sa3]; rfl) ?_
        refine LinG.rd (by rfl) (.pointer (some ⟨eb,eoff,none⟩)) (fun W hW=>by go_simp) (by simp only [Act.put,sa1,sa2,sa3]; rfl) ?_
        refine LinG.rd (by rfl) (.pointer (some ⟨eb,eoff,none⟩)) (fun W hW=>by go_simp) (by simp only [Act.put,sa1,sa2,sa3]; rfl) ?_
        refine LinG.rd (by rfl) (.slice z1 z2 z3) (fun W hW=>by have h9:=hW.cell (uh HZ1) (by simp); go_simp) (by simp only [Act.put,sa1,sa2,sa3]; rfl) ?_
        refine LinG.fin (ChG.call (by rfl) rfl Tryz.call33 [.int .i64 k,.slice z1 z2 z3] rfl (uh HKEY W4.drew (((uh HK8r).trans (uh HKr4) (by simp)).trans hd2 (by simp))) ?_)
        rintro e w5 ⟨rfl,k5⟩
        have hk5:=hd2.trans k5 (by simp)
        refine ⟨_,rfl,hk5,?_⟩
        simp only [Act.put,sa1,sa2,sa3]
        refine ChG.op (by rfl) (.bool false) (xa7x 64 (.tmp 82) (.tmp 88) 64 rfl (brow ((hsZ k).kd ka)) (brow ((hsZ k).kd ka)) rfl rfl w5 true (by kernel_rfl) (by have h9:=dig_eq w5 ((hsZ k).kd ka) ((hsZ k).kd ka) (uh HKAL) (uh HKAL); rw [decide_eq_true rfl] at h9; exact h9)) hk5 (by simp only [Act.put,sa1,sa2,sa3]; rfl) ?_
        refine ChG.op (by rfl) (.bool false) (by go_simp) hk5 (by simp only [Act.put,sa1,sa2,sa3]; rfl) (ChG.fin ⟨hk5,?_⟩)
        refine LinG.rd (by rfl) (.int .i64 0) (fun W hW=>by go_simp) (by simp only [Act.put,sa1,sa2,sa3]; rfl) ?_
        refine LinG.rd (by rfl) (.bool false) (fun W hW=>by go_simp) (by simp only [Act.put,sa1,sa2,sa3]; rfl) ?_
        refine LinG.rd (by rfl) (.bool false) (fun W hW=>by go_simp) (by simp only [Act.put,sa1,sa2,sa3]; rfl) ?_
        refine LinG.no (by rfl) (by simp only [Act.put,sa1,sa2,sa3]; rfl) ?_
        refine LinG.no (by rfl) (by simp only [Act.put,sa1,sa2,sa3]; rfl) ?_
        refine LinG.no (by rfl) (by simp only [Act.put,sa1,sa2,sa3]; rfl) ?_
        refine LinG.no (by rfl) (by simp only [Act.put,sa1,sa2,sa3]; rfl) ?_
        refine LinG.no (by rfl) (by simp only [Act.put,sa1,sa2,sa3]; rfl) ?_
        refine LinG.no (by rfl) (by simp only [Act.put,sa1,sa2,sa3]; rfl) ?_
        refine LinG.no (by rfl) (by simp only [Act.put,sa1,sa2,sa3]; rfl) ?_
        refine LinG.no (by rfl) (by simp only [Act.put,sa1,sa2,sa3]; rfl) ?_
        refine LinG.no (by rfl) (by simp only [Act.put,sa1,sa2,sa3]; rfl) ?_
        refine LinG.no (by rfl) (by simp only [Act.put,sa1,sa2,sa3]; rfl) ?_
        refine LinG.no (by rfl) (by simp only [Act.put,sa1,sa2,sa3]; rfl) ?_
        refine LinG.rd (by rfl) (.bool false) (fun W hW=>by go_simp) (by simp only [Act.put,sa1,sa2,sa3]; rfl) ?_
        refine LinG.rd (by rfl) (.bool false) (fun W hW=>by go_simp) (by simp only [Act.put,sa1,sa2,sa3]; rfl) ?_
        refine LinG.fin ?_
        have HK5:=hide ((uh HKr4).trans hk5 (by simp))
        have HQ5:=hide (hk5.cell (uh HQ4) (by simp))
        have HQ6:=hide (hk5.cell (uh HQ4b) (by simp))
        have H14:=hide (show w5.heap[g14]? = some (.cells (brow ((hsZ k).kd ka)) 64 (0,0)) from (hk5.block g14 (lt_of_block (uh HB14)) (by simp)).trans (uh HB14))
        have HK105:=hide ((uh HKr).trans (uh HK5) (by simp))
        have H11:=hide (show w5.heap[g11]? = some (.cells (brow ((hsZ k).kd q)) 64 (0,0)) from ((uh HK105).block g11 (lt_of_block (uh HR10)) (by simp)).trans (uh HR10))
        clear hk5 k5 hd2
        obtain ⟨wo,hwo⟩:∃ wo,wo = wr:=⟨_,rfl⟩
        subst hwo
        go_wp2_with fail
        go_loopw [15] (fun t15 wr=>∃ (j:Nat),t15 = .int .i64 j∧j≤(mm + 1)∧Hid (Kept [] w5 wr)) (fun t _=>(mm + 1) - (intOf t).toNat)
        case atStart=>exact ⟨0,rfl,Nat.zero_le _,hide (Kept.refl _ _)⟩
        case round =>
         obtain ⟨j,rfl,hj,HKj⟩:=hrel
         by_cases hjm:j < (mm + 1)
         ·have hjm2:(j:Int) < ((mm + 1):Nat):=by omega
          have hj64:j < 64:=by omega
          have HA14:=hide (xa3l (show wr.heap[g14]? = some (.cells (brow ((hsZ k).kd ka)) 64 (0,0)) from ((uh HKj).block g14 (lt_of_block (uh H14)) (by simp)).trans (uh H14)))
          have HA11:=hide (xa3l (show wr.heap[g11]? = some (.cells (brow ((hsZ k).kd q)) 64 (0,0)) from ((uh HKj).block g11 (lt_of_block (uh H11)) (by simp)).trans (uh H11)))
          have HDE:=hide (show dgt ((hsZ k).kd ka) j = dgt ((hsZ k).kd q) j from uh HON (ka,va) (uh HMEM) j hjm)
          go_upto_region 23 with fail
          have hq2:=(Kept.refl [] wr).drew
          refine lg_s23 (by kernel_rfl) (by kernel_rfl) rfl (fun W=>Kept [] wr W) hq2 ?_
          refine LinY.ld 64 (.tmp 14) rfl g14 0 rfl (((hsZ k).kd ka).map u8) _ (fun W hW=>hW.rng (uh HA14) (by simp)) Tryz.underlying64 rfl (by rw [List.length_map,uh HKAL]; exact Tryz.size_dig) (by simp only [Act.put,sa1,sa2,sa3]; rfl) ?_
          refine LinY.rd (.int .i64 j) (fun W hW=>by go_simp) (by simp only [Act.put,sa1,sa2,sa3]; rfl) ?_
          refine LinY.ld 64 (.tmp 11) rfl g11 0 rfl (((hsZ k).kd q).map u8) _ (fun W hW=>hW.rng (uh HA11) (by simp)) Tryz.underlying64 rfl (by rw [List.length_map,uh HKL]; exact Tryz.size_dig) (by simp only [Act.put,sa1,sa2,sa3]; rfl) ?_
          refine LinY.rd (.int .i64 j) (fun W hW=>by go_simp) (by simp only [Act.put,sa1,sa2,sa3]; rfl) ?_
          refine LinY.fin (ChL.call rfl Tryz.call30 [.agg (brow ((hsZ k).kd ka)),.int .i64 j] rfl (xa2j ((hsZ k).kd ka) j wr.drew ((hsZ_ok hk).dg ka) hj64) ?_)
          rintro e w6 ⟨rfl,k6⟩
          have hk6:=hq2.trans k6 (by simp)
          refine ⟨_,rfl,hk6,?_⟩
          simp only [Act.put,sa1,sa2,sa3]
          refine ChL.call rfl Tryz.call30 [.agg (brow ((hsZ k).kd q)),.int .i64 j] rfl (xa2j ((hsZ k).kd q) j w6 ((hsZ_ok hk).dg q) hj64) ?_
          rintro e w7 ⟨rfl,k7⟩
          have hk7:=hk6.trans k7 (by simp)
          refine ⟨_,rfl,hk7,?_⟩
          simp only [Act.put,sa1,sa2,sa3]
          rw [uh HDE]
          generalize dgt ((hsZ k).kd q) j = dd
          refine ChL.op (.bool false) (by go_simp) hk7 (by simp only [Act.put,sa1,sa2,sa3]; rfl) (ChL.fin ?_)
          have HK7:=hide ((uh HKj).trans hk7 (by simp))
          clear hk7 k7 hk6 k6 hq2 HA14 HA11
          go_wp2_with fail
          refine ⟨⟨j + 1,by go_num,hjm,HK7⟩,?_⟩
          simp [intOf]; try omega
         ·have hjm2:¬ (j:Int) < ((mm + 1):Nat):=by omega
          have hq5:=(uh HKj).cell (uh HQ5) (by simp)
          have HK10j:=hide ((uh HK105).trans (uh HKj) (by simp))
          have HK8j:=hide ((uh HK10).trans (uh HK10j) (by simp))
          go_wp2_with fail
          refine Calls.mono (xa3a S k _ _ L ka wr ((uh HM8).agr (Agr.nil (uh HK8j))) ((uh HR1).old (uh HK8j) (by simp)) ((uh HM8).fit (ka,va) (uh HSUB (ka,va) (uh HMEM))).1 ((uh HT).k ((uh HKX).trans (uh HK10j) (by simp)))) ?_
          rintro e w11 ⟨ov,rfl,r11,_,k11⟩
          have hgv:getP ka L = some va:=(xa2x (uh HM8).srt).2 (uh HSUB (ka,va) (uh HMEM))
          have hfv:fnd ka L = true:=by rw [xa5b,hgv]; rfl
          rw [hgv] at r11
          rw [hfv]
          have r11:Rd w11 ov va:=r11
          have HR11:=hide r11
          have hq6:=k11.cell ((uh HKj).cell (uh HQ6) (by simp)) (by simp)
          have HK11:=hide ((uh HK10j).trans k11 (by simp))
          have HK8e:=hide ((uh HK8j).trans k11 (by simp))
          obtain ⟨o1,o2,o3,rfl,_⟩:=id r11
          clear hgv hfv r11 k11 hq5
          go_wp2_with fail
          refine Calls.mono (same_k _ _ va va w11 (uh HR11) ((uh HR2).old (uh HK8e) (by simp))) ?_
          rintro e w12 ⟨rfl,k12⟩
          rw [decide_eq_true rfl]
          have HK12:=hide ((uh HK11).trans k12 (by simp))
          clear k12 hq6
          go_wp2_with fail
          refine ⟨⟨0 + 1,by go_num,hlt,HK12⟩,?_⟩
          simp [intOf]; try omega
       | succ p =>
        obtain ⟨hu1,_⟩:=uh HECL p (by omega)
        obtain ⟨hrp,_⟩:=uh HERD p (by omega)
        have HOR:=hide (uh HPRV p rfl)
        generalize eks.getD p undef = up at hu1 hrp
        generalize (E.getD p ([],[])).1 = kp at hrp HOR
        have HRP:=hide hrp
        have HLS:=hide (less_H hrp.byte (uh HR1).byte (uh HOR))
        obtain ⟨u1,u2,u3,rfl,_⟩:=id hrp
        have HU1:=hide (((uh HK8r).trans (uh HKr4) (by simp)).cell hu1 (by simp))
        have hwp:IntKind.i64.wrap (((p + 1:Nat):Int) - 1) = (p:Int):=by simp [IntKind.wrap,IntKind.signed,IntKind.bits]; omega
        have hwp2:IntKind.i64.wrap (p:Int) = (p:Int):=by simp [IntKind.wrap,IntKind.signed,IntKind.bits]; omega
        have hpe:p < en:=by omega
        have hpe2:¬ en≤p:=by omega
        clear hu1 hrp
        have hd2:=(Kept.refl [] W4).drew
        refine lg_s18 (by kernel_rfl) (by kernel_rfl) (fun W=>Kept [] W4 W) hd2 ?_
        refine LinG.ld (by rfl) 64 (.tmp 14) rfl g14 0 rfl (((hsZ k).kd ka).map u8) _ (fun W hW=>hW.rng (uh HRB) (by simp)) Tryz.underlying64 rfl (by rw [List.length_map,uh HKAL]; exact Tryz.size_dig) (by simp only [Act.put,sa1,sa2,sa3]; rfl) ?_
        refine LinG.rd (by rfl) (.int .i64 k) (fun W hW=>by go_simp) (by simp only [Act.put,sa1,sa2,sa3]; rfl) ?_
        refine LinG.rd (by rfl) (.slice (some ⟨eb,eoff,none⟩) en ec) (fun W hW=>by go_simp) (by simp only [Act.put,sa1,sa2,sa3]; rfl) ?_
        refine LinG.rd (by rfl) (.pointer (some ⟨eb,eoff,none⟩)) (fun W hW=>by go_simp) (by simp only [Act.put,sa1,sa2,sa3]; rfl) ?_
        refine LinG.rd (by rfl) (.pointer (some ⟨eb,eoff,none⟩)) (fun W hW=>by go_simp) (by simp only [Act.put,sa1,sa2,sa3]; rfl) ?_
        refine LinG.rd (by rfl) (.slice z1 z2 z3) (fun W hW=>by have h9:=hW.cell (uh HZ1) (by simp); go_simp) (by simp only [Act.put,sa1,sa2,sa3]; rfl) ?_
        refine LinG.fin (ChG.call (by rfl) rfl Tryz.call33 [.int .i64 k,.slice z1 z2 z3] rfl (uh HKEY W4.drew (((uh HK8r).trans (uh HKr4) (by simp)).trans hd2 (by simp))) ?_)
        rintro e w5 ⟨rfl,k5⟩
        have hk5:=hd2.trans k5 (by simp)
        refine ⟨_,rfl,hk5,?_⟩
        simp only [Act.put,sa1,sa2,sa3]
        refine ChG.op (by rfl) (.bool false) (xa7x 64 (.tmp 82) (.tmp 88) 64 rfl (brow ((hsZ k).kd ka)) (brow ((hsZ k).kd ka)) rfl rfl w5 true (by kernel_rfl) (by have h9:=dig_eq w5 ((hsZ k).kd ka) ((hsZ k).kd ka) (uh HKAL) (uh HKAL); rw [decide_eq_true rfl] at h9; exact h9)) hk5 (by simp only [Act.put,sa1,sa2,sa3]; rfl) ?_
        refine ChG.op (by rfl) (.bool false) (by go_simp) hk5 (by simp only [Act.put,sa1,sa2,sa3]; rfl) (ChG.fin ⟨hk5,?_⟩)
        refine LinG.rd (by rfl) (.int .i64 (p + 1:Nat)) (fun W hW=>by go_simp) (by simp only [Act.put,sa1,sa2,sa3]; rfl) ?_
        refine LinG.rd (by rfl) (.bool true) (fun W hW=>by go_simp) (by simp only [Act.put,sa1,sa2,sa3]; rfl) ?_
        refine LinG.rd (by rfl) (.bool true) (fun W hW=>by go_simp) (by simp only [Act.put,sa1,sa2,sa3]; rfl) ?_
        refine LinG.rd (by rfl) (.slice (some ⟨eb,eoff,none⟩) en ec) (fun W hW=>by go_simp) (by simp only [Act.put,sa1,sa2,sa3]; rfl) ?_
        refine LinG.rd (by rfl) (.int .i64 (p + 1:Nat)) (fun W hW=>by go_simp) (by simp only [Act.put,sa1,sa2,sa3]; rfl) ?_
        refine LinG.rd (by rfl) (.int .i64 p) (fun W hW=>by go_simp) (by simp only [Act.put,sa1,sa2,sa3]; rfl) ?_
        refine LinG.rd (by rfl) (.pointer (some ⟨eb,eoff + p * 2,none⟩)) (fun W hW=>by go_simp) (by simp only [Act.put,sa1,sa2,sa3]; rfl) ?_
        refine LinG.rd (by rfl) (.pointer (some ⟨eb,eoff + p * 2,none⟩)) (fun W hW=>by go_simp) (by simp only [Act.put,sa1,sa2,sa3]; rfl) ?_
        refine LinG.rd (by rfl) (.slice u1 u2 u3) (fun W hW=>by have h9:=hW.cell (uh HU1) (by simp); go_simp) (by simp only [Act.put,sa1,sa2,sa3]; rfl) ?_
        refine LinG.rd (by rfl) (.string (strOfH kp)) (fun W hW=>xa3v rfl rfl ((uh HRP).old (((uh HK8r).trans (uh HKr4) (by simp)).trans hW (by simp)) (by simp))) (by simp only [Act.put,sa1,sa2,sa3]; rfl) ?_
        refine LinG.rd (by rfl) (.pointer (some ⟨g13,0,none⟩)) (fun W hW=>by go_simp) (by simp only [Act.put,sa1,sa2,sa3]; rfl) ?_
        refine LinG.rd (by rfl) (.slice x1 x2 x3) (fun W hW=>by have h9:=hW.cell (uh HQ4) (by simp); go_simp) (by simp only [Act.put,sa1,sa2,sa3]; rfl) ?_
        refine LinG.rd (by rfl) (.string (strOfH ka)) (fun W hW=>xa3v rfl rfl ((uh HR1).old (((uh HK8r).trans (uh HKr4) (by simp)).trans hW (by simp)) (by simp))) (by simp only [Act.put,sa1,sa2,sa3]; rfl) ?_
        refine LinG.rd (by rfl) (.bool false) (fun W hW=>by have h9:=uh HLS; go_simp) (by simp only [Act.put,sa1,sa2,sa3]; rfl) ?_
        refine LinG.rd (by rfl) (.bool false) (fun W hW=>by go_simp) (by simp only [Act.put,sa1,sa2,sa3]; rfl) ?_
        refine LinG.rd (by rfl) (.bool false) (fun W hW=>by go_simp) (by simp only [Act.put,sa1,sa2,sa3]; rfl) ?_
        refine LinG.fin ?_
        have HK5:=hide ((uh HKr4).trans hk5 (by simp))
        have HQ5:=hide (hk5.cell (uh HQ4) (by simp))
        have HQ6:=hide (hk5.cell (uh HQ4b) (by simp))
        have H14:=hide (show w5.heap[g14]? = some (.cells (brow ((hsZ k).kd ka)) 64 (0,0)) from (hk5.block g14 (lt_of_block (uh HB14)) (by simp)).trans (uh HB14))
        have HK105:=hide ((uh HKr).trans (uh HK5) (by simp))
        have H11:=hide (show w5.heap[g11]? = some (.cells (brow ((hsZ k).kd q)) 64 (0,0)) from ((uh HK105).block g11 (lt_of_block (uh HR10)) (by simp)).trans (uh HR10))
        clear hk5 k5 hd2
        obtain ⟨wo,hwo⟩:∃ wo,wo = wr:=⟨_,rfl⟩
        subst hwo
        go_wp2_with fail
        go_loopw [15] (fun t15 wr=>∃ (j:Nat),t15 = .int .i64 j∧j≤(mm + 1)∧Hid (Kept [] w5 wr)) (fun t _=>(mm + 1) - (intOf t).toNat)
        case atStart=>exact ⟨0,rfl,Nat.zero_le _,hide (Kept.refl _ _)⟩
        case round =>
         obtain ⟨j,rfl,hj,HKj⟩:=hrel
         by_cases hjm:j < (mm + 1)
         ·have hjm2:(j:Int) < ((mm + 1):Nat):=by omega
          have hj64:j < 64:=by omega
          have HA14:=hide (xa3l (show wr.heap[g14]? = some (.cells (brow ((hsZ k).kd ka)) 64 (0,0)) from ((uh HKj).block g14 (lt_of_block (uh H14)) (by simp)).trans (uh H14)))
          have HA11:=hide (xa3l (show wr.heap[g11]? = some (.cells (brow ((hsZ k).kd q)) 64 (0,0)) from ((uh HKj).block g11 (lt_of_block (uh H11)) (by simp)).trans (uh H11)))
          have HDE:=hide (show dgt ((hsZ k).kd ka) j = dgt ((hsZ k).kd q) j from uh HON (ka,va) (uh HMEM) j hjm)
          go_upto_region 23 with fail
          have hq2:=(Kept.refl [] wr).drew
          refine lg_s23 (by kernel_rfl) (by kernel_rfl) rfl (fun W=>Kept [] wr W) hq2 ?_
          refine LinY.ld 64 (.tmp 14) rfl g14 0 rfl (((hsZ k).kd ka).map u8) _ (fun W hW=>hW.rng (uh HA14) (by simp)) Tryz.underlying64 rfl (by rw [List.length_map,uh HKAL]; exact Tryz.size_dig) (by simp only [Act.put,sa1,sa2,sa3]; rfl) ?_
          refine LinY.rd (.int .i64 j) (fun W hW=>by go_simp) (by simp only [Act.put,sa1,sa2,sa3]; rfl) ?_
          refine LinY.ld 64 (.tmp 11) rfl g11 0 rfl (((hsZ k).kd q).map u8) _ (fun W hW=>hW.rng (uh HA11) (by simp)) Tryz.underlying64 rfl (by rw [List.length_map,uh HKL]; exact Tryz.size_dig) (by simp only [Act.put,sa1,sa2,sa3]; rfl) ?_
          refine LinY.rd (.int .i64 j) (fun W hW=>by go_simp) (by simp only [Act.put,sa1,sa2,sa3]; rfl) ?_
          refine LinY.fin (ChL.call rfl Tryz.call30 [.agg (brow ((hsZ k).kd ka)),.int .i64 j] rfl (xa2j ((hsZ k).kd ka) j wr.drew ((hsZ_ok hk).dg ka) hj64) ?_)
          rintro e w6 ⟨rfl,k6⟩
          have hk6:=hq2.trans k6 (by simp)
          refine ⟨_,rfl,hk6,?_⟩
          simp only [Act.put,sa1,sa2,sa3]
          refine ChL.call rfl Tryz.call30 [.agg (brow ((hsZ k).kd q)),.int .i64 j] rfl (xa2j ((hsZ k).kd q) j w6 ((hsZ_ok hk).dg q) hj64) ?_
          rintro e w7 ⟨rfl,k7⟩
          have hk7:=hk6.trans k7 (by simp)
          refine ⟨_,rfl,hk7,?_⟩
          simp only [Act.put,sa1,sa2,sa3]
          rw [uh HDE]
          generalize dgt ((hsZ k).kd q) j = dd
          refine ChL.op (.bool false) (by go_simp) hk7 (by simp only [Act.put,sa1,sa2,sa3]; rfl) (ChL.fin ?_)
          have HK7:=hide ((uh HKj).trans hk7 (by simp))
          clear hk7 k7 hk6 k6 hq2 HA14 HA11
          go_wp2_with fail
          refine ⟨⟨j + 1,by go_num,hjm,HK7⟩,?_⟩
          simp [intOf]; try omega
         ·have hjm2:¬ (j:Int) < ((mm + 1):Nat):=by omega
          have hq5:=(uh HKj).cell (uh HQ5) (by simp)
          have HK10j:=hide ((uh HK105).trans (uh HKj) (by simp))
          have HK8j:=hide ((uh HK10).trans (uh HK10j) (by simp))
          go_wp2_with fail
          refine Calls.mono (xa3a S k _ _ L ka wr ((uh HM8).agr (Agr.nil (uh HK8j))) ((uh HR1).old (uh HK8j) (by simp)) ((uh HM8).fit (ka,va) (uh HSUB (ka,va) (uh HMEM))).1 ((uh HT).k ((uh HKX).trans (uh HK10j) (by simp)))) ?_
          rintro e w11 ⟨ov,rfl,r11,_,k11⟩
          have hgv:getP ka L = some va:=(xa2x (uh HM8).srt).2 (uh HSUB (ka,va) (uh HMEM))
          have hfv:fnd ka L = true:=by rw [xa5b,hgv]; rfl
          rw [hgv] at r11
          rw [hfv]
          have r11:Rd w11 ov va:=r11
          have HR11:=hide r11
          have hq6:=k11.cell ((uh HKj).cell (uh HQ6) (by simp)) (by simp)
          have HK11:=hide ((uh HK10j).trans k11 (by simp))
          have HK8e:=hide ((uh HK8j).trans k11 (by simp))
          obtain ⟨o1,o2,o3,rfl,_⟩:=id r11
          clear hgv hfv r11 k11 hq5
          go_wp2_with fail
          refine Calls.mono (same_k _ _ va va w11 (uh HR11) ((uh HR2).old (uh HK8e) (by simp))) ?_
          rintro e w12 ⟨rfl,k12⟩
          rw [decide_eq_true rfl]
          have HK12:=hide ((uh HK11).trans k12 (by simp))
          clear k12 hq6
          go_wp2_with fail
          refine ⟨⟨p + 1 + 1,by go_num,hlt,HK12⟩,?_⟩
          simp [intOf]; try omega
      ·have hlt2:¬ (i:Int) < en:=by omega
       have HKf:=hide ((uh HK10).trans (uh HKr) (by simp))
       have HKg:=hide ((uh HKX).trans (uh HKr) (by simp))
       go_wp2_with fail
       refine Calls.mono (xa3a S k _ _ L q wr ((uh HM8).agr (Agr.nil (uh HKf))) ((uh HQ).old (uh HKg) (by simp)) (uh HQ64) ((uh HT).k (uh HKg))) ?_
       rintro e w40 ⟨ov,rfl,_,_,k40⟩
       rw [uh HFN]
       have HK40:=hide ((uh HKr).trans k40 (by simp))
       clear k40 HKf HKg
       go_wp2_with fail
       go_loopw [22,151] (fun t22 t151 wr=>∃ (i:Nat) (fb:Bool),t151 = .int .i64 i∧t22 = .bool fb∧i≤en∧Hid (fb = (E.take i).any (fun x=>decide (x.1 = q)))∧Hid (Kept [] W10 wr)) (fun _ t _=>en - (intOf t).toNat)
       case atStart=>exact ⟨0,false,rfl,rfl,Nat.zero_le _,hide (by simp),HK40⟩
       case round =>
        obtain ⟨i,fb,rfl,rfl,hi,HFB,HKr⟩:=hrel
        have HK8r:=hide ((uh HK10).trans (uh HKr) (by simp))
        have HKXr:=hide ((uh HKX).trans (uh HKr) (by simp))
        by_cases hlt:i < en
        ·have hlt2:(i:Int) < en:=by omega
         obtain ⟨hx1,hx2⟩:=uh HECL i (by omega)
         obtain ⟨hr1,hr2⟩:=uh HERD i (by omega)
         have hjL:i < E.length:=by have:=uh HEN; omega
         have HTK:=hide (show (E.take (i + 1)).any (fun x=>decide (x.1 = q)) = ((E.take i).any (fun x=>decide (x.1 = q)) || decide ((E.getD i ([],[])).1 = q)) by
          rw [List.take_succ_eq_append_getElem hjL,List.any_append,List.getD_eq_getElem?_getD,List.getElem?_eq_getElem hjL]; simp)
         have HMEM:=hide (show E.getD i ([],[])∈E by rw [List.getD_eq_getElem?_getD,List.getElem?_eq_getElem hjL]; exact List.getElem_mem hjL)
         have HPRV:=hide (fun (p:Nat) (h:i = p + 1)=>show ordL (E.getD p ([],[])).1 (E.getD i ([],[])).1 < 0 by subst h; exact xa8m (uh HSRT) (uh HSG) hjL)
         have HPRV:Hid (∀ p,i = p + 1→ordL (E.getD p ([],[])).1 (E.getD i ([],[])).1 < 0):=HPRV
         generalize eks.getD i undef = kx at hx1 hr1
         generalize evs.getD i undef = vx at hx2 hr2
         generalize E.getD i ([],[]) = ej at hr1 hr2 HTK HMEM HPRV
         obtain ⟨ka,va⟩:=ej
         have HR1:=hide hr1
         have HR2:=hide hr2
         obtain ⟨x1,x2,x3,rfl,_⟩:=id hr1
         obtain ⟨y1,y2,y3,rfl,_⟩:=id hr2
         have HX1:=hide ((uh HK8r).cell hx1 (by simp))
         have HX2:=hide ((uh HK8r).cell hx2 (by simp))
         clear hx1 hx2 hr1 hr2 hjL
         have HRG:=hide (show wr.rangeAt eb (eoff + i * 2) [.slice x1 x2 x3,.slice y1 y2 y3] from fun y u hy=>by
          match y,hy with
          | 0,hy=>rw [Nat.add_zero,uh HX1]; exact hy
          | 1,hy=>rw [uh HX2]; exact hy)
         have HP2:=hide (heap_alloc_new wr (.cells #[.slice x1 x2 x3,.slice y1 y2 y3] 46))
         have HK2:=hide ((Kept.refl [] wr).alloc (.cells #[.slice x1 x2 x3,.slice y1 y2 y3] 46))
         go_upto_region 34 with (refine wpList_load_mid rfl 46 (.tmp 153) rfl eb (eoff + i * 2) rfl [.slice x1 x2 x3,.slice y1 y2 y3] _ (uh HRG) Tryz.underlying46 rfl Tryz.size_pair ?_)
         try simp only [Act.put]
         generalize wr.alloc (.cells #[.slice x1 x2 x3,.slice y1 y2 y3] 46) = W2 at HP2 HK2 ⊢
         obtain ⟨g13,hg13⟩:∃ g13,g13 = wr.heap.size:=⟨_,rfl⟩
         rw [← hg13] at HP2 ⊢
         clear hg13
         have hcp:=xa0m [] [.slice x1 x2 x3,.slice y1 y2 y3] [] (uh HP2) rfl
         have hQ1:=(show W2.cell? ⟨g13,0,none⟩ = some (.slice x1 x2 x3) from hcp 0 _ rfl)
         have hQ2:=(show W2.cell? ⟨g13,1,none⟩ = some (.slice y1 y2 y3) from hcp 1 _ rfl)
         clear hcp HRG HP2
         have HK102:=hide ((uh HKr).trans (uh HK2) (by simp))
         have HTK:Hid ((E.take (i + 1)).any (fun x=>decide (x.1 = q)) = ((E.take i).any (fun x=>decide (x.1 = q)) || decide (ka = q))):=HTK
         cases fb with
         | true =>
          go_wp2_with fail
          refine ⟨⟨i + 1,true,by go_num,rfl,hlt,hide (by rw [uh HTK,← uh HFB]; rfl),HK102⟩,?_⟩
          simp [intOf]; try omega
         | false =>
          go_wp2_with fail
          refine Calls.mono (same_k _ _ ka q W2 ((uh HR1).old ((uh HK8r).trans (uh HK2) (by simp)) (by simp)) ((uh HQ).old ((uh HKXr).trans (uh HK2) (by simp)) (by simp))) ?_
          rintro e w41 ⟨rfl,k41⟩
          obtain ⟨sb,hsb⟩:∃ sb,sb = decide (ka = q):=⟨_,rfl⟩
          rw [← hsb]
          have HK41:=hide ((uh HK102).trans k41 (by simp))
          have HTK2:=hide (show (E.take (i + 1)).any (fun x=>decide (x.1 = q)) = sb by rw [uh HTK,← uh HFB,hsb,Bool.false_or])
          clear k41 hsb hQ1 hQ2
          go_wp2_with fail
          refine ⟨⟨i + 1,sb,by go_num,by first | rfl | simp,hlt,hide (uh HTK2).symm,HK41⟩,?_⟩
          simp [intOf]; try omega
        ·have hlt2:¬ (i:Int) < en:=by omega
         have hfe:E.any (fun x=>decide (x.1 = q)) = fb:=by have h9:=uh HFB; rw [List.take_of_length_le (by have:=uh HEN; omega)] at h9; exact h9.symm
         rw [hfe]
         clear hfe HFB
         have hbb:(fb == fb) = true:=by cases fb <;> rfl
         go_wp2_with fail
         go_ret
         exact ⟨by first | rfl | simp,(uh HKXr).below (Nat.le_refl _) (by simp)⟩
   ·have he1:¬ (0:Int) < en:=by omega
    have hE0:(dnL (hsZ k) q L m).any (fun x=>decide (x.1 = q)) = false:=by
     have h9:dnL (hsZ k) q L m = []:=List.eq_nil_of_length_eq_zero (by have h8:=uh HEN; omega)
     rw [h9]; rfl
    by_cases hm0:0 < m
    ·have hm1:(0:Int) < m:=by omega
     go_wp2_with fail
     go_loopw [73] (fun t73 wr=>t73 = .int .i64 0∧Hid (Kept [] W10 wr)) (fun _ _=>0)
     case atStart=>exact ⟨rfl,hide (Kept.refl _ _)⟩
     case round =>
      obtain ⟨rfl,HKr⟩:=hrel
      have hlt2:¬ (0:Int) < en:=by omega
      have HKf:=hide ((uh HK10).trans (uh HKr) (by simp))
      have HKg:=hide ((uh HKX).trans (uh HKr) (by simp))
      go_wp2_with fail
      refine Calls.mono (xa3a S k _ _ L q wr ((uh HM8).agr (Agr.nil (uh HKf))) ((uh HQ).old (uh HKg) (by simp)) (uh HQ64) ((uh HT).k (uh HKg))) ?_
      rintro e w40 ⟨ov,rfl,_,_,k40⟩
      rw [uh HFN]
      rw [hE0]
      have HK40:=hide ((uh HKr).trans k40 (by simp))
      clear k40 HKf HKg
      go_wp2_with fail
      go_loopw [22,151] (fun t22 t151 wr=>t151 = .int .i64 0∧t22 = .bool false∧Hid (Kept [] W10 wr)) (fun _ _ _=>0)
      case atStart=>exact ⟨rfl,rfl,HK40⟩
      case round =>
       obtain ⟨rfl,rfl,HKr⟩:=hrel
       have hlt2:¬ (0:Int) < en:=by omega
       go_wp2_with fail
       go_ret
       exact ⟨by first | rfl | simp,((uh HKX).trans (uh HKr) (by simp)).below (Nat.le_refl _) (by simp)⟩
    ·have hm1:¬ (0:Int) < m:=by omega
     go_wp2_with fail
     go_loopw [73] (fun t73 wr=>t73 = .int .i64 0∧Hid (Kept [] W10 wr)) (fun _ _=>0)
     case atStart=>exact ⟨rfl,hide (Kept.refl _ _)⟩
     case round =>
      obtain ⟨rfl,HKr⟩:=hrel
      have hlt2:¬ (0:Int) < en:=by omega
      have HKf:=hide ((uh HK10).trans (uh HKr) (by simp))
      have HKg:=hide ((uh HKX).trans (uh HKr) (by simp))
      go_wp2_with fail
      refine Calls.mono (xa3a S k _ _ L q wr ((uh HM8).agr (Agr.nil (uh HKf))) ((uh HQ).old (uh HKg) (by simp)) (uh HQ64) ((uh HT).k (uh HKg))) ?_
      rintro e w40 ⟨ov,rfl,_,_,k40⟩
      rw [uh HFN]
      rw [hE0]
      have HK40:=hide ((uh HKr).trans k40 (by simp))
      clear k40 HKf HKg
      go_wp2_with fail
      go_loopw [22,151] (fun t22 t151 wr=>t151 = .int .i64 0∧t22 = .bool false∧Hid (Kept [] W10 wr)) (fun _ _ _=>0)
      case atStart=>exact ⟨rfl,rfl,HK40⟩
      case round =>
       obtain ⟨rfl,rfl,HKr⟩:=hrel
       have hlt2:¬ (0:Int) < en:=by omega
       go_wp2_with fail
       go_ret
       exact ⟨by first | rfl | simp,((uh HKX).trans (uh HKr) (by simp)).below (Nat.le_refl _) (by simp)⟩
  ·have hqi:(64:Int) < qn:=by have:=uh HQN; omega
   clear hw
   go_wp2_with fail
   go_ret
   exact ⟨rfl,(uh HK1).below (Nat.le_refl _) (by simp)⟩
end
section
open Go.ChangeShapes Go.WideShapes Go.ChangeAt Go.RowKit Go.Deep
theorem own:ownKnob Tryz.prog.godebug = none:=by kernel_rfl
theorem laidOut:laidOutB Tryz.prog = true:=by kernel_rfl
theorem xa6a {x:Int} (h:(Lit.int .u8 x).wf = true):0≤x∧x < 256:=by
 simp [Lit.wf,IntKind.min,IntKind.max,IntKind.signed,IntKind.bits] at h
 exact ⟨by omega,by omega⟩
theorem xb2r {x:Int} (h:(Lit.int .i64 x).wf = true):-9223372036854775808≤x∧x≤9223372036854775807:=by
 simp [Lit.wf,IntKind.min,IntKind.max,IntKind.signed,IntKind.bits] at h
 exact ⟨by omega,by omega⟩
theorem xb6x {H:Type} (d:DataW H):1≤Rows.uptoBulk d:=by
 cases d with
 | lit l=>cases l <;> simp [Rows.uptoBulk]
 | nil=>simp [Rows.uptoBulk]
 | ptr d=>simp [Rows.uptoBulk]
 | slice elems spare=>simp [Rows.uptoBulk]
 | agg parts=>simp [Rows.uptoBulk]
 | iface t d=>simp [Rows.uptoBulk]
 | map entries=>simp [Rows.uptoBulk]
 | held h=>simp [Rows.uptoBulk]
theorem xb5q {H:Type} (l:List (DataW H)):l.length≤Rows.uptoBulkAll l:=by
 induction l with
 | nil=>simp [Rows.uptoBulkAll]
 | cons x r ih=>have:=xb6x x; simp only [Rows.uptoBulkAll,List.length_cons]; omega
section
variable {H:Type} {enc:TypeId × Value→H} {W:World}
theorem xa4j {fuel:Nat} {cs:List Value} {x:DataW H × List MemPlace} (h:DataW.trod enc Tryz.prog W 0 (fun _=>true) true fuel 32 cs = some x) :
  ∃ v bs,cs = [v]∧(bs.length≤140737488355328→Rd W v bs)∧((bs = []∧x.1 = .nil)∨∃ elems spare,x.1 = .slice elems spare∧elems.length = bs.length):=by
 rcases open_ints Tryz.underlying32 Tryz.underlying5 (by kernel_rfl) h with ⟨rfl,rfl⟩ | ⟨a,len,cap,zs,rfl,_,hl,hm,hz,rfl,hcell,hwz⟩
 ·exact ⟨_,[],rfl,fun _=>Rd.nil W,.inl ⟨rfl,rfl⟩⟩
 ·have h2:(lits (H:=H) .u8 (zs.take len)).length = len:=by simp only [lits,List.length_map,List.length_take]; simp at hz; omega
  have hbl:((zs.take len).map Int.toNat).length = len:=by simp at hz; simp; omega
  refine ⟨_,(zs.take len).map Int.toNat,rfl,fun hB=>⟨_,_,_,rfl,hbl,hl,⟨by unfold maxLen at hm; omega,by omega⟩,by simp,?_,?_⟩,.inr ⟨_,_,rfl,by rw [h2,hbl]⟩⟩
  ·intro y hy
   obtain ⟨z,hz1,rfl⟩:=List.mem_map.1 hy
   have:=xa6a (hwz z (List.mem_of_mem_take hz1)); omega
  ·intro hp
   simp at hz
   have hc0:=hcell 0 (by omega)
   obtain ⟨b,off,spot⟩:=a
   have hspot:spot = none:=by simpa [Addr.add] using World.cell?_spot hc0
   subst hspot
   refine ⟨b,off,rfl,fun i hi=>?_⟩
   have hc:=hcell i (by omega)
   have hzi:i < zs.length:=by omega
   rw [Addr.add_mid] at hc
   rw [hc]
   have hw:=xa6a (hwz (zs[i]) (List.getElem_mem hzi))
   simp only [List.getD_eq_getElem?_getD,List.getElem?_eq_getElem hzi,Option.getD_some,List.getElem?_map,List.getElem?_take,hi,if_true,Option.map_some]
   simp [u8]; omega
theorem xa4c {d:DataW H} {bs:List Nat} (hx:(bs = []∧d = .nil)∨∃ elems spare,d = .slice elems spare∧elems.length = bs.length):bs.length + 1≤Rows.uptoBulk d:=by
 rcases hx with ⟨rfl,rfl⟩ | ⟨elems,spare,rfl,he⟩
 ·simp [Rows.uptoBulk]
 ·have:=xb5q elems
  simp only [Rows.uptoBulk]; omega
end
section
variable {H:Type} {enc:TypeId × Value→H} {W:World}
theorem xa7k {d:DataW H} {l:List (DataW H)} (h:d∈l):Rows.uptoBulk d≤Rows.uptoBulkAll l:=by
 induction l with
 | nil=>cases h
 | cons x r ih =>
  simp only [Rows.uptoBulkAll]
  cases List.mem_cons.1 h with
  | inl e=>subst e; omega
  | inr e=>have:=ih e; omega
theorem xa7f (f:Nat→List Nat × List Nat) (D0 D1:Nat→DataW H) (l:List Nat) (h:∀ i∈l,(f i).1.length + 1≤Rows.uptoBulk (D0 i)∧(f i).2.length + 1≤Rows.uptoBulk (D1 i)):kwt (l.map f)≤Rows.uptoBulkAll (l.map fun i=>.agg [D0 i,D1 i]):=by
 induction l with
 | nil=>simp [kwt]
 | cons a l ih =>
  have h1:=h a (by simp)
  have h2:=ih (fun i hi=>h i (by simp [hi]))
  simp only [kwt,List.map_cons,List.sum_cons,Rows.uptoBulkAll,Rows.uptoBulk] at h2 ⊢
  omega
theorem xb2c {fuel:Nat} {cs:List Value} {x:DataW H × List MemPlace} (h:DataW.trod enc Tryz.prog W 0 (fun _=>true) true fuel 40 cs = some x) (hB:Rows.uptoBulk x.1≤1048576) :
  ∃ v ps,cs = [v]∧RdK W v ps∧kwt ps≤1048576:=by
 rcases open_slice_pairs Tryz.underlying40 Tryz.underlying46 (by kernel_rfl) rfl rfl (by kernel_rfl) (by kernel_rfl) h with ⟨rfl,rfl⟩ | ⟨a,len,cap,m,n,V0,V1,D0,D1,P0,P1,rfl,_,hl,hm,hmm,rfl,hx⟩
 ·exact ⟨_,[],rfl,⟨none,0,0,[],[],rfl,rfl,Nat.le_refl _,by omega,fun i h=>by omega,fun h=>by omega⟩,by simp [kwt]⟩
 ·simp only [if_true] at hmm
  simp only [Rows.uptoBulk] at hB
  obtain ⟨f,hf⟩:=choose_lt (α:=List Nat × List Nat) (n:=len) (p:=fun i o=>(Rd W (V0 i) o.1∧Rd W (V1 i) o.2)∧o.1.length + 1≤Rows.uptoBulk (D0 i)∧o.2.length + 1≤Rows.uptoBulk (D1 i)) (by
   intro i hi
   obtain ⟨_,_,h0,h1⟩:=hx i (by omega)
   have hDi:Rows.uptoBulk (.agg [D0 i,D1 i])≤Rows.uptoBulkAll ((List.range len).map fun i=>.agg [D0 i,D1 i]):=xa7k (List.mem_map.2 ⟨i,List.mem_range.2 hi,rfl⟩)
   simp only [Rows.uptoBulk,Rows.uptoBulkAll] at hDi
   obtain ⟨v,bs,e0,hr0,hb0⟩:=xa4j h0
   obtain ⟨v',bs',e1,hr1,hb1⟩:=xa4j h1
   simp only [List.cons.injEq,and_true] at e0 e1
   subst e0
   subst e1
   have g0:=xa4c hb0
   have g1:=xa4c hb1
   exact ⟨(bs,bs'),⟨hr0 (by simp only at g0; omega),hr1 (by simp only at g1; omega)⟩,g0,g1⟩)
  refine ⟨_,(List.range len).map f,rfl,⟨some a,len,cap,(List.range len).map V0,(List.range len).map V1,rfl,by simp,hl,by unfold maxLen at hm; omega,?_,?_⟩,?_⟩
  ·intro i hi
   have hc:=(hf i hi).1
   simpa [List.getD_eq_getElem?_getD,hi] using hc
  ·intro hp
   obtain ⟨b,off,spot⟩:=a
   have hc0:=(hx 0 (by omega)).1
   have hspot:spot = none:=by simpa [Addr.add] using World.cell?_spot hc0
   subst hspot
   refine ⟨b,off,rfl,fun i hi=>?_⟩
   have hc:=hx i (by omega)
   rw [Addr.add_mid,Addr.add_mid] at hc
   have:=And.intro hc.1 hc.2.1
   simpa [List.getD_eq_getElem?_getD,hi,Nat.add_assoc] using this
  ·have:=xa7f f D0 D1 (List.range len) (fun i hi=>(hf i (List.mem_range.1 hi)).2)
   omega
end
end
end Go.Proofs.YtfnbmnpkjggiaaaGreatDoor
