import Derived.Test.YtkolfhgbojenjaaGreatDoorTopB
namespace Go.Proofs.YtkolfhgbojenjaaGreatDoor
set_option linter.unusedVariables false
set_option linter.unusedSimpArgs false
set_option maxRecDepth 100000
section
open Go.RowKit Go.BigFrame
def rbOk (p:List Nat) (z:Int) (i:Nat):Bool:=decide ((nextF p z).kind = 1∧(nextF p z).pl = i∧(decB (nextF p z).pay).2.2 = 0∧(decB (nextF p z).pay).1 = i)
def rbF (p:List Nat) (z:Int) (i:Nat):Nat:=if rbOk p z i then i else 0
def rbN (p:List Nat) (z:Int) (i:Nat):Int:=if rbOk p z i then (nextF p z).next else 0
def rbE (p:List Nat) (z:Int) (i:Nat):List En:=if rbOk p z i then (decB (nextF p z).pay).2.1 else []
theorem bcells {w:World} {b:Nat} {x0 x1:Value} {t:TypeId} (h:w.heap[b]? = some (.cells #[x0,x1] t (0,0))):w.cell? ⟨b,0,none⟩ = some x0∧w.cell? ⟨b,1,none⟩ = some x1:=by
 refine ⟨?_,?_⟩ <;> rw [cell_of_row _ _ _ _ _ _ h] <;> rfl
theorem bfroz {w:World} {b:Nat} {cs:Array Value} {t:TypeId} (h:w.heap[b]? = some (.cells cs t (0,0))):w.frozen? ⟨b,0,none⟩ = false∧w.frozen? ⟨b,1,none⟩ = false :=
 ⟨frozen_of_row _ _ _ _ _ h,frozen_of_row _ _ _ _ _ h⟩
theorem Tryz.size_batch9:(Tryz.prog.info? 75).map (·.size) = some 2:=by kernel_rfl
set_option maxHeartbeats 4000000 in
theorem xa7h (v:Value) (p:List Nat) (z:Int) (i:Nat) (w:World) (h:Rd w v p) (hz:-9223372036854775808≤z∧z≤9223372036854775807) :
  Calls Tryz.prog 48 #[v,.int .i64 z,.int .u64 i] w fun e w'=>∃ bv,e = .returned (.tuple #[.agg #[.int .u64 (rbF p z i),bv],.int .i64 (rbN p z i),.bool (rbOk p z i)])∧NewN w.heap.size w' bv (rbE p z i)∧Kept [] w w':=by
 have H:=hide h
 obtain ⟨a1,n1,c1,rfl,hn1,_⟩:=id h
 subst hn1
 clear h
 have HZ0:=hide (heap_alloc_new w (.cells #[.int .u64 0,.slice none 0 0] 75))
 have HK0:=hide ((Kept.refl [] w).alloc (.cells #[.int .u64 0,.slice none 0 0] 75))
 obtain ⟨X,hX⟩:∃ X,rbF p z i = X:=⟨_,rfl⟩
 obtain ⟨Y,hY⟩:∃ Y,rbN p z i = Y:=⟨_,rfl⟩
 obtain ⟨E,hE⟩:∃ E,rbE p z i = E:=⟨_,rfl⟩
 obtain ⟨Z,hZ⟩:∃ Z,rbOk p z i = Z:=⟨_,rfl⟩
 rw [hX,hY,hZ,hE]
 have HNO:=hide (fun (h0:rbOk p z i = false)=>by
  rw [← hX,← hY,← hZ,← hE]
  exact ⟨by simp [rbF,h0],by simp [rbN,h0],by simp [rbE,h0],h0⟩:rbOk p z i = false→X = 0∧Y = 0∧E = []∧Z = false)
 have HYE:=hide (fun (h0:rbOk p z i = true)=>by
  rw [← hX,← hY,← hZ,← hE]
  exact ⟨by simp [rbF,h0],by simp [rbN,h0],by simp [rbE,h0],h0⟩:rbOk p z i = true→X = i∧Y = (nextF p z).next∧E = (decB (nextF p z).pay).2.1∧Z = true)
 have HOK:=hide (by unfold rbOk; rfl:rbOk p z i = decide ((nextF p z).kind = 1∧(nextF p z).pl = i∧(decB (nextF p z).pay).2.2 = 0∧(decB (nextF p z).pay).1 = i))
 clear hX hY hZ hE
 go_enter Tryz.func48,Tryz.ntmps48
 go_wp2_with fail
 refine Calls.mono (xb6v _ p z _ ((uh H).old (uh HK0) (by simp)) hz) ?_
 rintro e w1 ⟨v1,rfl,n1,k1⟩
 obtain ⟨av,nv,cv,rfl,hnv,_⟩:=id n1.1
 obtain ⟨N,hN⟩:∃ N,nextF p z = N:=⟨_,rfl⟩
 rw [hN] at n1 HYE HOK hnv ⊢
 clear hN
 have HN1:=hide n1.1
 have HZ1:=hide (k1.heap (uh HZ0) (by simp))
 have HK1:=hide ((uh HK0).trans k1 (by simp))
 clear n1 k1 hnv
 have HZW:=hide (((Kept.refl [] w1).alloc (.cells #[.int .u64 (N.pl:Int),.slice av nv cv] 173)).heap (uh HZ1) (by simp))
 have HKW:=hide ((uh HK1).alloc (.cells #[.int .u64 (N.pl:Int),.slice av nv cv] 173))
 have HFW:=hide (heap_alloc_new w1 (.cells #[.int .u64 (N.pl:Int),.slice av nv cv] 173))
 have HNW:=hide ((uh HN1).old ((Kept.refl [] w1).alloc (.cells #[.int .u64 (N.pl:Int),.slice av nv cv] 173)) (by simp))
 obtain ⟨W1,hW1⟩:∃ W,w1.alloc (.cells #[.int .u64 (N.pl:Int),.slice av nv cv] 173) = W:=⟨_,rfl⟩
 rw [hW1] at HZW HKW HFW HNW
 have HW1:=hide hW1
 clear hW1
 obtain ⟨d0,d1⟩:=bcells (uh HZW)
 obtain ⟨f0,f1⟩:=bfroz (uh HZW)
 obtain ⟨g0,g1⟩:=bcells (uh HFW)
 rw [← uh HW1] at d0 d1 f0 f1 g0 g1
 by_cases hkd:N.kind = 1
 ·by_cases hpl:N.pl = i
  ·have hkd':((N.kind:Int) != 1) = false:=by simp [hkd]
   have hpl':((N.pl:Int) != (i:Int)) = false:=by simp [hpl]
   have HPL:=hide hpl
   have HKD:=hide hkd
   clear hpl hkd
   go_wp2_with fail
   rw [uh HW1]
   clear d0 d1 f0 f1 g0 g1
   refine Calls.mono (xa4u _ N.pay W1 (uh HNW)) ?_
   rintro e w2 ⟨bv,rfl,nb,k2⟩
   obtain ⟨D,hD⟩:∃ D,decB N.pay = D:=⟨_,rfl⟩
   rw [hD] at nb HYE HOK ⊢
   clear hD
   obtain ⟨ab,nbl,cb,_,_,hbv,_⟩:=id nb.rdN
   subst hbv
   have HNB:=hide nb
   have HZ2:=hide (k2.heap (uh HZW) (by simp))
   have HK2:=hide ((uh HKW).trans k2 (by simp))
   have HL2:=hide (Nat.le_trans (uh HKW).size (Nat.le_refl _):w.heap.size≤W1.heap.size)
   clear nb k2
   have HZX:=hide (((Kept.refl [] w2).alloc (.cells #[.int .u64 (D.1:Int),.slice ab nbl cb] 75)).heap (uh HZ2) (by simp))
   have HKX:=hide ((uh HK2).alloc (.cells #[.int .u64 (D.1:Int),.slice ab nbl cb] 75))
   have HBX:=hide (heap_alloc_new w2 (.cells #[.int .u64 (D.1:Int),.slice ab nbl cb] 75))
   have HNX:=hide (((uh HNB).kept ((Kept.refl [] w2).alloc (.cells #[.int .u64 (D.1:Int),.slice ab nbl cb] 75)) (by simp)).weak (uh HL2))
   obtain ⟨W2,hW2⟩:∃ W,w2.alloc (.cells #[.int .u64 (D.1:Int),.slice ab nbl cb] 75) = W:=⟨_,rfl⟩
   rw [hW2] at HZX HKX HBX HNX
   have HW2:=hide hW2
   clear hW2
   obtain ⟨d0,d1⟩:=bcells (uh HZX)
   obtain ⟨f0,f1⟩:=bfroz (uh HZX)
   obtain ⟨g0,g1⟩:=bcells (uh HBX)
   rw [← uh HW2] at d0 d1 f0 f1 g0 g1
   by_cases he:D.2.2 = 0
   ·by_cases hfi:D.1 = i
    ·have he':((D.2.2:Int) != 0) = false:=by simp [he]
     have hfi':((D.1:Int) != (i:Int)) = false:=by simp [hfi]
     have HV:=hide (uh HYE (by rw [uh HOK]; simp [uh HKD,uh HPL,he,hfi]))
     have HFI:=hide hfi
     clear hfi he
     go_wp2
     rw [uh HW2]
     refine bodyPost_ret (v:=.tuple #[.agg #[.int .u64 (D.1:Int),.slice ab nbl cb],.int .i64 N.next,.bool true]) ?_ rfl ⟨.slice ab nbl cb,by rw [(uh HV).1,(uh HV).2.1,(uh HV).2.2.2,uh HFI],?_,xa0k (uh HKX) w.heap.size (Nat.le_refl _) _ _⟩
     ·exact xa0a rfl _ _ w.heap.size _ #[.int .u64 (D.1:Int),.slice ab nbl cb] (0,0) _ rfl (xa0s (uh HZX) _ _) Tryz.underlying75 rfl Tryz.size_batch9 _ _ rfl rfl
     ·rw [(uh HV).2.2.1]
      refine (uh HNB).kept (M:=[w.heap.size]) ?_ ?_ |>.weak (uh HL2)
      ·rw [← uh HW2]
       exact (((Kept.refl [w.heap.size] w2).alloc _).setCell (Or.inl (by simp)) _).setCell (Or.inl (by simp)) _
      ·have:=lt_of_block (uh HZW); simpa using this
    ·have he':((D.2.2:Int) != 0) = false:=by simp [he]
     have hfi':((D.1:Int) != (i:Int)) = true:=by rw [bne_iff_ne]; omega
     have HV:=hide (uh HNO (by rw [uh HOK]; simp [hfi]))
     clear hfi he
     go_wp2
     rw [uh HW2]
     refine bodyPost_ret (v:=.tuple #[.agg #[.int .u64 0,.slice none 0 0],.int .i64 0,.bool false]) ?_ rfl ⟨.slice none 0 0,by rw [(uh HV).1,(uh HV).2.1,(uh HV).2.2.2]; rfl,by rw [(uh HV).2.2.1]; exact (NewN.nil _ _ (xa0k (uh HKX) w.heap.size (Nat.le_refl _) _ _).size),xa0k (uh HKX) w.heap.size (Nat.le_refl _) _ _⟩
     exact xa0a rfl _ _ w.heap.size _ #[.int .u64 0,.slice none 0 0] (0,0) _ rfl (xa0s (uh HZX) _ _) Tryz.underlying75 rfl Tryz.size_batch9 _ _ rfl rfl
   ·have he':((D.2.2:Int) != 0) = true:=by rw [bne_iff_ne]; omega
    have HV:=hide (uh HNO (by rw [uh HOK]; simp [he]))
    clear he
    go_wp2
    rw [uh HW2]
    refine bodyPost_ret (v:=.tuple #[.agg #[.int .u64 0,.slice none 0 0],.int .i64 0,.bool false]) ?_ rfl ⟨.slice none 0 0,by rw [(uh HV).1,(uh HV).2.1,(uh HV).2.2.2]; rfl,by rw [(uh HV).2.2.1]; exact (NewN.nil _ _ (xa0k (uh HKX) w.heap.size (Nat.le_refl _) _ _).size),xa0k (uh HKX) w.heap.size (Nat.le_refl _) _ _⟩
    exact xa0a rfl _ _ w.heap.size _ #[.int .u64 0,.slice none 0 0] (0,0) _ rfl (xa0s (uh HZX) _ _) Tryz.underlying75 rfl Tryz.size_batch9 _ _ rfl rfl
  ·have hkd':((N.kind:Int) != 1) = false:=by simp [hkd]
   have hpl':((N.pl:Int) != (i:Int)) = true:=by rw [bne_iff_ne]; omega
   have HV:=hide (uh HNO (by rw [uh HOK]; simp [hpl]))
   clear hpl hkd
   go_wp2
   rw [uh HW1]
   refine bodyPost_ret (v:=.tuple #[.agg #[.int .u64 0,.slice none 0 0],.int .i64 0,.bool false]) ?_ rfl ⟨.slice none 0 0,by rw [(uh HV).1,(uh HV).2.1,(uh HV).2.2.2]; rfl,by rw [(uh HV).2.2.1]; exact (NewN.nil _ _ (xa0k (uh HKW) w.heap.size (Nat.le_refl _) _ _).size),xa0k (uh HKW) w.heap.size (Nat.le_refl _) _ _⟩
   exact xa0a rfl _ _ w.heap.size _ #[.int .u64 0,.slice none 0 0] (0,0) _ rfl (xa0s (uh HZW) _ _) Tryz.underlying75 rfl Tryz.size_batch9 _ _ rfl rfl
 ·have hkd':((N.kind:Int) != 1) = true:=by rw [bne_iff_ne]; omega
  have HV:=hide (uh HNO (by rw [uh HOK]; simp [hkd]))
  clear hkd
  go_wp2
  rw [uh HW1]
  refine bodyPost_ret (v:=.tuple #[.agg #[.int .u64 0,.slice none 0 0],.int .i64 0,.bool false]) ?_ rfl ⟨.slice none 0 0,by rw [(uh HV).1,(uh HV).2.1,(uh HV).2.2.2]; rfl,by rw [(uh HV).2.2.1]; exact (NewN.nil _ _ (xa0k (uh HKW) w.heap.size (Nat.le_refl _) _ _).size),xa0k (uh HKW) w.heap.size (Nat.le_refl _) _ _⟩
  exact xa0a rfl _ _ w.heap.size _ #[.int .u64 0,.slice none 0 0] (0,0) _ rfl (xa0s (uh HZW) _ _) Tryz.underlying75 rfl Tryz.size_batch9 _ _ rfl rfl
end
theorem xc5p (x:Nat):∀ k a n,n < (uv x).length→(fuv ((uv x).take n) k a).2 = 0:=by
 induction x using uv.induct with
 | case1 x h=>intro k a n hn; rw [uv_lt h] at hn ⊢; simp at hn; subst hn; simp [fuv]
 | case2 x h ih =>
  intro k a n hn
  rw [uv_ge (by omega)] at hn ⊢
  cases n with
  | zero=>simp [fuv]
  | succ n =>
   simp only [List.take_succ_cons,List.length_cons] at hn ⊢
   rw [fuv]
   split
   ·rfl
   ·rw [if_pos (by omega)]
    exact ih _ _ n (by omega)
theorem xb6h (x:Nat):∀ k a r,x * 128 ^ k < 18446744073709551616→k≤9→(0 < k→0 < x)→fuv (uv x++r) k a = (a + x * 128 ^ k,k + (uv x).length):=by
 have h9:(128:Nat) ^ 9 = 9223372036854775808:=(by decide)
 induction x using uv.induct with
 | case1 x h =>
  intro k a r hx hk h0
  rw [uv_lt h]
  simp only [List.cons_append,List.nil_append,List.length_cons,List.length_nil]
  rw [fuv,if_neg,if_neg (by omega),if_neg (by omega),Nat.mod_eq_of_lt h]
  rintro ⟨rfl,h1⟩
  rw [h9] at hx
  have:=h0 (by omega); omega
 | case2 x h ih =>
  intro k a r hx hk h0
  rw [uv_ge (by omega)]
  simp only [List.cons_append,List.length_cons]
  have hk9:k≠9:=by
   rintro rfl
   rw [h9] at hx
   omega
  have hpow:128 ^ (k + 1) = 128 ^ k * 128:=Nat.pow_succ ..
  have hsum:x % 128 * 128 ^ k + x / 128 * 128 ^ (k + 1) = x * 128 ^ k:=by
   rw [hpow,show x / 128 * (128 ^ k * 128) = (x / 128 * 128) * 128 ^ k from by rw [Nat.mul_comm (128 ^ k) 128,Nat.mul_assoc],← Nat.add_mul]
   congr 1; omega
  rw [fuv,if_neg (by omega),if_pos (by omega),ih (k + 1) _ r (by omega) (by omega) (by omega)]
  have hm:(x % 128 + 128) % 128 = x % 128:=by omega
  rw [hm]
  simp only [Prod.mk.injEq]
  omega
theorem xc3i (v:Nat):∀ n a,n≤8→a * 256 ^ n + v % 256 ^ n < 18446744073709551616→(wide v n).foldl (fun a c=>(a * 256 + c) % 18446744073709551616) a = a * 256 ^ n + v % 256 ^ n:=by
 intro n
 induction n with
 | zero=>intro a _ _; simp [wide,Nat.mod_one]
 | succ n ih =>
  intro a hn h
  have hpow:256 ^ (n + 1) = 256 ^ n * 256:=Nat.pow_succ ..
  have hv:v % 256 ^ (n + 1) = v / 256 ^ n % 256 * 256 ^ n + v % 256 ^ n:=by
   rw [hpow,Nat.mod_mul]
   rw [Nat.mul_comm (256 ^ n)]; omega
  have hpos:0 < 256 ^ n:=Nat.pow_pos (by omega)
  have e1:a * 256 ^ (n + 1) = a * 256 * 256 ^ n:=by rw [hpow,Nat.mul_comm (256 ^ n) 256,Nat.mul_assoc]
  have e2:(a * 256 + v / 256 ^ n % 256) * 256 ^ n = a * 256 * 256 ^ n + v / 256 ^ n % 256 * 256 ^ n:=Nat.add_mul ..
  have hle:a * 256 + v / 256 ^ n % 256≤(a * 256 + v / 256 ^ n % 256) * 256 ^ n:=Nat.le_mul_of_pos_right _ hpos
  simp only [wide,List.foldl_cons]
  rw [Nat.mod_eq_of_lt (by omega),ih _ (by omega) (by omega)]
  omega
theorem xb0m {P:List Nat} {i v n:Nat} {r:List Nat} (hd:P.drop i = wide v n++r) (hn:n≤8) (hv:v < 256 ^ n):rNum P i 0 n = (v,i + n,0):=by
 have h1:=congrArg List.length hd
 simp [xa0h] at h1
 have h2:(P.drop i).take n = wide v n:=by rw [hd]; simp [xa0h,List.take_append]
 have h3:256 ^ n≤256 ^ 8:=Nat.pow_le_pow_right (by omega) hn
 have h4:(256:Nat) ^ 8 = 18446744073709551616:=(by decide)
 have h5:=xc3i v n 0 hn (by rw [Nat.mod_eq_of_lt hv]; omega)
 simp only [Nat.zero_mul,Nat.zero_add,Nat.mod_eq_of_lt hv] at h5
 simp only [rNum,ne_eq,not_true_eq_false,if_false]
 rw [if_neg (by omega),h2]
 simp only [beL,h5]
theorem xa7d {P:List Nat} {i x:Nat} {r:List Nat} (hd:P.drop i = uv x++r) (hx:x < 18446744073709551616):rUvar P i 0 = (x,i + (uv x).length,0):=by
 have h:=xb6h x 0 0 r (by omega) (by omega) (by omega)
 have hp:=uv_pos x
 simp only [rUvar,hd,h,ne_eq,not_true_eq_false,if_false]
 rw [if_neg (by omega)]; simp
theorem xa4n {P:List Nat} {i:Nat} {p r:List Nat} {m:Int} (hd:P.drop i = uv p.length++p++r) (hm:(p.length:Int)≤m) (hp:p.length < 18446744073709551616):rBlob P i 0 m = (p,i + ((uv p.length).length + p.length),0):=by
 have h:=xb6h p.length 0 0 (p++r) (by omega) (by omega) (by omega)
 rw [← List.append_assoc] at h
 have hq:=uv_pos p.length
 simp only [rBlob,hd,h,ne_eq,not_true_eq_false,if_false,Nat.zero_add,Nat.pow_zero,Nat.mul_one]
 rw [if_neg (by omega),if_neg (by omega),if_neg (by omega),if_neg (by simp)]
 simp
section
open Go.RowKit
theorem xa2f {P:List Nat} {i:Nat} {a r:List Nat} (h:P.drop i = a++r):P.drop (i + a.length) = r:=by
 rw [← List.drop_drop,h,List.drop_left]
theorem wide1 (k:Nat) (h:k < 256):wide k 1 = [k]:=by simp [wide,Nat.mod_eq_of_lt h]
theorem xb4j {P:List Nat} {i:Nat} {e:En} {r:List Nat} (hd:P.drop i = enB e++r) (hc:chkE e = 0):takeE P i = (e,i + (enB e).length,0):=by
 obtain ⟨k,key,val⟩:=e
 unfold chkE at hc
 simp only at hc
 split at hc
 ·omega
 rename_i hl
 split at hc
 ·omega
 rename_i hk
 have hk':k = 1∨(k = 2∧val = []):=by
  rcases (by omega:k = 1∨(k = 2∧val.length = 0)) with h | ⟨h,h0⟩
  ·exact Or.inl h
  ·exact Or.inr ⟨h,List.eq_nil_of_length_eq_zero h0⟩
 rcases hk' with rfl | ⟨rfl,rfl⟩
 ·simp only [enB,if_true] at hd ⊢
  have n1:rNum P i 0 1 = (1,i + 1,0):=xb0m (v:=1) (n:=1) (r:=uv key.length++key++(uv val.length++val)++r) (by rw [hd]; simp [wide1]) (by decide) (by decide)
  have hd1:P.drop (i + 1) = uv key.length++key++(uv val.length++val++r):=by
   have:=xa2f (a:=[1]) (r:=uv key.length++key++(uv val.length++val)++r) (P:=P) (i:=i) (by rw [hd]; simp)
   rw [show i + 1 = i + [1].length from rfl,this]; simp
  have n2:rBlob P (i + 1) 0 64 = (key,i + 1 + ((uv key.length).length + key.length),0):=xa4n hd1 (by omega) (by omega)
  have hd2:P.drop (i + 1 + ((uv key.length).length + key.length)) = uv val.length++val++r:=by
   have:=xa2f hd1
   rw [List.length_append] at this
   exact this
  have n3:rBlob P (i + 1 + ((uv key.length).length + key.length)) 0 256 = (val,i + 1 + ((uv key.length).length + key.length) + ((uv val.length).length + val.length),0):=xa4n hd2 (by omega) (by omega)
  unfold takeE
  simp only [n1,n2,n3]
  simp only [Nat.reduceMod,true_or,if_true,List.length_cons,List.length_append,Prod.mk.injEq,true_and,and_true]
  omega
 ·simp only [enB] at hd ⊢
  rw [if_neg (by decide)] at hd ⊢
  have n1:rNum P i 0 1 = (2,i + 1,0):=xb0m (v:=2) (n:=1) (r:=uv key.length++key++r) (by rw [hd]; simp [wide1]) (by decide) (by decide)
  have hd1:P.drop (i + 1) = uv key.length++key++r:=by
   have:=xa2f (a:=[2]) (r:=uv key.length++key++r) (P:=P) (i:=i) (by rw [hd]; simp)
   rw [show i + 1 = i + [2].length from rfl,this]
  have n2:rBlob P (i + 1) 0 64 = (key,i + 1 + ((uv key.length).length + key.length),0):=xa4n hd1 (by omega) (by omega)
  unfold takeE
  simp only [n1,n2]
  simp only [Nat.reduceMod,List.length_cons,List.length_append,List.length_nil]
  simp
  omega
theorem xa6y {P:List Nat}:∀ (es:List En) (i:Nat) (r:List Nat),P.drop i = entB es++r→(∀ e∈es,chkE e = 0)→takeN P i es.length = (es,i + (entB es).length,0)
 | [],i,r,_,_=>by simp [takeN,entB]
 | e :: es,i,r,hd,hc=>by
  have hd1:P.drop i = enB e++(entB es++r):=by rw [hd]; simp [entB]
  have h1:=xb4j hd1 (hc e (by simp))
  have h2:=xa6y es _ r (xa2f hd1) (fun x hx=>hc x (by simp [hx]))
  simp only [List.length_cons,takeN,h1,h2]
  simp [entB]
  omega
theorem xa9f:∀ es:List En,(∀ e∈es,chkE e = 0)→es.foldl (fun a e=>leastE a (chkE e)) 0 = 0
 | [],_=>rfl
 | x :: xs,h=>by
  rw [List.foldl_cons,h x (by simp)]
  exact xa9f xs (fun e he=>h e (by simp [he]))
theorem xc2j {f:Nat} {es:List En}:chkB f es = 0↔cntE f es.length = 0∧∀ e∈es,chkE e = 0:=by
 refine ⟨fun h=>xa7r es _ h,fun ⟨h1,h2⟩=>?_⟩
 unfold chkB
 rw [h1]
 exact xa9f es h2
theorem xb3l {P:List Nat} {f:Nat} {es:List En} {r:List Nat} (hd:P = batB f es++r) (hc:chkB f es = 0) (hf:f < 18446744073709551616):takeB P 0 = (f,es,(batB f es).length,0):=by
 obtain ⟨c1,c2⟩:=xc2j.1 hc
 have hn:es.length≤64:=by unfold cntE at c1; split at c1 <;> omega
 have hd0:P.drop 0 = uv f++(uv es.length++(entB es++r)):=by rw [List.drop_zero,hd]; simp [batB]
 have n1:=xa7d hd0 hf
 have hd1:=xa2f hd0
 have n2:=xa7d hd1 (by omega)
 have n3:=xa6y es _ r (xa2f hd1) c2
 unfold takeB
 simp only [n1,n2,n3,c1]
 simp [batB]
 omega
theorem xa9p {f:Nat} {es:List En} (hc:chkB f es = 0) (hf:f < 18446744073709551616):decB (batB f es) = (f,es,0):=by
 have h:=xb3l (P:=batB f es) (r:=[]) (by simp) hc hf
 unfold decB
 rw [h]
 simp [doneE]
end
section
open Go.RowKit Go.BigFrame
theorem xa3k {f:Nat} {es:List En} (h:chkB f es = 0) (hf:f < 18446744073709551616):0 < (batB f es).length∧(batB f es).length≤30000:=by
 obtain ⟨h1,h2,_,h4⟩:=xa3o h
 have h5:=xb2e es h4
 have h6:=uv_len f hf
 have h7:=uv_len es.length (by omega)
 have h8:0 < (uv f).length:=uv_pos f
 unfold batB
 simp only [List.length_append]
 omega
def sbB (f:Nat) (es:List En):List Nat:=if chkB f es = 0 then frB f (batB f es) else []
set_option maxHeartbeats 2000000 in
theorem xa8q (f:Nat) (v:Value) (es:List En) (w:World) (hf:f < 18446744073709551616) (h:RdN w v es) :
  Calls Tryz.prog 61 #[.agg #[.int .u64 f,v]] w fun r w'=>∃ v',r = .returned (.tuple #[v',.int .i64 (chkB f es)])∧NewB w w' v' (sbB f es)∧Kept [] w w':=by
 have H:=hide h
 obtain ⟨a1,n1,c1,_,_,rfl,_⟩:=id h
 clear h
 obtain ⟨B,hB⟩:∃ B,sbB f es = B:=⟨_,rfl⟩
 have HBB:=hide hB.symm
 rw [hB]
 clear hB
 have HK0:=hide ((Kept.refl [] w).alloc (.cells #[.int .u64 f,.slice a1 n1 c1] 75))
 have HB0:=hide (heap_alloc_new w (.cells #[.int .u64 f,.slice a1 n1 c1] 75))
 obtain ⟨W1,hW1⟩:∃ W,w.alloc (.cells #[.int .u64 f,.slice a1 n1 c1] 75) = W:=⟨_,rfl⟩
 rw [hW1] at HK0 HB0
 have HW1:=hide hW1
 clear hW1
 obtain ⟨d0,d1⟩:=bcells (uh HB0)
 rw [← uh HW1] at d0 d1
 go_enter Tryz.func61,Tryz.ntmps61
 go_wp2_with fail
 rw [uh HW1]
 clear d0 d1
 refine Calls.mono (xa4v f _ es W1 hf ((uh H).old (uh HK0))) ?_
 rintro e w2 ⟨v2,rfl,n2,k2⟩
 obtain ⟨a2,l2,c2,rfl,_⟩:=id n2.1
 have HN2:=hide n2
 have HK2:=hide ((uh HK0).trans k2 (by simp))
 have HB2:=hide (k2.heap (uh HB0) (by simp))
 clear n2 k2
 by_cases hc:chkB f es = 0
 ·have HB:=hide (by simp [sbB,hc]:sbB f es = frB f (batB f es))
  have HL:=hide (xa3k hc hf)
  rw [if_pos hc] at HN2
  rw [hc]
  obtain ⟨d0,d1⟩:=bcells (uh HB2)
  go_wp2_with fail
  refine Calls.mono (xa6w f _ (batB f es) w2 (uh HN2).1 hf) ?_
  rintro e w3 ⟨v3,rfl,n3,k3⟩
  rw [xa9r (by have:=(uh HL).1; omega) (by have:=(uh HL).2; omega)]
  rw [xb9c (by have:=(uh HL).1; omega) (by have:=(uh HL).2; omega)] at n3
  have HN3:=hide n3
  have HK3:=hide ((uh HK2).trans k3 (by simp))
  obtain ⟨a3,l3,c3,rfl,_⟩:=id n3.1
  clear n3 k3 d0 d1
  go_wp2
  go_ret2
  exact ⟨_,by rw [hc]; rfl,by rw [uh HBB,uh HB]; exact (uh HN3).weak (uh HK2).size,uh HK3⟩
 ·have HB:=hide (by simp [sbB,hc]:sbB f es = [])
  have hc':((chkB f es:Int) != 0) = true:=by rw [bne_iff_ne]; omega
  go_wp2
  go_ret2
  exact ⟨_,rfl,by rw [uh HBB,uh HB]; exact NewB.nil _ _,uh HK2⟩
theorem xa0i {P:Program} {fn:Func} {p q:Tmp} {ty:TypeId} (h:fn.results = #[.cell p ty,.tmp q]) (tmps:Array Value) (w:World) (g:Nat) (t:TypeId) (cs:Array Value) (fr:Nat × Nat) (d:TypeDesc)
  (hp:tmps.getD p undef = .pointer (some ⟨g,0,none⟩)) (hg:w.heap[g]? = some (.cells cs t fr))
  (hu:P.underlying ty = some d) (hd:(match d with | .struct _ | .array _ _=>true | _=>false) = true) (hi:(P.info? ty).map (·.size) = some cs.size) (v:Value) (hq:tmps.getD q undef = v) :
  (results fn tmps).run P w = .ok (.tuple #[.agg cs,v]) w:=by
 have hp':tmps[p]?.getD undef = .pointer (some ⟨g,0,none⟩):=by simpa using hp
 have hq':tmps[q]?.getD undef = v:=by simpa using hq
 simp [results,h,hp',hq',asAddr,run_loadVar_row w g t ty cs fr d hg hu hd hi]
theorem NewN.stay {B:Nat} {M:List Nat} {w w':World} {v:Value} {es:List En} (h:NewN B w v es) (k:Kept M w w') (hM:∀ x∈M,x < B∨w.heap.size≤x):RdN w' v es:=by
 have k2:Kept (M.filter (· < B)) w w':=⟨k.os,k.tape,k.output,k.size,fun j hj hn=>k.block j hj (fun hm=>hn (by
  rw [List.mem_filter]
  refine ⟨hm,?_⟩
  have:=hM j hm
  simp; omega))⟩
 exact (h.kept k2 (fun x hx=>by rw [List.mem_filter] at hx; simpa using hx.2)).rdN
def cellsB (ts:List (Nat × Value × List En)):List Value:=ts.flatMap fun t=>[.int .u64 (t.1:Int),t.2.1]
theorem xb6b (ts:List (Nat × Value × List En)) (t:Nat × Value × List En):cellsB (ts++[t]) = cellsB ts++[.int .u64 (t.1:Int),t.2.1]:=by simp [cellsB]
theorem xa7k:∀ (ts:List (Nat × Value × List En)) (i:Nat) (h:i < ts.length),(cellsB ts)[2 * i]? = some (.int .u64 (ts[i].1:Int))∧(cellsB ts)[2 * i + 1]? = some ts[i].2.1
 | t :: r,0,_=>by simp [cellsB]
 | t :: r,i + 1,h=>by
  have h':i < r.length:=by simpa using h
  have:=xa7k r i h'
  have e:cellsB (t :: r) = (.int .u64 (t.1:Int)) :: t.2.1 :: cellsB r:=by simp [cellsB]
  rw [e,show 2 * (i + 1) = 2 * i + 1 + 1 by omega]
  simpa using this
theorem Tryz.infoBt:(Tryz.prog.info? 75).map (fun i=>(i.zero,i.size,i.bytes)) = some (some (.agg #[.int .u64 0,.slice none 0 0]),2,32):=by kernel_rfl
structure OwnB (w0 w:World) (v:Value) (ts:List (Nat × Value × List En)):Prop where
 own:w.ownsRow w0.heap.size 75 2 v ts.length (cellsB ts)
 rd:∀ t∈ts,∃ B C,C≤w.heap.size∧w0.heap.size≤B∧(∀ b,v.ownBlock = some b→b < B∨C≤b)∧∀ M w',Kept M w w'→(∀ x∈M,x < B∨C≤x)→RdN w' t.2.1 t.2.2
 sz:w0.heap.size≤w.heap.size
def RdB (w:World) (v:Value) (bs:List (Nat × List En)):Prop :=
 ∃ (ao:Option Addr) (cap:Nat) (ts:List (Nat × Value × List En)),v = .slice ao ts.length cap∧bs = ts.map (fun t=>(t.1,t.2.2))∧ts.length≤cap∧cap≤9223372036854775807∧(∀ t∈ts,RdN w t.2.1 t.2.2) ∧
  (0 < ts.length→∃ b off,ao = some ⟨b,off,none⟩∧∀ i (h:i < ts.length),w.cell? ⟨b,off + i * 2,none⟩ = some (.int .u64 (ts[i].1:Int))∧w.cell? ⟨b,off + i * 2 + 1,none⟩ = some ts[i].2.1)
theorem RdB.old {w w':World} {v:Value} {fs:List (Nat × List En)} (h:RdB w v fs) (k:Kept [] w w'):RdB w' v fs:=by
 obtain ⟨ao,cap,ts,h1,h2,h3,h4,h5,h6⟩:=h
 refine ⟨ao,cap,ts,h1,h2,h3,h4,fun t ht=>(h5 t ht).old k,fun hp=>?_⟩
 obtain ⟨b,off,e,hc⟩:=h6 hp
 exact ⟨b,off,e,fun i hi=>⟨k.cell (hc i hi).1 (by simp),k.cell (hc i hi).2 (by simp)⟩⟩
theorem RdB.nil (w:World):RdB w (.slice none 0 0) []:=⟨none,0,[],rfl,rfl,Nat.le_refl _,by omega,by simp,fun h=>by simp at h⟩
theorem OwnB.start (w:World):OwnB w w (.slice none 0 0) []:=⟨World.ownsRow_nil _ _ _ _,by simp,Nat.le_refl _⟩
theorem OwnB.rdB {w0 w:World} {v:Value} {ts:List (Nat × Value × List En)} (h:OwnB w0 w v ts):RdB w v (ts.map fun t=>(t.1,t.2.2)):=by
 have hr:∀ t∈ts,RdN w t.2.1 t.2.2:=fun t ht=>by obtain ⟨B,C,_,_,_,h5⟩:=h.rd t ht; exact h5 [] w (Kept.refl _ _) (by simp)
 rcases h.own.2 with ⟨rfl,h0⟩ | ⟨g,cap,cur,rfl,_,hg,hc,hm',hs,ht⟩
 ·have:ts = []:=List.eq_nil_of_length_eq_zero h0
  subst this
  exact RdB.nil _
 ·refine ⟨some ⟨g,0,none⟩,cap,ts,rfl,rfl,hc,by unfold maxLen at hm'; omega,hr,fun _=>⟨g,0,rfl,fun i hi=>?_⟩⟩
  have hx:=xa7k ts i hi
  have c1:=h.own.cells (g:=g) rfl (2 * i) _ hx.1
  have c2:=h.own.cells (g:=g) rfl (2 * i + 1) _ hx.2
  rw [Addr.add_mid] at c1 c2
  refine ⟨?_,?_⟩
  ·rw [show 0 + i * 2 = 0 + 2 * i by omega]; exact c1
  ·rw [show 0 + i * 2 + 1 = 0 + (2 * i + 1) by omega]; exact c2
theorem OwnB.pass {w0 w w':World} {M:List Nat} {v:Value} {ts:List (Nat × Value × List En)} (h:OwnB w0 w v ts) (k:Kept M w w') (hM:∀ x∈M,x < w0.heap.size):OwnB w0 w' v ts:=by
 refine ⟨k.owns h.own (fun b hb hm=>by have:=(h.own.lt b hb).1; have:=hM b hm; omega),fun t ht=>?_,Nat.le_trans h.sz k.size⟩
 obtain ⟨B,C,h1,h2,h3,h4⟩:=h.rd t ht
 refine ⟨B,C,Nat.le_trans h1 k.size,h2,h3,fun N w2 kN hN=>h4 (M++N) w2 ((k.mono (M:=M++N) (fun x hx=>by simp [hx])).trans kN (fun x hx=>Or.inl (by simp [hx]))) (fun x hx=>?_)⟩
 rcases List.mem_append.1 hx with hx | hx
 ·have:=hM x hx; omega
 ·exact hN x hx
theorem OwnB.push {w0 w W:World} {v:Value} {ts:List (Nat × Value × List En)} (h:OwnB w0 w v ts) {pl B:Nat} {y:Value} {es:List En} (hy:NewN B w y es) (hB:w0.heap.size≤B) (hBv:∀ b,v.ownBlock = some b→b < B) {g cap:Nat}
  (o:W.ownsRow w0.heap.size 75 2 (.slice (some ⟨g,0,none⟩) (ts.length + 1) cap) (ts.length + 1) (cellsB ts++[.int .u64 (pl:Int),y])) (gr:w.grownBy W v.ownBlock) (hg:v.ownBlock = some g∨g = w.heap.size) :
  OwnB w0 W (.slice (some ⟨g,0,none⟩) (ts.length + 1) cap) (ts++[(pl,y,es)]):=by
 have kW:Kept v.ownBlock.toList w W:=((Kept.refl _ w)).grown gr (by intro k hk; left; simp [hk])
 refine ⟨by rw [xb6b,List.length_append]; exact o,fun t ht=>?_,Nat.le_trans h.sz kW.size⟩
 rcases List.mem_append.1 ht with ht | ht
 ·obtain ⟨B1,C,h1,h2,h3,h4⟩:=h.rd t ht
  refine ⟨B1,C,Nat.le_trans h1 kW.size,h2,fun b hb=>?_,fun N w2 kN hN=>h4 (v.ownBlock.toList++N) w2 ((kW.mono (M:=v.ownBlock.toList++N) (fun x hx=>List.mem_append_left _ hx)).trans kN (fun x hx=>Or.inl (by simp [hx]))) (fun x hx=>?_)⟩
  ·simp only [Value.ownBlock,Option.some.injEq] at hb
   subst hb
   rcases hg with hg | hg
   ·exact h3 _ hg
   ·omega
  ·rcases List.mem_append.1 hx with hx | hx
   ·exact h3 x (by simpa using hx)
   ·exact hN x hx
 ·rw [List.mem_singleton] at ht
  subst ht
  refine ⟨B,w.heap.size,kW.size,hB,fun b hb=>?_,fun N w2 kN hN=>hy.stay (M:=v.ownBlock.toList++N) ((kW.mono (M:=v.ownBlock.toList++N) (fun x hx=>List.mem_append_left _ hx)).trans kN (fun x hx=>Or.inl (by simp [hx]))) (fun x hx=>?_)⟩
  ·simp only [Value.ownBlock,Option.some.injEq] at hb
   subst hb
   rcases hg with hg | hg
   ·exact Or.inl (hBv _ hg)
   ·omega
  ·rcases List.mem_append.1 hx with hx | hx
   ·exact Or.inl (hBv x (by simpa using hx))
   ·exact hN x hx
theorem pushB (w:World) (base:Nat) (v:Value) (ts:List (Nat × Value × List En)) (pl:Nat) (x:Value) (H:Nat) (h:w.ownsRow base 75 2 v ts.length (cellsB ts)) (hnew:w.heap[H]? = some (.cells #[.int .u64 (pl:Int),x] 75 (0,0))) (hx:x.oneCell' = true) (hl:ts.length + 1≤1000000000000) (hb:base≤w.heap.size) :
  ∃ g cap w1,(Builtin.append_ #[42,42] 42 #[v,.slice (some ⟨H,0,none⟩) 1 1]).run Tryz.prog w = .ok (.slice (some ⟨g,0,none⟩) (ts.length + 1) cap) w1 ∧
   w1.ownsRow base 75 2 (.slice (some ⟨g,0,none⟩) (ts.length + 1) cap) (ts.length + 1) (cellsB ts++[.int .u64 (pl:Int),x])∧w.grownBy w1 v.ownBlock∧(v.ownBlock = some g∨g = w.heap.size):=by
 obtain ⟨i0,hi,hz0,hz1,hz2⟩:=info_parts Tryz.infoBt
 obtain ⟨g,cap,w1,hr,hown,hgrow,hat,hlt⟩:=run_append_lies (P:=Tryz.prog) w 42 42 base 75 i0 (.agg #[.int .u64 0,.slice none 0 0]) 2 32 Tryz.underlying42 hi hz0 hz1 hz2 rfl (by decide)
  v ts.length (cellsB ts) h ⟨H,0,none⟩ 1 1 [.int .u64 (pl:Int),x] rfl (World.news_of_block hnew) (by intro u hu; simp at hu; rcases hu with rfl | rfl; rfl; exact hx) (by decide) (by unfold maxLen; omega) (by omega) hb _ rfl
 exact ⟨g,cap,w1,hr,hown,hgrow,hat⟩
theorem xa8c {ops:Array Oper} {rest:List Oper} {o:Oper} {a:Act} {Q:Exit→Act→World→Prop} (hgd:o.guard = none) (s x:Operand)
  (ho:o.op = .call { callee:=.builtin .append,args:=#[s,x],argTypes:=#[42,42] }) (hty:o.type = 42)
  (w:World) (base:Nat) (v:Value) (ts:List (Nat × Value × List En)) (pl:Nat) (y:Value) (H:Nat) (h:w.ownsRow base 75 2 v ts.length (cellsB ts)) (hnew:w.heap[H]? = some (.cells #[.int .u64 (pl:Int),y] 75 (0,0))) (hy:y.oneCell' = true) (hl:ts.length + 1≤1000000000000) (hb:base≤w.heap.size)
  (hs:a.eval s = v) (hx:a.eval x = .slice (some ⟨H,0,none⟩) 1 1)
  (hK:∀ g cap w1,Hid (w1.ownsRow base 75 2 (.slice (some ⟨g,0,none⟩) (ts.length + 1) cap) (ts.length + 1) (cellsB ts++[.int .u64 (pl:Int),y]))→Hid (w.grownBy w1 v.ownBlock)→Hid (v.ownBlock = some g∨g = w.heap.size) →
   wpList Tryz.prog ops Q rest (a.put o.dst (.slice (some ⟨g,0,none⟩) (ts.length + 1) cap)) w1) :
  wpList Tryz.prog ops Q (o :: rest) a w:=by
 obtain ⟨g,cap,w1,hrun,h2,h3,h4⟩:=pushB w base v ts pl y H h hnew hy hl hb
 refine wpList_plain hgd fun K hK'=>?_
 unfold Oper.wp execOp
 simp only [ho,hty,resolve,invoke,builtin,Sem.run_bind,Sem.run_pure,Result.andThen_ok,List.map_toArray,List.map_cons,List.map_nil,hs,hx,hrun]
 exact hK' _ _ (hK g cap w1 h2 h3 h4)
theorem scells {w:World} {b:Nat} {x0 x1 x2 x3 x4 x5:Value} {t:TypeId} (h:w.heap[b]? = some (.cells #[x0,x1,x2,x3,x4,x5] t (0,0))):w.cell? ⟨b,0,none⟩ = some x0∧w.cell? ⟨b,1,none⟩ = some x1∧w.cell? ⟨b,2,none⟩ = some x2∧w.cell? ⟨b,3,none⟩ = some x3∧w.cell? ⟨b,4,none⟩ = some x4∧w.cell? ⟨b,5,none⟩ = some x5:=by
 refine ⟨?_,?_,?_,?_,?_,?_⟩ <;> rw [cell_of_row _ _ _ _ _ _ h] <;> rfl
theorem sfroz {w:World} {b:Nat} {cs:Array Value} {t:TypeId} (h:w.heap[b]? = some (.cells cs t (0,0))):w.frozen? ⟨b,0,none⟩ = false∧w.frozen? ⟨b,1,none⟩ = false∧w.frozen? ⟨b,2,none⟩ = false∧w.frozen? ⟨b,3,none⟩ = false∧w.frozen? ⟨b,4,none⟩ = false∧w.frozen? ⟨b,5,none⟩ = false :=
 ⟨frozen_of_row _ _ _ _ _ h,frozen_of_row _ _ _ _ _ h,frozen_of_row _ _ _ _ _ h,frozen_of_row _ _ _ _ _ h,frozen_of_row _ _ _ _ _ h,frozen_of_row _ _ _ _ _ h⟩
theorem xa9q {w:World} {g:Nat} {a b c d e f:Value} {t:TypeId} (h:w.heap[g]? = some (.cells #[a,b,c,d,e,f] t (0,0))) (x y z u r s:Value):((((((w.setCell ⟨g,0,none⟩ x).setCell ⟨g,1,none⟩ y).setCell ⟨g,2,none⟩ z).setCell ⟨g,3,none⟩ u).setCell ⟨g,4,none⟩ r).setCell ⟨g,5,none⟩ s).heap[g]? = some (.cells #[x,y,z,u,r,s] t (0,0)):=by
 rw [heap_setCell_same _ g 5 _ t _ (heap_setCell_same _ g 4 _ t _ (heap_setCell_same _ g 3 _ t _ (heap_setCell_same _ g 2 _ t _ (heap_setCell_same _ g 1 _ t _ (heap_setCell_same w g 0 _ t _ h)))))]; rfl
theorem xa3s {L:List Nat} {w0 w:World} (k:Kept L w0 w) (g:Nat) (hg:g∈L∨w0.heap.size≤g) (x y z u r s:Value):Kept L w0 ((((((w.setCell ⟨g,0,none⟩ x).setCell ⟨g,1,none⟩ y).setCell ⟨g,2,none⟩ z).setCell ⟨g,3,none⟩ u).setCell ⟨g,4,none⟩ r).setCell ⟨g,5,none⟩ s):=(((((k.setCell hg x).setCell hg y).setCell hg z).setCell hg u).setCell hg r).setCell hg s
theorem Tryz.size_seg:(Tryz.prog.info? 55).map (·.size) = some 6:=by kernel_rfl
theorem xb3n {w:World} {g:Nat} {a b c d e f:Value} {t:TypeId} (h:w.heap[g]? = some (.cells #[a,b,c,d,e,f] t (0,0))) (r s:Value):((w.setCell ⟨g,4,none⟩ r).setCell ⟨g,5,none⟩ s).heap[g]? = some (.cells #[a,b,c,d,r,s] t (0,0)):=by
 rw [heap_setCell_same _ g 5 _ t _ (heap_setCell_same _ g 4 _ t _ h)]; rfl
def rdL:Nat→List Nat→Nat→Nat→List (Nat × List En) × Nat
 | 0,_,z,_=>([],z)
 | k + 1,p,z,i=>if rbOk p z i then ((i,rbE p z i) :: (rdL k p (rbN p z i).toNat ((i + (rbE p z i).length) % 18446744073709551616)).1,(rdL k p (rbN p z i).toNat ((i + (rbE p z i).length) % 18446744073709551616)).2) else ([],z)
theorem rdL_no {k z i:Nat} {p:List Nat} (h:rbOk p z i = false):rdL k p z i = ([],z):=by
 cases k with
 | zero=>rfl
 | succ k=>rw [rdL,h]; rfl
theorem xc0u {k z i:Nat} {p:List Nat} (h:rbOk p z i = true):rdL (k + 1) p z i = ((i,rbE p z i) :: (rdL k p (rbN p z i).toNat ((i + (rbE p z i).length) % 18446744073709551616)).1,(rdL k p (rbN p z i).toNat ((i + (rbE p z i).length) % 18446744073709551616)).2):=by
 rw [rdL,if_pos h]
def sgB (p:List Nat):List (Nat × List En):=if (hdF p).isSome then (rdL p.length p 48 (hdC p).c).1 else []
def sgU (p:List Nat):Nat:=if (hdF p).isSome then (rdL p.length p 48 (hdC p).c).2 else 0
def sgE (p:List Nat):Nat:=if (hdF p).isSome then 0 else 3
theorem xc5m {p:List Nat} {z i:Nat} (hb:∀ x∈p,x < 256) (h:rbOk p z i = true):∃ n:Nat,rbN p z i = (n:Int)∧z + 18 < n∧n≤p.length:=by
 have hn:rbN p z i = (nextF p z).next:=by simp [rbN,h]
 have hk:(nextF p z).kind = 1:=by unfold rbOk at h; simp at h; exact h.1
 rcases xa5i p z hb with ⟨_,hN⟩ | ⟨_,hN⟩ | ⟨m,pl,pay,hzn,hN,b1,b2,b3,b4,b5,b6,b7⟩
 ·rw [hN] at hk; simp at hk
 ·rw [hN] at hk; simp at hk
 ·rw [hN] at hn
  refine ⟨m + 18 + pay.length,hn,by omega,b5⟩

def byN (es:List En):Prop:=∀ e∈es,e.k < 256∧(∀ x∈e.key,x < 256)∧∀ x∈e.val,x < 256
theorem RdN.byN {w:World} {v:Value} {es:List En} (h:RdN w v es):byN es:=by
 obtain ⟨ao,len,cap,kv,vv,h1,h2,h3,h4,h5,h6⟩:=h
 intro e he
 obtain ⟨i,hi,rfl⟩:=List.mem_iff_getElem.1 he
 exact ⟨(h5 i hi).k,(h5 i hi).key.byte,(h5 i hi).val.byte⟩
theorem xc3a {e:En} (h9:e.k < 256∧(∀ x∈e.key,x < 256)∧∀ x∈e.val,x < 256):∀ x∈enB e,x < 256:=by
 intro x hx
 unfold enB at hx
 rw [List.mem_cons,List.mem_append,List.mem_append] at hx
 rcases hx with rfl | (hx | hx) | hx
 ·exact h9.1
 ·exact xa9y _ x hx
 ·exact h9.2.1 x hx
 ·split at hx
  ·rw [List.mem_append] at hx
   rcases hx with hx | hx
   ·exact xa9y _ x hx
   ·exact h9.2.2 x hx
  ·simp at hx
theorem xb7p {es:List En} (h:byN es):∀ x∈entB es,x < 256:=by
 induction es with
 | nil=>simp [entB]
 | cons e r ih =>
  intro x hx
  rw [entB,List.map_cons,List.flatten_cons,List.mem_append] at hx
  rcases hx with hx | hx
  ·exact xc3a (h e (by simp)) x hx
  ·exact ih (fun y hy=>h y (by simp [hy])) x hx
theorem xb0g {f:Nat} {es:List En} (h:byN es):∀ x∈batB f es,x < 256:=by
 intro x hx
 unfold batB at hx
 rw [List.mem_append,List.mem_append] at hx
 rcases hx with hx | hx | hx
 ·exact xa9y _ x hx
 ·exact xa9y _ x hx
 ·exact xb7p h x hx
theorem xa6u (a b c:Nat) (z:Int):∀ x∈headB a b c z,x < 256:=by
 intro x hx
 unfold headB at hx
 simp only [List.mem_append,List.mem_cons,List.not_mem_nil,or_false] at hx
 rcases hx with ((((h | h | h | h | h) | h) | h) | h) | h
 ·omega
 ·omega
 ·omega
 ·omega
 ·omega
 ·exact xa0r _ _ x h
 ·exact xa0r _ _ x h
 ·exact xa0r _ _ x h
 ·omega
theorem xb1q (a b c:Nat) (z:Int):(headB a b c z).take 5 = [78,84,82,89,49]∧((headB a b c z).drop 5).take 8 = wide a 8∧((headB a b c z).drop 13).take 8 = wide b 8∧((headB a b c z).drop 21).take 8 = wide c 8∧(headB a b c z).getD 29 0 = (z % 256).toNat:=by
 have ha:=xa0h a 8
 have hb:=xa0h b 8
 have hc:=xa0h c 8
 unfold headB
 generalize wide a 8 = A at *
 generalize wide b 8 = B at *
 generalize wide c 8 = C at *
 match A,ha,B,hb,C,hc with
 | [_,_,_,_,_,_,_,_],_,[_,_,_,_,_,_,_,_],_,[_,_,_,_,_,_,_,_],_=>exact ⟨rfl,rfl,rfl,rfl,rfl⟩
theorem xa8t {a b c:Nat} {z:Int} (ha:a < 18446744073709551616) (hb:b < 18446744073709551616) (hc:c < 18446744073709551616) (hz:wideB z = true) (r:List Nat):hdF (ehB a b c z++r) = some ⟨a,b,c,z.toNat⟩:=by
 have hB:ehB a b c z = frB a (headB a b c z):=by simp [ehB,hz]
 have hzz:1≤z∧z≤32:=by simpa [wideB] using hz
 obtain ⟨p1,p2,p3,p4,p5⟩:=xb1q a b c z
 have hz2:(z % 256).toNat = z.toNat:=by omega
 unfold hdF
 rw [hB,xa5k a (headB a b c z) r ha (by rw [xa1q]; decide) (by rw [xa1q]; decide) (xa6u a b c z)]
 have hpay:payH a (headB a b c z) = true:=by
  unfold payH
  rw [p1,p2,p5,xa1q,xa0o (by decide) (by omega),hz2]
  simp; omega
 simp only
 rw [if_pos hpay,p2,p3,p4,p5,hz2,xa0o (by decide) (by omega),xa0o (by decide) (by omega),xa0o (by decide) (by omega)]
theorem xc2z (A:List Nat) (pl:Nat) (pay t:List Nat) (hpl:pl < 18446744073709551616) (h1:1≤pay.length) (hl:pay.length≤65535) (hb:∀ x∈pay,x < 256):nextF (A++(frB pl pay++t)) (A.length:Nat) = ⟨pl,pay,((A.length + 18 + pay.length:Nat):Int),1⟩:=by
 have h:=xa5k pl pay t hpl h1 hl hb
 have hlen:(A++(frB pl pay++t)).length = A.length + (pay.length + 18 + t.length):=by rw [List.length_append,List.length_append,xa1t]
 unfold nextF
 rw [if_neg (by rw [hlen]; omega),if_neg (by rw [hlen]; omega),Int.toNat_natCast,List.drop_left,h]
 simp
theorem xa9v {f:Nat} {es:List En} (hc:chkB f es = 0):(sbB f es).length = (batB f es).length + 18:=by
 unfold sbB; rw [if_pos hc,xa1t]
theorem xc4l (A:List Nat) {f:Nat} {es:List En} (t:List Nat) (hc:chkB f es = 0) (hf:f < 18446744073709551616) (hb:byN es) :
  rbOk (A++(sbB f es++t)) (A.length:Nat) f = true∧rbE (A++(sbB f es++t)) (A.length:Nat) f = es∧rbN (A++(sbB f es++t)) (A.length:Nat) f = ((A.length + (sbB f es).length:Nat):Int):=by
 have hl:=xa3k hc hf
 have hn:=xc2z A f (batB f es) t hf (by omega) (by omega) (xb0g hb)
 have hs:sbB f es = frB f (batB f es):=by unfold sbB; rw [if_pos hc]
 rw [← hs] at hn
 have hok:rbOk (A++(sbB f es++t)) (A.length:Nat) f = true:=by
  unfold rbOk
  rw [hn,xa9p hc hf]
  simp
 refine ⟨hok,?_,?_⟩
 ·unfold rbE; rw [if_pos hok,hn,xa9p hc hf]
 ·unfold rbN; rw [if_pos hok,hn,xa9v hc]; simp only; omega
theorem rb_end (A:List Nat) (i:Nat):rbOk A (A.length:Nat) i = false:=by
 unfold rbOk
 have:nextF A (A.length:Nat) = ⟨0,[],(A.length:Nat),0⟩:=by unfold nextF; rw [if_pos rfl]
 rw [this]; simp
theorem xa9g {f:Nat} {es:List En} (h:chkB f es = 0):f + es.length≤18446744073709551615:=(xa3o h).2.2.1
theorem xa1u {a b c:Nat} {z:Int} (h:wideB z = true):(ehB a b c z).length = 48:=by unfold ehB; rw [if_pos h,xa1t,xa1q]

def nbU (l:List Nat):Nat:=if l = nmL (dv 0 (l.drop 4)) then dv 0 (l.drop 4) else 0
def nbE (l:List Nat):Nat:=if l = nmL (dv 0 (l.drop 4)) then 0 else 3
theorem xb4m (l:List Nat) (w:World) (hb:∀ x∈l,x < 256) (hl:l.length≤140737488355328) (hv:VarsS w) :
  Calls Tryz.prog 88 #[.string (strB l)] w fun e w'=>e = .returned (.tuple #[.int .u64 (nbU l),.int .i64 (nbE l)])∧Kept [] w w':=by
 by_cases h:l = nmL (dv 0 (l.drop 4))
 ·have h1:nbU l = dv 0 (l.drop 4):=if_pos h
  have h2:nbE l = 0:=if_pos h
  have h3:=xb2j (dv 0 (l.drop 4)) w (dv_lt _ 0 (by omega)) hv
  rw [← h] at h3
  rw [h1,h2]
  exact h3
 ·have h1:nbU l = 0:=if_neg h
  have h2:nbE l = 3:=if_neg h
  rw [h1,h2]
  refine xb9i (strB l) w (by rw [xa0p]; exact hl) (fun u hu e=>h ?_) hv
  have e2:=xb3y hb (xa5q u) e
  have e3:dv 0 (l.drop 4) = u:=by rw [e2]; exact xc0h hu
  rw [e3]
  exact e2
theorem OwnB.base {w0 w1 w:World} {v:Value} {ts:List (Nat × Value × List En)} (h:OwnB w1 w v ts) (hb:w0.heap.size≤w1.heap.size):OwnB w0 w v ts:=by
 refine ⟨xa3m h.own hb,fun t ht=>?_,Nat.le_trans hb h.sz⟩
 obtain ⟨B,C,h1,h2,h3,h4⟩:=h.rd t ht
 exact ⟨B,C,h1,Nat.le_trans hb h2,h3,h4⟩
theorem OwnB.empty {w0 w:World} (h:w0.heap.size≤w.heap.size):OwnB w0 w (.slice none 0 0) []:=⟨World.ownsRow_nil _ _ _ _,by simp,h⟩
set_option maxHeartbeats 4000000 in
theorem xa5r (v:Value) (p:List Nat) (w:World) (h:Rd w v p) (hl:p.length≤100000000000) :
  Calls Tryz.prog 15 #[v] w fun e w'=>∃ bv,e = .returned (.tuple #[.agg #[.int .u64 (hdC p).a,.int .u64 (hdC p).b,.int .u64 (hdC p).c,.int .i64 (hdC p).d,bv,.int .i64 (sgU p)],.int .i64 (sgE p)])∧(∃ ts,sgB p = ts.map (fun t=>(t.1,t.2.2))∧OwnB w w' bv ts)∧Kept [] w w':=by
 have H:=hide h
 obtain ⟨a1,n1,c1,rfl,hn1,_⟩:=id h
 subst hn1
 clear h
 have HZ0:=hide (heap_alloc_new w (.cells #[.int .u64 0,.int .u64 0,.int .u64 0,.int .i64 0,.slice none 0 0,.int .i64 0] 55))
 have HK0:=hide ((Kept.refl [] w).alloc (.cells #[.int .u64 0,.int .u64 0,.int .u64 0,.int .i64 0,.slice none 0 0,.int .i64 0] 55))
 have HLP:=hide hl
 obtain ⟨X,hX⟩:∃ X,hdC p = X:=⟨_,rfl⟩
 obtain ⟨T,hT⟩:∃ T,rdL p.length p 48 X.c = T:=⟨_,rfl⟩
 obtain ⟨U,hU⟩:∃ U,sgU p = U:=⟨_,rfl⟩
 obtain ⟨S,hS⟩:∃ S,sgB p = S:=⟨_,rfl⟩
 obtain ⟨E,hE⟩:∃ E,sgE p = E:=⟨_,rfl⟩
 rw [hX,hU,hS,hE]
 have HNO:=hide (fun (h0:(hdF p).isSome = false)=>by
  rw [← hU,← hS,← hE]
  exact ⟨by rw [← hX]; rw [Option.isSome_eq_false_iff,Option.isNone_iff_eq_none] at h0; simp [hdC,h0],by simp [sgU,h0],by simp [sgB,h0],by simp [sgE,h0]⟩:(hdF p).isSome = false→X = ⟨0,0,0,0⟩∧U = 0∧S = []∧E = 3)
 have HYE:=hide (fun (h0:(hdF p).isSome = true)=>by
  rw [← hU,← hS,← hE,← hT,← hX]
  exact ⟨by simp [sgU,h0],by simp [sgB,h0],by simp [sgE,h0]⟩:(hdF p).isSome = true→U = T.2∧S = T.1∧E = 0)
 have HT:=hide hT
 have HN48:=hide (by simp [hdN]:hdN p = if (hdF p).isSome then 48 else 0)
 clear hT hU hS hE hl
 go_enter Tryz.func15,Tryz.ntmps15
 go_wp2_with fail
 refine Calls.mono (xa8g _ p _ ((uh H).old (uh HK0) (by simp))) ?_
 rintro e w1 ⟨rfl,k1⟩
 rw [hX,uh HN48]
 clear hX
 have HZ1:=hide (k1.heap (uh HZ0) (by simp))
 have HK1:=hide ((uh HK0).trans k1 (by simp))
 clear k1
 have HHW:=hide (heap_alloc_new w1 (.cells #[.int .u64 (X.a:Int),.int .u64 (X.b:Int),.int .u64 (X.c:Int),.int .i64 (X.d:Int)] 53))
 have HKW:=hide ((uh HK1).alloc (.cells #[.int .u64 (X.a:Int),.int .u64 (X.b:Int),.int .u64 (X.c:Int),.int .i64 (X.d:Int)] 53))
 have HZW:=hide (((Kept.refl [] w1).alloc (.cells #[.int .u64 (X.a:Int),.int .u64 (X.b:Int),.int .u64 (X.c:Int),.int .i64 (X.d:Int)] 53)).heap (uh HZ1) (by simp))
 obtain ⟨W1,hW1⟩:∃ W,w1.alloc (.cells #[.int .u64 (X.a:Int),.int .u64 (X.b:Int),.int .u64 (X.c:Int),.int .i64 (X.d:Int)] 53) = W:=⟨_,rfl⟩
 rw [hW1] at HHW HKW HZW
 have HW1:=hide hW1
 clear hW1
 obtain ⟨d0,d1,d2,d3,d4,d5⟩:=scells (uh HZW)
 obtain ⟨f0,f1,f2,f3,f4,f5⟩:=sfroz (uh HZW)
 obtain ⟨g0,g1,g2,g3⟩:=hcells (uh HHW)
 rw [← uh HW1] at d0 d1 d2 d3 d4 d5 f0 f1 f2 f3 f4 f5 g0 g1 g2 g3
 by_cases hok:(hdF p).isSome = true
 ·rw [hok]
  simp only [if_true]
  rw [show ((48:Nat):Int) = 48 from rfl]
  have HV:=hide (uh HYE hok)
  clear hok HYE HNO HN48
  have HS0:=hide (heap_alloc_new W1 (.cells #[.int .u64 (X.a:Int),.int .u64 (X.b:Int),.int .u64 (X.c:Int),.int .i64 (X.d:Int),.slice none 0 0,.int .i64 48] 55))
  have HKS:=hide ((Kept.refl [] W1).alloc (.cells #[.int .u64 (X.a:Int),.int .u64 (X.b:Int),.int .u64 (X.c:Int),.int .i64 (X.d:Int),.slice none 0 0,.int .i64 48] 55))
  have HSZ:=hide (by rw [← uh HW1]; simp:W1.heap.size = w1.heap.size + 1)
  rw [uh HSZ] at HS0
  go_wp2_with fail
  rw [uh HW1]
  have HZS:=hide ((uh HKS).heap (uh HZW) (by simp))
  have HKw:=hide ((uh HKW).trans (uh HKS) (by simp))
  have HLT:=hide (by have:=lt_of_block (uh HZ1); omega:w.heap.size < w1.heap.size + 1)
  obtain ⟨W2,hW2⟩:∃ W,W1.alloc (.cells #[.int .u64 (X.a:Int),.int .u64 (X.b:Int),.int .u64 (X.c:Int),.int .i64 (X.d:Int),.slice none 0 0,.int .i64 48] 55) = W:=⟨_,rfl⟩
  have HS2:=hide (by rw [← hW2]; simp [uh HSZ]:W2.heap.size = w1.heap.size + 1 + 1)
  rw [hW2] at HS0 HKS HZS HKw ⊢
  clear hW2 d0 d1 d2 d3 d4 d5 f0 f1 f2 f3 f4 f5 g0 g1 g2 g3 HKS
  go_loopw [8] (fun t8 wr=>∃ (n f i:Nat) (bv:Value) (ts:List (Nat × Value × List En)),t8 = .int .u64 (i:Int)∧Hid (n≤p.length + 48∧p.length≤n + f∧ts.length≤n)∧Hid (T = (ts.map (fun t=>(t.1,t.2.2))++(rdL f p n i).1,(rdL f p n i).2))∧Hid (wr.heap[w1.heap.size + 1]? = some (.cells #[.int .u64 (X.a:Int),.int .u64 (X.b:Int),.int .u64 (X.c:Int),.int .i64 (X.d:Int),bv,.int .i64 (n:Int)] 55 (0,0)))∧Hid (OwnB W2 wr bv ts)∧Hid (Kept [] w wr)∧Hid (wr.heap[w.heap.size]? = some (.cells #[.int .u64 0,.int .u64 0,.int .u64 0,.int .i64 0,.slice none 0 0,.int .i64 0] 55 (0,0)))) (fun _ wr=>p.length - (intOf ((wr.cell? ⟨w1.heap.size + 1,5,none⟩).getD undef)).toNat)
  case atStart=>exact ⟨48,p.length,X.c,.slice none 0 0,[],rfl,hide ⟨by omega,by omega,by simp⟩,hide (by rw [uh HT]; simp),HS0,hide (OwnB.start _),HKw,HZS⟩
  case round =>
   obtain ⟨n,f,i,bv,ts,rfl,HN,HR,HS,HO,HK,HZ⟩:=hrel
   obtain ⟨s0,s1,s2,s3,s4,s5⟩:=scells (uh HS)
   have HC5:=hide s5
   go_wp2_with fail
   refine Calls.mono (xa7h _ p (n:Int) i wr ((uh H).old (uh HK) (by simp)) (by have:=(uh HN).1; have:=uh HLP; omega)) ?_
   rintro e w3 ⟨b3,rfl,nb,k3⟩
   obtain ⟨a3,n3,c3,_,_,hb3,hl3,_⟩:=id nb.rdN
   subst hb3
   have HL3:=hide hl3
   have HNB:=hide nb
   have HSB:=hide (k3.size)
   have HO3:=hide ((uh HO).pass k3 (by simp))
   have HS3:=hide (k3.heap (uh HS) (by simp))
   have HZ3:=hide (k3.heap (uh HZ) (by simp))
   have HK3:=hide ((uh HK).trans k3 (by simp))
   have HBB:=hide (fun b hb=>((uh HO).own.lt b hb).2:∀ b,bv.ownBlock = some b→b < wr.heap.size)
   have HWB:=hide ((uh HO).sz)
   clear k3 nb s0 s1 s2 s3 s4 s5 hl3 HS HO HK HZ
   obtain ⟨R,hRR⟩:∃ R,rbF p (n:Int) i = R:=⟨_,rfl⟩
   obtain ⟨V,hVV⟩:∃ V,rbN p (n:Int) i = V:=⟨_,rfl⟩
   rw [hRR,hVV]
   have HBW:=hide (heap_alloc_new w3 (.cells #[.int .u64 (R:Int),.slice a3 n3 c3] 75))
   have KA:=hide ((Kept.refl [] w3).alloc (.cells #[.int .u64 (R:Int),.slice a3 n3 c3] 75))
   obtain ⟨W4,hW4⟩:∃ W,w3.alloc (.cells #[.int .u64 (R:Int),.slice a3 n3 c3] 75) = W:=⟨_,rfl⟩
   rw [hW4] at HBW KA
   have HW4:=hide hW4
   clear hW4
   have HS4:=hide ((uh KA).heap (uh HS3) (by simp))
   have HZ4:=hide ((uh KA).heap (uh HZ3) (by simp))
   obtain ⟨s0,s1,s2,s3,s4,s5⟩:=scells (uh HS4)
   obtain ⟨g0,g1⟩:=bcells (uh HBW)
   obtain ⟨z0,z1,z2,z3,z4,z5⟩:=scells (uh HZ4)
   obtain ⟨f0,f1,f2,f3,f4,f5⟩:=sfroz (uh HZ4)
   rw [← uh HW4] at s0 s1 s2 s3 s4 s5 g0 g1 z0 z1 z2 z3 z4 z5 f0 f1 f2 f3 f4 f5
   by_cases hrb:rbOk p (n:Int) i = true
   ·rw [hrb]
    obtain ⟨m,hm,hm1,hm2⟩:=xc5m (uh H).byte hrb
    have HRI:=hide (by rw [← hRR]; simp [rbF,hrb]:R = i)
    obtain ⟨f',rfl⟩:∃ f',f = f' + 1:=⟨f - 1,by have:=(uh HN).2.1; omega⟩
    have HE:=hide (xc0u (k:=f') hrb)
    rw [hm,Int.toNat_natCast] at HE
    obtain rfl:V = (m:Int):=by rw [← hVV,hm]
    obtain ⟨es,hes⟩:∃ es,rbE p (n:Int) i = es:=⟨_,rfl⟩
    rw [hes] at HE HNB HL3
    have HM:=hide (⟨hm1,hm2⟩:n + 18 < m∧m≤p.length)
    clear hrb hm hm1 hm2 hVV hRR hes
    have HO4:=hide (((uh HO3).pass (uh KA) (by simp)).pass ((Kept.refl [] W4).alloc (.cells #[.int .u64 (R:Int),.slice a3 n3 c3] 75)) (by simp))
    have HX4:=hide (((Kept.refl [] W4).alloc (.cells #[.int .u64 (R:Int),.slice a3 n3 c3] 75)).heap (uh HS4) (by simp))
    have HY4:=hide (((Kept.refl [] W4).alloc (.cells #[.int .u64 (R:Int),.slice a3 n3 c3] 75)).heap (uh HZ4) (by simp))
    have HG4:=hide (((Kept.refl [] W4).alloc (.cells #[.int .u64 (R:Int),.slice a3 n3 c3] 75)).heap (uh HBW) (by simp))
    have HK4:=hide (((uh HK3).trans (uh KA) (by simp)).alloc (.cells #[.int .u64 (R:Int),.slice a3 n3 c3] 75))
    have HN4:=hide (((uh HNB).kept (uh KA) (by simp)).kept ((Kept.refl [] W4).alloc (.cells #[.int .u64 (R:Int),.slice a3 n3 c3] 75)) (by simp))
    have HH4:=hide (by rw [← uh HW4]; exact heap_alloc2_new _ _ _:(W4.alloc (.cells #[.int .u64 (R:Int),.slice a3 n3 c3] 75)).heap[w3.heap.size + 1]? = some (.cells #[.int .u64 (R:Int),.slice a3 n3 c3] 75 (0,0)))
    rw [← uh HW4] at HO4 HX4 HY4 HG4 HK4 HN4 HH4
    have HNB4:=hide (fun b hb=>by have:=uh HBB b hb; have:=uh HSB; exact Nat.ne_of_lt (by omega):∀ b,bv.ownBlock = some b→b≠w3.heap.size)
    have HNS4:=hide (fun b hb=>by have:=((uh HO3).own.lt b hb).1; have:=uh HS2; omega:∀ b,bv.ownBlock = some b→b≠w1.heap.size + 1)
    have HNZ4:=hide (fun b hb=>by have:=((uh HO3).own.lt b hb).1; have:=uh HS2; have:=uh HLT; omega:∀ b,bv.ownBlock = some b→b≠w.heap.size)
    go_upto_region 10 with (at_builtin; refine xa8c rfl (.tmp 39) (.tmp 41) rfl rfl _ W2.heap.size bv ts R (.slice a3 n3 c3) (w3.heap.size + 1) (uh HO4).own (uh HH4) rfl (by have:=uh HN; have:=uh HLP; omega) (uh HO4).sz rfl rfl ?_; intro g cap w5 HO5 HG5 HA5; (have HX5:=hide (((Kept.refl (bv.ownBlock.toList) _).grown (uh HG5) (by intro k hk; left; simp [hk])).heap (uh HX4) (by intro hm; exact uh HNS4 _ (by simpa using hm) rfl))); (obtain ⟨x0,x1,x2,x3,x4,x5⟩:=scells (uh HX5)); (obtain ⟨q0,q1,q2,q3,q4,q5⟩:=sfroz (uh HX5)))
    have HK5:=hide ((Kept.refl (bv.ownBlock.toList) _).grown (uh HG5) (by intro k hk; left; simp [hk]))
    have HB5:=hide ((uh HK5).heap (uh HG4) (by intro hm; exact uh HNB4 _ (by simpa using hm) rfl))
    have HZ5:=hide ((uh HK5).heap (uh HY4) (by intro hm; exact uh HNZ4 _ (by simpa using hm) rfl))
    have HP5:=hide ((uh HO4).push (uh HN4) (uh HWB) (uh HBB) (uh HO5) (uh HG5) (uh HA5))
    have HKW5:=hide ((uh HK4).grown (uh HG5) (fun k hk=>Or.inr (by have:=((uh HO3).own.lt k hk).1; have:=uh HS2; have:=uh HLT; omega)))
    have HSS:=hide (by have:=lt_of_block (uh HX5); have:=(uh HO3).sz; have:=uh HS2; have:=uh HWB; have:=uh HSB; omega:w1.heap.size + 1≠w3.heap.size)
    clear x0 x1 x2 x3 x4 x5 q0 q1 q2 q3 q4 q5 HO5 HG5 HA5 HO4 HX4 HY4 HG4 HK4 HN4 HH4 HNB4 HNS4 HNZ4 HK5 s0 s1 s2 s3 s4 s5 g0 g1 z0 z1 z2 z3 z4 z5 f0 f1 f2 f3 f4 f5 HW4 HBW KA HS4 HZ4
    have HX6:=hide (xb3n (uh HX5) (.slice (some ⟨g,0,none⟩) (ts.length + 1) cap) (.int .i64 (m:Int)))
    have HK6:=hide (((Kept.refl [w1.heap.size + 1] w5).setCell (p:=⟨w1.heap.size + 1,4,none⟩) (Or.inl (by simp)) (.slice (some ⟨g,0,none⟩) (ts.length + 1) cap)).setCell (p:=⟨w1.heap.size + 1,5,none⟩) (Or.inl (by simp)) (.int .i64 (m:Int)))
    have HKW6:=hide (((uh HKW5).setCell (p:=⟨w1.heap.size + 1,4,none⟩) (Or.inr (by have:=uh HLT; simp only; omega)) (.slice (some ⟨g,0,none⟩) (ts.length + 1) cap)).setCell (p:=⟨w1.heap.size + 1,5,none⟩) (Or.inr (by have:=uh HLT; simp only; omega)) (.int .i64 (m:Int)))
    generalize (w5.setCell ⟨w1.heap.size + 1,4,none⟩ (.slice (some ⟨g,0,none⟩) (ts.length + 1) cap)).setCell ⟨w1.heap.size + 1,5,none⟩ (.int .i64 (m:Int)) = W6 at HX6 HK6 HKW6 ⊢
    have HB6:=hide ((uh HK6).heap (uh HB5) (by intro hm; exact uh HSS (by simpa using (List.mem_singleton.1 hm).symm)))
    have HZ6:=hide ((uh HK6).heap (uh HZ5) (by intro hm; have:=List.mem_singleton.1 hm; have:=uh HLT; omega))
    have HP6:=hide ((uh HP5).pass (uh HK6) (by have:=uh HS2; simp; omega))
    obtain ⟨g0,g1⟩:=bcells (uh HB6)
    go_wp2_with fail
    go_roundw
    case rel =>
     refine ⟨m,f',(i + es.length) % 18446744073709551616,.slice (some ⟨g,0,none⟩) (ts.length + 1) cap,ts++[(R,.slice a3 n3 c3,es)],?_,hide ⟨by have:=(uh HM).2; omega,by have:=(uh HN).2.1; have:=(uh HM).1; omega,by have:=(uh HN).2.2; have:=(uh HM).1; rw [List.length_append]; simp; omega⟩,hide ?_,HX6,HP6,HKW6,HZ6⟩
     ·have h9:=uh HL3
      rw [h9,IntKind.wrap_u64]
      simp
     ·rw [uh HR,uh HE,uh HRI]
      simp
    case measure =>
     rw [(scells (uh HX6)).2.2.2.2.2,uh HC5]
     have:=uh HM
     simp [intOf]
     omega
   ·rw [Bool.not_eq_true] at hrb
    rw [hrb]
    have HE:=hide (rdL_no (k:=f) hrb)
    have HBS:=hide (by
     have h9:=(uh HO3).own.2
     rcases h9 with ⟨rfl,_⟩ | ⟨g,cap,cur,rfl,_⟩
     ·exact ⟨_,_,_,rfl⟩
     ·exact ⟨_,_,_,rfl⟩:∃ a n c,bv = .slice a n c)
    obtain ⟨ab,nb,cb,rfl⟩:=uh HBS
    clear hrb
    go_wp2
    rw [uh HW4]
    refine bodyPost_ret (v:=.tuple #[.agg #[.int .u64 (X.a:Int),.int .u64 (X.b:Int),.int .u64 (X.c:Int),.int .i64 (X.d:Int),.slice ab nb cb,.int .i64 (n:Int)],.int .i64 0]) ?_ rfl ⟨.slice ab nb cb,by rw [(uh HV).1,(uh HV).2.2,uh HR,uh HE]; rfl,?_,xa3s ((uh HK3).trans (uh KA) (by simp)) w.heap.size (Or.inr (Nat.le_refl _)) _ _ _ _ _ _⟩
    ·exact xa0i rfl _ _ w.heap.size _ #[.int .u64 (X.a:Int),.int .u64 (X.b:Int),.int .u64 (X.c:Int),.int .i64 (X.d:Int),.slice ab nb cb,.int .i64 (n:Int)] (0,0) _ rfl (xa9q (uh HZ4) _ _ _ _ _ _) Tryz.underlying55 rfl Tryz.size_seg _ rfl
    ·rw [(uh HV).2.1,uh HR,uh HE,List.append_nil]
     exact ⟨ts,rfl,(((uh HO3).pass (uh KA) (by simp)).pass (xa3s (L:=[w.heap.size]) (Kept.refl _ W4) w.heap.size (Or.inl (by simp)) _ _ _ _ _ _) (by have:=uh HLT; have:=uh HS2; simp; omega)).base (by have:=uh HLT; have:=uh HS2; omega)⟩
 ·rw [Bool.not_eq_true] at hok
  rw [hok]
  simp only [Bool.false_eq_true,if_false]
  have HV:=hide (uh HNO hok)
  go_wp2
  rw [uh HW1]
  refine bodyPost_ret (v:=.tuple #[.agg #[.int .u64 0,.int .u64 0,.int .u64 0,.int .i64 0,.slice none 0 0,.int .i64 0],.int .i64 3]) ?_ rfl ⟨.slice none 0 0,by rw [(uh HV).1,(uh HV).2.1,(uh HV).2.2.2]; rfl,by rw [(uh HV).2.2.1]; exact ⟨[],rfl,OwnB.empty (xa3s (uh HKW) w.heap.size (Or.inr (Nat.le_refl _)) _ _ _ _ _ _).size⟩,xa3s (uh HKW) w.heap.size (Or.inr (Nat.le_refl _)) _ _ _ _ _ _⟩
  exact xa0i rfl _ _ w.heap.size _ #[.int .u64 0,.int .u64 0,.int .u64 0,.int .i64 0,.slice none 0 0,.int .i64 0] (0,0) _ rfl (xa9q (uh HZW) _ _ _ _ _ _) Tryz.underlying55 rfl Tryz.size_seg _ rfl
def thn (r:Nat × DSt) (f:DSt→Nat × DSt):Nat × DSt:=if r.1 = 0 then f r.2 else r
def nmB (u:Nat):ByteArray:=strB (nmL u)
def stBegin (σ:DSt) (n ep fs:Nat) (wd:Int):Nat × DSt :=
 thn (thn (thn (stCreate σ (nmB n)) (fun τ=>stAppend τ (nmB n) (ehB n ep fs wd))) (fun τ=>stSync τ (nmB n))) stNames
structure LSt where
 num:Nat
 ep:Nat
 fst:Nat
 wd:Int
 byt:Nat
 bt:Nat
 lim:Int
 nx:Nat
 st:Nat
def lgRot (σ:DSt) (l:LSt):Nat × DSt × LSt :=
 if (stSync σ (nmB l.num)).1≠0 then ((stSync σ (nmB l.num)).1,(stSync σ (nmB l.num)).2,l)
 else if l.num = 18446744073709551615 then (7,(stSync σ (nmB l.num)).2,l)
 else if (stBegin (stSync σ (nmB l.num)).2 (l.num + 1) l.ep l.nx l.wd).1≠0 then ((stBegin (stSync σ (nmB l.num)).2 (l.num + 1) l.ep l.nx l.wd).1,(stBegin (stSync σ (nmB l.num)).2 (l.num + 1) l.ep l.nx l.wd).2,l)
 else (0,(stBegin (stSync σ (nmB l.num)).2 (l.num + 1) l.ep l.nx l.wd).2,{ l with num:=l.num + 1,fst:=l.nx,byt:=48,bt:=0 })
def lgLay (σ:DSt) (l:LSt) (p:List Nat):Nat × DSt × LSt :=
 ((stAppend σ (nmB l.num) p).1,(stAppend σ (nmB l.num) p).2,if (stAppend σ (nmB l.num) p).1 = 0 then { l with byt:=l.byt + p.length,bt:=l.bt + 1 } else l)
def lgFull (l:LSt):Bool:=decide (0 < l.bt) && decide (l.lim≤(l.byt:Int))
def lgWrite (σ:DSt) (l:LSt) (p:List Nat):Nat × DSt × LSt :=
 if lgFull l then (if (lgRot σ l).1≠0 then lgRot σ l else lgLay (lgRot σ l).2.1 (lgRot σ l).2.2 p) else lgLay σ l p
def lgFail (l:LSt):Nat:=if l.st = 0∨l.st = 12 then l.st else 8
def lgAppend (σ:DSt) (l:LSt) (es:List En):Nat × DSt × LSt :=
 if chkB l.nx es≠0 then (chkB l.nx es,σ,l)
 else if lgFail l≠0 then (lgFail l,σ,l)
 else ((lgWrite σ l (sbB l.nx es)).1,(lgWrite σ l (sbB l.nx es)).2.1,{ (lgWrite σ l (sbB l.nx es)).2.2 with st:=(lgWrite σ l (sbB l.nx es)).1,nx:=if (lgWrite σ l (sbB l.nx es)).1 = 0 then (l.nx + es.length) % 18446744073709551616 else l.nx })
def lgSync (σ:DSt) (l:LSt):Nat × DSt × LSt :=
 if lgFail l≠0 then (lgFail l,σ,l)
 else ((stSync σ (nmB l.num)).1,(stSync σ (nmB l.num)).2,{ l with st:=(stSync σ (nmB l.num)).1 })
structure FSt where
 last:Nat
 ep:Nat
 sz:Nat
 sg:List (List UInt8)
 bs:List (Nat × List En)
def natL (s:List UInt8):List Nat:=s.map UInt8.toNat
def strU (s:List UInt8):ByteArray:=⟨s.toArray⟩
theorem xc2e (s:List UInt8):strB (natL s) = strU s:=by
 unfold strB natL strU
 rw [List.map_map]
 congr 1
 congr 1
 conv=>rhs; rw [← List.map_id s]
 apply List.map_congr_left
 intro x _
 simp
theorem xb8w (s:List UInt8):∀ x∈natL s,x < 256:=by
 intro x hx
 simp only [natL,List.mem_map] at hx
 obtain ⟨y,_,rfl⟩:=hx
 exact y.toNat_lt
def cntB (bs:List (Nat × List En)):Nat:=(bs.map fun b=>b.2.length).sum
def goOnF (f:FSt) (p:List Nat):Bool:=decide ((hdC p).c = f.sz) && decide (f.ep≤(hdC p).b) && decide ((hdC p).b < 18446744073709551615)
def stepF (σ:DSt) (wd:Int) (f:FSt) (s:List UInt8):Option FSt :=
 if nbE (natL s)≠0 then some f
 else if nbU (natL s) = 18446744073709551615 then none
 else if sgE (stRead σ (strU s)).1≠0 then some { f with last:=nbU (natL s) }
 else if (hdC (stRead σ (strU s)).1).a = nbU (natL s)∧((hdC (stRead σ (strU s)).1).d:Int) = wd∧goOnF f (stRead σ (strU s)).1 = true then
  some ⟨nbU (natL s),(hdC (stRead σ (strU s)).1).b,(f.sz + cntB (sgB (stRead σ (strU s)).1)) % 18446744073709551616,f.sg++[s],f.bs++sgB (stRead σ (strU s)).1⟩
 else none
def findF (σ:DSt) (wd:Int):FSt→List (List UInt8)→Option FSt
 | f,[]=>some f
 | f,s :: r=>match stepF σ wd f s with
  | none=>none
  | some g=>findF σ wd g r
def stSyncs:DSt→List (List UInt8)→Nat × DSt
 | σ,[]=>(0,σ)
 | σ,s :: r=>if (stSync σ (strU s)).1≠0 then stSync σ (strU s) else stSyncs (stSync σ (strU s)).2 r
def argOk (wd lim:Int):Bool:=decide (1≤wd∧wd≤32∧1≤lim∧lim≤1048576)
def fst0:FSt:=⟨0,0,0,[],[]⟩
structure OpA where
 e:Nat
 σ:DSt
 l:Option LSt
 bs:List (Nat × List En)
def opOf (σ:DSt) (wd lim:Int) (f:FSt):OpA :=
 if (stSyncs σ f.sg).1≠0 then ⟨(stSyncs σ f.sg).1,(stSyncs σ f.sg).2,none,[]⟩
 else if (stBegin (stSyncs σ f.sg).2 (f.last + 1) (f.ep + 1) f.sz wd).1≠0 then ⟨(stBegin (stSyncs σ f.sg).2 (f.last + 1) (f.ep + 1) f.sz wd).1,(stBegin (stSyncs σ f.sg).2 (f.last + 1) (f.ep + 1) f.sz wd).2,none,[]⟩
 else ⟨0,(stBegin (stSyncs σ f.sg).2 (f.last + 1) (f.ep + 1) f.sz wd).2,some ⟨f.last + 1,f.ep + 1,f.sz,wd,48,0,lim,f.sz,0⟩,f.bs⟩
def opD (σ:DSt) (wd lim:Int):OpA :=
 if argOk wd lim = false then ⟨1,σ,none,[]⟩
 else if σ.off then ⟨12,σ,none,[]⟩
 else match findF σ wd fst0 (nmsOf σ) with
  | none=>⟨11,σ,none,[]⟩
  | some f=>opOf σ wd lim f
def VarsG (g:Nat) (w:World):Prop:=∀ L w',Kept L w w'→(∀ x∈L,g≤x)→VarsS w'
theorem VarsG.now {g:Nat} {w:World} (h:VarsG g w):VarsS w:=h [] w (Kept.refl _ _) (by simp)
theorem VarsG.on {g:Nat} {L:List Nat} {w w':World} (h:VarsG g w) (k:Kept L w w') (hL:∀ x∈L,g≤x):VarsG g w':=by
 intro M w2 k2 hM
 exact h (L++M) w2 ((k.mono (M:=L++M) (fun x hx=>by simp [hx])).trans (k2.mono (M:=L++M) (fun x hx=>by simp [hx])) (fun x hx=>Or.inl hx)) (fun x hx=>by
  rcases List.mem_append.1 hx with hx | hx
  ·exact hL x hx
  ·exact hM x hx)
theorem VarsG.old {g:Nat} {w w':World} (h:VarsG g w) (k:Kept [] w w'):VarsG g w':=h.on k (by simp)
theorem VarsG.start {w:World} (h:VarsS w):VarsG w.heap.size w:=by
 intro L w' k hL
 exact h.old ⟨k.os,k.tape,k.output,k.size,fun j hj _=>k.block j hj (fun hm=>by have:=hL j hm; omega)⟩
theorem Ev.ge {w w':World} {B B':List Nat} {g:Nat} (h:Ev w w' B B') (hB:∀ x∈B,g≤x) (hg:g≤w.heap.size):∀ x∈B',g≤x:=by
 intro x hx
 rcases h.2 x hx with h1 | h1
 ·exact hB x h1
 ·omega
end
section
open Go Go.RowKit Go.BigFrame
section
variable {P:Program} {Q:Exit→Act→World→Prop}
theorem wp_w8 {id:Nat} {o0 o1 o2 o3 o4 o5 o6 o7:Oper} {a:Act} {w:World} (hm:P.follows .mixedOrders = true) (hs:Region.noSelect #[o0,o1,o2,o3,o4,o5,o6,o7] = true)
  (f0:Region.free .any #[o0,o1,o2,o3,o4,o5,o6,o7] #[false,false,false,false,false,false,false,false] 0 = true) (r0:(Region.ready .any #[o0,o1,o2,o3,o4,o5,o6,o7] #[false,false,false,false,false,false,false,false]).contains 0 = true)
  (f1:Region.free .any #[o0,o1,o2,o3,o4,o5,o6,o7] #[true,false,false,false,false,false,false,false] 1 = true) (r1:(Region.ready .any #[o0,o1,o2,o3,o4,o5,o6,o7] #[true,false,false,false,false,false,false,false]).contains 1 = true)
  (f2:Region.free .any #[o0,o1,o2,o3,o4,o5,o6,o7] #[true,true,false,false,false,false,false,false] 2 = true) (r2:(Region.ready .any #[o0,o1,o2,o3,o4,o5,o6,o7] #[true,true,false,false,false,false,false,false]).contains 2 = true)
  (f3:Region.free .any #[o0,o1,o2,o3,o4,o5,o6,o7] #[true,true,true,false,false,false,false,false] 3 = true) (r3:(Region.ready .any #[o0,o1,o2,o3,o4,o5,o6,o7] #[true,true,true,false,false,false,false,false]).contains 3 = true)
  (f4:Region.free .any #[o0,o1,o2,o3,o4,o5,o6,o7] #[true,true,true,true,false,false,false,false] 4 = true) (r4:(Region.ready .any #[o0,o1,o2,o3,o4,o5,o6,o7] #[true,true,true,true,false,false,false,false]).contains 4 = true)
  (q_:Region.ready .any #[o0,o1,o2,o3,o4,o5,o6,o7] #[true,true,true,true,true,false,false,false] = [5])
  (q5_:Region.ready .any #[o0,o1,o2,o3,o4,o5,o6,o7] #[true,true,true,true,true,true,false,false] = [6])
  (f5_6_7:Region.free .any #[o0,o1,o2,o3,o4,o5,o6,o7] #[true,true,true,true,true,true,true,false] 7 = true) (r5_6_7:(Region.ready .any #[o0,o1,o2,o3,o4,o5,o6,o7] #[true,true,true,true,true,true,true,false]).contains 7 = true)
  (q5_6_:Region.ready .any #[o0,o1,o2,o3,o4,o5,o6,o7] #[true,true,true,true,true,true,true,true] = [])
  (g5:o5.guard = none)    (g6:o6.guard = none)
  (v0 v1 v2 v3 v4:Value) (A0 A1 A2 A3 A4:Act)
  (S:World→Prop)
  (I_:World→Prop)
  (I5_:Value→World→Prop)
  (I5_6_:Value→Value→World→Prop)
  (v7:Value→Value)
  (p0:a.put o0.dst v0 = A0) (hy0:YieldsIf P #[o0,o1,o2,o3,o4,o5,o6,o7] S o0 v0 a)
  (p1:A0.put o1.dst v1 = A1) (hy1:YieldsIf P #[o0,o1,o2,o3,o4,o5,o6,o7] S o1 v1 A0)
  (p2:A1.put o2.dst v2 = A2) (hy2:YieldsIf P #[o0,o1,o2,o3,o4,o5,o6,o7] S o2 v2 A1)
  (p3:A2.put o3.dst v3 = A3) (hy3:YieldsIf P #[o0,o1,o2,o3,o4,o5,o6,o7] S o3 v3 A2)
  (p4:A3.put o4.dst v4 = A4) (hy4:YieldsIf P #[o0,o1,o2,o3,o4,o5,o6,o7] S o4 v4 A3)
  (i0:I_ w.drew)
  (hIS:(∀ w',I_  w'→S w')∧(∀ (u5:Value) w',I5_ u5 w'→S w')∧(∀ (u5 u6:Value) w',I5_6_ u5 u6 w'→S w'))
  (s_5:∀ w',I_  w'→∀ K:Act→World→Prop,(∀ (u5:Value) w2,I5_ u5 w2→K (A4.put o5.dst u5) w2)→o5.wp P A4 w' K (NoPanic Q))
  (s5_6:∀ (u5:Value) w',I5_ u5 w'→∀ K:Act→World→Prop,(∀ (u6:Value) w2,I5_6_ u5 u6 w2→K ((A4.put o5.dst u5).put o6.dst u6) w2)→o6.wp P (A4.put o5.dst u5) w' K (NoPanic Q))
  (y5_6_7:∀ (u5 u6:Value) w',I5_6_ u5 u6 w'→YieldsIf P #[o0,o1,o2,o3,o4,o5,o6,o7] S o7 (v7 u6) ((A4.put o5.dst u5).put o6.dst u6))
  (h:∀ (u5 u6:Value) w',I5_6_ u5 u6 w'→Q .normal (((A4.put o5.dst u5).put o6.dst u6).put o7.dst (v7 u6)) w') :
  (Code.region id #[o0,o1,o2,o3,o4,o5,o6,o7] true).wp P Q a w:=by
 subst p0 p1 p2 p3 p4
 obtain ⟨z_,z5_,z5_6_⟩:=hIS
 refine wp_region_noPanic ?_
 refine wp_region_held_drew (S:=S) hm (z_ _ i0) (fun hH=>?_)
 show wpAnyH P .any #[o0,o1,o2,o3,o4,o5,o6,o7] (NoPanic Q) S 8 #[false,false,false,false,false,false,false,false] a w.drew
 refine wpAnyH_take (i:=0) (oi:=o0) rfl hs f0 r0 (fun _ _ _ h=>h) hy0 hH ?_
 refine wpAnyH_take (i:=1) (oi:=o1) rfl hs f1 r1 (fun _ _ _ h=>h) hy1 hH ?_
 refine wpAnyH_take (i:=2) (oi:=o2) rfl hs f2 r2 (fun _ _ _ h=>h) hy2 hH ?_
 refine wpAnyH_take (i:=3) (oi:=o3) rfl hs f3 r3 (fun _ _ _ h=>h) hy3 hH ?_
 refine wpAnyH_take (i:=4) (oi:=o4) rfl hs f4 r4 (fun _ _ _ h=>h) hy4 hH ?_
 generalize (((((a.put o0.dst v0).put o1.dst v1).put o2.dst v2).put o3.dst v3).put o4.dst v4) = B at *
 have wa5:∀ y,Region.wanted o5 y = true:=fun y=>by unfold Region.wanted; rw [g5]
 have wa6:∀ y,Region.wanted o6 y = true:=fun y=>by unfold Region.wanted; rw [g6]
 have t5_6_:∀ (u5 u6:Value) w',I5_6_ u5 u6 w'→wpAnyH P .any #[o0,o1,o2,o3,o4,o5,o6,o7] (NoPanic Q) S 0 #[true,true,true,true,true,true,true,true] (((B.put o5.dst u5).put o6.dst u6).put o7.dst (v7 u6)) w':=by
  intro u5 u6 w0 i0
  exact ⟨q5_6_,NoPanic.normal (h u5 u6 w0 i0)⟩
 have t5_:∀ (u5:Value) w',I5_ u5 w'→wpAnyH P .any #[o0,o1,o2,o3,o4,o5,o6,o7] (NoPanic Q) S 2 #[true,true,true,true,true,true,false,false] (B.put o5.dst u5) w':=by
  intro u5 w0 i0
  refine wpAnyH_ready (rs:=[6]) q5_ (by simp) (AllReadyH.cons (o:=o6) rfl (fun K hK=>?_) AllReadyH.nil)
  ·rw [if_pos (wa6 _)]
   refine s5_6 u5 w0 i0 K (fun u6 w1 i1=>hK.out _ _ (z5_6_ u5 u6 w1 i1) (fun _=>?_))
   clear hK
   refine wpAnyH_take (i:=7) (oi:=o7) rfl hs f5_6_7 r5_6_7 (fun _ _ _ h=>h) (y5_6_7 u5 u6 w1 i1) (z5_6_ u5 u6 w1 i1) ?_
   exact t5_6_ u5 u6 w1 i1
 have t_:∀ w',I_  w'→wpAnyH P .any #[o0,o1,o2,o3,o4,o5,o6,o7] (NoPanic Q) S 3 #[true,true,true,true,true,false,false,false] B w':=by
  intro w0 i0
  refine wpAnyH_ready (rs:=[5]) q_ (by simp) (AllReadyH.cons (o:=o5) rfl (fun K hK=>?_) AllReadyH.nil)
  ·rw [if_pos (wa5 _)]
   refine s_5  w0 i0 K (fun u5 w1 i1=>hK.out _ _ (z5_ u5 w1 i1) (fun _=>?_))
   clear hK
   exact t5_ u5 w1 i1
 exact t_ w.drew i0
theorem wp_w9 {id:Nat} {o0 o1 o2 o3 o4 o5 o6 o7 o8:Oper} {a:Act} {w:World} (hm:P.follows .mixedOrders = true) (hs:Region.noSelect #[o0,o1,o2,o3,o4,o5,o6,o7,o8] = true)
  (f0:Region.free .any #[o0,o1,o2,o3,o4,o5,o6,o7,o8] #[false,false,false,false,false,false,false,false,false] 0 = true) (r0:(Region.ready .any #[o0,o1,o2,o3,o4,o5,o6,o7,o8] #[false,false,false,false,false,false,false,false,false]).contains 0 = true)
  (f1:Region.free .any #[o0,o1,o2,o3,o4,o5,o6,o7,o8] #[true,false,false,false,false,false,false,false,false] 1 = true) (r1:(Region.ready .any #[o0,o1,o2,o3,o4,o5,o6,o7,o8] #[true,false,false,false,false,false,false,false,false]).contains 1 = true)
  (f2:Region.free .any #[o0,o1,o2,o3,o4,o5,o6,o7,o8] #[true,true,false,false,false,false,false,false,false] 2 = true) (r2:(Region.ready .any #[o0,o1,o2,o3,o4,o5,o6,o7,o8] #[true,true,false,false,false,false,false,false,false]).contains 2 = true)
  (f3:Region.free .any #[o0,o1,o2,o3,o4,o5,o6,o7,o8] #[true,true,true,false,false,false,false,false,false] 3 = true) (r3:(Region.ready .any #[o0,o1,o2,o3,o4,o5,o6,o7,o8] #[true,true,true,false,false,false,false,false,false]).contains 3 = true)
  (f4:Region.free .any #[o0,o1,o2,o3,o4,o5,o6,o7,o8] #[true,true,true,true,false,false,false,false,false] 4 = true) (r4:(Region.ready .any #[o0,o1,o2,o3,o4,o5,o6,o7,o8] #[true,true,true,true,false,false,false,false,false]).contains 4 = true)
  (f6:Region.free .any #[o0,o1,o2,o3,o4,o5,o6,o7,o8] #[true,true,true,true,true,false,false,false,false] 6 = true) (r6:(Region.ready .any #[o0,o1,o2,o3,o4,o5,o6,o7,o8] #[true,true,true,true,true,false,false,false,false]).contains 6 = true)
  (q_:Region.ready .any #[o0,o1,o2,o3,o4,o5,o6,o7,o8] #[true,true,true,true,true,false,true,false,false] = [5])
  (q5_:Region.ready .any #[o0,o1,o2,o3,o4,o5,o6,o7,o8] #[true,true,true,true,true,true,true,false,false] = [7])
  (f5_7_8:Region.free .any #[o0,o1,o2,o3,o4,o5,o6,o7,o8] #[true,true,true,true,true,true,true,true,false] 8 = true) (r5_7_8:(Region.ready .any #[o0,o1,o2,o3,o4,o5,o6,o7,o8] #[true,true,true,true,true,true,true,true,false]).contains 8 = true)
  (q5_7_:Region.ready .any #[o0,o1,o2,o3,o4,o5,o6,o7,o8] #[true,true,true,true,true,true,true,true,true] = [])
  (g5:o5.guard = none)    (g7:o7.guard = none)
  (v0 v1 v2 v3 v4 v6:Value) (A0 A1 A2 A3 A4 A5:Act)
  (S:World→Prop)
  (I_:World→Prop)
  (I5_:Value→World→Prop)
  (I5_7_:Value→Value→World→Prop)
  (v8:Value→Value)
  (p0:a.put o0.dst v0 = A0) (hy0:YieldsIf P #[o0,o1,o2,o3,o4,o5,o6,o7,o8] S o0 v0 a)
  (p1:A0.put o1.dst v1 = A1) (hy1:YieldsIf P #[o0,o1,o2,o3,o4,o5,o6,o7,o8] S o1 v1 A0)
  (p2:A1.put o2.dst v2 = A2) (hy2:YieldsIf P #[o0,o1,o2,o3,o4,o5,o6,o7,o8] S o2 v2 A1)
  (p3:A2.put o3.dst v3 = A3) (hy3:YieldsIf P #[o0,o1,o2,o3,o4,o5,o6,o7,o8] S o3 v3 A2)
  (p4:A3.put o4.dst v4 = A4) (hy4:YieldsIf P #[o0,o1,o2,o3,o4,o5,o6,o7,o8] S o4 v4 A3)
  (p6:A4.put o6.dst v6 = A5) (hy6:YieldsIf P #[o0,o1,o2,o3,o4,o5,o6,o7,o8] S o6 v6 A4)
  (i0:I_ w.drew)
  (hIS:(∀ w',I_  w'→S w')∧(∀ (u5:Value) w',I5_ u5 w'→S w')∧(∀ (u5 u7:Value) w',I5_7_ u5 u7 w'→S w'))
  (s_5:∀ w',I_  w'→∀ K:Act→World→Prop,(∀ (u5:Value) w2,I5_ u5 w2→K (A5.put o5.dst u5) w2)→o5.wp P A5 w' K (NoPanic Q))
  (s5_7:∀ (u5:Value) w',I5_ u5 w'→∀ K:Act→World→Prop,(∀ (u7:Value) w2,I5_7_ u5 u7 w2→K ((A5.put o5.dst u5).put o7.dst u7) w2)→o7.wp P (A5.put o5.dst u5) w' K (NoPanic Q))
  (y5_7_8:∀ (u5 u7:Value) w',I5_7_ u5 u7 w'→YieldsIf P #[o0,o1,o2,o3,o4,o5,o6,o7,o8] S o8 (v8 u7) ((A5.put o5.dst u5).put o7.dst u7))
  (h:∀ (u5 u7:Value) w',I5_7_ u5 u7 w'→Q .normal (((A5.put o5.dst u5).put o7.dst u7).put o8.dst (v8 u7)) w') :
  (Code.region id #[o0,o1,o2,o3,o4,o5,o6,o7,o8] true).wp P Q a w:=by
 subst p0 p1 p2 p3 p4 p6
 obtain ⟨z_,z5_,z5_7_⟩:=hIS
 refine wp_region_noPanic ?_
 refine wp_region_held_drew (S:=S) hm (z_ _ i0) (fun hH=>?_)
 show wpAnyH P .any #[o0,o1,o2,o3,o4,o5,o6,o7,o8] (NoPanic Q) S 9 #[false,false,false,false,false,false,false,false,false] a w.drew
 refine wpAnyH_take (i:=0) (oi:=o0) rfl hs f0 r0 (fun _ _ _ h=>h) hy0 hH ?_
 refine wpAnyH_take (i:=1) (oi:=o1) rfl hs f1 r1 (fun _ _ _ h=>h) hy1 hH ?_
 refine wpAnyH_take (i:=2) (oi:=o2) rfl hs f2 r2 (fun _ _ _ h=>h) hy2 hH ?_
 refine wpAnyH_take (i:=3) (oi:=o3) rfl hs f3 r3 (fun _ _ _ h=>h) hy3 hH ?_
 refine wpAnyH_take (i:=4) (oi:=o4) rfl hs f4 r4 (fun _ _ _ h=>h) hy4 hH ?_
 refine wpAnyH_take (i:=6) (oi:=o6) rfl hs f6 r6 (fun _ _ _ h=>h) hy6 hH ?_
 generalize ((((((a.put o0.dst v0).put o1.dst v1).put o2.dst v2).put o3.dst v3).put o4.dst v4).put o6.dst v6) = B at *
 have wa5:∀ y,Region.wanted o5 y = true:=fun y=>by unfold Region.wanted; rw [g5]
 have wa7:∀ y,Region.wanted o7 y = true:=fun y=>by unfold Region.wanted; rw [g7]
 have t5_7_:∀ (u5 u7:Value) w',I5_7_ u5 u7 w'→wpAnyH P .any #[o0,o1,o2,o3,o4,o5,o6,o7,o8] (NoPanic Q) S 0 #[true,true,true,true,true,true,true,true,true] (((B.put o5.dst u5).put o7.dst u7).put o8.dst (v8 u7)) w':=by
  intro u5 u7 w0 i0
  exact ⟨q5_7_,NoPanic.normal (h u5 u7 w0 i0)⟩
 have t5_:∀ (u5:Value) w',I5_ u5 w'→wpAnyH P .any #[o0,o1,o2,o3,o4,o5,o6,o7,o8] (NoPanic Q) S 2 #[true,true,true,true,true,true,true,false,false] (B.put o5.dst u5) w':=by
  intro u5 w0 i0
  refine wpAnyH_ready (rs:=[7]) q5_ (by simp) (AllReadyH.cons (o:=o7) rfl (fun K hK=>?_) AllReadyH.nil)
  ·rw [if_pos (wa7 _)]
   refine s5_7 u5 w0 i0 K (fun u7 w1 i1=>hK.out _ _ (z5_7_ u5 u7 w1 i1) (fun _=>?_))
   clear hK
   refine wpAnyH_take (i:=8) (oi:=o8) rfl hs f5_7_8 r5_7_8 (fun _ _ _ h=>h) (y5_7_8 u5 u7 w1 i1) (z5_7_ u5 u7 w1 i1) ?_
   exact t5_7_ u5 u7 w1 i1
 have t_:∀ w',I_  w'→wpAnyH P .any #[o0,o1,o2,o3,o4,o5,o6,o7,o8] (NoPanic Q) S 3 #[true,true,true,true,true,false,true,false,false] B w':=by
  intro w0 i0
  refine wpAnyH_ready (rs:=[5]) q_ (by simp) (AllReadyH.cons (o:=o5) rfl (fun K hK=>?_) AllReadyH.nil)
  ·rw [if_pos (wa5 _)]
   refine s_5  w0 i0 K (fun u5 w1 i1=>hK.out _ _ (z5_ u5 w1 i1) (fun _=>?_))
   clear hK
   exact t5_ u5 w1 i1
 exact t_ w.drew i0
theorem wp_w10 {id:Nat} {o0 o1 o2 o3 o4 o5 o6 o7 o8 o9:Oper} {a:Act} {w:World} (hm:P.follows .mixedOrders = true) (hs:Region.noSelect #[o0,o1,o2,o3,o4,o5,o6,o7,o8,o9] = true)
  (f0:Region.free .any #[o0,o1,o2,o3,o4,o5,o6,o7,o8,o9] #[false,false,false,false,false,false,false,false,false,false] 0 = true) (r0:(Region.ready .any #[o0,o1,o2,o3,o4,o5,o6,o7,o8,o9] #[false,false,false,false,false,false,false,false,false,false]).contains 0 = true)
  (f1:Region.free .any #[o0,o1,o2,o3,o4,o5,o6,o7,o8,o9] #[true,false,false,false,false,false,false,false,false,false] 1 = true) (r1:(Region.ready .any #[o0,o1,o2,o3,o4,o5,o6,o7,o8,o9] #[true,false,false,false,false,false,false,false,false,false]).contains 1 = true)
  (f2:Region.free .any #[o0,o1,o2,o3,o4,o5,o6,o7,o8,o9] #[true,true,false,false,false,false,false,false,false,false] 2 = true) (r2:(Region.ready .any #[o0,o1,o2,o3,o4,o5,o6,o7,o8,o9] #[true,true,false,false,false,false,false,false,false,false]).contains 2 = true)
  (f3:Region.free .any #[o0,o1,o2,o3,o4,o5,o6,o7,o8,o9] #[true,true,true,false,false,false,false,false,false,false] 3 = true) (r3:(Region.ready .any #[o0,o1,o2,o3,o4,o5,o6,o7,o8,o9] #[true,true,true,false,false,false,false,false,false,false]).contains 3 = true)
  (f4:Region.free .any #[o0,o1,o2,o3,o4,o5,o6,o7,o8,o9] #[true,true,true,true,false,false,false,false,false,false] 4 = true) (r4:(Region.ready .any #[o0,o1,o2,o3,o4,o5,o6,o7,o8,o9] #[true,true,true,true,false,false,false,false,false,false]).contains 4 = true)
  (f5:Region.free .any #[o0,o1,o2,o3,o4,o5,o6,o7,o8,o9] #[true,true,true,true,true,false,false,false,false,false] 5 = true) (r5:(Region.ready .any #[o0,o1,o2,o3,o4,o5,o6,o7,o8,o9] #[true,true,true,true,true,false,false,false,false,false]).contains 5 = true)
  (f6:Region.free .any #[o0,o1,o2,o3,o4,o5,o6,o7,o8,o9] #[true,true,true,true,true,true,false,false,false,false] 6 = true) (r6:(Region.ready .any #[o0,o1,o2,o3,o4,o5,o6,o7,o8,o9] #[true,true,true,true,true,true,false,false,false,false]).contains 6 = true)
  (q_:Region.ready .any #[o0,o1,o2,o3,o4,o5,o6,o7,o8,o9] #[true,true,true,true,true,true,true,false,false,false] = [7,8])
  (q7_:Region.ready .any #[o0,o1,o2,o3,o4,o5,o6,o7,o8,o9] #[true,true,true,true,true,true,true,true,false,false] = [8])
  (q8_:Region.ready .any #[o0,o1,o2,o3,o4,o5,o6,o7,o8,o9] #[true,true,true,true,true,true,true,false,true,false] = [7])
  (q7_8_:Region.ready .any #[o0,o1,o2,o3,o4,o5,o6,o7,o8,o9] #[true,true,true,true,true,true,true,true,true,false] = [9])
  (q7_8_9_:Region.ready .any #[o0,o1,o2,o3,o4,o5,o6,o7,o8,o9] #[true,true,true,true,true,true,true,true,true,true] = [])
  (g7:o7.guard = none)    (g8:o8.guard = none)    (g9:o9.guard = none)
  (ne8_7:∀ d,o8.dst = some d→o7.dst≠some d)
  (v0 v1 v2 v3 v4 v5 v6:Value) (A0 A1 A2 A3 A4 A5 A6:Act)
  (S:World→Prop)
  (I_:World→Prop)
  (I7_:Value→World→Prop)
  (I8_:Value→World→Prop)
  (I7_8_:Value→Value→World→Prop)
  (I7_8_9_:Value→Value→Value→World→Prop)
  (p0:a.put o0.dst v0 = A0) (hy0:YieldsIf P #[o0,o1,o2,o3,o4,o5,o6,o7,o8,o9] S o0 v0 a)
  (p1:A0.put o1.dst v1 = A1) (hy1:YieldsIf P #[o0,o1,o2,o3,o4,o5,o6,o7,o8,o9] S o1 v1 A0)
  (p2:A1.put o2.dst v2 = A2) (hy2:YieldsIf P #[o0,o1,o2,o3,o4,o5,o6,o7,o8,o9] S o2 v2 A1)
  (p3:A2.put o3.dst v3 = A3) (hy3:YieldsIf P #[o0,o1,o2,o3,o4,o5,o6,o7,o8,o9] S o3 v3 A2)
  (p4:A3.put o4.dst v4 = A4) (hy4:YieldsIf P #[o0,o1,o2,o3,o4,o5,o6,o7,o8,o9] S o4 v4 A3)
  (p5:A4.put o5.dst v5 = A5) (hy5:YieldsIf P #[o0,o1,o2,o3,o4,o5,o6,o7,o8,o9] S o5 v5 A4)
  (p6:A5.put o6.dst v6 = A6) (hy6:YieldsIf P #[o0,o1,o2,o3,o4,o5,o6,o7,o8,o9] S o6 v6 A5)
  (i0:I_ w.drew)
  (hIS:(∀ w',I_  w'→S w')∧(∀ (u7:Value) w',I7_ u7 w'→S w')∧(∀ (u8:Value) w',I8_ u8 w'→S w')∧(∀ (u7 u8:Value) w',I7_8_ u7 u8 w'→S w')∧(∀ (u7 u8 u9:Value) w',I7_8_9_ u7 u8 u9 w'→S w'))
  (s_7:∀ w',I_  w'→∀ K:Act→World→Prop,(∀ (u7:Value) w2,I7_ u7 w2→K (A6.put o7.dst u7) w2)→o7.wp P A6 w' K (NoPanic Q))
  (s_8:∀ w',I_  w'→∀ K:Act→World→Prop,(∀ (u8:Value) w2,I8_ u8 w2→K (A6.put o8.dst u8) w2)→o8.wp P A6 w' K (NoPanic Q))
  (s7_8:∀ (u7:Value) w',I7_ u7 w'→∀ K:Act→World→Prop,(∀ (u8:Value) w2,I7_8_ u7 u8 w2→K ((A6.put o7.dst u7).put o8.dst u8) w2)→o8.wp P (A6.put o7.dst u7) w' K (NoPanic Q))
  (s8_7:∀ (u8:Value) w',I8_ u8 w'→∀ K:Act→World→Prop,(∀ (u7:Value) w2,I7_8_ u7 u8 w2→K ((A6.put o8.dst u8).put o7.dst u7) w2)→o7.wp P (A6.put o8.dst u8) w' K (NoPanic Q))
  (s7_8_9:∀ (u7 u8:Value) w',I7_8_ u7 u8 w'→∀ K:Act→World→Prop,(∀ (u9:Value) w2,I7_8_9_ u7 u8 u9 w2→K (((A6.put o7.dst u7).put o8.dst u8).put o9.dst u9) w2)→o9.wp P ((A6.put o7.dst u7).put o8.dst u8) w' K (NoPanic Q))
  (h:∀ (u7 u8 u9:Value) w',I7_8_9_ u7 u8 u9 w'→Q .normal (((A6.put o7.dst u7).put o8.dst u8).put o9.dst u9) w') :
  (Code.region id #[o0,o1,o2,o3,o4,o5,o6,o7,o8,o9] true).wp P Q a w:=by
 subst p0 p1 p2 p3 p4 p5 p6
 obtain ⟨z_,z7_,z8_,z7_8_,z7_8_9_⟩:=hIS
 refine wp_region_noPanic ?_
 refine wp_region_held_drew (S:=S) hm (z_ _ i0) (fun hH=>?_)
 show wpAnyH P .any #[o0,o1,o2,o3,o4,o5,o6,o7,o8,o9] (NoPanic Q) S 10 #[false,false,false,false,false,false,false,false,false,false] a w.drew
 refine wpAnyH_take (i:=0) (oi:=o0) rfl hs f0 r0 (fun _ _ _ h=>h) hy0 hH ?_
 refine wpAnyH_take (i:=1) (oi:=o1) rfl hs f1 r1 (fun _ _ _ h=>h) hy1 hH ?_
 refine wpAnyH_take (i:=2) (oi:=o2) rfl hs f2 r2 (fun _ _ _ h=>h) hy2 hH ?_
 refine wpAnyH_take (i:=3) (oi:=o3) rfl hs f3 r3 (fun _ _ _ h=>h) hy3 hH ?_
 refine wpAnyH_take (i:=4) (oi:=o4) rfl hs f4 r4 (fun _ _ _ h=>h) hy4 hH ?_
 refine wpAnyH_take (i:=5) (oi:=o5) rfl hs f5 r5 (fun _ _ _ h=>h) hy5 hH ?_
 refine wpAnyH_take (i:=6) (oi:=o6) rfl hs f6 r6 (fun _ _ _ h=>h) hy6 hH ?_
 generalize (((((((a.put o0.dst v0).put o1.dst v1).put o2.dst v2).put o3.dst v3).put o4.dst v4).put o5.dst v5).put o6.dst v6) = B at *
 have wa7:∀ y,Region.wanted o7 y = true:=fun y=>by unfold Region.wanted; rw [g7]
 have wa8:∀ y,Region.wanted o8 y = true:=fun y=>by unfold Region.wanted; rw [g8]
 have wa9:∀ y,Region.wanted o9 y = true:=fun y=>by unfold Region.wanted; rw [g9]
 have t7_8_9_:∀ (u7 u8 u9:Value) w',I7_8_9_ u7 u8 u9 w'→wpAnyH P .any #[o0,o1,o2,o3,o4,o5,o6,o7,o8,o9] (NoPanic Q) S 0 #[true,true,true,true,true,true,true,true,true,true] (((B.put o7.dst u7).put o8.dst u8).put o9.dst u9) w':=by
  intro u7 u8 u9 w0 i0
  exact ⟨q7_8_9_,NoPanic.normal (h u7 u8 u9 w0 i0)⟩
 have t7_8_:∀ (u7 u8:Value) w',I7_8_ u7 u8 w'→wpAnyH P .any #[o0,o1,o2,o3,o4,o5,o6,o7,o8,o9] (NoPanic Q) S 1 #[true,true,true,true,true,true,true,true,true,false] ((B.put o7.dst u7).put o8.dst u8) w':=by
  intro u7 u8 w0 i0
  refine wpAnyH_ready (rs:=[9]) q7_8_ (by simp) (AllReadyH.cons (o:=o9) rfl (fun K hK=>?_) AllReadyH.nil)
  ·rw [if_pos (wa9 _)]
   refine s7_8_9 u7 u8 w0 i0 K (fun u9 w1 i1=>hK.out _ _ (z7_8_9_ u7 u8 u9 w1 i1) (fun _=>?_))
   clear hK
   exact t7_8_9_ u7 u8 u9 w1 i1
 have t8_:∀ (u8:Value) w',I8_ u8 w'→wpAnyH P .any #[o0,o1,o2,o3,o4,o5,o6,o7,o8,o9] (NoPanic Q) S 2 #[true,true,true,true,true,true,true,false,true,false] (B.put o8.dst u8) w':=by
  intro u8 w0 i0
  refine wpAnyH_ready (rs:=[7]) q8_ (by simp) (AllReadyH.cons (o:=o7) rfl (fun K hK=>?_) AllReadyH.nil)
  ·rw [if_pos (wa7 _)]
   refine s8_7 u8 w0 i0 K (fun u7 w1 i1=>hK.out _ _ (z7_8_ u7 u8 w1 i1) (fun _=>?_))
   clear hK
   rw [Act.put_comm _ _ _ ne8_7]
   exact t7_8_ u7 u8 w1 i1
 have t7_:∀ (u7:Value) w',I7_ u7 w'→wpAnyH P .any #[o0,o1,o2,o3,o4,o5,o6,o7,o8,o9] (NoPanic Q) S 2 #[true,true,true,true,true,true,true,true,false,false] (B.put o7.dst u7) w':=by
  intro u7 w0 i0
  refine wpAnyH_ready (rs:=[8]) q7_ (by simp) (AllReadyH.cons (o:=o8) rfl (fun K hK=>?_) AllReadyH.nil)
  ·rw [if_pos (wa8 _)]
   refine s7_8 u7 w0 i0 K (fun u8 w1 i1=>hK.out _ _ (z7_8_ u7 u8 w1 i1) (fun _=>?_))
   clear hK
   exact t7_8_ u7 u8 w1 i1
 have t_:∀ w',I_  w'→wpAnyH P .any #[o0,o1,o2,o3,o4,o5,o6,o7,o8,o9] (NoPanic Q) S 3 #[true,true,true,true,true,true,true,false,false,false] B w':=by
  intro w0 i0
  refine wpAnyH_ready (rs:=[7,8]) q_ (by simp) (AllReadyH.cons (o:=o7) rfl (fun K hK=>?_) (AllReadyH.cons (o:=o8) rfl (fun K hK=>?_) AllReadyH.nil))
  ·rw [if_pos (wa7 _)]
   refine s_7  w0 i0 K (fun u7 w1 i1=>hK.out _ _ (z7_ u7 w1 i1) (fun _=>?_))
   clear hK
   exact t7_ u7 w1 i1
  ·rw [if_pos (wa8 _)]
   refine s_8  w0 i0 K (fun u8 w1 i1=>hK.out _ _ (z8_ u8 w1 i1) (fun _=>?_))
   clear hK
   exact t8_ u8 w1 i1
 exact t_ w.drew i0
end
end
section
open Go.RowKit Go.BigFrame
theorem xa3x (u:Nat):(nmB u).size = 24:=by unfold nmB; rw [xa0p,xb6f]
theorem Ev.pre {w0 w w':World} {B B':List Nat} (k:Kept [] w0 w) (h:Ev w w' B B'):Ev w0 w' B B' :=
 ⟨(k.mono (M:=B) (by simp)).trans h.1 (fun x hx=>Or.inl hx),fun x hx=>(h.2 x hx).imp id (fun h1=>Nat.le_trans k.size h1)⟩
set_option maxHeartbeats 1000000 in
theorem xa3u (g u:Nat) (w:World) (hc:w.cell? ⟨g,1,none⟩ = some (.int .u64 (u:Int))) (hu:u < 18446744073709551616) (hv:VarsS w) :
  Calls Tryz.prog 94 #[.pointer (some ⟨g,0,none⟩)] w fun e w'=>e = .returned (.string (nmB u))∧Kept [] w w':=by
 have HV:=hide hv
 clear hv
 go_enter Tryz.func94,Tryz.ntmps94
 go_wp2_with fail
 refine Calls.mono (xa5z u w hu (uh HV)) ?_
 rintro e w1 ⟨rfl,k1⟩
 have HK:=hide k1
 clear k1
 go_wp2_with fail
 go_ret
 exact ⟨rfl,uh HK⟩
set_option maxHeartbeats 1000000 in
theorem xa4e (g u d nb ob bb:Nat) (B:List Nat) (σ:DSt) (w:World) (h0:w.cell? ⟨g,0,none⟩ = some (.pointer (some ⟨d,0,none⟩))) (h1:w.cell? ⟨g,1,none⟩ = some (.int .u64 (u:Int))) (hu:u < 18446744073709551616) (hv:VarsS w) (hD:DKf w d B nb ob bb σ) (hg:g∉B) (hn:nb≤1000000000) (hob:ob≤1000000000) :
  Calls Tryz.prog 65 #[.pointer (some ⟨g,0,none⟩)] w fun e w'=>∃ B',e = .returned (.int .i64 ((stSync σ (nmB u)).1:Nat))∧DKf w' d B' nb (ob + 1) bb (stSync σ (nmB u)).2∧Ev w w' B B':=by
 have HV:=hide hv
 have HDK:=hide hD
 have HC0:=hide (fun w' (k:Kept [] w w')=>k.cell h0 (by simp))
 have HC1:=hide (fun w' (k:Kept [] w w')=>k.cell h1 (by simp))
 clear hv hD h0 h1
 go_enter Tryz.func65,Tryz.ntmps65
 go_upto_region 1 with fail
 refine wp_w8 (by kernel_rfl) (by kernel_rfl) (by kernel_rfl) (by kernel_rfl) (by kernel_rfl) (by kernel_rfl) (by kernel_rfl) (by kernel_rfl) (by kernel_rfl) (by kernel_rfl) (by kernel_rfl) (by kernel_rfl) (by kernel_rfl) (by kernel_rfl) (by kernel_rfl) (by kernel_rfl) (by kernel_rfl) rfl rfl
  (.pointer (some ⟨g,0,none⟩)) (.pointer (some ⟨g,0,none⟩)) (.pointer (some ⟨g,0,none⟩)) (.pointer (some ⟨d,0,none⟩)) (.pointer (some ⟨g,0,none⟩)) _ _ _ _ _
  (fun w'=>w'.cell? ⟨g,0,none⟩ = some (.pointer (some ⟨d,0,none⟩)))
  (fun w'=>Kept [] w w')
  (fun u5 w'=>u5 = .string (nmB u)∧Kept [] w w')
  (fun u5 u6 w'=>w'.cell? ⟨g,0,none⟩ = some (.pointer (some ⟨d,0,none⟩))∧∃ B',u6 = .int .i64 ((stSync σ (nmB u)).1:Nat)∧DKf w' d B' nb (ob + 1) bb (stSync σ (nmB u)).2∧Ev w w' B B')
  (fun u6=>u6)
  (by simp only [Act.put,sa1,sa2,sa3]; rfl) (by exact Or.inl ⟨by rfl,fun W' hW'=>by go_simp⟩)
  (by simp only [Act.put,sa1,sa2,sa3]; rfl) (by exact Or.inl ⟨by rfl,fun W' hW'=>by go_simp⟩)
  (by simp only [Act.put,sa1,sa2,sa3]; rfl) (by exact Or.inl ⟨by rfl,fun W' hW'=>by go_simp⟩)
  (by simp only [Act.put,sa1,sa2,sa3]; rfl) (by exact Or.inl ⟨by rfl,fun W' hW'=>by go_simp⟩)
  (by simp only [Act.put,sa1,sa2,sa3]; rfl) (by exact Or.inl ⟨by rfl,fun W' hW'=>by go_simp⟩)
  (Kept.refl [] w).drew
  ⟨fun w' h=>uh HC0 w' h,fun u5 w' h=>uh HC0 w' h.2,fun u5 u6 w' h=>h.1⟩
  (by
   intro w' k K hK
   refine xa0f rfl Tryz.call94 [.pointer (some ⟨g,0,none⟩)] rfl (xa3u g u w' (uh HC1 w' k) hu ((uh HV).old k)) ?_
   rintro e w2 ⟨rfl,k2⟩
   exact ⟨_,rfl,hK _ _ ⟨rfl,k.trans k2 (by simp)⟩⟩)
  (by
   rintro u5 w' ⟨rfl,k⟩ K hK
   refine xa0f rfl Tryz.call91 [.pointer (some ⟨d,0,none⟩),.string (nmB u)] rfl (sync_F d nb ob bb B σ (nmB u) w' ((uh HDK).old k) (by rw [xa3x]; omega) hn hob) ?_
   rintro e w2 ⟨B',rfl,h9,ev⟩
   exact ⟨_,rfl,hK _ _ ⟨ev.1.cell (uh HC0 w' k) hg,B',rfl,h9,Ev.pre k ev⟩⟩)
  (by
   rintro u5 u6 w' ⟨_,B',rfl,_⟩
   exact Or.inl ⟨by rfl,fun W' hW'=>by go_simp⟩)
  ?_
 rintro u5 u6 w3 ⟨_,B',rfl,h9,ev⟩
 simp only [Act.put,sa1,sa2,sa3]
 have H9:=hide h9
 have HE:=hide ev
 clear h9 ev
 go_wp2_with fail
 go_ret
 exact ⟨B',rfl,uh H9,uh HE⟩
theorem xb4b {a b c:Nat} {z:Int} (h:wideB z = true):(ehB a b c z).length = 48:=by
 unfold ehB
 rw [if_pos h,xa1t,xa1q]
theorem thn_no {r:Nat × DSt} {f:DSt→Nat × DSt} (h:r.1≠0):thn r f = r:=by unfold thn; rw [if_neg h]
theorem xb3j {r:Nat × DSt} {f:DSt→Nat × DSt} (h:r.1 = 0):thn r f = f r.2:=by unfold thn; rw [if_pos h]
theorem xa6i {w w':World} {B B':List Nat} {g:Nat} (ev:Ev w w' B B') (h:g∉B) (hl:g < w.heap.size):g∉B':=by
 intro hm
 rcases ev.2 g hm with h1 | h1
 ·exact h h1
 ·omega
def curC (d n ep fs:Nat) (wd:Int) (b t:Int):Array Value:=#[.pointer (some ⟨d,0,none⟩),.int .u64 (n:Int),.int .u64 (ep:Int),.int .u64 (fs:Int),.int .i64 wd,.int .i64 b,.int .i64 t]
theorem xa1n {w:World} {g d n ep fs:Nat} {wd b t:Int} {ty:TypeId} (h:w.heap[g]? = some (.cells (curC d n ep fs wd b t) ty (0,0))) :
  w.cell? ⟨g,0,none⟩ = some (.pointer (some ⟨d,0,none⟩))∧w.cell? ⟨g,1,none⟩ = some (.int .u64 (n:Int))∧w.cell? ⟨g,2,none⟩ = some (.int .u64 (ep:Int))∧w.cell? ⟨g,3,none⟩ = some (.int .u64 (fs:Int))∧w.cell? ⟨g,4,none⟩ = some (.int .i64 wd)∧w.cell? ⟨g,5,none⟩ = some (.int .i64 b)∧w.cell? ⟨g,6,none⟩ = some (.int .i64 t):=by
 refine ⟨?_,?_,?_,?_,?_,?_,?_⟩ <;> rw [cell_of_row _ _ _ _ _ _ h] <;> rfl
def BegR (w w':World) (g d n ep fs:Nat) (wd:Int) (B:List Nat) (nb ob bb:Nat) (r:Nat × DSt) (B':List Nat):Prop :=
 DKf w' d B' (nb + 1) (ob + 4) (bb + 48) r.2∧Kept (g :: B) w w'∧(∀ x∈B',x∈B∨w.heap.size≤x)∧w'.heap[g]? = some (.cells (curC d n ep fs wd 48 0) 130 (0,0))
theorem BegR.mk {w w3:World} {g d n ep fs:Nat} {wd:Int} {B B3:List Nat} {nb ob bb nb3 ob3 bb3:Nat} {r:Nat × DSt} (hD:DKf w3 d B3 nb3 ob3 bb3 r.2) (h1:nb3≤nb + 1) (h2:ob3≤ob + 4) (h3:bb3≤bb + 48) (ev:Ev w w3 B B3) (hg:w.heap[g]? = some (.cells (curC d n ep fs wd 0 0) 130 (0,0))) (hgB:g∉B) :
  BegR w (w3.setCell ⟨g,5,none⟩ (.int .i64 48)) g d n ep fs wd B nb ob bb r B3:=by
 have hlt:=lt_of_block hg
 have hg3:g∉B3:=xa6i ev hgB hlt
 have k9:Kept [g] w3 (w3.setCell ⟨g,5,none⟩ (.int .i64 48)):=(Kept.refl [g] w3).setCell (p:=⟨g,5,none⟩) (.inl (by simp)) _
 refine ⟨(hD.more h1 h2 h3).kept k9 (fun x hx hm=>?_),(ev.1.mono (M:=g :: B) (fun x hx=>by simp [hx])).setCell (p:=⟨g,5,none⟩) (.inl (by simp)) _,ev.2,?_⟩
 ·simp only [List.mem_singleton] at hm
  subst hm
  exact hg3 hx
 ·rw [heap_setCell_same _ g 5 _ _ _ (ev.1.heap hg hgB)]
  rfl
set_option maxHeartbeats 4000000 in
theorem xa7q (g n ep fs d nb ob bb g0:Nat) (wd:Int) (B:List Nat) (σ:DSt) (w:World) (hg:w.heap[g]? = some (.cells (curC d n ep fs wd 0 0) 130 (0,0))) (hwd:wideB wd = true) (hn:n < 18446744073709551616) (hv:VarsG g0 w) (hB:∀ x∈B,g0≤x) (hg0:g0≤w.heap.size) (hD:DKf w d B nb ob bb σ) (hgB:g∉B) (h1:nb≤900000000) (h2:ob≤900000000) (h3:bb≤140737488340000) :
  Calls Tryz.prog 51 #[.pointer (some ⟨g,0,none⟩)] w fun e w'=>∃ B',e = .returned (.int .i64 ((stBegin σ n ep fs wd).1:Nat))∧BegR w w' g d n ep fs wd B nb ob bb (stBegin σ n ep fs wd) B':=by
 have HG:=hide hg
 have HVG:=hide hv
 have HDK:=hide hD
 have HNU:=hide hn
 have HGB:=hide hgB
 have HLT:=hide (lt_of_block hg)
 have HB:=hide hB
 have HEH:=hide (xa6h n ep fs wd w hn (by simp [wideB] at hwd; omega))
 have HPL:=hide (xb4b (a:=n) (b:=ep) (c:=fs) hwd)
 have hE:ehE wd = 0:=by simp [ehE,hwd]
 rw [hE] at HEH
 have hst0:stBegin σ n ep fs wd = thn (thn (thn (stCreate σ (nmB n)) (fun τ=>stAppend τ (nmB n) (ehB n ep fs wd))) (fun τ=>stSync τ (nmB n))) stNames:=rfl
 obtain ⟨ST,hST⟩:∃ ST,stBegin σ n ep fs wd = ST:=⟨_,rfl⟩
 rw [hST] at hst0 ⊢
 have HST:=hide hst0
 generalize hPS:ehB n ep fs wd = ps at HEH HPL HST
 clear hPS hST hst0
 obtain ⟨c0,c1,c2,c3,c4,c5,c6⟩:=xa1n hg
 clear hg hv hD hn hgB hB hE hwd
 go_enter Tryz.func51,Tryz.ntmps51
 go_wp2_with fail
 refine Calls.mono (uh HEH) ?_
 rintro e w1 ⟨pv,rfl,nw,k1⟩
 obtain ⟨pg,hpv,hpg,hpc⟩:∃ pg,pv = .slice (some ⟨pg,0,none⟩) 48 48∧w.heap.size≤pg∧w1.heap[pg]? = some (.cells (ps.map u8).toArray 5 (0,0)):=by
  rcases nw.2 with ⟨h9,_⟩ | ⟨pg,h9,h8,h7⟩
  ·have:=uh HPL; rw [h9] at this; cases this
  ·rw [uh HPL] at h9; exact ⟨pg,h9,h8,h7⟩
 subst hpv
 have HPR:=hide nw.1
 have HPG:=hide hpg
 have HPL1:=hide (lt_of_block hpc)
 have HK1:=hide k1
 have HG1:=hide (k1.heap (uh HG) (by simp))
 have HV1:=hide ((uh HVG).old k1)
 have HD1:=hide ((uh HDK).old k1)
 have HC0:=hide (fun w' (k:Kept [] w1 w')=>k.cell (k1.cell c0 (by simp)) (by simp))
 have HC1:=hide (fun w' (k:Kept [] w1 w')=>k.cell (k1.cell c1 (by simp)) (by simp))
 have HV:=hide ((uh HVG).old k1).now
 clear c0 c1 c2 c3 c4 c5 c6 nw k1 hpg hpc HEH
 go_upto_region 2 with fail
 refine wp_w8 (by kernel_rfl) (by kernel_rfl) (by kernel_rfl) (by kernel_rfl) (by kernel_rfl) (by kernel_rfl) (by kernel_rfl) (by kernel_rfl) (by kernel_rfl) (by kernel_rfl) (by kernel_rfl) (by kernel_rfl) (by kernel_rfl) (by kernel_rfl) (by kernel_rfl) (by kernel_rfl) (by kernel_rfl) rfl rfl
  (.pointer (some ⟨g,0,none⟩)) (.pointer (some ⟨g,0,none⟩)) (.pointer (some ⟨g,0,none⟩)) (.pointer (some ⟨d,0,none⟩)) (.pointer (some ⟨g,0,none⟩)) _ _ _ _ _
  (fun w'=>w'.cell? ⟨g,0,none⟩ = some (.pointer (some ⟨d,0,none⟩)))
  (fun w'=>Kept [] w1 w')
  (fun u5 w'=>u5 = .string (nmB (n))∧Kept [] w1 w')
  (fun u5 u6 w'=>w'.cell? ⟨g,0,none⟩ = some (.pointer (some ⟨d,0,none⟩))∧∃ B',u6 = .int .i64 ((stCreate σ (nmB n)).1:Nat)∧DKf w' d B' (nb + 1) (ob + 1) bb (stCreate σ (nmB n)).2∧Ev w1 w' B B')
  (fun x=>x)
  (by simp only [Act.put,sa1,sa2,sa3]; rfl) (by exact Or.inl ⟨by rfl,fun W' hW'=>by go_simp⟩)
  (by simp only [Act.put,sa1,sa2,sa3]; rfl) (by exact Or.inl ⟨by rfl,fun W' hW'=>by go_simp⟩)
  (by simp only [Act.put,sa1,sa2,sa3]; rfl) (by exact Or.inl ⟨by rfl,fun W' hW'=>by go_simp⟩)
  (by simp only [Act.put,sa1,sa2,sa3]; rfl) (by exact Or.inl ⟨by rfl,fun W' hW'=>by go_simp⟩)
  (by simp only [Act.put,sa1,sa2,sa3]; rfl) (by exact Or.inl ⟨by rfl,fun W' hW'=>by go_simp⟩)
  (Kept.refl [] w1).drew
  ⟨fun w' h=>uh HC0 w' h,fun u5 w' h=>uh HC0 w' h.2,fun u5 u6 w' h=>h.1⟩
  (by
   intro w' k K hK
   refine xa0f rfl Tryz.call94 [.pointer (some ⟨g,0,none⟩)] rfl (xa3u g (n) w' (uh HC1 w' k) (uh HNU) ((uh HV).old k)) ?_
   rintro e w2 ⟨rfl,k2⟩
   exact ⟨_,rfl,hK _ _ ⟨rfl,k.trans k2 (by simp)⟩⟩)
  (by
   rintro u5 w' ⟨rfl,k⟩ K hK
   refine xa0f rfl Tryz.call93 [.pointer (some ⟨d,0,none⟩),.string (nmB (n))] rfl (xc2u d nb ob bb B σ (nmB n) w' ((uh HD1).old k) (by rw [xa3x]; omega) (by omega) (by omega)) ?_
   rintro e w2 ⟨B',rfl,h9,ev⟩
   exact ⟨_,rfl,hK _ _ ⟨ev.1.cell (uh HC0 w' k) (uh HGB),B',rfl,h9,Ev.pre k ev⟩⟩)
  (by
   rintro u5 u6 w' ⟨_,B',rfl,_⟩
   exact Or.inl ⟨by rfl,fun W' hW'=>by go_simp⟩)
  ?_
 rintro u5 u6 w3 ⟨_,B3,rfl,h9,ev⟩
 simp only [Act.put,sa1,sa2,sa3]
 have HE3:=hide (Ev.pre (uh HK1) ev)
 have HD3:=hide h9
 have HK3:=hide ev.1
 have HN3:=hide ev.2
 clear h9 ev HC0 HC1 HV
 have HG3:=hide ((uh HK3).heap (uh HG1) (uh HGB))
 obtain ⟨R1,hR1⟩:∃ R1,stCreate σ (nmB n) = R1:=⟨_,rfl⟩
 rw [hR1] at HD3 HST ⊢
 obtain ⟨E1,τ1⟩:=R1
 dsimp only at *
 obtain ⟨c0,c1,c2,c3,c4,c5,c6⟩:=xa1n (uh HG3)
 have hfz:=frozen_of_row _ _ 5 _ _ (uh HG3)
 by_cases he1:E1 = 0
 ·subst he1
  have HV:=hide ((uh HV1).on (uh HK3) (uh HB)).now
  have HGB3:=hide (xa6i (uh HE3) (uh HGB) (uh HLT))
  have HC0:=hide (fun w' (k:Kept [] w3 w')=>k.cell c0 (by simp))
  have HC1:=hide (fun w' (k:Kept [] w3 w')=>k.cell c1 (by simp))
  have HPR3:=hide ((uh HPR).kept (uh HK3) (fun x hx hm=>by simp only [blk,List.mem_singleton] at hx; subst hx; have:=(uh HDK).lt _ hm; have:=uh HPG; omega))
  have HPB:=hide (fun x hx hm=>by
   have hx2:=(xa3w hx).1
   simp only [blk,List.mem_singleton] at hx2
   subst hx2
   rcases uh HN3 _ hm with h7 | h7
   ·have:=(uh HDK).lt _ h7; have:=uh HPG; omega
   ·have:=uh HPL1; omega:∀ x∈zblk (.slice (some ⟨pg,0,none⟩) 48 48) ps,x∉B3)
  clear c0 c1 c2 c3 c4 c5 c6 hfz
  go_upto_region 4 with fail
  refine wp_w9 (by kernel_rfl) (by kernel_rfl) (by kernel_rfl) (by kernel_rfl) (by kernel_rfl) (by kernel_rfl) (by kernel_rfl) (by kernel_rfl) (by kernel_rfl) (by kernel_rfl) (by kernel_rfl) (by kernel_rfl) (by kernel_rfl) (by kernel_rfl) (by kernel_rfl) (by kernel_rfl) (by kernel_rfl) (by kernel_rfl) (by kernel_rfl) rfl rfl
   (.pointer (some ⟨g,0,none⟩)) (.pointer (some ⟨g,0,none⟩)) (.pointer (some ⟨g,0,none⟩)) (.pointer (some ⟨d,0,none⟩)) (.pointer (some ⟨g,0,none⟩)) (.slice (some ⟨pg,0,none⟩) 48 48) _ _ _ _ _ _
   (fun w'=>w'.cell? ⟨g,0,none⟩ = some (.pointer (some ⟨d,0,none⟩)))
   (fun w'=>Kept [] w3 w')
   (fun u5 w'=>u5 = .string (nmB (n))∧Kept [] w3 w')
   (fun u5 u7 w'=>w'.cell? ⟨g,0,none⟩ = some (.pointer (some ⟨d,0,none⟩))∧∃ B',u7 = .int .i64 ((stAppend τ1 (nmB n) ps).1:Nat)∧DKf w' d B' (nb + 1) (ob + 1 + 1) (bb + ps.length) (stAppend τ1 (nmB n) ps).2∧Ev w3 w' B3 B')
   (fun x=>x)
   (by simp only [Act.put,sa1,sa2,sa3]; rfl) (by exact Or.inl ⟨by rfl,fun W' hW'=>by go_simp⟩)
   (by simp only [Act.put,sa1,sa2,sa3]; rfl) (by exact Or.inl ⟨by rfl,fun W' hW'=>by go_simp⟩)
   (by simp only [Act.put,sa1,sa2,sa3]; rfl) (by exact Or.inl ⟨by rfl,fun W' hW'=>by go_simp⟩)
   (by simp only [Act.put,sa1,sa2,sa3]; rfl) (by exact Or.inl ⟨by rfl,fun W' hW'=>by go_simp⟩)
   (by simp only [Act.put,sa1,sa2,sa3]; rfl) (by exact Or.inl ⟨by rfl,fun W' hW'=>by go_simp⟩)
   (by simp only [Act.put,sa1,sa2,sa3]; rfl) (by exact Or.inl ⟨by rfl,fun W' hW'=>by go_simp⟩)
   (Kept.refl [] w3).drew
   ⟨fun w' h=>uh HC0 w' h,fun u5 w' h=>uh HC0 w' h.2,fun u5 u7 w' h=>h.1⟩
   (by
    intro w' k K hK
    refine xa0f rfl Tryz.call94 [.pointer (some ⟨g,0,none⟩)] rfl (xa3u g (n) w' (uh HC1 w' k) (uh HNU) ((uh HV).old k)) ?_
    rintro e w2 ⟨rfl,k2⟩
    exact ⟨_,rfl,hK _ _ ⟨rfl,k.trans k2 (by simp)⟩⟩)
   (by
    rintro u5 w' ⟨rfl,k⟩ K hK
    refine xa0f rfl Tryz.call25 [.pointer (some ⟨d,0,none⟩),.string (nmB (n)),.slice (some ⟨pg,0,none⟩) 48 48] rfl (xb5u d (nb + 1) (ob + 1) bb B3 τ1 (nmB n) (.slice (some ⟨pg,0,none⟩) 48 48) ps w' ((uh HD3).old k) (by rw [xa3x]; omega) (by omega) (by omega) ((uh HPR3).old k (by simp)) (uh HPB) (by have:=uh HPL; omega)) ?_
    rintro e w2 ⟨B',rfl,h9,ev⟩
    exact ⟨_,rfl,hK _ _ ⟨ev.1.cell (uh HC0 w' k) (uh HGB3),B',rfl,h9,Ev.pre k ev⟩⟩)
   (by
    rintro u5 u7 w' ⟨_,B',rfl,_⟩
    exact Or.inl ⟨by rfl,fun W' hW'=>by go_simp⟩)
   ?_
  rintro u5 u7 w4 ⟨_,B4,rfl,h9,ev⟩
  simp only [Act.put,sa1,sa2,sa3]
  have HE4:=hide ((uh HE3).trans ev)
  have HD4:=hide h9
  clear h9 ev HC0 HC1 HV HPR3 HPB
  have HG4:=hide ((uh HE4).1.heap (uh HG) (uh HGB))
  rw [uh HPL] at HD4
  have HST2:=hide (show ST = thn (thn (stAppend τ1 (nmB n) ps) (fun τ=>stSync τ (nmB n))) stNames from (uh HST))
  clear HST
  obtain ⟨R2,hR2⟩:∃ R2,stAppend τ1 (nmB n) ps = R2:=⟨_,rfl⟩
  rw [hR2] at HD4 HST2 ⊢
  obtain ⟨E2,τ2⟩:=R2
  dsimp only at *
  obtain ⟨c0,c1,c2,c3,c4,c5,c6⟩:=xa1n (uh HG4)
  have hfz:=frozen_of_row _ _ 5 _ _ (uh HG4)
  by_cases he2:E2 = 0
  ·subst he2
   have HST3:=hide (show ST = thn (stSync τ2 (nmB n)) stNames from (uh HST2))
   clear HST2
   have HV:=hide ((uh HVG).on (uh HE4).1 (uh HB)).now
   have HGB4:=hide (xa6i (uh HE4) (uh HGB) (uh HLT))
   go_wp2_with fail
   refine Calls.mono (xa4e g n d (nb + 1) (ob + 1 + 1) (bb + 48) B4 τ2 w4 c0 c1 (uh HNU) (uh HV) (uh HD4) (uh HGB4) (by omega) (by omega)) ?_
   rintro e w5 ⟨B5,rfl,h9,ev⟩
   have HE5:=hide ((uh HE4).trans ev)
   have HD5:=hide h9
   clear h9 ev
   have HG5:=hide ((uh HE5).1.heap (uh HG) (uh HGB))
   obtain ⟨R3,hR3⟩:∃ R3,stSync τ2 (nmB n) = R3:=⟨_,rfl⟩
   rw [hR3] at HD5 HST3 ⊢
   obtain ⟨E3,τ3⟩:=R3
   dsimp only at *
   clear c0 c1 c2 c3 c4 c5 c6 hfz
   obtain ⟨c0,c1,c2,c3,c4,c5,c6⟩:=xa1n (uh HG5)
   have hfz:=frozen_of_row _ _ 5 _ _ (uh HG5)
   by_cases he3:E3 = 0
   ·subst he3
    have HST4:=hide (show ST = stNames τ3 from (uh HST3))
    clear HST3
    go_wp2_with fail
    refine Calls.mono (xc3q d (nb + 1) (ob + 1 + 1 + 1) (bb + 48) B5 τ3 w5 (uh HD5) (by omega) (by omega)) ?_
    rintro e w6 ⟨B6,rfl,h9,ev⟩
    have HE6:=hide ((uh HE5).trans ev)
    have HD6:=hide h9
    clear h9 ev
    have HG6:=hide ((uh HE6).1.heap (uh HG) (uh HGB))
    rw [← uh HST4] at HD6 ⊢
    clear c0 c1 c2 c3 c4 c5 c6 hfz
    have hfz:=frozen_of_row _ _ 5 _ _ (uh HG6)
    obtain ⟨c0,c1,c2,c3,c4,c5,c6⟩:=xa1n (uh HG6)
    go_wp2_with fail
    go_ret
    first | exact ⟨B6,rfl,BegR.mk (uh HD6) (by omega) (by omega) (by omega) (uh HE6) (uh HG) (uh HGB)⟩ | exact ⟨rfl,B6,BegR.mk (uh HD6) (by omega) (by omega) (by omega) (uh HE6) (uh HG) (uh HGB)⟩
   ·have hs:ST = (E3,τ3):=by rw [uh HST3]; exact thn_no he3
    subst hs
    have hq:((E3:Int) == 0) = false:=by simp; omega
    go_wp2_with fail
    go_ret
    first | exact ⟨B5,rfl,BegR.mk (uh HD5) (by omega) (by omega) (by omega) (uh HE5) (uh HG) (uh HGB)⟩ | exact ⟨rfl,B5,BegR.mk (uh HD5) (by omega) (by omega) (by omega) (uh HE5) (uh HG) (uh HGB)⟩
  ·have hs:ST = (E2,τ2):=by rw [uh HST2,thn_no (r:=(E2,τ2)) he2,thn_no (r:=(E2,τ2)) he2]
   subst hs
   have hq:((E2:Int) == 0) = false:=by simp; omega
   go_wp2_with fail
   go_ret
   first | exact ⟨B4,rfl,BegR.mk (uh HD4) (by omega) (by omega) (by omega) (uh HE4) (uh HG) (uh HGB)⟩ | exact ⟨rfl,B4,BegR.mk (uh HD4) (by omega) (by omega) (by omega) (uh HE4) (uh HG) (uh HGB)⟩
 ·have hs:ST = (E1,τ1):=by rw [uh HST,thn_no (r:=(E1,τ1)) he1,thn_no (r:=(E1,τ1)) he1,thn_no (r:=(E1,τ1)) he1]
  subst hs
  have hq:((E1:Int) == 0) = false:=by simp; omega
  go_wp2_with fail
  go_ret
  first | exact ⟨B3,rfl,BegR.mk (uh HD3) (by omega) (by omega) (by omega) (uh HE3) (uh HG) (uh HGB)⟩ | exact ⟨rfl,B3,BegR.mk (uh HD3) (by omega) (by omega) (by omega) (uh HE3) (uh HG) (uh HGB)⟩
def lgC (d:Nat) (s:LSt):Array Value:=#[.pointer (some ⟨d,0,none⟩),.int .u64 (s.num:Int),.int .u64 (s.ep:Int),.int .u64 (s.fst:Int),.int .i64 s.wd,.int .i64 (s.byt:Int),.int .i64 (s.bt:Int),.int .i64 s.lim,.int .u64 (s.nx:Int),.int .i64 (s.st:Int)]
theorem xa0l {w:World} {l d:Nat} {s:LSt} {ty:TypeId} (h:w.heap[l]? = some (.cells (lgC d s) ty (0,0))) :
  w.cell? ⟨l,0,none⟩ = some (.pointer (some ⟨d,0,none⟩))∧w.cell? ⟨l,1,none⟩ = some (.int .u64 (s.num:Int))∧w.cell? ⟨l,2,none⟩ = some (.int .u64 (s.ep:Int))∧w.cell? ⟨l,3,none⟩ = some (.int .u64 (s.fst:Int))∧w.cell? ⟨l,4,none⟩ = some (.int .i64 s.wd)∧w.cell? ⟨l,5,none⟩ = some (.int .i64 (s.byt:Int))∧w.cell? ⟨l,6,none⟩ = some (.int .i64 (s.bt:Int))∧w.cell? ⟨l,7,none⟩ = some (.int .i64 s.lim)∧w.cell? ⟨l,8,none⟩ = some (.int .u64 (s.nx:Int))∧w.cell? ⟨l,9,none⟩ = some (.int .i64 (s.st:Int)):=by
 refine ⟨?_,?_,?_,?_,?_,?_,?_,?_,?_,?_⟩ <;> rw [cell_of_row _ _ _ _ _ _ h] <;> rfl
structure LK (w:World) (l d:Nat) (B:List Nat) (nb ob bb:Nat) (σ:DSt) (s:LSt):Prop where
 row:w.heap[l]? = some (.cells (lgC d s) 132 (0,0))
 dk:DKf w d B nb ob bb σ
 nl:l∉B
 num:s.num < 18446744073709551616
 ep:s.ep < 18446744073709551616
 nx:s.nx < 18446744073709551616
 wd:wideB s.wd = true
 bt:s.bt≤ob
 byt:s.byt≤48 + 40000 * ob
 lim:1≤s.lim∧s.lim≤1048576
 st:s.st < 100
def EvL (w w':World) (l:Nat) (B B':List Nat):Prop:=Kept (l :: B) w w'∧∀ x∈B',x∈B∨w.heap.size≤x
theorem EvL.refl (w:World) (l:Nat) (B:List Nat):EvL w w l B B:=⟨Kept.refl _ _,fun x hx=>.inl hx⟩
theorem EvL.trans {a b c:World} {l:Nat} {A B C:List Nat} (h:EvL a b l A B) (k:EvL b c l B C):EvL a c l A C:=by
 refine ⟨h.1.trans k.1 (fun x hx=>?_),?_⟩
 ·rcases List.mem_cons.1 hx with rfl | hx
  ·exact .inl (by simp)
  ·exact (h.2 x hx).imp (fun h1=>by simp [h1]) id
 ·intro x hx
  rcases k.2 x hx with h1 | h1
  ·exact h.2 x h1
  ·exact .inr (Nat.le_trans h.1.size h1)
theorem EvL.pre {w0 w w':World} {l:Nat} {B B':List Nat} (k:Kept [] w0 w) (h:EvL w w' l B B'):EvL w0 w' l B B' :=
 ⟨(k.mono (M:=l :: B) (by simp)).trans h.1 (fun x hx=>Or.inl hx),fun x hx=>(h.2 x hx).imp id (fun h1=>Nat.le_trans k.size h1)⟩
theorem LK.lt {w:World} {l d nb ob bb:Nat} {B:List Nat} {σ:DSt} {s:LSt} (h:LK w l d B nb ob bb σ s):l < w.heap.size:=lt_of_block h.row
theorem LK.old {w w':World} {l d nb ob bb:Nat} {B:List Nat} {σ:DSt} {s:LSt} (h:LK w l d B nb ob bb σ s) (k:Kept [] w w'):LK w' l d B nb ob bb σ s :=
 { h with row:=k.heap h.row (by simp),dk:=h.dk.old k }
theorem LK.kept {L:List Nat} {w w':World} {l d nb ob bb:Nat} {B:List Nat} {σ:DSt} {s:LSt} (h:LK w l d B nb ob bb σ s) (k:Kept L w w') (hl:l∉L) (hn:∀ x∈B,x∉L):LK w' l d B nb ob bb σ s :=
 { h with row:=k.heap h.row hl,dk:=h.dk.kept k hn }
theorem LK.more {w:World} {l d nb ob bb:Nat} {B:List Nat} {σ:DSt} {s:LSt} (h:LK w l d B nb ob bb σ s) {nb' ob' bb':Nat} (h1:nb≤nb') (h0:ob≤ob') (h2:bb≤bb'):LK w l d B nb' ob' bb' σ s :=
 { h with dk:=h.dk.more h1 h0 h2,bt:=Nat.le_trans h.bt h0,byt:=by have:=h.byt; omega }
set_option maxHeartbeats 1000000 in
theorem xb7s (l d:Nat) (s:LSt) (w:World) (hr:w.heap[l]? = some (.cells (lgC d s) 132 (0,0))) :
  Calls Tryz.prog 108 #[.pointer (some ⟨l,0,none⟩),.int .i64 s.lim] w fun e w'=>e = .returned (.bool (lgFull s))∧w' = w:=by
 obtain ⟨c0,c1,c2,c3,c4,c5,c6,c7,c8,c9⟩:=xa0l hr
 clear hr
 unfold lgFull
 by_cases hb:0 < s.bt
 ·have hb':(0:Int) < (s.bt:Int):=by omega
  rw [decide_eq_true hb,Bool.true_and]
  by_cases hy:s.lim≤(s.byt:Int)
  ·rw [decide_eq_true hy]
   go_enter Tryz.func108,Tryz.ntmps108
   go_wp2
   go_ret
   exact ⟨rfl,rfl⟩
  ·rw [decide_eq_false hy]
   go_enter Tryz.func108,Tryz.ntmps108
   go_wp2
   go_ret
   exact ⟨rfl,rfl⟩
 ·have hb':¬ (0:Int) < (s.bt:Int):=by omega
  rw [decide_eq_false hb,Bool.false_and]
  go_enter Tryz.func108,Tryz.ntmps108
  go_wp2
  go_ret
  exact ⟨rfl,rfl⟩
set_option maxHeartbeats 1000000 in
theorem xa9i (l d:Nat) (s:LSt) (w:World) (hr:w.heap[l]? = some (.cells (lgC d s) 132 (0,0))) :
  Calls Tryz.prog 62 #[.pointer (some ⟨l,0,none⟩)] w fun e w'=>e = .returned (.int .i64 ((lgFail s:Nat):Int))∧w' = w:=by
 obtain ⟨c0,c1,c2,c3,c4,c5,c6,c7,c8,c9⟩:=xa0l hr
 clear hr
 unfold lgFail
 by_cases h0:s.st = 0
 ·rw [if_pos (Or.inl h0)]
  have g0:((s.st:Int) == 0) = true:=by simp; omega
  go_enter Tryz.func62,Tryz.ntmps62
  go_wp2
  go_ret
  exact ⟨by rw [h0]; rfl,rfl⟩
 ·have g0:((s.st:Int) == 0) = false:=by simp; omega
  by_cases h1:s.st = 12
  ·rw [if_pos (Or.inr h1)]
   have g1:((s.st:Int) == 12) = true:=by simp; omega
   go_enter Tryz.func62,Tryz.ntmps62
   go_wp2
   go_ret
   exact ⟨by rw [h1]; rfl,rfl⟩
  ·rw [if_neg (by omega)]
   have g1:((s.st:Int) == 12) = false:=by simp; omega
   go_enter Tryz.func62,Tryz.ntmps62
   go_wp2
   go_ret
   exact ⟨rfl,rfl⟩
set_option maxHeartbeats 1000000 in
theorem xa2r (l d:Nat) (s:LSt) (w:World) (hr:w.heap[l]? = some (.cells (lgC d s) 132 (0,0))) :
  Calls Tryz.prog 20 #[.pointer (some ⟨l,0,none⟩)] w fun e w'=>e = .returned (.int .u64 (s.nx:Int))∧w' = w:=by
 obtain ⟨c0,c1,c2,c3,c4,c5,c6,c7,c8,c9⟩:=xa0l hr
 clear hr
 go_enter Tryz.func20,Tryz.ntmps20
 go_wp2
 go_ret
 exact ⟨rfl,rfl⟩
set_option maxHeartbeats 1000000 in
theorem xa2p (l d:Nat) (s:LSt) (w:World) (hr:w.heap[l]? = some (.cells (lgC d s) 132 (0,0))) :
  Calls Tryz.prog 19 #[.pointer (some ⟨l,0,none⟩)] w fun e w'=>e = .returned (.int .u64 (s.ep:Int))∧w' = w:=by
 obtain ⟨c0,c1,c2,c3,c4,c5,c6,c7,c8,c9⟩:=xa0l hr
 clear hr
 go_enter Tryz.func19,Tryz.ntmps19
 go_wp2
 go_ret
 exact ⟨rfl,rfl⟩
set_option maxHeartbeats 1000000 in
theorem xa1v (l d:Nat) (s:LSt) (w:World) (hr:w.heap[l]? = some (.cells (lgC d s) 132 (0,0))) :
  Calls Tryz.prog 18 #[.pointer (some ⟨l,0,none⟩)] w fun e w'=>e = .returned (.int .u64 (s.num:Int))∧w' = w:=by
 obtain ⟨c0,c1,c2,c3,c4,c5,c6,c7,c8,c9⟩:=xa0l hr
 clear hr
 go_enter Tryz.func18,Tryz.ntmps18
 go_wp2
 go_ret
 exact ⟨rfl,rfl⟩
set_option maxHeartbeats 1000000 in
theorem xa4h (l d:Nat) (s:LSt) (w:World) (hr:w.heap[l]? = some (.cells (lgC d s) 132 (0,0))) :
  Calls Tryz.prog 30 #[.pointer (some ⟨l,0,none⟩)] w fun e w'=>e = .returned (.int .i64 (s.st:Int))∧w' = w:=by
 obtain ⟨c0,c1,c2,c3,c4,c5,c6,c7,c8,c9⟩:=xa0l hr
 clear hr
 go_enter Tryz.func30,Tryz.ntmps30
 go_wp2
 go_ret
 exact ⟨rfl,rfl⟩
theorem Tryz.size_cur:(Tryz.prog.info? 130).map (·.size) = some 7:=by kernel_rfl
theorem xa3j {P:Program} {fn:Func} {p:Tmp} {ty:TypeId} (h:fn.results = #[.cell p ty]) (tmps:Array Value) (w:World) (g:Nat) (t:TypeId) (cs:Array Value) (fr:Nat × Nat) (d:TypeDesc)
  (hp:tmps.getD p undef = .pointer (some ⟨g,0,none⟩)) (hg:w.heap[g]? = some (.cells cs t fr))
  (hu:P.underlying ty = some d) (hd:(match d with | .struct _ | .array _ _=>true | _=>false) = true) (hi:(P.info? ty).map (·.size) = some cs.size) :
  (results fn tmps).run P w = .ok (.agg cs) w:=by
 have hp':tmps[p]?.getD undef = .pointer (some ⟨g,0,none⟩):=by simpa using hp
 simp [results,h,hp',asAddr,run_loadVar_row w g t ty cs fr d hg hu hd hi]
set_option maxHeartbeats 2000000 in
theorem xa5d (l d f:Nat) (s:LSt) (w:World) (hr:w.heap[l]? = some (.cells (lgC d s) 132 (0,0))) (hn:s.num + 1 < 18446744073709551616) :
  Calls Tryz.prog 162 #[.pointer (some ⟨l,0,none⟩),.int .u64 (f:Int)] w fun e w'=>e = .returned (.agg (curC d (s.num + 1) s.ep f s.wd 0 0))∧Kept [] w w':=by
 have hk0:=(Kept.refl [] w).alloc (.cells #[.pointer none,.int .u64 0,.int .u64 0,.int .u64 0,.int .i64 0,.int .i64 0,.int .i64 0] 130)
 obtain ⟨c0,c1,c2,c3,c4,c5,c6,c7,c8,c9⟩:=xa0l (hk0.heap hr (by simp))
 have HK0:=hide hk0
 clear hk0
 have hwr:IntKind.u64.wrap ((s.num:Int) + 1) = ((s.num + 1:Nat):Int):=by rw [IntKind.wrap_u64]; omega
 have hlt:l≠w.heap.size:=by have:=lt_of_block hr; omega
 go_enter Tryz.func162,Tryz.ntmps162
 go_upto_region 3 with fail
 have hk2:=(uh HK0).alloc (.cells #[.int .u64 ((s.num:Int) + 1),.int .u64 (s.ep:Int),.int .u64 (f:Int),.int .i64 s.wd] 53)
 have hh2:=heap_alloc_new (w.alloc (.cells #[.pointer none,.int .u64 0,.int .u64 0,.int .u64 0,.int .i64 0,.int .i64 0,.int .i64 0] 130)) (.cells #[.int .u64 ((s.num:Int) + 1),.int .u64 (s.ep:Int),.int .u64 (f:Int),.int .i64 s.wd] 53)
 have hz2:=((Kept.refl [] _).alloc (.cells #[.int .u64 ((s.num:Int) + 1),.int .u64 (s.ep:Int),.int .u64 (f:Int),.int .i64 s.wd] 53)).heap (heap_alloc_new w (.cells #[.pointer none,.int .u64 0,.int .u64 0,.int .u64 0,.int .i64 0,.int .i64 0,.int .i64 0] 130)) (by simp)
 obtain ⟨W2,hW2⟩:∃ W,(w.alloc (.cells #[.pointer none,.int .u64 0,.int .u64 0,.int .u64 0,.int .i64 0,.int .i64 0,.int .i64 0] 130)).alloc (.cells #[.int .u64 ((s.num:Int) + 1),.int .u64 (s.ep:Int),.int .u64 (f:Int),.int .i64 s.wd] 53) = W:=⟨_,rfl⟩
 rw [hW2] at hk2 hh2 hz2 ⊢
 rw [show (w.alloc (.cells #[.pointer none,.int .u64 0,.int .u64 0,.int .u64 0,.int .i64 0,.int .i64 0,.int .i64 0] 130)).heap.size = w.heap.size + 1 by simp] at hh2
 have HK2:=hide hk2
 have HZ2:=hide hz2
 obtain ⟨q0,q1,q2,q3⟩:=hcells hh2
 clear c0 c1 c2 c3 c4 c5 c6 c7 c8 c9 hW2
 have c0:=(xa0l (hk2.heap hr (by simp))).1
 clear hk2 hz2 hh2 hr
 refine xa0g 6 (by kernel_rfl) (by kernel_rfl) ?_
 simp only [List.take_succ_cons,List.take_zero,List.drop_succ_cons,List.drop_zero]
 repeat (go_big_quiet_step (fail))
 refine wpQuiet_nil ?_
 rintro _ ⟨n5,rfl⟩
 have HK5:=hide ((uh HK2).drewN n5)
 have HZ5:=hide (((Kept.refl [] W2).drewN n5).heap (uh HZ2) (by simp))
 generalize W2.drewN n5 = W5 at HK5 HZ5 ⊢
 clear c0 q0 q1 q2 q3 HK2 HZ2
 refine wpList_plain rfl fun K hK=>?_
 refine wp_store_row 130 (.tmp 4) (.tmp 21) rfl w.heap.size (curC d (s.num + 1) s.ep f s.wd 0 0) rfl (by unfold curC; simp [Act.eval]) 130 _ (uh HZ5) Tryz.size_cur rfl (by simp [curC,Value.oneCell']) (hK _ _ ?_)
 have HK6:=hide (Kept.setRow (uh HK5) (Or.inr (Nat.le_refl _)) (curC d (s.num + 1) s.ep f s.wd 0 0):Kept [] w (W5.setRow w.heap.size (curC d (s.num + 1) s.ep f s.wd 0 0)))
 have HZ6:=hide (setRow_heap W5 w.heap.size _ (curC d (s.num + 1) s.ep f s.wd 0 0) _ _ (uh HZ5))
 generalize W5.setRow w.heap.size (curC d (s.num + 1) s.ep f s.wd 0 0) = W6 at HK6 HZ6 ⊢
 go_wp2_with fail
 refine bodyPost_ret (v:=.agg (curC d (s.num + 1) s.ep f s.wd 0 0)) ?_ rfl ⟨rfl,uh HK6⟩
 exact xa3j rfl _ _ w.heap.size _ (curC d (s.num + 1) s.ep f s.wd 0 0) (0,0) _ rfl (uh HZ6) Tryz.underlying130 rfl Tryz.size_cur
theorem xc3x {w:World} {l d:Nat} {s:LSt} {t:TypeId} (h:w.heap[l]? = some (.cells (lgC d s) t (0,0))) (x y:Nat):((w.setCell ⟨l,5,none⟩ (.int .i64 (x:Int))).setCell ⟨l,6,none⟩ (.int .i64 (y:Int))).heap[l]? = some (.cells (lgC d { s with byt:=x,bt:=y }) t (0,0)):=by
 rw [heap_setCell_same _ l 6 _ t _ (heap_setCell_same w l 5 _ t _ h)]
 rfl
theorem lfroz {w:World} {b:Nat} {cs:Array Value} {t:TypeId} (h:w.heap[b]? = some (.cells cs t (0,0))):w.frozen? ⟨b,0,none⟩ = false∧w.frozen? ⟨b,1,none⟩ = false∧w.frozen? ⟨b,2,none⟩ = false∧w.frozen? ⟨b,3,none⟩ = false∧w.frozen? ⟨b,4,none⟩ = false∧w.frozen? ⟨b,5,none⟩ = false∧w.frozen? ⟨b,6,none⟩ = false∧w.frozen? ⟨b,8,none⟩ = false∧w.frozen? ⟨b,9,none⟩ = false :=
 ⟨frozen_of_row _ _ _ _ _ h,frozen_of_row _ _ _ _ _ h,frozen_of_row _ _ _ _ _ h,frozen_of_row _ _ _ _ _ h,frozen_of_row _ _ _ _ _ h,frozen_of_row _ _ _ _ _ h,frozen_of_row _ _ _ _ _ h,frozen_of_row _ _ _ _ _ h,frozen_of_row _ _ _ _ _ h⟩
theorem LK.turn {w w3 w':World} {l d nb ob bb nb3 ob3 bb3:Nat} {B B3:List Nat} {σ τ:DSt} {s s':LSt} (h:LK w l d B nb ob bb σ s) (ev:Ev w w3 B B3) (hD:DKf w3 d B3 nb3 ob3 bb3 τ) (k:Kept [l] w3 w') (hr:w'.heap[l]? = some (.cells (lgC d s') 132 (0,0)))
  (h1:s'.num < 18446744073709551616) (h2:s'.ep = s.ep) (h3:s'.nx < 18446744073709551616) (h4:s'.wd = s.wd) (h5:s'.bt≤ob3) (h6:s'.byt≤48 + 40000 * ob3) (h7:s'.lim = s.lim) (h8:s'.st < 100) :
  LK w' l d B3 nb3 ob3 bb3 τ s'∧EvL w w' l B B3:=by
 have hn:=xa6i ev h.nl h.lt
 refine ⟨⟨hr,hD.kept k (fun x hx hm=>hn (by rw [← List.mem_singleton.1 hm]; exact hx)),hn,h1,by rw [h2]; exact h.ep,h3,by rw [h4]; exact h.wd,h5,h6,by rw [h7]; exact h.lim,h8⟩,?_⟩
 exact ⟨(ev.1.mono (M:=l :: B) (fun x hx=>by simp [hx])).trans k (fun x hx=>Or.inl (by rw [List.mem_singleton.1 hx]; simp)),ev.2⟩
set_option maxHeartbeats 2000000 in
theorem xb2y (l d nb ob bb g0:Nat) (B:List Nat) (σ:DSt) (s:LSt) (pv:Value) (ps:List Nat) (w:World) (h:LK w l d B nb ob bb σ s) (hv:VarsG g0 w) (hp:Rd w pv ps) (hpd:∀ x∈zblk pv ps,x∉B) (hpl:ps.length≤40000) (h1:nb≤900000000) (h2:ob≤900000000) (h3:bb≤140737488300000) :
  Calls Tryz.prog 110 #[.pointer (some ⟨l,0,none⟩),pv] w fun e w'=>∃ B',e = .returned (.int .i64 ((lgLay σ s ps).1:Nat))∧LK w' l d B' nb (ob + 1) (bb + ps.length) (lgLay σ s ps).2.1 (lgLay σ s ps).2.2∧EvL w w' l B B':=by
 have H:=hide h
 have HNU:=hide h.num
 have HV:=hide hv.now
 have HP:=hide hp
 have HPD:=hide hpd
 obtain ⟨pa,pn,pc,rfl,hpn,_⟩:=id hp
 subst hpn
 obtain ⟨c0,c1,_⟩:=xa0l h.row
 have HC0:=hide (fun w' (k:Kept [] w w')=>k.cell c0 (by simp))
 have HC1:=hide (fun w' (k:Kept [] w w')=>k.cell c1 (by simp))
 obtain ⟨LS,hLS⟩:∃ LS,lgLay σ s ps = ((stAppend σ (nmB s.num) ps).1,(stAppend σ (nmB s.num) ps).2,LS):=⟨_,rfl⟩
 have hLS2:LS = (lgLay σ s ps).2.2:=by rw [hLS]
 have HY:=hide (fun (h0:(stAppend σ (nmB s.num) ps).1 = 0)=>(by rw [hLS2]; unfold lgLay; simp only [h0,if_true]:LS = { s with byt:=s.byt + ps.length,bt:=s.bt + 1 }))
 have HN:=hide (fun (h0:(stAppend σ (nmB s.num) ps).1≠0)=>(by rw [hLS2]; unfold lgLay; simp only [h0,if_false]:LS = s))
 rw [hLS]
 clear h hv hp hpd c0 c1 hLS hLS2
 obtain ⟨R1,hR1⟩:∃ R1,stAppend σ (nmB s.num) ps = R1:=⟨_,rfl⟩
 rw [hR1] at HY HN ⊢
 have HR1:=hide hR1
 clear hR1
 obtain ⟨E1,τ1⟩:=R1
 dsimp only at *
 go_enter Tryz.func110,Tryz.ntmps110
 go_upto_region 1 with fail
 refine wp_w9 (by kernel_rfl) (by kernel_rfl) (by kernel_rfl) (by kernel_rfl) (by kernel_rfl) (by kernel_rfl) (by kernel_rfl) (by kernel_rfl) (by kernel_rfl) (by kernel_rfl) (by kernel_rfl) (by kernel_rfl) (by kernel_rfl) (by kernel_rfl) (by kernel_rfl) (by kernel_rfl) (by kernel_rfl) (by kernel_rfl) (by kernel_rfl) rfl rfl
  (.pointer (some ⟨l,0,none⟩)) (.pointer (some ⟨l,0,none⟩)) (.pointer (some ⟨l,0,none⟩)) (.pointer (some ⟨d,0,none⟩)) (.pointer (some ⟨l,0,none⟩)) (.slice pa ps.length pc) _ _ _ _ _ _
  (fun w'=>w'.cell? ⟨l,0,none⟩ = some (.pointer (some ⟨d,0,none⟩)))
  (fun w'=>Kept [] w w')
  (fun u5 w'=>u5 = .string (nmB (s.num))∧Kept [] w w')
  (fun u5 u7 w'=>w'.cell? ⟨l,0,none⟩ = some (.pointer (some ⟨d,0,none⟩))∧∃ B',u7 = .int .i64 ((stAppend σ (nmB s.num) ps).1:Nat)∧DKf w' d B' nb (ob + 1) (bb + ps.length) (stAppend σ (nmB s.num) ps).2∧Ev w w' B B')
  (fun x=>x)
  (by simp only [Act.put,sa1,sa2,sa3]; rfl) (by exact Or.inl ⟨by rfl,fun W' hW'=>by go_simp⟩)
  (by simp only [Act.put,sa1,sa2,sa3]; rfl) (by exact Or.inl ⟨by rfl,fun W' hW'=>by go_simp⟩)
  (by simp only [Act.put,sa1,sa2,sa3]; rfl) (by exact Or.inl ⟨by rfl,fun W' hW'=>by go_simp⟩)
  (by simp only [Act.put,sa1,sa2,sa3]; rfl) (by exact Or.inl ⟨by rfl,fun W' hW'=>by go_simp⟩)
  (by simp only [Act.put,sa1,sa2,sa3]; rfl) (by exact Or.inl ⟨by rfl,fun W' hW'=>by go_simp⟩)
  (by simp only [Act.put,sa1,sa2,sa3]; rfl) (by exact Or.inl ⟨by rfl,fun W' hW'=>by go_simp⟩)
  (Kept.refl [] w).drew
  ⟨fun w' h=>uh HC0 w' h,fun u5 w' h=>uh HC0 w' h.2,fun u5 u7 w' h=>h.1⟩
  (by
   intro w' k K hK
   refine xa0f rfl Tryz.call94 [.pointer (some ⟨l,0,none⟩)] rfl (xa3u l (s.num) w' (uh HC1 w' k) (uh HNU) ((uh HV).old k)) ?_
   rintro e w2 ⟨rfl,k2⟩
   exact ⟨_,rfl,hK _ _ ⟨rfl,k.trans k2 (by simp)⟩⟩)
  (by
   rintro u5 w' ⟨rfl,k⟩ K hK
   refine xa0f rfl Tryz.call25 [.pointer (some ⟨d,0,none⟩),.string (nmB (s.num)),.slice pa ps.length pc] rfl (xb5u d nb ob bb B σ (nmB s.num) (.slice pa ps.length pc) ps w' ((uh H).dk.old k) (by rw [xa3x]; omega) (by omega) (by omega) ((uh HP).old k (by simp)) (uh HPD) (by omega)) ?_
   rintro e w2 ⟨B',rfl,h9,ev⟩
   exact ⟨_,rfl,hK _ _ ⟨ev.1.cell (uh HC0 w' k) ((uh H).nl),B',rfl,h9,Ev.pre k ev⟩⟩)
  (by
   rintro u5 u7 w' ⟨_,B',rfl,_⟩
   exact Or.inl ⟨by rfl,fun W' hW'=>by go_simp⟩)
  ?_
 rintro u5 u7 w3 ⟨_,B3,rfl,h9,ev⟩
 simp only [Act.put,sa1,sa2,sa3]
 rw [uh HR1] at h9 ⊢
 have HE3:=hide ev
 have HD3:=hide h9
 have HR3:=hide (ev.1.heap (uh H).row (uh H).nl)
 clear h9 ev HC0 HC1 HV HP HPD
 obtain ⟨c0,c1,c2,c3,c4,c5,c6,c7,c8,c9⟩:=xa0l (uh HR3)
 obtain ⟨f0,f1,f2,f3,f4,f5,f6,f8,f9⟩:=lfroz (uh HR3)
 by_cases he1:E1 = 0
 ·obtain rfl:=uh HY he1
  subst he1
  have hw1:IntKind.i64.wrap ((s.byt:Int) + (ps.length:Int)) = ((s.byt + ps.length:Nat):Int):=by
   have:=(uh H).byt
   rw [IntKind.wrap_i64]; omega
  have hw2:IntKind.i64.wrap ((s.bt:Int) + 1) = ((s.bt + 1:Nat):Int):=by
   have:=(uh H).bt
   rw [IntKind.wrap_i64]; omega
  clear HY HN
  go_wp2_with fail
  all_goals go_ret
  all_goals have hz:=xc3x (uh HR3) (s.byt + ps.length) (s.bt + 1)
  all_goals have kz:Kept [l] w3 ((w3.setCell ⟨l,5,none⟩ (.int .i64 ((s.byt + ps.length:Nat):Int))).setCell ⟨l,6,none⟩ (.int .i64 ((s.bt + 1:Nat):Int))):=((Kept.refl [l] w3).setCell (p:=⟨l,5,none⟩) (.inl (by simp)) _).setCell (p:=⟨l,6,none⟩) (.inl (by simp)) _
  all_goals have hfin:=(uh H).turn (uh HE3) (uh HD3) kz hz (uh H).num rfl (uh H).nx rfl (by have:=(uh H).bt; simp only; omega) (by have:=(uh H).byt; simp only; omega) rfl (uh H).st
  all_goals push_cast at hfin
  all_goals first | exact ⟨B3,rfl,hfin.1,hfin.2⟩ | exact ⟨rfl,B3,hfin.1,hfin.2⟩
 ·have hq:((E1:Int) == 0) = false:=by simp; omega
  obtain rfl:=uh HN he1
  clear HY HN
  go_wp2_with fail
  go_ret
  have hfin:=(uh H).turn (uh HE3) (uh HD3) (Kept.refl [l] w3) (uh HR3) (uh H).num rfl (uh H).nx rfl (by have:=(uh H).bt; omega) (by have:=(uh H).byt; omega) rfl (uh H).st
  first | exact ⟨B3,rfl,hfin.1,hfin.2⟩ | exact ⟨rfl,B3,hfin.1,hfin.2⟩
set_option maxHeartbeats 2000000 in
theorem xc0y {w:World} {l d:Nat} {s:LSt} {t:TypeId} (h:w.heap[l]? = some (.cells (lgC d s) t (0,0))) (n ep fs:Nat) (wd:Int) (b q:Nat) :
  (((((((w.setCell ⟨l,0,none⟩ (.pointer (some ⟨d,0,none⟩))).setCell ⟨l,1,none⟩ (.int .u64 (n:Int))).setCell ⟨l,2,none⟩ (.int .u64 (ep:Int))).setCell ⟨l,3,none⟩ (.int .u64 (fs:Int))).setCell ⟨l,4,none⟩ (.int .i64 wd)).setCell ⟨l,5,none⟩ (.int .i64 (b:Int))).setCell ⟨l,6,none⟩ (.int .i64 (q:Int))).heap[l]? = some (.cells (lgC d { s with num:=n,ep:=ep,fst:=fs,wd:=wd,byt:=b,bt:=q }) t (0,0)):=by
 rw [heap_setCell_same _ l 6 _ t _ (heap_setCell_same _ l 5 _ t _ (heap_setCell_same _ l 4 _ t _ (heap_setCell_same _ l 3 _ t _ (heap_setCell_same _ l 2 _ t _ (heap_setCell_same _ l 1 _ t _ (heap_setCell_same w l 0 _ t _ h))))))]
 rfl
theorem xa5f {o:Oper} {a:Act} {w:World} {K:Act→World→Prop} {Q:Exit→Act→World→Prop} (ho:o.op = .alloc 130) (h:K (a.put o.dst (.pointer (some ⟨w.heap.size,0,none⟩))) (w.alloc (.cells #[.pointer none,.int .u64 0,.int .u64 0,.int .u64 0,.int .i64 0,.int .i64 0,.int .i64 0] 130))):o.wp Tryz.prog a w K Q:=by
 unfold Oper.wp execOp
 simp only [ho]
 go_simp
 exact h
def Alc (W:World) (u:Value) (cs:Array Value) (w:World):Prop:=∃ g,u = .pointer (some ⟨g,0,none⟩)∧W.heap.size≤g∧w.heap[g]? = some (.cells cs 130 (0,0))
abbrev zCur:Array Value:=#[.pointer none,.int .u64 0,.int .u64 0,.int .u64 0,.int .i64 0,.int .i64 0,.int .i64 0]
theorem Alc.pass {W w w':World} {u:Value} {cs:Array Value} (h:Alc W u cs w) (k:Kept [] w w'):Alc W u cs w':=by
 obtain ⟨g,h1,h2,h3⟩:=h; exact ⟨g,h1,h2,k.heap h3 (by simp)⟩
theorem xc0n {W w:World} (k:Kept [] W w):Alc W (.pointer (some ⟨w.heap.size,0,none⟩)) zCur (w.alloc (.cells zCur 130)):=⟨_,rfl,k.size,heap_alloc_new _ _⟩
set_option maxHeartbeats 4000000 in
theorem xc3k (l d nb ob bb g0:Nat) (B:List Nat) (σ:DSt) (s:LSt) (w:World) (h:LK w l d B nb ob bb σ s) (hv:VarsG g0 w) (hB:∀ x∈B,g0≤x) (hg0:g0≤w.heap.size) (h1:nb≤800000000) (h2:ob≤800000000) (h3:bb≤140737488200000) :
  Calls Tryz.prog 109 #[.pointer (some ⟨l,0,none⟩)] w fun e w'=>∃ B',e = .returned (.int .i64 ((lgRot σ s).1:Nat))∧LK w' l d B' (nb + 1) (ob + 5) (bb + 48) (lgRot σ s).2.1 (lgRot σ s).2.2∧EvL w w' l B B':=by
 have H:=hide h
 have HVG:=hide hv
 have HB:=hide hB
 obtain ⟨⟨E1,τ1⟩,hR1⟩:∃ R1,stSync σ (nmB s.num) = R1:=⟨_,rfl⟩
 obtain ⟨⟨E2,τ2⟩,hR2⟩:∃ R2,stBegin τ1 (s.num + 1) s.ep s.nx s.wd = R2:=⟨_,rfl⟩
 obtain ⟨⟨E,τ,s'⟩,hL⟩:∃ R,lgRot σ s = R:=⟨_,rfl⟩
 have HA:=hide (fun (h0:E1≠0)=>(by rw [← hL]; unfold lgRot; rw [hR1]; simp only [ne_eq,h0,not_false_eq_true,if_true]:(E,τ,s') = (E1,τ1,s)))
 have HBB:=hide (fun (h0:E1 = 0) (h8:s.num = 18446744073709551615)=>(by rw [← hL]; unfold lgRot; rw [hR1]; simp only [ne_eq,h0,not_true_eq_false,if_false,h8,if_true]:(E,τ,s') = (7,τ1,s)))
 have HCC:=hide (fun (h0:E1 = 0) (h8:s.num≠18446744073709551615) (h7:E2≠0)=>(by rw [← hL]; unfold lgRot; rw [hR1]; dsimp only; rw [hR2]; simp only [ne_eq,h0,not_true_eq_false,if_false,h8,h7,not_false_eq_true,if_true]:(E,τ,s') = (E2,τ2,s)))
 have HDD:=hide (fun (h0:E1 = 0) (h8:s.num≠18446744073709551615) (h7:E2 = 0)=>(by rw [← hL]; unfold lgRot; rw [hR1]; dsimp only; rw [hR2]; simp only [ne_eq,h0,not_true_eq_false,if_false,h8,h7]:(E,τ,s') = (0,τ2,{ s with num:=s.num + 1,fst:=s.nx,byt:=48,bt:=0 })))
 rw [hL]
 have HR1:=hide hR1
 have HR2:=hide hR2
 obtain ⟨c0,c1,_⟩:=xa0l h.row
 have HFL:=hide (xa4e l s.num d nb ob bb B σ w c0 c1 h.num hv.now h.dk h.nl (by omega) (by omega))
 rw [hR1] at HFL
 clear h hv hB hL hR1 hR2 c0 c1
 dsimp only at *
 go_enter Tryz.func109,Tryz.ntmps109
 go_wp2_with fail
 refine Calls.mono (uh HFL) ?_
 rintro e w1 ⟨B1,rfl,hd1,ev1⟩
 have HD1:=hide hd1
 have HE1:=hide ev1
 have HR:=hide (ev1.1.heap (uh H).row (uh H).nl)
 clear hd1 ev1 HFL
 by_cases he1:E1 = 0
 ·subst he1
  obtain ⟨c0,c1,c2,c3,c4,c5,c6,c7,c8,c9⟩:=xa0l (uh HR)
  by_cases hm:s.num = 18446744073709551615
  ·have hz:=uh HBB (by simp) hm
   cases hz
   have hq:((s.num:Int) == 18446744073709551615) = true:=by simp; omega
   go_wp2_with fail
   go_ret
   have hfin:=(uh H).turn (uh HE1) (uh HD1) (Kept.refl [l] w1) (uh HR) (uh H).num rfl (uh H).nx rfl (by have:=(uh H).bt; omega) (by have:=(uh H).byt; omega) rfl (uh H).st
   have hf1:=hfin.1.more (nb':=nb + 1) (ob':=ob + 5) (bb':=bb + 48) (by omega) (by omega) (by omega)
   first | exact ⟨B1,rfl,hf1,hfin.2⟩ | exact ⟨rfl,B1,hf1,hfin.2⟩
  ·have hq:((s.num:Int) == 18446744073709551615) = false:=by simp; omega
   have HCX:=hide c8
   have HNM:=hide (by have:=(uh H).num; omega:s.num + 1 < 18446744073709551616)
   clear c0 c2 c3 c4 c5 c6 c7 c9
   go_upto_region 6 with fail
   clear c1 c8
   refine wp_w10 (by kernel_rfl) (by kernel_rfl) (by kernel_rfl) (by kernel_rfl) (by kernel_rfl) (by kernel_rfl) (by kernel_rfl) (by kernel_rfl) (by kernel_rfl) (by kernel_rfl) (by kernel_rfl) (by kernel_rfl) (by kernel_rfl) (by kernel_rfl) (by kernel_rfl) (by kernel_rfl) (by kernel_rfl) (by kernel_rfl) (by kernel_rfl) (by kernel_rfl) (by kernel_rfl) rfl rfl rfl (by intro x hx; cases hx; decide)
    (.pointer (some ⟨l,0,none⟩)) (.pointer (some ⟨l,0,none⟩)) (.pointer (some ⟨l,0,none⟩)) (.pointer (some ⟨l,0,none⟩)) (.pointer (some ⟨l,0,none⟩)) (.pointer (some ⟨l,8,none⟩)) (.int .u64 (s.nx:Int)) _ _ _ _ _ _ _
    (fun w'=>w'.cell? ⟨l,8,none⟩ = some (.int .u64 (s.nx:Int)))
    (fun w'=>Kept [] w1 w')
    (fun u7 w'=>u7 = .agg (curC d (s.num + 1) s.ep s.nx s.wd 0 0)∧Kept [] w1 w')
    (fun u8 w'=>Alc w1 u8 zCur w'∧Kept [] w1 w')
    (fun u7 u8 w'=>u7 = .agg (curC d (s.num + 1) s.ep s.nx s.wd 0 0)∧Alc w1 u8 zCur w'∧Kept [] w1 w')
    (fun u7 u8 u9 w'=>u7 = .agg (curC d (s.num + 1) s.ep s.nx s.wd 0 0)∧Alc w1 u8 (curC d (s.num + 1) s.ep s.nx s.wd 0 0) w'∧Kept [] w1 w')
    (by simp only [Act.put,sa1,sa2,sa3]; rfl) (by exact Or.inl ⟨by rfl,fun W' hW'=>by go_simp⟩)
    (by simp only [Act.put,sa1,sa2,sa3]; rfl) (by exact Or.inl ⟨by rfl,fun W' hW'=>by go_simp⟩)
    (by simp only [Act.put,sa1,sa2,sa3]; rfl) (by exact Or.inl ⟨by rfl,fun W' hW'=>by go_simp⟩)
    (by simp only [Act.put,sa1,sa2,sa3]; rfl) (by exact Or.inl ⟨by rfl,fun W' hW'=>by go_simp⟩)
    (by simp only [Act.put,sa1,sa2,sa3]; rfl) (by exact Or.inl ⟨by rfl,fun W' hW'=>by go_simp⟩)
    (by simp only [Act.put,sa1,sa2,sa3]; rfl) (by exact Or.inl ⟨by rfl,fun W' hW'=>by go_simp⟩)
    (by simp only [Act.put,sa1,sa2,sa3]; rfl) (by exact Or.inl ⟨by rfl,fun W' hW'=>by go_simp⟩)
    (Kept.refl [] w1).drew
    ⟨fun w' h=>h.cell (uh HCX) (by simp),fun _ w' h=>h.2.cell (uh HCX) (by simp),fun _ w' h=>h.2.cell (uh HCX) (by simp),fun _ _ w' h=>h.2.2.cell (uh HCX) (by simp),fun _ _ _ w' h=>h.2.2.cell (uh HCX) (by simp)⟩
    (by
     intro w' k K hK
     refine xa0f rfl Tryz.call162 [.pointer (some ⟨l,0,none⟩),.int .u64 (s.nx:Int)] rfl (xa5d l d s.nx s w' (k.heap (uh HR) (by simp)) (uh HNM)) ?_
     rintro e w2 ⟨rfl,k2⟩
     exact ⟨_,rfl,hK _ _ ⟨rfl,k.trans k2 (by simp)⟩⟩)
    (by
     intro w' k K hK
     exact xa5f rfl (hK _ _ ⟨xc0n k,k.alloc _⟩))
    (by
     rintro u7 w' ⟨rfl,k⟩ K hK
     exact xa5f rfl (hK _ _ ⟨rfl,xc0n k,k.alloc _⟩))
    (by
     rintro u8 w' ⟨a8,k⟩ K hK
     refine xa0f rfl Tryz.call162 [.pointer (some ⟨l,0,none⟩),.int .u64 (s.nx:Int)] rfl (xa5d l d s.nx s w' (k.heap (uh HR) (by simp)) (uh HNM)) ?_
     rintro e w2 ⟨rfl,k2⟩
     exact ⟨_,rfl,hK _ _ ⟨rfl,a8.pass k2,k.trans k2 (by simp)⟩⟩)
    (by
     rintro u7 u8 w' ⟨rfl,⟨g,rfl,hg,hh⟩,k⟩ K hK
     have hk2:=hK undef _ ⟨rfl,⟨g,rfl,hg,setRow_heap _ _ _ (curC d (s.num + 1) s.ep s.nx s.wd 0 0) _ _ hh⟩,Kept.setRow k (Or.inr hg) _⟩
     clear hK
     simp only [Act.put,sa1,sa2,sa3] at hk2 ⊢
     exact wp_store_row 130 (.tmp 4) (.tmp 27) rfl g (curC d (s.num + 1) s.ep s.nx s.wd 0 0) rfl rfl 130 zCur hh Tryz.size_cur rfl (by simp [curC,Value.oneCell']) hk2)
    ?_
   rintro u7 u8 u9 w3 ⟨rfl,⟨g,rfl,hg,hh⟩,k3⟩
   simp only [Act.put,sa1,sa2,sa3]
   have HG:=hide hg
   have HH:=hide hh
   have HK3:=hide k3
   have HE3:=hide (Ev.trans (uh HE1) ((⟨k3.mono (by simp),fun x hx=>.inl hx⟩:Ev w1 w3 B1 B1)))
   have HGB:=hide (fun hx=>by have:=(uh HD1).lt g hx; omega:g∉B1)
   have HGL:=hide (by have:=lt_of_block (uh HR); omega:l≠g)
   have HBG:=hide (xa7q g (s.num + 1) s.ep s.nx d nb (ob + 1) bb g0 s.wd B1 τ1 w3 hh (uh H).wd (uh HNM) (((uh HVG).on (uh HE1).1 (uh HB)).old k3) (Ev.ge (uh HE1) (uh HB) hg0) (by have:=(uh HE1).1.size; have:=k3.size; omega) ((uh HD1).old k3) (uh HGB) (by omega) (by omega) (by omega))
   rw [uh HR2] at HBG
   clear hg hh k3
   go_wp2_with fail
   refine Calls.mono (uh HBG) ?_
   rintro e w4 ⟨B4,rfl,hd4,kk4,nw4,hh4⟩
   have HD4:=hide hd4
   have HH4:=hide hh4
   have HE4:=hide (⟨((uh HE3).1.mono (M:=B) (fun x hx=>hx)).trans kk4 (fun x hx=>by
     rcases List.mem_cons.1 hx with rfl | hx
     ·exact .inr (by have:=uh HG; have:=(uh HE1).1.size; omega)
     ·exact (uh HE1).2 x hx),fun x hx=>by
     rcases nw4 x hx with h9 | h9
     ·exact (uh HE1).2 x h9
     ·exact .inr (by have:=(uh HE3).1.size; omega)⟩:Ev w w4 B B4)
   have HR4:=hide ((uh HE4).1.heap (uh H).row (uh H).nl)
   clear hd4 kk4 nw4 hh4 HBG
   dsimp only at *
   by_cases he2:E2 = 0
   ·have hz:=uh HDD (by simp) hm he2
    cases hz
    subst he2
    obtain ⟨c0,c1,c2,c3,c4,c5,c6⟩:=xa1n (uh HH4)
    obtain ⟨f0,f1,f2,f3,f4,f5,f6,f8,f9⟩:=lfroz (uh HR4)
    obtain ⟨x0,x1,x2,x3,x4,x5,x6,x7,x8,x9⟩:=xa0l (uh HR4)
    have hz:=xc0y (uh HR4) (s.num + 1) s.ep s.nx s.wd 48 0
    have kz:=((((((((Kept.refl [l] w4).setCell (p:=⟨l,0,none⟩) (.inl (by simp)) (.pointer (some ⟨d,0,none⟩))).setCell (p:=⟨l,1,none⟩) (.inl (by simp)) (.int .u64 ((s.num + 1:Nat):Int))).setCell (p:=⟨l,2,none⟩) (.inl (by simp)) (.int .u64 (s.ep:Int))).setCell (p:=⟨l,3,none⟩) (.inl (by simp)) (.int .u64 (s.nx:Int))).setCell (p:=⟨l,4,none⟩) (.inl (by simp)) (.int .i64 s.wd)).setCell (p:=⟨l,5,none⟩) (.inl (by simp)) (.int .i64 ((48:Nat):Int))).setCell (p:=⟨l,6,none⟩) (.inl (by simp)) (.int .i64 ((0:Nat):Int)))
    have HFIN:=hide ((uh H).turn (s':={ s with num:=s.num + 1,fst:=s.nx,byt:=48,bt:=0 }) (uh HE4) (uh HD4) kz hz (uh HNM) rfl (uh H).nx rfl (by simp) (by simp only; omega) rfl (uh H).st)
    clear hz kz
    go_wp2_with fail
    go_ret
    have hfin:=uh HFIN
    push_cast at hfin
    first | exact ⟨B4,rfl,hfin.1,hfin.2⟩ | exact ⟨rfl,B4,hfin.1,hfin.2⟩
   ·have hz:=uh HCC (by simp) hm he2
    cases hz
    have hq2:((E2:Int) == 0) = false:=by simp; omega
    go_wp2_with fail
    go_ret
    have hfin:=(uh H).turn (uh HE4) (uh HD4) (Kept.refl [l] w4) (uh HR4) (uh H).num rfl (uh H).nx rfl (by have:=(uh H).bt; omega) (by have:=(uh H).byt; omega) rfl (uh H).st
    first | exact ⟨B4,rfl,hfin.1,hfin.2⟩ | exact ⟨rfl,B4,hfin.1,hfin.2⟩
 ·have hz:=uh HA he1
  cases hz
  have hq:((E1:Int) == 0) = false:=by simp; omega
  go_wp2_with fail
  go_ret
  have hfin:=(uh H).turn (uh HE1) (uh HD1) (Kept.refl [l] w1) (uh HR) (uh H).num rfl (uh H).nx rfl (by have:=(uh H).bt; omega) (by have:=(uh H).byt; omega) rfl (uh H).st
  have hf1:=hfin.1.more (nb':=nb + 1) (ob':=ob + 5) (bb':=bb + 48) (by omega) (by omega) (by omega)
  first | exact ⟨B1,rfl,hf1,hfin.2⟩ | exact ⟨rfl,B1,hf1,hfin.2⟩
theorem EvL.ge {w w':World} {l:Nat} {B B':List Nat} {g:Nat} (h:EvL w w' l B B') (hB:∀ x∈B,g≤x) (hg:g≤w.heap.size):∀ x∈B',g≤x:=by
 intro x hx
 rcases h.2 x hx with h1 | h1
 ·exact hB x h1
 ·omega
theorem xb3q (σ:DSt) (s:LSt):(lgRot σ s).2.2.st = s.st∧(lgRot σ s).2.2.nx = s.nx:=by
 unfold lgRot
 (repeat' split) <;> exact ⟨rfl,rfl⟩
theorem xb4h (σ:DSt) (s:LSt) (p:List Nat):(lgLay σ s p).2.2.st = s.st∧(lgLay σ s p).2.2.nx = s.nx:=by
 unfold lgLay
 dsimp only
 split <;> exact ⟨rfl,rfl⟩
theorem xb4k (σ:DSt) (s:LSt) (p:List Nat):(lgWrite σ s p).2.2.st = s.st∧(lgWrite σ s p).2.2.nx = s.nx:=by
 unfold lgWrite
 split
 ·split
  ·exact xb3q σ s
  ·have h1:=xb3q σ s
   have h2:=xb4h (lgRot σ s).2.1 (lgRot σ s).2.2 p
   exact ⟨h2.1.trans h1.1,h2.2.trans h1.2⟩
 ·exact xb4h σ s p
set_option maxHeartbeats 4000000 in
theorem xb4e (l d nb ob bb g0:Nat) (B:List Nat) (σ:DSt) (s:LSt) (pv:Value) (ps:List Nat) (w:World) (h:LK w l d B nb ob bb σ s) (hv:VarsG g0 w) (hB:∀ x∈B,g0≤x) (hl0:g0≤l) (hg0:g0≤w.heap.size) (hp:Rd w pv ps) (hpd:∀ x∈zblk pv ps,x∉l :: B) (hpl:ps.length≤40000) (h1:nb≤800000000) (h2:ob≤800000000) (h3:bb≤140737488200000) :
  Calls Tryz.prog 63 #[.pointer (some ⟨l,0,none⟩),pv] w fun e w'=>∃ B',e = .returned (.int .i64 ((lgWrite σ s ps).1:Nat))∧LK w' l d B' (nb + 1) (ob + 6) (bb + 48 + ps.length) (lgWrite σ s ps).2.1 (lgWrite σ s ps).2.2∧EvL w w' l B B':=by
 have H:=hide h
 have HVG:=hide hv
 have HB:=hide hB
 have HP:=hide hp
 have HPD:=hide hpd
 obtain ⟨pa,pn,pc,rfl,hpn,_⟩:=id hp
 subst hpn
 have HFU:=hide (fun j=>xb7s l d s (w.drewN j) (((Kept.refl [] w).drewN j).heap h.row (by simp)))
 have HROT:=hide (fun w' (k:Kept [] w w')=>xc3k l d nb ob bb g0 B σ s w' (h.old k) (hv.old k) hB (Nat.le_trans hg0 k.size) h1 h2 h3)
 have HLAY:=hide (fun w' (k:Kept [] w w')=>xb2y l d nb ob bb g0 B σ s (.slice pa ps.length pc) ps w' (h.old k) (hv.old k) (hp.old k (by simp)) (fun x hx hm=>hpd x hx (by simp [hm])) hpl (by omega) (by omega) (by omega))
 obtain ⟨⟨E1,τ1,s1⟩,hR1⟩:∃ R1,lgRot σ s = R1:=⟨_,rfl⟩
 obtain ⟨⟨E,τ,s'⟩,hL⟩:∃ R,lgWrite σ s ps = R:=⟨_,rfl⟩
 rw [hR1] at HROT
 have HA:=hide (fun (h0:lgFull s = false)=>(by rw [← hL]; unfold lgWrite; rw [h0]; rfl:(E,τ,s') = lgLay σ s ps))
 have HBB:=hide (fun (h0:lgFull s = true) (h9:E1≠0)=>(by rw [← hL]; unfold lgWrite; rw [h0,hR1]; simp only [if_true,ne_eq,h9,not_false_eq_true]:(E,τ,s') = (E1,τ1,s1)))
 have HCC:=hide (fun (h0:lgFull s = true) (h9:E1 = 0)=>(by rw [← hL]; unfold lgWrite; rw [h0,hR1]; simp only [if_true,ne_eq,h9,not_true_eq_false,if_false]:(E,τ,s') = lgLay τ1 s1 ps))
 rw [hL]
 have c7:=(xa0l h.row).2.2.2.2.2.2.2.1
 clear h hv hB hp hpd hL hR1
 dsimp only at *
 go_enter Tryz.func63,Tryz.ntmps63
 go_upto_region 1 with fail
 refine wp_region_quiet_lit (by kernel_rfl) (by kernel_rfl) ?_
 repeat (go_big_quiet_step (exact Calls.mono (uh HFU _) (fun e x h=>⟨h.1,_,h.2⟩)))
 refine wpQuiet_nil ?_
 rintro _ ⟨m5,rfl⟩
 have HK0:=hide ((Kept.refl [] w).drewN m5)
 generalize w.drewN m5 = w0 at HK0 ⊢
 clear c7 HFU
 have HLAY0:=hide (uh HLAY w0 (uh HK0))
 have HROT0:=hide (uh HROT w0 (uh HK0))
 clear HLAY HROT
 by_cases hf:lgFull s = true
 ·rw [hf]
  go_wp2_with fail
  refine Calls.mono (uh HROT0) ?_
  rintro e w1 ⟨B1,rfl,hl1,ev1⟩
  have HL1:=hide hl1
  have HE1:=hide (EvL.pre (uh HK0) ev1)
  clear hl1 ev1 HLAY0
  by_cases he1:E1 = 0
  ·have hz:=uh HCC hf he1
   subst he1
   have HPR:=hide ((uh HP).keptZ (uh HE1).1 (uh HPD))
   have HLAY2:=hide (xb2y l d (nb + 1) (ob + 5) (bb + 48) g0 B1 τ1 s1 (.slice pa ps.length pc) ps w1 (uh HL1) ((uh HVG).on (uh HE1).1 (fun x hx=>by
     rcases List.mem_cons.1 hx with rfl | hx
     ·exact hl0
     ·exact uh HB x hx)) (uh HPR) (fun x hx hm=>by
     rcases (uh HE1).2 x hm with h9 | h9
     ·exact uh HPD x hx (by simp [h9])
     ·have:=(uh HP).ltZ x hx; omega) hpl (by omega) (by omega) (by omega))
   rw [← hz] at HLAY2
   dsimp only at *
   go_wp2_with fail
   refine Calls.mono (uh HLAY2) ?_
   rintro e w2 ⟨B2,rfl,hl2,ev2⟩
   have HL2:=hide hl2
   have HE2:=hide ((uh HE1).trans ev2)
   clear hl2 ev2
   go_wp2_with fail
   go_ret
   exact ⟨B2,rfl,(uh HL2).more (by omega) (by omega) (by omega),uh HE2⟩
  ·have hz:=uh HBB hf he1
   cases hz
   have hq:((E1:Int) == 0) = false:=by simp; omega
   go_wp2_with fail
   go_ret
   exact ⟨B1,rfl,(uh HL1).more (by omega) (by omega) (by omega),uh HE1⟩
 ·rw [Bool.not_eq_true] at hf
  have hz:=uh HA hf
  rw [hf]
  rw [← hz] at HLAY0
  dsimp only at *
  go_wp2_with fail
  refine Calls.mono (uh HLAY0) ?_
  rintro e w2 ⟨B2,rfl,hl2,ev2⟩
  have HL2:=hide hl2
  have HE2:=hide (EvL.pre (uh HK0) ev2)
  clear hl2 ev2
  go_wp2_with fail
  go_ret
  exact ⟨B2,rfl,(uh HL2).more (by omega) (by omega) (by omega),uh HE2⟩
theorem xb1n (σ:DSt) (n:ByteArray):(stCreate σ n).1 < 100:=by
 unfold stCreate
 split
 ·simp
 ·exact opE_le _ _ _ _ (by unfold ownA; (repeat' split) <;> omega)
theorem xa3d (σ:DSt) (n:ByteArray) (p:List Nat):(stAppend σ n p).1 < 100:=by
 unfold stAppend
 split
 ·simp
 ·split <;> exact opE_le _ _ _ _ (by omega)
theorem xa3n (σ:DSt) (n:ByteArray):(stSync σ n).1 < 100:=by
 unfold stSync
 split
 ·simp
 ·split <;> exact opE_le _ _ _ _ (by omega)
theorem xb5p (σ:DSt):(stNames σ).1 < 100:=by
 unfold stNames
 split
 ·simp
 ·exact opE_le _ _ _ _ (by omega)
theorem thn_lt {r:Nat × DSt} {f:DSt→Nat × DSt} (h:r.1 < 100) (hf:∀ τ,(f τ).1 < 100):(thn r f).1 < 100:=by
 unfold thn
 split
 ·exact hf _
 ·exact h
theorem xb2z (σ:DSt) (n ep fs:Nat) (wd:Int):(stBegin σ n ep fs wd).1 < 100 :=
 thn_lt (thn_lt (thn_lt (xb1n _ _) (fun τ=>xa3d _ _ _)) (fun τ=>xa3n _ _)) (fun τ=>xb5p _)
theorem xc1k (σ:DSt) (s:LSt):(lgRot σ s).1 < 100:=by
 unfold lgRot
 split
 ·exact xa3n _ _
 ·split
  ·simp
  ·split
   ·exact xb2z _ _ _ _ _
   ·simp
theorem xb3z (σ:DSt) (s:LSt) (p:List Nat):(lgWrite σ s p).1 < 100:=by
 unfold lgWrite
 split
 ·split
  ·exact xc1k _ _
  ·exact xa3d _ _ _
 ·exact xa3d _ _ _
theorem xc0w {f:Nat} {es:List En} (h:chkB f es = 0) (hf:f < 18446744073709551616):(sbB f es).length≤40000:=by
 unfold sbB
 rw [if_pos h,xa1t]
 have:=(xa3k h hf).2
 omega
theorem st_row {w:World} {l d:Nat} {s:LSt} {t:TypeId} (h:w.heap[l]? = some (.cells (lgC d s) t (0,0))) (x:Nat):(w.setCell ⟨l,9,none⟩ (.int .i64 (x:Int))).heap[l]? = some (.cells (lgC d { s with st:=x }) t (0,0)):=by
 rw [heap_setCell_same w l 9 _ t _ h]
 rfl
theorem nx_row {w:World} {l d:Nat} {s:LSt} {t:TypeId} (h:w.heap[l]? = some (.cells (lgC d s) t (0,0))) (x:Nat):(w.setCell ⟨l,8,none⟩ (.int .u64 (x:Int))).heap[l]? = some (.cells (lgC d { s with nx:=x }) t (0,0)):=by
 rw [heap_setCell_same w l 8 _ t _ h]
 rfl
theorem LK.set {w w':World} {l d nb ob bb:Nat} {B:List Nat} {σ:DSt} {s:LSt} (h:LK w l d B nb ob bb σ s) (x y:Nat) (hx:x < 100) (hy:y < 18446744073709551616) (k:Kept [l] w w') (hr:w'.heap[l]? = some (.cells (lgC d { s with st:=x,nx:=y }) 132 (0,0))):LK w' l d B nb ob bb σ { s with st:=x,nx:=y } :=
 ⟨hr,h.dk.kept k (fun z hz hm=>h.nl (by rw [← List.mem_singleton.1 hm]; exact hz)),h.nl,h.num,h.ep,hy,h.wd,h.bt,h.byt,h.lim,hx⟩
theorem EvL.on {w w3 w':World} {l:Nat} {B B':List Nat} (h:EvL w w3 l B B') (k:Kept [l] w3 w'):EvL w w' l B B' :=
 ⟨h.1.trans k (fun x hx=>Or.inl (by rw [List.mem_singleton.1 hx]; simp)),h.2⟩
set_option maxHeartbeats 4000000 in
theorem xa3b (l d nb ob bb g0:Nat) (B:List Nat) (σ:DSt) (s:LSt) (v:Value) (es:List En) (w:World) (h:LK w l d B nb ob bb σ s) (hv:VarsG g0 w) (hB:∀ x∈B,g0≤x) (hl0:g0≤l) (hg0:g0≤w.heap.size) (hr:RdN w v es) (h1:nb≤800000000) (h2:ob≤800000000) (h3:bb≤140737488200000) :
  Calls Tryz.prog 26 #[.pointer (some ⟨l,0,none⟩),v] w fun e w'=>∃ B',e = .returned (.int .i64 ((lgAppend σ s es).1:Nat))∧LK w' l d B' (nb + 1) (ob + 6) (bb + 40048) (lgAppend σ s es).2.1 (lgAppend σ s es).2.2∧EvL w w' l B B':=by
 have H:=hide h
 have HVG:=hide hv
 have HB:=hide hB
 have HSB:=hide (xa8q s.nx v es w h.nx hr)
 obtain ⟨va,n,vc,kv,vv,rfl,hlen,hcap,hmx,_⟩:=id hr
 subst hlen
 have HLE:=hide (by omega:es.length≤9223372036854775807)
 obtain ⟨C,hC⟩:∃ C,chkB s.nx es = C:=⟨_,rfl⟩
 obtain ⟨ps,hps⟩:∃ ps,sbB s.nx es = ps:=⟨_,rfl⟩
 obtain ⟨⟨E1,τ1,s1⟩,hW⟩:∃ R,lgWrite σ s ps = R:=⟨_,rfl⟩
 have HE1:=hide (by have:=xb3z σ s ps; rw [hW] at this; exact this:E1 < 100)
 have HS1:=hide (by have:=xb4k σ s ps; rw [hW] at this; exact this.2:s1.nx = s.nx)
 obtain ⟨⟨E,τ,s'⟩,hL⟩:∃ R,lgAppend σ s es = R:=⟨_,rfl⟩
 have HA:=hide (fun (h0:C≠0)=>(by rw [← hL]; unfold lgAppend; rw [hC]; simp only [ne_eq,h0,not_false_eq_true,if_true]:(E,τ,s') = (C,σ,s)))
 have HBB:=hide (fun (h0:C = 0) (h9:lgFail s≠0)=>(by rw [← hL]; unfold lgAppend; rw [hC]; simp only [ne_eq,h0,not_true_eq_false,if_false,h9,not_false_eq_true,if_true]:(E,τ,s') = (lgFail s,σ,s)))
 have HC0:=hide (fun (h0:C = 0) (h9:lgFail s = 0) (h8:E1 = 0)=>(by rw [← hL]; unfold lgAppend; rw [hC,hps]; simp only [ne_eq,h0,not_true_eq_false,if_false,h9]; rw [hW]; simp only [h8,if_true]:(E,τ,s') = (E1,τ1,{ s1 with st:=E1,nx:=(s.nx + es.length) % 18446744073709551616 })))
 have HC1:=hide (fun (h0:C = 0) (h9:lgFail s = 0) (h8:E1≠0)=>(by rw [← hL]; unfold lgAppend; rw [hC,hps]; simp only [ne_eq,h0,not_true_eq_false,if_false,h9]; rw [hW]; simp only [h8,if_false]:(E,τ,s') = (E1,τ1,{ s1 with st:=E1,nx:=s.nx })))
 rw [hL]
 have HPL:=hide (fun (h0:C = 0)=>(by rw [← hps]; exact xc0w (by rw [hC]; exact h0) h.nx:ps.length≤40000))
 rw [hC,hps] at HSB
 have c8:=(xa0l h.row).2.2.2.2.2.2.2.2.1
 have HWW:=hide hW
 clear h hv hB hr hL hC hps hW hcap hmx
 dsimp only at *
 go_enter Tryz.func26,Tryz.ntmps26
 go_wp2_with fail
 refine Calls.mono (uh HSB) ?_
 rintro e w1 ⟨pv,rfl,nw,k1⟩
 have HK1:=hide k1
 have HNW:=hide nw
 obtain ⟨pa,pn,pc,rfl,hpn,_⟩:=id nw.1
 clear k1 nw HSB c8
 by_cases hc:C = 0
 ·subst hc
  have HFA:=hide (xa9i l d s w1 ((uh HK1).heap (uh H).row (by simp)))
  go_wp2_with fail
  refine Calls.mono (uh HFA) ?_
  rintro e w2 ⟨rfl,rfl⟩
  by_cases hf:lgFail s = 0
  ·rw [hf]
   have HWR:=hide (xb4e l d nb ob bb g0 B σ s (.slice pa pn pc) ps w2 ((uh H).old (uh HK1)) ((uh HVG).old (uh HK1)) (uh HB) hl0 (Nat.le_trans hg0 (uh HK1).size) (uh HNW).1 (fun x hx hm=>by
     have h9:w.heap.size≤x:=by
      have hx2:=(xa3w hx).1
      rcases (uh HNW).2 with ⟨h8,h7⟩ | ⟨g,h8,h7,_⟩
      ·exact absurd h8 (xa3w hx).2
      ·rw [h8] at hx2; simp only [blk,List.mem_singleton] at hx2; subst hx2; exact h7
     rcases List.mem_cons.1 hm with rfl | hm
     ·have:=(uh H).lt; omega
     ·have:=(uh H).dk.lt _ hm; omega) (uh HPL (by simp)) h1 h2 h3)
   rw [uh HWW] at HWR
   dsimp only at *
   go_wp2_with fail
   refine Calls.mono (uh HWR) ?_
   rintro e w3 ⟨B3,rfl,hl3,ev3⟩
   have HL3:=hide hl3
   have HE3:=hide (EvL.pre (uh HK1) ev3)
   obtain ⟨c0,c1,c2,c3,c4,c5,c6,c7,c8,c9⟩:=xa0l hl3.row
   obtain ⟨f0,f1,f2,f3,f4,f5,f6,f8,f9⟩:=lfroz hl3.row
   rw [uh HS1] at c8
   clear hl3 ev3 HWR
   have hle3:bb + 48 + ps.length≤bb + 40048:=by have:=uh HPL (by simp); omega
   by_cases he:E1 = 0
   ·have hw:IntKind.u64.wrap ((s.nx:Int) + (es.length:Int)) = (((s.nx + es.length) % 18446744073709551616:Nat):Int):=by rw [IntKind.wrap_u64]; simp
    have hw2:IntKind.u64.wrap (es.length:Int) = (es.length:Int):=by rw [IntKind.wrap_u64]; have:=uh HLE; omega
    have hst:=st_row (uh HL3).row E1
    have kst:Kept [l] w3 (w3.setCell ⟨l,9,none⟩ (.int .i64 (E1:Int))):=(Kept.refl [l] w3).setCell (p:=⟨l,9,none⟩) (.inl (by simp)) _
    have hnx:=nx_row hst ((s.nx + es.length) % 18446744073709551616)
    have knx:=kst.setCell (p:=⟨l,8,none⟩) (.inl (by simp)) (.int .u64 (((s.nx + es.length) % 18446744073709551616:Nat):Int))
    have HFIN:=hide ((uh HL3).set E1 ((s.nx + es.length) % 18446744073709551616) (uh HE1) (Nat.mod_lt _ (by omega)) knx hnx)
    have HEV:=hide ((uh HE3).on knx)
    clear hst kst hnx knx
    have hz:=uh HC0 (by simp) hf he
    cases hz
    subst he
    go_wp2_with fail
    go_ret
    have hfin:=((uh HFIN).more (nb':=nb + 1) (ob':=ob + 6) (bb':=bb + 40048) (by omega) (by omega) hle3)
    have hev:=uh HEV
    simp only [Int.natCast_emod,Int.natCast_add,Int.cast_ofNat_Int] at hfin hev
    first | exact ⟨B3,rfl,hfin,hev⟩ | exact ⟨rfl,B3,hfin,hev⟩
   ·have hq:((E1:Int) == 0) = false:=by simp; omega
    have hst:=st_row (uh HL3).row E1
    have kst:Kept [l] w3 (w3.setCell ⟨l,9,none⟩ (.int .i64 (E1:Int))):=(Kept.refl [l] w3).setCell (p:=⟨l,9,none⟩) (.inl (by simp)) _
    have HFIN:=hide ((uh HL3).set E1 s.nx (uh HE1) (uh H).nx kst (by rw [hst,← uh HS1]))
    have HEV:=hide ((uh HE3).on kst)
    clear hst kst
    have hz:=uh HC1 (by simp) hf he
    cases hz
    go_wp2_with fail
    go_ret
    have hfin:=((uh HFIN).more (nb':=nb + 1) (ob':=ob + 6) (bb':=bb + 40048) (by omega) (by omega) hle3)
    first | exact ⟨B3,rfl,hfin,uh HEV⟩ | exact ⟨rfl,B3,hfin,uh HEV⟩
  ·have hz:=uh HBB (by simp) hf
   cases hz
   have hq:((lgFail s:Int) == 0) = false:=by simp; omega
   go_wp2_with fail
   go_ret
   have hfin:=((uh H).old (uh HK1)).more (nb':=nb + 1) (ob':=ob + 6) (bb':=bb + 40048) (by omega) (by omega) (by omega)
   have hev:=EvL.pre (uh HK1) (EvL.refl w2 l B)
   first | exact ⟨B,rfl,hfin,hev⟩ | exact ⟨rfl,B,hfin,hev⟩
 ·have hz:=uh HA hc
  cases hz
  have hq:((C:Int) == 0) = false:=by simp; omega
  go_wp2_with fail
  go_ret
  have hfin:=((uh H).old (uh HK1)).more (nb':=nb + 1) (ob':=ob + 6) (bb':=bb + 40048) (by omega) (by omega) (by omega)
  have hev:=EvL.pre (uh HK1) (EvL.refl w1 l B)
  first | exact ⟨B,rfl,hfin,hev⟩ | exact ⟨rfl,B,hfin,hev⟩
set_option maxHeartbeats 4000000 in
theorem xb0s (l d nb ob bb g0:Nat) (B:List Nat) (σ:DSt) (s:LSt) (w:World) (h:LK w l d B nb ob bb σ s) (hv:VarsG g0 w) (h1:nb≤800000000) (h2:ob≤800000000) :
  Calls Tryz.prog 31 #[.pointer (some ⟨l,0,none⟩)] w fun e w'=>∃ B',e = .returned (.int .i64 ((lgSync σ s).1:Nat))∧LK w' l d B' nb (ob + 1) bb (lgSync σ s).2.1 (lgSync σ s).2.2∧EvL w w' l B B':=by
 have H:=hide h
 obtain ⟨c0,c1,_⟩:=xa0l h.row
 have HFL:=hide (xa4e l s.num d nb ob bb B σ w c0 c1 h.num hv.now h.dk h.nl (by omega) (by omega))
 have HFA:=hide (xa9i l d s w h.row)
 obtain ⟨⟨E1,τ1⟩,hW⟩:∃ R,stSync σ (nmB s.num) = R:=⟨_,rfl⟩
 have HE1:=hide (by have:=xa3n σ (nmB s.num); rw [hW] at this; exact this:E1 < 100)
 obtain ⟨⟨E,τ,s'⟩,hL⟩:∃ R,lgSync σ s = R:=⟨_,rfl⟩
 have HBB:=hide (fun (h9:lgFail s≠0)=>(by rw [← hL]; unfold lgSync; simp only [ne_eq,h9,not_false_eq_true,if_true]:(E,τ,s') = (lgFail s,σ,s)))
 have HCC:=hide (fun (h9:lgFail s = 0)=>(by rw [← hL]; unfold lgSync; simp only [ne_eq,not_true_eq_false,if_false,h9]; rw [hW]:(E,τ,s') = (E1,τ1,{ s with st:=E1 })))
 rw [hL]
 rw [hW] at HFL
 clear h hv hL hW c0 c1
 dsimp only at *
 go_enter Tryz.func31,Tryz.ntmps31
 go_wp2_with fail
 refine Calls.mono (uh HFA) ?_
 rintro e w2 ⟨rfl,rfl⟩
 by_cases hf:lgFail s = 0
 ·have hz:=uh HCC hf
  cases hz
  rw [hf]
  go_wp2_with fail
  refine Calls.mono (uh HFL) ?_
  rintro e w3 ⟨B3,rfl,hd3,ev3⟩
  have hr3:=ev3.1.heap (uh H).row (uh H).nl
  obtain ⟨c0,c1,c2,c3,c4,c5,c6,c7,c8,c9⟩:=xa0l hr3
  obtain ⟨f0,f1,f2,f3,f4,f5,f6,f8,f9⟩:=lfroz hr3
  have hst:=st_row hr3 E1
  have kst:Kept [l] w3 (w3.setCell ⟨l,9,none⟩ (.int .i64 (E1:Int))):=(Kept.refl [l] w3).setCell (p:=⟨l,9,none⟩) (.inl (by simp)) _
  have HFIN:=hide ((uh H).turn ev3 hd3 kst hst (uh H).num rfl (uh H).nx rfl (by have:=(uh H).bt; simp only; omega) (by have:=(uh H).byt; simp only; omega) rfl (uh HE1))
  clear hst kst hr3 hd3 ev3
  go_wp2_with fail
  go_ret
  first | exact ⟨B3,rfl,(uh HFIN).1,(uh HFIN).2⟩ | exact ⟨rfl,B3,(uh HFIN).1,(uh HFIN).2⟩
 ·have hz:=uh HBB hf
  cases hz
  have hq:((lgFail s:Int) == 0) = false:=by simp; omega
  go_wp2_with fail
  go_ret
  have hfin:=(uh H).more (nb':=nb) (ob':=ob + 1) (bb':=bb) (by omega) (by omega) (by omega)
  have hev:=EvL.refl w2 l B
  first | exact ⟨B,rfl,hfin,hev⟩ | exact ⟨rfl,B,hfin,hev⟩
end
section
open Go.RowKit Go.BigFrame Go.Maps Go.Sort
theorem xb1a {w:World} {b s:Nat}:∀ {rows:List (List Value)} {off:Nat} (hc:∀ i (h:i < rows.length),w.rangeAt b (off + i * s) rows[i]) (hs:∀ r∈rows,r.length = s) (j:Nat) (u:Value),rows.flatten[j]? = some u→w.cell? ⟨b,off + j,none⟩ = some u
 | [],off,hc,hs,j,u,hj=>by simp at hj
 | r :: rs,off,hc,hs,j,u,hj=>by
  have hr:r.length = s:=hs r (by simp)
  rw [List.flatten_cons] at hj
  by_cases h:j < s
  ·rw [List.getElem?_append_left (by omega)] at hj
   have h9:=hc 0 (by simp) j u (by simpa using hj)
   simpa using h9
  ·rw [List.getElem?_append_right (by omega),hr] at hj
   have ih:=xb1a (rows:=rs) (off:=off + s) (fun i hi=>by
    have h9:=hc (i + 1) (by simpa using hi)
    simp only [List.getElem_cons_succ] at h9
    rw [show off + s + i * s = off + (i + 1) * s by rw [Nat.add_mul]; omega]
    exact h9) (fun r hr=>hs r (by simp [hr])) (j - s) u hj
   rw [show off + j = off + s + (j - s) by omega]
   exact ih
theorem xa0q {w:World} {base e s n:Nat} {v:Value} {xs:List Value} (h:w.ownsRow base e s v n xs):∃ ao cap,v = .slice ao n cap:=by
 rcases h.2 with ⟨rfl,rfl⟩ | ⟨g,cap,cur,rfl,_⟩
 ·exact ⟨_,_,rfl⟩
 ·exact ⟨_,_,rfl⟩
theorem xb5y {s:Nat}:∀ {rows:List (List Value)},(∀ r∈rows,r.length = s)→rows.flatten.length = rows.length * s
 | [],_=>by simp
 | r :: rs,h=>by
  have ih:=xb5y (rows:=rs) (fun r hr=>h r (by simp [hr]))
  rw [List.flatten_cons,List.length_append,ih,h r (by simp),List.length_cons,Nat.add_mul]
  omega
theorem xb6n {s:Nat}:∀ {rows:List (List Value)} (hs:∀ r∈rows,r.length = s) {i j:Nat} (hi:i < rows.length) {u:Value},rows[i][j]? = some u→rows.flatten[i * s + j]? = some u
 | r :: rs,hs,0,j,hi,u,hu=>by
  have hj:=(List.getElem?_eq_some_iff.1 hu).1
  rw [List.flatten_cons,Nat.zero_mul,Nat.zero_add,List.getElem?_append_left (by simpa using hj)]
  simpa using hu
 | r :: rs,hs,i + 1,j,hi,u,hu=>by
  have hr:r.length = s:=hs r (by simp)
  have ih:=xb6n (rows:=rs) (fun r hr=>hs r (by simp [hr])) (i:=i) (j:=j) (by simpa using hi) (u:=u) (by simpa using hu)
  rw [List.flatten_cons,List.getElem?_append_right (by rw [hr,Nat.add_mul]; omega),hr,show (i + 1) * s + j - s = i * s + j by rw [Nat.add_mul]; omega]
  exact ih
theorem xb5b {w:World} {base e s:Nat} {v:Value} {rows:List (List Value)} (h:w.ownsRow base e s v rows.length rows.flatten) (hs:∀ r∈rows,r.length = s):RdC s w v rows:=by
 rcases h.2 with ⟨rfl,h0⟩ | ⟨g,cap,cur,rfl,_,hg,hc,hm,hsz,ht⟩
 ·have:rows = []:=List.eq_nil_of_length_eq_zero h0
  subst this
  exact RdC.nil s w
 ·refine ⟨_,_,_,rfl,rfl,hc,by unfold maxLen at hm; omega,fun _=>⟨g,0,rfl,fun i hi j u hu=>?_⟩⟩
  have h9:=h.cells (g:=g) rfl (i * s + j) u (xb6n hs hi hu)
  rw [Addr.add_lit,Nat.zero_add] at h9
  rw [Nat.zero_add]
  exact h9
theorem xa8p {P:Program} {w:World} (base:Nat) (t ty e:TypeId) (i:TypeInfo) (size c:Nat) (ht:P.underlying t = some (.slice e)) (hi:P.info? e = some i)
  (v:Value) (n:Nat) (xs:List Value) (hown:w.ownsRow base e size v n xs) :
  (Builtin.append_ #[t,t] ty #[v,.slice none 0 c]).run P w = .ok v w:=by
 rcases hown.2 with ⟨rfl,rfl⟩ | ⟨g,cap,cur,rfl,_,_,hnc,_⟩
 ·simp [Builtin.append_,run_underlying ht,sizeOf,typeInfo,hi,Builtin.lenOf,Builtin.firstCells]
 ·simp [Builtin.append_,run_underlying ht,sizeOf,typeInfo,hi,Builtin.lenOf,Builtin.firstCells,hnc,storeCells]
theorem appendC (w:World) (base T e:Nat) (z:Value) (s bytes:Nat) (hu:Tryz.prog.underlying T = some (.slice e)) (hinf:(Tryz.prog.info? e).map (fun i=>(i.zero,i.size,i.bytes)) = some (some z,s,bytes)) (hzs:z.cells.size = s) (hs0:0 < s)
  (v:Value) (n:Nat) (xs:List Value) (h:w.ownsRow base e s v n xs) (ao:Option Addr) (m c:Nat) (rows:List (List Value)) (hr:RdC s w (.slice ao m c) rows) (hs:∀ r∈rows,r.length = s) (hone:∀ r∈rows,∀ u∈r,u.oneCell' = true)
  (hl:(n + m) * bytes≤140737488355328) (hl2:n + m≤1000000000000) (hb:base≤w.heap.size) :
  ∃ ao' cap' w1,(Builtin.append_ #[T,T] T #[v,.slice ao m c]).run Tryz.prog w = .ok (.slice ao' (n + m) cap') w1∧w1.ownsRow base e s (.slice ao' (n + m) cap') (n + m) (xs++rows.flatten)∧w.grownBy w1 v.ownBlock∧((Value.slice ao' (n + m) cap').ownBlock = v.ownBlock∨(Value.slice ao' (n + m) cap').ownBlock = some w.heap.size):=by
 obtain ⟨i0,hi,hz0,hz1,hz2⟩:=info_parts hinf
 obtain ⟨ao1,n1,c1,he,h1,h2,h3,h4⟩:=hr
 cases he
 have hf1:∀ u∈rows.flatten,u.oneCell' = true:=by
  intro u hu
  obtain ⟨r,hr,hur⟩:=List.mem_flatten.1 hu
  exact hone r hr u hur
 have hfl:rows.flatten.length = m * s:=by rw [xb5y hs,h1]
 cases ao with
 | none =>
  have hm:m = 0:=by
   rcases Nat.eq_zero_or_pos m with h9 | h9
   ·exact h9
   ·obtain ⟨b,off,e9,_⟩:=h4 h9; cases e9
  subst hm
  have hp:rows = []:=List.eq_nil_of_length_eq_zero h1
  subst hp
  have hrun:=xa8p (P:=Tryz.prog) (w:=w) base T T e i0 s c hu hi v n xs h
  obtain ⟨ao',cap',rfl⟩:=xa0q h
  exact ⟨ao',cap',w,hrun,by simpa using h,World.grownBy.refl _ _,.inl rfl⟩
 | some ad =>
  have hnews:∀ j u,rows.flatten[j]? = some u→w.cell? (ad.add j) = some u:=by
   intro j u hj
   have hm:0 < m:=by
    have:=(List.getElem?_eq_some_iff.1 hj).1
    rw [hfl] at this
    rcases Nat.eq_zero_or_pos m with h9 | h9
    ·subst h9; omega
    ·exact h9
   obtain ⟨b,off,e9,hc⟩:=h4 hm
   cases e9
   rw [Addr.add_mid]
   exact xb1a hc hs j u hj
  obtain ⟨v',w1,hrun,hown,hgrow,_,hat⟩:=run_append_own_at (P:=Tryz.prog) w base T T e i0 z s bytes hu hi hz0 hz1 hz2 hzs hs0 v n xs h ad m c rows.flatten hfl hnews hf1 (by unfold maxLen; omega) hl hb
  obtain ⟨ao',cap',rfl⟩:=xa0q hown
  exact ⟨ao',cap',w1,hrun,hown,hgrow,hat⟩
theorem xa1a {ops:Array Oper} {rest:List Oper} {o:Oper} {a:Act} {Q:Exit→Act→World→Prop} (hgd:o.guard = none) (T e:Nat) (s x:Operand)
  (ho:o.op = .call { callee:=.builtin .append,args:=#[s,x],argTypes:=#[T,T] }) (hty:o.type = T)
  (w:World) (base:Nat) (z:Value) (sz bytes:Nat) (hu:Tryz.prog.underlying T = some (.slice e)) (hinf:(Tryz.prog.info? e).map (fun i=>(i.zero,i.size,i.bytes)) = some (some z,sz,bytes)) (hzs:z.cells.size = sz) (hs0:0 < sz)
  (v:Value) (n:Nat) (xs:List Value) (h:w.ownsRow base e sz v n xs) (ao:Option Addr) (m c:Nat) (rows:List (List Value)) (hr:RdC sz w (.slice ao m c) rows) (hs:∀ r∈rows,r.length = sz) (hone:∀ r∈rows,∀ u∈r,u.oneCell' = true)
  (hl:(n + m) * bytes≤140737488355328) (hl2:n + m≤1000000000000) (hb:base≤w.heap.size) (he:a.eval s = v) (hx:a.eval x = .slice ao m c)
  (hK:∀ ao' cap' w1,Hid (w1.ownsRow base e sz (.slice ao' (n + m) cap') (n + m) (xs++rows.flatten))→Hid (w.grownBy w1 v.ownBlock)→Hid ((Value.slice ao' (n + m) cap').ownBlock = v.ownBlock∨(Value.slice ao' (n + m) cap').ownBlock = some w.heap.size) →
   wpList Tryz.prog ops Q rest (a.put o.dst (.slice ao' (n + m) cap')) w1) :
  wpList Tryz.prog ops Q (o :: rest) a w:=by
 obtain ⟨ao',cap',w1,hrun,h2,h3,h4⟩:=appendC w base T e z sz bytes hu hinf hzs hs0 v n xs h ao m c rows hr hs hone hl hl2 hb
 refine wpList_plain hgd fun K hK'=>?_
 unfold Oper.wp execOp
 simp only [ho,hty,resolve,invoke,builtin,Sem.run_bind,Sem.run_pure,Result.andThen_ok,List.map_toArray,List.map_cons,List.map_nil,he,hx,hrun]
 exact hK' _ _ (hK ao' cap' w1 h2 h3 h4)
end
section
open Go.RowKit Go.BigFrame
def rowB (t:Nat × Value × List En):List Value:=[.int .u64 (t.1:Int),t.2.1]
theorem xa2w (ts:List (Nat × Value × List En)):(ts.map rowB).flatten = cellsB ts:=by
 unfold cellsB
 rw [List.flatMap_def]
 rfl
theorem xa8a (ts:List (Nat × Value × List En)):∀ r∈ts.map rowB,r.length = 2:=by
 intro r hr
 obtain ⟨a,_,rfl⟩:=List.mem_map.1 hr
 rfl
theorem RdN.oneV {w:World} {v:Value} {es:List En} (h:RdN w v es):v.oneCell' = true:=by
 obtain ⟨a,n,c,_,_,rfl,_⟩:=h
 rfl
theorem OwnB.rdC {w0 w:World} {v:Value} {ts:List (Nat × Value × List En)} (h:OwnB w0 w v ts):RdC 2 w v (ts.map rowB) :=
 xb5b (e:=75) (base:=w0.heap.size) (by rw [xa2w,List.length_map]; exact h.own) (xa8a ts)
theorem OwnB.rdN {w0 w:World} {v:Value} {ts:List (Nat × Value × List En)} (h:OwnB w0 w v ts):∀ t∈ts,RdN w t.2.1 t.2.2:=by
 intro t ht
 obtain ⟨B,C,_,_,_,h5⟩:=h.rd t ht
 exact h5 [] w (Kept.refl _ _) (by simp)
theorem OwnB.oneC {w0 w:World} {v:Value} {ts:List (Nat × Value × List En)} (h:OwnB w0 w v ts):∀ r∈ts.map rowB,∀ u∈r,u.oneCell' = true:=by
 intro r hr u hu
 obtain ⟨a,ha,rfl⟩:=List.mem_map.1 hr
 simp only [rowB,List.mem_cons,List.not_mem_nil,or_false] at hu
 rcases hu with rfl | rfl
 ·rfl
 ·exact (h.rdN a ha).oneV
theorem xa7a (ts ss:List (Nat × Value × List En)):cellsB (ts++ss) = cellsB ts++cellsB ss:=by simp [cellsB]
theorem OwnB.stay {w0 w w':World} {M:List Nat} {v:Value} {ts:List (Nat × Value × List En)} (h:OwnB w0 w v ts) (k:Kept M w w') (hM:∀ x∈M,x < w0.heap.size∨w.heap.size≤x):OwnB w0 w' v ts:=by
 have k2:Kept (M.filter (· < w0.heap.size)) w w':=⟨k.os,k.tape,k.output,k.size,fun j hj hn=>k.block j hj (fun hm=>hn (by
  rw [List.mem_filter]
  refine ⟨hm,?_⟩
  rcases hM j hm with h1 | h1
  ·simpa using h1
  ·omega))⟩
 exact h.pass k2 (fun x hx=>by rw [List.mem_filter] at hx; simpa using hx.2)
end
section
open Go.RowKit Go.BigFrame Go.Maps Go.Sort
structure OwnX (X:List Nat) (w0 w:World) (v:Value) (ts:List (Nat × Value × List En)):Prop where
 own:w.ownsRow w0.heap.size 75 2 v ts.length (cellsB ts)
 rd:∀ t∈ts,∃ B C,C≤w.heap.size∧w0.heap.size≤B∧(∀ b,v.ownBlock = some b→b < B∨C≤b)∧(∀ b∈X,b < B∨C≤b)∧∀ M w',Kept M w w'→(∀ x∈M,x < B∨C≤x)→RdN w' t.2.1 t.2.2
 sz:w0.heap.size≤w.heap.size
 ap:∀ b,v.ownBlock = some b→b∉X
theorem OwnX.toB {X:List Nat} {w0 w:World} {v:Value} {ts:List (Nat × Value × List En)} (h:OwnX X w0 w v ts):OwnB w0 w v ts :=
 ⟨h.own,fun t ht=>by obtain ⟨B,C,h1,h2,h3,h4,h5⟩:=h.rd t ht; exact ⟨B,C,h1,h2,h3,h5⟩,h.sz⟩
theorem OwnX.start (w:World):OwnX [] w w (.slice none 0 0) []:=⟨World.ownsRow_nil _ _ _ _,by simp,Nat.le_refl _,by simp⟩
theorem OwnX.pass {X:List Nat} {w0 w w':World} {M:List Nat} {v:Value} {ts:List (Nat × Value × List En)} (h:OwnX X w0 w v ts) (k:Kept M w w') (hM:∀ x∈M,x < w0.heap.size∨x∈X):OwnX X w0 w' v ts:=by
 refine ⟨k.owns h.own (fun b hb hm=>?_),fun t ht=>?_,Nat.le_trans h.sz k.size,h.ap⟩
 ·rcases hM b hm with h1 | h1
  ·have:=(h.own.lt b hb).1; omega
  ·exact h.ap b hb h1
 ·obtain ⟨B,C,h1,h2,h3,h4,h5⟩:=h.rd t ht
  refine ⟨B,C,Nat.le_trans h1 k.size,h2,h3,h4,fun N w2 kN hN=>h5 (M++N) w2 ((k.mono (M:=M++N) (fun x hx=>by simp [hx])).trans kN (fun x hx=>Or.inl (by simp [hx]))) (fun x hx=>?_)⟩
  rcases List.mem_append.1 hx with hx | hx
  ·rcases hM x hx with h6 | h6
   ·omega
   ·exact h4 x h6
  ·exact hN x hx
theorem OwnX.turn {X Y:List Nat} {w0 w:World} {v:Value} {ts:List (Nat × Value × List En)} (h:OwnX X w0 w v ts) {n:Nat} (hY:∀ b∈Y,b∈X∨n≤b) {wo:World} (hn:wo.heap.size = n) (ho:OwnX X w0 wo v ts) (k:Kept X wo w):OwnX Y w0 w v ts:=by
 refine ⟨h.own,fun t ht=>?_,h.sz,fun b hb hm=>?_⟩
 ·obtain ⟨B,C,h1,h2,h3,h4,h5⟩:=ho.rd t ht
  refine ⟨B,C,Nat.le_trans h1 k.size,h2,h3,fun b hb=>?_,fun N w2 kN hN=>h5 (X++N) w2 ((k.mono (M:=X++N) (fun x hx=>by simp [hx])).trans kN (fun x hx=>Or.inl (by simp [hx]))) (fun x hx=>?_)⟩
  ·rcases hY b hb with h6 | h6
   ·exact h4 b h6
   ·omega
  ·rcases List.mem_append.1 hx with hx | hx
   ·exact h4 x hx
   ·exact hN x hx
 ·rcases hY b hm with h6 | h6
  ·exact h.ap b hb h6
  ·have:=(ho.own.lt b hb).2; omega
theorem OwnX.cat {X M:List Nat} {w0 w1 wr w W:World} {v v2 v':Value} {ts ss:List (Nat × Value × List En)} (h:OwnX X w0 w v ts) (h2:OwnB w1 wr v2 ss) (k:Kept M wr w) (hM:∀ x∈M,x < w1.heap.size∨wr.heap.size≤x) (h01:w0.heap.size≤w1.heap.size) (hv:∀ b,v.ownBlock = some b→b < w1.heap.size) (hX:∀ b∈X,b < w1.heap.size∨wr.heap.size≤b) (hXl:∀ b∈X,b < w.heap.size)
  (o:W.ownsRow w0.heap.size 75 2 v' (ts.length + ss.length) (cellsB ts++cellsB ss)) (gr:w.grownBy W v.ownBlock) (hg:v'.ownBlock = v.ownBlock∨v'.ownBlock = some w.heap.size) :
  OwnX X w0 W v' (ts++ss):=by
 have kW:Kept v.ownBlock.toList w W:=((Kept.refl _ w)).grown gr (by intro k hk; left; simp [hk])
 refine ⟨by rw [xa7a,List.length_append]; exact o,fun t ht=>?_,Nat.le_trans h.sz kW.size,fun b hb hm=>?_⟩
 ·rcases List.mem_append.1 ht with ht | ht
  ·obtain ⟨B1,C,h1,h2,h3,h4,h5⟩:=h.rd t ht
   refine ⟨B1,C,Nat.le_trans h1 kW.size,h2,fun b hb=>?_,h4,fun N w2 kN hN=>h5 (v.ownBlock.toList++N) w2 ((kW.mono (M:=v.ownBlock.toList++N) (fun x hx=>List.mem_append_left _ hx)).trans kN (fun x hx=>Or.inl (by simp [hx]))) (fun x hx=>?_)⟩
   ·rcases hg with hg | hg
    ·rw [hg] at hb; exact h3 _ hb
    ·rw [hg] at hb; simp only [Option.some.injEq] at hb; omega
   ·rcases List.mem_append.1 hx with hx | hx
    ·exact h3 x (by simpa using hx)
    ·exact hN x hx
  ·obtain ⟨B1,C,h1,h5,h3,h4⟩:=h2.rd t ht
   refine ⟨B1,C,Nat.le_trans h1 (Nat.le_trans k.size kW.size),Nat.le_trans h01 h5,fun b hb=>?_,fun b hb=>?_,fun N w2 kN hN=>h4 ((M++v.ownBlock.toList)++N) w2 (((k.mono (M:=(M++v.ownBlock.toList)++N) (fun x hx=>by simp [hx])).trans (kW.mono (M:=(M++v.ownBlock.toList)++N) (fun x hx=>by simp at hx; simp [hx])) (fun x hx=>Or.inl hx)).trans kN (fun x hx=>Or.inl (by simp [hx]))) (fun x hx=>?_)⟩
   ·have hks:=k.size
    rcases hg with hg | hg
    ·rw [hg] at hb; have:=hv _ hb; exact Or.inl (by omega)
    ·rw [hg] at hb; simp only [Option.some.injEq] at hb; omega
   ·rcases hX b hb with h6 | h6
    ·exact Or.inl (by omega)
    ·exact Or.inr (by omega)
   ·rcases List.mem_append.1 hx with hx | hx
    ·rcases List.mem_append.1 hx with hx | hx
     ·rcases hM x hx with h6 | h6
      ·exact Or.inl (by omega)
      ·exact Or.inr (by omega)
     ·have:=hv x (by simpa using hx); exact Or.inl (by omega)
    ·exact hN x hx
 ·rcases hg with hg | hg
  ·rw [hg] at hb; exact h.ap b hb hm
  ·rw [hg] at hb; simp only [Option.some.injEq] at hb; have:=hXl b hm; omega
def fdC (f:FSt) (sv bv:Value):Array Value:=#[.int .u64 (f.last:Int),.int .u64 (f.ep:Int),.int .u64 (f.sz:Int),sv,bv]
theorem xa0v {w:World} {g:Nat} {f:FSt} {sv bv:Value} {ty:TypeId} (h:w.heap[g]? = some (.cells (fdC f sv bv) ty (0,0))):w.cell? ⟨g,0,none⟩ = some (.int .u64 (f.last:Int))∧w.cell? ⟨g,1,none⟩ = some (.int .u64 (f.ep:Int))∧w.cell? ⟨g,2,none⟩ = some (.int .u64 (f.sz:Int))∧w.cell? ⟨g,3,none⟩ = some sv∧w.cell? ⟨g,4,none⟩ = some bv:=by
 refine ⟨?_,?_,?_,?_,?_⟩ <;> rw [cell_of_row _ _ _ _ _ _ h] <;> rfl
theorem ffroz {w:World} {b:Nat} {cs:Array Value} {t:TypeId} (h:w.heap[b]? = some (.cells cs t (0,0))):w.frozen? ⟨b,0,none⟩ = false∧w.frozen? ⟨b,1,none⟩ = false∧w.frozen? ⟨b,2,none⟩ = false∧w.frozen? ⟨b,3,none⟩ = false∧w.frozen? ⟨b,4,none⟩ = false :=
 ⟨frozen_of_row _ _ _ _ _ h,frozen_of_row _ _ _ _ _ h,frozen_of_row _ _ _ _ _ h,frozen_of_row _ _ _ _ _ h,frozen_of_row _ _ _ _ _ h⟩
structure FK (w0 w:World) (g:Nat) (f:FSt) (sv bv:Value) (ts:List (Nat × Value × List En)):Prop where
 row:w.heap[g]? = some (.cells (fdC f sv bv) 125 (0,0))
 gl:g < w0.heap.size
 sg:w.ownsRow w0.heap.size 9 1 sv f.sg.length (f.sg.map encStr)
 bs:OwnX sv.ownBlock.toList w0 w bv ts
 eq:f.bs = ts.map fun t=>(t.1,t.2.2)
 last:f.last < 18446744073709551616
 ep:f.ep < 18446744073709551616
 szb:f.sz < 18446744073709551616
theorem FK.pass {w0 w w':World} {g:Nat} {f:FSt} {sv bv:Value} {ts:List (Nat × Value × List En)} (h:FK w0 w g f sv bv ts) (k:Kept [] w w'):FK w0 w' g f sv bv ts :=
 { h with row:=k.heap h.row (by simp),sg:=k.owns h.sg (by simp),bs:=h.bs.pass k (by simp) }
set_option maxHeartbeats 2000000 in
theorem xb9j (g a b c:Nat) (z:Int) (f:FSt) (sv bv:Value) (w:World) (hr:w.heap[g]? = some (.cells (fdC f sv bv) 125 (0,0))) (p:List Nat) (hc:(hdC p).c = c) (hb:(hdC p).b = b) :
  Calls Tryz.prog 89 #[.pointer (some ⟨g,0,none⟩),.agg #[.int .u64 (a:Int),.int .u64 (b:Int),.int .u64 (c:Int),.int .i64 z]] w fun e w'=>e = .returned (.bool (goOnF f p))∧Kept [] w w':=by
 have hk:=(Kept.refl [] w).alloc (.cells #[.int .u64 (a:Int),.int .u64 (b:Int),.int .u64 (c:Int),.int .i64 z] 53)
 have hh:=heap_alloc_new w (.cells #[.int .u64 (a:Int),.int .u64 (b:Int),.int .u64 (c:Int),.int .i64 z] 53)
 obtain ⟨c0,c1,c2,c3,c4⟩:=xa0v (hk.heap hr (by simp))
 obtain ⟨q0,q1,q2,q3⟩:=hcells hh
 have HK:=hide hk
 unfold goOnF
 rw [hc,hb]
 clear hk hh hr hc hb c0 c3 c4 q0 q3
 by_cases h1:c = f.sz
 ·rw [decide_eq_true h1,Bool.true_and]
  subst h1
  by_cases h2:f.ep≤b
  ·have g2:(f.ep:Int)≤(b:Int):=by omega
   rw [decide_eq_true h2,Bool.true_and]
   by_cases h3:b < 18446744073709551615
   ·have g3:(b:Int) < 18446744073709551615:=by omega
    rw [decide_eq_true h3]
    go_enter Tryz.func89,Tryz.ntmps89
    go_upto_region 1 with fail
    refine wp_region_quiet_lit (by kernel_rfl) (by kernel_rfl) ?_
    repeat (go_big_quiet_step (fail))
    refine wpQuiet_nil ?_
    rintro _ ⟨m5,rfl⟩
    go_wp2_with fail
    go_ret
    exact ⟨rfl,(uh HK).drewN m5⟩
   ·have g3:¬ (b:Int) < 18446744073709551615:=by omega
    rw [decide_eq_false h3]
    go_enter Tryz.func89,Tryz.ntmps89
    go_upto_region 1 with fail
    refine wp_region_quiet_lit (by kernel_rfl) (by kernel_rfl) ?_
    repeat (go_big_quiet_step (fail))
    refine wpQuiet_nil ?_
    rintro _ ⟨m5,rfl⟩
    go_wp2_with fail
    go_ret
    exact ⟨rfl,(uh HK).drewN m5⟩
  ·have g2:¬ (f.ep:Int)≤(b:Int):=by omega
   rw [decide_eq_false h2,Bool.false_and]
   go_enter Tryz.func89,Tryz.ntmps89
   go_upto_region 1 with fail
   refine wp_region_quiet_lit (by kernel_rfl) (by kernel_rfl) ?_
   repeat (go_big_quiet_step (fail))
   refine wpQuiet_nil ?_
   rintro _ ⟨m5,rfl⟩
   go_wp2_with fail
   go_ret
   exact ⟨rfl,(uh HK).drewN m5⟩
 ·have g1:((c:Int) == (f.sz:Int)) = false:=by simp; omega
  rw [decide_eq_false h1,Bool.false_and,Bool.false_and]
  go_enter Tryz.func89,Tryz.ntmps89
  go_upto_region 1 with fail
  refine wp_region_quiet_lit (by kernel_rfl) (by kernel_rfl) ?_
  repeat (go_big_quiet_step (fail))
  refine wpQuiet_nil ?_
  rintro _ ⟨m5,rfl⟩
  go_wp2_with fail
  go_ret
  exact ⟨rfl,(uh HK).drewN m5⟩
def RdS (w:World) (v:Value) (ss:List (List UInt8)):Prop :=
 ∃ (ao:Option Addr) (len cap:Nat),v = .slice ao len cap∧ss.length = len∧len≤cap∧cap≤9223372036854775807∧(0 < len→∃ b off,ao = some ⟨b,off,none⟩∧∀ i (h:i < ss.length),w.cell? ⟨b,off + i,none⟩ = some (encStr ss[i]))
theorem RdS.kept {L:List Nat} {w w':World} {v:Value} {ss:List (List UInt8)} (h:RdS w v ss) (k:Kept L w w') (hn:∀ x∈blk v,x∉L):RdS w' v ss:=by
 obtain ⟨ao,len,cap,rfl,h1,h2,h3,h4⟩:=h
 refine ⟨ao,len,cap,rfl,h1,h2,h3,fun hp=>?_⟩
 obtain ⟨b,off,rfl,hc⟩:=h4 hp
 exact ⟨b,off,rfl,fun i hi=>k.cell (hc i hi) (hn b (by simp [blk]))⟩
theorem xa8l {w:World} {base:Nat} {v:Value} {ss:List (List UInt8)} (h:w.ownsRow base 9 1 v ss.length (ss.map encStr)):RdS w v ss:=by
 rcases h.2 with ⟨rfl,h0⟩ | ⟨g,cap,cur,rfl,hb,hg,hc,hm,hs,ht⟩
 ·exact ⟨none,0,0,rfl,h0,Nat.le_refl _,by omega,fun h=>by omega⟩
 ·refine ⟨some ⟨g,0,none⟩,ss.length,cap,rfl,rfl,hc,by unfold maxLen at hm; omega,fun hp=>⟨g,0,rfl,fun i hi=>?_⟩⟩
  have h9:=h.cells (g:=g) rfl i (encStr ss[i]) (by rw [List.getElem?_map,List.getElem?_eq_getElem hi]; rfl)
  rw [Addr.add_lit] at h9
  exact h9
end
section
open Go Go.RowKit Go.BigFrame
section
variable {P:Program} {Q:Exit→Act→World→Prop}
theorem wp_c11 {id:Nat} {o0 o1 o2 o3 o4 o5 o6 o7 o8 o9 o10:Oper} {a:Act} {w:World} (hm:P.follows .mixedOrders = true) (hs:Region.noSelect #[o0,o1,o2,o3,o4,o5,o6,o7,o8,o9,o10] = true)
  (f0:Region.free .any #[o0,o1,o2,o3,o4,o5,o6,o7,o8,o9,o10] #[false,false,false,false,false,false,false,false,false,false,false] 0 = true) (r0:(Region.ready .any #[o0,o1,o2,o3,o4,o5,o6,o7,o8,o9,o10] #[false,false,false,false,false,false,false,false,false,false,false]).contains 0 = true) (e0:o10.after.any (fun e=>Region.binds .any e && e.on == 0) = true)
  (f1:Region.free .any #[o0,o1,o2,o3,o4,o5,o6,o7,o8,o9,o10] #[true,false,false,false,false,false,false,false,false,false,false] 1 = true) (r1:(Region.ready .any #[o0,o1,o2,o3,o4,o5,o6,o7,o8,o9,o10] #[true,false,false,false,false,false,false,false,false,false,false]).contains 1 = true) (e1:o10.after.any (fun e=>Region.binds .any e && e.on == 1) = true)
  (f2:Region.free .any #[o0,o1,o2,o3,o4,o5,o6,o7,o8,o9,o10] #[true,true,false,false,false,false,false,false,false,false,false] 2 = true) (r2:(Region.ready .any #[o0,o1,o2,o3,o4,o5,o6,o7,o8,o9,o10] #[true,true,false,false,false,false,false,false,false,false,false]).contains 2 = true) (e2:o10.after.any (fun e=>Region.binds .any e && e.on == 2) = true)
  (f3:Region.free .any #[o0,o1,o2,o3,o4,o5,o6,o7,o8,o9,o10] #[true,true,true,false,false,false,false,false,false,false,false] 3 = true) (r3:(Region.ready .any #[o0,o1,o2,o3,o4,o5,o6,o7,o8,o9,o10] #[true,true,true,false,false,false,false,false,false,false,false]).contains 3 = true) (e3:o10.after.any (fun e=>Region.binds .any e && e.on == 3) = true)
  (f4:Region.free .any #[o0,o1,o2,o3,o4,o5,o6,o7,o8,o9,o10] #[true,true,true,true,false,false,false,false,false,false,false] 4 = true) (r4:(Region.ready .any #[o0,o1,o2,o3,o4,o5,o6,o7,o8,o9,o10] #[true,true,true,true,false,false,false,false,false,false,false]).contains 4 = true) (e4:o10.after.any (fun e=>Region.binds .any e && e.on == 4) = true)
  (f5:Region.free .any #[o0,o1,o2,o3,o4,o5,o6,o7,o8,o9,o10] #[true,true,true,true,true,false,false,false,false,false,false] 5 = true) (r5:(Region.ready .any #[o0,o1,o2,o3,o4,o5,o6,o7,o8,o9,o10] #[true,true,true,true,true,false,false,false,false,false,false]).contains 5 = true) (e5:o10.after.any (fun e=>Region.binds .any e && e.on == 5) = true)
  (f6:Region.free .any #[o0,o1,o2,o3,o4,o5,o6,o7,o8,o9,o10] #[true,true,true,true,true,true,false,false,false,false,false] 6 = true) (r6:(Region.ready .any #[o0,o1,o2,o3,o4,o5,o6,o7,o8,o9,o10] #[true,true,true,true,true,true,false,false,false,false,false]).contains 6 = true) (e6:o10.after.any (fun e=>Region.binds .any e && e.on == 6) = true)
  (q7:Region.ready .any #[o0,o1,o2,o3,o4,o5,o6,o7,o8,o9,o10] #[true,true,true,true,true,true,true,false,false,false,false] = [7]) (g7:o7.guard = none)
  (q8:Region.ready .any #[o0,o1,o2,o3,o4,o5,o6,o7,o8,o9,o10] #[true,true,true,true,true,true,true,true,false,false,false] = [8]) (g8:o8.guard = none)
  (q9:Region.ready .any #[o0,o1,o2,o3,o4,o5,o6,o7,o8,o9,o10] #[true,true,true,true,true,true,true,true,true,false,false] = [9]) (g9:o9.guard = none)
  (q10:Region.ready .any #[o0,o1,o2,o3,o4,o5,o6,o7,o8,o9,o10] #[true,true,true,true,true,true,true,true,true,true,false] = [10]) (g10:o10.guard = none)
  (rr:Region.ready .any #[o0,o1,o2,o3,o4,o5,o6,o7,o8,o9,o10] #[true,true,true,true,true,true,true,true,true,true,true] = [])
  (v0 v1 v2 v3 v4 v5 v6:Value) (A0 A1 A2 A3 A4 A5 A6:Act) (T:World→Prop)
  (I0:World→Prop)
  (I1:Value→World→Prop)
  (I2:Value→Value→World→Prop)
  (I3:Value→Value→Value→World→Prop)
  (IE:Value→Value→Value→World→Prop)
  (p0:a.put o0.dst v0 = A0) (hy0:YieldsIf P #[o0,o1,o2,o3,o4,o5,o6,o7,o8,o9,o10] T o0 v0 a)
  (p1:A0.put o1.dst v1 = A1) (hy1:YieldsIf P #[o0,o1,o2,o3,o4,o5,o6,o7,o8,o9,o10] T o1 v1 A0)
  (p2:A1.put o2.dst v2 = A2) (hy2:YieldsIf P #[o0,o1,o2,o3,o4,o5,o6,o7,o8,o9,o10] T o2 v2 A1)
  (p3:A2.put o3.dst v3 = A3) (hy3:YieldsIf P #[o0,o1,o2,o3,o4,o5,o6,o7,o8,o9,o10] T o3 v3 A2)
  (p4:A3.put o4.dst v4 = A4) (hy4:YieldsIf P #[o0,o1,o2,o3,o4,o5,o6,o7,o8,o9,o10] T o4 v4 A3)
  (p5:A4.put o5.dst v5 = A5) (hy5:YieldsIf P #[o0,o1,o2,o3,o4,o5,o6,o7,o8,o9,o10] T o5 v5 A4)
  (p6:A5.put o6.dst v6 = A6) (hy6:YieldsIf P #[o0,o1,o2,o3,o4,o5,o6,o7,o8,o9,o10] T o6 v6 A5)
  (i0:I0 w.drew)
  (hIT:(∀ w',I0  w'→T w')∧(∀ (u0:Value) w',I1 u0 w'→T w')∧(∀ (u0 u1:Value) w',I2 u0 u1 w'→T w')∧(∀ (u0 u1 u2:Value) w',I3 u0 u1 u2 w'→T w'))
  (s0:∀ w',I0  w'→∀ K:Act→World→Prop,(∀ (u0:Value) w2,I1 u0 w2→K (A6.put o7.dst u0) w2)→o7.wp P A6 w' K (NoPanic Q))
  (s1:∀ (u0:Value) w',I1 u0 w'→∀ K:Act→World→Prop,(∀ (u1:Value) w2,I2 u0 u1 w2→K ((A6.put o7.dst u0).put o8.dst u1) w2)→o8.wp P (A6.put o7.dst u0) w' K (NoPanic Q))
  (s2:∀ (u0 u1:Value) w',I2 u0 u1 w'→∀ K:Act→World→Prop,(∀ (u2:Value) w2,I3 u0 u1 u2 w2→K (((A6.put o7.dst u0).put o8.dst u1).put o9.dst u2) w2)→o9.wp P ((A6.put o7.dst u0).put o8.dst u1) w' K (NoPanic Q))
  (se:∀ (u0 u1 u2:Value) w',I3 u0 u1 u2 w'→∀ K:Act→World→Prop,(∀ w2,IE u0 u1 u2 w2→K (((A6.put o7.dst u0).put o8.dst u1).put o9.dst u2) w2)→o10.wp P (((A6.put o7.dst u0).put o8.dst u1).put o9.dst u2) w' K (NoPanic Q))
  (h:∀ (u0 u1 u2:Value) w',IE u0 u1 u2 w'→Q .normal (((A6.put o7.dst u0).put o8.dst u1).put o9.dst u2) w') :
  (Code.region id #[o0,o1,o2,o3,o4,o5,o6,o7,o8,o9,o10] true).wp P Q a w:=by
 subst p0 p1 p2 p3 p4 p5 p6
 obtain ⟨z0,z1,z2,z3⟩:=hIT
 refine wp_region_noPanic ?_
 refine wp_region_any hm ?_
 refine AnyL.any (S:=fun d w'=>d.getD 10 true = false→T w') _ _ _ _ ?_
 show AnyL P .any #[o0,o1,o2,o3,o4,o5,o6,o7,o8,o9,o10] (NoPanic Q) _ 11 #[false,false,false,false,false,false,false,false,false,false,false] a w.drew
 have hSi:∀ i,i≠10→∀ (d:Array Bool) (w':World),((d.setIfInBounds i true).getD 10 true = false→T w')↔(d.getD 10 true = false→T w'):=by
  intro i h4 d w'
  rw [getD_set_ne true h4]
 refine AnyL.take (i:=0) (t:=10) (oi:=o0) (ot:=o10) (T:=T) rfl rfl (by decide) hs f0 r0 e0 (fun _ _ _ h=>h) (fun d w' h9 hd=>h9 hd) (hSi 0 (by decide)) hy0 rfl (fun _=>z0 _ i0) ?_
 refine AnyL.take (i:=1) (t:=10) (oi:=o1) (ot:=o10) (T:=T) rfl rfl (by decide) hs f1 r1 e1 (fun _ _ _ h=>h) (fun d w' h9 hd=>h9 hd) (hSi 1 (by decide)) hy1 rfl (fun _=>z0 _ i0) ?_
 refine AnyL.take (i:=2) (t:=10) (oi:=o2) (ot:=o10) (T:=T) rfl rfl (by decide) hs f2 r2 e2 (fun _ _ _ h=>h) (fun d w' h9 hd=>h9 hd) (hSi 2 (by decide)) hy2 rfl (fun _=>z0 _ i0) ?_
 refine AnyL.take (i:=3) (t:=10) (oi:=o3) (ot:=o10) (T:=T) rfl rfl (by decide) hs f3 r3 e3 (fun _ _ _ h=>h) (fun d w' h9 hd=>h9 hd) (hSi 3 (by decide)) hy3 rfl (fun _=>z0 _ i0) ?_
 refine AnyL.take (i:=4) (t:=10) (oi:=o4) (ot:=o10) (T:=T) rfl rfl (by decide) hs f4 r4 e4 (fun _ _ _ h=>h) (fun d w' h9 hd=>h9 hd) (hSi 4 (by decide)) hy4 rfl (fun _=>z0 _ i0) ?_
 refine AnyL.take (i:=5) (t:=10) (oi:=o5) (ot:=o10) (T:=T) rfl rfl (by decide) hs f5 r5 e5 (fun _ _ _ h=>h) (fun d w' h9 hd=>h9 hd) (hSi 5 (by decide)) hy5 rfl (fun _=>z0 _ i0) ?_
 refine AnyL.take (i:=6) (t:=10) (oi:=o6) (ot:=o10) (T:=T) rfl rfl (by decide) hs f6 r6 e6 (fun _ _ _ h=>h) (fun d w' h9 hd=>h9 hd) (hSi 6 (by decide)) hy6 rfl (fun _=>z0 _ i0) ?_
 refine AnyL.forced q7 rfl g7 (fun K hK=>s0  w.drew i0 K (fun u0 w1 i1=>hK _ _ (fun _=>z1 u0 w1 i1) ?_))
 refine AnyL.forced q8 rfl g8 (fun K hK=>s1 u0 w1 i1 K (fun u1 w2 i2=>hK _ _ (fun _=>z2 u0 u1 w2 i2) ?_))
 refine AnyL.forced q9 rfl g9 (fun K hK=>s2 u0 u1 w2 i2 K (fun u2 w3 i3=>hK _ _ (fun _=>z3 u0 u1 u2 w3 i3) ?_))
 refine AnyL.forced q10 rfl g10 (fun K hK=>se u0 u1 u2 w3 i3 K (fun we ie=>hK _ _ (fun h9=>(by cases h9)) ?_))
 exact ⟨rr,NoPanic.normal (h u0 u1 u2 we ie)⟩
end
end
section
open Go.RowKit Go.BigFrame Go.Maps Go.Sort
theorem Tryz.infoStr:(Tryz.prog.info? 9).map (fun i=>(i.zero,i.size,i.bytes)) = some (some (.string ⟨#[]⟩),1,16):=by kernel_rfl
theorem xc5d {w:World} {H:Nat} {x:Value} {t:TypeId} (h:w.heap[H]? = some (.cells #[x] t (0,0))):RdC 1 w (.slice (some ⟨H,0,none⟩) 1 1) [[x]]:=by
 refine ⟨_,_,_,rfl,rfl,Nat.le_refl _,by omega,fun _=>⟨H,0,rfl,fun i hi j u hu=>?_⟩⟩
 have hi0:i = 0:=by simp at hi; omega
 subst hi0
 simp only [List.getElem_cons_zero] at hu
 match j with
 | 0 =>
  simp only [List.getElem?_cons_zero,Option.some.injEq] at hu
  subst hu
  have h9:=cell_of_row _ _ 0 _ _ _ h
  simpa using h9
 | j + 1=>simp at hu
theorem xa6a (s:List UInt8):encStr s = .string (strU s):=rfl
theorem OwnX.shape {X:List Nat} {w0 w:World} {v:Value} {ts:List (Nat × Value × List En)} (h:OwnX X w0 w v ts):∃ a c,v = .slice a ts.length c:=xa0q h.own
theorem FK.turn {w0 w w':World} {g:Nat} {f f':FSt} {sv bv:Value} {ts:List (Nat × Value × List En)} (h:FK w0 w g f sv bv ts) (k:Kept [g] w w') (hr:w'.heap[g]? = some (.cells (fdC f' sv bv) 125 (0,0))) (h1:f'.sg = f.sg) (h2:f'.bs = f.bs) (h3:f'.last < 18446744073709551616) (h4:f'.ep < 18446744073709551616) (h5:f'.sz < 18446744073709551616):FK w0 w' g f' sv bv ts:=by
 have hg:∀ x∈[g],x < w0.heap.size:=fun x hx=>by rw [List.mem_singleton.1 hx]; exact h.gl
 exact ⟨hr,h.gl,by rw [h1]; exact k.owns h.sg (fun b hb hm=>by have:=(h.sg.lt b hb).1; have:=hg b hm; omega),h.bs.pass k (fun x hx=>Or.inl (hg x hx)),by rw [h2]; exact h.eq,h3,h4,h5⟩
theorem xb9b (l:List (Nat × List En)) (i:Nat) (h:i < l.length):cntB (l.take (i + 1)) = cntB (l.take i) + l[i].2.length:=by
 unfold cntB
 rw [List.take_succ_eq_append_getElem h,List.map_append,List.sum_append]
 simp only [List.map_cons,List.map_nil,List.sum_cons,List.sum_nil,Nat.add_zero]
theorem xb4l {o:Oper} {a:Act} {w:World} {K:Act→World→Prop} {Q:Exit→Act→World→Prop} (T:Nat) (s x:Operand)
  (ho:o.op = .call { callee:=.builtin .append,args:=#[s,x],argTypes:=#[T,T] }) (hty:o.type = T) (v y:Value) (he:a.eval s = v) (hx:a.eval x = y) (u:Value) (w2:World) (hrun:(Builtin.append_ #[T,T] T #[v,y]).run Tryz.prog w = .ok u w2) (hK:K (a.put o.dst u) w2):o.wp Tryz.prog a w K Q:=by
 unfold Oper.wp execOp
 simp only [ho,hty,resolve,invoke,builtin,Sem.run_bind,Sem.run_pure,Result.andThen_ok,List.map_toArray,List.map_cons,List.map_nil,he,hx,hrun]
 exact hK
set_option maxHeartbeats 8000000 in
theorem xc0x (g a b c u:Nat) (z:Int) (s:List UInt8) (f:FSt) (sv bv v2:Value) (ts ss:List (Nat × Value × List En)) (w0 w1 wR w:World) (M:List Nat) (h:FK w0 w g f sv bv ts) (hk:Kept [g] w0 w) (h2:OwnB w1 wR v2 ss) (k:Kept M wR w) (hM:∀ x∈M,x < w1.heap.size∨wR.heap.size≤x) (h01:w0.heap.size≤w1.heap.size) (hv:∀ x,bv.ownBlock = some x→x < w1.heap.size) (hX:∀ x,sv.ownBlock = some x→x < w1.heap.size)
  (hb:b < 18446744073709551616) (hl:ts.length + ss.length≤1000000000000) (hl2:f.sg.length≤1000000000) :
  Calls Tryz.prog 90 #[.pointer (some ⟨g,0,none⟩),.string (strU s),.agg #[.int .u64 (a:Int),.int .u64 (b:Int),.int .u64 (c:Int),.int .i64 z,v2,.int .i64 (u:Int)]] w fun e w'=>∃ sv' bv',e = .returned (.tuple #[])∧FK w0 w' g ⟨f.last,b,(f.sz + cntB (ss.map fun t=>(t.1,t.2.2))) % 18446744073709551616,f.sg++[s],f.bs++ss.map fun t=>(t.1,t.2.2)⟩ sv' bv' (ts++ss)∧Kept [g] w0 w':=by
 obtain ⟨a2,c2,rfl⟩:=xa0q h2.own
 obtain ⟨sa,sc,rfl⟩:=xa0q h.sg
 obtain ⟨ba,bc,rfl⟩:=h.bs.shape
 have hgw:g < w.heap.size:=lt_of_block h.row
 have k1:=(Kept.refl [] w).alloc (.cells #[.int .u64 (a:Int),.int .u64 (b:Int),.int .u64 (c:Int),.int .i64 z,.slice a2 ss.length c2,.int .i64 (u:Int)] 55)
 have hq:=heap_alloc_new w (.cells #[.int .u64 (a:Int),.int .u64 (b:Int),.int .u64 (c:Int),.int .i64 z,.slice a2 ss.length c2,.int .i64 (u:Int)] 55)
 have hr1:=k1.heap h.row (by simp)
 obtain ⟨s0,s1,s2,s3,s4,s5⟩:=scells hq
 obtain ⟨d0,d1,d2,d3,d4⟩:=xa0v hr1
 obtain ⟨z0,z1,z2,z3,z4⟩:=ffroz hr1
 have H:=hide h
 have HK:=hide hk
 have H2:=hide h2
 have HKR:=hide k
 have HM:=hide hM
 have HV:=hide hv
 have HX:=hide hX
 have HK1:=hide k1
 have HQ:=hide hq
 have HR1:=hide hr1
 have HGW:=hide hgw
 have HSZ:=hide k.size
 clear h hk h2 k hM hv hX k1 hq hr1 hgw
 go_enter Tryz.func90,Tryz.ntmps90
 go_upto_region 2 with fail
 have hS:=heap_setCell_same _ g 1 _ _ (.int .u64 (b:Int)) (uh HR1)
 have kS:=(Kept.refl [g] (w.alloc (.cells #[.int .u64 (a:Int),.int .u64 (b:Int),.int .u64 (c:Int),.int .i64 z,.slice a2 ss.length c2,.int .i64 (u:Int)] 55))).setCell (p:=⟨g,1,none⟩) (.inl (by simp)) (.int .u64 (b:Int))
 have hS2:((w.alloc (.cells #[.int .u64 (a:Int),.int .u64 (b:Int),.int .u64 (c:Int),.int .i64 z,.slice a2 ss.length c2,.int .i64 (u:Int)] 55)).setCell ⟨g,1,none⟩ (.int .u64 (b:Int))).heap[g]? = some (.cells (fdC ⟨f.last,b,f.sz,f.sg,f.bs⟩ (.slice sa f.sg.length sc) (.slice ba ts.length bc)) 125 (0,0)):=by rw [hS]; rfl
 have HF2:=hide (((uh H).pass (uh HK1)).turn kS hS2 rfl rfl (uh H).last hb (uh H).szb)
 have HQ2:=hide (kS.heap (uh HQ) (by intro hm; have:=List.mem_singleton.1 hm; have:=uh HGW; omega))
 have HK2:=hide (((uh HK1).mono (M:=[g]) (by simp)).trans kS (by simp))
 clear hS hS2 kS s0 s1 s2 s3 s4 s5 d0 d1 d2 d3 d4 z0 z1 z2 z3 z4
 generalize (w.alloc (.cells #[.int .u64 (a:Int),.int .u64 (b:Int),.int .u64 (c:Int),.int .i64 z,.slice a2 ss.length c2,.int .i64 (u:Int)] 55)).setCell ⟨g,1,none⟩ (.int .u64 (b:Int)) = W2 at HF2 HQ2 HK2 ⊢
 obtain ⟨d0,d1,d2,d3,d4⟩:=xa0v (uh HF2).row
 have HK3:=hide ((Kept.refl [] W2).alloc (.cells #[.string (strU s)] 9))
 have HN3:=hide (xc5d (heap_alloc_new W2 (.cells #[.string (strU s)] 9)))
 have HF3:=hide ((uh HF2).pass (uh HK3))
 have HZ3:=hide (by have:=lt_of_block (uh HF2).row; exact (uh HF3).gl:g < w0.heap.size)
 go_upto_region 3 with (at_builtin; refine xa1a rfl 47 9 (.tmp 18) (.tmp 20) rfl rfl _ w0.heap.size (.string ⟨#[]⟩) 1 16 Tryz.underlying47 Tryz.infoStr rfl (by decide) (.slice sa f.sg.length sc) f.sg.length (f.sg.map encStr) (uh HF3).sg (some ⟨W2.heap.size,0,none⟩) 1 1 [[.string (strU s)]] (uh HN3) (by simp) (by simp [Value.oneCell']) (by omega) (by omega) (uh HF3).bs.sz rfl rfl ?_; intro a5 cap5 w5 HO5 HGR5 HA5; (have HKA:=hide ((Kept.refl ((Value.slice sa f.sg.length sc).ownBlock.toList) _).grown (uh HGR5) (by intro k hk; left; simp [hk]))); (have HR5:=hide ((uh HKA).heap (uh HF3).row (by intro hm; have h9:=((uh HF3).sg.lt g (by simpa using hm)).1; have:=uh HZ3; omega))); (obtain ⟨e0,e1,e2,e3,e4⟩:=xa0v (uh HR5)); (obtain ⟨z0,z1,z2,z3,z4⟩:=ffroz (uh HR5)))
 have hS:=heap_setCell_same _ g 3 _ _ (.slice a5 (f.sg.length + 1) cap5) (uh HR5)
 have kS:=(Kept.refl [g] w5).setCell (p:=⟨g,3,none⟩) (.inl (by simp)) (.slice a5 (f.sg.length + 1) cap5)
 have hS2:(w5.setCell ⟨g,3,none⟩ (.slice a5 (f.sg.length + 1) cap5)).heap[g]? = some (.cells (fdC ⟨f.last,b,f.sz,f.sg++[s],f.bs⟩ (.slice a5 (f.sg.length + 1) cap5) (.slice ba ts.length bc)) 125 (0,0)):=by rw [hS]; rfl
 have hoX:=(uh HF3).bs.pass (uh HKA) (fun x hx=>Or.inr hx)
 have hoY:OwnX (Value.slice a5 (f.sg.length + 1) cap5).ownBlock.toList w0 w5 (.slice ba ts.length bc) ts:=hoX.turn (n:=(W2.alloc (.cells #[.string (strU s)] 9)).heap.size) (fun x hx=>by
  rcases uh HA5 with h9 | h9
  ·rw [h9] at hx; exact Or.inl hx
  ·rw [h9] at hx; simp only [Option.toList_some,List.mem_singleton] at hx; exact Or.inr (by omega)) rfl (uh HF3).bs (uh HKA)
 have hgl:=(uh HF3).gl
 have HF6:=hide (⟨hS2,hgl,by
   have h9:=uh HO5
   rw [List.length_append,List.map_append]
   refine kS.owns h9 (fun x hx hm=>?_)
   have:=(h9.lt x hx).1
   have:=List.mem_singleton.1 hm
   omega,hoY.pass kS (fun x hx=>Or.inl (by rw [List.mem_singleton.1 hx]; exact hgl)),(uh H).eq,(uh H).last,hb,(uh H).szb⟩:FK w0 (w5.setCell ⟨g,3,none⟩ (.slice a5 (f.sg.length + 1) cap5)) g ⟨f.last,b,f.sz,f.sg++[s],f.bs⟩ (.slice a5 (f.sg.length + 1) cap5) (.slice ba ts.length bc) ts)
 have HX6:=hide (fun x hx=>by
   rcases uh HA5 with h9 | h9
   ·rw [h9] at hx; exact Or.inl (uh HX x hx)
   ·rw [h9] at hx
    have h8:=(uh HK2).size
    have h7:=(uh HKR).size
    simp only [Option.some.injEq] at hx
    have h6:(W2.alloc (.cells #[.string (strU s)] 9)).heap.size = W2.heap.size + 1:=by simp
    exact Or.inr (by omega):∀ x,(Value.slice a5 (f.sg.length + 1) cap5).ownBlock = some x→x < w1.heap.size∨wR.heap.size≤x)
 have kA5:Kept (Value.slice sa f.sg.length sc).ownBlock.toList W2 w5:=((uh HK3).mono (by simp)).trans (uh HKA) (fun x hx=>Or.inl hx)
 have HQ6:=hide (kS.heap (kA5.heap (uh HQ2) (by
   intro hm
   have h9:=((uh HF2).sg.lt w.heap.size (by simpa using hm)).2
   have h8:=uh HX w.heap.size (by simpa using hm)
   have h7:=(uh HKR).size
   have h6:=(uh H2).sz
   omega)) (by intro hm; have:=List.mem_singleton.1 hm; have:=uh HGW; omega))
 have HK6:=hide (by
   have h9:Kept (g :: (Value.slice sa f.sg.length sc).ownBlock.toList) w (w5.setCell ⟨g,3,none⟩ (.slice a5 (f.sg.length + 1) cap5)):=(((uh HK2).mono (M:=g :: (Value.slice sa f.sg.length sc).ownBlock.toList) (by simp)).trans kA5 (fun x hx=>Or.inl (by simp [hx]))).trans kS (fun x hx=>Or.inl (by simp at hx; simp [hx]))
   exact h9)
 have HKW6:=hide ((uh HK).trans (uh HK6) (fun x hx=>by
   rcases List.mem_cons.1 hx with rfl | hx
   ·exact Or.inl (by simp)
   ·exact Or.inr ((uh HF2).sg.lt x (by simpa using hx)).1):Kept [g] w0 (w5.setCell ⟨g,3,none⟩ (.slice a5 (f.sg.length + 1) cap5)))
 have HR6:=hide ((uh HKR).mono (M:=M++(g :: (Value.slice sa f.sg.length sc).ownBlock.toList)) (fun x hx=>by simp [hx]) |>.trans (uh HK6) (fun x hx=>Or.inl (by simp at hx; simp [hx])))
 have HM6:=hide (fun x hx=>by
   rcases List.mem_append.1 hx with hx | hx
   ·exact uh HM x hx
   ·rcases List.mem_cons.1 hx with rfl | hx
    ·exact Or.inl (by omega)
    ·exact Or.inl (uh HX x (by simpa using hx)):∀ x∈M++(g :: (Value.slice sa f.sg.length sc).ownBlock.toList),x < w1.heap.size∨wR.heap.size≤x)
 clear hS hS2 kS hoX hoY kA5 d0 d1 d2 d3 d4 e0 e1 e2 e3 e4 z0 z1 z2 z3 z4 HF2 HF3 HO5 HGR5 HKA HR5 HK3 HN3 HQ2 HK2 HA5 HKR HM HX HK HQ HR1 HK1
 generalize (M++(g :: (Value.slice sa f.sg.length sc).ownBlock.toList)) = M6 at HR6 HM6
 generalize w5.setCell ⟨g,3,none⟩ (.slice a5 (f.sg.length + 1) cap5) = W6 at HF6 HQ6 HK6 HKW6 HR6 ⊢
 obtain ⟨d0,d1,d2,d3,d4⟩:=xa0v (uh HF6).row
 obtain ⟨s0,s1,s2,s3,s4,s5⟩:=scells (uh HQ6)
 have HQL:=hide (by intro x hx; have h9:=uh HV x hx; have h8:=(uh H2).sz; have h7:=uh HSZ; omega:∀ x,(Value.slice ba ts.length bc).ownBlock = some x→x≠w.heap.size)
 have HGB:=hide (by intro hm; have h9:=((uh HF6).bs.own.lt g (by simpa using hm)).1; have:=(uh HF6).gl; omega:g∉(Value.slice ba ts.length bc).ownBlock.toList)
 refine wp_c11 (by kernel_rfl) (by kernel_rfl) (by kernel_rfl) (by kernel_rfl) (by kernel_rfl) (by kernel_rfl) (by kernel_rfl) (by kernel_rfl) (by kernel_rfl) (by kernel_rfl) (by kernel_rfl) (by kernel_rfl) (by kernel_rfl) (by kernel_rfl) (by kernel_rfl) (by kernel_rfl) (by kernel_rfl) (by kernel_rfl) (by kernel_rfl) (by kernel_rfl) (by kernel_rfl) (by kernel_rfl) (by kernel_rfl) (by kernel_rfl) rfl (by kernel_rfl) rfl (by kernel_rfl) rfl (by kernel_rfl) rfl (by kernel_rfl)
  (.pointer (some ⟨g,0,none⟩)) (.pointer (some ⟨g,0,none⟩)) (.pointer (some ⟨g,0,none⟩)) (.pointer (some ⟨g,4,none⟩)) (.slice ba ts.length bc) (.pointer (some ⟨w.heap.size,4,none⟩)) (.slice a2 ss.length c2) _ _ _ _ _ _ _
  (fun w'=>Kept (Value.slice ba ts.length bc).ownBlock.toList W6 w')
  (fun w'=>Kept [] W6 w')
  (fun u0 w'=>∃ a8 cap8 wq,u0 = .slice a8 (ts.length + ss.length) cap8∧Kept [] W6 wq∧w'.ownsRow w0.heap.size 75 2 u0 (ts.length + ss.length) (cellsB ts++cellsB ss)∧wq.grownBy w' (Value.slice ba ts.length bc).ownBlock∧(u0.ownBlock = (Value.slice ba ts.length bc).ownBlock∨u0.ownBlock = some wq.heap.size))
  (fun u0 u1 w'=>u1 = .pointer (some ⟨g,0,none⟩)∧∃ a8 cap8 wq,u0 = .slice a8 (ts.length + ss.length) cap8∧Kept [] W6 wq∧w'.ownsRow w0.heap.size 75 2 u0 (ts.length + ss.length) (cellsB ts++cellsB ss)∧wq.grownBy w' (Value.slice ba ts.length bc).ownBlock∧(u0.ownBlock = (Value.slice ba ts.length bc).ownBlock∨u0.ownBlock = some wq.heap.size))
  (fun u0 u1 u2 w'=>u2 = .pointer (some ⟨g,4,none⟩)∧∃ a8 cap8 wq,u0 = .slice a8 (ts.length + ss.length) cap8∧Kept [] W6 wq∧w'.ownsRow w0.heap.size 75 2 u0 (ts.length + ss.length) (cellsB ts++cellsB ss)∧wq.grownBy w' (Value.slice ba ts.length bc).ownBlock∧(u0.ownBlock = (Value.slice ba ts.length bc).ownBlock∨u0.ownBlock = some wq.heap.size))
  (fun u0 u1 u2 w'=>∃ a8 cap8 wq w8,u0 = .slice a8 (ts.length + ss.length) cap8∧Kept [] W6 wq∧w8.ownsRow w0.heap.size 75 2 u0 (ts.length + ss.length) (cellsB ts++cellsB ss)∧wq.grownBy w8 (Value.slice ba ts.length bc).ownBlock∧(u0.ownBlock = (Value.slice ba ts.length bc).ownBlock∨u0.ownBlock = some wq.heap.size)∧w' = w8.setCell ⟨g,4,none⟩ u0)
  (by simp only [Act.put,sa1,sa2,sa3]; rfl) (by exact Or.inl ⟨by rfl,fun W' hW'=>by go_simp⟩)
  (by simp only [Act.put,sa1,sa2,sa3]; rfl) (by exact Or.inl ⟨by rfl,fun W' hW'=>by go_simp⟩)
  (by simp only [Act.put,sa1,sa2,sa3]; rfl) (by exact Or.inl ⟨by rfl,fun W' hW'=>by go_simp⟩)
  (by simp only [Act.put,sa1,sa2,sa3]; rfl) (by exact Or.inl ⟨by rfl,fun W' hW'=>by go_simp⟩)
  (by simp only [Act.put,sa1,sa2,sa3]; rfl) (by exact Or.inl ⟨by rfl,fun W' hW'=>by have h90:=hW'.cell d4 (uh HGB); go_simp⟩)
  (by simp only [Act.put,sa1,sa2,sa3]; rfl) (by exact Or.inl ⟨by rfl,fun W' hW'=>by go_simp⟩)
  (by simp only [Act.put,sa1,sa2,sa3]; rfl) (by exact Or.inl ⟨by rfl,fun W' hW'=>by have h90:=hW'.cell s4 (by intro hm; exact uh HQL _ (by simpa using hm) rfl); go_simp⟩)
  (Kept.refl [] W6).drew
  ⟨fun w' h=>h.mono (by simp),fun u0 w' h=>by obtain ⟨a8,cap8,wq,_,h1,_,h2,_⟩:=h; exact (h1.mono (by simp)).grown h2 (by intro k hk; left; simp [hk]),fun u0 u1 w' h=>by obtain ⟨_,a8,cap8,wq,_,h1,_,h2,_⟩:=h; exact (h1.mono (by simp)).grown h2 (by intro k hk; left; simp [hk]),fun u0 u1 u2 w' h=>by obtain ⟨_,a8,cap8,wq,_,h1,_,h2,_⟩:=h; exact (h1.mono (by simp)).grown h2 (by intro k hk; left; simp [hk])⟩
  (by
   intro w' k K hK
   have hB7:=(uh H2).stay ((uh HR6).trans k (by simp)) (uh HM6)
   have hF7:=(uh HF6).pass k
   obtain ⟨a8,cap8,w8,hrun,h8,hg8,ha8⟩:=appendC w' w0.heap.size 42 75 (.agg #[.int .u64 0,.slice none 0 0]) 2 32 Tryz.underlying42 Tryz.infoBt rfl (by decide) (.slice ba ts.length bc) ts.length (cellsB ts) hF7.bs.own a2 ss.length c2 (ss.map rowB) hB7.rdC (xa8a ss) hB7.oneC (by omega) (by omega) hF7.bs.sz
   rw [xa2w] at h8
   have hK2:=hK _ _ ⟨a8,cap8,w',rfl,k,h8,hg8,ha8⟩
   clear hK
   simp only [Act.put,sa1,sa2,sa3] at hK2 ⊢
   exact xb4l 42 (.tmp 28) (.tmp 30) rfl rfl (.slice ba ts.length bc) (.slice a2 ss.length c2) rfl rfl _ _ hrun hK2)
  (by rintro u0 w' ⟨a8,cap8,wq,rfl,h1,h2,h3,h4⟩ K hK; unfold Oper.wp execOp; go_simp; exact hK _ _ ⟨rfl,a8,cap8,wq,rfl,h1,h2,h3,h4⟩)
  (by rintro u0 u1 w' ⟨rfl,a8,cap8,wq,rfl,h1,h2,h3,h4⟩ K hK; unfold Oper.wp execOp; go_simp; exact hK _ _ ⟨rfl,a8,cap8,wq,rfl,h1,h2,h3,h4⟩)
  (by
   rintro u0 u1 u2 w' ⟨rfl,a8,cap8,wq,rfl,h1,h2,h3,h4⟩ K hK
   have kk:Kept (Value.slice ba ts.length bc).ownBlock.toList W6 w':=(h1.mono (by simp)).grown h3 (by intro k hk; left; simp [hk])
   have hr9:=kk.heap (uh HF6).row (uh HGB)
   have hw9:=(xa0v hr9).2.2.2.2
   have hz9:=(ffroz hr9).2.2.2.2
   unfold Oper.wp execOp
   go_simp
   exact hK _ ⟨a8,cap8,wq,w',rfl,h1,h2,h3,h4,rfl⟩)
  ?_
 rintro u0 u1 u2 w9 ⟨a8,cap8,wq,w8,rfl,kq,ho8,gr8,ha8,rfl⟩
 simp only [Act.put,sa1,sa2,sa3]
 have kk:Kept (Value.slice ba ts.length bc).ownBlock.toList W6 w8:=(kq.mono (by simp)).grown gr8 (by intro k hk; left; simp [hk])
 have hr8:=kk.heap (uh HF6).row (uh HGB)
 have kS:=(Kept.refl [g] w8).setCell (p:=⟨g,4,none⟩) (.inl (by simp)) (.slice a8 (ts.length + ss.length) cap8)
 have hS2:(w8.setCell ⟨g,4,none⟩ (.slice a8 (ts.length + ss.length) cap8)).heap[g]? = some (.cells (fdC ⟨f.last,b,f.sz,f.sg++[s],f.bs++ss.map fun t=>(t.1,t.2.2)⟩ (.slice a5 (f.sg.length + 1) cap5) (.slice a8 (ts.length + ss.length) cap8)) 125 (0,0)):=by rw [heap_setCell_same _ g 4 _ _ _ hr8]; rfl
 have hgl:=(uh HF6).gl
 have hFq:=(uh HF6).pass kq
 have hcat:=hFq.bs.cat (uh H2) ((uh HR6).trans kq (by simp)) (uh HM6) h01 (uh HV) (fun x hx=>uh HX6 x (by simpa using hx)) (fun x hx=>(hFq.sg.lt x (by simpa using hx)).2) ho8 gr8 ha8
 have kA:Kept (Value.slice ba ts.length bc).ownBlock.toList wq w8:=(Kept.refl _ wq).grown gr8 (by intro k hk; left; simp [hk])
 have hsg8:=kA.owns hFq.sg (fun x hx hm=>hFq.bs.ap x (by simpa using hm) (by simpa using hx))
 have HF9:=hide (⟨hS2,hgl,kS.owns hsg8 (fun x hx hm=>by have:=(hsg8.lt x hx).1; have:=List.mem_singleton.1 hm; omega),hcat.pass kS (fun x hx=>Or.inl (by rw [List.mem_singleton.1 hx]; exact hgl)),by rw [(uh H).eq,List.map_append],(uh H).last,hb,(uh H).szb⟩:FK w0 (w8.setCell ⟨g,4,none⟩ (.slice a8 (ts.length + ss.length) cap8)) g ⟨f.last,b,f.sz,f.sg++[s],f.bs++ss.map fun t=>(t.1,t.2.2)⟩ (.slice a5 (f.sg.length + 1) cap5) (.slice a8 (ts.length + ss.length) cap8) (ts++ss))
 have k69:Kept (g :: (Value.slice ba ts.length bc).ownBlock.toList) W6 (w8.setCell ⟨g,4,none⟩ (.slice a8 (ts.length + ss.length) cap8)):=(kk.mono (fun x hx=>by simp [hx])).trans kS (fun x hx=>Or.inl (by simp at hx; simp [hx]))
 have HKW9:=hide ((uh HKW6).trans k69 (fun x hx=>by
   rcases List.mem_cons.1 hx with rfl | hx
   ·exact Or.inl (by simp)
   ·exact Or.inr (hFq.bs.own.lt x (by simpa using hx)).1))
 have HQ9:=hide (k69.heap (uh HQ6) (by
   intro hm
   rcases List.mem_cons.1 hm with h9 | h9
   ·have:=uh HGW; omega
   ·exact uh HQL _ (by simpa using h9) rfl))
 have HB9:=hide ((uh H2).stay (((uh HR6).mono (M:=M6++(g :: (Value.slice ba ts.length bc).ownBlock.toList)) (fun x hx=>by simp [hx])).trans k69 (fun x hx=>Or.inl (by simp at hx; simp [hx]))) (fun x hx=>by
   rcases List.mem_append.1 hx with hx | hx
   ·exact uh HM6 x hx
   ·rcases List.mem_cons.1 hx with rfl | hx
    ·exact Or.inl (by omega)
    ·exact Or.inl (uh HV x (by simpa using hx))))
 clear kk hr8 kS hS2 hFq hcat kA hsg8 k69 d0 d1 d2 d3 d4 s0 s1 s2 s3 s4 s5 kq ho8 gr8 ha8 HF6 HQ6 HK6 HKW6 HR6 HM6 HX6 HQL HGB H2 HV
 generalize w8.setCell ⟨g,4,none⟩ (.slice a8 (ts.length + ss.length) cap8) = W9 at HF9 HKW9 HQ9 HB9 ⊢
 obtain ⟨s0,s1,s2,s3,s4,s5⟩:=scells (uh HQ9)
 go_wp2_with fail
 clear s0 s1 s2 s3 s4 s5
 go_loopw [37] (fun t37 wr=>∃ i:Nat,i≤ss.length∧t37 = .int .i64 (i:Int)∧Hid (FK w0 wr g ⟨f.last,b,(f.sz + cntB ((ss.map fun t=>(t.1,t.2.2)).take i)) % 18446744073709551616,f.sg++[s],f.bs++ss.map fun t=>(t.1,t.2.2)⟩ (.slice a5 (f.sg.length + 1) cap5) (.slice a8 (ts.length + ss.length) cap8) (ts++ss))∧Hid (Kept [g] w0 wr)∧Hid (OwnB w1 wr (.slice a2 ss.length c2) ss)) (fun t _=>ss.length - (intOf t).toNat)
 case atStart=>exact ⟨0,Nat.zero_le _,rfl,hide (by have h9:=uh HF9; rw [List.take_zero,show cntB [] = 0 from rfl,Nat.add_zero,Nat.mod_eq_of_lt (uh H).szb]; exact h9),HKW9,HB9⟩
 case round =>
  obtain ⟨i,hi,rfl,HF,HK,HB⟩:=hrel
  by_cases hlt:i < ss.length
  ·have hlt':(i:Int) < ss.length:=by omega
   have hmi:i < (ss.map fun t=>(t.1,t.2.2)).length:=by rw [List.length_map]; exact hlt
   have HCN:=hide (xb9b (ss.map fun t=>(t.1,t.2.2)) i hmi)
   rw [List.getElem_map] at HCN
   obtain ⟨qa,ql,qc,hq1,hq2,hq3,hq4,hq5⟩:=(uh HB).rdC
   injection hq1 with e1 e2 e3
   subst e1 e2 e3
   obtain ⟨b2,o2,rfl,hcc⟩:=hq5 (by omega)
   have hri:=hcc i (by rw [List.length_map]; exact hlt)
   rw [List.getElem_map] at hri
   have hrn:=(uh HB).rdN ss[i] (List.getElem_mem hlt)
   generalize ss[i] = X at hri hrn HCN
   obtain ⟨pl,y,es⟩:=X
   dsimp only at hrn HCN
   obtain ⟨ea,en,ec,kv,vv,rfl,hen,hecn,hecm,_⟩:=hrn
   subst hen
   have x0:=hri 0 _ rfl
   have x1:=hri 1 _ rfl
   simp only [Nat.add_zero] at x0
   have HLE:=hide (by omega:es.length≤9223372036854775807)
   clear hcc hri hq2 hq3 hq4 hq5 hmi hecn hecm
   have ha1:IntKind.i64.wrap ((i:Int) + 1) = (i:Int) + 1:=by rw [IntKind.wrap_i64]; omega
   go_upto_region 7 with fail
   have k1:=(Kept.refl [] wr).alloc (.cells #[.int .u64 (pl:Int),.slice ea es.length ec] 75)
   have hh1:=heap_alloc_new wr (.cells #[.int .u64 (pl:Int),.slice ea es.length ec] 75)
   have HF1:=hide ((uh HF).pass k1)
   have HK1:=hide ((uh HK).trans k1 (by simp))
   have HB1:=hide ((uh HB).stay k1 (by simp))
   clear x0 x1
   obtain ⟨W1,hW1⟩:∃ W,wr.alloc (.cells #[.int .u64 (pl:Int),.slice ea es.length ec] 75) = W:=⟨_,rfl⟩
   rw [hW1] at HF1 HK1 HB1 hh1 ⊢
   clear hW1 k1 HF HK HB
   obtain ⟨y0,y1⟩:=bcells hh1
   obtain ⟨d0,d1,d2,d3,d4⟩:=xa0v (uh HF1).row
   dsimp only at d2
   have hw2:IntKind.u64.wrap (es.length:Int) = (es.length:Int):=by rw [IntKind.wrap_u64]; have:=uh HLE; omega
   have hw3:IntKind.u64.wrap ((((f.sz + cntB ((ss.map fun t=>(t.1,t.2.2)).take i)) % 18446744073709551616:Nat):Int) + (es.length:Int)) = (((f.sz + cntB ((ss.map fun t=>(t.1,t.2.2)).take (i + 1))) % 18446744073709551616:Nat):Int):=by
    rw [IntKind.wrap_u64,uh HCN]
    omega
   obtain ⟨SZ,hSZ⟩:∃ SZ,(f.sz + cntB ((ss.map fun t=>(t.1,t.2.2)).take i)) % 18446744073709551616 = SZ:=⟨_,rfl⟩
   obtain ⟨SZ2,hSZ2⟩:∃ SZ2,(f.sz + cntB ((ss.map fun t=>(t.1,t.2.2)).take (i + 1))) % 18446744073709551616 = SZ2:=⟨_,rfl⟩
   rw [hSZ,hSZ2] at hw3
   rw [hSZ] at d2 HF1
   have HSZ2:=hide hSZ2
   have HS2B:=hide (by rw [← hSZ2]; exact Nat.mod_lt _ (by omega):SZ2 < 18446744073709551616)
   clear hSZ hSZ2 hh1 d0 d1 d3 d4 HCN
   refine xa0g 9 (by kernel_rfl) (by kernel_rfl) ?_
   simp only [List.take_succ_cons,List.take_zero,List.drop_succ_cons,List.drop_zero]
   repeat (go_big_quiet_step (fail))
   refine wpQuiet_nil ?_
   rintro _ ⟨n5,rfl⟩
   have kD:Kept [] W1 (W1.drewN n5):=(Kept.refl [] W1).drewN n5
   have HF2:=hide ((uh HF1).pass kD)
   have HK2:=hide ((uh HK1).trans kD (by simp))
   have HB2:=hide ((uh HB1).stay kD (by simp))
   clear kD y0 y1 d2 HF1 HK1 HB1
   generalize W1.drewN n5 = W3 at HF2 HK2 HB2 ⊢
   obtain ⟨d0,d1,d2,d3,d4⟩:=xa0v (uh HF2).row
   obtain ⟨z0,z1,z2,z3,z4⟩:=ffroz (uh HF2).row
   dsimp only at d2
   have hS2:(W3.setCell ⟨g,2,none⟩ (.int .u64 (SZ2:Int))).heap[g]? = some (.cells (fdC ⟨f.last,b,SZ2,f.sg++[s],f.bs++ss.map fun t=>(t.1,t.2.2)⟩ (.slice a5 (f.sg.length + 1) cap5) (.slice a8 (ts.length + ss.length) cap8)) 125 (0,0)):=by rw [heap_setCell_same _ g 2 _ _ _ (uh HF2).row]; rfl
   have kS:=(Kept.refl [g] W3).setCell (p:=⟨g,2,none⟩) (.inl (by simp)) (.int .u64 (SZ2:Int))
   have HF3:=hide ((uh HF2).turn kS hS2 rfl rfl (uh HF2).last (uh HF2).ep (uh HS2B))
   have HK3:=hide ((uh HK2).trans kS (fun x hx=>Or.inl hx))
   have HB3:=hide ((uh HB2).stay kS (fun x hx=>Or.inl (by rw [List.mem_singleton.1 hx]; have:=(uh HF2).gl; omega)))
   clear hS2 kS
   go_wp2_with fail
   go_roundw
   case rel=>exact ⟨i + 1,by omega,by simp,hide (by rw [uh HSZ2]; exact uh HF3),HK3,HB3⟩
   case measure=>simp [intOf]; omega
  ·have hlt':¬ (i:Int) < ss.length:=by omega
   have hie:i = ss.length:=by omega
   subst hie
   have hfin:=uh HF
   rw [List.take_of_length_le (by rw [List.length_map]; exact Nat.le_refl _)] at hfin
   have HFI:=hide hfin
   clear hfin
   go_wp2_with fail
   refine bodyPost_end (v:=.tuple #[]) (results_none rfl _ _ _) rfl ⟨rfl,⟨_,_,uh HFI⟩,uh HK⟩
end
section
open Go.RowKit Go.BigFrame
theorem rdL_le:∀ (k:Nat) (p:List Nat) (z i:Nat),(rdL k p z i).1.length≤k
 | 0,p,z,i=>by simp [rdL]
 | k + 1,p,z,i=>by
  rw [rdL]
  split
  ·have:=rdL_le k p (rbN p z i).toNat ((i + (rbE p z i).length) % 18446744073709551616)
   simp only [List.length_cons]
   omega
  ·simp
theorem sgB_le (p:List Nat):(sgB p).length≤p.length:=by
 unfold sgB
 split
 ·exact rdL_le _ _ _ _
 ·simp
def rdT (σ:DSt) (l:List (List UInt8)):Nat:=(l.map fun s=>(stRead σ (strU s)).1.length).sum
theorem xc3b (σ:DSt) (s:List UInt8) (l:List (List UInt8)):rdT σ (s :: l) = (stRead σ (strU s)).1.length + rdT σ l:=by simp [rdT]
def totA (A:List DF):Nat:=(A.map fun f=>f.bs.length).sum
theorem xb0x {A:List DF} (hd:Dist A) {f:DF} (hf:f∈A):findA A f.nm.data.toList = some f:=by
 unfold findA
 have hd2:A.Pairwise fun a b=>a.nm≠b.nm:=hd
 induction hd2 with
 | nil=>simp at hf
 | @cons y l hy hl ih =>
  rcases List.mem_cons.1 hf with rfl | hf
  ·simp
  ·rw [List.find?_cons]
   have hne:(y.nm.data.toList == f.nm.data.toList) = false:=by
    rw [beq_eq_false_iff_ne]
    intro e
    exact hy f hf (ba_ext e)
   rw [hne]
   exact ih hl hf
theorem rdT_le (σ:DSt) (hd:Dist σ.A):rdT σ (nmsOf σ)≤totA σ.A:=by
 unfold rdT nmsOf
 by_cases ho:σ.off = true
 ·rw [if_pos ho]; simp
 ·rw [if_neg ho]
  have hp:(srtN σ.A).Perm (σ.A.map fun f=>f.nm.data.toList):=List.mergeSort_perm _ _
  rw [(hp.map (fun s=>(stRead σ (strU s)).1.length)).sum_nat,List.map_map]
  unfold totA
  apply Nat.le_of_eq
  congr 1
  apply List.map_congr_left
  intro f hf
  simp only [Function.comp]
  unfold stRead
  rw [if_neg ho]
  have h1:(strU f.nm.data.toList).data.toList = f.nm.data.toList:=by simp [strU]
  rw [h1,xb0x hd hf]
theorem xc0c {σ:DSt} {s:List UInt8} (h:s∈nmsOf σ):∃ f∈σ.A,s = f.nm.data.toList:=by
 unfold nmsOf at h
 by_cases ho:σ.off = true
 ·rw [if_pos ho] at h; simp at h
 ·rw [if_neg ho] at h
  have hp:(srtN σ.A).Perm (σ.A.map fun f=>f.nm.data.toList):=List.mergeSort_perm _ _
  obtain ⟨f,hf,e⟩:=List.mem_map.1 (hp.mem_iff.1 h)
  exact ⟨f,hf,e.symm⟩
theorem xb9u (σ:DSt):(nmsOf σ).length≤σ.A.length:=by
 unfold nmsOf
 split
 ·simp
 ·have hp:(srtN σ.A).Perm (σ.A.map fun f=>f.nm.data.toList):=List.mergeSort_perm _ _
  rw [hp.length_eq,List.length_map]
  exact Nat.le_refl _
theorem hd_lt (p:List Nat):(hdC p).a < 18446744073709551616∧(hdC p).b < 18446744073709551616∧(hdC p).c < 18446744073709551616:=by
 unfold hdC hdF
 split
 ·simp
 ·split
  ·exact ⟨beL_lt _,beL_lt _,beL_lt _⟩
  ·simp
theorem nbU_lt (l:List Nat):nbU l < 18446744073709551616:=by
 unfold nbU
 split
 ·exact dv_lt _ 0 (by omega)
 ·omega
def dH (sec:Nat) (op:Int) (A:List DF):DSt:=⟨sec,0,op,false,fun _=>none,A⟩
theorem opE_h (op:Int) (own:Nat) (h:0≤op):opE (fun _=>none) 0 op own = own:=by
 unfold opE
 rw [if_neg (by omega)]
 by_cases h0:own = 0
 ·simp [h0]
 ·simp [h0]
theorem tick_h (sec:Nat) (op:Int) (A C:List DF) (h:0≤op):tick (dH sec op A) C = dH sec (op + 1) C:=by
 unfold tick dH
 simp only [DSt.mk.injEq,true_and,and_true]
 simp
 omega
theorem xc3g {sec:Nat} {op:Int} {A:List DF} {s:ByteArray} (h:0≤op) (hs:isNm s = true) (hn:findA A s.data.toList = none):stCreate (dH sec op A) s = (0,dH sec (op + 1) (A++[⟨s,[],0,false⟩])):=by
 have ho:ownA A s = 0:=by unfold ownA; rw [hs,hn]; rfl
 unfold stCreate
 rw [tick_h sec op A _ h]
 show (if false = true then _ else (opE (fun _=>none) 0 op (ownA A s),_)) = _
 rw [if_neg (by simp),opE_h op _ h]
 show (ownA A s,dH sec (op + 1) (if ownA A s = 0∧opE (fun _=>none) 0 op (ownA A s)≠7 then A++[⟨s,[],0,false⟩] else A)) = _
 rw [opE_h op _ h,ho]
 simp
theorem xb5j {sec:Nat} {op:Int} {A:List DF} {s:ByteArray} (p:List Nat) (h:0≤op) (hn:(findA A s.data.toList).isSome = true):stAppend (dH sec op A) s p = (0,dH sec (op + 1) (upA A s fun f=>{ f with bs:=f.bs++p })):=by
 have hk:appK (dH sec op A) p = p.length:=by
  unfold appK
  show (if opE (fun _=>none) 0 op 0 = 7 then _ else _) = _
  rw [opE_h op 0 h]; simp
 unfold stAppend
 rw [hk,List.take_length,tick_h sec op A _ h,tick_h sec op A _ h]
 show (if false = true then _ else if (findA A s.data.toList).isSome = true then (opE (fun _=>none) 0 op 0,_) else _) = _
 rw [if_neg (by simp),if_pos hn,opE_h op 0 h]
 rfl
theorem sync_h {sec:Nat} {op:Int} {A:List DF} {s:ByteArray} (h:0≤op) (hn:(findA A s.data.toList).isSome = true):stSync (dH sec op A) s = (0,dH sec (op + 1) (upA A s fun f=>{ f with sy:=f.bs.length })):=by
 unfold stSync
 rw [tick_h sec op A _ h,tick_h sec op A _ h]
 show (if false = true then _ else if (findA A s.data.toList).isSome = true then (opE (fun _=>none) 0 op 0,dH sec (op + 1) (if opE (fun _=>none) 0 op 0 = 0 then _ else _)) else _) = _
 rw [if_neg (by simp),if_pos hn,opE_h op 0 h]
 simp
 rfl
theorem xc4r {sec:Nat} {op:Int} {A:List DF} (h:0≤op):stNames (dH sec op A) = (0,dH sec (op + 1) (ndA A)):=by
 unfold stNames
 rw [tick_h sec op A _ h]
 show (if false = true then _ else (opE (fun _=>none) 0 op 0,dH sec (op + 1) (if opE (fun _=>none) 0 op 0 = 0 then _ else _))) = _
 rw [if_neg (by simp),opE_h op 0 h]
 simp
 rfl
theorem xa7j (A:List DF) (s:ByteArray) (F:DF→DF) (x:DF) (hx:x.nm = s) (hA:∀ f∈A,f.nm≠s):upA (A++[x]) s F = A++[F x]:=by
 unfold upA
 rw [List.map_append]
 congr 1
 ·conv=>rhs; rw [← List.map_id A]
  apply List.map_congr_left
  intro f hf
  rw [if_neg (hA f hf)]
  rfl
 ·simp [hx]
theorem xb2f {A:List DF} {s:ByteArray} (h:∀ f∈A,f.nm≠s):findA A s.data.toList = none:=by
 unfold findA
 rw [List.find?_eq_none]
 intro f hf
 simp only [beq_iff_eq]
 intro e
 exact h f hf (ba_ext e)
theorem xa2o {A:List DF} {s:ByteArray} {x:DF} (hx:x.nm = s):(findA (A++[x]) s.data.toList).isSome = true:=by
 unfold findA
 rw [List.find?_isSome]
 exact ⟨x,by simp,by simp [hx]⟩
theorem nmB_ok (n:Nat):isNm (nmB n) = true:=by
 unfold isNm
 rw [xa3x,Bool.and_eq_true]
 refine ⟨by decide,?_⟩
 rw [List.all_eq_true]
 intro b hb
 unfold nmB strB at hb
 simp only [List.mem_map] at hb
 obtain ⟨x,hx,rfl⟩:=hb
 have hx2:x = 115∨x = 101∨x = 103∨x = 45∨(48≤x∧x≤57):=by
  rcases List.mem_append.1 hx with h | h
  ·simp at h; omega
  ·have:=xb1c 20 n x h; omega
 have hm:(UInt8.ofNat x).toNat = x:=by simp; omega
 rw [hm]
 unfold nameB
 simp only [Bool.or_eq_true,decide_eq_true_eq]
 omega
theorem xb3r {sec:Nat} {op:Int} {A:List DF} (n ep fs:Nat) {wd:Int} (h:0≤op) (hw:wideB wd = true) (hA:∀ f∈A,f.nm≠nmB n) :
  stBegin (dH sec op A) n ep fs wd = (0,dH sec (op + 4) (ndA (A++[⟨nmB n,ehB n ep fs wd,48,false⟩]))):=by
 unfold stBegin
 rw [xc3g h (nmB_ok n) (xb2f hA)]
 rw [xb3j (r:=(0,_)) rfl]
 rw [xb5j _ (by omega) (xa2o rfl),xa7j _ _ _ _ rfl hA]
 rw [xb3j (r:=(0,_)) rfl]
 rw [sync_h (by omega) (xa2o rfl),xa7j _ _ _ _ rfl hA]
 rw [xb3j (r:=(0,_)) rfl]
 rw [xc4r (by omega)]
 simp only [List.nil_append,xb4b hw]
 rw [show op + 1 + 1 + 1 + 1 = op + 4 by omega]
end
section
open Go.RowKit Go.BigFrame Go.Maps Go.Sort

theorem DK.old {w w':World} {d nb bb:Nat} {B:List Nat} {σ:DSt} (h:DK w d B nb bb σ) (k:Kept [] w w'):DK w' d B nb bb σ:=h.kept k (by simp)
end
section
open Go Go.RowKit Go.BigFrame
section
variable {P:Program} {Q:Exit→Act→World→Prop}
theorem xc3r {id:Nat} {o0 o1 o2 o3 o4 o5 o6 o7 o8 o9 o10 o11 o12:Oper} {a:Act} {w:World} (hm:P.follows .mixedOrders = true) (hs:Region.noSelect #[o0,o1,o2,o3,o4,o5,o6,o7,o8,o9,o10,o11,o12] = true)
  (f0:Region.free .any #[o0,o1,o2,o3,o4,o5,o6,o7,o8,o9,o10,o11,o12] #[false,false,false,false,false,false,false,false,false,false,false,false,false] 0 = true) (r0:(Region.ready .any #[o0,o1,o2,o3,o4,o5,o6,o7,o8,o9,o10,o11,o12] #[false,false,false,false,false,false,false,false,false,false,false,false,false]).contains 0 = true)
  (f1:Region.free .any #[o0,o1,o2,o3,o4,o5,o6,o7,o8,o9,o10,o11,o12] #[true,false,false,false,false,false,false,false,false,false,false,false,false] 1 = true) (r1:(Region.ready .any #[o0,o1,o2,o3,o4,o5,o6,o7,o8,o9,o10,o11,o12] #[true,false,false,false,false,false,false,false,false,false,false,false,false]).contains 1 = true)
  (f2:Region.free .any #[o0,o1,o2,o3,o4,o5,o6,o7,o8,o9,o10,o11,o12] #[true,true,false,false,false,false,false,false,false,false,false,false,false] 2 = true) (r2:(Region.ready .any #[o0,o1,o2,o3,o4,o5,o6,o7,o8,o9,o10,o11,o12] #[true,true,false,false,false,false,false,false,false,false,false,false,false]).contains 2 = true)
  (f3:Region.free .any #[o0,o1,o2,o3,o4,o5,o6,o7,o8,o9,o10,o11,o12] #[true,true,true,false,false,false,false,false,false,false,false,false,false] 3 = true) (r3:(Region.ready .any #[o0,o1,o2,o3,o4,o5,o6,o7,o8,o9,o10,o11,o12] #[true,true,true,false,false,false,false,false,false,false,false,false,false]).contains 3 = true)
  (f4:Region.free .any #[o0,o1,o2,o3,o4,o5,o6,o7,o8,o9,o10,o11,o12] #[true,true,true,true,false,false,false,false,false,false,false,false,false] 4 = true) (r4:(Region.ready .any #[o0,o1,o2,o3,o4,o5,o6,o7,o8,o9,o10,o11,o12] #[true,true,true,true,false,false,false,false,false,false,false,false,false]).contains 4 = true)
  (f6:Region.free .any #[o0,o1,o2,o3,o4,o5,o6,o7,o8,o9,o10,o11,o12] #[true,true,true,true,true,false,false,false,false,false,false,false,false] 6 = true) (r6:(Region.ready .any #[o0,o1,o2,o3,o4,o5,o6,o7,o8,o9,o10,o11,o12] #[true,true,true,true,true,false,false,false,false,false,false,false,false]).contains 6 = true)
  (f7:Region.free .any #[o0,o1,o2,o3,o4,o5,o6,o7,o8,o9,o10,o11,o12] #[true,true,true,true,true,false,true,false,false,false,false,false,false] 7 = true) (r7:(Region.ready .any #[o0,o1,o2,o3,o4,o5,o6,o7,o8,o9,o10,o11,o12] #[true,true,true,true,true,false,true,false,false,false,false,false,false]).contains 7 = true)
  (f8:Region.free .any #[o0,o1,o2,o3,o4,o5,o6,o7,o8,o9,o10,o11,o12] #[true,true,true,true,true,false,true,true,false,false,false,false,false] 8 = true) (r8:(Region.ready .any #[o0,o1,o2,o3,o4,o5,o6,o7,o8,o9,o10,o11,o12] #[true,true,true,true,true,false,true,true,false,false,false,false,false]).contains 8 = true)
  (f9:Region.free .any #[o0,o1,o2,o3,o4,o5,o6,o7,o8,o9,o10,o11,o12] #[true,true,true,true,true,false,true,true,true,false,false,false,false] 9 = true) (r9:(Region.ready .any #[o0,o1,o2,o3,o4,o5,o6,o7,o8,o9,o10,o11,o12] #[true,true,true,true,true,false,true,true,true,false,false,false,false]).contains 9 = true)
  (q_:Region.ready .any #[o0,o1,o2,o3,o4,o5,o6,o7,o8,o9,o10,o11,o12] #[true,true,true,true,true,false,true,true,true,true,false,false,false] = [5])
  (f_5_10:Region.free .any #[o0,o1,o2,o3,o4,o5,o6,o7,o8,o9,o10,o11,o12] #[true,true,true,true,true,true,true,true,true,true,false,false,false] 10 = true) (r_5_10:(Region.ready .any #[o0,o1,o2,o3,o4,o5,o6,o7,o8,o9,o10,o11,o12] #[true,true,true,true,true,true,true,true,true,true,false,false,false]).contains 10 = true)
  (q5_:Region.ready .any #[o0,o1,o2,o3,o4,o5,o6,o7,o8,o9,o10,o11,o12] #[true,true,true,true,true,true,true,true,true,true,true,false,false] = [11])
  (q5_11_:Region.ready .any #[o0,o1,o2,o3,o4,o5,o6,o7,o8,o9,o10,o11,o12] #[true,true,true,true,true,true,true,true,true,true,true,true,false] = [12])
  (q5_11_12_:Region.ready .any #[o0,o1,o2,o3,o4,o5,o6,o7,o8,o9,o10,o11,o12] #[true,true,true,true,true,true,true,true,true,true,true,true,true] = [])
  (g5:o5.guard = none)    (g11:o11.guard = none)    (g12:o12.guard = none)
  (v0 v1 v2 v3 v4 v6 v7 v8 v9:Value) (A0 A1 A2 A3 A4 A5 A6 A7 A8:Act)
  (S:World→Prop)
  (I_:World→Prop)
  (I5_:Value→World→Prop)
  (I5_11_:Value→Value→World→Prop)
  (I5_11_12_:Value→Value→Value→World→Prop)
  (v10:Value→Value)
  (p0:a.put o0.dst v0 = A0) (hy0:YieldsIf P #[o0,o1,o2,o3,o4,o5,o6,o7,o8,o9,o10,o11,o12] S o0 v0 a)
  (p1:A0.put o1.dst v1 = A1) (hy1:YieldsIf P #[o0,o1,o2,o3,o4,o5,o6,o7,o8,o9,o10,o11,o12] S o1 v1 A0)
  (p2:A1.put o2.dst v2 = A2) (hy2:YieldsIf P #[o0,o1,o2,o3,o4,o5,o6,o7,o8,o9,o10,o11,o12] S o2 v2 A1)
  (p3:A2.put o3.dst v3 = A3) (hy3:YieldsIf P #[o0,o1,o2,o3,o4,o5,o6,o7,o8,o9,o10,o11,o12] S o3 v3 A2)
  (p4:A3.put o4.dst v4 = A4) (hy4:YieldsIf P #[o0,o1,o2,o3,o4,o5,o6,o7,o8,o9,o10,o11,o12] S o4 v4 A3)
  (p6:A4.put o6.dst v6 = A5) (hy6:YieldsIf P #[o0,o1,o2,o3,o4,o5,o6,o7,o8,o9,o10,o11,o12] S o6 v6 A4)
  (p7:A5.put o7.dst v7 = A6) (hy7:YieldsIf P #[o0,o1,o2,o3,o4,o5,o6,o7,o8,o9,o10,o11,o12] S o7 v7 A5)
  (p8:A6.put o8.dst v8 = A7) (hy8:YieldsIf P #[o0,o1,o2,o3,o4,o5,o6,o7,o8,o9,o10,o11,o12] S o8 v8 A6)
  (p9:A7.put o9.dst v9 = A8) (hy9:YieldsIf P #[o0,o1,o2,o3,o4,o5,o6,o7,o8,o9,o10,o11,o12] S o9 v9 A7)
  (i0:I_ w.drew)
  (hIS:(∀ w',I_  w'→S w')∧(∀ (u5:Value) w',I5_ u5 w'→S w')∧(∀ (u5 u11:Value) w',I5_11_ u5 u11 w'→S w')∧(∀ (u5 u11 u12:Value) w',I5_11_12_ u5 u11 u12 w'→S w'))
  (s_5:∀ w',I_  w'→∀ K:Act→World→Prop,(∀ (u5:Value) w2,I5_ u5 w2→K (A8.put o5.dst u5) w2)→o5.wp P A8 w' K (NoPanic Q))
  (s5_11:∀ (u5:Value) w',I5_ u5 w'→∀ K:Act→World→Prop,(∀ (u11:Value) w2,I5_11_ u5 u11 w2→K (((A8.put o5.dst u5).put o10.dst (v10 u5)).put o11.dst u11) w2)→o11.wp P ((A8.put o5.dst u5).put o10.dst (v10 u5)) w' K (NoPanic Q))
  (s5_11_12:∀ (u5 u11:Value) w',I5_11_ u5 u11 w'→∀ K:Act→World→Prop,(∀ (u12:Value) w2,I5_11_12_ u5 u11 u12 w2→K ((((A8.put o5.dst u5).put o10.dst (v10 u5)).put o11.dst u11).put o12.dst u12) w2)→o12.wp P (((A8.put o5.dst u5).put o10.dst (v10 u5)).put o11.dst u11) w' K (NoPanic Q))
  (y_5_10:∀ (u5:Value) w',I5_ u5 w'→YieldsIf P #[o0,o1,o2,o3,o4,o5,o6,o7,o8,o9,o10,o11,o12] S o10 (v10 u5) (A8.put o5.dst u5))
  (h:∀ (u5 u11 u12:Value) w',I5_11_12_ u5 u11 u12 w'→Q .normal ((((A8.put o5.dst u5).put o10.dst (v10 u5)).put o11.dst u11).put o12.dst u12) w') :
  (Code.region id #[o0,o1,o2,o3,o4,o5,o6,o7,o8,o9,o10,o11,o12] true).wp P Q a w:=by
 subst p0 p1 p2 p3 p4 p6 p7 p8 p9
 obtain ⟨z_,z5_,z5_11_,z5_11_12_⟩:=hIS
 refine wp_region_noPanic ?_
 refine wp_region_held_drew (S:=S) hm (z_ _ i0) (fun hH=>?_)
 show wpAnyH P .any #[o0,o1,o2,o3,o4,o5,o6,o7,o8,o9,o10,o11,o12] (NoPanic Q) S 13 #[false,false,false,false,false,false,false,false,false,false,false,false,false] a w.drew
 refine wpAnyH_take (i:=0) (oi:=o0) rfl hs f0 r0 (fun _ _ _ h=>h) hy0 hH ?_
 refine wpAnyH_take (i:=1) (oi:=o1) rfl hs f1 r1 (fun _ _ _ h=>h) hy1 hH ?_
 refine wpAnyH_take (i:=2) (oi:=o2) rfl hs f2 r2 (fun _ _ _ h=>h) hy2 hH ?_
 refine wpAnyH_take (i:=3) (oi:=o3) rfl hs f3 r3 (fun _ _ _ h=>h) hy3 hH ?_
 refine wpAnyH_take (i:=4) (oi:=o4) rfl hs f4 r4 (fun _ _ _ h=>h) hy4 hH ?_
 refine wpAnyH_take (i:=6) (oi:=o6) rfl hs f6 r6 (fun _ _ _ h=>h) hy6 hH ?_
 refine wpAnyH_take (i:=7) (oi:=o7) rfl hs f7 r7 (fun _ _ _ h=>h) hy7 hH ?_
 refine wpAnyH_take (i:=8) (oi:=o8) rfl hs f8 r8 (fun _ _ _ h=>h) hy8 hH ?_
 refine wpAnyH_take (i:=9) (oi:=o9) rfl hs f9 r9 (fun _ _ _ h=>h) hy9 hH ?_
 generalize (((((((((a.put o0.dst v0).put o1.dst v1).put o2.dst v2).put o3.dst v3).put o4.dst v4).put o6.dst v6).put o7.dst v7).put o8.dst v8).put o9.dst v9) = B at *
 have wa5:∀ y,Region.wanted o5 y = true:=fun y=>by unfold Region.wanted; rw [g5]
 have wa11:∀ y,Region.wanted o11 y = true:=fun y=>by unfold Region.wanted; rw [g11]
 have wa12:∀ y,Region.wanted o12 y = true:=fun y=>by unfold Region.wanted; rw [g12]
 have t5_11_12_:∀ (u5 u11 u12:Value) w',I5_11_12_ u5 u11 u12 w'→wpAnyH P .any #[o0,o1,o2,o3,o4,o5,o6,o7,o8,o9,o10,o11,o12] (NoPanic Q) S 0 #[true,true,true,true,true,true,true,true,true,true,true,true,true] ((((B.put o5.dst u5).put o10.dst (v10 u5)).put o11.dst u11).put o12.dst u12) w':=by
  intro u5 u11 u12 w0 i0
  exact ⟨q5_11_12_,NoPanic.normal (h u5 u11 u12 w0 i0)⟩
 have t5_11_:∀ (u5 u11:Value) w',I5_11_ u5 u11 w'→wpAnyH P .any #[o0,o1,o2,o3,o4,o5,o6,o7,o8,o9,o10,o11,o12] (NoPanic Q) S 1 #[true,true,true,true,true,true,true,true,true,true,true,true,false] (((B.put o5.dst u5).put o10.dst (v10 u5)).put o11.dst u11) w':=by
  intro u5 u11 w0 i0
  refine wpAnyH_ready (rs:=[12]) q5_11_ (by simp) (AllReadyH.cons (o:=o12) rfl (fun K hK=>?_) AllReadyH.nil)
  ·rw [if_pos (wa12 _)]
   refine s5_11_12 u5 u11 w0 i0 K (fun u12 w1 i1=>hK.out _ _ (z5_11_12_ u5 u11 u12 w1 i1) (fun _=>?_))
   clear hK
   exact t5_11_12_ u5 u11 u12 w1 i1
 have t5_:∀ (u5:Value) w',I5_ u5 w'→wpAnyH P .any #[o0,o1,o2,o3,o4,o5,o6,o7,o8,o9,o10,o11,o12] (NoPanic Q) S 2 #[true,true,true,true,true,true,true,true,true,true,true,false,false] ((B.put o5.dst u5).put o10.dst (v10 u5)) w':=by
  intro u5 w0 i0
  refine wpAnyH_ready (rs:=[11]) q5_ (by simp) (AllReadyH.cons (o:=o11) rfl (fun K hK=>?_) AllReadyH.nil)
  ·rw [if_pos (wa11 _)]
   refine s5_11 u5 w0 i0 K (fun u11 w1 i1=>hK.out _ _ (z5_11_ u5 u11 w1 i1) (fun _=>?_))
   clear hK
   exact t5_11_ u5 u11 w1 i1
 have t_:∀ w',I_  w'→wpAnyH P .any #[o0,o1,o2,o3,o4,o5,o6,o7,o8,o9,o10,o11,o12] (NoPanic Q) S 4 #[true,true,true,true,true,false,true,true,true,true,false,false,false] B w':=by
  intro w0 i0
  refine wpAnyH_ready (rs:=[5]) q_ (by simp) (AllReadyH.cons (o:=o5) rfl (fun K hK=>?_) AllReadyH.nil)
  ·rw [if_pos (wa5 _)]
   refine s_5  w0 i0 K (fun u5 w1 i1=>hK.out _ _ (z5_ u5 w1 i1) (fun _=>?_))
   clear hK
   refine wpAnyH_take (i:=10) (oi:=o10) rfl hs f_5_10 r_5_10 (fun _ _ _ h=>h) (y_5_10 u5 w1 i1) (z5_ u5 w1 i1) ?_
   exact t5_ u5 w1 i1
 exact t_ w.drew i0
end
end
section
open Go.RowKit Go.BigFrame Go.Maps Go.Sort


end
section
open Go.RowKit Go.BigFrame
theorem xb4c:∀ (s t:List UInt8),natL s < natL t→s < t
 | [],[],h=>absurd h (List.lt_irrefl _)
 | [],y :: t,_=>by simp
 | x :: s,[],h=>absurd h (List.not_lt_nil _)
 | x :: s,y :: t,h=>by
  rw [List.cons_lt_cons_iff]
  simp only [natL,List.map_cons] at h
  rcases List.cons_lt_cons_iff.1 h with h | ⟨h1,h2⟩
  ·exact Or.inl (by rw [UInt8.lt_iff_toNat_lt]; exact h)
  ·exact Or.inr ⟨UInt8.toNat_inj.1 h1,xb4c s t h2⟩
theorem xb5h {l:List Nat} (h:nbE l = 0):l = nmL (nbU l):=by
 unfold nbE at h
 unfold nbU
 split at h
 ·rename_i h1; rw [if_pos h1]; exact h1
 ·cases h
theorem num_le {s t:List UInt8} (h:s≤t) (hs:nbE (natL s) = 0) (ht:nbE (natL t) = 0):nbU (natL s)≤nbU (natL t):=by
 by_cases hc:nbU (natL s)≤nbU (natL t)
 ·exact hc
 ·exfalso
  have h1:=nmL_lt (show nbU (natL t) < nbU (natL s) by omega) (nbU_lt _)
  rw [← xb5h hs,← xb5h ht] at h1
  exact (List.not_lt.2 h) (xb4c _ _ h1)
end
section
open Go.RowKit Go.BigFrame Go.Maps Go.Sort
theorem xa6b (s:List UInt8):(strU s).size = s.length:=by simp [strU,ByteArray.size]
theorem xc2t (σ:DSt) (s:ByteArray):(stSync σ s).1 < 100:=xa3n σ s
set_option maxHeartbeats 4000000 in
theorem xb1e (g d nb ob bb:Nat) (B:List Nat) (σ:DSt) (f:FSt) (sv bv:Value) (w:World) (hr:w.heap[g]? = some (.cells (fdC f sv bv) 125 (0,0))) (hs:RdS w sv f.sg) (hsz:∀ s∈f.sg,s.length≤40) (hD:DKf w d B nb ob bb σ) (hsB:∀ x∈blk sv,x∉B) (hn:nb≤1000000000) (hob:ob + f.sg.length≤1000000000) :
  Calls Tryz.prog 50 #[.pointer (some ⟨g,0,none⟩),.pointer (some ⟨d,0,none⟩)] w fun e w'=>∃ B',e = .returned (.int .i64 ((stSyncs σ f.sg).1:Nat))∧DKf w' d B' nb (ob + f.sg.length) bb (stSyncs σ f.sg).2∧Ev w w' B B':=by
 have HS:=hide hs
 obtain ⟨sa,sl,sc,rfl,h1,h2,h3,h4⟩:=hs
 obtain ⟨c0,c1,c2,c3,c4⟩:=xa0v hr
 have H4:=hide h4
 have HSZ:=hide hsz
 have HDK:=hide hD
 have HSB:=hide hsB
 obtain ⟨L,hL⟩:∃ L,f.sg = L:=⟨_,rfl⟩
 rw [hL] at h1 H4 HSZ hob ⊢
 subst h1
 clear hsz hD hsB h4 c0 c1 c2 c4 hr HS hL
 obtain ⟨⟨E0,τ0⟩,hR0⟩:∃ R,stSyncs σ L = R:=⟨_,rfl⟩
 rw [hR0]
 have HR0:=hide hR0
 clear hR0
 dsimp only at *
 go_enter Tryz.func50,Tryz.ntmps50
 go_wp2_with fail
 clear c3
 go_loopw [13] (fun t13 wr=>∃ (i:Nat) (Bi:List Nat) (τ:DSt),i≤L.length∧t13 = .int .i64 (i:Int)∧Hid (stSyncs τ (L.drop i) = (E0,τ0))∧Hid (DKf wr d Bi nb (ob + i) bb τ)∧Hid (Ev w wr B Bi)) (fun t _=>L.length - (intOf t).toNat)
 case atStart=>exact ⟨0,B,σ,Nat.zero_le _,rfl,by rw [List.drop_zero]; exact HR0,HDK,hide (Ev.refl _ _)⟩
 case round =>
  obtain ⟨i,Bi,τ,hi,rfl,HT,HD,HE⟩:=hrel
  by_cases hlt:i < L.length
  ·have hlt':(i:Int) < L.length:=by omega
   obtain ⟨b,off,rfl,hc⟩:=uh H4 (by omega)
   have q0:=(uh HE).1.cell (hc i hlt) (uh HSB b (by simp [blk]))
   have HSI:=hide (uh HSZ L[i] (List.getElem_mem hlt))
   have HDR:=hide (List.drop_eq_getElem_cons hlt)
   generalize L[i] = s at q0 HSI HDR
   have hic:(i:Int) < sc:=by omega
   rw [xa6a] at q0
   have ha1:IntKind.i64.wrap ((i:Int) + 1) = (i:Int) + 1:=by rw [IntKind.wrap_i64]; omega
   clear hc
   have HSY:=hide (sync_F d nb (ob + i) bb Bi τ (strU s) wr (uh HD) (by rw [xa6b]; have:=uh HSI; omega) hn (by omega))
   have HLT:=hide (xc2t τ (strU s))
   obtain ⟨⟨E1,τ1⟩,hR1⟩:∃ R,stSync τ (strU s) = R:=⟨_,rfl⟩
   have HN:=hide (fun (h0:E1≠0)=>(by have h9:=uh HT; rw [uh HDR] at h9; unfold stSyncs at h9; rw [hR1,if_pos h0] at h9; exact h9:(E1,τ1) = (E0,τ0)))
   have HY:=hide (fun (h0:E1 = 0)=>(by have h9:=uh HT; rw [uh HDR] at h9; unfold stSyncs at h9; rw [hR1,if_neg (by simpa using h0)] at h9; exact h9:stSyncs τ1 (L.drop (i + 1)) = (E0,τ0)))
   rw [hR1] at HSY HLT
   clear hR1 HT HDR
   dsimp only at *
   go_wp2_with fail
   refine Calls.mono (uh HSY) ?_
   rintro e w1 ⟨B1,rfl,hd1,ev1⟩
   have HD1:=hide hd1
   have HE1:=hide ((uh HE).trans ev1)
   clear hd1 ev1 q0 HSY HD HE
   by_cases h0:E1 = 0
   ·subst h0
    have HT1:=hide (uh HY rfl)
    go_wp2_with fail
    go_roundw
    case rel=>exact ⟨i + 1,B1,τ1,by omega,by simp,HT1,HD1,HE1⟩
    case measure=>simp [intOf]; omega
   ·have h0':((E1:Int) != 0) = true:=by rw [bne_iff_ne]; omega
    have hz:=uh HN h0
    cases hz
    go_wp2_with fail
    go_ret
    first | exact ⟨B1,rfl,(uh HD1).more (Nat.le_refl _) (by omega) (Nat.le_refl _),uh HE1⟩ | exact ⟨rfl,B1,(uh HD1).more (Nat.le_refl _) (by omega) (Nat.le_refl _),uh HE1⟩
  ·have hlt':¬ (i:Int) < L.length:=by omega
   have hie:i = L.length:=by omega
   subst hie
   have hz:=uh HT
   rw [List.drop_length] at hz
   unfold stSyncs at hz
   cases hz
   go_wp2_with fail
   go_ret
   first | exact ⟨Bi,rfl,uh HD,uh HE⟩ | exact ⟨rfl,Bi,uh HD,uh HE⟩
theorem Tryz.size_found:(Tryz.prog.info? 125).map (·.size) = some 5:=by kernel_rfl
theorem xa2s {w:World} {g:Nat} {a b c d e:Value} {t:TypeId} (h:w.heap[g]? = some (.cells #[a,b,c,d,e] t (0,0))) (x y z u r:Value):(((((w.setCell ⟨g,0,none⟩ x).setCell ⟨g,1,none⟩ y).setCell ⟨g,2,none⟩ z).setCell ⟨g,3,none⟩ u).setCell ⟨g,4,none⟩ r).heap[g]? = some (.cells #[x,y,z,u,r] t (0,0)):=by
 rw [heap_setCell_same _ g 4 _ t _ (heap_setCell_same _ g 3 _ t _ (heap_setCell_same _ g 2 _ t _ (heap_setCell_same _ g 1 _ t _ (heap_setCell_same w g 0 _ t _ h))))]; rfl
theorem xa1z {L:List Nat} {w0 w:World} (k:Kept L w0 w) (g:Nat) (hg:g∈L∨w0.heap.size≤g) (x y z u r:Value):Kept L w0 (((((w.setCell ⟨g,0,none⟩ x).setCell ⟨g,1,none⟩ y).setCell ⟨g,2,none⟩ z).setCell ⟨g,3,none⟩ u).setCell ⟨g,4,none⟩ r):=((((k.setCell hg x).setCell hg y).setCell hg z).setCell hg u).setCell hg r
theorem cells5 {w:World} {g:Nat} {a b c d e:Value} {t:TypeId} (h:w.heap[g]? = some (.cells #[a,b,c,d,e] t (0,0))):w.cell? ⟨g,0,none⟩ = some a∧w.cell? ⟨g,1,none⟩ = some b∧w.cell? ⟨g,2,none⟩ = some c∧w.cell? ⟨g,3,none⟩ = some d∧w.cell? ⟨g,4,none⟩ = some e:=by
 refine ⟨?_,?_,?_,?_,?_⟩ <;> rw [cell_of_row _ _ _ _ _ _ h] <;> rfl
theorem OwnX.base {X:List Nat} {w0 w1 w:World} {v:Value} {ts:List (Nat × Value × List En)} (h:OwnX X w1 w v ts) (hb:w0.heap.size≤w1.heap.size):OwnX X w0 w v ts:=by
 refine ⟨xa3m h.own hb,fun t ht=>?_,Nat.le_trans hb h.sz,h.ap⟩
 obtain ⟨B,C,h1,h2,h3,h4,h5⟩:=h.rd t ht
 exact ⟨B,C,h1,Nat.le_trans hb h2,h3,h4,h5⟩
abbrev zFd:Array Value:=#[.int .u64 0,.int .u64 0,.int .u64 0,.slice none 0 0,.slice none 0 0]
def FindR (w w':World) (R:Option FSt) (e:Ending):Prop :=
 (R = none∧e = .returned (.tuple #[.agg zFd,.bool false])) ∨
 ∃ f sv bv ts,R = some f∧e = .returned (.tuple #[.agg (fdC f sv bv),.bool true])∧w'.ownsRow w.heap.size 9 1 sv f.sg.length (f.sg.map encStr)∧OwnX sv.ownBlock.toList w w' bv ts∧f.bs = ts.map (fun t=>(t.1,t.2.2))∧f.last < 18446744073709551615∧f.ep < 18446744073709551615∧f.sz < 18446744073709551616
theorem xc5h {σ:DSt} {wd:Int} {f:FSt} {s:List UInt8} (h:nbE (natL s)≠0):stepF σ wd f s = some f:=by unfold stepF; rw [if_pos h]
theorem xc3n {σ:DSt} {wd:Int} {f:FSt} {s:List UInt8} (h:nbE (natL s) = 0) (h2:nbU (natL s) = 18446744073709551615):stepF σ wd f s = none:=by unfold stepF; rw [if_neg (by simpa using h),if_pos h2]
theorem xc4p {σ:DSt} {wd:Int} {f:FSt} {s:List UInt8} {p:List Nat} (hp:(stRead σ (strU s)).1 = p) (h:nbE (natL s) = 0) (h2:nbU (natL s)≠18446744073709551615) (h3:sgE p≠0):stepF σ wd f s = some ⟨nbU (natL s),f.ep,f.sz,f.sg,f.bs⟩:=by unfold stepF; rw [if_neg (by simpa using h),if_neg h2,hp,if_pos h3]
theorem xc4d {σ:DSt} {wd:Int} {f:FSt} {s:List UInt8} {p:List Nat} (hp:(stRead σ (strU s)).1 = p) (h:nbE (natL s) = 0) (h2:nbU (natL s)≠18446744073709551615) (h3:sgE p = 0) (h4:¬ ((hdC p).a = nbU (natL s)∧((hdC p).d:Int) = wd∧goOnF f p = true)):stepF σ wd f s = none:=by unfold stepF; rw [if_neg (by simpa using h),if_neg h2,hp,if_neg (by simpa using h3),if_neg h4]
theorem xc4c {σ:DSt} {wd:Int} {f:FSt} {s:List UInt8} {p:List Nat} (hp:(stRead σ (strU s)).1 = p) (h:nbE (natL s) = 0) (h2:nbU (natL s)≠18446744073709551615) (h3:sgE p = 0) (h4:(hdC p).a = nbU (natL s)∧((hdC p).d:Int) = wd∧goOnF f p = true):stepF σ wd f s = some ⟨nbU (natL s),(hdC p).b,(f.sz + cntB (sgB p)) % 18446744073709551616,f.sg++[s],f.bs++sgB p⟩:=by unfold stepF; rw [if_neg (by simpa using h),if_neg h2,hp,if_neg (by simpa using h3),if_pos h4]
theorem xb3o (f:FSt) (n:Nat) (p:List Nat):goOnF ⟨n,f.ep,f.sz,f.sg,f.bs⟩ p = goOnF f p:=rfl
theorem xa8s {σ:DSt} {wd:Int} {f:FSt} {s:List UInt8} {r:List (List UInt8)} {R:Option FSt} (h:findF σ wd f (s :: r) = R) (h2:stepF σ wd f s = none):R = none:=by
 unfold findF at h; rw [h2] at h; exact h.symm
theorem xa6g {σ:DSt} {wd:Int} {f g:FSt} {s:List UInt8} {r:List (List UInt8)} {R:Option FSt} (h:findF σ wd f (s :: r) = R) (h2:stepF σ wd f s = some g):findF σ wd g r = R:=by
 unfold findF at h; rw [h2] at h; exact h
set_option maxHeartbeats 8000000 in
theorem xb7y (d nb ob bb g0:Nat) (wd:Int) (B:List Nat) (σ:DSt) (w:World) (hD:DKf w d B nb ob bb σ) (hv:VarsG g0 w) (hg0:g0≤w.heap.size) (hn:nb≤1000000000) (hob:ob≤1000000000) (hb:bb≤100000000000) (hT:rdT σ (nmsOf σ)≤1000000000000) :
  Calls Tryz.prog 49 #[.pointer (some ⟨d,0,none⟩),.int .i64 wd] w fun e w'=>FindR w w' (findF σ wd fst0 (nmsOf σ)) e∧Kept [] w w':=by
 have HDK:=hide hD
 have HVG:=hide hv
 have kA:=(Kept.refl [] w).alloc (.cells zFd 125)
 have kB:=kA.alloc (.cells zFd 125)
 have hA:=heap_alloc_new w (.cells zFd 125)
 have hA2:=((Kept.refl [] (w.alloc (.cells zFd 125))).alloc (.cells zFd 125)).heap hA (by simp)
 have hB:=heap_alloc_new (w.alloc (.cells zFd 125)) (.cells zFd 125)
 rw [show (w.alloc (.cells zFd 125)).heap.size = w.heap.size + 1 by simp] at hB
 obtain ⟨L,hL⟩:∃ L,nmsOf σ = L:=⟨_,rfl⟩
 have HNL:=hide (by rw [← hL]; exact Nat.le_trans (xb9u σ) (Nat.le_trans hD.len hn):L.length≤1000000000)
 have HNM:=hide (fun s hs=>by
  rw [← hL] at hs
  obtain ⟨f,hf,rfl⟩:=xc0c hs
  have:=(xa3q (hD.nms f hf)).2
  exact Nat.le_trans (Nat.le_of_eq (Array.length_toList)) this:∀ s∈L,s.length≤40)
 have HNC:=hide (xb0j d (max nb ob) bb B σ _ (hD.toDK.kept kB (by simp)) (by omega))
 rw [hL] at hT HNC ⊢
 obtain ⟨R,hR⟩:∃ R,findF σ wd fst0 L = R:=⟨_,rfl⟩
 rw [hR]
 have HR:=hide hR
 have HKB:=hide kB
 have HA:=hide hA2
 have HB:=hide hB
 have HW:=hide (rfl:w.heap.size = w.heap.size)
 clear hD hv kA kB hA hA2 hB hL hR
 go_enter Tryz.func49,Tryz.ntmps49
 go_wp2_with fail
 refine Calls.mono (uh HNC) ?_
 rintro e w1 ⟨v1,rfl,ho1,k1⟩
 have HRS:=hide (xa8l ho1)
 have HBL:=hide (fun x (hx:x∈blk v1)=>ho1.lt x (xa7e ho1 hx))
 have HK1:=hide ((uh HKB).trans k1 (by simp))
 have HA1:=hide (k1.heap (uh HA) (by simp))
 have HB1:=hide (k1.heap (uh HB) (by simp))
 have HZ1:=hide (by have:=k1.size; simp at this; omega:w.heap.size + 2≤w1.heap.size)
 obtain ⟨va,vl,vc,rfl,g1,g2,g3,g4⟩:=uh HRS
 subst g1
 have H4:=hide g4
 clear k1 ho1 g4 HNC HKB HA HB
 go_wp2_with fail
 have HF0:=hide (⟨uh HB1,by have:=uh HZ1; omega,World.ownsRow_nil _ _ _ _,OwnX.start w1,rfl,by decide,by decide,by decide⟩:FK w1 w1 (w.heap.size + 1) fst0 (.slice none 0 0) (.slice none 0 0) [])
 go_loopw [17] (fun t17 wr=>∃ (i:Nat) (f:FSt) (sv bv:Value) (ts:List (Nat × Value × List En)),i≤L.length∧t17 = .int .i64 (i:Int)∧Hid (findF σ wd f (L.drop i) = R)∧Hid (FK w1 wr (w.heap.size + 1) f sv bv ts)∧Hid (Kept [w.heap.size + 1] w1 wr)∧Hid (f.last < 18446744073709551615∧f.ep < 18446744073709551615∧f.sg.length≤i∧ts.length + rdT σ (L.drop i)≤1000000000000)) (fun t _=>L.length - (intOf t).toNat)
 case atStart=>exact ⟨0,fst0,_,_,[],Nat.zero_le _,rfl,by rw [List.drop_zero]; exact HR,HF0,hide (Kept.refl _ _),hide ⟨by decide,by decide,by decide,by rw [List.drop_zero]; simpa using hT⟩⟩
 case round =>
  obtain ⟨i,f,sv,bv,ts,hi,rfl,HT,HF,HK,HBD⟩:=hrel
  have HAR:=hide ((uh HK).heap (uh HA1) (by intro hm; have:=List.mem_singleton.1 hm; omega))
  by_cases hlt:i < L.length
  ·have hlt':(i:Int) < L.length:=by omega
   obtain ⟨b,off,rfl,hc⟩:=uh H4 (by omega)
   have q0:=(uh HK).cell (hc i hlt) (by intro hm; have h9:=(uh HBL b (by simp [blk])).1; have h8:b = w.heap.size + 1:=List.mem_singleton.1 hm; simp at h9; omega)
   have HSI:=hide (uh HNM L[i] (List.getElem_mem hlt))
   have HDR:=hide (List.drop_eq_getElem_cons hlt)
   generalize L[i] = s at q0 HSI HDR
   have hic:(i:Int) < vc:=by omega
   rw [xa6a] at q0
   have ha1:IntKind.i64.wrap ((i:Int) + 1) = (i:Int) + 1:=by rw [IntKind.wrap_i64]; omega
   have HVR:=hide ((((uh HVG).old (uh HK1)).on (uh HK) (fun x hx=>by rw [List.mem_singleton.1 hx]; omega)))
   have HDR2:=hide (((uh HDK).old (uh HK1)).kept (uh HK) (fun x hx hm=>by have h9:=(uh HDK).lt x hx; have:=List.mem_singleton.1 hm; omega))
   clear hc
   have HT2:=hide (by have h9:=uh HT; rw [uh HDR] at h9; exact h9:findF σ wd f (s :: L.drop (i + 1)) = R)
   have HRT:=hide (by have h9:=(uh HBD).2.2.2; rw [uh HDR,xc3b] at h9; exact h9:ts.length + ((stRead σ (strU s)).1.length + rdT σ (L.drop (i + 1)))≤1000000000000)
   have HNU:=hide (xb4m (natL s) wr (xb8w s) (by have:=uh HSI; simp [natL]; omega) (uh HVR).now)
   rw [xc2e] at HNU
   have HUL:=hide (nbU_lt (natL s))
   obtain ⟨P,hP⟩:∃ x,(stRead σ (strU s)).1 = x:=⟨_,rfl⟩
   obtain ⟨NE,hNE⟩:∃ x,nbE (natL s) = x:=⟨_,rfl⟩
   obtain ⟨NU,hNU⟩:∃ x,nbU (natL s) = x:=⟨_,rfl⟩
   have H1:=hide (fun (h:NE≠0)=>xa6g (uh HT2) (xc5h (by rw [hNE]; exact h)))
   have H2:=hide (fun (h:NE = 0) (h2:NU = 18446744073709551615)=>xa8s (uh HT2) (xc3n (by rw [hNE]; exact h) (by rw [hNU]; exact h2)))
   have H3:=hide (fun (h:NE = 0) (h2:NU≠18446744073709551615) (h3:sgE P≠0)=>(by have h9:=xa6g (uh HT2) (xc4p hP (by rw [hNE]; exact h) (by rw [hNU]; exact h2) h3); rw [hNU] at h9; exact h9:findF σ wd ⟨NU,f.ep,f.sz,f.sg,f.bs⟩ (L.drop (i + 1)) = R))
   have H4':=hide (fun (h:NE = 0) (h2:NU≠18446744073709551615) (h3:sgE P = 0) (h4:¬ ((hdC P).a = NU∧((hdC P).d:Int) = wd∧goOnF f P = true))=>xa8s (uh HT2) (xc4d hP (by rw [hNE]; exact h) (by rw [hNU]; exact h2) h3 (by rw [hNU]; exact h4)))
   have H5:=hide (fun (h:NE = 0) (h2:NU≠18446744073709551615) (h3:sgE P = 0) (h4:(hdC P).a = NU∧((hdC P).d:Int) = wd∧goOnF f P = true)=>(by have h9:=xa6g (uh HT2) (xc4c hP (by rw [hNE]; exact h) (by rw [hNU]; exact h2) h3 (by rw [hNU]; exact h4)); rw [hNU] at h9; exact h9:findF σ wd ⟨NU,(hdC P).b,(f.sz + cntB (sgB P)) % 18446744073709551616,f.sg++[s],f.bs++sgB P⟩ (L.drop (i + 1)) = R))
   have HPL:=hide (by
    rw [← hP]
    unfold stRead
    split
    ·simp
    ·split
     ·simp
     ·rename_i x hx
      exact Nat.le_trans ((uh HDK).byt x (List.mem_of_find?_eq_some hx)) hb:P.length≤100000000000)
   rw [hP] at HRT
   rw [hNE,hNU] at HNU
   rw [hNU] at HUL
   have HPQ:=hide hP
   clear hNE hNU hP HT HT2 HDR
   go_wp2_with fail
   refine Calls.mono (uh HNU) ?_
   rintro e w2 ⟨rfl,k2⟩
   have HF2:=hide ((uh HF).pass k2)
   have HK2:=hide ((uh HK).trans k2 (by simp))
   have HA2:=hide (k2.heap (uh HAR) (by simp))
   have HV2:=hide ((uh HVR).old k2)
   have HD2:=hide ((uh HDR2).old k2)
   clear k2 q0 HNU HF HK HAR HVR HDR2
   by_cases hne:NE = 0
   ·subst hne
    by_cases hnu:NU = 18446744073709551615
    ·have hq:((NU:Int) == 18446744073709551615) = true:=by rw [hnu]; rfl
     have HRN:=hide (uh H2 (by simp) hnu)
     obtain ⟨z0,z1,z2,z3,z4⟩:=cells5 (uh HA2)
     obtain ⟨y0,y1,y2,y3,y4⟩:=ffroz (uh HA2)
     clear hnu H1 H2 H3 H4' H5
     go_wp2_with fail
     refine bodyPost_ret (v:=.tuple #[.agg zFd,.bool false]) ?_ rfl ⟨Or.inl ⟨uh HRN,rfl⟩,?_⟩
     ·exact xa0i rfl _ _ w.heap.size _ zFd (0,0) _ rfl (xa2s (uh HA2) _ _ _ _ _) Tryz.underlying125 rfl Tryz.size_found _ rfl
     ·exact xa1z ((uh HK1).trans (uh HK2) (fun x hx=>Or.inr (by rw [List.mem_singleton.1 hx]; omega))) w.heap.size (Or.inr (Nat.le_refl _)) _ _ _ _ _
    ·have hq:((NU:Int) == 18446744073709551615) = false:=by simp; omega
     obtain ⟨c0,c1,c2,c3,c4⟩:=xa0v (uh HF2).row
     obtain ⟨y0,y1,y2,y3,y4⟩:=ffroz (uh HF2).row
     have kS:=(Kept.refl [w.heap.size + 1] w2).setCell (p:=⟨w.heap.size + 1,0,none⟩) (.inl (by simp)) (.int .u64 (NU:Int))
     have hS2:(w2.setCell ⟨w.heap.size + 1,0,none⟩ (.int .u64 (NU:Int))).heap[w.heap.size + 1]? = some (.cells (fdC ⟨NU,f.ep,f.sz,f.sg,f.bs⟩ sv bv) 125 (0,0)):=by rw [heap_setCell_same _ _ 0 _ _ _ (uh HF2).row]; rfl
     have HF3:=hide ((uh HF2).turn (f':=⟨NU,f.ep,f.sz,f.sg,f.bs⟩) kS hS2 rfl rfl (uh HUL) (uh HF2).ep (uh HF2).szb)
     have HK3:=hide ((uh HK2).trans kS (fun x hx=>Or.inl hx))
     have HA3:=hide (kS.heap (uh HA2) (by intro hm; have:=List.mem_singleton.1 hm; omega))
     have HD3:=hide ((uh HD2).kept kS (fun x hx hm=>by have h9:=(uh HDK).lt x hx; have:=List.mem_singleton.1 hm; omega))
     obtain ⟨W3,hW3⟩:∃ W,w2.setCell ⟨w.heap.size + 1,0,none⟩ (.int .u64 (NU:Int)) = W:=⟨_,rfl⟩
     rw [hW3] at HF3 HK3 HA3 HD3
     have HW3:=hide hW3
     have HRD:=hide (read_D d (max nb ob) bb B σ (strU s) W3 (uh HD3).toDK (by rw [xa6b]; have:=uh HSI; omega) (by omega))
     clear hW3 kS hS2 HF2 HK2 HA2 HV2 HD2
     go_upto_region 10 with fail
     rw [uh HW3]
     clear c0 c1 c2 c3 c4 y0 y1 y2 y3 y4
     go_wp2_with fail
     refine Calls.mono (uh HRD) ?_
     rintro e w4 ⟨v4,rfl,hw4,k4⟩
     rw [uh HPQ] at hw4
     have hr4:=hw4.rd
     obtain ⟨a4,n4,c4,rfl,hn4,_⟩:=id hr4
     have HF4:=hide ((uh HF3).pass k4)
     have HK4:=hide ((uh HK3).trans k4 (by simp))
     have HA4:=hide (k4.heap (uh HA3) (by simp))
     have HRO:=hide (xa5r _ P w4 hr4 (uh HPL))
     clear k4 hw4 hr4 hn4 HRD HF3 HK3 HA3 HD3 HW3
     go_wp2_with fail
     refine Calls.mono (uh HRO) ?_
     rintro e w5 ⟨b5,rfl,⟨ss,hss,ho5⟩,k5⟩
     obtain ⟨a5,c5,rfl⟩:=xa0q ho5.own
     obtain ⟨SE,hSE⟩:∃ x,sgE P = x:=⟨_,rfl⟩
     obtain ⟨⟨xa,xb,xc,xd⟩,hX⟩:∃ x,hdC P = x:=⟨_,rfl⟩
     obtain ⟨SU,hSU⟩:∃ x,sgU P = x:=⟨_,rfl⟩
     have HWG:=hide (fun (V:World) (hr:V.heap[w.heap.size + 1]? = some (.cells (fdC ⟨NU,f.ep,f.sz,f.sg,f.bs⟩ sv bv) 125 (0,0)))=>xb9j (w.heap.size + 1) xa xb xc (xd:Int) ⟨NU,f.ep,f.sz,f.sg,f.bs⟩ sv bv V hr P (by rw [hX]) (by rw [hX]))
     have HXB:=hide (by have h9:=(hd_lt P).2.1; rw [hX] at h9; exact h9:xb < 18446744073709551616)
     rw [hSE] at H3 H4' H5
     rw [hX] at H4' H5
     rw [hSE,hX,hSU]
     dsimp only at H4' H5 ⊢
     rw [hss] at H5
     have HGO:=hide (xb3o f NU P)
     have HGE:=hide (fun (h:goOnF f P = true)=>by unfold goOnF at h; rw [hX] at h; simp only [Bool.and_eq_true,decide_eq_true_eq] at h; exact h.2:goOnF f P = true→xb < 18446744073709551615)
     obtain ⟨GO,hGO⟩:∃ x,goOnF f P = x:=⟨_,rfl⟩
     have HSL:=hide (by rw [← List.length_map (f:=fun t:Nat × Value × List En=>(t.1,t.2.2)),← hss]; exact sgB_le P:ss.length≤P.length)
     rw [hGO] at H4' H5 HGO HGE
     rw [uh HGO] at HWG
     have HF5:=hide ((uh HF4).pass k5)
     have HK5:=hide ((uh HK4).trans k5 (by simp))
     have HA5:=hide (k5.heap (uh HA4) (by simp))
     have HO5:=hide ho5
     have HVB:=hide (fun x hx=>((uh HF4).bs.own.lt x hx).2:∀ x,bv.ownBlock = some x→x < w4.heap.size)
     have HVS:=hide (fun x hx=>((uh HF4).sg.lt x hx).2:∀ x,sv.ownBlock = some x→x < w4.heap.size)
     have H01:=hide (uh HK4).size
     have kN:=(Kept.refl [] w5).alloc (.cells #[.int .u64 (xa:Int),.int .u64 (xb:Int),.int .u64 (xc:Int),.int .i64 (xd:Int),.slice a5 ss.length c5,.int .i64 (SU:Int)] 55)
     have hNw:=heap_alloc_new w5 (.cells #[.int .u64 (xa:Int),.int .u64 (xb:Int),.int .u64 (xc:Int),.int .i64 (xd:Int),.slice a5 ss.length c5,.int .i64 (SU:Int)] 55)
     have HF6:=hide ((uh HF5).pass kN)
     have HK6:=hide ((uh HK5).trans kN (by simp))
     have HA6:=hide (kN.heap (uh HA5) (by simp))
     have HKN:=hide kN
     have HNW:=hide hNw
     clear k5 ho5 hSE hX hSU hss hGO kN hNw HRO HF4 HK4 HA4 HF5 HK5 HA5 HPQ HPL H1 H2 HGO
     by_cases hse:SE = 0
     ·subst hse
      go_upto_region 13 with fail
      obtain ⟨W6,hW6⟩:∃ W,w5.alloc (.cells #[.int .u64 (xa:Int),.int .u64 (xb:Int),.int .u64 (xc:Int),.int .i64 (xd:Int),.slice a5 ss.length c5,.int .i64 (SU:Int)] 55) = W:=⟨_,rfl⟩
      rw [hW6] at HF6 HK6 HA6 HKN HNW ⊢
      clear hW6
      obtain ⟨s0,s1,s2,s3,s4,s5⟩:=scells (uh HNW)
      obtain ⟨z0,z1,z2,z3,z4⟩:=cells5 (uh HA6)
      obtain ⟨y0,y1,y2,y3,y4⟩:=ffroz (uh HA6)
      by_cases ha:xa = NU
      ·have ha':((xa:Int) != (NU:Int)) = false:=by rw [ha]; simp
       by_cases hd:(xd:Int) = wd
       ·have hd':((xd:Int) != wd) = false:=by rw [hd]; simp
        by_cases hgo:GO = true
        ·have HT3:=hide (uh H5 (by simp) hnu rfl ⟨ha,hd,hgo⟩)
         have HNM9:=hide hnu
         have HEB:=hide (uh HGE hgo)
         subst hgo
         clear ha hd hnu H3 H4' H5
         go_wp2_with fail
         refine Calls.mono (uh HWG W6 (uh HF6).row) ?_
         rintro e w7 ⟨rfl,k7⟩
         have HF7:=hide ((uh HF6).pass k7)
         have HK7:=hide ((uh HK6).trans k7 (by simp))
         have HN7:=hide (k7.heap (uh HNW) (by simp))
         have HKN7:=hide ((uh HKN).trans k7 (by simp))
         clear k7 s0 s1 s2 s3 s4 s5 z0 z1 z2 z3 z4 y0 y1 y2 y3 y4 HF6 HK6 HNW HKN HWG HA6
         obtain ⟨s0,s1,s2,s3,s4,s5⟩:=scells (uh HN7)
         go_wp2_with fail
         refine Calls.mono (xc0x (w.heap.size + 1) xa xb xc SU (xd:Int) s ⟨NU,f.ep,f.sz,f.sg,f.bs⟩ sv bv (.slice a5 ss.length c5) ts ss w1 w4 w5 w7 [] (uh HF7) (uh HK7) (uh HO5) (uh HKN7) (by simp) (uh H01) (uh HVB) (uh HVS) (uh HXB) (by have:=uh HRT; have:=uh HSL; omega) (by have:=(uh HBD).2.2.1; have:=uh HNL; dsimp only; omega)) ?_
         rintro e w8 ⟨sv8,bv8,rfl,hf8,hk8⟩
         have HF8:=hide hf8
         have HK8:=hide hk8
         have HBX:=hide (by have h9:=uh HXB; have h8:=hf8.ep; exact h8:xb < 18446744073709551616)
         clear hf8 hk8 s0 s1 s2 s3 s4 s5 HF7 HK7 HN7 HKN7 HO5 HVB HVS H01
         go_wp2_with fail
         go_roundw
         case rel=>exact ⟨i + 1,_,sv8,bv8,ts++ss,by omega,by simp,HT3,HF8,HK8,hide ⟨by show NU < 18446744073709551615; have:=uh HUL; have:=uh HNM9; omega,uh HEB,by have:=(uh HBD).2.2.1; simp only [List.length_append,List.length_cons,List.length_nil]; omega,by rw [List.length_append]; have:=uh HRT; have:=uh HSL; omega⟩⟩
         case measure=>simp [intOf]; omega
        ·have HRN:=hide (uh H4' (by simp) hnu rfl (fun h=>hgo h.2.2))
         have hgo2:GO = false:=by simpa using hgo
         subst hgo2
         clear ha hd hnu hgo H3 H4' H5
         go_wp2_with fail
         refine Calls.mono (uh HWG W6 (uh HF6).row) ?_
         rintro e w7 ⟨rfl,k7⟩
         have HK7:=hide ((uh HK6).trans k7 (by simp))
         have HA7:=hide (k7.heap (uh HA6) (by simp))
         clear k7 s0 s1 s2 s3 s4 s5 z0 z1 z2 z3 z4 y0 y1 y2 y3 y4 HF6 HK6 HNW HKN HWG HA6
         obtain ⟨z0,z1,z2,z3,z4⟩:=cells5 (uh HA7)
         obtain ⟨y0,y1,y2,y3,y4⟩:=ffroz (uh HA7)
         go_wp2_with fail
         refine bodyPost_ret (v:=.tuple #[.agg zFd,.bool false]) ?_ rfl ⟨Or.inl ⟨uh HRN,rfl⟩,?_⟩
         ·exact xa0i rfl _ _ w.heap.size _ zFd (0,0) _ rfl (xa2s (uh HA7) _ _ _ _ _) Tryz.underlying125 rfl Tryz.size_found _ rfl
         ·exact xa1z ((uh HK1).trans (uh HK7) (fun x hx=>Or.inr (by rw [List.mem_singleton.1 hx]; omega))) w.heap.size (Or.inr (Nat.le_refl _)) _ _ _ _ _
       ·have hd':((xd:Int) != wd) = true:=by rw [bne_iff_ne]; exact hd
        have HRN:=hide (uh H4' (by simp) hnu rfl (fun h=>hd h.2.1))
        clear ha hd hnu H3 H4' H5
        go_wp2_with fail
        refine bodyPost_ret (v:=.tuple #[.agg zFd,.bool false]) ?_ rfl ⟨Or.inl ⟨uh HRN,rfl⟩,?_⟩
        ·exact xa0i rfl _ _ w.heap.size _ zFd (0,0) _ rfl (xa2s (uh HA6) _ _ _ _ _) Tryz.underlying125 rfl Tryz.size_found _ rfl
        ·exact xa1z ((uh HK1).trans (uh HK6) (fun x hx=>Or.inr (by rw [List.mem_singleton.1 hx]; omega))) w.heap.size (Or.inr (Nat.le_refl _)) _ _ _ _ _
      ·have ha':((xa:Int) != (NU:Int)) = true:=by rw [bne_iff_ne]; omega
       have HRN:=hide (uh H4' (by simp) hnu rfl (fun h=>ha h.1))
       clear ha hnu H3 H4' H5
       go_wp2_with fail
       refine bodyPost_ret (v:=.tuple #[.agg zFd,.bool false]) ?_ rfl ⟨Or.inl ⟨uh HRN,rfl⟩,?_⟩
       ·exact xa0i rfl _ _ w.heap.size _ zFd (0,0) _ rfl (xa2s (uh HA6) _ _ _ _ _) Tryz.underlying125 rfl Tryz.size_found _ rfl
       ·exact xa1z ((uh HK1).trans (uh HK6) (fun x hx=>Or.inr (by rw [List.mem_singleton.1 hx]; omega))) w.heap.size (Or.inr (Nat.le_refl _)) _ _ _ _ _
     ·have hse':((SE:Int) != 0) = true:=by rw [bne_iff_ne]; omega
      have HT3:=hide (uh H3 (by simp) hnu hse)
      have HNL9:=hide (by have:=uh HUL; omega:NU < 18446744073709551615)
      clear hse hnu H3 H4' H5
      go_wp2_with fail
      go_roundw
      case rel=>exact ⟨i + 1,_,sv,bv,ts,by omega,by simp,HT3,HF6,HK6,hide ⟨uh HNL9,(uh HBD).2.1,by have:=(uh HBD).2.2.1; dsimp only; omega,by have:=uh HRT; omega⟩⟩
      case measure=>simp [intOf]; omega
   ·have hne':((NE:Int) != 0) = true:=by rw [bne_iff_ne]; omega
    have HT3:=hide (uh H1 hne)
    go_wp2_with fail
    go_roundw
    case rel=>exact ⟨i + 1,f,sv,bv,ts,by omega,by simp,HT3,HF2,HK2,hide ⟨(uh HBD).1,(uh HBD).2.1,by have:=(uh HBD).2.2.1; omega,by have:=uh HRT; omega⟩⟩
    case measure=>simp [intOf]; omega
  ·have hlt':¬ (i:Int) < L.length:=by omega
   have hie:i = L.length:=by omega
   subst hie
   have hz:=uh HT
   rw [List.drop_length] at hz
   unfold findF at hz
   have HRN:=hide hz.symm
   obtain ⟨sa,sc,rfl⟩:=xa0q (uh HF).sg
   obtain ⟨ba,bc,rfl⟩:=(uh HF).bs.shape
   obtain ⟨z0,z1,z2,z3,z4⟩:=cells5 (uh HAR)
   obtain ⟨y0,y1,y2,y3,y4⟩:=ffroz (uh HAR)
   obtain ⟨c0,c1,c2,c3,c4⟩:=xa0v (uh HF).row
   clear hz HT
   go_wp2_with fail
   have kF:Kept [w.heap.size] wr _:=xa1z (Kept.refl [w.heap.size] wr) w.heap.size (Or.inl (by simp)) (.int .u64 (f.last:Int)) (.int .u64 (f.ep:Int)) (.int .u64 (f.sz:Int)) (.slice sa f.sg.length sc) (.slice ba ts.length bc)
   refine bodyPost_ret (v:=.tuple #[.agg (fdC f (.slice sa f.sg.length sc) (.slice ba ts.length bc)),.bool true]) ?_ rfl ⟨Or.inr ⟨f,_,_,ts,uh HRN,rfl,?_,?_,(uh HF).eq,(uh HBD).1,(uh HBD).2.1,(uh HF).szb⟩,?_⟩
   ·exact xa0i rfl _ _ w.heap.size _ (fdC f (.slice sa f.sg.length sc) (.slice ba ts.length bc)) (0,0) _ rfl (xa2s (uh HAR) _ _ _ _ _) Tryz.underlying125 rfl Tryz.size_found _ rfl
   ·exact xa3m (kF.owns (uh HF).sg (fun x hx hm=>by have h9:=((uh HF).sg.lt x hx).1; have:=List.mem_singleton.1 hm; have:=uh HZ1; omega)) (by have:=uh HZ1; omega)
   ·exact ((uh HF).bs.pass kF (fun x hx=>Or.inl (by rw [List.mem_singleton.1 hx]; have:=uh HZ1; omega))).base (by have:=uh HZ1; omega)
   ·exact xa1z ((uh HK1).trans (uh HK) (fun x hx=>Or.inr (by rw [List.mem_singleton.1 hx]; omega))) w.heap.size (Or.inr (Nat.le_refl _)) _ _ _ _ _
end
section
open Go Go.RowKit Go.BigFrame
section
variable {P:Program} {Q:Exit→Act→World→Prop}
theorem xc4w {id:Nat} {o0 o1 o2 o3 o4 o5 o6 o7 o8 o9 o10:Oper} {a:Act} {w:World} (hm:P.follows .mixedOrders = true) (hs:Region.noSelect #[o0,o1,o2,o3,o4,o5,o6,o7,o8,o9,o10] = true)
  (f0:Region.free .any #[o0,o1,o2,o3,o4,o5,o6,o7,o8,o9,o10] #[false,false,false,false,false,false,false,false,false,false,false] 0 = true) (r0:(Region.ready .any #[o0,o1,o2,o3,o4,o5,o6,o7,o8,o9,o10] #[false,false,false,false,false,false,false,false,false,false,false]).contains 0 = true)
  (f1:Region.free .any #[o0,o1,o2,o3,o4,o5,o6,o7,o8,o9,o10] #[true,false,false,false,false,false,false,false,false,false,false] 1 = true) (r1:(Region.ready .any #[o0,o1,o2,o3,o4,o5,o6,o7,o8,o9,o10] #[true,false,false,false,false,false,false,false,false,false,false]).contains 1 = true)
  (f2:Region.free .any #[o0,o1,o2,o3,o4,o5,o6,o7,o8,o9,o10] #[true,true,false,false,false,false,false,false,false,false,false] 2 = true) (r2:(Region.ready .any #[o0,o1,o2,o3,o4,o5,o6,o7,o8,o9,o10] #[true,true,false,false,false,false,false,false,false,false,false]).contains 2 = true)
  (f3:Region.free .any #[o0,o1,o2,o3,o4,o5,o6,o7,o8,o9,o10] #[true,true,true,false,false,false,false,false,false,false,false] 3 = true) (r3:(Region.ready .any #[o0,o1,o2,o3,o4,o5,o6,o7,o8,o9,o10] #[true,true,true,false,false,false,false,false,false,false,false]).contains 3 = true)
  (f4:Region.free .any #[o0,o1,o2,o3,o4,o5,o6,o7,o8,o9,o10] #[true,true,true,true,false,false,false,false,false,false,false] 4 = true) (r4:(Region.ready .any #[o0,o1,o2,o3,o4,o5,o6,o7,o8,o9,o10] #[true,true,true,true,false,false,false,false,false,false,false]).contains 4 = true)
  (f6:Region.free .any #[o0,o1,o2,o3,o4,o5,o6,o7,o8,o9,o10] #[true,true,true,true,true,false,false,false,false,false,false] 6 = true) (r6:(Region.ready .any #[o0,o1,o2,o3,o4,o5,o6,o7,o8,o9,o10] #[true,true,true,true,true,false,false,false,false,false,false]).contains 6 = true)
  (f7:Region.free .any #[o0,o1,o2,o3,o4,o5,o6,o7,o8,o9,o10] #[true,true,true,true,true,false,true,false,false,false,false] 7 = true) (r7:(Region.ready .any #[o0,o1,o2,o3,o4,o5,o6,o7,o8,o9,o10] #[true,true,true,true,true,false,true,false,false,false,false]).contains 7 = true)
  (q_:Region.ready .any #[o0,o1,o2,o3,o4,o5,o6,o7,o8,o9,o10] #[true,true,true,true,true,false,true,true,false,false,false] = [5])
  (f_5_8:Region.free .any #[o0,o1,o2,o3,o4,o5,o6,o7,o8,o9,o10] #[true,true,true,true,true,true,true,true,false,false,false] 8 = true) (r_5_8:(Region.ready .any #[o0,o1,o2,o3,o4,o5,o6,o7,o8,o9,o10] #[true,true,true,true,true,true,true,true,false,false,false]).contains 8 = true)
  (f_5_9:Region.free .any #[o0,o1,o2,o3,o4,o5,o6,o7,o8,o9,o10] #[true,true,true,true,true,true,true,true,true,false,false] 9 = true) (r_5_9:(Region.ready .any #[o0,o1,o2,o3,o4,o5,o6,o7,o8,o9,o10] #[true,true,true,true,true,true,true,true,true,false,false]).contains 9 = true)
  (f_5_10:Region.free .any #[o0,o1,o2,o3,o4,o5,o6,o7,o8,o9,o10] #[true,true,true,true,true,true,true,true,true,true,false] 10 = true) (r_5_10:(Region.ready .any #[o0,o1,o2,o3,o4,o5,o6,o7,o8,o9,o10] #[true,true,true,true,true,true,true,true,true,true,false]).contains 10 = true)
  (q5_:Region.ready .any #[o0,o1,o2,o3,o4,o5,o6,o7,o8,o9,o10] #[true,true,true,true,true,true,true,true,true,true,true] = [])
  (g5:o5.guard = none)
  (v0 v1 v2 v3 v4 v6 v7:Value) (A0 A1 A2 A3 A4 A5 A6:Act)
  (S:World→Prop)
  (I_:World→Prop)
  (I5_:Value→World→Prop)
  (v8:Value→Value)
  (v9:Value→Value)
  (v10:Value→Value)
  (p0:a.put o0.dst v0 = A0) (hy0:YieldsIf P #[o0,o1,o2,o3,o4,o5,o6,o7,o8,o9,o10] S o0 v0 a)
  (p1:A0.put o1.dst v1 = A1) (hy1:YieldsIf P #[o0,o1,o2,o3,o4,o5,o6,o7,o8,o9,o10] S o1 v1 A0)
  (p2:A1.put o2.dst v2 = A2) (hy2:YieldsIf P #[o0,o1,o2,o3,o4,o5,o6,o7,o8,o9,o10] S o2 v2 A1)
  (p3:A2.put o3.dst v3 = A3) (hy3:YieldsIf P #[o0,o1,o2,o3,o4,o5,o6,o7,o8,o9,o10] S o3 v3 A2)
  (p4:A3.put o4.dst v4 = A4) (hy4:YieldsIf P #[o0,o1,o2,o3,o4,o5,o6,o7,o8,o9,o10] S o4 v4 A3)
  (p6:A4.put o6.dst v6 = A5) (hy6:YieldsIf P #[o0,o1,o2,o3,o4,o5,o6,o7,o8,o9,o10] S o6 v6 A4)
  (p7:A5.put o7.dst v7 = A6) (hy7:YieldsIf P #[o0,o1,o2,o3,o4,o5,o6,o7,o8,o9,o10] S o7 v7 A5)
  (i0:I_ w.drew)
  (hIS:(∀ w',I_  w'→S w')∧(∀ (u5:Value) w',I5_ u5 w'→S w'))
  (s_5:∀ w',I_  w'→∀ K:Act→World→Prop,(∀ (u5:Value) w2,I5_ u5 w2→K (A6.put o5.dst u5) w2)→o5.wp P A6 w' K (NoPanic Q))
  (y_5_8:∀ (u5:Value) w',I5_ u5 w'→YieldsIf P #[o0,o1,o2,o3,o4,o5,o6,o7,o8,o9,o10] S o8 (v8 u5) (A6.put o5.dst u5))
  (y_5_9:∀ (u5:Value) w',I5_ u5 w'→YieldsIf P #[o0,o1,o2,o3,o4,o5,o6,o7,o8,o9,o10] S o9 (v9 u5) ((A6.put o5.dst u5).put o8.dst (v8 u5)))
  (y_5_10:∀ (u5:Value) w',I5_ u5 w'→YieldsIf P #[o0,o1,o2,o3,o4,o5,o6,o7,o8,o9,o10] S o10 (v10 u5) (((A6.put o5.dst u5).put o8.dst (v8 u5)).put o9.dst (v9 u5)))
  (h:∀ (u5:Value) w',I5_ u5 w'→Q .normal ((((A6.put o5.dst u5).put o8.dst (v8 u5)).put o9.dst (v9 u5)).put o10.dst (v10 u5)) w') :
  (Code.region id #[o0,o1,o2,o3,o4,o5,o6,o7,o8,o9,o10] true).wp P Q a w:=by
 subst p0 p1 p2 p3 p4 p6 p7
 obtain ⟨z_,z5_⟩:=hIS
 refine wp_region_noPanic ?_
 refine wp_region_held_drew (S:=S) hm (z_ _ i0) (fun hH=>?_)
 show wpAnyH P .any #[o0,o1,o2,o3,o4,o5,o6,o7,o8,o9,o10] (NoPanic Q) S 11 #[false,false,false,false,false,false,false,false,false,false,false] a w.drew
 refine wpAnyH_take (i:=0) (oi:=o0) rfl hs f0 r0 (fun _ _ _ h=>h) hy0 hH ?_
 refine wpAnyH_take (i:=1) (oi:=o1) rfl hs f1 r1 (fun _ _ _ h=>h) hy1 hH ?_
 refine wpAnyH_take (i:=2) (oi:=o2) rfl hs f2 r2 (fun _ _ _ h=>h) hy2 hH ?_
 refine wpAnyH_take (i:=3) (oi:=o3) rfl hs f3 r3 (fun _ _ _ h=>h) hy3 hH ?_
 refine wpAnyH_take (i:=4) (oi:=o4) rfl hs f4 r4 (fun _ _ _ h=>h) hy4 hH ?_
 refine wpAnyH_take (i:=6) (oi:=o6) rfl hs f6 r6 (fun _ _ _ h=>h) hy6 hH ?_
 refine wpAnyH_take (i:=7) (oi:=o7) rfl hs f7 r7 (fun _ _ _ h=>h) hy7 hH ?_
 generalize (((((((a.put o0.dst v0).put o1.dst v1).put o2.dst v2).put o3.dst v3).put o4.dst v4).put o6.dst v6).put o7.dst v7) = B at *
 have wa5:∀ y,Region.wanted o5 y = true:=fun y=>by unfold Region.wanted; rw [g5]
 have t5_:∀ (u5:Value) w',I5_ u5 w'→wpAnyH P .any #[o0,o1,o2,o3,o4,o5,o6,o7,o8,o9,o10] (NoPanic Q) S 0 #[true,true,true,true,true,true,true,true,true,true,true] ((((B.put o5.dst u5).put o8.dst (v8 u5)).put o9.dst (v9 u5)).put o10.dst (v10 u5)) w':=by
  intro u5 w0 i0
  exact ⟨q5_,NoPanic.normal (h u5 w0 i0)⟩
 have t_:∀ w',I_  w'→wpAnyH P .any #[o0,o1,o2,o3,o4,o5,o6,o7,o8,o9,o10] (NoPanic Q) S 4 #[true,true,true,true,true,false,true,true,false,false,false] B w':=by
  intro w0 i0
  refine wpAnyH_ready (rs:=[5]) q_ (by simp) (AllReadyH.cons (o:=o5) rfl (fun K hK=>?_) AllReadyH.nil)
  ·rw [if_pos (wa5 _)]
   refine s_5  w0 i0 K (fun u5 w1 i1=>hK.out _ _ (z5_ u5 w1 i1) (fun _=>?_))
   clear hK
   refine wpAnyH_take (i:=8) (oi:=o8) rfl hs f_5_8 r_5_8 (fun _ _ _ h=>h) (y_5_8 u5 w1 i1) (z5_ u5 w1 i1) ?_
   refine wpAnyH_take (i:=9) (oi:=o9) rfl hs f_5_9 r_5_9 (fun _ _ _ h=>h) (y_5_9 u5 w1 i1) (z5_ u5 w1 i1) ?_
   refine wpAnyH_take (i:=10) (oi:=o10) rfl hs f_5_10 r_5_10 (fun _ _ _ h=>h) (y_5_10 u5 w1 i1) (z5_ u5 w1 i1) ?_
   exact t5_ u5 w1 i1
 exact t_ w.drew i0
end
end
section
open Go.RowKit Go.BigFrame Go.Maps Go.Sort
theorem OwnX.re {X Y M:List Nat} {w0 wo w:World} {v:Value} {ts:List (Nat × Value × List En)} (h:OwnX X w0 wo v ts) (k:Kept M wo w) (hM:∀ x∈M,x < w0.heap.size∨wo.heap.size≤x) (hY:∀ x∈Y,x < w0.heap.size∨wo.heap.size≤x):OwnX Y w0 w v ts:=by
 refine ⟨k.owns h.own (fun b hb hm=>?_),fun t ht=>?_,Nat.le_trans h.sz k.size,fun b hb hm=>?_⟩
 ·have h1:=h.own.lt b hb
  rcases hM b hm with h2 | h2 <;> omega
 ·obtain ⟨B,C,h1,h2,h3,h4,h5⟩:=h.rd t ht
  refine ⟨B,C,Nat.le_trans h1 k.size,h2,h3,fun b hb=>?_,fun N w2 kN hN=>h5 (M++N) w2 ((k.mono (M:=M++N) (fun x hx=>by simp [hx])).trans kN (fun x hx=>Or.inl (by simp [hx]))) (fun x hx=>?_)⟩
  ·rcases hY b hb with h6 | h6
   ·exact Or.inl (by omega)
   ·exact Or.inr (by omega)
  ·rcases List.mem_append.1 hx with hx | hx
   ·rcases hM x hx with h6 | h6
    ·exact Or.inl (by omega)
    ·exact Or.inr (by omega)
   ·exact hN x hx
 ·have h1:=h.own.lt b hb
  rcases hY b hm with h2 | h2 <;> omega
theorem OwnX.none (X:List Nat) {w0 w:World} (h:w0.heap.size≤w.heap.size):OwnX X w0 w (.slice none 0 0) []:=⟨World.ownsRow_nil _ _ _ _,by simp,h,by simp [Value.ownBlock]⟩
theorem ops_F (d nb ob bb:Nat) (B:List Nat) (σ:DSt) (w:World) (h:DKf w d B nb ob bb σ) :
  Calls Tryz.prog 22 #[.pointer (some ⟨d,0,none⟩)] w fun e w'=>e = .returned (.int .i64 σ.op)∧w' = w:=by
 obtain ⟨m,u,fv,fs,h1,rfl,hA⟩:=h.ex
 exact xc4a d σ.sec m nb w u fv σ.cr σ.op σ.off σ.ft fs h1
theorem off_F (d nb ob bb:Nat) (B:List Nat) (σ:DSt) (w:World) (h:DKf w d B nb ob bb σ) :
  Calls Tryz.prog 11 #[.pointer (some ⟨d,0,none⟩)] w fun e w'=>e = .returned (.bool σ.off)∧w' = w:=by
 obtain ⟨m,u,fv,fs,h1,rfl,hA⟩:=h.ex
 exact xb9r d σ.sec m nb w u fv σ.cr σ.op σ.off σ.ft fs h1
structure OpR (w w':World) (d nb ob bb:Nat) (B B':List Nat) (A:OpA) (lp bv:Value) (ts:List (Nat × Value × List En)):Prop where
 dk:DKf w' d B' (nb + 1) (ob + nb + 4) (bb + 48) A.σ
 ev:Ev w w' B B'
 bs:A.bs = ts.map (fun t=>(t.1,t.2.2))
 ow:OwnX B' w w' bv ts
 no:A.l = none→lp = .pointer none
 so:∀ s,A.l = some s→∃ l,lp = .pointer (some ⟨l,0,none⟩)∧w.heap.size≤l∧LK w' l d B' (nb + 1) (ob + nb + 4) (bb + 48) A.σ s∧OwnX (l :: B') w w' bv ts
theorem OpR.fail {w w':World} {d nb ob bb:Nat} {B B':List Nat} {e:Nat} {τ:DSt} (hd:DKf w' d B' (nb + 1) (ob + nb + 4) (bb + 48) τ) (ev:Ev w w' B B'):OpR w w' d nb ob bb B B' ⟨e,τ,none,[]⟩ (.pointer none) (.slice none 0 0) [] :=
 ⟨hd,ev,rfl,OwnX.none _ ev.1.size,fun _=>rfl,fun s h=>by cases h⟩
def OpP (w:World) (d nb ob bb:Nat) (B:List Nat) (A:OpA) (e:Ending) (w':World):Prop:=∃ B' lp bv ts,e = .returned (.tuple #[lp,bv,.int .i64 (A.e:Nat)])∧OpR w w' d nb ob bb B B' A lp bv ts
def opF2 (σ:DSt) (wd lim:Int):Option FSt→OpA
 | none=>⟨11,σ,none,[]⟩
 | some f=>opOf σ wd lim f
theorem opD_eq {σ:DSt} {wd lim:Int} (h:argOk wd lim = true) (h2:σ.off = false):opD σ wd lim = opF2 σ wd lim (findF σ wd fst0 (nmsOf σ)):=by
 unfold opD
 rw [h,if_neg (by simp),h2,if_neg (by simp)]
 cases findF σ wd fst0 (nmsOf σ) <;> rfl
theorem xb4w {σ:DSt} {wd:Int}:∀ {l:List (List UInt8)} {f g:FSt},findF σ wd f l = some g→g.sg.length≤f.sg.length + l.length∧∀ x∈g.sg,x∈f.sg∨x∈l
 | [],f,g,h=>by unfold findF at h; cases h; exact ⟨by simp,fun x hx=>Or.inl hx⟩
 | s :: r,f,g,h=>by
  cases hs:stepF σ wd f s with
  | none=>have:=xa8s h hs; cases this
  | some q =>
   have ih:=xb4w (xa6g h hs)
   have hq:q.sg.length≤f.sg.length + 1∧∀ x∈q.sg,x∈f.sg∨x = s:=by
    unfold stepF at hs
    split at hs
    ·cases hs; exact ⟨by omega,fun x hx=>Or.inl hx⟩
    ·split at hs
     ·cases hs
     ·split at hs
      ·cases hs; exact ⟨by show f.sg.length≤_; omega,fun x hx=>Or.inl hx⟩
      ·split at hs
       ·cases hs
        exact ⟨by show (f.sg++[s]).length≤_; simp,fun x hx=>by have hx2:x∈f.sg++[s]:=hx; simpa using hx2⟩
       ·cases hs
   refine ⟨by simp only [List.length_cons]; omega,fun x hx=>?_⟩
   rcases ih.2 x hx with h1 | h1
   ·rcases hq.2 x h1 with h2 | h2
    ·exact Or.inl h2
    ·exact Or.inr (by simp [h2])
   ·exact Or.inr (by simp [h1])
set_option maxHeartbeats 2000000 in
theorem xb0c (p:Value) (hp:p = .pointer none∨∃ d,p = .pointer (some ⟨d,0,none⟩)) (wd lim:Int) (w:World) (h:argOk wd lim = false) :
  Calls Tryz.prog 16 #[p,.int .i64 wd,.int .i64 lim] w fun e w'=>e = .returned (.tuple #[.pointer none,.slice none 0 0,.int .i64 1])∧w' = w:=by
 have h0:¬ (1≤wd∧wd≤32∧1≤lim∧lim≤1048576):=by simpa [argOk] using h
 by_cases c1:wd < 1
 ·clear h h0
  go_enter Tryz.func16,Tryz.ntmps16
  go_wp2_with fail
  refine bodyPost_ret (v:=.tuple #[.pointer none,.slice none 0 0,.int .i64 1]) (by rw [results_tmp3 rfl]; rfl) rfl ⟨rfl,rfl⟩
 ·by_cases c2:32 < wd
  ·clear h h0
   go_enter Tryz.func16,Tryz.ntmps16
   go_wp2_with fail
   refine bodyPost_ret (v:=.tuple #[.pointer none,.slice none 0 0,.int .i64 1]) (by rw [results_tmp3 rfl]; rfl) rfl ⟨rfl,rfl⟩
  ·by_cases c3:lim < 1
   ·clear h h0
    go_enter Tryz.func16,Tryz.ntmps16
    go_wp2_with fail
    refine bodyPost_ret (v:=.tuple #[.pointer none,.slice none 0 0,.int .i64 1]) (by rw [results_tmp3 rfl]; rfl) rfl ⟨rfl,rfl⟩
   ·have c4:1048576 < lim:=by omega
    clear h h0
    go_enter Tryz.func16,Tryz.ntmps16
    go_wp2_with fail
    refine bodyPost_ret (v:=.tuple #[.pointer none,.slice none 0 0,.int .i64 1]) (by rw [results_tmp3 rfl]; rfl) rfl ⟨rfl,rfl⟩
set_option maxHeartbeats 8000000 in
theorem xb1b (d nb ob bb g0:Nat) (wd lim:Int) (B:List Nat) (σ:DSt) (w:World) (hD:DKf w d B nb ob bb σ) (hv:VarsG g0 w) (hB:∀ x∈B,g0≤x) (hg0:g0≤w.heap.size) (hn:nb≤400000000) (hob:ob≤400000000) (hb:bb≤90000000000) (hT:rdT σ (nmsOf σ)≤1000000000000) :
  Calls Tryz.prog 16 #[.pointer (some ⟨d,0,none⟩),.int .i64 wd,.int .i64 lim] w fun e w'=>OpP w d nb ob bb B (opD σ wd lim) e w':=by
 by_cases hag:argOk wd lim = true
 ·have h0:1≤wd∧wd≤32∧1≤lim∧lim≤1048576:=by simpa [argOk] using hag
  have HWB:=hide (by unfold wideB; simp; omega:wideB wd = true)
  have HLB:=hide (⟨h0.2.2.1,h0.2.2.2⟩:1≤lim∧lim≤1048576)
  have c1:¬ wd < 1:=by omega
  have c2:¬ 32 < wd:=by omega
  have c3:¬ lim < 1:=by omega
  have c4:¬ 1048576 < lim:=by omega
  have hof:=off_F d nb ob bb B σ w hD
  by_cases hoff:σ.off = true
  ·have hA:opD σ wd lim = ⟨12,σ,none,[]⟩:=by unfold opD; rw [hag,if_neg (by simp),if_pos hoff]
   rw [hA]
   rw [hoff] at hof
   have HOF:=hide hof
   have HDK:=hide (hD.more (nb':=nb + 1) (ob':=ob + nb + 4) (bb':=bb + 48) (by omega) (by omega) (by omega))
   clear hag h0 hof hoff hA hD hv hB
   go_enter Tryz.func16,Tryz.ntmps16
   go_wp2_with fail
   refine Calls.mono (uh HOF) ?_
   rintro e w' ⟨rfl,rfl⟩
   go_wp2_with fail
   refine bodyPost_ret (v:=.tuple #[.pointer none,.slice none 0 0,.int .i64 12]) (by rw [results_tmp3 rfl]; rfl) rfl ⟨B,_,_,[],rfl,OpR.fail (uh HDK) (Ev.refl _ _)⟩
  ·have hoff':σ.off = false:=by simpa using hoff
   have HA:=hide (opD_eq hag hoff')
   rw [hoff'] at hof
   have HOF:=hide hof
   have HDK:=hide hD
   have HVG:=hide hv
   have HB:=hide hB
   have HFI:=hide (xb7y d nb ob bb g0 wd B σ w hD hv hg0 (by omega) (by omega) (by omega) hT)
   have HSG:=hide (fun f (h:findF σ wd fst0 (nmsOf σ) = some f)=>by
    have h9:=xb4w h
    refine ⟨Nat.le_trans h9.1 (by show 0 + _≤_; rw [Nat.zero_add]; exact Nat.le_trans (xb9u σ) hD.len),fun s hs=>?_⟩
    rcases h9.2 s hs with h8 | h8
    ·cases h8
    ·obtain ⟨q,hq,rfl⟩:=xc0c h8
     exact Nat.le_trans (Nat.le_of_eq (Array.length_toList)) (xa3q (hD.nms q hq)).2:∀ f,findF σ wd fst0 (nmsOf σ) = some f→f.sg.length≤nb∧∀ s∈f.sg,s.length≤40)
   obtain ⟨R,hR⟩:∃ R,findF σ wd fst0 (nmsOf σ) = R:=⟨_,rfl⟩
   obtain ⟨A,hA⟩:∃ A,opD σ wd lim = A:=⟨_,rfl⟩
   rw [hR] at HFI HA
   rw [hA] at HA ⊢
   simp only [hR] at HSG
   clear hag h0 hof hoff hoff' hR hA hD hv hB hT
   go_enter Tryz.func16,Tryz.ntmps16
   go_wp2_with fail
   refine Calls.mono (uh HOF) ?_
   rintro e w' ⟨rfl,rfl⟩
   go_wp2_with fail
   refine Calls.mono (uh HFI) ?_
   rintro e w1 ⟨⟨rfl,rfl⟩ | ⟨f,sv,bv,ts,rfl,rfl,ho,hx,heq,hlast,hep,hsz⟩,k1⟩
   ·have hz:=uh HA
    simp only [opF2] at hz
    subst hz
    have kN:=k1.alloc (.cells zFd 125)
    have HFA:=hide (OpR.fail (e:=11) ((uh HDK).kept kN (by simp) |>.more (nb':=nb + 1) (ob':=ob + nb + 4) (bb':=bb + 48) (by omega) (by omega) (by omega)) (⟨kN.mono (by simp),fun x hx=>Or.inl hx⟩:Ev w' _ B B))
    clear k1 kN HFI HOF HSG
    go_wp2_with fail
    refine bodyPost_ret (v:=.tuple #[.pointer none,.slice none 0 0,.int .i64 11]) (by rw [results_tmp3 rfl]; rfl) rfl ⟨B,_,_,[],rfl,uh HFA⟩
   ·have hz:=uh HA
    simp only [opF2] at hz
    obtain ⟨sa,sc,rfl⟩:=xa0q ho
    obtain ⟨ba,bc,rfl⟩:=hx.shape
    have kN:=(Kept.refl [] w1).alloc (.cells #[.int .u64 (f.last:Int),.int .u64 (f.ep:Int),.int .u64 (f.sz:Int),.slice sa f.sg.length sc,.slice ba ts.length bc] 125)
    have hN:(w1.alloc (.cells #[.int .u64 (f.last:Int),.int .u64 (f.ep:Int),.int .u64 (f.sz:Int),.slice sa f.sg.length sc,.slice ba ts.length bc] 125)).heap[w1.heap.size]? = some (.cells (fdC f (.slice sa f.sg.length sc) (.slice ba ts.length bc)) 125 (0,0)):=heap_alloc_new w1 (.cells #[.int .u64 (f.last:Int),.int .u64 (f.ep:Int),.int .u64 (f.sz:Int),.slice sa f.sg.length sc,.slice ba ts.length bc] 125)
    have HK1:=hide (k1.trans kN (by simp))
    have HZ:=hide hz
    have HSZ1:=hide k1.size
    have HHX:=hide hx
    have HHQ:=hide heq
    have HSF:=hide ((uh HSG) f rfl)
    have HLA:=hide hlast
    have HEP:=hide hep
    have HSZ:=hide hsz
    have HN:=hide hN
    have HD2:=hide ((uh HDK).old (k1.trans kN (by simp)))
    have HRS:=hide ((xa8l ho).kept kN (by simp))
    have HBS:=hide (fun x (hx:x∈blk (.slice sa f.sg.length sc)) (hm:x∈B)=>by
     have h9:=(ho.lt x (xa7e ho hx)).1
     have:=(uh HDK).lt x hm
     omega:∀ x∈blk (.slice sa f.sg.length sc),x∉B)
    clear hz k1 kN hN hx ho heq hlast hep hsz HFI HOF HSG HA
    unfold fdC
    go_upto_region 8 with fail
    obtain ⟨W2,hW2⟩:∃ W,w1.alloc (.cells #[.int .u64 (f.last:Int),.int .u64 (f.ep:Int),.int .u64 (f.sz:Int),.slice sa f.sg.length sc,.slice ba ts.length bc] 125) = W:=⟨_,rfl⟩
    have HS2:=hide (by rw [← hW2]; simp:W2.heap.size = w1.heap.size + 1)
    rw [hW2] at HK1 HN HD2 HRS ⊢
    have HK12:=hide (by rw [← hW2]; exact (Kept.refl [] w1).alloc (.cells #[.int .u64 (f.last:Int),.int .u64 (f.ep:Int),.int .u64 (f.sz:Int),.slice sa f.sg.length sc,.slice ba ts.length bc] 125):Kept [] w1 W2)
    clear hW2
    have HFL:=hide (xb1e w1.heap.size d nb ob bb B σ f (.slice sa f.sg.length sc) (.slice ba ts.length bc) W2 (uh HN) (uh HRS) (uh HSF).2 (uh HD2) (uh HBS) (by omega) (by have:=(uh HSF).1; omega))
    obtain ⟨⟨E3,τ3⟩,hR3⟩:∃ R,stSyncs σ f.sg = R:=⟨_,rfl⟩
    obtain ⟨⟨E5,τ5⟩,hR5⟩:∃ R,stBegin τ3 (f.last + 1) (f.ep + 1) f.sz wd = R:=⟨_,rfl⟩
    have HA1:=hide (fun (h0:E3≠0)=>(by rw [uh HZ]; unfold opOf; rw [hR3]; dsimp only; rw [if_pos h0]:A = ⟨E3,τ3,none,[]⟩))
    have HA2:=hide (fun (h0:E3 = 0) (h1:E5≠0)=>(by rw [uh HZ]; unfold opOf; rw [hR3]; dsimp only; rw [hR5]; dsimp only; rw [if_neg (by simpa using h0),if_pos h1]:A = ⟨E5,τ5,none,[]⟩))
    have HA3:=hide (fun (h0:E3 = 0) (h1:E5 = 0)=>(by rw [uh HZ]; unfold opOf; rw [hR3]; dsimp only; rw [hR5]; dsimp only; rw [if_neg (by simpa using h0),if_neg (by simpa using h1)]:A = ⟨0,τ5,some ⟨f.last + 1,f.ep + 1,f.sz,wd,48,0,lim,f.sz,0⟩,f.bs⟩))
    rw [hR3] at HFL
    have HR5:=hide hR5
    clear hR3 hR5 HZ
    dsimp only at *
    go_wp2_with fail
    refine Calls.mono (uh HFL) ?_
    rintro e w3 ⟨B3,rfl,hd3,ev3⟩
    have HD3:=hide hd3
    have HE3:=hide (Ev.pre (uh HK1) ev3)
    have HN3:=hide (ev3.1.heap (uh HN) (by intro hm; have:=(uh HDK).lt _ hm; have:=uh HSZ1; omega))
    have HS3:=hide ev3.1.size
    have HKE:=hide ev3
    clear hd3 ev3 HFL
    by_cases h3:E3 = 0
    ·subst h3
     obtain ⟨e0,e1,e2,e3,e4⟩:=xa0v (uh HN3)
     have hw1:IntKind.u64.wrap ((f.last:Int) + 1) = ((f.last + 1:Nat):Int):=by rw [IntKind.wrap_u64]; have:=uh HLA; omega
     have hw2:IntKind.u64.wrap ((f.ep:Int) + 1) = ((f.ep + 1:Nat):Int):=by rw [IntKind.wrap_u64]; have:=uh HEP; omega
     have kC:=(Kept.refl [] w3).alloc (.cells (curC d (f.last + 1) (f.ep + 1) f.sz wd 0 0) 130)
     have hC:=heap_alloc_new w3 (.cells (curC d (f.last + 1) (f.ep + 1) f.sz wd 0 0) 130)
     have HD4:=hide ((uh HD3).old kC)
     have HN4:=hide (kC.heap (uh HN3) (by simp))
     have HKC:=hide kC
     have HC:=hide hC
     clear kC hC
     go_upto_region 14 with fail
     clear e0 e1 e2 e3 e4 hw1 hw2
     obtain ⟨W4,hW4⟩:∃ W,w3.alloc (.cells (curC d (f.last + 1) (f.ep + 1) f.sz wd 0 0) 130) = W:=⟨_,rfl⟩
     have HW4':=hide hW4
     have HS4:=hide (by rw [← hW4]; simp:W4.heap.size = w3.heap.size + 1)
     rw [hW4] at HD4 HN4 HKC HC
     have hW5:w3.alloc (.cells #[.pointer (some ⟨d,0,none⟩),.int .u64 ((f.last:Int) + 1),.int .u64 ((f.ep:Int) + 1),.int .u64 (f.sz:Int),.int .i64 wd,.int .i64 0,.int .i64 0] 130) = W4:=by rw [← hW4]; unfold curC; push_cast; rfl
     rw [hW5]
     clear hW5
     clear hW4 HW4'
     have HBG:=hide (xa7q w3.heap.size (f.last + 1) (f.ep + 1) f.sz d nb (ob + f.sg.length) bb g0 wd B3 τ3 W4 (uh HC) (uh HWB) (by have:=uh HLA; omega) (((uh HVG).on (uh HE3).1 (uh HB)).old (uh HKC)) ((uh HE3).ge (uh HB) hg0) (by have:=(uh HE3).1.size; have:=(uh HKC).size; omega) (uh HD4) (fun hm=>by have:=(uh HD3).lt _ hm; omega) (by omega) (by have:=(uh HSF).1; omega) (by omega))
     rw [uh HR5] at HBG
     dsimp only at HBG
     go_wp2_with fail
     refine Calls.mono (uh HBG) ?_
     rintro e w5 ⟨B5,rfl,hd5,k5,hb5,hr5⟩
     dsimp only at hd5
     have HSB:=hide (uh HSF).1
     have HD5:=hide (hd5.more (Nat.le_refl _) (by have:=uh HSB; omega:ob + f.sg.length + 4≤ob + nb + 4) (Nat.le_refl _))
     have HK5:=hide k5
     have HR5':=hide hr5
     have HB5:=hide hb5
     have HN5:=hide (k5.heap (uh HN4) (by
       intro hm
       rcases List.mem_cons.1 hm with h9 | h9
       ·have:=uh HS3
        have:=uh HS2
        omega
       ·have h8:=(uh HD3).lt _ h9
        rcases (uh HKE).2 _ h9 with h7 | h7
        ·have:=(uh HDK).lt _ h7
         have:=uh HSZ1
         omega
        ·have:=uh HS2
         omega))
     have k35:Kept (w3.heap.size :: B3) w3 w5:=((uh HKC).mono (M:=w3.heap.size :: B3) (by simp)).trans k5 (fun x hx=>Or.inl hx)
     have HE5:=hide (⟨(uh HE3).1.trans k35 (fun x hx=>by
       rcases List.mem_cons.1 hx with rfl | hx
       ·exact Or.inr (uh HE3).1.size
       ·exact (uh HE3).2 x hx),fun x hx=>by
       rcases hb5 x hx with h9 | h9
       ·exact (uh HE3).2 x h9
       ·exact Or.inr (by have:=(uh HE3).1.size; have:=(uh HKC).size; omega)⟩:Ev w' w5 B B5)
     have HQ5:=hide (fun x hx=>by
       rcases hb5 x hx with h9 | h9
       ·rcases (uh HKE).2 x h9 with h8 | h8
        ·exact Or.inl ((uh HDK).lt x h8)
        ·exact Or.inr (by have:=uh HS2; omega)
       ·exact Or.inr (by have:=uh HS4; have:=uh HS3; have:=uh HS2; omega):∀ x∈B5,x < w'.heap.size∨w1.heap.size≤x)
     have HKX:=hide (((uh HK12).mono (M:=w3.heap.size :: (B3++B)) (by simp)).trans (((uh HKE).1.mono (M:=w3.heap.size :: (B3++B)) (fun x hx=>by simp [hx])).trans (k35.mono (M:=w3.heap.size :: (B3++B)) (fun x hx=>by
       rcases List.mem_cons.1 hx with rfl | hx
       ·simp
       ·simp [hx])) (fun x hx=>Or.inl hx)) (fun x hx=>Or.inl hx):Kept (w3.heap.size :: (B3++B)) w1 w5)
     have HMX:=hide (fun x hx=>by
       rcases List.mem_cons.1 hx with rfl | hx
       ·exact Or.inr (by have:=uh HS3; have:=uh HS2; omega)
       ·rcases List.mem_append.1 hx with hx | hx
        ·rcases (uh HKE).2 x hx with h8 | h8
         ·exact Or.inl ((uh HDK).lt x h8)
         ·exact Or.inr (by have:=uh HS2; omega)
        ·exact Or.inl ((uh HDK).lt x hx):∀ x∈w3.heap.size :: (B3++B),x < w'.heap.size∨w1.heap.size≤x)
     clear hd5 k5 hb5 hr5 HBG HD4 HN4 HKC HC k35
     by_cases h5:E5 = 0
     ·subst h5
      have hz:=uh HA3 (by simp) (by simp)
      subst hz
      go_upto_region 17 with fail
      obtain ⟨e0,e1,e2,e3,e4⟩:=xa0v (uh HN5)
      obtain ⟨q0,q1,q2,q3,q4,q5,q6⟩:=xa1n (uh HR5')
      refine xc4w (by kernel_rfl) (by kernel_rfl) (by kernel_rfl) (by kernel_rfl) (by kernel_rfl) (by kernel_rfl) (by kernel_rfl) (by kernel_rfl) (by kernel_rfl) (by kernel_rfl) (by kernel_rfl) (by kernel_rfl) (by kernel_rfl) (by kernel_rfl) (by kernel_rfl) (by kernel_rfl) (by kernel_rfl) (by kernel_rfl) (by kernel_rfl) (by kernel_rfl) (by kernel_rfl) (by kernel_rfl) (by kernel_rfl) (by kernel_rfl) rfl
       (.agg (curC d (f.last + 1) (f.ep + 1) f.sz wd 48 0)) (.int .i64 lim) (.pointer (some ⟨w1.heap.size,2,none⟩)) (.int .u64 (f.sz:Int)) (.agg (lgC d ⟨f.last + 1,f.ep + 1,f.sz,wd,48,0,lim,f.sz,0⟩)) (.pointer (some ⟨w1.heap.size,4,none⟩)) (.slice ba ts.length bc) _ _ _ _ _ _ _
       (fun w'=>Kept [] w5 w')
       (fun w'=>Kept [] w5 w')
       (fun u5 w'=>∃ l,u5 = .pointer (some ⟨l,0,none⟩)∧w5.heap.size≤l∧w'.heap[l]? = some (.cells (lgC d ⟨f.last + 1,f.ep + 1,f.sz,wd,48,0,lim,f.sz,0⟩) 132 (0,0))∧Kept [] w5 w')
       (fun u5=>u5) (fun _=>.slice ba ts.length bc) (fun _=>.int .i64 0)
       (by simp only [Act.put,sa1,sa2,sa3]; rfl) (by exact Or.inl ⟨by rfl,fun W' hW'=>by have h0:=hW'.cell q0 (by simp); have h1:=hW'.cell q1 (by simp); have h2:=hW'.cell q2 (by simp); have h3:=hW'.cell q3 (by simp); have h4:=hW'.cell q4 (by simp); have h5:=hW'.cell q5 (by simp); have h6:=hW'.cell q6 (by simp); go_simp; unfold curC; push_cast; rfl⟩)
       (by simp only [Act.put,sa1,sa2,sa3]; rfl) (by exact Or.inl ⟨by rfl,fun W' hW'=>by go_simp⟩)
       (by simp only [Act.put,sa1,sa2,sa3]; rfl) (by exact Or.inl ⟨by rfl,fun W' hW'=>by go_simp⟩)
       (by simp only [Act.put,sa1,sa2,sa3]; rfl) (by exact Or.inl ⟨by rfl,fun W' hW'=>by have h2:=hW'.cell e2 (by simp); go_simp⟩)
       (by simp only [Act.put,sa1,sa2,sa3]; rfl) (by exact Or.inl ⟨by rfl,fun W' hW'=>by unfold curC lgC; go_simp; try (push_cast; rfl)⟩)
       (by simp only [Act.put,sa1,sa2,sa3]; rfl) (by exact Or.inl ⟨by rfl,fun W' hW'=>by go_simp⟩)
       (by simp only [Act.put,sa1,sa2,sa3]; rfl) (by exact Or.inl ⟨by rfl,fun W' hW'=>by have h4:=hW'.cell e4 (by simp); go_simp⟩)
       (Kept.refl [] w5).drew
       ⟨fun w' h=>h,fun u5 w' h=>h.choose_spec.2.2.2⟩
       (by
        intro w' k K hK
        have hK2:=hK _ _ ⟨w'.heap.size,rfl,k.size,heap_alloc_new w' (.cells (lgC d ⟨f.last + 1,f.ep + 1,f.sz,wd,48,0,lim,f.sz,0⟩) 132),k.alloc _⟩
        clear hK
        simp only [Act.put,sa1,sa2,sa3] at hK2 ⊢
        unfold Oper.wp execOp
        go_simp
        exact hK2)
       (by rintro u5 w' ⟨l,rfl,_⟩; exact Or.inl ⟨by rfl,fun W' hW'=>by go_simp⟩)
       (by rintro u5 w' ⟨l,rfl,_⟩; exact Or.inl ⟨by rfl,fun W' hW'=>by go_simp⟩)
       (by rintro u5 w' ⟨l,rfl,_⟩; exact Or.inl ⟨by rfl,fun W' hW'=>by go_simp⟩)
       ?_
      rintro u5 w6 ⟨l,rfl,hl,hrl,k6⟩
      simp only [Act.put,sa1,sa2,sa3]
      clear e0 e1 e2 e3 e4 q0 q1 q2 q3 q4 q5 q6
      have hdk:=(uh HD5).old k6
      have hlB:l∉B5:=fun hm=>by have:=(uh HD5).lt _ hm; omega
      have HFN:=hide (⟨hdk,⟨(uh HE5).1.trans k6 (by simp),(uh HE5).2⟩,(uh HHQ),(uh HHX).re ((uh HKX).trans k6 (by simp)) (uh HMX) (uh HQ5),(fun h=>(by cases h)),fun s hs=>by
        cases hs
        exact ⟨l,rfl,by have:=(uh HE5).1.size; omega,⟨hrl,hdk,hlB,by have:=uh HLA; show f.last + 1 < _; omega,by have:=uh HEP; show f.ep + 1 < _; omega,uh HSZ,uh HWB,by show 0≤_; omega,by show 48≤_; omega,uh HLB,by show 0 < 100; omega⟩,(uh HHX).re ((uh HKX).trans k6 (by simp)) (uh HMX) (fun x hx=>by
         rcases List.mem_cons.1 hx with rfl | hx
         ·exact Or.inr (by have:=(uh HKX).size; omega)
         ·exact uh HQ5 x hx)⟩⟩:OpR w' w6 d nb ob bb B B5 ⟨0,τ5,some ⟨f.last + 1,f.ep + 1,f.sz,wd,48,0,lim,f.sz,0⟩,f.bs⟩ (.pointer (some ⟨l,0,none⟩)) (.slice ba ts.length bc) ts)
      clear hdk hlB hl hrl k6
      go_wp2_with fail
      refine bodyPost_ret (v:=.tuple #[.pointer (some ⟨l,0,none⟩),.slice ba ts.length bc,.int .i64 0]) (by rw [results_tmp3 rfl]; rfl) rfl ⟨B5,_,_,ts,rfl,uh HFN⟩
     ·have h5':((E5:Int) != 0) = true:=by rw [bne_iff_ne]; omega
      have hz:=uh HA2 (by simp) h5
      subst hz
      clear h5
      go_wp2_with fail
      refine bodyPost_ret (v:=.tuple #[.pointer none,.slice none 0 0,.int .i64 (E5:Int)]) (by rw [results_tmp3 rfl]; rfl) rfl ⟨B5,_,_,[],rfl,OpR.fail (uh HD5) (uh HE5)⟩
    ·have h3':((E3:Int) != 0) = true:=by rw [bne_iff_ne]; omega
     have hz:=uh HA1 h3
     subst hz
     have HD9:=hide ((uh HD3).more (nb':=nb + 1) (ob':=ob + nb + 4) (bb':=bb + 48) (by omega) (by have:=(uh HSF).1; omega) (by omega))
     clear h3
     go_wp2_with fail
     refine bodyPost_ret (v:=.tuple #[.pointer none,.slice none 0 0,.int .i64 (E3:Int)]) (by rw [results_tmp3 rfl]; rfl) rfl ⟨B3,_,_,[],rfl,OpR.fail (uh HD9) (uh HE3)⟩
 ·have hag':argOk wd lim = false:=by simpa using hag
  have hA:opD σ wd lim = ⟨1,σ,none,[]⟩:=by unfold opD; rw [if_pos hag']
  rw [hA]
  refine Calls.mono (xb0c _ (Or.inr ⟨d,rfl⟩) wd lim w hag') ?_
  rintro e w' ⟨rfl,rfl⟩
  exact ⟨B,_,_,[],rfl,OpR.fail (hD.more (by omega) (by omega) (by omega)) (Ev.refl _ _)⟩
theorem nmB_ne {a b:Nat} (ha:a < 18446744073709551616) (hb:b < 18446744073709551616) (h:a≠b):nmB a≠nmB b:=by
 intro e
 exact h (xc4j ha hb (xb3y (xa5q a) (xa5q b) e))
theorem awk1:opD (dH 16 0 []) 4 1 = ⟨0,dH 16 4 [⟨nmB 1,ehB 1 1 0 4,48,true⟩],some ⟨1,1,0,4,48,0,1,0,0⟩,[]⟩:=by
 rw [opD_eq (by decide) rfl]
 have h1:nmsOf (dH 16 0 []) = []:=by simp [nmsOf,srtN,dH]
 rw [h1]
 show opOf (dH 16 0 []) 4 1 fst0 = _
 unfold opOf
 have h2:stSyncs (dH 16 0 []) fst0.sg = (0,dH 16 0 []):=rfl
 rw [h2]
 dsimp only
 have h3:=xb3r (sec:=16) (op:=0) (A:=[]) (fst0.last + 1) (fst0.ep + 1) fst0.sz (wd:=4) (by omega) (by decide) (by simp)
 rw [h3]
 rfl
theorem lay_h {sec:Nat} {op:Int} {A:List DF} {s:LSt} (p:List Nat) (h:0≤op) (hn:(findA A (nmB s.num).data.toList).isSome = true):lgLay (dH sec op A) s p = (0,dH sec (op + 1) (upA A (nmB s.num) fun f=>{ f with bs:=f.bs++p }),{ s with byt:=s.byt + p.length,bt:=s.bt + 1 }):=by
 unfold lgLay
 rw [xb5j p h hn]
 rfl
theorem xb3a {x:DF} {s:ByteArray} (hx:x.nm = s):(findA [x] s.data.toList).isSome = true:=xa2o (A:=[]) hx
theorem awk2:∃ n p,lgAppend (dH 16 4 [⟨nmB 1,ehB 1 1 0 4,48,true⟩]) ⟨1,1,0,4,48,0,1,0,0⟩ [⟨1,[1],[2]⟩] = (0,dH 16 5 [⟨nmB 1,p,48,true⟩],⟨1,1,0,4,48 + n,1,1,1,0⟩):=by
 have hc:chkB 0 [⟨1,[1],[2]⟩] = 0:=by decide
 refine ⟨(sbB 0 [⟨1,[1],[2]⟩]).length,ehB 1 1 0 4++sbB 0 [⟨1,[1],[2]⟩],?_⟩
 have hw:lgWrite (dH 16 4 [⟨nmB 1,ehB 1 1 0 4,48,true⟩]) ⟨1,1,0,4,48,0,1,0,0⟩ (sbB 0 [⟨1,[1],[2]⟩]) = (0,dH 16 5 [⟨nmB 1,ehB 1 1 0 4++sbB 0 [⟨1,[1],[2]⟩],48,true⟩],⟨1,1,0,4,48 + (sbB 0 [⟨1,[1],[2]⟩]).length,1,1,0,0⟩):=by
  unfold lgWrite
  rw [if_neg (by decide),lay_h _ (by omega) (xb3a rfl)]
  have hu:=xa7j [] (nmB 1) (fun f=>{ f with bs:=f.bs++sbB 0 [⟨1,[1],[2]⟩] }) ⟨nmB 1,ehB 1 1 0 4,48,true⟩ rfl (by simp)
  rw [List.nil_append,List.nil_append] at hu
  dsimp only
  rw [hu]
  rfl
 unfold lgAppend
 dsimp only
 rw [if_neg (by simp [hc]),if_neg (by decide),hw]
 rfl
theorem awk3 (n:Nat) (p:List Nat):∃ A m,lgAppend (dH 16 5 [⟨nmB 1,p,48,true⟩]) ⟨1,1,0,4,48 + n,1,1,1,0⟩ [⟨1,[3],[4]⟩] = (0,dH 16 11 A,⟨2,1,1,4,m,1,1,2,0⟩)∧(findA A (nmB 2).data.toList).isSome = true:=by
 have hc:chkB 1 [⟨1,[3],[4]⟩] = 0:=by decide
 have hs:=sync_h (sec:=16) (op:=5) (A:=[⟨nmB 1,p,48,true⟩]) (s:=nmB 1) (by omega) (xb3a rfl)
 have hu:=xa7j [] (nmB 1) (fun f=>{ f with sy:=f.bs.length }) ⟨nmB 1,p,48,true⟩ rfl (by simp)
 rw [List.nil_append,List.nil_append] at hu
 rw [hu] at hs
 dsimp only at hs
 have hb:=xb3r (sec:=16) (op:=5 + 1) (A:=[⟨nmB 1,p,p.length,true⟩]) 2 1 1 (wd:=4) (by omega) (by decide) (fun f hf=>by
  rw [List.mem_singleton] at hf
  subst hf
  exact nmB_ne (by omega) (by omega) (by omega))
 have hr:lgRot (dH 16 5 [⟨nmB 1,p,48,true⟩]) ⟨1,1,0,4,48 + n,1,1,1,0⟩ = (0,dH 16 10 [⟨nmB 1,p,p.length,true⟩,⟨nmB 2,ehB 2 1 1 4,48,true⟩],⟨2,1,1,4,48,0,1,1,0⟩):=by
  unfold lgRot
  dsimp only
  rw [hs]
  dsimp only
  rw [hb]
  rfl
 have hl:=lay_h (sec:=16) (op:=10) (A:=[⟨nmB 1,p,p.length,true⟩,⟨nmB 2,ehB 2 1 1 4,48,true⟩]) (s:=⟨2,1,1,4,48,0,1,1,0⟩) (sbB 1 [⟨1,[3],[4]⟩]) (by omega) (xa2o (A:=[⟨nmB 1,p,p.length,true⟩]) rfl)
 refine ⟨upA [⟨nmB 1,p,p.length,true⟩,⟨nmB 2,ehB 2 1 1 4,48,true⟩] (nmB 2) fun f=>{ f with bs:=f.bs++sbB 1 [⟨1,[3],[4]⟩] },48 + (sbB 1 [⟨1,[3],[4]⟩]).length,?_,?_⟩
 ·have hw:lgWrite (dH 16 5 [⟨nmB 1,p,48,true⟩]) ⟨1,1,0,4,48 + n,1,1,1,0⟩ (sbB 1 [⟨1,[3],[4]⟩]) = (0,dH 16 11 (upA [⟨nmB 1,p,p.length,true⟩,⟨nmB 2,ehB 2 1 1 4,48,true⟩] (nmB 2) fun f=>{ f with bs:=f.bs++sbB 1 [⟨1,[3],[4]⟩] }),⟨2,1,1,4,48 + (sbB 1 [⟨1,[3],[4]⟩]).length,1,1,1,0⟩):=by
   unfold lgWrite
   have hf:lgFull ⟨1,1,0,4,48 + n,1,1,1,0⟩ = true:=by unfold lgFull; simp; omega
   rw [if_pos hf,hr]
   dsimp only
   rw [if_neg (by simp),hl]
   rfl
  unfold lgAppend
  dsimp only
  rw [if_neg (by simp [hc]),if_neg (by simp [lgFail]),hw]
  rfl
 ·unfold findA upA
  rw [List.find?_isSome]
  exact ⟨{ (⟨nmB 2,ehB 2 1 1 4,48,true⟩:DF) with bs:=ehB 2 1 1 4++sbB 1 [⟨1,[3],[4]⟩] },by simp,by simp⟩
theorem awk4 (A:List DF) (m:Nat) (h:(findA A (nmB 2).data.toList).isSome = true):∃ C,lgSync (dH 16 11 A) ⟨2,1,1,4,m,1,1,2,0⟩ = (0,dH 16 12 C,⟨2,1,1,4,m,1,1,2,0⟩):=by
 unfold lgSync
 rw [if_neg (by simp [lgFail])]
 dsimp only
 rw [sync_h (by omega) h]
 exact ⟨_,rfl⟩
theorem LK.varsG {g0:Nat} {w w':World} {l:Nat} {B B':List Nat} (hv:VarsG g0 w) (ev:EvL w w' l B B') (hB:∀ x∈B,g0≤x) (hl:g0≤l):VarsG g0 w':=hv.on ev.1 (fun x hx=>by
 rcases List.mem_cons.1 hx with rfl | hx
 ·exact hl
 ·exact hB x hx)
set_option maxHeartbeats 2000000 in
theorem xb3b (k v:Nat) (w:World) (hk:k < 256) (hv:v < 256) :
  Calls Tryz.prog 27 #[.int .u8 (k:Int),.int .u8 (v:Int)] w fun e w'=>∃ ka kc va vc,e = .returned (.agg #[.int .u8 1,.slice ka 1 kc,.slice va 1 vc])∧OkE w' ⟨1,[k],[v]⟩ (.slice ka 1 kc) (.slice va 1 vc)∧Kept [] w w':=by
 have HE:=hide (xa8i w (.cells #[.int .u8 1,.slice (some ⟨w.heap.size + 1,0,none⟩) 1 1,.slice (some ⟨w.heap.size + 1 + 1,0,none⟩) 1 1] 71) (.cells #[.int .u8 (k:Int)] 5) (.cells #[.int .u8 (v:Int)] 5))
 have HK:=hide ((((Kept.refl [] w).alloc (.cells #[.int .u8 1,.slice (some ⟨w.heap.size + 1,0,none⟩) 1 1,.slice (some ⟨w.heap.size + 1 + 1,0,none⟩) 1 1] 71)).alloc (.cells #[.int .u8 (k:Int)] 5)).alloc (.cells #[.int .u8 (v:Int)] 5))
 go_enter Tryz.func27,Tryz.ntmps27
 go_wp2_with fail
 obtain ⟨h1,h2,h3⟩:=uh HE
 refine bodyPost_ret (v:=.agg #[.int .u8 1,.slice (some ⟨w.heap.size + 1,0,none⟩) 1 1,.slice (some ⟨w.heap.size + 1 + 1,0,none⟩) 1 1]) ?_ rfl ⟨_,_,_,_,rfl,⟨by show (1:Nat) < 256; omega,rd_row [k] h2 rfl (by simpa using hk) 1 rfl (by omega),rd_row [v] h3 rfl (by simpa using hv) 1 rfl (by omega)⟩,uh HK⟩
 exact xa3j rfl _ _ w.heap.size _ #[.int .u8 1,.slice (some ⟨w.heap.size + 1,0,none⟩) 1 1,.slice (some ⟨w.heap.size + 1 + 1,0,none⟩) 1 1] (0,0) _ rfl h1 Tryz.underlying71 rfl Tryz.size_entry
set_option maxHeartbeats 4000000 in
theorem xb3k (w:World) (hv:VarsS w):Calls Tryz.prog 7 #[] w fun e w'=>e = .returned (.bool true)∧Kept [] w w':=by
 have HVG:=hide (VarsG.start hv)
 have HN:=hide (newM_D 16 w (by omega) (by omega))
 clear hv
 go_enter Tryz.func7,Tryz.ntmps7
 go_wp2_with fail
 refine Calls.mono (uh HN) ?_
 rintro e w1 ⟨d,B,rfl,hD,k1,hB⟩
 have hF:DKf w1 d B 0 0 0 (dH 16 0 []):=hD.toF (by show (0:Int)≤0; omega)
 have HOP:=hide (xb1b d 0 0 0 w.heap.size 4 1 B (dH 16 0 []) w1 hF ((uh HVG).old k1) hB k1.size (by omega) (by omega) (by omega) (Nat.le_trans (rdT_le _ hF.dist) (by show 0≤_; omega)))
 rw [awk1] at HOP
 have HK1:=hide k1
 have HB1:=hide hB
 clear hD hF k1 hB HN
 go_wp2_with fail
 refine Calls.mono (uh HOP) ?_
 rintro e w2 ⟨B2,lp,bv,ts,rfl,hR⟩
 obtain ⟨l,rfl,hl,hLK,_⟩:=hR.so _ rfl
 have hts:ts = []:=by have h9:=hR.bs; cases ts with | nil=>rfl | cons a b=>cases h9
 subst hts
 obtain ⟨ba,bc,rfl⟩:=hR.ow.shape
 have HLK2:=hide hLK
 have HK2:=hide ((uh HK1).trans hR.ev.1 (fun x hx=>Or.inr (uh HB1 x hx)))
 have HB2:=hide (hR.ev.ge (uh HB1) (uh HK1).size)
 have HV2:=hide (((uh HVG).old (uh HK1)).on hR.ev.1 (uh HB1))
 have HL:=hide (Nat.le_trans (uh HK1).size hl)
 have HOS:=hide (ops_F _ _ _ _ _ _ w2 hLK.dk)
 clear hR hLK hl HOP HK1 HB1
 go_wp2_with fail
 refine Calls.mono (uh HOS) ?_
 rintro e w3 ⟨rfl,rfl⟩
 have HP1:=hide (xb3b 1 2 w3 (by omega) (by omega))
 clear HOS
 go_wp2_with fail
 refine Calls.mono (uh HP1) ?_
 rintro e w4 ⟨ka,kc,va,vc,rfl,ok4,k4⟩
 have hN4:=heap_alloc_new w4 (.cells #[.int .u8 1,.slice ka 1 kc,.slice va 1 vc] 71)
 have kA4:=(Kept.refl [] w4).alloc (.cells #[.int .u8 1,.slice ka 1 kc,.slice va 1 vc] 71)
 have hrn:=RdN.one (e:=⟨1,[1],[2]⟩) hN4 (ok4.old kA4)
 have HAP:=hide (xa3b l d _ _ _ w.heap.size B2 _ _ _ _ _ (((uh HLK2).old k4).old kA4) (((uh HV2).old k4).old kA4) (uh HB2) (uh HL) (Nat.le_trans (uh HK2).size (Nat.le_trans k4.size kA4.size)) hrn (by omega) (by omega) (by omega))
 have HKA:=hide (k4.trans kA4 (by simp))
 clear hN4 kA4 hrn ok4 k4 HP1
 obtain ⟨n5,p5,hw5⟩:=awk2
 rw [hw5] at HAP
 clear hw5
 go_wp2_with fail
 refine Calls.mono (uh HAP) ?_
 rintro e w5 ⟨B5,rfl,hLK5,ev5⟩
 have HLK5:=hide hLK5
 have HK5:=hide (((uh HK2).trans (uh HKA) (by simp)).trans ev5.1 (fun x hx=>Or.inr (by
  rcases List.mem_cons.1 hx with rfl | hx
  ·exact uh HL
  ·exact uh HB2 x hx)))
 have HB5:=hide (ev5.ge (uh HB2) (Nat.le_trans (uh HK2).size (uh HKA).size))
 have HV5:=hide (LK.varsG ((uh HV2).old (uh HKA)) ev5 (uh HB2) (uh HL))
 clear hLK5 ev5 HAP HKA HB2 HV2 HLK2 HK2
 have HP1:=hide (xb3b 3 4 w5 (by omega) (by omega))
 go_wp2_with fail
 refine Calls.mono (uh HP1) ?_
 rintro e w6 ⟨ka,kc,va,vc,rfl,ok4,k4⟩
 have hN4:=heap_alloc_new w6 (.cells #[.int .u8 1,.slice ka 1 kc,.slice va 1 vc] 71)
 have kA4:=(Kept.refl [] w6).alloc (.cells #[.int .u8 1,.slice ka 1 kc,.slice va 1 vc] 71)
 have hrn:=RdN.one (e:=⟨1,[3],[4]⟩) hN4 (ok4.old kA4)
 have HAP:=hide (xa3b l d _ _ _ w.heap.size B5 _ _ _ _ _ (((uh HLK5).old k4).old kA4) (((uh HV5).old k4).old kA4) (uh HB5) (uh HL) (Nat.le_trans (uh HK5).size (Nat.le_trans k4.size kA4.size)) hrn (by omega) (by omega) (by omega))
 have HKA:=hide (k4.trans kA4 (by simp))
 clear hN4 kA4 hrn ok4 k4 HP1
 try dsimp only at HAP
 obtain ⟨A7,m7,hw7,hf7⟩:=awk3 n5 p5
 rw [hw7] at HAP
 clear hw7
 go_wp2_with fail
 refine Calls.mono (uh HAP) ?_
 rintro e w7 ⟨B7,rfl,hLK7,ev7⟩
 have HLK7:=hide hLK7
 have HK7:=hide (((uh HK5).trans (uh HKA) (by simp)).trans ev7.1 (fun x hx=>Or.inr (by
  rcases List.mem_cons.1 hx with rfl | hx
  ·exact uh HL
  ·exact uh HB5 x hx)))
 have HB7:=hide (ev7.ge (uh HB5) (Nat.le_trans (uh HK5).size (uh HKA).size))
 have HV7:=hide (LK.varsG ((uh HV5).old (uh HKA)) ev7 (uh HB5) (uh HL))
 clear hLK7 ev7 HAP HKA HB5 HV5 HLK5 HK5
 have HSY:=hide (xb0s l d _ _ _ w.heap.size B7 _ _ w7 (uh HLK7) (uh HV7) (by omega) (by omega))
 try dsimp only at HSY
 obtain ⟨C8,hw8⟩:=awk4 A7 m7 hf7
 rw [hw8] at HSY
 clear hw8 hf7
 go_wp2_with fail
 refine Calls.mono (uh HSY) ?_
 rintro e w8 ⟨B8,rfl,hLK8,ev8⟩
 have HLK8:=hide hLK8
 have HK8:=hide ((uh HK7).trans ev8.1 (fun x hx=>Or.inr (by
  rcases List.mem_cons.1 hx with rfl | hx
  ·exact uh HL
  ·exact uh HB7 x hx)))
 clear hLK8 ev8 HSY HB7 HV7 HLK7 HK7
 go_wp2_with fail
 refine Calls.mono (xa2r l d _ w8 (uh HLK8).row) ?_
 rintro e w9 ⟨rfl,rfl⟩
 go_wp2_with fail
 refine Calls.mono (xa2p l d _ w9 (uh HLK8).row) ?_
 rintro e w10 ⟨rfl,rfl⟩
 go_wp2_with fail
 refine Calls.mono (xa1v l d _ w10 (uh HLK8).row) ?_
 rintro e w11 ⟨rfl,rfl⟩
 go_wp2_with fail
 refine Calls.mono (xa4h l d _ w11 (uh HLK8).row) ?_
 rintro e w12 ⟨rfl,rfl⟩
 go_wp2_with fail
 refine Calls.mono (ops_F _ _ _ _ _ _ w12 (uh HLK8).dk) ?_
 rintro e w13 ⟨rfl,rfl⟩
 go_wp2_with fail
 go_ret
 exact ⟨rfl,uh HK8⟩
end
section
open Go.RowKit Go.BigFrame

end
section
open Go Go.RowKit Go.BigFrame
section
variable {P:Program} {Q:Exit→Act→World→Prop}
end
end
section
open Go.RowKit Go.BigFrame

end
section
open Go.RowKit Go.BigFrame Go.Maps Go.Sort

end
section
open Go.RowKit Go.BigFrame
set_option maxHeartbeats 2000000 in
theorem xa2g (v:Value) (es:List En) (w:World) (h:RdN w v es) (hl:es.length≤1048576) :
  Calls Tryz.prog 55 #[v] w fun r w'=>∃ v',r = .returned v'∧NewN w.heap.size w' v' es∧Kept [] w w':=by
 obtain ⟨ao,len,cap,kv,vv,rfl,h1,h2,h3,h4,h5⟩:=h
 have H4:=hide h4
 have H5:=hide h5
 clear h4 h5
 subst h1
 go_enter Tryz.func55,Tryz.ntmps55
 go_wp2_with fail
 go_loopw [8,3] (fun t12 t3 wr=>∃ (i:Nat) (ts:List (En × Value × Value)),i≤es.length∧t12 = .int .i64 i∧Hid (ts.map (·.1) = es.take i)∧Hid (OwnN [] w wr t3 ts)) (fun t _ _=>es.length - (intOf t).toNat)
 case atStart=>exact ⟨0,[],Nat.zero_le _,rfl,hide (by simp),hide (OwnN.start (Kept.refl [] w))⟩
 case round =>
  obtain ⟨i,ts,hi,rfl,HTS,HO⟩:=hrel
  have HTL:=hide (by have h9:=congrArg List.length (uh HTS); simp only [List.length_map,List.length_take] at h9; omega:ts.length≤1048576)
  by_cases hlt:i < es.length
  ·have hlt':(i:Int) < es.length:=by omega
   obtain ⟨b,off,rfl,hcc⟩:=uh H5 (by omega)
   have hr:=hcc i hlt
   have q0:=(uh HO).kept.cell (hr 0 _ rfl) (by simp)
   have q1:=(uh HO).kept.cell (hr 1 _ rfl) (by simp)
   have q2:=(uh HO).kept.cell (hr 2 _ rfl) (by simp)
   rw [Nat.add_zero] at q0
   have HE:=hide ((uh H4 i hlt).old (uh HO).kept)
   have HSN:=hide (by rw [List.take_succ_eq_append_getElem hlt]:es.take (i + 1) = es.take i++[es[i]])
   clear hcc hr
   generalize kv i = kvi at q1 HE
   generalize vv i = vvi at q2 HE
   generalize es[i] = e at q0 HE HSN
   obtain ⟨a8,m8,c8,rfl,_⟩:=id (uh HE).key
   obtain ⟨a9,m9,c9,rfl,_⟩:=id (uh HE).val
   have HSZ:=hide (uh HO).kept.size
   go_wp2_with fail
   have k1:=(Kept.refl [] wr).alloc (.cells #[.int .u8 (e.k:Int),.slice a8 m8 c8,.slice a9 m9 c9] 71)
   refine Calls.mono (xa7n e _ _ _ ((uh HE).old k1)) ?_
   rintro r w2 ⟨kv2,vv2,rfl,ok2,k2,n2⟩
   obtain ⟨a3,m3,c3,hu3,_⟩:=id ok2.key
   subst hu3
   obtain ⟨a4,m4,c4,hu4,_⟩:=id ok2.val
   subst hu4
   have HN2:=hide (fun y hy=>by have h9:=n2 y hy; rw [show (wr.alloc (.cells #[.int .u8 (e.k:Int),.slice a8 m8 c8,.slice a9 m9 c9] 71)).heap.size = wr.heap.size + 1 from Array.size_push _] at h9; exact h9:∀ y,y∈blk (.slice a3 m3 c3)∨y∈blk (.slice a4 m4 c4)→wr.heap.size + 1≤y)
   have HO2:=hide (((uh HO).old (M:=[]) (k1.trans k2 (by simp)) (by simp)).old (M:=[]) ((Kept.refl [] w2).alloc (.cells #[.int .u8 (e.k:Int),.slice a3 m3 c3,.slice a4 m4 c4] 71)) (by simp))
   have HK2:=hide (ok2.old ((Kept.refl [] w2).alloc (.cells #[.int .u8 (e.k:Int),.slice a3 m3 c3,.slice a4 m4 c4] 71)))
   have HB2:=hide (uh HO2).kept.size
   have HOL:=hide (fun g hg=>((uh HO).own.lt g hg).2:∀ g,u3.ownBlock = some g→g < wr.heap.size)
   clear k1 k2 n2 ok2
   simp only [enC]
   go_wp2_with (at_builtin; refine xa8v rfl _ _ rfl rfl _ w.heap.size u3 ts e (.slice a3 m3 c3) (.slice a4 m4 c4) w2.heap.size (uh HO2).own (heap_alloc_new _ _) rfl rfl (by have:=uh HTL; omega) (uh HB2) rfl rfl ?_; intro g cap2 w5 HO5 HG5 HA5)
   refine ⟨⟨i + 1,ts++[(e,.slice a3 m3 c3,.slice a4 m4 c4)],by omega,by go_num,hide ?_,hide ?_⟩,?_⟩
   ·rw [List.map_append,uh HTS,uh HSN]; rfl
   ·refine (uh HO2).push (uh HK2) (fun b' hb'=>?_) (uh HO5) (uh HG5) (uh HA5)
    have h9:wr.heap.size + 1≤b':=by
     rcases hb' with hb' | hb'
     ·exact uh HN2 b' (Or.inl (xa4f hb').1)
     ·exact uh HN2 b' (Or.inr (xa4f hb').1)
    have h8:=uh HSZ
    exact ⟨fun e9=>by have h7:=uh HOL b' e9; omega,by omega⟩
   ·simp [intOf]; omega
  ·have hlt':¬ (i:Int) < es.length:=by omega
   have hie:i = es.length:=by omega
   subst hie
   rw [List.take_length] at HTS
   go_wp2
   go_ret
   exact ⟨_,rfl,⟨[],w,ts,(uh HTS).symm,uh HO,Nat.le_refl _⟩,(uh HO).kept⟩



end

section
open Go.RowKit
attribute [local go_sem ↓] Go.wp_at_zero Go.wp_at_succ
attribute [local go_sem ↓] Go.wp_at_zero Go.wp_at_succ
end
section
open Go.RowKit Go.BigFrame


end
section
open Go Go.RowKit Go.BigFrame
section
variable {P:Program} {Q:Exit→Act→World→Prop}
end
end
section
open Go.RowKit Go.BigFrame
def numS:Nat→List (List En)→List (Nat × List En)
 | _,[]=>[]
 | i,es :: r=>(i,es) :: numS ((i + es.length) % 18446744073709551616) r
def okS:Nat→List (List En)→Bool
 | _,[]=>true
 | i,es :: r=>decide (chkB i es = 0) && okS ((i + es.length) % 18446744073709551616) r
def runS (ts:List (Nat × List En)):List Nat:=ts.flatMap fun t=>sbB t.1 t.2
theorem xa5x (a b:List (Nat × List En)):runS (a++b) = runS a++runS b:=by simp [runS]
theorem xb4g (t:Nat × List En):runS [t] = sbB t.1 t.2:=by simp [runS]
theorem xa3r (t:Nat × List En) (r:List (Nat × List En)):runS (t :: r) = sbB t.1 t.2++runS r:=by simp [runS]
end

section
open Go.RowKit Go.BigFrame
theorem RdB.at {w:World} {ao:Option Addr} {n c:Nat} {bs:List (Nat × List En)} (h:RdB w (.slice ao n c) bs) (i:Nat) (hi:i < bs.length):∃ b off y,ao = some ⟨b,off,none⟩∧w.cell? ⟨b,off + i * 2,none⟩ = some (.int .u64 (bs[i].1:Int))∧w.cell? ⟨b,off + i * 2 + 1,none⟩ = some y∧RdN w y bs[i].2:=by
 obtain ⟨ao',cap,ts,h1,h2,h3,h4,h5,h6⟩:=h
 cases h1
 have hl:bs.length = ts.length:=by rw [h2]; simp
 obtain ⟨b,off,rfl,hc⟩:=h6 (by omega)
 have hi':i < ts.length:=by omega
 obtain ⟨c1,c2⟩:=hc i hi'
 have e1:bs[i] = (ts[i].1,ts[i].2.2):=by simp [h2]
 exact ⟨b,off,ts[i].2.1,rfl,by rw [e1]; exact c1,c2,by rw [e1]; exact h5 _ (List.getElem_mem _)⟩

end
section
open Go.RowKit
attribute [local go_sem ↓] Go.wp_at_zero Go.wp_at_succ
end
section
open Go
section
variable {P:Program} {ops:Array Oper} {Q:Exit→Act→World→Prop}
end
end
section
open Go.RowKit Go.BigFrame













end
end Go.Proofs.YtkolfhgbojenjaaGreatDoor
