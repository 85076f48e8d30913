import Derived.Test.YtfnbmnpkjggiaaaGreatDoorTopC
namespace Go.Proofs.YtfnbmnpkjggiaaaGreatDoor
set_option linter.unusedVariables false
set_option linter.unusedSimpArgs false
set_option maxRecDepth 100000
section
open Go.RowKit Go.BigFrame
theorem xb0r (S:Nat→Prop) (k:Nat) (mv:Value) (L:Prs) (w:World) (hM:MapAt S k w mv L) :
  Calls Tryz.prog 24 #[mv] w fun e w'=>e = .returned (.int .i64 (L.length:Nat))∧Kept [] w w':=by
 obtain ⟨hk,hs,hfit,hlen,g,tv,rfl,hSg,hh,htop⟩:=hM
 have c1:w.cell? ⟨g,1,none⟩ = some (.int .i64 (L.length:Nat)):=by rw [cell_of_row _ _ _ _ _ _ hh]; rfl
 clear hh htop hs hfit
 go_enter Tryz.func24,Tryz.ntmps24
 go_wp2
 go_ret
 exact ⟨rfl,Kept.refl _ _⟩
theorem xb0m (S:Nat→Prop) (k:Nat) (mv:Value) (L:Prs) (w:World) (hM:MapAt S k w mv L) :
  Calls Tryz.prog 34 #[mv] w fun e w'=>e = .returned (.int .i64 k)∧Kept [] w w':=by
 obtain ⟨hk,hs,hfit,hlen,g,tv,rfl,hSg,hh,htop⟩:=hM
 have c1:w.cell? ⟨g,0,none⟩ = some (.int .i64 k):=by rw [cell_of_row _ _ _ _ _ _ hh]; rfl
 clear hh htop hs hfit
 go_enter Tryz.func34,Tryz.ntmps34
 go_wp2
 go_ret
 exact ⟨rfl,Kept.refl _ _⟩
theorem xb0n (k:Int):Tryz.prog.built 82 [(0,.int .i64 k)] = some #[.int .i64 k,.int .i64 0,.nilIface]:=by kernel_rfl
theorem xb5x (S:Nat→Prop) (k:Nat) (w:World) (hk:1≤k∧k≤32) (hS:∀ y,w.heap.size≤y→S y) :
  Calls Tryz.prog 10 #[.int .i64 k] w fun e w'=>∃ m',e = .returned (.tuple #[m',.int .i64 0])∧MapAt S k w' m' []∧Kept [] w w':=by
 have h1:¬ (k:Int) < 1:=by omega
 have h2:¬ (32:Int) < k:=by omega
 have h3:¬ (k:Int) > 32:=by omega
 go_enter Tryz.func10,Tryz.ntmps10
 go_wp2_with (refine xa0p rfl 82 _ rfl #[.int .i64 k,.int .i64 0,.nilIface] (by simp only [List.map_toArray,List.map_cons,List.map_nil]; exact xb0n k) ?_)
 go_ret2
 exact ⟨_,rfl,⟨hk,List.Pairwise.nil,fun p hp=>by simp at hp,by simp,w.heap.size,.nilIface,rfl,hS _ (Nat.le_refl _),heap_alloc_new w _,Or.inl ⟨rfl,rfl⟩⟩,(Kept.refl [] w).alloc _⟩
def rootP (k:Nat) (L:Prs):List Nat:=if L.isEmpty then cutL k (hash [5]) else nodP (hsZ k) 64 L
set_option maxHeartbeats 2000000 in
theorem xb2b (S:Nat→Prop) (k:Nat) (mv:Value) (L:Prs) (w:World) (hM:MapAt S k w mv L) (hT:Tabs w) :
  Calls Tryz.prog 32 #[mv] w fun e w'=>e = .returned (.agg (brow (rootP k L)))∧Kept [] w w':=by
 obtain ⟨hk,hs,hfit,hlen,g,tv,rfl,hSg,hh,htop⟩:=hM
 have c0:w.cell? ⟨g,0,none⟩ = some (.int .i64 k):=by rw [cell_of_row _ _ _ _ _ _ hh]; rfl
 have c2:w.cell? ⟨g,2,none⟩ = some tv:=by rw [cell_of_row _ _ _ _ _ _ hh]; rfl
 have HZ0:=hide (heap_alloc_new w (.cells (zb 32) 64))
 have HK0:=hide ((Kept.refl [] w).alloc (.cells (zb 32) 64))
 have c0a:∀ o,(w.alloc o).cell? ⟨g,0,none⟩ = some (.int .i64 k):=fun o=>((Kept.refl [] w).alloc o).cell c0 (by simp)
 have c2a:∀ o,(w.alloc o).cell? ⟨g,2,none⟩ = some tv:=fun o=>((Kept.refl [] w).alloc o).cell c2 (by simp)
 have HTb:=hide hT
 have he1:=en_bk
 have he2:=en_br
 have he3:=en_nil
 have hg1:=eg_bk
 have hg2:=eg_br
 rcases htop with ⟨rfl,rfl⟩ | ht
 ·obtain ⟨O,hO⟩:∃ O,cutL k (hash [5]) = O:=⟨_,rfl⟩
  have hOl:O.length = 32:=by rw [← hO]; exact xa0t k (hash [5]) (by omega) (xa1d [5])
  have hR:rootP k [] = O:=hO
  rw [hR]
  have HO:=hide hO
  clear hO hR hh hT c0 c2
  go_enter Tryz.func32,Tryz.ntmps32
  go_wp2_with fail
  rw [zb32]
  refine Calls.mono (xb4s k _ (by omega) (wide_k hk) ((uh HTb).k (uh HK0))) ?_
  rintro e w1 ⟨rfl,k1⟩
  rw [Int.toNat_natCast,uh HO]
  have HK1:=hide ((uh HK0).trans k1 (by simp))
  have HZ1:=hide (k1.heap (uh HZ0) (by simp))
  have hlt:=lt_of_block (uh HZ1)
  clear k1 c0a c2a
  have HN1:=hide (heap_alloc_new w1 (.cells (zb 32) 64))
  have HN2:=hide (setRow_heap _ _ _ (brow O) _ _ (uh HN1))
  have HK12:=hide ((Kept.refl [] w1).alloc (.cells (zb 32) 64) |>.setRow (g:=w1.heap.size) (Or.inr (Nat.le_refl _)) (brow O))
  have HZ2:=hide ((uh HK12).heap (uh HZ1) (by simp))
  have HK2:=hide ((uh HK1).trans (uh HK12) (by simp))
  go_wp2_with (first
   | (rw [zb32]; refine wpList_store_row rfl 64 (.tmp 3) (.tmp 21) rfl w1.heap.size (brow O) rfl rfl _ (zb 32) (uh HN1) (by rw [xa0a,hOl]; exact Tryz.size_dig) (by rw [xa0j,xa0a,hOl]) (xa0f _) ?_)
   | (refine wpList_load_row rfl 64 (.tmp 3) rfl w1.heap.size rfl 64 (brow O) (0,0) _ (uh HN2) Tryz.underlying64 rfl (by rw [xa0a,hOl]; exact Tryz.size_dig) ?_)
   | (refine wpList_store_row rfl 64 (.tmp 2) (.tmp 23) rfl w.heap.size (brow O) rfl rfl _ (zb 32) (uh HZ2) (by rw [xa0a,hOl]; exact Tryz.size_dig) (by rw [xa0j,xa0a,hOl]) (xa0f _) ?_))
  refine bodyPost_ret (v:=.agg (brow O)) ?_ rfl ⟨rfl,(uh HK2).setRow (Or.inr (Nat.le_refl _)) _⟩
  exact results_cell_row rfl _ _ w.heap.size _ (brow O) (0,0) _ rfl (setRow_heap _ _ _ _ _ _ (uh HZ2)) Tryz.underlying64 rfl (by rw [xa0a,hOl]; exact Tryz.size_dig)
 ·have hne:=ht.ne
  have hR:rootP k L = nodP (hsZ k) 64 L:=by
   unfold rootP
   cases L with
   | nil=>exact absurd rfl hne
   | cons y L=>rfl
  rw [hR]
  have hO2:=(nod_dg k 64 L).1
  have hown:=ht.own
  generalize nodP (hsZ k) 64 L = O at hown hO2
  clear hR hh hT c0 c2 ht hne
  rcases hown with ⟨g1,D,pv,hs1,rfl,hD,hh1⟩ | ⟨g1,x,kv,hs1,rfl,hh1⟩
  ·have HH:=hide (((Kept.refl [] w).alloc (.cells (zb 32) 64)).heap hh1 (by simp))
   clear hh1 hs1
   go_enter Tryz.func32,Tryz.ntmps32
   go_wp2_with fail
   rw [zb32]
   refine Calls.mono (xb0s g1 D O pv _ (uh HH) hD hO2) ?_
   rintro e w1 ⟨rfl,k1⟩
   have HK1:=hide ((uh HK0).trans k1 (by simp))
   have HZ1:=hide (k1.heap (uh HZ0) (by simp))
   clear k1 c0a c2a
   go_wp2_with (refine wpList_store_row rfl 64 (.tmp 2) (.tmp 28) rfl w.heap.size (brow O) rfl rfl _ (zb 32) (uh HZ1) (by rw [xa0a,hO2]; exact Tryz.size_dig) (by rw [xa0j,xa0a,hO2]) (xa0f _) ?_)
   refine bodyPost_ret (v:=.agg (brow O)) ?_ rfl ⟨rfl,(uh HK1).setRow (Or.inr (Nat.le_refl _)) _⟩
   exact results_cell_row rfl _ _ w.heap.size _ (brow O) (0,0) _ rfl (setRow_heap _ _ _ _ _ _ (uh HZ1)) Tryz.underlying64 rfl (by rw [xa0a,hO2]; exact Tryz.size_dig)
  ·have HH:=hide (((Kept.refl [] w).alloc (.cells (zb 32) 64)).heap hh1 (by simp))
   clear hh1 hs1
   go_enter Tryz.func32,Tryz.ntmps32
   go_wp2_with fail
   rw [zb32]
   refine Calls.mono (xb2d g1 x O kv _ (uh HH) hO2) ?_
   rintro e w1 ⟨rfl,k1⟩
   have HK1:=hide ((uh HK0).trans k1 (by simp))
   have HZ1:=hide (k1.heap (uh HZ0) (by simp))
   clear k1 c0a c2a
   go_wp2_with (refine wpList_store_row rfl 64 (.tmp 2) (.tmp 28) rfl w.heap.size (brow O) rfl rfl _ (zb 32) (uh HZ1) (by rw [xa0a,hO2]; exact Tryz.size_dig) (by rw [xa0j,xa0a,hO2]) (xa0f _) ?_)
   refine bodyPost_ret (v:=.agg (brow O)) ?_ rfl ⟨rfl,(uh HK1).setRow (Or.inr (Nat.le_refl _)) _⟩
   exact results_cell_row rfl _ _ w.heap.size _ (brow O) (0,0) _ rfl (setRow_heap _ _ _ _ _ _ (uh HZ1)) Tryz.underlying64 rfl (by rw [xa0a,hO2]; exact Tryz.size_dig)
set_option maxHeartbeats 4000000 in
theorem xa5j (k:Nat) (hk:1≤k∧k≤32):∀ f,f≤64→NodeOk k f
 | f,hf=>by
  intro T mv L w hM hne hs hfit hl hpre hT
  have HM:=hide hM
  obtain ⟨ao,c,l,rfl,hc1,hc2,hll,hpr,hcell⟩:=hM.parts
  have HZ0:=hide (heap_alloc_new w (.cells (zb 32) 64))
  have HK0:=hide ((Kept.refl [] w).alloc (.cells (zb 32) 64))
  have hNd:=nod_dg k f L
  have HPB:=hide (show (pairB L).length≤1000000000000 by have:=xa3u hfit; omega)
  have HS:=hide hs
  have HFI:=hide hfit
  have HPR:=hide hpre
  cases hsg:sgl (hsZ k) L with
  | true =>
   have hE:nodP (hsZ k) f L = sumD (k:Int) (buckB L):=xb5s hsg
   obtain ⟨C,hC⟩:∃ C,nodP (hsZ k) f L = C:=⟨_,rfl⟩
   rw [hC] at hE hNd ⊢
   have HE:=hide hE
   have HSG:=hide hsg
   have hcl:=hNd.1
   have HS2:=hide (by rw [xa0a,hcl]; exact Tryz.size_dig:(Tryz.prog.info? 64).map (·.size) = some (brow C).size)
   clear hM hcell hpr hs hfit hpre hE hC hsg hNd
   go_enter Tryz.func60,Tryz.ntmps60
   go_wp2_with fail
   rw [zb32]
   refine Calls.mono (xa4a T k _ L _ hk ((uh HM).agr (Agr.nil (uh HK0))) (uh HS) hl) ?_
   rintro e w1 ⟨rfl,k1⟩
   rw [uh HSG]
   have HK1:=hide ((uh HK0).trans k1 (by simp))
   have HZ1:=hide (k1.heap (uh HZ0) (by simp))
   clear k1
   go_wp2_with fail
   refine Calls.mono (xa2r T k _ L w1 ((uh HM).agr (Agr.nil (uh HK1))) hl) ?_
   rintro e w2 ⟨v2,rfl,r2,k2⟩
   have HR2:=hide r2
   have HK2:=hide ((uh HK1).trans k2 (by simp))
   have HZ2:=hide (k2.heap (uh HZ1) (by simp))
   clear r2 k2
   go_wp2_with fail
   refine Calls.mono (xa5y k v2 L w2 hk (uh HR2) (uh HPB)) ?_
   rintro e w3 ⟨rfl,k3⟩
   rw [← uh HE]
   have HK3:=hide ((uh HK2).trans k3 (by simp))
   have HZ3:=hide (k3.heap (uh HZ2) (by simp))
   clear k3
   go_wp2_with (refine wpList_store_row rfl 64 _ _ rfl w.heap.size (brow C) rfl rfl _ (zb 32) (uh HZ3) (uh HS2) (by rw [xa0j,xa0a,hcl]) (xa0f _) ?_)
   refine bodyPost_ret (v:=.agg (brow C)) ?_ rfl ⟨rfl,(uh HK3).setRow (Or.inr (Nat.le_refl _)) _⟩
   exact results_cell_row rfl _ _ w.heap.size _ (brow C) (0,0) _ rfl (setRow_heap _ _ _ _ _ _ (uh HZ3)) Tryz.underlying64 rfl (uh HS2)
  | false =>
   match f,hf with
   | 0,_=>exact absurd (xb6g (hsZ_ok hk) hpre (by have:(hsZ k).wd = k:=rfl; omega)) (by rw [hsg]; simp)
   | f + 1,hf =>
    have IH:=hide (xa5j k hk f (by omega))
    have hE:nodP (hsZ k) (f + 1) L = sumD (k:Int) (branchB (k:Int) (bm (hsZ k) (63 - f) L) ((kidsL (hsZ k) (63 - f) L).map (nodP (hsZ k) f))):=by
     rw [nod_br hsg]; unfold kidsL; rw [List.map_map]; rfl
    obtain ⟨C,hC⟩:∃ C,nodP (hsZ k) (f + 1) L = C:=⟨_,rfl⟩
    rw [hC] at hE hNd ⊢
    have HE:=hide hE
    have HSG:=hide hsg
    have hcl:=hNd.1
    have hd:64 - (f + 1) = 63 - f:=by omega
    rw [hd] at HPR ⊢
    have HS2:=hide (by rw [xa0a,hcl]; exact Tryz.size_dig:(Tryz.prog.info? 64).map (·.size) = some (brow C).size)
    have hbl:=bm_lt (hsZ k) (63 - f) L
    have hkl:((kidsL (hsZ k) (63 - f) L).map (nodP (hsZ k) f)).length≤16:=by rw [List.length_map,xa3d]; exact cnt_le _ _
    have HST:=hide (fun w hM=>xa9h k f (by omega) (uh IH) T (.slice ao L.length c) L w hM hne (uh HS) (uh HFI) hl (uh HPR))
    generalize bm (hsZ k) (63 - f) L = BM at HE hbl HST
    generalize (kidsL (hsZ k) (63 - f) L).map (nodP (hsZ k) f) = KS at HE hkl HST
    generalize 63 - f = d at HST ⊢
    clear hM hcell hpr hs hfit hpre hE hC hsg hNd hd
    go_enter Tryz.func60,Tryz.ntmps60
    go_wp2_with fail
    rw [zb32]
    refine Calls.mono (xa4a T k _ L _ hk ((uh HM).agr (Agr.nil (uh HK0))) (uh HS) hl) ?_
    rintro e w1 ⟨rfl,k1⟩
    rw [uh HSG]
    have HK1:=hide ((uh HK0).trans k1 (by simp))
    have HZ1:=hide (k1.heap (uh HZ0) (by simp))
    clear k1
    go_wp2_with fail
    refine Calls.mono (uh HST w1 ((uh HM).agr (Agr.nil (uh HK1)))) ?_
    rintro e w2 ⟨v2,rfl,r2,n2,k2⟩
    obtain ⟨p1,p2,p3,rfl,_⟩:=id r2
    have HK2:=hide ((uh HK1).trans k2 (by simp))
    have HZ2:=hide (k2.heap (uh HZ1) (by simp))
    have HKS:=hide ((Kept.refl [] w2).alloc (.cells #[.int .u16 (BM:Nat),.slice p1 p2 p3] 72))
    have HR2:=hide (r2.old (uh HKS))
    have HQ:=hide (heap_alloc_new w2 (.cells #[.int .u16 (BM:Nat),.slice p1 p2 p3] 72))
    have HK3:=hide ((uh HK2).trans (uh HKS) (by simp))
    have HZ3:=hide ((uh HKS).heap (uh HZ2) (by simp))
    clear r2 k2 n2
    have c0:(w2.alloc (.cells #[.int .u16 (BM:Nat),.slice p1 p2 p3] 72)).cell? ⟨w2.heap.size,0,none⟩ = some (.int .u16 (BM:Nat)):=by rw [cell_of_row _ _ _ _ _ _ (uh HQ)]; rfl
    have c1:(w2.alloc (.cells #[.int .u16 (BM:Nat),.slice p1 p2 p3] 72)).cell? ⟨w2.heap.size,1,none⟩ = some (.slice p1 p2 p3):=by rw [cell_of_row _ _ _ _ _ _ (uh HQ)]; rfl
    go_wp2_with fail
    refine Calls.mono (xa6n k BM _ KS _ hk hbl (uh HR2) hkl) ?_
    rintro e w4 ⟨rfl,k4⟩
    rw [← uh HE]
    have HK4:=hide ((uh HK3).trans k4 (by simp))
    have HZ4:=hide (k4.heap (uh HZ3) (by simp))
    clear k4 c0 c1
    go_wp2_with (refine wpList_store_row rfl 64 _ _ rfl w.heap.size (brow C) rfl rfl _ (zb 32) (uh HZ4) (uh HS2) (by rw [xa0j,xa0a,hcl]) (xa0f _) ?_)
    refine bodyPost_ret (v:=.agg (brow C)) ?_ rfl ⟨rfl,(uh HK4).setRow (Or.inr (Nat.le_refl _)) _⟩
    exact results_cell_row rfl _ _ w.heap.size _ (brow C) (0,0) _ rfl (setRow_heap _ _ _ _ _ _ (uh HZ4)) Tryz.underlying64 rfl (uh HS2)
set_option maxHeartbeats 2000000 in
theorem xa4s (T:Nat→Prop) (k:Nat) (hk:1≤k∧k≤32) (mv:Value) (L:Prs) (w:World) (hM:IAt T k w mv L) (hs:Srt (hsZ k) L) (hfit:Fit L) (hl:L.length≤1000000000) (hT:∀ y,w.heap.size≤y→T y) :
  Calls Tryz.prog 35 #[.int .i64 k,mv] w fun e w'=>e = .returned (.agg (brow (rootP k L)))∧Kept [] w w':=by
 have HM:=hide hM
 obtain ⟨ao,c,l,rfl,hc1,hc2,hll,hpr,hcell⟩:=hM.parts
 have HZ0:=hide (heap_alloc_new w (.cells (zb 32) 64))
 have HK0:=hide ((Kept.refl [] w).alloc (.cells (zb 32) 64))
 clear hM hcell hpr
 by_cases h0:L = []
 ·subst h0
  obtain ⟨C,hC⟩:∃ C,cutL k (hash [5]) = C:=⟨_,rfl⟩
  have hcl:C.length = 32:=by rw [← hC]; exact xa0t k (hash [5]) (by omega) (xa1d [5])
  have hR:rootP k [] = C:=hC
  rw [hR]
  have HC:=hide hC
  have HS2:=hide (by rw [xa0a,hcl]; exact Tryz.size_dig:(Tryz.prog.info? 64).map (·.size) = some (brow C).size)
  clear hC hR
  go_enter Tryz.func35,Tryz.ntmps35
  go_wp2_with fail
  rw [zb32]
  refine Calls.mono (xa7u k _ (by omega)) ?_
  rintro e w1 ⟨rfl,k1⟩
  rw [uh HC]
  have HK1:=hide ((uh HK0).trans k1 (by simp))
  have HZ1:=hide (k1.heap (uh HZ0) (by simp))
  clear k1
  go_wp2_with (refine wpList_store_row rfl 64 _ _ rfl w.heap.size (brow C) rfl rfl _ (zb 32) (uh HZ1) (uh HS2) (by rw [xa0j,xa0a,hcl]) (xa0f _) ?_)
  refine bodyPost_ret (v:=.agg (brow C)) ?_ rfl ⟨rfl,(uh HK1).setRow (Or.inr (Nat.le_refl _)) _⟩
  exact results_cell_row rfl _ _ w.heap.size _ (brow C) (0,0) _ rfl (setRow_heap _ _ _ _ _ _ (uh HZ1)) Tryz.underlying64 rfl (uh HS2)
 ·have hR:rootP k L = nodP (hsZ k) 64 L:=by
   unfold rootP
   cases L with
   | nil=>exact absurd rfl h0
   | cons y L=>rfl
  have hp:0 < L.length:=by cases L with
   | nil=>exact absurd rfl h0
   | cons y L=>simp
  rw [hR]
  have hcl:=(nod_dg k 64 L).1
  have HN:=hide (fun w hM hT=>xa5j k hk 64 (Nat.le_refl _) T (.slice ao L.length c) L w hM h0 hs hfit hl (Pre.zero _ _) hT)
  rw [show ((64 - 64:Nat):Int) = 0 from rfl] at HN
  generalize nodP (hsZ k) 64 L = C at hcl HN ⊢
  have HS2:=hide (by rw [xa0a,hcl]; exact Tryz.size_dig:(Tryz.prog.info? 64).map (·.size) = some (brow C).size)
  have HT:=hide hT
  generalize hn:L.length = n at HM HN hp ⊢
  have q1:((n:Int) == 0) = false:=by rw [beq_eq_false_iff_ne]; omega
  have q2:¬ n = 0:=by omega
  clear hR hs hfit h0 hT hll hc1 hn
  go_enter Tryz.func35,Tryz.ntmps35
  go_wp2_with fail
  rw [zb32]
  refine Calls.mono (uh HN _ ((uh HM).agr (Agr.nil (uh HK0))) (fun y hy=>uh HT y (by have:=(uh HK0).size; omega))) ?_
  rintro e w1 ⟨rfl,k1⟩
  have HK1:=hide ((uh HK0).trans k1 (by simp))
  have HZ1:=hide (k1.heap (uh HZ0) (by simp))
  clear k1
  go_wp2_with (refine wpList_store_row rfl 64 _ _ rfl w.heap.size (brow C) rfl rfl _ (zb 32) (uh HZ1) (uh HS2) (by rw [xa0j,xa0a,hcl]) (xa0f _) ?_)
  refine bodyPost_ret (v:=.agg (brow C)) ?_ rfl ⟨rfl,(uh HK1).setRow (Or.inr (Nat.le_refl _)) _⟩
  exact results_cell_row rfl _ _ w.heap.size _ (brow C) (0,0) _ rfl (setRow_heap _ _ _ _ _ _ (uh HZ1)) Tryz.underlying64 rfl (uh HS2)
theorem xa9x {ops:Array Oper} {rest:List Oper} {o:Oper} {a:Act} {w:World} {Q:Exit→Act→World→Prop} (hw:Region.wanted o (yielded ops a.tmps) = true) (x:Operand) (ho:o.op = .buildSlice 60 1 #[(0,x)]) (n:Int) (vu:Value) (hx:a.eval x = .agg #[.int .u16 n,vu])
  (h:wpList Tryz.prog ops Q rest (a.put o.dst (.slice (some ⟨w.heap.size,0,none⟩) 1 1)) (w.alloc (.cells #[.int .u16 n,vu] 72))):wpList Tryz.prog ops Q (o :: rest) a w :=
 wpList_want hw fun _ hK=>by
  unfold Oper.wp
  rw [xb0c w x ho n vu hx]
  exact hK _ _ h
theorem xb8p {x:Nat} {v:Value} (h:v.oneCell' = true):∀ r∈stR [(x,v)],∀ u∈r,u.oneCell' = true:=by
 intro r hr u hu
 simp [stR] at hr
 rw [hr] at hu
 simp at hu
 rcases hu with rfl | rfl
 ·rfl
 ·exact h
theorem xb4e {T:Nat→Prop} {k:Nat} {w w1:World} {v v' u:Value} {L:Prs} (h:IAt (tS T v) k w u L) (hn:L≠[]) (hg:w.grownBy w1 v.ownBlock) (hb:v'.ownBlock = v.ownBlock∨v'.ownBlock = some w.heap.size):IAt (tS T v') k w1 u L:=by
 have hK:=(Kept.refl v.ownBlock.toList w).grown hg (by intro x hx; left; simp [hx])
 have ha:Agr (lowS (tS T v) w) w w1:=⟨hK.size,fun x hx hl=>hK.block x hl (by
  intro hm
  have:v.ownBlock = some x:=by simpa using hm
  exact hx.1.2 this)⟩
 refine (h.shrink.agr ha).mono (fun x hx=>⟨hx.1.1,?_⟩)
 rcases hb with e | e
 ·rw [e]; exact hx.1.2
 ·rw [e]; intro e2; have h2:=hx.2; injection e2 with e3; omega
set_option maxHeartbeats 8000000 in
theorem xb2z (T:Nat→Prop) (k:Nat) (hk:1≤k∧k≤32) (mv qv:Value) (q:List Nat) (L:Prs) (w:World) (hM:IAt T k w mv L) (hq:Rd w qv q) (hql:q.length≤140737488351232) (hs:Srt (hsZ k) L) (hfit:Fit L) (hl:L.length≤1000000000) (hT:∀ y,w.heap.size≤y→T y) :
  Calls Tryz.prog 42 #[.int .i64 k,mv,qv] w fun e w'=>∃ sv pv,e = .returned (.tuple #[sv,pv])∧WalkP k w' q L sv pv∧Kept [] w w':=by
 have hH:=hsZ_ok hk
 have HM:=hide hM
 have HQ:=hide hq
 have HS:=hide hs
 have HFI:=hide hfit
 have HT:=hide hT
 have hDg:Dg ((hsZ k).kd q):=hH.dg q
 have hDe:sumD (k:Int) (2 :: q) = (hsZ k).kd q:=rfl
 clear hM hq hs hfit hT
 go_enter Tryz.func42,Tryz.ntmps42
 go_wp2_with fail
 refine Calls.mono (xa6d k qv q w hk (uh HQ) hql) ?_
 rintro e w1 ⟨rfl,k1⟩
 rw [hDe]
 obtain ⟨D,hD⟩:∃ D,(hsZ k).kd q = D:=⟨_,rfl⟩
 rw [hD] at hDg ⊢
 have HD:=hide hD
 have hDl:=hDg.1
 have HZ1:=hide (heap_alloc_new w1 (.cells (zb 32) 64))
 have HX0:=hide (setRow_heap _ _ _ (brow D) _ _ (uh HZ1))
 have HK12:=hide ((Kept.refl [] w1).alloc (.cells (zb 32) 64) |>.setRow (g:=w1.heap.size) (Or.inr (Nat.le_refl _)) (brow D))
 obtain ⟨W0,hW0⟩:∃ W0,(w1.alloc (.cells (zb 32) 64)).setRow w1.heap.size (brow D) = W0:=⟨_,rfl⟩
 rw [hW0] at HX0 HK12
 have HKW:=hide (k1.trans (uh HK12) (by simp))
 have HM0:=hide ((uh HM).agr (Agr.nil (uh HKW)))
 have HS1:=hide (by rw [xa0a,hDl]; exact Tryz.size_dig:(Tryz.prog.info? 64).map (·.size) = some (brow D).size)
 clear k1 hD hDe
 go_wp2_with (rw [zb32]; refine wpList_store_row rfl 64 (.tmp 9) (.tmp 13) rfl w1.heap.size (brow D) rfl rfl _ (zb 32) (uh HZ1) (uh HS1) (by rw [xa0j,xa0a,hDl]) (xa0f _) ?_; rw [hW0]; simp only [Act.put])
 go_loopw [1,8,10] (fun t1 t8 t10 wr=>∃ (i:Nat) (iv v:Value) (sl:List (Nat × Value)),t10 = .int .i64 i∧t1 = iv∧t8 = v∧i≤64∧Hid (IAt (tS T v) k wr iv (dnL (hsZ k) q L i))∧Hid (SLay W0.heap.size wr v sl ((List.range i).map (stp k q L)))∧Hid (∀ j,j < i→sgl (hsZ k) (dnL (hsZ k) q L j) = false)∧Hid (Kept [] W0 wr)) (fun _ _ t _=>64 - (intOf t).toNat)
 case atStart=>exact ⟨0,mv,_,[],rfl,rfl,rfl,Nat.zero_le _,hide ((uh HM0).mono (fun x hx=>⟨hx,by simp [Value.ownBlock]⟩)),hide (SLay.nil _ _),hide (fun j hj=>by omega),hide (Kept.refl _ _)⟩
 case round =>
  clear HM0
  obtain ⟨i,iv,v,sl,rfl,rfl,rfl,hi,HI,HSL,HNS,HKr⟩:=hrel
  have hln:=dn_len (H:=hsZ k) (q:=q) (L:=L) i
  have HLN:=hide (show (dnL (hsZ k) q L i).length≤1000000000 by omega)
  have HSr:=hide (dn_srt (H:=hsZ k) (q:=q) (uh HS) i)
  have HFr:=hide (show Fit (dnL (hsZ k) q L i) from (uh HFI).sub (fun x hx=>dn_sub i x hx))
  have HOn:=hide (dn_on (H:=hsZ k) (q:=q) (L:=L) i).pre
  clear hln
  go_wp2_with fail
  refine Calls.mono (xa4a _ k _ _ wr hk (uh HI) (uh HSr) (uh HLN)) ?_
  rintro e w3 ⟨rfl,k3⟩
  have HK3:=hide ((uh HKr).trans k3 (by simp))
  have HI3:=hide ((uh HI).agr (Agr.nil k3))
  have HSL3:=hide ((uh HSL).agr k3)
  clear k3
  cases hsg:sgl (hsZ k) (dnL (hsZ k) q L i) with
  | true =>
   have HSG:=hide hsg
   clear hsg
   go_wp2_with fail
   refine Calls.mono (xa2r _ k _ _ w3 (uh HI3) (uh HLN)) ?_
   rintro e w4 ⟨v4,rfl,r4,k4⟩
   have HR4:=hide r4
   have HK4:=hide ((uh HK3).trans k4 (by simp))
   have HRS:=hide ((uh HSL3).rdS.old k4)
   clear r4 k4
   go_wp2_with fail
   go_ret2
   first
   | exact ⟨_,_,rfl,⟨i,uh HRS,uh HR4,uh HNS,uh HSG⟩,(uh HKW).trans (uh HK4) (by simp)⟩
  | false =>
   have hne:dnL (hsZ k) q L i≠[]:=fun e=>by rw [e,xa9g] at hsg; cases hsg
   have hdp:=deep hH (uh HOn) hsg
   have hwd:(hsZ k).wd = k:=rfl
   have hi63:i≤63:=by omega
   have HNS2:=hide (show ∀ j,j < i + 1→sgl (hsZ k) (dnL (hsZ k) q L j) = false from fun j hj=>by
    rcases Nat.lt_or_ge j i with h | h
    ·exact uh HNS j h
    ·rw [show j = i by omega]; exact hsg)
   have h63:63 - (63 - i) = i:=by omega
   have HST:=hide (xa9h k (63 - i) (by omega) (xa5j k hk (63 - i) (by omega)) _ _ _ w3 (uh HI3) hne (uh HSr) (uh HFr) (uh HLN) (by rw [h63]; exact uh HOn))
   rw [h63] at HST
   have HSTP:=hide (show stp k q L i = (bm (hsZ k) i (dnL (hsZ k) q L i),(kidsL (hsZ k) i (dnL (hsZ k) q L i)).map (nodP (hsZ k) (63 - i))) from rfl)
   have hbl:=bm_lt (hsZ k) i (dnL (hsZ k) q L i)
   generalize bm (hsZ k) i (dnL (hsZ k) q L i) = BM at HST HSTP hbl
   generalize (kidsL (hsZ k) i (dnL (hsZ k) q L i)).map (nodP (hsZ k) (63 - i)) = KS at HST HSTP
   have HNE:=hide hne
   clear hne hdp hwd hsg h63
   have HCH:=hide (fun (T:Nat→Prop) (u:Value) (W:World) (hI:IAt T k W u (dnL (hsZ k) q L i)) (hT:∀ y,W.heap.size≤y→T y)=>xa6g T k i (dgt D i) u (dnL (hsZ k) q L i) W hI (by omega) (dgt_lt hDg.2 i) (uh HLN) hT)
   have hdn:ch (hsZ k) i (dgt D i) (dnL (hsZ k) q L i) = dnL (hsZ k) q L (i + 1):=by rw [← uh HD]; rfl
   rw [hdn] at HCH
   clear hdn
   go_wp2_with fail
   refine Calls.mono (uh HST) ?_
   clear HST
   rintro e w4 ⟨v2,rfl,r2,n2,k4⟩
   obtain ⟨p1,p2,p3,rfl,_⟩:=id r2
   have HK4:=hide ((uh HK3).trans k4 (by simp))
   have HI4:=hide ((uh HI3).agr (Agr.nil k4))
   have HSL4:=hide ((uh HSL3).agr k4)
   obtain ⟨vo,vc,rfl⟩:=xa0k (uh HSL4).own
   have HOWN:=hide (fun z hz=>(uh HSL3).own.lt z hz)
   have hka:=(Kept.refl [] w4).alloc (.cells #[.int .u16 (BM:Nat),.slice p1 p2 p3] 72)
   have HKA:=hide hka
   have HSL5:=hide ((uh HSL4).agr hka)
   have HK5:=hide ((uh HK4).trans hka (by simp))
   have HSTY:=hide (show Sty (tB W0.heap.size (.slice vo sl.length vc)) (w4.alloc (.cells #[.int .u16 (BM:Nat),.slice p1 p2 p3] 72)) (fun w=>RdD w (.slice p1 p2 p3) KS) from Sty.rdD (r2.old hka) (fun y hy=>⟨by have:=n2 y hy; have:=(uh HK3).size; omega,fun e=>by have h1:=(uh HOWN y e).2; have h2:=n2 y hy; omega⟩))
   have HRL:=hide (show RdC 2 (w4.alloc (.cells #[.int .u16 (BM:Nat),.slice p1 p2 p3] 72)) (.slice (some ⟨w4.heap.size,0,none⟩) 1 1) (stR [(BM,.slice p1 p2 p3)]) from ⟨_,1,1,rfl,rfl,Nat.le_refl _,by omega,fun _=>⟨w4.heap.size,0,rfl,fun j hj=>by
     have h0:j = 0:=by simp [stR] at hj; omega
     subst h0
     exact xa0n [] [.int .u16 (BM:Nat),.slice p1 p2 p3] [] (heap_alloc_new w4 _) rfl⟩⟩)
   have hsll:=(uh HSL).len
   rw [List.length_map,List.length_range] at hsll
   have hbnd:sl.length + 1≤100:=by omega
   have hown:∀ z,(Value.slice vo sl.length vc).ownBlock = some z→W0.heap.size≤z:=fun z hz=>(uh HOWN z hz).1
   clear r2 n2 k4 hka hsll
   go_upto_region 7 with (first
    | (refine xa9x rfl (.tmp 23) rfl (BM:Nat) (.slice p1 p2 p3) rfl ?_)
    | (at_builtin; refine xa0g rfl 60 72 (.tmp 19) (.tmp 24) rfl rfl _ W0.heap.size (.agg #[.int .u16 0,.slice none 0 0]) 2 32 Tryz.underlying60 Tryz.infoSt rfl (by decide) (.slice vo sl.length vc) sl.length (stR sl).flatten (uh HSL5).own (some ⟨w4.heap.size,0,none⟩) 1 1 (stR [(BM,.slice p1 p2 p3)]) (uh HRL) (by intro r hr; simp [stR] at hr; rw [hr]; rfl) (xb8p rfl) (by omega) (by omega) (uh HK5).size rfl rfl ?_; intro ao7 c7 w7 HO7 HG7 HA7))
   have HS7:=hide ((uh HSL5).snoc hbl (uh HSTY) (uh HO7) (uh HG7) (uh HA7))
   have HK7:=hide ((uh HK5).grown (uh HG7) (fun z hz=>Or.inr (hown z hz)))
   have HX7:=hide ((uh HK7).heap (uh HX0) (by simp))
   have HI7:=hide (xb4e (((uh HI4).agr (Agr.nil (uh HKA)))) (uh HNE) (uh HG7) (uh HA7))
   have HT7:=hide (show ∀ y,w7.heap.size≤y→tS T (.slice ao7 (sl.length + 1) c7) y from fun y hy=>⟨uh HT y (by have:=(uh HK7).size; have:=(uh HKW).size; omega),fun e=>by have:=((uh HO7).lt y e).2; omega⟩)
   clear hown hbnd HO7 HG7 HA7 HSL5 HK5 HSTY HRL HSL4 HI4
   go_wp2_with (refine wpList_load_row rfl 64 (.tmp 9) rfl w1.heap.size rfl 64 (brow D) (0,0) _ (uh HX7) Tryz.underlying64 rfl (uh HS1) ?_)
   refine Calls.mono (xa6e D i w7 hDg (by omega)) ?_
   rintro e w8 ⟨rfl,k8⟩
   have HI8:=hide ((uh HI7).agr (Agr.nil k8))
   have HS8:=hide ((uh HS7).agr k8)
   have HK8:=hide ((uh HK7).trans k8 (by simp))
   have HT8:=hide (show ∀ y,w8.heap.size≤y→tS T (.slice ao7 (sl.length + 1) c7) y from fun y hy=>uh HT7 y (by have:=k8.size; omega))
   clear k8
   go_wp2_with fail
   refine Calls.mono (uh HCH _ _ w8 (uh HI8) (uh HT8)) ?_
   rintro e w9 ⟨v9,rfl,hi9,k9⟩
   have HI9:=hide hi9
   have HS9:=hide ((uh HS8).agr k9)
   have HK9:=hide ((uh HK8).trans k9 (by simp))
   clear hi9 k9 HCH
   go_wp2_with fail
   refine ⟨⟨i + 1,v9,.slice ao7 (sl.length + 1) c7,_,by go_num,rfl,rfl,by omega,HI9,hide (by rw [List.range_succ,List.map_append,List.map_cons,List.map_nil,uh HSTP]; exact uh HS9),HNS2,HK9⟩,?_⟩
   simp [intOf]; omega
theorem xb0h {w w1:World} {row:Option Nat} {b:Nat} {o:Obj} (h:w.grownBy w1 row) (hb:w.heap[b]? = some o) (hn:row≠some b):w1.heap[b]? = some o:=by
 have k:=(Kept.refl row.toList w).grown h (by intro x hx; left; simp [hx])
 exact k.heap hb (by intro hm; exact hn (by simpa using hm))
theorem xb7y {H:Hs} {q v:List Nat} {s:Bool × Prs} {y:List Nat × List Nat}:putS H q v s y = (s.1 || decide (kc H q y.1≤0),(if s.1 = false∧kc H q y.1≤0 then s.2++[(q,v)] else s.2)++(if kc H q y.1 = 0 then [] else [y])):=rfl
set_option maxHeartbeats 8000000 in
theorem xb1n (T:Nat→Prop) (k:Nat) (mv qv uv:Value) (q u:List Nat) (L:Prs) (w:World) (hk:1≤k∧k≤32) (hM:IAt T k w mv L) (hs:Srt (hsZ k) L) (hq:Rd w qv q) (hu:Rd w uv u) (hql:q.length≤140737488351232) (hl:L.length≤1000000000) (hT:∀ y,w.heap.size≤y→T y) :
  Calls Tryz.prog 39 #[.int .i64 k,mv,qv,uv] w fun e w'=>∃ v',e = .returned v'∧IAt T k w' v' (insP (hsZ k) q u L)∧Kept [] w w':=by
 have HM:=hide hM
 obtain ⟨ao,c,l,rfl,hc1,hc2,hll,hpr,hcell⟩:=hM.parts
 have HCE:=hide hcell
 have HPR:=hide hpr
 obtain ⟨n,hn⟩:∃ n,L.length = n:=⟨_,rfl⟩
 have HN:=hide hn
 rw [hn] at hc1 hl hll HCE ⊢
 have HSR:=hide (xb7k (hsZ k) q u L hs)
 rw [hn] at HSR
 obtain ⟨R,hR⟩:∃ R,insP (hsZ k) q u L = R:=⟨_,rfl⟩
 rw [hR] at HSR ⊢
 have HQ:=hide hq
 have HU:=hide hu
 clear hM hcell hpr hn hq hu hs hR
 go_enter Tryz.func39,Tryz.ntmps39
 go_wp2_with fail
 refine Calls.mono (xb6o k qv uv q u w hk (uh HQ) (uh HU) hql) ?_
 rintro e w1 ⟨kz,vz,rfl,hkv,hnew,k1⟩
 obtain ⟨z1,z2,z3,rfl,_⟩:=id hkv.1
 obtain ⟨y1,y2,y3,rfl,_⟩:=id hkv.2
 obtain ⟨D0,hD0⟩:∃ D0,(hsZ k).kd q = D0:=⟨_,rfl⟩
 have hD0l:D0.length = 32:=by rw [← hD0]; exact xa0c _ _
 rw [hD0]
 have HD0:=hide hD0
 have HZ1:=hide (heap_alloc_new w1 (.cells zit 120))
 have HX0:=hide (setRow_heap _ _ _ (itC D0 (.slice z1 z2 z3) (.slice y1 y2 y3)).toArray _ _ (uh HZ1))
 have HK12:=hide ((Kept.refl [] w1).alloc (.cells zit 120) |>.setRow (g:=w1.heap.size) (Or.inr (Nat.le_refl _)) (itC D0 (.slice z1 z2 z3) (.slice y1 y2 y3)).toArray)
 obtain ⟨W0,hW0⟩:∃ W0,(w1.alloc (.cells zit 120)).setRow w1.heap.size (itC D0 (.slice z1 z2 z3) (.slice y1 y2 y3)).toArray = W0:=⟨_,rfl⟩
 rw [hW0] at HX0 HK12
 have HKW:=hide (k1.trans (uh HK12) (by simp))
 have HT0:=hide (show ∀ y,W0.heap.size≤y→T y from fun y hy=>hT y (by have:=(uh HKW).size; omega))
 have HSTQ:=hide (show Sty T W0 (fun w=>Rd w (.slice z1 z2 z3) q∧Rd w (.slice y1 y2 y3) u) from fun w' a=>⟨Sty.rd (hkv.1.old (uh HK12) (by simp)) (fun x hx=>hT x (hnew x (Or.inl hx))) w' a,Sty.rd (hkv.2.old (uh HK12) (by simp)) (fun x hx=>hT x (hnew x (Or.inr hx))) w' a⟩)
 have hM0:=(uh HM).agr (Agr.nil (uh HKW))
 have HPR:=hide ((uh HPR).agr (Agr.nil (uh HKW)))
 have HCE:=hide (fun h0:0 < n=>by
  obtain ⟨b,off,e,hTb,hcl⟩:=uh HCE h0
  exact (⟨b,off,e,hTb,fun i hi u z hz=>(uh HKW).cell (hcl i hi u z hz) (by simp)⟩:∃ b off,ao = some ⟨b,off,none⟩∧T b∧∀ i,i < n→W0.rangeAt b (off + i * 34) (itC ((hsZ k).kd (L.getD i ([],[])).1) (l.getD i (undef,undef)).1 (l.getD i (undef,undef)).2)))
 clear hM0 hkv hnew k1 hD0 HM
 go_wp2_with (rw [lit_it]; refine wpList_store_row rfl 120 (.tmp 9) (.tmp 18) rfl w1.heap.size (itC D0 (.slice z1 z2 z3) (.slice y1 y2 y3)).toArray rfl rfl _ zit (uh HZ1) (by rw [xa0r hD0l]; exact Tryz.size_it) (by rw [xa0r hD0l]; rfl) (xa4i rfl rfl) ?_; rw [hW0]; simp only [Act.put])
 go_loopw [10,11,21] (fun t10 t11 t21 wr=>∃ (j:Nat) (v:Value) (lx:List VP) (sb:Bool) (sl:Prs),t21 = .int .i64 j∧t10 = v∧t11 = .bool sb∧j≤n∧Hid (putI (hsZ k) q u L j = (sb,sl))∧Hid (ILay T W0.heap.size k wr v lx sl)∧Hid (Kept [] W0 wr)) (fun _ _ t _=>n - (intOf t).toNat)
 case atStart=>exact ⟨0,.slice none 0 0,[],false,[],rfl,rfl,rfl,Nat.zero_le _,hide rfl,hide (ILay.nil _ _ _ _),hide (Kept.refl _ _)⟩
 case round =>
  obtain ⟨j,v,lx,sb,sl,rfl,rfl,rfl,hj,HPI,HLx,HKr⟩:=hrel
  have HBND:=hide (show lx.length≤2000000000 by
   have h1:=xb2r (hsZ k) q u L j (by have:=uh HN; omega)
   rw [uh HPI] at h1
   have h2:=(uh HLx).pr.1
   have h3:sl.length≤2 * j:=h1
   omega)
  have HX:=hide ((uh HKr).heap (uh HX0) (by simp))
  by_cases hlt:j < n
  ·have hlt':(j:Int) < n:=by omega
   have HPS:=hide (show putI (hsZ k) q u L (j + 1) = putS (hsZ k) q u (sb,sl) (L.getD j ([],[])) by rw [← uh HPI]; exact xa9b (hsZ k) q u L j (by have:=uh HN; omega))
   obtain ⟨b,off,rfl,hTb,hcl⟩:=uh HCE (by omega)
   have hRG:=hcl j hlt
   have hone:=(uh HPR).one' j (by omega)
   have hrd:=(uh HPR).2 j (by omega)
   generalize (l.getD j (undef,undef)).1 = kx at hRG hone hrd
   generalize (l.getD j (undef,undef)).2 = vx at hRG hone hrd
   have HSNOC:=hide (show L.take (j + 1) = L.take j++[L.getD j ([],[])] by
    have hjL:j < L.length:=by have:=uh HN; omega
    rw [List.take_succ_eq_append_getElem hjL,List.getD_eq_getElem?_getD,List.getElem?_eq_getElem hjL]; rfl)
   generalize L.getD j ([],[]) = ej at hRG hrd HSNOC HPS
   obtain ⟨ka,va⟩:=ej
   have hDg:Dg ((hsZ k).kd ka):=xa1y _ _
   obtain ⟨D,hD⟩:∃ D,(hsZ k).kd ka = D:=⟨_,rfl⟩
   simp only [hD] at hRG
   rw [hD] at hDg
   have HD:=hide hD
   have HSTY:=hide hrd
   have HRG:=hide (show wr.rangeAt b (off + j * 34) (itC D kx vx) from fun u z hz=>(uh HKr).cell (hRG u z hz) (by simp))
   have HZ1:=hide (heap_alloc_new wr (.cells zit 120))
   have HN2:=hide (setRow_heap _ _ _ (itC D kx vx).toArray _ _ (uh HZ1))
   have HK12:=hide ((Kept.refl [] wr).alloc (.cells zit 120) |>.setRow (g:=wr.heap.size) (Or.inr (Nat.le_refl _)) (itC D kx vx).toArray)
   obtain ⟨W2,hW2⟩:∃ W2,(wr.alloc (.cells zit 120)).setRow wr.heap.size (itC D kx vx).toArray = W2:=⟨_,rfl⟩
   rw [hW2] at HN2 HK12
   have HK2:=hide ((uh HKr).trans (uh HK12) (by simp))
   have hwsz:W0.heap.size≤wr.heap.size:=by have:=(uh HKr).size; omega
   obtain ⟨rD2,cK2,cV2⟩:=it_row (uh HN2) hDg.1
   have HRD2:=hide rD2
   have HCK2:=hide cK2
   have HCV2:=hide cV2
   have HPA2:=hide (xa6i (uh HN2) hDg.1)
   obtain ⟨kx1,kx2,kx3,rfl,_⟩:=hrd.now.1
   obtain ⟨vx1,vx2,vx3,rfl,_⟩:=hrd.now.2
   clear hrd hRG hcl rD2 hD hDg hone
   have HX2:=hide ((uh HK12).heap (uh HX) (by simp))
   go_wp2_with (first
    | (refine wpList_load_row rfl 120 (.tmp 9) rfl w1.heap.size rfl 120 (itC D0 (.slice z1 z2 z3) (.slice y1 y2 y3)).toArray (0,0) _ (uh HX2) Tryz.underlying120 rfl (by rw [xa0r hD0l]; exact Tryz.size_it) ?_)
    | (refine wpList_load_row rfl 120 (.tmp 13) rfl wr.heap.size rfl 120 (itC D (.slice kx1 kx2 kx3) (.slice vx1 vx2 vx3)).toArray (0,0) _ (uh HN2) Tryz.underlying120 rfl (by rw [xa0r (by rw [← uh HD]; exact xa0c _ _)]; exact Tryz.size_it) ?_)
    | (first
   | (refine wpList_load_mid rfl 120 (.tmp 23) rfl b (off + j * 34) rfl (itC D (.slice kx1 kx2 kx3) (.slice vx1 vx2 vx3)) _ (uh HRG) Tryz.underlying120 rfl (by rw [xa1k (by rw [← uh HD]; exact xa0c _ _)]; exact Tryz.size_it) ?_)
   | (rw [lit_it]; refine wpList_store_row rfl 120 (.tmp 13) (.tmp 24) rfl wr.heap.size (itC D (.slice kx1 kx2 kx3) (.slice vx1 vx2 vx3)).toArray rfl rfl _ zit (uh HZ1) (by rw [xa0r (by rw [← uh HD]; exact xa0c _ _)]; exact Tryz.size_it) (by rw [xa0r (by rw [← uh HD]; exact xa0c _ _)]; rfl) (xa4i rfl rfl) ?_; rw [hW2]; simp only [Act.put])))
   have hoc:=xb1d k (.slice z1 z2 z3) (.slice y1 y2 y3) (.slice kx1 kx2 kx3) (.slice vx1 vx2 vx3) q ka u va W2 (uh HSTQ W2 (Agr.nil (uh HK2))).1 (uh HSTY W2 (Agr.nil (uh HK2))).1 (uh HSTQ W2 (Agr.nil (uh HK2))).2 (uh HSTY W2 (Agr.nil (uh HK2))).2
   rw [uh HD,uh HD0] at hoc
   refine Calls.mono hoc ?_
   clear hoc
   rintro e w4 ⟨rfl,k4⟩
   have HN4:=hide (k4.heap (uh HN2) (by simp))
   have HX4:=hide (k4.heap (uh HX2) (by simp))
   have HK4:=hide ((uh HK2).trans k4 (by simp))
   have HL4:=hide (((uh HLx).agr (uh HK12)).agr k4)
   have hsg:=xb6v (hsZ k) q ka
   rw [xb7y] at HPS
   generalize ordI (hsZ k) q ka = z at hsg ⊢
   have hle:kc (hsZ k) q ka≤0↔z≤0:=by
    constructor
    ·intro h
     rcases Int.lt_or_eq_of_le h with g | g
     ·have:=hsg.1.2 g; omega
     ·have:=hsg.2.2 g; omega
    ·intro h
     rcases Int.lt_or_eq_of_le h with g | g
     ·have:=hsg.1.1 g; omega
     ·have:=hsg.2.1 g; omega
   have heq:kc (hsZ k) q ka = 0↔z = 0:=hsg.2.symm
   have HLE:=hide hle
   have HEQ:=hide heq
   clear k4 hsg hle heq
   cases sb with
   | true =>
    by_cases hz0:z = 0
    ·have HC:=hide ((uh HEQ).2 hz0)
     subst hz0
     go_wp2_with fail
     refine ⟨⟨j + 1,_,lx,true,sl,by go_num,rfl,rfl,hlt,hide (by rw [uh HPS]; simp [uh HC]),HL4,HK4⟩,?_⟩
     simp [intOf]; omega
    ·have HC:=hide (show ¬ kc (hsZ k) q ka = 0 from fun h=>hz0 ((uh HEQ).1 h))
     have hz2:((z != 0):Bool) = true:=by rw [bne_iff_ne]; exact hz0
     obtain ⟨vo,vc,rfl⟩:=xa0k (uh HL4).own
     have hown:∀ z,(Value.slice vo lx.length vc).ownBlock = some z→W0.heap.size≤z:=fun z hz=>((uh HL4).own.lt z hz).1
     have HW5:=hide (heap_alloc_new w4 (.cells (itC D (.slice kx1 kx2 kx3) (.slice vx1 vx2 vx3)).toArray 120))
     have HK45:=hide ((Kept.refl [] w4).alloc (.cells (itC D (.slice kx1 kx2 kx3) (.slice vx1 vx2 vx3)).toArray 120))
     have HL5:=hide ((uh HL4).agr (uh HK45))
     have HK5:=hide ((uh HK4).trans (uh HK45) (by simp))
     have HRL:=hide (lit_rd (k:=k) (q:=ka) (v:=va) (kv:=(.slice kx1 kx2 kx3)) (vv:=(.slice vx1 vx2 vx3)) (by rw [uh HD]; exact uh HW5))
     have hln:=(uh HL4).pr.1
     have hbnd:=uh HBND
     clear hln hz0
     go_wp2_with (first
   | (refine wpList_load_row rfl 120 (.tmp 13) rfl wr.heap.size rfl 120 (itC D (.slice kx1 kx2 kx3) (.slice vx1 vx2 vx3)).toArray (0,0) _ (uh HN4) Tryz.underlying120 rfl (by rw [xa0r (by rw [← uh HD]; exact xa0c _ _)]; exact Tryz.size_it) ?_)
   | (refine xa0w rfl (.tmp 41) rfl (itC D (.slice kx1 kx2 kx3) (.slice vx1 vx2 vx3)) (xa1k (by rw [← uh HD]; exact xa0c _ _) _ _) rfl ?_)
   | (at_builtin; refine xa0g rfl 35 120 (.tmp 40) (.tmp 42) rfl rfl _ W0.heap.size (.agg zit) 34 80 Tryz.underlying35 Tryz.infoIt rfl (by decide) (.slice vo lx.length vc) lx.length (itR k lx (sl)).flatten (uh HL5).own (some ⟨w4.heap.size,0,none⟩) 1 1 (itR k [((.slice kx1 kx2 kx3),(.slice vx1 vx2 vx3))] [(ka,va)]) (uh HRL) xa1x (xa3p rfl rfl) (by omega) (by omega) (uh HK5).size rfl rfl ?_; intro ao7 c7 w7 HO7 HG7 HA7))
     have HS7:=hide ((uh HL5).snoc (a:=ka) (b:=va) (sty_up (uh HSTY) (uh HK5) hown) (uh HO7) (uh HG7) (uh HA7))
     have HK7:=hide ((uh HK5).grown (uh HG7) (fun z hz=>Or.inr (hown z hz)))
     clear hown hbnd
     refine ⟨⟨j + 1,.slice ao7 (lx.length + 1) c7,_,true,sl++[(ka,va)],by go_num,rfl,rfl,hlt,hide (by rw [uh HPS]; simp [uh HC]),HS7,HK7⟩,?_⟩
     simp [intOf]; omega
   | false =>
    by_cases hz0:z = 0
    ·have HC:=hide ((uh HEQ).2 hz0)
     subst hz0
     obtain ⟨vo,vc,rfl⟩:=xa0k (uh HL4).own
     have hown:∀ z,(Value.slice vo lx.length vc).ownBlock = some z→W0.heap.size≤z:=fun z hz=>((uh HL4).own.lt z hz).1
     have HW5:=hide (heap_alloc_new w4 (.cells (itC D0 (.slice z1 z2 z3) (.slice y1 y2 y3)).toArray 120))
     have HK45:=hide ((Kept.refl [] w4).alloc (.cells (itC D0 (.slice z1 z2 z3) (.slice y1 y2 y3)).toArray 120))
     have HL5:=hide ((uh HL4).agr (uh HK45))
     have HK5:=hide ((uh HK4).trans (uh HK45) (by simp))
     have HRL:=hide (lit_rd (k:=k) (q:=q) (v:=u) (kv:=(.slice z1 z2 z3)) (vv:=(.slice y1 y2 y3)) (by rw [uh HD0]; exact uh HW5))
     have hln:=(uh HL4).pr.1
     have hbnd:=uh HBND
     clear hln
     go_wp2_with (first
   | (refine wpList_load_row rfl 120 (.tmp 9) rfl w1.heap.size rfl 120 (itC D0 (.slice z1 z2 z3) (.slice y1 y2 y3)).toArray (0,0) _ (uh HX4) Tryz.underlying120 rfl (by rw [xa0r (by rw [← uh HD0]; exact xa0c _ _)]; exact Tryz.size_it) ?_)
   | (refine xa0w rfl (.tmp 35) rfl (itC D0 (.slice z1 z2 z3) (.slice y1 y2 y3)) (xa1k (by rw [← uh HD0]; exact xa0c _ _) _ _) rfl ?_)
   | (at_builtin; refine xa0g rfl 35 120 (.tmp 34) (.tmp 36) rfl rfl _ W0.heap.size (.agg zit) 34 80 Tryz.underlying35 Tryz.infoIt rfl (by decide) (.slice vo lx.length vc) lx.length (itR k lx (sl)).flatten (uh HL5).own (some ⟨w4.heap.size,0,none⟩) 1 1 (itR k [((.slice z1 z2 z3),(.slice y1 y2 y3))] [(q,u)]) (uh HRL) xa1x (xa3p rfl rfl) (by omega) (by omega) (uh HK5).size rfl rfl ?_; intro ao7 c7 w7 HO7 HG7 HA7))
     have HS7:=hide ((uh HL5).snoc (a:=q) (b:=u) (sty_up (uh HSTQ) (uh HK5) hown) (uh HO7) (uh HG7) (uh HA7))
     have HK7:=hide ((uh HK5).grown (uh HG7) (fun z hz=>Or.inr (hown z hz)))
     clear hown hbnd
     refine ⟨⟨j + 1,.slice ao7 (lx.length + 1) c7,_,true,sl++[(q,u)],by go_num,rfl,rfl,hlt,hide (by rw [uh HPS]; simp [uh HC]),HS7,HK7⟩,?_⟩
     simp [intOf]; omega
    ·have HC:=hide (show ¬ kc (hsZ k) q ka = 0 from fun h=>hz0 ((uh HEQ).1 h))
     have hz2:((z != 0):Bool) = true:=by rw [bne_iff_ne]; exact hz0
     by_cases hz1:z≤0
     ·have HC2:=hide ((uh HLE).2 hz1)
      obtain ⟨vo,vc,rfl⟩:=xa0k (uh HL4).own
      have hown:∀ z,(Value.slice vo lx.length vc).ownBlock = some z→W0.heap.size≤z:=fun z hz=>((uh HL4).own.lt z hz).1
      have HW5:=hide (heap_alloc_new w4 (.cells (itC D0 (.slice z1 z2 z3) (.slice y1 y2 y3)).toArray 120))
      have HK45:=hide ((Kept.refl [] w4).alloc (.cells (itC D0 (.slice z1 z2 z3) (.slice y1 y2 y3)).toArray 120))
      have HL5:=hide ((uh HL4).agr (uh HK45))
      have HK5:=hide ((uh HK4).trans (uh HK45) (by simp))
      have HRL:=hide (lit_rd (k:=k) (q:=q) (v:=u) (kv:=(.slice z1 z2 z3)) (vv:=(.slice y1 y2 y3)) (by rw [uh HD0]; exact uh HW5))
      have hln:=(uh HL4).pr.1
      have hbnd:=uh HBND
      have HLT:=hide (fun z hz=>((uh HLx).own.lt z hz).2)
      clear hln hz0
      go_upto_region 12 with (first
   | (refine wpList_load_row rfl 120 (.tmp 9) rfl w1.heap.size rfl 120 (itC D0 (.slice z1 z2 z3) (.slice y1 y2 y3)).toArray (0,0) _ (uh HX4) Tryz.underlying120 rfl (by rw [xa0r (by rw [← uh HD0]; exact xa0c _ _)]; exact Tryz.size_it) ?_)
   | (refine xa0w rfl (.tmp 35) rfl (itC D0 (.slice z1 z2 z3) (.slice y1 y2 y3)) (xa1k (by rw [← uh HD0]; exact xa0c _ _) _ _) rfl ?_)
   | (at_builtin; refine xa0g rfl 35 120 (.tmp 34) (.tmp 36) rfl rfl _ W0.heap.size (.agg zit) 34 80 Tryz.underlying35 Tryz.infoIt rfl (by decide) (.slice vo lx.length vc) lx.length (itR k lx (sl)).flatten (uh HL5).own (some ⟨w4.heap.size,0,none⟩) 1 1 (itR k [((.slice z1 z2 z3),(.slice y1 y2 y3))] [(q,u)]) (uh HRL) xa1x (xa3p rfl rfl) (by omega) (by omega) (uh HK5).size rfl rfl ?_; intro ao7 c7 w7 HO7 HG7 HA7))
      have HS7:=hide ((uh HL5).snoc (a:=q) (b:=u) (sty_up (uh HSTQ) (uh HK5) hown) (uh HO7) (uh HG7) (uh HA7))
      have HK7:=hide ((uh HK5).grown (uh HG7) (fun z hz=>Or.inr (hown z hz)))
      have HN7:=hide (xb0h (uh HG7) ((uh HK45).heap (uh HN4) (by simp)) (fun e=>by have h1:=uh HLT _ e; omega))
      have hlen2:lx.length + 1 = (lx++[(((.slice z1 z2 z3):Value),((.slice y1 y2 y3):Value))]).length:=by simp
      rw [hlen2] at HS7 ⊢
      have HBN2:=hide (show (lx++[(((.slice z1 z2 z3):Value),((.slice y1 y2 y3):Value))]).length≤2000000001 by rw [← hlen2]; omega)
      clear hown hlen2 HLT hbnd HO7 HG7 HA7 HL5 HK5 HRL HW5 HK45
      generalize lx++[(((.slice z1 z2 z3):Value),((.slice y1 y2 y3):Value))] = lx2 at HS7 HBN2 ⊢
      have hown:∀ z,(Value.slice ao7 lx2.length c7).ownBlock = some z→W0.heap.size≤z:=fun z hz=>((uh HS7).own.lt z hz).1
      have HW5:=hide (heap_alloc_new w7 (.cells (itC D (.slice kx1 kx2 kx3) (.slice vx1 vx2 vx3)).toArray 120))
      have HK45:=hide ((Kept.refl [] w7).alloc (.cells (itC D (.slice kx1 kx2 kx3) (.slice vx1 vx2 vx3)).toArray 120))
      have HL5:=hide ((uh HS7).agr (uh HK45))
      have HK5:=hide ((uh HK7).trans (uh HK45) (by simp))
      have HRL:=hide (lit_rd (k:=k) (q:=ka) (v:=va) (kv:=(.slice kx1 kx2 kx3)) (vv:=(.slice vx1 vx2 vx3)) (by rw [uh HD]; exact uh HW5))
      have hln:=(uh HS7).pr.1
      have hbnd:=uh HBN2
      clear hln
      go_wp2_with (first
   | (refine wpList_load_row rfl 120 (.tmp 13) rfl wr.heap.size rfl 120 (itC D (.slice kx1 kx2 kx3) (.slice vx1 vx2 vx3)).toArray (0,0) _ (uh HN7) Tryz.underlying120 rfl (by rw [xa0r (by rw [← uh HD]; exact xa0c _ _)]; exact Tryz.size_it) ?_)
   | (refine xa0w rfl (.tmp 41) rfl (itC D (.slice kx1 kx2 kx3) (.slice vx1 vx2 vx3)) (xa1k (by rw [← uh HD]; exact xa0c _ _) _ _) rfl ?_)
   | (at_builtin; refine xa0g rfl 35 120 (.tmp 40) (.tmp 42) rfl rfl _ W0.heap.size (.agg zit) 34 80 Tryz.underlying35 Tryz.infoIt rfl (by decide) (.slice ao7 lx2.length c7) lx2.length (itR k lx2 (sl++[(q,u)])).flatten (uh HL5).own (some ⟨w7.heap.size,0,none⟩) 1 1 (itR k [((.slice kx1 kx2 kx3),(.slice vx1 vx2 vx3))] [(ka,va)]) (uh HRL) xa1x (xa3p rfl rfl) (by omega) (by omega) (uh HK5).size rfl rfl ?_; intro ao8 c8 w8 HO8 HG8 HA8))
      have HS8:=hide ((uh HL5).snoc (a:=ka) (b:=va) (sty_up (uh HSTY) (uh HK5) hown) (uh HO8) (uh HG8) (uh HA8))
      have HK8:=hide ((uh HK5).grown (uh HG8) (fun z hz=>Or.inr (hown z hz)))
      clear hown hbnd
      refine ⟨⟨j + 1,.slice ao8 (lx2.length + 1) c8,_,true,sl++[(q,u)]++[(ka,va)],by go_num,rfl,rfl,hlt,hide (by rw [uh HPS]; simp [uh HC,uh HC2]),HS8,HK8⟩,?_⟩
      simp [intOf]; omega
     ·have HC2:=hide (show ¬ kc (hsZ k) q ka≤0 from fun h=>hz1 ((uh HLE).1 h))
      obtain ⟨vo,vc,rfl⟩:=xa0k (uh HL4).own
      have hown:∀ z,(Value.slice vo lx.length vc).ownBlock = some z→W0.heap.size≤z:=fun z hz=>((uh HL4).own.lt z hz).1
      have HW5:=hide (heap_alloc_new w4 (.cells (itC D (.slice kx1 kx2 kx3) (.slice vx1 vx2 vx3)).toArray 120))
      have HK45:=hide ((Kept.refl [] w4).alloc (.cells (itC D (.slice kx1 kx2 kx3) (.slice vx1 vx2 vx3)).toArray 120))
      have HL5:=hide ((uh HL4).agr (uh HK45))
      have HK5:=hide ((uh HK4).trans (uh HK45) (by simp))
      have HRL:=hide (lit_rd (k:=k) (q:=ka) (v:=va) (kv:=(.slice kx1 kx2 kx3)) (vv:=(.slice vx1 vx2 vx3)) (by rw [uh HD]; exact uh HW5))
      have hln:=(uh HL4).pr.1
      have hbnd:=uh HBND
      clear hln hz0
      go_wp2_with (first
   | (refine wpList_load_row rfl 120 (.tmp 13) rfl wr.heap.size rfl 120 (itC D (.slice kx1 kx2 kx3) (.slice vx1 vx2 vx3)).toArray (0,0) _ (uh HN4) Tryz.underlying120 rfl (by rw [xa0r (by rw [← uh HD]; exact xa0c _ _)]; exact Tryz.size_it) ?_)
   | (refine xa0w rfl (.tmp 41) rfl (itC D (.slice kx1 kx2 kx3) (.slice vx1 vx2 vx3)) (xa1k (by rw [← uh HD]; exact xa0c _ _) _ _) rfl ?_)
   | (at_builtin; refine xa0g rfl 35 120 (.tmp 40) (.tmp 42) rfl rfl _ W0.heap.size (.agg zit) 34 80 Tryz.underlying35 Tryz.infoIt rfl (by decide) (.slice vo lx.length vc) lx.length (itR k lx (sl)).flatten (uh HL5).own (some ⟨w4.heap.size,0,none⟩) 1 1 (itR k [((.slice kx1 kx2 kx3),(.slice vx1 vx2 vx3))] [(ka,va)]) (uh HRL) xa1x (xa3p rfl rfl) (by omega) (by omega) (uh HK5).size rfl rfl ?_; intro ao7 c7 w7 HO7 HG7 HA7))
      have HS7:=hide ((uh HL5).snoc (a:=ka) (b:=va) (sty_up (uh HSTY) (uh HK5) hown) (uh HO7) (uh HG7) (uh HA7))
      have HK7:=hide ((uh HK5).grown (uh HG7) (fun z hz=>Or.inr (hown z hz)))
      clear hown hbnd
      refine ⟨⟨j + 1,.slice ao7 (lx.length + 1) c7,_,false,sl++[(ka,va)],by go_num,rfl,rfl,hlt,hide (by rw [uh HPS]; simp [uh HC,uh HC2]),HS7,HK7⟩,?_⟩
      simp [intOf]; omega
  ·have hje:j = n:=by omega
   subst hje
   have hlt':¬ (j:Int) < j:=by omega
   have HAL:=hide (show putF q u (sb,sl) = R by rw [← uh HPI]; exact uh HSR)
   cases sb with
   | true =>
    go_wp2
    go_ret
    have h9:=(uh HLx).at_ (uh HT0)
    have h8:sl = R:=uh HAL
    rw [h8] at h9
    exact ⟨_,rfl,h9,(uh HKW).trans (uh HKr) (by simp)⟩
   | false =>
    have HLw:=HLx
    have HKw:=HKr
    obtain ⟨vo,vc,rfl⟩:=xa0k (uh HLw).own
    have hown:∀ z,(Value.slice vo lx.length vc).ownBlock = some z→W0.heap.size≤z:=fun z hz=>((uh HLw).own.lt z hz).1
    have HW5:=hide (heap_alloc_new wr (.cells (itC D0 (.slice z1 z2 z3) (.slice y1 y2 y3)).toArray 120))
    have HK45:=hide ((Kept.refl [] wr).alloc (.cells (itC D0 (.slice z1 z2 z3) (.slice y1 y2 y3)).toArray 120))
    have HL5:=hide ((uh HLw).agr (uh HK45))
    have HK5:=hide ((uh HKw).trans (uh HK45) (by simp))
    have HRL:=hide (lit_rd (k:=k) (q:=q) (v:=u) (kv:=(.slice z1 z2 z3)) (vv:=(.slice y1 y2 y3)) (by rw [uh HD0]; exact uh HW5))
    have hln:=(uh HLw).pr.1
    have hbnd:lx.length≤2000000000:=uh HBND
    clear hln
    go_wp2_with (first
   | (refine wpList_load_row rfl 120 (.tmp 9) rfl w1.heap.size rfl 120 (itC D0 (.slice z1 z2 z3) (.slice y1 y2 y3)).toArray (0,0) _ (uh HX) Tryz.underlying120 rfl (by rw [xa0r (by rw [← uh HD0]; exact xa0c _ _)]; exact Tryz.size_it) ?_)
   | (refine xa0w rfl (.tmp 48) rfl (itC D0 (.slice z1 z2 z3) (.slice y1 y2 y3)) (xa1k (by rw [← uh HD0]; exact xa0c _ _) _ _) rfl ?_)
   | (at_builtin; refine xa0g rfl 35 120 (.tmp 47) (.tmp 49) rfl rfl _ W0.heap.size (.agg zit) 34 80 Tryz.underlying35 Tryz.infoIt rfl (by decide) (.slice vo lx.length vc) lx.length (itR k lx (sl)).flatten (uh HL5).own (some ⟨wr.heap.size,0,none⟩) 1 1 (itR k [((.slice z1 z2 z3),(.slice y1 y2 y3))] [(q,u)]) (uh HRL) xa1x (xa3p rfl rfl) (by omega) (by omega) (uh HK5).size rfl rfl ?_; intro ao7 c7 w7 HO7 HG7 HA7))
    have HS7:=hide ((uh HL5).snoc (a:=q) (b:=u) (sty_up (uh HSTQ) (uh HK5) hown) (uh HO7) (uh HG7) (uh HA7))
    have HK7:=hide ((uh HK5).grown (uh HG7) (fun z hz=>Or.inr (hown z hz)))
    go_ret
    have h9:=(uh HS7).at_ (uh HT0)
    have h8:sl++[(q,u)] = R:=uh HAL
    rw [h8] at h9
    exact ⟨_,rfl,h9,(uh HKW).trans (uh HK7) (by simp)⟩
end
theorem xb1v {H:Hs} {k v:List Nat} {L:Prs} (h:Srt H L) (q:List Nat):getP q (insP H k v L) = if q = k then some v else getP q L:=by
 by_cases e:q = k
 ·subst e
  rw [if_pos rfl,xa6l (h.ins q v)]
  exact (xa2j h _).2 (Or.inl rfl)
 ·rw [if_neg e]
  cases hg:getP q L with
  | none =>
   rw [xa3k] at hg ⊢
   intro y hy e2
   rcases (xa2j h y).1 hy with rfl | ⟨hm,_⟩
   ·exact e e2.symm
   ·exact hg y hm e2
  | some u =>
   rw [xa6l h] at hg
   rw [xa6l (h.ins k v)]
   exact (xa2j h _).2 (Or.inr ⟨hg,e⟩)
def insAll (H:Hs) (L:Prs) (ps:Prs):Prs:=ps.foldl (fun M p=>insP H p.1 p.2 M) L
theorem Srt.insAll {H:Hs}:∀ (ps:Prs) {L:Prs},Srt H L→Srt H (insAll H L ps)
 | [],_,h=>h
 | p :: ps,_,h=>Srt.insAll ps (h.ins p.1 p.2)
theorem xa5b (H:Hs) (L ps:Prs) (p:List Nat × List Nat):insAll H L (ps++[p]) = insP H p.1 p.2 (insAll H L ps):=by
 unfold insAll; rw [List.foldl_append]; rfl
theorem xa6f (H:Hs):Srt H []:=List.Pairwise.nil
def lv (q:List Nat):Prs→Option (List Nat)
 | []=>none
 | p :: ps=>(lv q ps).or (if p.1 = q then some p.2 else none)
section
open Go.RowKit Go.BigFrame
theorem ins_le (H:Hs) (q v:List Nat):∀ L:Prs,(insP H q v L).length≤L.length + 1
 | []=>by simp [insP]
 | y :: L=>by
  have ih:=ins_le H q v L
  rw [xa2c]
  split
  ·simp
  ·split
   ·simp
   ·simp only [List.length_cons]; omega
theorem xa5m (H:Hs):∀ (ps L:Prs),(insAll H L ps).length≤L.length + ps.length
 | [],L=>by simp [insAll]
 | p :: ps,L=>by
  have h1:=xa5m H ps (insP H p.1 p.2 L)
  have h2:=ins_le H p.1 p.2 L
  show (insAll H (insP H p.1 p.2 L) ps).length≤_
  rw [List.length_cons]; omega
theorem xb3f (H:Hs) (ps:Prs) (j:Nat) (hj:j < ps.length):insAll H [] (ps.take (j + 1)) = insP H (ps.getD j ([],[])).1 (ps.getD j ([],[])).2 (insAll H [] (ps.take j)):=by
 rw [List.take_succ_eq_append_getElem hj,xa5b,List.getD_eq_getElem?_getD,List.getElem?_eq_getElem hj]; rfl
set_option maxHeartbeats 4000000 in
theorem xa9k (T:Nat→Prop) (k:Nat) (pv:Value) (ps:Prs) (w:World) (hk:1≤k∧k≤32) (hP:RdK w pv ps) (hf:∀ p∈ps,p.1.length≤1000000000) (hl:ps.length≤1000000000) (hT:∀ y,w.heap.size≤y→T y) :
  Calls Tryz.prog 16 #[.int .i64 k,pv] w fun e w'=>∃ v',e = .returned v'∧IAt T k w' v' (insAll (hsZ k) [] ps)∧Kept [] w w':=by
 obtain ⟨ao,n,c,ks,vs,rfl,hn,hc1,hc2,hrd,hcell⟩:=hP
 have HN:=hide hn
 rw [hn] at hl
 have HRD:=hide hrd
 have HCE:=hide hcell
 have HF:=hide hf
 clear hn hrd hcell hf
 go_enter Tryz.func16,Tryz.ntmps16
 go_wp2
 go_loopw [5,10] (fun t5 t10 wr=>∃ (j:Nat) (v:Value),t10 = .int .i64 j∧t5 = v∧j≤n∧Hid (IAt T k wr v (insAll (hsZ k) [] (ps.take j)))∧Hid (Kept [] w wr)) (fun _ t _=>n - (intOf t).toNat)
 case atStart=>exact ⟨0,.slice none 0 0,rfl,rfl,Nat.zero_le _,hide (IAt.nil _ _ _),hide (Kept.refl _ _)⟩
 case round =>
  obtain ⟨j,v,rfl,rfl,hj,HIx,HKr⟩:=hrel
  by_cases hlt:j < n
  ·have hlt':(j:Int) < n:=by omega
   have hjL:j < ps.length:=by have:=uh HN; omega
   obtain ⟨b,off,rfl,hcl⟩:=uh HCE (by omega)
   obtain ⟨hx1,hx2⟩:=hcl j hlt
   obtain ⟨hr1,hr2⟩:=uh HRD j hlt
   have HTK:=hide (xb3f (hsZ k) ps j hjL)
   have hq:=uh HF (ps.getD j ([],[])) (by rw [List.getD_eq_getElem?_getD,List.getElem?_eq_getElem hjL]; exact List.getElem_mem hjL)
   generalize ks.getD j undef = kx at hx1 hr1
   generalize vs.getD j undef = vx at hx2 hr2
   generalize ps.getD j ([],[]) = ej at hr1 hr2 HTK hq
   obtain ⟨ka,va⟩:=ej
   have HR1:=hide hr1
   have HR2:=hide hr2
   obtain ⟨x1,x2,x3,rfl,_⟩:=id hr1
   obtain ⟨y1,y2,y3,rfl,_⟩:=id hr2
   have hm1:=(uh HKr).cell hx1 (by simp)
   have hm2:=(uh HKr).cell hx2 (by simp)
   have HRG:=hide (show wr.rangeAt b (off + j * 2) [.slice x1 x2 x3,.slice y1 y2 y3] from fun i u hi=>by
    match i,hi with
    | 0,hi=>rw [Nat.add_zero,hm1]; exact hi
    | 1,hi=>rw [hm2]; exact hi)
   have HP2:=hide (heap_alloc_new wr (.cells #[.slice x1 x2 x3,.slice y1 y2 y3] 46))
   have HK2:=hide ((Kept.refl [] wr).alloc (.cells #[.slice x1 x2 x3,.slice y1 y2 y3] 46))
   clear hx1 hx2 hr1 hr2 hm1 hm2 hcl
   go_upto_region 5 with (refine wpList_load_mid rfl 46 (.tmp 12) rfl b (off + j * 2) rfl [.slice x1 x2 x3,.slice y1 y2 y3] _ (uh HRG) Tryz.underlying46 rfl Tryz.size_pair ?_)
   try simp only [Act.put]
   generalize wr.alloc (.cells #[.slice x1 x2 x3,.slice y1 y2 y3] 46) = W2 at HP2 HK2 ⊢
   have hcp:=xa0n [] [.slice x1 x2 x3,.slice y1 y2 y3] [] (uh HP2) rfl
   have hQ1:=(show W2.cell? ⟨wr.heap.size,0,none⟩ = some (.slice x1 x2 x3) from hcp 0 _ rfl)
   have hQ2:=(show W2.cell? ⟨wr.heap.size,1,none⟩ = some (.slice y1 y2 y3) from hcp 1 _ rfl)
   have HK02:=hide ((uh HKr).trans (uh HK2) (by simp))
   have hlen:(insAll (hsZ k) [] (ps.take j)).length≤1000000000:=by
    have h1:=xa5m (hsZ k) (ps.take j) []
    rw [List.length_take] at h1; simp at h1; omega
   have HLN:=hide hlen
   clear hcp hlen
   go_wp2_with fail
   refine Calls.mono (xb1n T k _ _ _ ka va _ W2 hk ((uh HIx).agr (Agr.nil (uh HK2))) ((xa6f _).insAll _) ((uh HR1).old (uh HK02) (by simp)) ((uh HR2).old (uh HK02) (by simp)) (Nat.le_trans hq (by omega)) (uh HLN) (fun y hy=>hT y (by have:=(uh HK02).size; omega))) ?_
   rintro e w4 ⟨v4,rfl,hi4,k4⟩
   have HI4:=hide hi4
   have HK4:=hide ((uh HK02).trans k4 (by simp))
   clear hi4 k4 hQ1 hQ2
   go_wp2_with fail
   refine ⟨⟨j + 1,v4,by go_num,rfl,hlt,hide (by rw [uh HTK]; exact uh HI4),HK4⟩,?_⟩
   simp [intOf]; omega
  ·have hje:j = n:=by omega
   subst hje
   have hlt':¬ (j:Int) < j:=by omega
   go_wp2
   go_ret
   have h9:=uh HIx
   rw [List.take_of_length_le (by have:=uh HN; omega)] at h9
   exact ⟨_,rfl,h9,uh HKr⟩
theorem xb6u (g:Nat) (kv:Value) (q:List Nat) (w:World) (hku:Rd w kv q) (hq:64 < q.length) :
  Calls Tryz.prog 23 #[.pointer (some ⟨g,0,none⟩),kv] w fun e w'=>e = .returned (.tuple #[.slice none 0 0,.bool false,.int .i64 2])∧Kept [] w w':=by
 go_enter Tryz.func23,Tryz.ntmps23
 go_wp2_with fail
 refine Calls.mono (xa2s g kv q w hku hq) ?_
 rintro e w1 ⟨rfl,k1⟩
 have HZ1:=hide (heap_alloc_new w1 (.cells zwy 97))
 have HK1:=hide ((k1.alloc (.cells zwy 97)).setRow (g:=w1.heap.size) (Or.inr k1.size) zwy)
 clear k1
 go_wp2_with (rw [xa1s]; refine wpList_store_row rfl 97 (.tmp 7) (.tmp 13) rfl w1.heap.size zwy rfl rfl _ zwy (uh HZ1) (by rw [xa4j]; exact Tryz.size_way) rfl (xa0y _ _ rfl rfl) ?_; simp only [Act.put])
 go_ret3
 exact ⟨rfl,uh HK1⟩
theorem xb7g (g:Nat) (kv:Value) (vv:Value) (q:List Nat) (w:World) (hku:Rd w kv q) (hq:64 < q.length) :
  Calls Tryz.prog 20 #[.pointer (some ⟨g,0,none⟩),kv,vv] w fun e w'=>e = .returned (.tuple #[.pointer none,.int .i64 2])∧Kept [] w w':=by
 go_enter Tryz.func20,Tryz.ntmps20
 go_wp2_with fail
 refine Calls.mono (xa2s g kv q w hku hq) ?_
 rintro e w1 ⟨rfl,k1⟩
 have HZ1:=hide (heap_alloc_new w1 (.cells zwy 97))
 have HK1:=hide ((k1.alloc (.cells zwy 97)).setRow (g:=w1.heap.size) (Or.inr k1.size) zwy)
 clear k1
 go_wp2_with (rw [xa1s]; refine wpList_store_row rfl 97 (.tmp 8) (.tmp 16) rfl w1.heap.size zwy rfl rfl _ zwy (uh HZ1) (by rw [xa4j]; exact Tryz.size_way) rfl (xa0y _ _ rfl rfl) ?_; simp only [Act.put])
 go_ret2
 exact ⟨rfl,uh HK1⟩
theorem xb3b (g:Nat) (kv:Value) (q:List Nat) (w:World) (hku:Rd w kv q) (hq:64 < q.length) :
  Calls Tryz.prog 26 #[.pointer (some ⟨g,0,none⟩),kv] w fun e w'=>e = .returned (.tuple #[.slice none 0 0,.slice none 0 0,.int .i64 2])∧Kept [] w w':=by
 go_enter Tryz.func26,Tryz.ntmps26
 go_wp2_with fail
 refine Calls.mono (xa2s g kv q w hku hq) ?_
 rintro e w1 ⟨rfl,k1⟩
 have HZ1:=hide (heap_alloc_new w1 (.cells zwy 97))
 have HK1:=hide ((k1.alloc (.cells zwy 97)).setRow (g:=w1.heap.size) (Or.inr k1.size) zwy)
 clear k1
 go_wp2_with (rw [xa1s]; refine wpList_store_row rfl 97 (.tmp 7) (.tmp 16) rfl w1.heap.size zwy rfl rfl _ zwy (uh HZ1) (by rw [xa4j]; exact Tryz.size_way) rfl (xa0y _ _ rfl rfl) ?_; simp only [Act.put])
 go_ret3
 exact ⟨rfl,uh HK1⟩
set_option maxHeartbeats 2000000 in
theorem xb4r (S:Nat→Prop) (k:Nat) (mv kv vv:Value) (L:Prs) (q v:List Nat) (w:World) (hM:MapAt S k w mv L) (hku:Rd w kv q) (hvu:Rd w vv v) (hq:q.length≤64) (hv:256 < v.length) (hT:Tabs w) :
  Calls Tryz.prog 20 #[mv,kv,vv] w fun e w'=>e = .returned (.tuple #[.pointer none,.int .i64 2])∧Kept [] w w':=by
 obtain ⟨va,vn,vc,rfl,hvl,_⟩:=id hvu
 have hu1:(256:Int) < vn:=by omega
 have hu2:(vn:Int) > 256:=by omega
 clear hvl hv
 go_enter Tryz.func20,Tryz.ntmps20
 go_wp2_with fail
 refine Calls.mono (xa2n S k _ kv L q w hM hku hq hT) ?_
 rintro e w1 ⟨m,cr,en,pl,fd,rfl,hway,k1⟩
 have hon:=hway.cells
 have hDl:((hsZ k).kd q).length = 32:=xa0c _ _
 generalize (hsZ k).kd q = D at hDl ⊢
 have hws:((wayC k D cr en pl fd).toArray).size = 37:=by rw [List.size_toArray,xa1e hDl]
 have HZ1:=hide (heap_alloc_new w1 (.cells zwy 97))
 have HK1:=hide ((k1.alloc (.cells zwy 97)).setRow (g:=w1.heap.size) (Or.inr k1.size) (wayC k D cr en pl fd).toArray)
 clear k1 hway
 go_wp2_with (rw [xa1s]; refine wpList_store_row rfl 97 (.tmp 8) (.tmp 16) rfl w1.heap.size (wayC k D cr en pl fd).toArray rfl rfl _ zwy (uh HZ1) (by rw [hws]; exact Tryz.size_way) (by rw [hws]; rfl) (xa0y _ _ hon.1 hon.2) ?_; simp only [Act.put])
 go_ret2
 exact ⟨rfl,uh HK1⟩
end
section
open Go Go.RowKit Go.BigFrame
theorem lh_gr {P:Program} {Q:Exit→Act→World→Prop} {id:Nat} {o0 o1 o2 o3 o4 o5 o6 o7 o8 o9 o10 o11:Oper} {a:Act} {w:World} (hm:P.follows .mixedOrders = true) (hb:linB #[o0,o1,o2,o3,o4,o5,o6,o7,o8,o9,o10,o11] [0,1,2,4,5] [3,6,7,8] [9,10,11] = true) (hg:([o0,o1,o2,o4,o5]++([o3,o6,o7,o8]++[o9,o10,o11])).all (fun o=>o.guard.isNone) = true) (S:World→Prop) (hS:S w.drew)
  (h:LinY P S (ChL P Q S (fun a w=>S w∧LinY P S (Q .normal) [o9,o10,o11] a w) [o3,o6,o7,o8]) [o0,o1,o2,o4,o5] a w.drew):(Code.region id #[o0,o1,o2,o3,o4,o5,o6,o7,o8,o9,o10,o11] true).wp P Q a w:=wp_lin (R:=[0,1,2,4,5]) (C:=[3,6,7,8]) (T:=[9,10,11]) (rs:=[o0,o1,o2,o4,o5]) (cs:=[o3,o6,o7,o8]) (ts:=[o9,o10,o11]) hm hb rfl rfl rfl hg hS h
end
section
open Go.RowKit Go.BigFrame
theorem xb1j {k:Nat} {w:World} {q:List Nat} {L:Prs} {s p t r:Value} (h:WalkP k w q L s p) (g:WalkP k w q L t r):∃ ss ps,RdS w s ss∧RdK w p ps∧RdS w t ss∧RdK w r ps:=by
 obtain ⟨m,h1,h2,h3,h4⟩:=h
 obtain ⟨n,g1,g2,g3,g4⟩:=g
 have e:m = n:=by
  rcases Nat.lt_trichotomy m n with h | h | h
  ·have:=g3 m h; rw [h4] at this; cases this
  ·exact h
  ·have:=h3 n h; rw [g4] at this; cases this
 subst e
 exact ⟨_,_,h1,h2,g1,g2⟩
theorem xa5c {ops:Array Oper} {rest:List Oper} {o:Oper} {a:Act} {w:World} {Q:Exit→Act→World→Prop} (hw:Region.wanted o (yielded ops a.tmps) = true) (x y:Operand) (r:TypeId) (ho:o.op = .binOp .eql 64 x y r) (d e:List Nat) (hd:d.length = 32) (he:e.length = 32) (hx:a.eval x = .agg (brow d)) (hy:a.eval y = .agg (brow e))
  (h:wpList Tryz.prog ops Q rest (a.put o.dst (.bool (decide (d = e)))) w):wpList Tryz.prog ops Q (o :: rest) a w :=
 wpList_want hw fun _ hK=>by
  unfold Oper.wp
  rw [xa8m 64 x y r ho (brow d) (brow e) hx hy w _ (by kernel_rfl) (dig_eq w d e hd he)]
  exact hK _ _ h
theorem xa9d (k:Nat) (hk:1≤k∧k≤32) (L:Prs):(rootP k L).length = 32:=by
 unfold rootP
 split
 ·exact xa0t k (hash [5]) (by omega) (xa1d [5])
 ·exact (nod_dg k 64 L).1
theorem MapAt.form {S:Nat→Prop} {k:Nat} {W:World} {v:Value} {L:Prs} (h:MapAt S k W v L):∃ g,v = .pointer (some ⟨g,0,none⟩):=by
 obtain ⟨g,tv,e,_⟩:=h.at_
 exact ⟨g,e⟩
set_option maxHeartbeats 4000000 in
theorem xb4p (S T:Nat→Prop) (k:Nat) (mv uv:Value) (L:Prs) (w:World) (hM:MapAt S k w mv L) (hI:IAt T k w uv L) (hT:∀ y,w.heap.size≤y→T y) (hTb:Tabs w) :
  Calls Tryz.prog 12 #[.int .i64 k,mv,uv] w fun e w'=>e = .returned (.bool true)∧Kept [] w w':=by
 obtain ⟨g,rfl⟩:=hM.form
 obtain ⟨ao,c,l,rfl,_⟩:=hI.parts
 have hk:=hM.ok
 have HM:=hide hM
 have HI:=hide hI
 have HS:=hide hM.srt
 have HF:=hide hM.fit
 have HL:=hide hM.len
 have HT:=hide hT
 have HTb:=hide hTb
 have hrl:=xa9d k hk L
 clear hM hI hT hTb
 go_enter Tryz.func12,Tryz.ntmps12
 go_wp2_with fail
 refine Calls.mono (xb0m S k _ L w (uh HM)) ?_
 rintro e w1 ⟨rfl,k1⟩
 have HK1:=hide k1
 clear k1
 go_wp2_with fail
 refine Calls.mono (xb0r S k _ L w1 ((uh HM).agr (Agr.nil (uh HK1)))) ?_
 rintro e w2 ⟨rfl,k2⟩
 have HK2:=hide ((uh HK1).trans k2 (by simp))
 clear k2
 go_wp2_with fail
 refine Calls.mono (xb2b S k _ L w2 ((uh HM).agr (Agr.nil (uh HK2))) ((uh HTb).k (uh HK2))) ?_
 rintro e w3 ⟨rfl,k3⟩
 have HK3:=hide ((uh HK2).trans k3 (by simp))
 clear k3
 go_wp2_with fail
 refine Calls.mono (xa4s T k hk _ L w3 ((uh HI).agr (Agr.nil (uh HK3))) (uh HS) (uh HF) (uh HL) (fun y hy=>uh HT y (by have:=(uh HK3).size; omega))) ?_
 rintro e w4 ⟨rfl,k4⟩
 have HK4:=hide ((uh HK3).trans k4 (by simp))
 clear k4
 generalize rootP k L = R at hrl ⊢
 go_wp2_with (refine xa5c rfl (.tmp 24) (.tmp 27) _ rfl R R hrl hrl rfl rfl ?_; rw [decide_eq_true rfl])
 refine Calls.mono (xb3l S k _ L w4 ((uh HM).agr (Agr.nil (uh HK4)))) ?_
 rintro e w5 ⟨v5,l5,rfl,hl5,k5⟩
 have HR5:=hide hl5.rdK
 have HK5:=hide ((uh HK4).trans k5 (by simp))
 clear hl5 k5
 go_wp2_with fail
 refine Calls.mono (xa2r T k _ L w5 ((uh HI).agr (Agr.nil (uh HK5))) (uh HL)) ?_
 rintro e w6 ⟨v6,rfl,r6,k6⟩
 have HR6:=hide r6
 have HR56:=hide ((uh HR5).old k6)
 have HK6:=hide ((uh HK5).trans k6 (by simp))
 clear r6 k6
 go_wp2_with fail
 refine Calls.mono (xa3b _ _ L L w6 (uh HR56) (uh HR6)) ?_
 rintro e w7 ⟨rfl,k7⟩
 have HK7:=hide ((uh HK6).trans k7 (by simp))
 clear k7
 rw [decide_eq_true rfl]
 go_wp2_with fail
 go_ret
 exact ⟨rfl,uh HK7⟩
set_option maxHeartbeats 4000000 in
theorem xa8p (S T:Nat→Prop) (k:Nat) (mv uv qv:Value) (q:List Nat) (L:Prs) (w:World) (hM:MapAt S k w mv L) (hI:IAt T k w uv L) (hq:Rd w qv q) (hT:∀ y,w.heap.size≤y→T y) (hTb:Tabs w) :
  Calls Tryz.prog 14 #[.int .i64 k,mv,uv,qv] w fun e w'=>e = .returned (.bool true)∧Kept [] w w':=by
 obtain ⟨g,rfl⟩:=hM.form
 have hk:=hM.ok
 obtain ⟨qa,qn,qc,rfl,hqn,_⟩:=id hq
 have HM:=hide hM
 have HI:=hide hI
 have HQ:=hide hq
 have HS:=hide hM.srt
 have HF:=hide hM.fit
 have HL:=hide hM.len
 have HT:=hide hT
 have HTb:=hide hTb
 clear hM hI hT hTb hq
 by_cases hlong:q.length≤64
 ·have q1:¬ (64:Int) < qn:=by omega
  have q2:¬ (qn:Int) > 64:=by omega
  have HLo:=hide hlong
  clear hqn hlong
  go_enter Tryz.func14,Tryz.ntmps14
  go_wp2_with fail
  refine Calls.mono (xa1m _ q w (uh HQ)) ?_
  rintro e w1 ⟨v1,rfl,r1,_,k1⟩
  have HR1:=hide r1
  have HK1:=hide k1
  clear r1 k1
  go_wp2_with fail
  refine Calls.mono (xb5k S k _ v1 L q w1 ((uh HM).agr (Agr.nil (uh HK1))) (uh HR1) (uh HLo) ((uh HTb).k (uh HK1))) ?_
  rintro e w2 ⟨v2,rfl,r2,_,k2⟩
  have HR2:=hide r2
  have HK2:=hide ((uh HK1).trans k2 (by simp))
  clear r2 k2
  go_wp2_with fail
  refine Calls.mono (xa1m _ q w2 ((uh HQ).old (uh HK2) (by simp))) ?_
  rintro e w3 ⟨v3,rfl,r3,_,k3⟩
  have HR3:=hide r3
  have HR2:=hide ((uh HR2).old k3 (by simp))
  have HK3:=hide ((uh HK2).trans k3 (by simp))
  clear r3 k3
  go_wp2_with fail
  refine Calls.mono (xb7h S k _ v3 L q w3 ((uh HM).agr (Agr.nil (uh HK3))) (uh HR3) (uh HLo) ((uh HTb).k (uh HK3))) ?_
  rintro e w4 ⟨sv,pv,rfl,hw4,k4⟩
  have HW4:=hide hw4
  have HR2:=hide ((uh HR2).old k4 (by simp))
  have HK4:=hide ((uh HK3).trans k4 (by simp))
  clear hw4 k4
  go_wp2_with fail
  refine Calls.mono (xb2q T k _ _ q L w4 ((uh HI).agr (Agr.nil (uh HK4))) ((uh HQ).old (uh HK4) (by simp)) (uh HL)) ?_
  rintro e w5 ⟨v5,rfl,r5,k5⟩
  have HR5:=hide r5
  have HR2:=hide ((uh HR2).old k5 (by simp))
  have HW5:=hide ((uh HW4).old k5)
  have HK5:=hide ((uh HK4).trans k5 (by simp))
  clear r5 k5
  go_wp2_with fail
  refine Calls.mono (xb2z T k hk _ _ q L w5 ((uh HI).agr (Agr.nil (uh HK5))) ((uh HQ).old (uh HK5) (by simp)) (by have:=uh HLo; omega) (uh HS) (uh HF) (uh HL) (fun y hy=>uh HT y (by have:=(uh HK5).size; omega))) ?_
  rintro e w6 ⟨tv,rv,rfl,hw6,k6⟩
  obtain ⟨ss,ps,a1,a2,a3,a4⟩:=xb1j ((uh HW5).old k6) hw6
  have A1:=hide a1
  have A2:=hide a2
  have A3:=hide a3
  have A4:=hide a4
  have HR2:=hide ((uh HR2).old k6 (by simp))
  have HR5:=hide ((uh HR5).old k6 (by simp))
  have HK6:=hide ((uh HK5).trans k6 (by simp))
  generalize (getP q L).getD [] = V at HR2 HR5
  generalize fnd q L = FB
  clear hw6 k6 a1 a2 a3 a4
  go_wp2_with fail
  refine Calls.mono (same_k _ _ V V w6 (uh HR2) (uh HR5)) ?_
  rintro e w7 ⟨rfl,k7⟩
  rw [decide_eq_true rfl]
  have HK7:=hide ((uh HK6).trans k7 (by simp))
  have A1:=hide ((uh A1).old k7)
  have A2:=hide ((uh A2).old k7)
  have A3:=hide ((uh A3).old k7)
  have A4:=hide ((uh A4).old k7)
  clear k7
  go_wp2_with fail
  refine Calls.mono (xa6k _ _ ss ss w7 (uh A1) (uh A3)) ?_
  rintro e w8 ⟨rfl,k8⟩
  rw [decide_eq_true rfl]
  have HK8:=hide ((uh HK7).trans k8 (by simp))
  have A2:=hide ((uh A2).old k8)
  have A4:=hide ((uh A4).old k8)
  clear k8
  go_wp2_with fail
  refine Calls.mono (xa3b _ _ ps ps w8 (uh A2) (uh A4)) ?_
  rintro e w9 ⟨rfl,k9⟩
  rw [decide_eq_true rfl]
  have HK9:=hide ((uh HK8).trans k9 (by simp))
  clear k9
  go_wp2_with fail
  go_ret
  exact ⟨rfl,uh HK9⟩
 ·have q1:(64:Int) < qn:=by omega
  have q2:(qn:Int) > 64:=by omega
  have HLo:=hide (show 64 < q.length by omega)
  clear hqn hlong
  go_enter Tryz.func14,Tryz.ntmps14
  go_wp2_with fail
  refine Calls.mono (xa1m _ q w (uh HQ)) ?_
  rintro e w1 ⟨v1,rfl,r1,_,k1⟩
  have HR1:=hide r1
  have HK1:=hide k1
  clear r1 k1
  go_wp2_with fail
  refine Calls.mono (xb6u g v1 q w1 (uh HR1) (uh HLo)) ?_
  rintro e w2 ⟨rfl,k2⟩
  have HK2:=hide ((uh HK1).trans k2 (by simp))
  clear k2
  go_wp2_with fail
  refine Calls.mono (xa1m _ q w2 ((uh HQ).old (uh HK2) (by simp))) ?_
  rintro e w3 ⟨v3,rfl,r3,_,k3⟩
  have HR3:=hide r3
  have HK3:=hide ((uh HK2).trans k3 (by simp))
  clear r3 k3
  go_wp2_with fail
  refine Calls.mono (xb3b g v3 q w3 (uh HR3) (uh HLo)) ?_
  rintro e w4 ⟨rfl,k4⟩
  have HK4:=hide ((uh HK3).trans k4 (by simp))
  clear k4
  go_wp2_with fail
  go_ret
  exact ⟨rfl,uh HK4⟩
theorem xb9e (S:Nat→Prop) (k:Nat) (mv kv vv:Value) (L:Prs) (q v:List Nat) (w:World) (hM:MapAt S k w mv L) (hku:Rd w kv q) (hvu:Rd w vv v) (hL:L.length < 1000000000) (hS:∀ y,w.heap.size≤y→S y) (hT:Tabs w) :
  Calls Tryz.prog 20 #[mv,kv,vv] w fun e w'=>∃ x,e = .returned (.tuple #[x,.int .i64 (if fitP q v = true then 0 else 2)])∧(fitP q v = true→MapAt S k w' x (insP (hsZ k) q v L))∧(fitP q v = false→x = .pointer none)∧Kept [] w w':=by
 by_cases hq:q.length≤64
 ·by_cases hv:v.length≤256
  ·have hf:fitP q v = true:=decide_eq_true ⟨hq,hv⟩
   rw [hf]
   exact (xb1y S k mv kv vv L q v w hM hku hvu hq hv hL hS hT).mono fun e w' ⟨m',h1,h2,h3⟩=>⟨m',h1,fun _=>h2,(fun h=>by cases h),h3⟩
  ·have hf:fitP q v = false:=decide_eq_false (fun h=>hv h.2)
   rw [hf]
   exact (xb4r S k mv kv vv L q v w hM hku hvu hq (by omega) hT).mono fun e w' ⟨h1,h3⟩=>⟨_,h1,(fun h=>by cases h),fun _=>rfl,h3⟩
 ·have hf:fitP q v = false:=decide_eq_false (fun h=>hq h.1)
  rw [hf]
  obtain ⟨g,rfl⟩:=hM.form
  exact (xb7g g kv vv q w hku (by omega)).mono fun e w' ⟨h1,h3⟩=>⟨_,h1,(fun h=>by cases h),fun _=>rfl,h3⟩
def shortP (ps:Prs):Prs:=ps.filter (fun p=>fitP p.1 p.2)
theorem xa5x (ps:Prs) (e:List Nat × List Nat):shortP (ps++[e]) = shortP ps++(if fitP e.1 e.2 = true then [e] else []):=by
 unfold shortP
 rw [List.filter_append,List.filter_cons]
 by_cases h:fitP e.1 e.2 = true
 ·rw [if_pos h,if_pos h]; rfl
 ·rw [if_neg h,if_neg h]; rfl
theorem xb3t (ps:Prs):Fit (shortP ps):=fun p hp=>by
 have:=(List.mem_filter.1 hp).2
 exact of_decide_eq_true this
theorem xa7d (ps:Prs):(shortP ps).length≤ps.length:=List.length_filter_le _ _
theorem rd_low {w w7:World} {v:Value} {q:List Nat} (h:Rd w v q) (k:Kept [] w w7):Sty (fun y=>y < w.heap.size) w7 (fun w=>Rd w v q):=fun w' a=>by
 obtain ⟨ao,len,cap,rfl,h1,h2,h3,h4,h5,h6⟩:=h
 refine ⟨ao,len,cap,rfl,h1,h2,h3,h4,h5,fun hp=>?_⟩
 obtain ⟨b,off,rfl,hc⟩:=h6 hp
 exact ⟨b,off,rfl,fun i hi=>a.cell (k.cell (hc i hi) (by simp)) (block_lt_of_cell (hc i hi))⟩
set_option maxHeartbeats 4000000 in
theorem xb1z (pv:Value) (ps:Prs) (w:World) (hP:RdK w pv ps) (hl:ps.length≤1000000000) :
  Calls Tryz.prog 17 #[pv] w fun e w'=>∃ v' l',e = .returned v'∧(w'.ownsRow w.heap.size 46 2 v' l'.length (kvR l').flatten∧PR (fun y=>y < w.heap.size) w' l' (shortP ps))∧Kept [] w w':=by
 obtain ⟨ao,n,c,ks,vs,rfl,hn,hc1,hc2,hrd,hcell⟩:=hP
 have HN:=hide hn
 rw [hn] at hl
 have HRD:=hide hrd
 have HCE:=hide hcell
 clear hn hrd hcell
 go_enter Tryz.func17,Tryz.ntmps17
 go_wp2
 go_loopw [3,8] (fun t3 t8 wr=>∃ (j:Nat) (v:Value) (lx:List VP),t8 = .int .i64 j∧t3 = v∧j≤n∧Hid (wr.ownsRow w.heap.size 46 2 v lx.length (kvR lx).flatten)∧Hid (PR (fun y=>y < w.heap.size) wr lx (shortP (ps.take j)))∧Hid (Kept [] w wr)) (fun _ t _=>n - (intOf t).toNat)
 case atStart=>exact ⟨0,.slice none 0 0,[],rfl,rfl,Nat.zero_le _,hide (World.ownsRow_nil _ _ _ _),hide (PR.nil _ _),hide (Kept.refl _ _)⟩
 case round =>
  obtain ⟨j,v,lx,rfl,rfl,hj,HOx,HPx,HKr⟩:=hrel
  by_cases hlt:j < n
  ·have hlt':(j:Int) < n:=by omega
   have hjL:j < ps.length:=by have:=uh HN; omega
   obtain ⟨b,off,rfl,hcl⟩:=uh HCE (by omega)
   obtain ⟨hx1,hx2⟩:=hcl j hlt
   obtain ⟨hr1,hr2⟩:=uh HRD j hlt
   have HSNOC:=hide (show ps.take (j + 1) = ps.take j++[ps.getD j ([],[])] by
    rw [List.take_succ_eq_append_getElem hjL,List.getD_eq_getElem?_getD,List.getElem?_eq_getElem hjL]; rfl)
   generalize ks.getD j undef = kx at hx1 hr1
   generalize vs.getD j undef = vx at hx2 hr2
   generalize ps.getD j ([],[]) = ej at hr1 hr2 HSNOC
   obtain ⟨ka,va⟩:=ej
   have HR1:=hide hr1
   have HR2:=hide hr2
   obtain ⟨x1,x2,x3,rfl,_⟩:=id hr1
   obtain ⟨y1,y2,y3,rfl,_⟩:=id hr2
   have hm1:=(uh HKr).cell hx1 (by simp)
   have hm2:=(uh HKr).cell hx2 (by simp)
   have HRG:=hide (show wr.rangeAt b (off + j * 2) [.slice x1 x2 x3,.slice y1 y2 y3] from fun i u hi=>by
    match i,hi with
    | 0,hi=>rw [Nat.add_zero,hm1]; exact hi
    | 1,hi=>rw [hm2]; exact hi)
   have HP2:=hide (heap_alloc_new wr (.cells #[.slice x1 x2 x3,.slice y1 y2 y3] 46))
   have HK2:=hide ((Kept.refl [] wr).alloc (.cells #[.slice x1 x2 x3,.slice y1 y2 y3] 46))
   clear hx1 hx2 hr1 hr2 hm1 hm2 hcl
   go_upto_region 5 with (refine wpList_load_mid rfl 46 (.tmp 10) rfl b (off + j * 2) rfl [.slice x1 x2 x3,.slice y1 y2 y3] _ (uh HRG) Tryz.underlying46 rfl Tryz.size_pair ?_)
   try simp only [Act.put]
   generalize wr.alloc (.cells #[.slice x1 x2 x3,.slice y1 y2 y3] 46) = W2 at HP2 HK2 ⊢
   have hcp:=xa0n [] [.slice x1 x2 x3,.slice y1 y2 y3] [] (uh HP2) rfl
   have hQ1:=(show W2.cell? ⟨wr.heap.size,0,none⟩ = some (.slice x1 x2 x3) from hcp 0 _ rfl)
   have hQ2:=(show W2.cell? ⟨wr.heap.size,1,none⟩ = some (.slice y1 y2 y3) from hcp 1 _ rfl)
   have HC1:=hide hQ1
   have HC2:=hide hQ2
   have HK02:=hide ((uh HKr).trans (uh HK2) (by simp))
   clear hcp
   have HCP:=hide (xa3n _ _ ka va W2 ((uh HR1).old (uh HK02) (by simp)) ((uh HR2).old (uh HK02) (by simp)))
   have HSN:=hide (xa5x (ps.take j) (ka,va))
   have hln:=(uh HPx).1
   have hsl:=xa7d (ps.take j)
   rw [List.length_take] at hsl
   have hbnd:lx.length + 1≤1000000001:=by omega
   have HO2:=hide ((uh HK2).owns (uh HOx) (by simp))
   obtain ⟨vo,vc,rfl⟩:=xa0k (uh HOx)
   have hown:∀ z,(Value.slice vo lx.length vc).ownBlock = some z→w.heap.size≤z:=fun z hz=>((uh HOx).lt z hz).1
   clear hln hsl
   have HSN:Hid (shortP (ps.take j++[(ka,va)]) = shortP (ps.take j)++(if fitP ka va = true then [(ka,va)] else [])):=HSN
   generalize fitP ka va = FP at HCP HSN
   cases FP with
   | true =>
    have HW5:=hide (heap_alloc_new W2 (.cells #[.slice x1 x2 x3,.slice y1 y2 y3] 46))
    have HK45:=hide ((Kept.refl [] W2).alloc (.cells #[.slice x1 x2 x3,.slice y1 y2 y3] 46))
    have HO5:=hide ((uh HK45).owns (uh HO2) (by simp))
    have HK5:=hide ((uh HK02).trans (uh HK45) (by simp))
    have HRL:=hide (show RdC 2 (W2.alloc (.cells #[.slice x1 x2 x3,.slice y1 y2 y3] 46)) (.slice (some ⟨W2.heap.size,0,none⟩) 1 1) (kvR [(.slice x1 x2 x3,.slice y1 y2 y3)]) from ⟨_,1,1,rfl,rfl,Nat.le_refl _,by omega,fun _=>⟨W2.heap.size,0,rfl,fun j hj=>by
     have h0:j = 0:=by rw [xa0s] at hj; simp at hj; omega
     subst h0
     exact xa0n [] [.slice x1 x2 x3,.slice y1 y2 y3] [] (uh HW5) rfl⟩⟩)
    go_wp2_with fail
    refine Calls.mono (uh HCP) ?_
    rintro e w7 ⟨rfl,h7⟩
    rw [h7]
    clear h7 HCP
    go_wp2_with (first
     | (refine xa2o rfl (.tmp 19) rfl (.slice x1 x2 x3) (.slice y1 y2 y3) rfl ?_)
     | (at_builtin; refine xa0g rfl 40 46 (.tmp 18) (.tmp 20) rfl rfl _ w.heap.size (.agg #[.slice none 0 0,.slice none 0 0]) 2 48 Tryz.underlying40 Tryz.infoQ rfl (by decide) (.slice vo lx.length vc) lx.length (kvR lx).flatten (uh HO5) (some ⟨W2.heap.size,0,none⟩) 1 1 (kvR [(.slice x1 x2 x3,.slice y1 y2 y3)]) (uh HRL) (by intro r hr; simp [kvR] at hr; rw [hr]; rfl) (by intro r hr u hu; simp [kvR] at hr; rw [hr] at hu; simp at hu; rcases hu with rfl | rfl <;> rfl) (by omega) (by omega) (uh HK5).size rfl rfl ?_; intro ao7 c7 w7 HO7 HG7 HA7))
    have HK7:=hide ((uh HK5).grown (uh HG7) (fun z hz=>Or.inr (hown z hz)))
    have HKR7:=hide (show Agr (fun y=>y < w.heap.size) wr w7 from ⟨by have h1:=(uh HK2).size; have h2:=(uh HK45).size; have h3:=(uh HG7).size; omega,fun x hx hl=>by
     rw [(uh HK7).block x hx (by simp),(uh HKr).block x hx (by simp)]⟩)
    have HPY:=hide (((uh HPx).agr (uh HKR7)).app (PR.one (S:=fun y=>y < w.heap.size) (W:=w7) (x:=.slice x1 x2 x3) (y:=.slice y1 y2 y3) (a:=ka) (b:=va) (rd_low (uh HR1) (uh HK7)) (rd_low (uh HR2) (uh HK7))))
    clear hown hbnd HKR7
    refine ⟨⟨j + 1,.slice ao7 (lx.length + 1) c7,lx++[(.slice x1 x2 x3,.slice y1 y2 y3)],by go_num,rfl,hlt,hide (by rw [List.length_append,xa8f,List.flatten_append]; exact uh HO7),hide (by rw [uh HSNOC,uh HSN]; first | (rw [if_pos rfl]; exact uh HPY) | (rw [if_pos trivial]; exact uh HPY)),HK7⟩,?_⟩
    simp [intOf]; omega
   | false =>
    go_wp2_with fail
    refine Calls.mono (uh HCP) ?_
    rintro e w7 ⟨rfl,h7⟩
    rw [h7]
    clear h7 HCP
    go_wp2_with fail
    refine ⟨⟨j + 1,_,lx,by go_num,rfl,hlt,HO2,hide (by rw [uh HSNOC,uh HSN,if_neg (by decide),List.append_nil]; exact (uh HPx).agr (Agr.nil (uh HK2))),HK02⟩,?_⟩
    simp [intOf]; omega
  ·have hje:j = n:=by omega
   subst hje
   have hlt':¬ (j:Int) < j:=by omega
   have h9:=uh HPx
   rw [List.take_of_length_le (by have:=uh HN; omega)] at h9
   have H9:=hide h9
   clear h9
   go_wp2
   go_ret
   first
   | exact ⟨_,rfl,⟨lx,uh HOx,uh H9⟩,uh HKr⟩
   | exact ⟨_,lx,rfl,⟨uh HOx,uh H9⟩,uh HKr⟩
theorem xb3c (pv:Value) (ps:Prs) (w:World) (hP:RdK w pv ps) (hl:ps.length≤1000000000) :
  Calls Tryz.prog 17 #[pv] w fun e w'=>∃ v',e = .returned v'∧RdK w' v' (shortP ps)∧Kept [] w w' :=
 (xb1z pv ps w hP hl).mono fun e w' ⟨v',l',h1,⟨h2,h3⟩,h4⟩=>⟨v',h1,rdk_of (xa2e (by rw [xa0s]; exact h2) h3.cell.1) h3,h4⟩
set_option maxHeartbeats 8000000 in
theorem xb4n (S:Nat→Prop) (k:Nat) (hk:1≤k∧k≤32) (pv:Value) (ps:Prs) (w:World) (hP:RdK w pv ps) (hl:ps.length≤100000000) (hS:∀ y,w.heap.size≤y→S y) (hTb:Tabs w) :
  Calls Tryz.prog 15 #[.int .i64 k,pv] w fun e w'=>∃ m',e = .returned m'∧MapAt S k w' m' (insAll (hsZ k) [] (shortP ps))∧Kept [] w w':=by
 obtain ⟨ao,n,c,ks,vs,rfl,hn,hc1,hc2,hrd,hcell⟩:=hP
 have HN:=hide hn
 rw [hn] at hl
 have HRD:=hide hrd
 have HCE:=hide hcell
 clear hn hrd hcell
 have HS:=hide hS
 have HTb:=hide hTb
 clear hS hTb
 go_enter Tryz.func15,Tryz.ntmps15
 go_wp2_with fail
 refine Calls.mono (xb5x S k w hk (uh HS)) ?_
 rintro e w1 ⟨m1,rfl,hm1,k1⟩
 have HM1:=hide hm1
 have HK1:=hide k1
 clear hm1 k1
 go_wp2_with fail
 go_loopw [5,16] (fun t5 t16 wr=>∃ (j:Nat) (v:Value),t16 = .int .i64 j∧t5 = v∧j≤n∧Hid (MapAt S k wr v (insAll (hsZ k) [] (shortP (ps.take j))))∧Hid (Kept [] w wr)) (fun _ t _=>n - (intOf t).toNat)
 case atStart=>exact ⟨0,m1,rfl,rfl,Nat.zero_le _,HM1,HK1⟩
 case round =>
  clear HM1 HK1
  obtain ⟨j,v,rfl,rfl,hj,HMx,HKr⟩:=hrel
  by_cases hlt:j < n
  ·have hlt':(j:Int) < n:=by omega
   have hjL:j < ps.length:=by have:=uh HN; omega
   obtain ⟨b,off,rfl,hcl⟩:=uh HCE (by omega)
   obtain ⟨hx1,hx2⟩:=hcl j hlt
   obtain ⟨hr1,hr2⟩:=uh HRD j hlt
   have HSNOC:=hide (show ps.take (j + 1) = ps.take j++[ps.getD j ([],[])] by
    rw [List.take_succ_eq_append_getElem hjL,List.getD_eq_getElem?_getD,List.getElem?_eq_getElem hjL]; rfl)
   generalize ks.getD j undef = kx at hx1 hr1
   generalize vs.getD j undef = vx at hx2 hr2
   generalize ps.getD j ([],[]) = ej at hr1 hr2 HSNOC
   obtain ⟨ka,va⟩:=ej
   have HR1:=hide hr1
   have HR2:=hide hr2
   obtain ⟨x1,x2,x3,rfl,_⟩:=id hr1
   obtain ⟨y1,y2,y3,rfl,_⟩:=id hr2
   have hm1:=(uh HKr).cell hx1 (by simp)
   have hm2:=(uh HKr).cell hx2 (by simp)
   have HRG:=hide (show wr.rangeAt b (off + j * 2) [.slice x1 x2 x3,.slice y1 y2 y3] from fun i u hi=>by
    match i,hi with
    | 0,hi=>rw [Nat.add_zero,hm1]; exact hi
    | 1,hi=>rw [hm2]; exact hi)
   have HP2:=hide (heap_alloc_new wr (.cells #[.slice x1 x2 x3,.slice y1 y2 y3] 46))
   have HK2:=hide ((Kept.refl [] wr).alloc (.cells #[.slice x1 x2 x3,.slice y1 y2 y3] 46))
   clear hx1 hx2 hr1 hr2 hm1 hm2 hcl
   go_upto_region 5 with (refine wpList_load_mid rfl 46 (.tmp 18) rfl b (off + j * 2) rfl [.slice x1 x2 x3,.slice y1 y2 y3] _ (uh HRG) Tryz.underlying46 rfl Tryz.size_pair ?_)
   try simp only [Act.put]
   generalize wr.alloc (.cells #[.slice x1 x2 x3,.slice y1 y2 y3] 46) = W2 at HP2 HK2 ⊢
   have hcp:=xa0n [] [.slice x1 x2 x3,.slice y1 y2 y3] [] (uh HP2) rfl
   have hQ1:=(show W2.cell? ⟨wr.heap.size,0,none⟩ = some (.slice x1 x2 x3) from hcp 0 _ rfl)
   have hQ2:=(show W2.cell? ⟨wr.heap.size,1,none⟩ = some (.slice y1 y2 y3) from hcp 1 _ rfl)
   have HC1:=hide hQ1
   have HC2:=hide hQ2
   have HK02:=hide ((uh HKr).trans (uh HK2) (by simp))
   clear hcp
   have HCP:=hide (xa3n _ _ ka va W2 ((uh HR1).old (uh HK02) (by simp)) ((uh HR2).old (uh HK02) (by simp)))
   have HSN:=hide (xa5x (ps.take j) (ka,va))
   have hsl:=xa5m (hsZ k) (shortP (ps.take j)) []
   have hsl2:=xa7d (ps.take j)
   rw [List.length_take] at hsl2
   have HLN:=hide (show (insAll (hsZ k) [] (shortP (ps.take j))).length < 1000000000 by simp at hsl; omega)
   have HMX2:=hide ((uh HMx).agr (Agr.nil (uh HK2)))
   have HQ2:=hide ((uh HR1).old (uh HK02) (by simp))
   have HV2:=hide ((uh HR2).old (uh HK02) (by simp))
   obtain ⟨g,rfl⟩:=(uh HMx).form
   have HPUT:=hide (fun (W:World) (z1 z2:Value) (hW:Kept [] W2 W) (h1:Rd W z1 ka) (h2:Rd W z2 va)=>xb9e S k _ z1 z2 _ ka va W ((uh HMX2).agr (Agr.nil hW)) h1 h2 (uh HLN) (fun y hy=>uh HS y (by have:=hW.size; have:=(uh HK02).size; omega)) (Tabs.k (uh HTb) ((uh HK02).trans hW (by simp))))
   have HINS:=hide (xa5b (hsZ k) [] (shortP (ps.take j)) (ka,va))
   clear hsl hsl2
   have HSN:Hid (shortP (ps.take j++[(ka,va)]) = shortP (ps.take j)++(if fitP ka va = true then [(ka,va)] else [])):=HSN
   generalize hFP:fitP ka va = FP at HCP HSN HPUT
   cases FP with
   | true =>
    go_wp2_with fail
    refine Calls.mono (uh HCP) ?_
    rintro e w7 ⟨rfl,h7⟩
    rw [h7]
    clear h7 HCP hFP
    go_upto_region 6 with fail
    clear hQ1 hQ2
    refine lh_gr (by kernel_rfl) (by kernel_rfl) rfl (fun W=>Kept [] W2 W) (Kept.refl _ W2).drew ?_
    refine LinY.rd (.pointer (some ⟨g,0,none⟩)) (fun W hW=>by go_simp) (by simp only [Act.put,sa1,sa2,sa3]; rfl) ?_
    refine LinY.rd (.pointer (some ⟨wr.heap.size,0,none⟩)) (fun W hW=>by go_simp) (by simp only [Act.put,sa1,sa2,sa3]; rfl) ?_
    refine LinY.rd (.slice x1 x2 x3) (fun W hW=>by have h9:=hW.cell (uh HC1) (by simp); go_simp) (by simp only [Act.put,sa1,sa2,sa3]; rfl) ?_
    refine LinY.rd (.pointer (some ⟨wr.heap.size,1,none⟩)) (fun W hW=>by go_simp) (by simp only [Act.put,sa1,sa2,sa3]; rfl) ?_
    refine LinY.rd (.slice y1 y2 y3) (fun W hW=>by have h9:=hW.cell (uh HC2) (by simp); go_simp) (by simp only [Act.put,sa1,sa2,sa3]; rfl) ?_
    have hd2:=(Kept.refl [] W2).drew
    refine LinY.fin (ChL.call rfl Tryz.call25 [.slice x1 x2 x3] rfl (xa1m _ ka W2.drew ((uh HQ2).old hd2 (by simp))) ?_)
    rintro e w4 ⟨z1,rfl,r1,_,k4⟩
    have hk4:=hd2.trans k4 (by simp)
    refine ⟨_,rfl,hk4,?_⟩
    simp only [Act.put,sa1,sa2,sa3]
    refine ChL.call rfl Tryz.call25 [.slice y1 y2 y3] rfl (xa1m _ va w4 ((uh HV2).old hk4 (by simp))) ?_
    rintro e w5 ⟨z2,rfl,r2,_,k5⟩
    have hk5:=hk4.trans k5 (by simp)
    refine ⟨_,rfl,hk5,?_⟩
    simp only [Act.put,sa1,sa2,sa3]
    refine ChL.call rfl Tryz.call20 [.pointer (some ⟨g,0,none⟩),z1,z2] rfl (uh HPUT w5 z1 z2 hk5 (r1.old k5 (by simp)) r2) ?_
    rintro e w6 ⟨x,rfl,m6,n6,k6⟩
    have hk6:=hk5.trans k6 (by simp)
    refine ⟨_,rfl,hk6,?_⟩
    simp only [Act.put,sa1,sa2,sa3]
    obtain ⟨gx,rfl⟩:=(show MapAt S k w6 x (insP (hsZ k) ka va _) from by first | exact m6 rfl | exact m6 trivial).form
    refine ChL.op (.tuple #[.pointer (some ⟨gx,0,none⟩),.int .i64 0]) (by go_simp) hk6 (by simp only [Act.put,sa1,sa2,sa3]; rfl) (ChL.fin ⟨hk6,?_⟩)
    refine LinY.rd (.pointer (some ⟨gx,0,none⟩)) (fun W hW=>by go_simp) (by simp only [Act.put,sa1,sa2,sa3]; rfl) ?_
    refine LinY.rd (.int .i64 0) (fun W hW=>by go_simp) (by simp only [Act.put,sa1,sa2,sa3]; rfl) ?_
    refine LinY.rd (.pointer (some ⟨gx,0,none⟩)) (fun W hW=>by go_simp) (by simp only [Act.put,sa1,sa2,sa3]; rfl) ?_
    refine LinY.fin ?_
    have HMX:=hide (by first | exact m6 rfl | exact m6 trivial)
    have HK6:=hide ((uh HK02).trans hk6 (by simp))
    clear m6 n6 k6 hk6 r2 r1 k5 hk5 k4 hk4 hd2 HPUT
    go_wp2_with fail
    refine ⟨⟨j + 1,_,by go_num,rfl,hlt,hide (by rw [uh HSNOC,uh HSN]; first | (rw [if_pos rfl,uh HINS]; exact uh HMX) | (rw [if_pos trivial,uh HINS]; exact uh HMX)),HK6⟩,?_⟩
    simp [intOf]; omega
   | false =>
    go_wp2_with fail
    refine Calls.mono (uh HCP) ?_
    rintro e w7 ⟨rfl,h7⟩
    rw [h7]
    clear h7 HCP hFP
    go_wp2_with fail
    refine ⟨⟨j + 1,_,by go_num,rfl,hlt,hide (by rw [uh HSNOC,uh HSN,if_neg (by decide),List.append_nil]; exact uh HMX2),HK02⟩,?_⟩
    simp [intOf]; omega
  ·have hje:j = n:=by omega
   subst hje
   have hlt':¬ (j:Int) < j:=by omega
   have h9:=uh HMx
   rw [List.take_of_length_le (by have:=uh HN; omega)] at h9
   have H9:=hide h9
   clear h9
   go_wp2
   go_ret
   exact ⟨_,rfl,uh H9,uh HKr⟩
theorem xb8h {w:World} {g:Nat} (bs:List Nat) {cs:Array Value} {fr:Nat × Nat} (h:w.heap[g]? = some (.cells cs 5 fr)) (hc:cs = (bs.map u8).toArray) (hb:∀ x∈bs,x < 256) (n:Nat) (hn:bs.length = n) (hl:n≤140737488355328):Rd w (.slice (some ⟨g,0,none⟩) n n) bs:=by
 refine ⟨_,n,n,rfl,hn,Nat.le_refl _,⟨by omega,hl⟩,fun h=>by simp at h,hb,fun hp=>⟨g,0,rfl,fun i hi=>?_⟩⟩
 subst hc
 have hi':i < bs.length:=by omega
 rw [cell_of_row _ _ _ _ _ _ h,Nat.zero_add,List.getElem?_toArray,List.getElem?_map,List.getD_eq_getElem?_getD,List.getElem?_eq_getElem hi']
 rfl
abbrev bt (x:Int):Obj:=.cells #[.int .u8 x] 5 (1,2)
theorem bt_rd (w:World) (x:Nat) (hx:x < 256):Rd (w.alloc (bt x)) (.slice (some ⟨w.heap.size,0,none⟩) 1 1) [x]:=xb8h (n:=1) [x] (heap_alloc_new w (bt x)) rfl (by intro y hy; simp at hy; omega) rfl (by decide)
def awL (k:Nat):Prs:=insP (hsZ k) [98] [] (insP (hsZ k) [97] [49] [])
theorem xa8s (k:Nat):Srt (hsZ k) (insP (hsZ k) [97] [49] []):=(xa6f _).ins _ _
theorem xb5e (k:Nat):getP [97] (awL k) = some [49]:=by
 unfold awL
 rw [xb1v (xa8s k),if_neg (by decide),xb1v (xa6f _),if_pos rfl]
theorem xb9t (k:Nat):fnd [97] (awL k) = true:=by unfold fnd; rw [xb5e]; rfl
theorem xb6i (k:Nat):(awL k).length = 2:=by
 unfold awL
 have h0:fnd [98] (insP (hsZ k) [97] [49] []) = false:=by unfold fnd; rw [xb1v (xa6f _),if_neg (by decide)]; rfl
 rw [xb0l (xa8s k),h0,if_neg (by decide)]; rfl
set_option maxHeartbeats 4000000 in
theorem xa9s (w:World) (hTb:Tabs w) :
  Calls Tryz.prog 9 #[] w fun e w'=>e = .returned (.bool true)∧Kept [] w w':=by
 have HTb:=hide hTb
 obtain ⟨S,hS⟩:∃ S:Nat→Prop,S = fun _=>True:=⟨_,rfl⟩
 have HS:=hide (show ∀ (n y:Nat),n≤y→S y from fun _ _ _=>by rw [hS]; trivial)
 clear hTb hS
 have kc:=fun (w:World) (C:Array Value) (n c:Nat)=>Lib.run_convert_bytes_const (P:=Tryz.prog) w 32 5 C n c Tryz.underlying32 Tryz.underlying5
 have kc1:=fun (w:World) (o:Obj) (C:Array Value) (n c:Nat)=>Go.Joins.run_convert_bytes_const_at (P:=Tryz.prog) (w.alloc o) 32 5 C n c (w.heap.size + 1) (by simp) Tryz.underlying32 Tryz.underlying5
 have kc2:=fun (w:World) (o o':Obj) (C:Array Value) (n c:Nat)=>Go.Joins.run_convert_bytes_const_at (P:=Tryz.prog) ((w.alloc o).alloc o') 32 5 C n c (w.heap.size + 1 + 1) (by simp) Tryz.underlying32 Tryz.underlying5
 go_enter Tryz.func9,Tryz.ntmps9
 go_wp2_with fail
 refine Calls.mono (xb5x S 4 w (by omega) (uh HS _)) ?_
 rintro e w1 ⟨m1,rfl,hm1,k1⟩
 obtain ⟨g1,rfl⟩:=hm1.form
 have HM1:=hide hm1
 have HK1:=hide k1
 clear hm1 k1
 go_wp2_with fail
 have ka:=(Kept.refl [] w1).alloc (bt 97)
 have kb:=(Kept.refl [] (w1.alloc (bt 97))).alloc (bt 49)
 have hz:(w1.alloc (bt 97)).heap.size = w1.heap.size + 1:=by simp
 have r1:=(bt_rd w1 97 (by decide)).old kb (by simp)
 have r2:=bt_rd (w1.alloc (bt 97)) 49 (by decide)
 rw [hz] at r2
 have HKA:=hide ((uh HK1).trans (ka.trans kb (by simp)) (by simp))
 have HMA:=hide ((uh HM1).agr (Agr.nil (ka.trans kb (by simp))))
 refine Calls.mono (xb1y S 4 _ _ _ [] [97] [49] _ (uh HMA) r1 r2 (by decide) (by decide) (by decide) (uh HS _) ((uh HTb).k (uh HKA))) ?_
 rintro e w2 ⟨m2,rfl,hm2,k2⟩
 obtain ⟨g2,rfl⟩:=hm2.form
 have HM2:=hide hm2
 have HK2:=hide ((uh HKA).trans k2 (by simp))
 clear hm2 k2 ka kb hz r1 r2 HKA HMA HM1 HK1
 go_wp2_with fail
 have kb:=(Kept.refl [] w2).alloc (bt 98)
 have r1:=bt_rd w2 98 (by decide)
 have HKB:=hide ((uh HK2).trans kb (by simp))
 refine Calls.mono (xb1y S 4 _ _ _ _ [98] [] _ ((uh HM2).agr (Agr.nil kb)) r1 (Rd.nil _) (by decide) (by decide) (by decide) (uh HS _) ((uh HTb).k (uh HKB))) ?_
 rintro e w3 ⟨m3,rfl,hm3,k3⟩
 obtain ⟨g3,rfl⟩:=hm3.form
 have HM3:=hide (show MapAt S 4 w3 (.pointer (some ⟨g3,0,none⟩)) (awL 4) from hm3)
 have HK3:=hide ((uh HKB).trans k3 (by simp))
 clear hm3 k3 kb r1 HKB HM2 HK2
 go_wp2_with fail
 have kb:=(Kept.refl [] w3).alloc (bt 97)
 have r1:=bt_rd w3 97 (by decide)
 have HKB:=hide ((uh HK3).trans kb (by simp))
 refine Calls.mono (xb5k S 4 _ _ (awL 4) [97] _ ((uh HM3).agr (Agr.nil kb)) r1 (by decide) ((uh HTb).k (uh HKB))) ?_
 rintro e w4 ⟨v4,rfl,r4,_,k4⟩
 rw [xb5e] at r4
 rw [xb9t]
 have HR4:=hide (show Rd w4 v4 [49] from r4)
 have HM4:=hide (((uh HM3).agr (Agr.nil kb)).agr (Agr.nil k4))
 have HK4:=hide ((uh HKB).trans k4 (by simp))
 clear r4 k4 kb r1 HKB HM3 HK3
 go_wp2_with fail
 refine Calls.mono (xb0r S 4 _ _ w4 (uh HM4)) ?_
 rintro e w5 ⟨rfl,k5⟩
 rw [xb6i]
 have HM5:=hide ((uh HM4).agr (Agr.nil k5))
 have HR5:=hide ((uh HR4).old k5 (by simp))
 have HK5:=hide ((uh HK4).trans k5 (by simp))
 clear k5
 go_wp2_with fail
 refine Calls.mono (xb0m S 4 _ _ w5 (uh HM5)) ?_
 rintro e w6 ⟨rfl,k6⟩
 have HM6:=hide ((uh HM5).agr (Agr.nil k6))
 have HR6:=hide ((uh HR5).old k6 (by simp))
 have HK6:=hide ((uh HK5).trans k6 (by simp))
 clear k6
 go_wp2_with fail
 have kb:=(Kept.refl [] w6).alloc (bt 49)
 have r1:=bt_rd w6 49 (by decide)
 refine Calls.mono (same_k _ _ [49] [49] _ ((uh HR6).old kb (by simp)) r1) ?_
 rintro e w7 ⟨rfl,k7⟩
 rw [decide_eq_true rfl]
 have HM7:=hide (((uh HM6).agr (Agr.nil kb)).agr (Agr.nil k7))
 have HK7:=hide (((uh HK6).trans kb (by simp)).trans k7 (by simp))
 clear k7 kb r1
 go_wp2_with fail
 refine Calls.mono (xb2b S 4 _ _ w7 (uh HM7) ((uh HTb).k (uh HK7))) ?_
 rintro e w8 ⟨rfl,k8⟩
 have HK8:=hide ((uh HK7).trans k8 (by simp))
 clear k8
 go_wp2_with fail
 have z1:(w8.alloc (bt 97)).heap.size = w8.heap.size + 1:=by simp
 have z2:((w8.alloc (bt 97)).alloc (bt 49)).heap.size = w8.heap.size + 1 + 1:=by simp
 have z3:(((w8.alloc (bt 97)).alloc (bt 49)).alloc (bt 98)).heap.size = w8.heap.size + 1 + 1 + 1:=by simp
 have ka:=(Kept.refl [] w8).alloc (bt 97)
 have kb:=(Kept.refl [] (w8.alloc (bt 97))).alloc (bt 49)
 have kd:=(Kept.refl [] ((w8.alloc (bt 97)).alloc (bt 49))).alloc (bt 98)
 have ke:=(Kept.refl [] (((w8.alloc (bt 97)).alloc (bt 49)).alloc (bt 98))).alloc (.cells #[.slice (some ⟨w8.heap.size,0,none⟩) 1 1,.slice (some ⟨w8.heap.size + 1,0,none⟩) 1 1,.slice (some ⟨w8.heap.size + 1 + 1,0,none⟩) 1 1,.slice none 0 0] 46)
 have r1:=(((bt_rd w8 97 (by decide)).old kb (by simp)).old kd (by simp)).old ke (by simp)
 have r2:=((bt_rd (w8.alloc (bt 97)) 49 (by decide)).old kd (by simp)).old ke (by simp)
 have r3:=(bt_rd ((w8.alloc (bt 97)).alloc (bt 49)) 98 (by decide)).old ke (by simp)
 rw [z1] at r2
 rw [z2] at r3
 have hx:=heap_alloc_new (((w8.alloc (bt 97)).alloc (bt 49)).alloc (bt 98)) (.cells #[.slice (some ⟨w8.heap.size,0,none⟩) 1 1,.slice (some ⟨w8.heap.size + 1,0,none⟩) 1 1,.slice (some ⟨w8.heap.size + 1 + 1,0,none⟩) 1 1,.slice none 0 0] 46)
 rw [z3] at hx
 have kall:=((ka.trans kb (by simp)).trans kd (by simp)).trans ke (by simp)
 have hK:=(uh HK8).trans kall (by simp)
 obtain ⟨X,hX⟩:∃ X,(((w8.alloc (bt 97)).alloc (bt 49)).alloc (bt 98)).alloc (.cells #[.slice (some ⟨w8.heap.size,0,none⟩) 1 1,.slice (some ⟨w8.heap.size + 1,0,none⟩) 1 1,.slice (some ⟨w8.heap.size + 1 + 1,0,none⟩) 1 1,.slice none 0 0] 46) = X:=⟨_,rfl⟩
 rw [hX] at r1 r2 r3 hx hK
 rw [hX]
 have hrk:RdK X (.slice (some ⟨w8.heap.size + 1 + 1 + 1,0,none⟩) 2 2) [([97],[49]),([98],[])]:=⟨_,2,2,[.slice (some ⟨w8.heap.size,0,none⟩) 1 1,.slice (some ⟨w8.heap.size + 1 + 1,0,none⟩) 1 1],[.slice (some ⟨w8.heap.size + 1,0,none⟩) 1 1,.slice none 0 0],rfl,rfl,Nat.le_refl _,by omega,fun i hi=>by
   match i,hi with
   | 0,_=>exact ⟨r1,r2⟩
   | 1,_=>exact ⟨r3,Rd.nil _⟩,fun _=>⟨_,0,rfl,fun i hi=>by
   match i,hi with
   | 0,_=>constructor <;> (rw [cell_of_row _ _ _ _ _ _ hx]; rfl)
   | 1,_=>constructor <;> (rw [cell_of_row _ _ _ _ _ _ hx]; rfl)⟩⟩
 have HRK:=hide hrk
 have HKX:=hide hK
 clear z1 z2 z3 ka kb kd ke r1 r2 r3 hx kall hK hX hrk
 refine Calls.mono (xa9k S 4 _ [([97],[49]),([98],[])] X (by omega) (uh HRK) (by intro p hp; simp at hp; rcases hp with rfl | rfl <;> simp) (by simp) (uh HS _)) ?_
 rintro e w9 ⟨v9,rfl,i9,k9⟩
 have HI9:=hide (show IAt S 4 w9 v9 (awL 4) from i9)
 have HK9:=hide ((uh HKX).trans k9 (by simp))
 have hfit:Fit (awL 4):=xa9c (xa8s 4) (xa9c (xa6f _) (fun p hp=>by simp at hp) (by decide) (by decide)) (by decide) (by decide)
 have HFI:=hide hfit
 have hrl:=xa9d 4 (by omega) (awL 4)
 clear i9 k9 hfit
 go_wp2_with fail
 refine Calls.mono (xa4s S 4 (by omega) _ (awL 4) w9 (uh HI9) ((xa8s 4).ins _ _) (uh HFI) (by rw [xb6i]; omega) (uh HS _)) ?_
 rintro e w10 ⟨rfl,k10⟩
 have HK10:=hide ((uh HK9).trans k10 (by simp))
 clear k10
 generalize rootP 4 (awL 4) = R at hrl ⊢
 go_wp2_with (refine xa5c rfl (.tmp 74) (.tmp 85) _ rfl R R hrl hrl rfl rfl ?_; rw [decide_eq_true rfl])
 go_ret
 exact ⟨rfl,uh HK10⟩
theorem xb5m:∀ ps:Prs,2 * ps.length≤kwt ps
 | []=>by simp [kwt]
 | p :: ps=>by
  have ih:=xb5m ps
  have e:kwt (p :: ps) = p.1.length + p.2.length + 2 + kwt ps:=by simp [kwt]
  rw [e,List.length_cons]; omega
theorem xb1f {z:Int} (h:widthB z = true):∃ k:Nat,z = k∧1≤k∧k≤32:=by
 have h1:1≤z∧z≤32:=by simpa [widthB] using h
 exact ⟨z.toNat,by omega,by omega,by omega⟩
set_option maxHeartbeats 8000000 in
theorem hamtWalks_walk (z:Int) (pv:Value) (ps:Prs) (lv:Value) (qs:List (List Nat)) (w:World) (hz:-9223372036854775808≤z∧z≤9223372036854775807) (hP:RdK w pv ps) (hx:kwt ps≤1048576) (hL:RdL w lv qs) (hq1:qs.flatten.length≤1048576) (hq2:qs.length≤1048576) (hT:Tabs w) :
  Calls Tryz.prog 4 #[.int .i64 z,pv,lv] w fun e w'=>e = .returned (.bool true)∧Below w.heap.size w w':=by
 have hpl:=xb5m ps
 have hpl2:ps.length≤1000000:=by omega
 obtain ⟨S,hS⟩:∃ S:Nat→Prop,S = fun _=>True:=⟨_,rfl⟩
 have HS:=hide (show ∀ (n y:Nat),n≤y→S y from fun _ _ _=>by rw [hS]; trivial)
 have HT:=hide hT
 have HP:=hide hP
 have hl:ps.length≤1000000:=hpl2
 have HPL:=hide hpl2
 obtain ⟨ao,n,c,ks,vs,rfl,hn,hc1,hc2,hrd,hcell⟩:=hP
 have HN:=hide hn
 rw [hn] at hl
 have HRD:=hide hrd
 have HCE:=hide hcell
 clear hn hrd hcell
 obtain ⟨la,ln,lc,us,rfl,hu1,hu2,hu3,hu4,hucell,hurd⟩:=hL
 have HUC:=hide hucell
 have HUR:=hide hurd
 clear hucell hurd hT hS hpl hpl2 hx hu1
 go_enter Tryz.func4,Tryz.ntmps4
 go_wp2_with fail
 refine Calls.mono (xa9s w (uh HT)) ?_
 rintro e w1 ⟨rfl,k1⟩
 have HK1:=hide k1
 clear k1
 go_wp2_with fail
 refine Calls.mono (xb1a z w1 hz) ?_
 rintro e w2 ⟨rfl,h2⟩
 rw [h2]
 clear h2
 cases hw:widthB z with
 | false =>
  go_wp2_with fail
  go_ret
  exact ⟨rfl,(uh HK1).below (Nat.le_refl _) (by simp)⟩
 | true =>
  obtain ⟨k,rfl,hk⟩:=xb1f hw
  clear hw hz
  go_wp2_with fail
  refine Calls.mono (xb4n S k hk _ ps w1 ((uh HP).old (uh HK1)) (by have:=uh HPL; omega) (uh HS _) ((uh HT).k (uh HK1))) ?_
  rintro e w3 ⟨m3,rfl,hm3,k3⟩
  obtain ⟨g,rfl⟩:=hm3.form
  have HM3:=hide hm3
  have HK3:=hide ((uh HK1).trans k3 (by simp))
  clear hm3 k3
  go_wp2_with fail
  refine Calls.mono (xb3c _ ps w3 ((uh HP).old (uh HK3)) (by have:=uh HPL; omega)) ?_
  rintro e w4 ⟨v4,rfl,r4,k4⟩
  have HR4:=hide r4
  have HK34:=hide k4
  have HK4:=hide ((uh HK3).trans k4 (by simp))
  clear r4 k4
  go_wp2_with fail
  refine Calls.mono (xa9k S k v4 (shortP ps) w4 hk (uh HR4) (fun p hp=>Nat.le_trans (xb3t ps p hp).1 (by omega)) (by have:=xa7d ps; have:=uh HPL; omega) (uh HS _)) ?_
  rintro e w5 ⟨l5,rfl,i5,k5⟩
  have HI5:=hide i5
  have HM5:=hide (((uh HM3).agr (Agr.nil (uh HK34))).agr (Agr.nil k5))
  have HK5:=hide ((uh HK4).trans k5 (by simp))
  clear i5 k5 HM3 HK34 HR4
  generalize insAll (hsZ k) [] (shortP ps) = L at HI5 HM5
  go_wp2_with fail
  refine Calls.mono (xb4p S S k _ l5 L w5 (uh HM5) (uh HI5) (uh HS _) ((uh HT).k (uh HK5))) ?_
  rintro e w6 ⟨rfl,k6⟩
  have HI6:=hide ((uh HI5).agr (Agr.nil k6))
  have HM6:=hide ((uh HM5).agr (Agr.nil k6))
  have HK6:=hide ((uh HK5).trans k6 (by simp))
  clear k6 HI5 HM5
  go_wp2_with fail
  go_loopw [32] (fun t32 wr=>∃ (i:Nat),t32 = .int .i64 i∧i≤ln∧Hid (Kept [] w6 wr)) (fun t _=>ln - (intOf t).toNat)
  case atStart=>exact ⟨0,rfl,Nat.zero_le _,hide (Kept.refl _ _)⟩
  case round =>
   obtain ⟨i,rfl,hi,HKr⟩:=hrel
   by_cases hlt:i < ln
   ·have hlt':(i:Int) < ln:=by omega
    obtain ⟨b,off,rfl,hcl⟩:=uh HUC (by omega)
    have HRU:=hide (uh HUR i hlt)
    have HK0r:=hide ((uh HK6).trans (uh HKr) (by simp))
    have hc:=(uh HK0r).cell (hcl i hlt) (by simp)
    generalize us.getD i undef = uv at hc HRU
    generalize qs.getD i [] = qq at HRU
    clear hcl
    go_wp2_with fail
    refine Calls.mono (xa8p S S k _ l5 uv qq L wr ((uh HM6).agr (Agr.nil (uh HKr))) ((uh HI6).agr (Agr.nil (uh HKr))) ((uh HRU).old (uh HK0r) (by simp)) (uh HS _) ((uh HT).k (uh HK0r))) ?_
    rintro e w8 ⟨rfl,k8⟩
    have HK8:=hide ((uh HKr).trans k8 (by simp))
    clear k8 hc
    go_wp2_with fail
    refine ⟨⟨i + 1,by go_num,hlt,HK8⟩,?_⟩
    simp [intOf]; omega
   ·have hie:i = ln:=by omega
    subst hie
    have hlt':¬ (i:Int) < i:=by omega
    have HK0r:=hide ((uh HK6).trans (uh HKr) (by simp))
    have HM7:=hide ((uh HM6).agr (Agr.nil (uh HKr)))
    have HI7:=hide ((uh HI6).agr (Agr.nil (uh HKr)))
    obtain ⟨w7,hw7⟩:∃ w7,w7 = wr:=⟨_,rfl⟩
    subst hw7
    clear HM6 HI6 HKr
    go_wp2_with fail
    go_loopw [45] (fun t45 wr=>∃ (j:Nat),t45 = .int .i64 j∧j≤n∧Hid (Kept [] w7 wr)) (fun t _=>n - (intOf t).toNat)
    case atStart=>exact ⟨0,rfl,Nat.zero_le _,hide (Kept.refl _ _)⟩
    case round =>
     obtain ⟨j,rfl,hj,HK7r⟩:=hrel
     have HKr:=hide ((uh HK0r).trans (uh HK7r) (by simp))
     by_cases hlt:j < n
     ·have hlt2:(j:Int) < n:=by omega
      have hjL:j < ps.length:=by have:=uh HN; omega
      obtain ⟨b,off,rfl,hcl⟩:=uh HCE (by omega)
      obtain ⟨hx1,hx2⟩:=hcl j hlt
      obtain ⟨hr1,hr2⟩:=uh HRD j hlt
      have HSNOC:=hide (show ps.take (j + 1) = ps.take j++[ps.getD j ([],[])] by
       rw [List.take_succ_eq_append_getElem hjL,List.getD_eq_getElem?_getD,List.getElem?_eq_getElem hjL]; rfl)
      generalize ks.getD j undef = kx at hx1 hr1
      generalize vs.getD j undef = vx at hx2 hr2
      generalize ps.getD j ([],[]) = ej at hr1 hr2 HSNOC
      obtain ⟨ka,va⟩:=ej
      have HR1:=hide hr1
      have HR2:=hide hr2
      obtain ⟨x1,x2,x3,rfl,_⟩:=id hr1
      obtain ⟨y1,y2,y3,rfl,_⟩:=id hr2
      have hm1:=(uh HKr).cell hx1 (by simp)
      have hm2:=(uh HKr).cell hx2 (by simp)
      have HRG:=hide (show wr.rangeAt b (off + j * 2) [.slice x1 x2 x3,.slice y1 y2 y3] from fun i u hi=>by
       match i,hi with
       | 0,hi=>rw [Nat.add_zero,hm1]; exact hi
       | 1,hi=>rw [hm2]; exact hi)
      have HP2:=hide (heap_alloc_new wr (.cells #[.slice x1 x2 x3,.slice y1 y2 y3] 46))
      have HK2:=hide ((Kept.refl [] wr).alloc (.cells #[.slice x1 x2 x3,.slice y1 y2 y3] 46))
      clear hx1 hx2 hr1 hr2 hm1 hm2 hcl
      go_upto_region 18 with (refine wpList_load_mid rfl 46 (.tmp 47) rfl b (off + j * 2) rfl [.slice x1 x2 x3,.slice y1 y2 y3] _ (uh HRG) Tryz.underlying46 rfl Tryz.size_pair ?_)
      try simp only [Act.put]
      generalize wr.alloc (.cells #[.slice x1 x2 x3,.slice y1 y2 y3] 46) = W2 at HP2 HK2 ⊢
      have hcp:=xa0n [] [.slice x1 x2 x3,.slice y1 y2 y3] [] (uh HP2) rfl
      have hQ1:=(show W2.cell? ⟨wr.heap.size,0,none⟩ = some (.slice x1 x2 x3) from hcp 0 _ rfl)
      have hQ2:=(show W2.cell? ⟨wr.heap.size,1,none⟩ = some (.slice y1 y2 y3) from hcp 1 _ rfl)
      have HC1:=hide hQ1
      have HC2:=hide hQ2
      have HK02:=hide ((uh HKr).trans (uh HK2) (by simp))
      clear hcp
      have HR1w:=hide ((uh HR1).old (uh HK02) (by simp))
      have HK72:=hide ((uh HK7r).trans (uh HK2) (by simp))
      go_wp2_with fail
      refine Calls.mono (xa8p S S k _ l5 _ ka L W2 ((uh HM7).agr (Agr.nil (uh HK72))) ((uh HI7).agr (Agr.nil (uh HK72))) (uh HR1w) (uh HS _) ((uh HT).k (uh HK02))) ?_
      rintro e w8 ⟨rfl,k8⟩
      have HK8:=hide ((uh HK72).trans k8 (by simp))
      clear k8 hQ1 hQ2
      go_wp2_with fail
      refine ⟨⟨j + 1,by go_num,hlt,HK8⟩,?_⟩
      simp [intOf]; omega
     ·have hje:j = n:=by omega
      have hlt2:¬ (j:Int) < n:=by omega
      go_wp2_with fail
      go_ret
      exact ⟨rfl,(uh HKr).below (Nat.le_refl _) (by simp)⟩
end
section
open Go.ChangeShapes Go.WideShapes Go.ChangeAt Go.RowKit Go.Deep
theorem own:ownKnob Tryz.prog.godebug = none:=by kernel_rfl
theorem laidOut:laidOutB Tryz.prog = true:=by kernel_rfl
theorem xa6q {x:Int} (h:(Lit.int .u8 x).wf = true):0≤x∧x < 256:=by
 simp [Lit.wf,IntKind.min,IntKind.max,IntKind.signed,IntKind.bits] at h
 exact ⟨by omega,by omega⟩
theorem xb3s {x:Int} (h:(Lit.int .i64 x).wf = true):-9223372036854775808≤x∧x≤9223372036854775807:=by
 simp [Lit.wf,IntKind.min,IntKind.max,IntKind.signed,IntKind.bits] at h
 exact ⟨by omega,by omega⟩
theorem xb6w {H:Type} (d:DataW H):1≤Rows.uptoBulk d:=by
 cases d with
 | lit l=>cases l <;> simp [Rows.uptoBulk]
 | nil=>simp [Rows.uptoBulk]
 | ptr d=>simp [Rows.uptoBulk]
 | slice elems spare=>simp [Rows.uptoBulk]
 | agg parts=>simp [Rows.uptoBulk]
 | iface t d=>simp [Rows.uptoBulk]
 | map entries=>simp [Rows.uptoBulk]
 | held h=>simp [Rows.uptoBulk]
theorem xb1t {H:Type} (l:List (DataW H)):l.length≤Rows.uptoBulkAll l:=by
 induction l with
 | nil=>simp [Rows.uptoBulkAll]
 | cons x r ih=>have:=xb6w x; simp only [Rows.uptoBulkAll,List.length_cons]; omega
section
variable {H:Type} {enc:TypeId × Value→H} {W:World}
theorem xa3y {fuel:Nat} {cs:List Value} {x:DataW H × List MemPlace} (h:DataW.trod enc Tryz.prog W 0 (fun _=>true) true fuel 32 cs = some x) :
  ∃ v bs,cs = [v]∧(bs.length≤140737488355328→Rd W v bs)∧((bs = []∧x.1 = .nil)∨∃ elems spare,x.1 = .slice elems spare∧elems.length = bs.length):=by
 rcases open_ints Tryz.underlying32 Tryz.underlying5 (by kernel_rfl) h with ⟨rfl,rfl⟩ | ⟨a,len,cap,zs,rfl,_,hl,hm,hz,rfl,hcell,hwz⟩
 ·exact ⟨_,[],rfl,fun _=>Rd.nil W,.inl ⟨rfl,rfl⟩⟩
 ·have h2:(lits (H:=H) .u8 (zs.take len)).length = len:=by simp only [lits,List.length_map,List.length_take]; simp at hz; omega
  have hbl:((zs.take len).map Int.toNat).length = len:=by simp at hz; simp; omega
  refine ⟨_,(zs.take len).map Int.toNat,rfl,fun hB=>⟨_,_,_,rfl,hbl,hl,⟨by unfold maxLen at hm; omega,by omega⟩,by simp,?_,?_⟩,.inr ⟨_,_,rfl,by rw [h2,hbl]⟩⟩
  ·intro y hy
   obtain ⟨z,hz1,rfl⟩:=List.mem_map.1 hy
   have:=xa6q (hwz z (List.mem_of_mem_take hz1)); omega
  ·intro hp
   simp at hz
   have hc0:=hcell 0 (by omega)
   obtain ⟨b,off,spot⟩:=a
   have hspot:spot = none:=by simpa [Addr.add] using World.cell?_spot hc0
   subst hspot
   refine ⟨b,off,rfl,fun i hi=>?_⟩
   have hc:=hcell i (by omega)
   have hzi:i < zs.length:=by omega
   rw [Addr.add_mid] at hc
   rw [hc]
   have hw:=xa6q (hwz (zs[i]) (List.getElem_mem hzi))
   simp only [List.getD_eq_getElem?_getD,List.getElem?_eq_getElem hzi,Option.getD_some,List.getElem?_map,List.getElem?_take,hi,if_true,Option.map_some]
   simp [u8]; omega
theorem xa4e {d:DataW H} {bs:List Nat} (hx:(bs = []∧d = .nil)∨∃ elems spare,d = .slice elems spare∧elems.length = bs.length):bs.length + 1≤Rows.uptoBulk d:=by
 rcases hx with ⟨rfl,rfl⟩ | ⟨elems,spare,rfl,he⟩
 ·simp [Rows.uptoBulk]
 ·have:=xb1t elems
  simp only [Rows.uptoBulk]; omega
end
section
variable {H:Type} {enc:TypeId × Value→H} {W:World}
theorem xb0a {d:DataW H} {l:List (DataW H)} (h:d∈l):Rows.uptoBulk d≤Rows.uptoBulkAll l:=by
 induction l with
 | nil=>cases h
 | cons x r ih =>
  simp only [Rows.uptoBulkAll]
  cases List.mem_cons.1 h with
  | inl e=>subst e; omega
  | inr e=>have:=ih e; omega
theorem xb4t (f:Nat→List Nat) (D:Nat→DataW H) (l:List Nat) (h:∀ i∈l,(f i).length + 1≤Rows.uptoBulk (D i)):(l.map f).flatten.length + l.length≤Rows.uptoBulkAll (l.map D):=by
 induction l with
 | nil=>simp [Rows.uptoBulkAll]
 | cons a l ih =>
  have h1:=h a (by simp)
  have h2:=ih (fun i hi=>h i (by simp [hi]))
  simp only [List.map_cons,List.flatten_cons,List.length_append,List.length_cons,Rows.uptoBulkAll] at h2 ⊢
  omega
theorem xb2l {fuel:Nat} {cs:List Value} {x:DataW H × List MemPlace} (h:DataW.trod enc Tryz.prog W 0 (fun _=>true) true fuel 41 cs = some x) (hB:Rows.uptoBulk x.1≤1048576) :
  ∃ v ps,cs = [v]∧RdL W v ps∧ps.flatten.length≤1048576∧ps.length≤1048576:=by
 rcases open_slice Tryz.underlying41 h with ⟨rfl,rfl⟩ | ⟨a,len,cap,m,n,D,Pl,rfl,_,hl,hm,hmm,rfl,hx⟩
 ·exact ⟨_,[],rfl,⟨none,0,0,[],rfl,rfl,rfl,Nat.le_refl _,by omega,fun h=>by omega,fun i h=>by omega⟩,by simp,by simp⟩
 ·have hC:Tryz.prog.cellsOf 32 = 1:=by kernel_rfl
  rw [hC] at hx
  simp only [if_true] at hmm
  simp only [Rows.uptoBulk] at hB
  have hlb:len≤1048576:=by have:=xb1t ((List.range len).map D); simp at this; omega
  obtain ⟨f,hf⟩:=choose_lt (α:=Value × List Nat) (n:=len) (p:=fun i o=>W.cell? (a.add i) = some o.1∧Rd W o.1 o.2∧o.2.length + 1≤Rows.uptoBulk (D i)) (by
   intro i hi
   obtain ⟨cs',h1,h2⟩:=hx i (by omega)
   have hDi:Rows.uptoBulk (D i)≤Rows.uptoBulkAll ((List.range len).map D):=xb0a (List.mem_map.2 ⟨i,List.mem_range.2 hi,rfl⟩)
   obtain ⟨v,bs,rfl,hr,hb⟩:=xa3y h2
   have hb2:=xa4e hb
   obtain ⟨_,hlen,hc⟩:=World.cells?_some h1
   have hc0:=hc 0 (by omega)
   have e:(a.add (i * 1)).add 0 = a.add i:=by rw [Nat.mul_one]; simp [Addr.add]
   rw [e] at hc0
   exact ⟨(v,bs),hc0,hr (by simp only at hb2; omega),hb2⟩)
  refine ⟨_,(List.range len).map fun i=>(f i).2,rfl,⟨some a,len,cap,(List.range len).map fun i=>(f i).1,rfl,by simp,by simp,hl,by unfold maxLen at hm; omega,?_,?_⟩,?_,by simpa using hlb⟩
  ·intro hp
   obtain ⟨b,off,spot⟩:=a
   have hc0:=(hf 0 hp).1
   have hspot:spot = none:=by simpa [Addr.add] using World.cell?_spot hc0
   subst hspot
   refine ⟨b,off,rfl,fun i hi=>?_⟩
   have hc:=(hf i hi).1
   rw [Addr.add_mid] at hc
   rw [hc]
   simp [List.getD_eq_getElem?_getD,hi]
  ·intro i hi
   have hc:=(hf i hi).2.1
   simpa [List.getD_eq_getElem?_getD,hi] using hc
  ·have:=xb4t (fun i=>(f i).2) D (List.range len) (fun i hi=>(hf i (List.mem_range.1 hi)).2.2)
   simp only [List.length_range] at this
   omega
end
section
variable {H:Type} {enc:TypeId × Value→H} {W:World}
theorem xa7y {d:DataW H} {l:List (DataW H)} (h:d∈l):Rows.uptoBulk d≤Rows.uptoBulkAll l:=by
 induction l with
 | nil=>cases h
 | cons x r ih =>
  simp only [Rows.uptoBulkAll]
  cases List.mem_cons.1 h with
  | inl e=>subst e; omega
  | inr e=>have:=ih e; omega
theorem xa7w (f:Nat→List Nat × List Nat) (D0 D1:Nat→DataW H) (l:List Nat) (h:∀ i∈l,(f i).1.length + 1≤Rows.uptoBulk (D0 i)∧(f i).2.length + 1≤Rows.uptoBulk (D1 i)):kwt (l.map f)≤Rows.uptoBulkAll (l.map fun i=>.agg [D0 i,D1 i]):=by
 induction l with
 | nil=>simp [kwt]
 | cons a l ih =>
  have h1:=h a (by simp)
  have h2:=ih (fun i hi=>h i (by simp [hi]))
  simp only [kwt,List.map_cons,List.sum_cons,Rows.uptoBulkAll,Rows.uptoBulk] at h2 ⊢
  omega
theorem xb1k {fuel:Nat} {cs:List Value} {x:DataW H × List MemPlace} (h:DataW.trod enc Tryz.prog W 0 (fun _=>true) true fuel 40 cs = some x) (hB:Rows.uptoBulk x.1≤1048576) :
  ∃ v ps,cs = [v]∧RdK W v ps∧kwt ps≤1048576:=by
 rcases open_slice_pairs Tryz.underlying40 Tryz.underlying46 (by kernel_rfl) rfl rfl (by kernel_rfl) (by kernel_rfl) h with ⟨rfl,rfl⟩ | ⟨a,len,cap,m,n,V0,V1,D0,D1,P0,P1,rfl,_,hl,hm,hmm,rfl,hx⟩
 ·exact ⟨_,[],rfl,⟨none,0,0,[],[],rfl,rfl,Nat.le_refl _,by omega,fun i h=>by omega,fun h=>by omega⟩,by simp [kwt]⟩
 ·simp only [if_true] at hmm
  simp only [Rows.uptoBulk] at hB
  obtain ⟨f,hf⟩:=choose_lt (α:=List Nat × List Nat) (n:=len) (p:=fun i o=>(Rd W (V0 i) o.1∧Rd W (V1 i) o.2)∧o.1.length + 1≤Rows.uptoBulk (D0 i)∧o.2.length + 1≤Rows.uptoBulk (D1 i)) (by
   intro i hi
   obtain ⟨_,_,h0,h1⟩:=hx i (by omega)
   have hDi:Rows.uptoBulk (.agg [D0 i,D1 i])≤Rows.uptoBulkAll ((List.range len).map fun i=>.agg [D0 i,D1 i]):=xa7y (List.mem_map.2 ⟨i,List.mem_range.2 hi,rfl⟩)
   simp only [Rows.uptoBulk,Rows.uptoBulkAll] at hDi
   obtain ⟨v,bs,e0,hr0,hb0⟩:=xa3y h0
   obtain ⟨v',bs',e1,hr1,hb1⟩:=xa3y h1
   simp only [List.cons.injEq,and_true] at e0 e1
   subst e0
   subst e1
   have g0:=xa4e hb0
   have g1:=xa4e hb1
   exact ⟨(bs,bs'),⟨hr0 (by simp only at g0; omega),hr1 (by simp only at g1; omega)⟩,g0,g1⟩)
  refine ⟨_,(List.range len).map f,rfl,⟨some a,len,cap,(List.range len).map V0,(List.range len).map V1,rfl,by simp,hl,by unfold maxLen at hm; omega,?_,?_⟩,?_⟩
  ·intro i hi
   have hc:=(hf i hi).1
   simpa [List.getD_eq_getElem?_getD,hi] using hc
  ·intro hp
   obtain ⟨b,off,spot⟩:=a
   have hc0:=(hx 0 (by omega)).1
   have hspot:spot = none:=by simpa [Addr.add] using World.cell?_spot hc0
   subst hspot
   refine ⟨b,off,rfl,fun i hi=>?_⟩
   have hc:=hx i (by omega)
   rw [Addr.add_mid,Addr.add_mid] at hc
   have:=And.intro hc.1 hc.2.1
   simpa [List.getD_eq_getElem?_getD,hi,Nat.add_assoc] using this
  ·have:=xa7w f D0 D1 (List.range len) (fun i hi=>(hf i (List.mem_range.1 hi)).2)
   omega
end
end
end Go.Proofs.YtfnbmnpkjggiaaaGreatDoor
