import Derived.BigQuiet
import Derived.Test.YtghidgcekieljaaGreatXAVI
import Derived.Test.YtghidgcekieljaaGreatXAShr
import Derived.Test.YtghidgcekieljaaGreatXAEq
import Derived.Test.YtghidgcekieljaaGreatXALawA
namespace Go.Proofs.YtghidgcekieljaaGreat
open Go.RowKit Go.Proofs.Tryz
set_option maxRecDepth 100000
set_option maxHeartbeats 8000000
section
attribute [local go_sem ↓] uz1
attribute [local go_sem] uz2
section
attribute [local go_sem] uz5
theorem isw_yes{x:Int}(h0:1≤x)(h1:x≤6)(w:World):Calls prog 79 #[.int .i64 x] w fun e w'=>e=.returned (.bool true)∧w'=w:=by
 go_enter func79,ntmps79
 go_wp2
 go_ret
 exact⟨rfl,rfl⟩
theorem wfit_any{k b:Nat}(hk:k<M)(hb:b≤576)(w:World):Cg 80 #[.agg (nw 9 k),.int .i64 (b:Int)] w (.bool (decide (k<2^b))):=by
 have HS:Hid _:=fun w=>shr_any k b hk hb w;have hq:k/2^b<M:=Nat.lt_of_le_of_lt (Nat.div_le_self _ _) hk
 have hE:eqN 9 (k/2^b) 0=decide (k<2^b):=by
  rw[eqN9 _ _ hq (lt_M 0 (by decide))];exact decide_eq_decide.2 (Nat.div_eq_zero_iff_lt (Nat.two_pow_pos b))
 obtain⟨q,hq'⟩:∃q,k/2^b=q:=⟨_,rfl⟩;obtain⟨B,hB⟩:=exl (decide (k<2^b));rw[hq']at hE HS;rw[hB]at hE ⊢
 cases B
 all_goals
  go_enter func80,ntmps80
  go_wp2_with (go_at_call 120;refine(HS.out _).mono ?_;rintro e w' ⟨rfl,g,rfl⟩)
  go_ret
  exact⟨rfl,grA⟩
def dF(W k m:Nat)(i:Nat):Int:=((dgw W k (m-1-i):Nat):Int)
def cF(W k m j:Nat)(i:Nat):Int:=if m≤i+j then dF W k m i else 0
theorem cF_zero(W k m:Nat):ir m (cF W k m 0)=ir m fun _=>0:=ir_congr fun i hi=>by unfold cF;rw[if_neg (by omega)]
theorem cF_step(W k m p j:Nat)(h:p+j+1=m):(ir m (cF W k m j)).setIfInBounds p (.int .i64 ((dgw W k j:Nat):Int))=ir m (cF W k m (j+1)):=by
 rw[ir_set];refine ir_congr fun i hi=>?_;unfold cF
 by_cases e:i=p
 ·subst e;rw[if_pos rfl,if_pos (by omega)];unfold dF;rw[show m-1-i=j by omega]
 ·rw[if_neg e]
  by_cases c:m≤i+j
  ·rw[if_pos c,if_pos (by omega)]
  ·rw[if_neg c,if_neg (by omega)]
theorem cF_end(W k m:Nat):ir m (cF W k m m)=ir m (dF W k m):=ir_congr fun i hi=>by unfold cF;rw[if_pos (by omega)]
theorem wd_dgw{W k j:Nat}(h:W≤6):wd (k/2^(W*j)) 0%2^W=dgw W k j:=by
 unfold wd dgw;rw[pw_zero,Nat.div_one]
 have e:(18446744073709551616:Nat)=2^W*2^(64-W):=by rw[←Nat.pow_add,show W+(64-W)=64 by omega]
 rw[e,Nat.mod_mul_right_mod]
theorem wcut_any{k m W:Nat}(hk:k<M)(hm:m≤576)(h0:1≤W)(h1:W≤6)(w:World):Calls prog 81 #[.agg (nw 9 k),.int .i64 (m:Int),.int .i64 (W:Int)] w
 fun e w'=>∃g,e=.returned (.slice (some ⟨g,0,none⟩) m m)∧w.heap.size≤g∧Rx w' g m m (iF (dF W k m))∧Gr w w':=by
 have HS:Hid _:=fun(K:Nat) (hK:K<M) w=>shr_any K W hK (by omega) w;have hmk:=fun w=>make_ints m (by omega) w
 have m0:(0:Int)≤(m:Int):=by omega
 have m1:(m:Int)≤576:=by omega
 have w0:(0:Int)≤(W:Int):=by omega
 have w1:(W:Int)<64:=by omega
 have HK:Hid _:=hk;have HW:Hid _:=h1
 have hW:W<64:=by omega
 clear hk hm h0 h1
 go_enter func81,ntmps81
 go_wp2
 clear hmk m0
 go_loopw [9] (fun i wr=>∃j g,Hu (j≤m)∧i=.int .i64 ((m:Int)-1-(j:Int))∧wr=gro ((w.alloc (.cells (nw 9 (k/2^(W*j))) 25)).alloc (.cells (ir m (cF W k m j)) 3)) g) (fun i _=>(intOf i+1).toNat)
 case atStart=>
  obtain⟨g0,hg0⟩:=Gr.refl ((w.alloc (.cells (nw 9 k) 25)).alloc (.cells (ir m fun _=>0) 3));refine⟨0,g0,fun _=>by omega,by simp,?_⟩;rw[cF_zero,Nat.mul_zero,Nat.pow_zero,Nat.div_one];exact hg0
 case round=>
  obtain⟨j,g,HJ,rfl,rfl⟩:=hrel
  by_cases hlt:j<m
  ·obtain⟨p,hp⟩:∃p,p+j+1=m:=⟨m-1-j,by omega⟩
   have e1:(m:Int)-1-(j:Int)=(p:Int):=by omega
   have p0:(0:Int)≤(p:Int):=by omega
   have p1:(p:Int)<(m:Int):=by omega
   have p2:p<m:=by omega
   have gx:=ir_get m (cF W k m j) p p2
   have hD:bits BinOp.and IntKind.u64 ((wd (k/2^(W*j)) 0:Nat):Int) (IntKind.u64.wrap (IntKind.u64.wrap (2^W)-1))=((dgw W k j:Nat):Int):=by
    rw[mask_word _ _ (wd_lt _ _) hW,wd_dgw HW.out]
   have HD:Hid _:=Nat.lt_of_lt_of_le (dgw_lt W k j) (Nat.pow_le_pow_right (by decide) HW.out)
   have HN:Hu (k/2^(W*j)/2^W=k/2^(W*(j+1))):=fun _=>by rw[Nat.div_div_eq_div_mul,←Nat.pow_add,Nat.mul_succ]
   have HC:Hu (_):=fun _=>cF_step W k m p j hp;have HP:Hu (_):=fun _=>hp;have HL:Hid (k/2^(W*j)<M):=Nat.lt_of_le_of_lt (Nat.div_le_self _ _) HK.out;obtain⟨K,hK⟩:=exl (k/2^(W*j));obtain⟨D,hd⟩:=exl (dgw W k j);rw[hK]at hD HN HL ⊢;rw[hd]at hD HD HC
   have d1:(D:Int)<64:=by have:=HD.out;omega
   rw[e1]
   go_wp2_with (go_at_call 120;refine(HS.out _ HL.out _).mono ?_;rintro e w' ⟨rfl,g2,rfl⟩)
   go_roundw
   case rel=>
    refine⟨j+1,⟨g.os++g2.os,g2.n⟩,fun _=>by have:=HP.out ();omega,?_,?_⟩
    ·have:=HP.out ()
     go_num
    ·rw[←HN.out (),←HC.out ()]
   case measure=>simp[intOf]
  ·have HE:Hu (j=m):=fun _=>by have:=HJ.out ();omega
   go_wp2
   go_ret
   refine⟨_,rfl,by omega,?_,grA⟩;rw[HE.out (),cF_end];exact(Rx.new _ _ _ _ (by simp)).gr ⟨g,rfl⟩
end
end
end Go.Proofs.YtghidgcekieljaaGreat