import Derived.BigQuiet
import Derived.Test.YtffhepbppiocbadGreatXAVI
import Derived.Test.YtffhepbppiocbadGreatXAShr
import Derived.Test.YtffhepbppiocbadGreatXAEq
import Derived.Test.YtffhepbppiocbadGreatXALawA
namespace Go.Proofs.YtffhepbppiocbadGreat
open Go.RowKit Go.Proofs.Tryz
set_option maxRecDepth 100000
set_option maxHeartbeats 8000000
section
attribute [local go_sem ↓] uz1
attribute [local go_sem] uz2
section
attribute [local go_sem] uz5
theorem isw_yes{x:Int}(h0:1≤x)(h1:x≤6)(w:World):Calls prog 88 #[.int .i64 x] w fun e w'=>e=.returned (.bool true)∧w'=w:=by
 go_enter func88,ntmps88
 go_wp2
 go_ret
 exact⟨rfl,rfl⟩
theorem wfit_any{k b:Nat}(hk:k<M)(hb:b≤576)(w:World):Cg 89 #[.agg (nw 9 k),.int .i64 b] w (.bool (decide (k<2^b))):=by
 have f:Hid _:=fun w=>shr_any k b hk hb w;have i:k/2^b<M:=Nat.lt_of_le_of_lt (Nat.div_le_self _ _) hk
 have h:eqN 9 (k/2^b) 0=decide (k<2^b):=by
  rw[eqN9 _ _ i (lt_M 0 (by decide))];exact decide_eq_decide.2 (Nat.div_eq_zero_iff_lt (Nat.two_pow_pos b))
 obtain⟨q,d⟩:∃q,k/2^b=q:=⟨_,rfl⟩;obtain⟨B,j⟩:=exl (decide (k<2^b));rw[d]at h f;rw[j]at h ⊢
 cases B
 all_goals
  go_enter func89,ntmps89
  go_wp2_with (go_at_call 130;refine hkA f fun g=>?_)
  go_ret
  exact⟨rfl,grA⟩
def dF(W k m:Nat)(i:Nat):Int:=((dgw W k (m-1-i):Nat):Int)
def cF(W k m j:Nat)(i:Nat):Int:=if m≤i+j then dF W k m i else 0
theorem cF_zero(W k m:Nat):ir m (cF W k m 0)=ir m fun _=>0:=ir_congr fun i d=>by unfold cF;rw[if_neg (by omega)]
theorem cF_step(W k m p j:Nat)(h:p+j+1=m):(ir m (cF W k m j)).setIfInBounds p (.int .i64 ((dgw W k j:Nat):Int))=ir m (cF W k m (j+1)):=by
 grind [ir_set,ir_congr,cF,dF]
theorem cF_end(W k m:Nat):ir m (cF W k m m)=ir m (dF W k m):=ir_congr fun i d=>by unfold cF;rw[if_pos (by omega)]
theorem wd_dgw{W k j:Nat}(h:W≤6):wd (k/2^(W*j)) 0%2^W=dgw W k j:=by
 unfold wd dgw;rw[pw_zero,Nat.div_one]
 have e:(18446744073709551616:Nat)=2^W*2^(64-W):=by rw[←Nat.pow_add,show W+(64-W)=64 by omega]
 simp_all
theorem wcut_any{k m W:Nat}(hk:k<M)(hm:m≤576)(h0:1≤W)(h1:W≤6)(w:World):Calls prog 90 #[.agg (nw 9 k),.int .i64 m,.int .i64 W] w
 fun e w'=>∃g,e=.returned (.slice (some ⟨g,0,none⟩) m m)∧w.heap.size≤g∧Rx w' g m m (iF (dF W k m))∧Gr w w':=by
 have J:Hid _:=fun(K:Nat) (hK:K<M) w=>shr_any K W hK (by omega) w;have d:=fun w=>make_ints m (by omega) w
 have L:(0:Int)≤m:=by omega
 have m1:(m:Int)≤576:=by omega
 have w0:(0:Int)≤W:=by omega
 have w1:(W:Int)<64:=by omega
 have P:Hid _:=hk;have h:Hid _:=h1
 have Q:W<64:=by omega
 clear hk hm h0 h1
 go_enter func90,ntmps90
 go_wp2
 clear d L
 go_loopw [9] (fun i wr=>∃j g,Hu (j≤m)∧i=.int .i64 ((m:Int)-1-j)∧wr=gro ((w.alloc (.cells (nw 9 (k/2^(W*j))) 25)).alloc (.cells (ir m (cF W k m j)) 3)) g) (fun i _=>(intOf i+1).toNat)
 case atStart=>
  obtain⟨S,f⟩:=Gr.refl ((w.alloc (.cells (nw 9 k) 25)).alloc (.cells (ir m fun _=>0) 3));refine⟨0,S,fun _=>by omega,by simp,?_⟩;rw[cF_zero,Nat.mul_zero,Nat.pow_zero,Nat.div_one];exact f
 case round=>
  obtain⟨j,g,U,rfl,rfl⟩:=hrel
  by_cases hlt:j<m
  ·obtain⟨p,q⟩:∃p,p+j+1=m:=⟨m-1-j,by omega⟩
   have V:(m:Int)-1-j=p:=by omega
   have p0:(0:Int)≤p:=by omega
   have p1:(p:Int)<m:=by omega
   have X:p<m:=by omega
   have gx:=ir_get m (cF W k m j) p X
   have x:bits BinOp.and IntKind.u64 ((wd (k/2^(W*j)) 0:Nat):Int) (IntKind.u64.wrap (IntKind.u64.wrap (2^W)-1))=((dgw W k j:Nat):Int):=by
    rw[mask_word _ _ (wd_lt _ _) Q,wd_dgw h.out]
   have A:Hid _:=Nat.lt_of_lt_of_le (dgw_lt W k j) (Nat.pow_le_pow_right (by decide) h.out)
   have B:Hu (k/2^(W*j)/2^W=k/2^(W*(j+1))):=fun _=>by rw[Nat.div_div_eq_div_mul,←Nat.pow_add,Nat.mul_succ]
   have C:Hu (_):=fun _=>cF_step W k m p j q;have G:Hu (_):=fun _=>q;have H:Hid (k/2^(W*j)<M):=Nat.lt_of_le_of_lt (Nat.div_le_self _ _) P.out;obtain⟨K,hK⟩:=exl (k/2^(W*j));obtain⟨D,Y⟩:=exl (dgw W k j);rw[hK]at x B H ⊢;rw[Y]at x A C
   have d1:(D:Int)<64:=by have:=A.out;omega
   rw[V]
   go_wp2_with (go_at_call 130;refine(J.out _ H.out _).mono ?_;rintro e w' ⟨rfl,I,rfl⟩)
   go_roundw
   case rel=>
    refine⟨j+1,⟨g.os++I.os,I.n⟩,fun _=>by have:=G.out ();omega,?_,?_⟩
    ·have:=G.out ()
     go_num
    ·rw[←B.out (),←C.out ()]
   case measure=>simp[intOf]
  ·have Z:Hu (j=m):=fun _=>by have:=U.out ();omega
   go_wp2
   go_ret
   refine⟨_,rfl,by omega,?_,grA⟩;rw[Z.out (),cF_end];exact(Rx.new _ _ _ _ (by simp)).gr ⟨g,rfl⟩
end
end
end Go.Proofs.YtffhepbppiocbadGreat