import Derived.Test.YtffhepbppiocbadGreatXADA
import Derived.Test.YtffhepbppiocbadGreatXALib
namespace Go.Proofs.YtffhepbppiocbadGreat
open Go.RowKit Go.Proofs.Tryz
set_option maxRecDepth 100000
set_option maxHeartbeats 8000000
section
attribute [local go_sem ↓] uz1
attribute [local go_sem] uz2
section
attribute [local go_sem ↓] uz3
attribute [local go_sem] uz4 ones_nw
structure Row(w:World)(b V:Nat):Prop where
 lt:Pre (b+1) w.heap.size
 cells:blk w b=nw 19 V
 free:frz w b=(0,0)
theorem Row.pos{w:World}{b V:Nat}(h:Row w b V):0<(blk w b).size:=by rw[h.cells,nw_size];decide
def Rw(w w':World)(b V:Nat):Prop:=Gr (setBlk w b (nw 19 V)) w'
theorem Rw.row{w w':World}{b U V:Nat}(h:Row w b U)(k:Rw w w' b V):Row w' b V:=by
 obtain⟨g,rfl⟩:=k
 have d:Pre (b+1) (setBlk w b (nw 19 V)).heap.size:=by rw[size_setBlk];exact h.lt
 refine⟨?_,?_,?_⟩
 ·rw[gro_size];exact pre_add _ _ _ d
 ·rw[blk_gro _ _ _ d,blk_setBlk _ _ _ h.pos]
 ·rw[frz_gro _ _ _ d,frz_setBlk];exact h.free
theorem add64_nat(x y c z d:Nat)(hc:c≤1)(h:(x+y+c)%18446744073709551616=z)(h2:(x+y+c)/18446744073709551616=d)(w:World):(callFunc 168 #[.int .u64 x,.int .u64 y,.int .u64 c]).run prog w =
 .ok (.value (.tuple #[.int .u64 z,.int .u64 d])) w:=by
 rw[add64 _ _ _ (by omega) (by omega) (by omega) (by omega)]
 grind
theorem sub64_nat(x y c z d:Nat)(hy:y<18446744073709551616)(hc:c≤1)(h:(x+18446744073709551616-y-c)%18446744073709551616=z)(h2:(if x<y+c then 1 else 0)=d)(w:World):(callFunc 103 #[.int .u64 x,.int .u64 y,.int .u64 c]).run prog w =
 .ok (.value (.tuple #[.int .u64 z,.int .u64 d])) w:=by
 rw[sub64 _ _ _ (by omega) (by omega) (by omega) (by omega) (by omega)]
 have f:((x:Int)-y-c)%18446744073709551616=(z:Int):=by omega
 have i:(if(x:Int)<y+c then(1:Int) else 0)=(d:Int):=by
  subst h2
  by_cases hx:x<y+c
  ·rw[if_pos hx,if_pos (by omega)];rfl
  ·rw[if_neg hx,if_neg (by omega)];rfl
 rw[f,i]
theorem addBack_any(D k u o V b n:Nat)(w:World)(hk:k≤9)(hD:D<pw k)(hr:Row w b V)(hV:V<pw (o+(k+1)))(ho:o+(k+1)≤19):
 Calls prog 193 #[.agg (dv D k u),.slice (some ⟨b,o,none⟩) (k+1) n] w fun e w'=>∃Z c:Nat,e=.returned (.bool (decide (c=1)))∧Rw w w' b Z∧c≤1∧Z<pw (o+(k+1))∧Z+c*pw (o+(k+1))=V+D*pw o:=by
 have hp:=hr.pos;have hf:=hr.free;have hl:=hr.lt;have x:=hr.cells;have U:Hu (_):=fun _=>hD;have W:Hu (_):=fun _=>hV;have L:Hu (_):=fun _=>ho;have X:Hu (_):=fun _=>hk;have Y:Hu (setBlk w b (nw 19 V)=w):=fun _=>setBlk_self w b _ x
 have kk:(k:Int)≤9:=by omega
 clear hr hD hV ho hk x
 go_enter func193,ntmps193
 go_wp2
 go_loopw [5,9] (fun c i wr=>∃j d Z q:Nat,j≤k∧i=.int .i64 j∧c=.int .u64 d∧Hu (d≤1)∧Hu (Z<pw (o+(k+1)))∧Hu (Z+d*pw (o+j)=V+(D%pw j)*pw o)∧wr=((setBlk w b (nw 19 Z)).alloc (.cells (dv D k u) 222)).drewN q) (fun _ i _=>k-(intOf i).toNat)
 case atStart=>exact⟨0,0,V,0,by omega,rfl,rfl,fun _=>by omega,W,fun _=>by simp[pw_zero,Nat.mod_one],by rw[Y.out ()];rfl⟩
 case round=>
  obtain⟨j,d,Z,q,hj,rfl,rfl,A,P,Q,rfl⟩:=hrel
  by_cases hlt:j<k
  ·have j0:(0:Int)≤j:=by omega
   have j1:(j:Int)<k:=by omega
   have j2:(j:Int)<9:=by omega
   have j3:(j:Int)<k+1:=by omega
   have j9:j<9:=by have:=X.out ();omega
   have gd:=dv_get D k u j j9;have gZ:=nw_get 19 Z (o+j) (by have:=L.out ();omega);obtain⟨y,h⟩:=exl ((wd Z (o+j)+wd D j+d)%18446744073709551616);obtain⟨c,B⟩:=exl ((wd Z (o+j)+wd D j+d)/18446744073709551616);have C:=add64_nat (wd Z (o+j)) (wd D j) d y c (A.out ()) h B
   have f:y<18446744073709551616:=by rw[←h];exact Nat.mod_lt _ (by decide)
   have G:=nw_wset 19 Z (o+j) y f
   have HC:Hu (c≤1):=fun _=>by
    have:=wd_lt Z (o+j);have:=wd_lt D j;have:=A.out ()
    omega
   have H:Hu (wset Z (o+j) y+c*pw (o+(j+1))=V+(D%pw (j+1))*pw o):=fun _=>back_step V Z D o j d y c (Q.out ()) (by omega);have I:Hu (wset Z (o+j) y<pw (o+(k+1))):=fun _=>wset_lt Z (o+j) y _ (P.out ()) (by omega) f;clear h B f hlt
   go_wp2
   go_big_region
   go_wp2
   go_roundw
   case rel=>exact⟨j+1,c,wset Z (o+j) y,_,by omega,by go_num,rfl,HC,I,H,by rw[←G]⟩
   case measure=>simp[intOf];omega
  ·have J:j=k:=by omega
   have ji:¬(j:Int)<k:=by omega
   have k0:(0:Int)≤k:=by omega
   have k3:(k:Int)<k+1:=by omega
   have gZ:=nw_get 19 Z (o+k) (by have:=L.out ();omega);obtain⟨y,h⟩:=exl ((wd Z (o+k)+0+d)%18446744073709551616);obtain⟨c,B⟩:=exl ((wd Z (o+k)+0+d)/18446744073709551616);have C:∀w,(callFunc 168 #[.int .u64 ((wd Z (o+k):Nat):Int),.int .u64 0,.int .u64 d]).run prog w=.ok (.value (.tuple #[.int .u64 y,.int .u64 c])) w:=add64_nat (wd Z (o+k)) 0 d y c (A.out ()) h B
   have f:y<18446744073709551616:=by rw[←h];exact Nat.mod_lt _ (by decide)
   have G:=nw_wset 19 Z (o+k) y f
   have K:c≤1:=by
    have:=wd_lt Z (o+k);have:=A.out ()
    omega
   have H:Hu (wset Z (o+k) y+c*pw (o+(k+1))=V+D*pw o):=fun _=>by
    have S:=Q.out ();rw[J,Nat.mod_eq_of_lt (U.out ())]at S;exact back_last V Z D o k d y c S (by omega)
   have I:Hu (wset Z (o+k) y<pw (o+(k+1))):=fun _=>wset_lt Z (o+k) y _ (P.out ()) (by omega) f
   rcases(show c=0∨c=1 by omega) with rfl|rfl
   all_goals
    go_wp2
    go_big_region
    go_wp2
    go_ret
    refine⟨wset Z (o+k) y,_,?_,?_,K,I.out (),H.out ()⟩
    ·rfl
    ·unfold Rw;rw[←G];exact grA
theorem sub_word(x l r y s:Nat)(hl:l<18446744073709551616)(hr:r≤1)(hx:x<18446744073709551616)(h1:(x+18446744073709551616-l-r)%18446744073709551616=y)(h2:(if x<l+r then 1 else 0)=s):
 y+l+r=x+s*18446744073709551616∧s≤1∧y<18446744073709551616:=by
 subst h1 h2
 split <;> omega
theorem subtract_any(D k u o V b n t:Nat)(w:World)(hk:k≤9)(hD:D<pw k)(hr:Row w b V)(hV:V<pw (o+(k+1)))(ho:o+(k+1)≤19)(ht:t<18446744073709551616):
 Calls prog 192 #[.agg (dv D k u),.slice (some ⟨b,o,none⟩) (k+1) n,.int .u64 t] w fun e w'=>∃Z c:Nat,e=.returned (.bool (decide (c=1)))∧Rw w w' b Z∧c≤1∧Z<pw (o+(k+1))∧Z+t*D*pw o=V+c*pw (o+(k+1)):=by
 have hp:=hr.pos;have hf:=hr.free;have hl:=hr.lt;have J:=hr.cells;have HD:Hu (_):=fun _=>hD;have HV:Hu (_):=fun _=>hV;have HO:Hu (_):=fun _=>ho;have HK:Hu (_):=fun _=>hk;have HT:Hu (_):=fun _=>ht;have HS:Hu (setBlk w b (nw 19 V)=w):=fun _=>setBlk_self w b _ J
 have kk:(k:Int)≤9:=by omega
 clear hr hD hV ho hk J ht
 go_enter func192,ntmps192
 go_wp2
 go_loopw [7,8,15] (fun c s i wr=>∃j d r Z q:Nat,j≤k∧i=.int .i64 j∧c=.int .u64 d∧s=.int .u64 r∧Hu (d<18446744073709551616)∧Hu (r≤1)∧Hu (Z<pw (o+(k+1)))∧Hu (Z+t*(D%pw j)*pw o=V+(d+r)*pw (o+j))∧wr=((setBlk w b (nw 19 Z)).alloc (.cells (dv D k u) 222)).drewN q) (fun _ _ i _=>k-(intOf i).toNat)
 case atStart=>exact⟨0,0,0,V,0,by omega,rfl,rfl,rfl,fun _=>by omega,fun _=>by omega,HV,fun _=>by simp[pw_zero,Nat.mod_one],by rw[HS.out ()];rfl⟩
 case round=>
  obtain⟨j,d,r,Z,q,hj,rfl,rfl,rfl,Hd,Hr,HZ,HE,rfl⟩:=hrel
  by_cases hlt:j<k
  ·have j0:(0:Int)≤j:=by omega
   have j1:(j:Int)<k:=by omega
   have j2:(j:Int)<9:=by omega
   have j3:(j:Int)<k+1:=by omega
   have j9:j<9:=by have:=HK.out ();omega
   have gd:=dv_get D k u j j9;have gZ:=nw_get 19 Z (o+j) (by have:=HO.out ();omega);have x:=Hd.out ();have f:=Hr.out ();obtain⟨p,A⟩:∃p,t*wd D j=p:=⟨_,rfl⟩;obtain⟨h,hh⟩:=exl (p/18446744073709551616);obtain⟨m,hm⟩:=exl (p%18446744073709551616);obtain⟨l,K⟩:∃l,(m+d+0)%18446744073709551616=l:=⟨_,rfl⟩;obtain⟨v,hv⟩:=exl ((m+d+0)/18446744073709551616);obtain⟨y,G⟩:=exl ((wd Z (o+j)+18446744073709551616-l-r)%18446744073709551616);obtain⟨s,H⟩:=exl ((if wd Z (o+j)<l+r then 1 else 0))
   have Q:p+d<340282366920938463463374607431768211456:=by
    have S:t*wd D j≤18446744073709551615*18446744073709551615:=Nat.mul_le_mul (by have:=HT.out ();omega) (by have:=wd_lt D j;omega)
    omega
   have B:=fun w=>mul64 t (wd D j) (HT.out ()) (wd_lt D j) w;rw[A,hh,hm]at B;have HM:Hid _:=B;have ab:∀w,(callFunc 168 #[.int .u64 m,.int .u64 d,.int .u64 0]).run prog w=.ok (.value (.tuple #[.int .u64 l,.int .u64 v])) w:=add64_nat m d 0 l v (by omega) K hv
   have C:l<18446744073709551616:=by omega
   have U:=sub64_nat (wd Z (o+j)) l r y s C f G H;obtain⟨L,P,I⟩:=sub_word (wd Z (o+j)) l r y s C f (wd_lt _ _) G H
   have wv:IntKind.u64.wrap ((h:Int)+v)=((h+v:Nat):Int):=by rw[IntKind.wrap_u64];omega
   have W:=nw_wset 19 Z (o+j) y I
   have HC:Hu (h+v<18446744073709551616):=fun _=>by omega
   have HR:Hu (_):=fun _=>P;have X:Hu (wset Z (o+j) y+t*(D%pw (j+1))*pw o=V+(h+v+s)*pw (o+(j+1))):=fun _=>sub_step V Z D t o j d r y l (h+v) s (HE.out ()) (by rw[A];omega) L;have Y:Hu (wset Z (o+j) y<pw (o+(k+1))):=fun _=>wset_lt Z (o+j) y _ (HZ.out ()) (by omega) I;clear A hh hm K hv G H Q B C L P I x f hlt
   go_wp2_with (go_at_call 176;refine(HM.out _).mono ?_;rintro e w' ⟨rfl,rfl⟩)
   go_roundw
   case rel=>exact⟨j+1,h+v,s,wset Z (o+j) y,_,by omega,by go_num,congrArg (Value.int .u64) (by first|exact wv|omega),rfl,HC,HR,Y,X,by rw[←W]⟩
   case measure=>simp[intOf];omega
  ·have aa:j=k:=by omega
   have ji:¬(j:Int)<k:=by omega
   have k0:(0:Int)≤k:=by omega
   have k3:(k:Int)<k+1:=by omega
   have gZ:=nw_get 19 Z (o+k) (by have:=HO.out ();omega);have x:=Hd.out ();have f:=Hr.out ();obtain⟨y,G⟩:=exl ((wd Z (o+k)+18446744073709551616-d-r)%18446744073709551616);obtain⟨s,H⟩:=exl ((if wd Z (o+k)<d+r then 1 else 0));have U:=sub64_nat (wd Z (o+k)) d r y s x f G H;obtain⟨L,P,I⟩:=sub_word (wd Z (o+k)) d r y s x f (wd_lt _ _) G H;have W:=nw_wset 19 Z (o+k) y I
   have X:Hu (wset Z (o+k) y+t*D*pw o=V+s*pw (o+(k+1))):=fun _=>by
    have S:=HE.out ();rw[aa,Nat.mod_eq_of_lt (HD.out ())]at S;exact sub_last V Z D t o k d r y s S L
   have Y:Hu (wset Z (o+k) y<pw (o+(k+1))):=fun _=>wset_lt Z (o+k) y _ (HZ.out ()) (by omega) I
   rcases(show s=0∨s=1 by omega) with rfl|rfl
   all_goals
    go_wp2
    go_big_region
    go_wp2
    go_ret
    refine⟨wset Z (o+k) y,_,?_,?_,P,Y.out (),X.out ()⟩
    ·rfl
    ·unfold Rw;rw[←W];exact grA
end
end
end Go.Proofs.YtffhepbppiocbadGreat