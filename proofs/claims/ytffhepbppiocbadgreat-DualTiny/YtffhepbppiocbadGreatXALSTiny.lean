import Derived.Test.YtffhepbppiocbadGreatXAQQ
import Derived.Test.YtffhepbppiocbadGreatXAQG
import Derived.Test.YtffhepbppiocbadGreatXACT
import Derived.Test.YtffhepbppiocbadGreatXALQTn
namespace Go.Proofs.YtffhepbppiocbadGreat
open Go.RowKit Go.Proofs.Tryz
set_option maxRecDepth 100000
set_option maxHeartbeats 8000000
section
attribute [local go_sem ↓] uz1
attribute [local go_sem] uz2
section
attribute [local go_sem] uz8
attribute [local go_sem ↓] uz17 Go.wp_at_zero Go.wp_at_succ
attribute [local go_sem] uz18
theorem tiny_inv:∀i,i<3→∀t,t<201→t=0∨t*(t^(oN (13+i)-2)%oN (13+i))%oN (13+i)=1:=by decide +kernel
theorem twQ_ml{k:Nat}(h1:1≤k)(h2:k≤15){t:Nat}{P:Q3}(hP:mlQ k t (gQ k)=P)(u v:Nat):twQ k P u v=mlQ k (u+v*t) (gQ k):=by
 grind [twQ,mlQ_mul,gQ_on,mlQ_add]
theorem tiny_root{k t u:Nat}(h1:13≤k)(h2:k≤15)(t0:0<t)(t1:t<201)(hu:u<oN k):∃v,v<oN k∧∀j,j<oN k→((u+j*t)%oN k=0↔j=v):=by
 obtain⟨i,rfl⟩:∃i,k=13+i:=⟨k-13,by omega⟩;have h:=(tiny_inv i (by omega) t t1).resolve_left (by omega);obtain⟨s,A⟩:=exl (t^(oN (13+i)-2)%oN (13+i));rw[A]at h;obtain⟨N,B⟩:=exl (oN (13+i));rw[B]at h hu ⊢
 have x:0<N:=by omega
 have d:∀a,a*t*s%N=a%N:=fun a=>by rw[Nat.mul_assoc,Nat.mul_mod,h,Nat.mul_one,Nat.mod_mod]
 refine⟨(N-u)*s%N,Nat.mod_lt _ x,fun j C=>⟨fun e=>?_,fun e=>?_⟩⟩
 ·have q:j*t%N=(N-u)%N:=by
   have f:(j*t%N+u)%N=0:=by rw[Nat.mod_add_mod,Nat.add_comm];exact e
   have:=Nat.mod_lt (j*t) x
   by_cases hz:u=0
   ·subst hz;rw[Nat.add_zero,Nat.mod_mod]at f;rw[f,Nat.sub_zero,Nat.mod_self]
   ·rw[Nat.mod_eq_of_lt (a:=N-u) (by omega)]
    by_cases hl:j*t%N+u<N
    ·rw[Nat.mod_eq_of_lt hl]at f
     omega
    ·rw[Nat.mod_eq_sub_mod (by omega),Nat.mod_eq_of_lt (by omega)]at f
     omega
  rw[Nat.mul_mod,←q,←Nat.mul_mod,d,Nat.mod_eq_of_lt C]
 ·subst e
  have q:(N-u)*s%N*t%N=(N-u)%N:=by rw[Nat.mod_mul_mod,Nat.mul_right_comm,d]
  rw[Nat.add_mod,q,←Nat.add_mod,show u+(N-u)=N by omega,Nat.mod_self]
attribute [local go_sem ↓] bslU_is
theorem lstiny_any(id:Int)(n1 n3:Nat)(bn1:n1<18446744073709551616)(bn3:n3<18446744073709551616)(w:World):Cg 8 #[.int .i64 id,.int .u64 n1,.int .u64 n3] w (.bool true):=by
 obtain⟨u,hu,aq,hk⟩:=idxT_conv id;have ac:=idxT_bd id;obtain⟨k,ae⟩:=exl (idxT id);rw[ae]at hk ac;obtain⟨C,D⟩:=ac
 have Q:1≤k:=by omega
 have u0:(0:Int)≤u:=by omega
 have ar:(13:Int)+u%3=k:=by omega
 have au:IntKind.i64.wrap ((u:Int)%3)=(u:Int)%3:=by rw[IntKind.wrap_i64];omega
 have av:IntKind.u64.wrap ((u:Int)%3)=(u:Int)%3:=by rw[IntKind.wrap_u64];omega
 have aw:(u:Int).tmod 3=(u:Int)%3:=by rw[Int.tmod_eq_emod_of_nonneg (by omega)]
 have k0:(1:Int)≤k:=by omega
 have k1:(k:Int)≤15:=by omega
 have ax:id%18446744073709551616=(u:Int):=by rw[←hu,IntKind.wrap_u64]
 clear ae hk;have af:Hid (∀w,Calls prog 10 #[.int .i64 k] w (GetQ k w)):=fun w=>getq_yes k Q D w;have ag:Hid (∀w,Cg 24 #[] w (.bool true)):=fun w=>awake20_any w
 go_enter func8,ntmps8
 go_upto_region 6 with (first
  | (go_at_call 24;refine(ag.out _).mono ?_;rintro e WA ⟨rfl,GA⟩)
  | (go_at_call 10;refine(af.out _).mono ?_;rintro e WB ⟨H,rfl,x,GB⟩))
 obtain⟨e9,aa⟩:=exl (WB.heap.size);simp only[aa]
 refine gen_w (fun v=>Gr w v∧Vr v e9 (crA (k:Int) (nN k) H)∧(∀j,Sl v (H j).1 (nN k j))) ?_ ?_
 ·subst aa;have g1:Gr WB (WB.alloc (.cells (crA (k:Int) (nN k) H) 30)):=(Gr.refl _).alloc _;exact⟨(GA.trans GB).trans g1,Vr.new _ _ _,fun j=>(x j).gr g1⟩
 clear aa GA GB x ag af hu aq ar au av aw ax u0 k0 k1;rintro v0 ⟨G,A,x⟩;obtain⟨m,hm⟩:=exl (oN k);have hb:=tinyP k C D;rw[hm]at hb;have V:dl (oN k)=1:=tiny_dl k C D;obtain⟨bp,ah,-,ai⟩:=x 3 0 (by show 0<dl (oN k);rw[V];decide)
 have ay:v0.cell? ⟨bp,0,none⟩=some (.int .u32 m):=by
  rw[cell_blk,ai]
  show some (Value.int .u32 ((dg (oN k) 0:Nat):Int))=_
  rw[hm,show dg m 0=m by unfold dg;rw[pq_zero,Nat.div_one];exact Nat.mod_eq_of_lt (by omega)]
 have k4:v0.cell? ⟨e9,4,none⟩=some (.slice (some ⟨bp,0,none⟩) 1 (H 3).2):=by
  rw[A.cell,←ah,←V];rfl
 have m1:(200:Int)≤m:=by omega
 have m2:(m:Int)≤255:=by omega
 have m0:¬m=0:=by omega
 go_upto_region 7 with fail
 clear k4 ay ai ah;obtain⟨S,aJ⟩:=exl (n1%200)
 have q1:(n1:Int).tmod 200=(S:Int):=by rw[Int.tmod_eq_emod_of_nonneg (by omega)];omega
 have q2:IntKind.u32.wrap (S:Int)=S:=wrap_u32 _ (by omega) (by omega);obtain⟨I,aK⟩:=exl (1+S);have q3:IntKind.u32.wrap (1+(S:Int))=(I:Int):=(wrap_u32 _ (by omega) (by omega)).trans (by omega);have W:dl I=1:=dl_small (by omega) (by omega)
 have hd:dl I≤400:=by omega
 have Z:I<pq 1:=by rw[show pq 1=4294967296 by decide +kernel];omega
 have aj:=fun w=>buildU I (by omega) w;obtain⟨L,az⟩:=exl (n3%m)
 have q4:(n3:Int).tmod (m:Int)=L:=by rw[Int.tmod_eq_emod_of_nonneg (by omega)];omega
 have lu:L<m:=az▸Nat.mod_lt _ (by omega)
 have bu:L<18446744073709551616:=by omega
 obtain⟨P,hP⟩:=exl (mlQ k I (gQ k));have oP:OnQ k P:=hP▸mlQ_on Q D _ (gQ_on Q D);obtain⟨vz,lv,hv⟩:=tiny_root C D (t:=I) (u:=L) (by omega) (by omega) (by omega);rw[hm]at lv hv;refine wp_v true [.c (.agg (crA (k:Int) (nN k) H)),.c (.int .u64 n1),.c (.int .u64 S),.c (.int .u32 S),.c (.int .u32 I),.n (I),.c (.agg (crA (k:Int) (nN k) H)),.pt (xN k) (yN k) false,.pt (P.1) (P.2.1) P.2.2,.c (.agg (pnQ P)),.a,.u] [0,2,3,4,5,6,7,8,9] [⟨10,11,38,pnt 0 0 false,fun _=>pnQ P⟩] ⟨.g 30 0 A rfl,.s (.binOp .rem 22 (.const (.int .u64 n1)) (.const (.int .u64 200)) 22) rfl fun vv d=>by simp[go_sem,exI,q1],.s (.convert 22 36 (.const (.int .u64 S))) rfl fun vv d=>by simp[go_sem,exI,q2],.s (.binOp .add 36 (.const (.int .u32 1)) (.const (.int .u32 S)) 36) rfl fun vv d=>by simp[go_sem,exI,q3],.b (.buildSlice 27 1 #[(0,.const (.int .u32 I))]) rfl W (fun vv=>by simp[go_sem,exI,aj]) (sl_lit I Z),.g 30 0 A rfl,.k _ fun B vv d hh=>RtW.of_pt (rg_any H _ (fun j=>(x j).gr d)),.k (fun B =>#[.agg (crA (k:Int) (nN k) H),.slice (B 5 0).1 (dl (I)) (B 5 0).2,.agg (ptA (B 7 0).1 (xN k) (B 7 0).2 (B 7 1).1 (yN k) (B 7 1).2 false)]) fun B vv d hh=>RtW.of_pt (hP▸rtimesQ k Q D H (gQ_on Q D) hd (fun j=>(x j).gr d) (hh 5 rfl) (hh 7 rfl).1 (hh 7 rfl).2),.k (fun B =>#[.agg (ptA (B 8 0).1 (P.1) (B 8 0).2 (B 8 1).1 (P.2.1) (B 8 1).2 P.2.2)]) fun B vv d hh=>RtW.of_c (Rt.c (rout_any _ _ _ _ _ _ _ _ (hh 8 rfl).1 (hh 8 rfl).2)),⟨⟩⟩ ⟨.k zPnt ⟨fkc,fkc,fkc,fkc,fkc,fkn bPnt,fkc,fkp bPnt,fkp bPnt,fkc,fka,fku,trivial⟩,⟨⟩⟩ fun ab v1 d h7 aA=>?_;simp only[fzw,Kw.a];obtain⟨⟨aB,J⟩,-⟩:(v0.heap.size≤(ab 10 0).2∧Vr v1 (ab 10 0).2 (pnQ P))∧True:=aA;clear h7;replace G:=G.trans d;replace A:=A.gr d;replace x:=fun k=>(x k).gr d;clear d;generalize (ab 10 0).2=ak at *;have HV:Hid (Gr w v1∧Vr v1 e9 (crA (k:Int) (nN k) H)∧(∀j,Sl v1 (H j).1 (nN k j))∧Vr v1 ak (pnQ P)):=⟨G,A,x,J⟩;clear G A x J W aj Z hd
 go_wp2_with fail
 go_loopw [11,12] (fun la ia wr=>∃j c:Nat,la=.int .i64 c∧ia=.int .u64 j∧Hu (j≤m)∧Hu (c=if vz<j then 1 else 0)∧Hid (Gr w wr∧Vr wr e9 (crA (k:Int) (nN k) H)∧(∀j,Sl wr (H j).1 (nN k j))∧Vr wr ak (pnQ P))) (fun _ ia _=>((m:Int)+10-intOf ia).toNat)
 case atStart=>exact⟨0,0,rfl,rfl,fun _=>Nat.zero_le _,fun _=>(if_neg (Nat.not_lt_zero _)).symm,HV⟩
 case round=>
  clear HV;obtain⟨j,c,rfl,rfl,HJ,U,HV⟩:=hrel
  have j0:(0:Int)≤j:=by omega
  obtain⟨G,A,x,q⟩:=HV.out;clear HV;replace U:=U.out ()
  by_cases hlt:j<m
  ·have j1:(j:Int)<m:=by omega
   have bj:j<18446744073709551616:=by omega
   obtain⟨f,hf⟩:=exl (decide (j=vz))
   obtain⟨X,Y,HD⟩:∃X Y,Hid (∀w,Cg 22 #[.int .i64 k,.agg (nw 9 L),.agg (nw 9 j),.agg (pnQ P)] w (.tuple #[.agg (pnt X Y f),.int .i64 0])):=by
    obtain⟨R,hR⟩:=exl (twQ k P L j)
    have hi:R.2.2=f:=by
     rw[←hR,twQ_ml Q D hP,←mlQ_mod Q D,←hf,hm]
     by_cases e:j=vz
     ·rw[(hv j hlt).2 e,mlQ_zero Q D,decide_eq_true e];rfl
     ·have e0:(L+j*I)%m≠0:=fun h=>e ((hv j hlt).1 h);rw[walk_ne C D _ (by omega) (hm▸Nat.mod_lt _ (by omega)),decide_eq_false e]
    have e:pnQ R=pnt R.1 R.2.1 f:=congrArg (pnt R.1 R.2.1) hi;refine⟨R.1,R.2.1,fun w=>?_⟩;have h:=dmul_yes Q D oP (show L<oN k by omega) (show j<oN k by omega) hR w;rw[e]at h;exact h
   have cb:(c:Int)≤1:=by rw[U];split <;> decide
   clear HJ
   go_upto_region 12 with fail
   refine wp_v true [.c (pv e9 0),.c (.int .i64 k),.c (.int .u64 n3),.c (.int .u64 m),.c (.int .u64 L),.N L,.c (.int .u64 j),.N j,.c (.agg (pnQ P)),.E (.agg (pnt X Y f)),.E (.agg (pnt X Y f)),.c (.agg (pnt X Y f)),.O,.a,.u,.O] [1,4,5,7,8,9] [⟨13,14,38,pnt 0 0 false,fun _=>pnt X Y f⟩] ⟨.o 3 0 A rfl rfl,.s (.binOp .rem 22 (.const (.int .u64 n3)) (.const (.int .u64 m)) 22) rfl fun vv d=>by simp[go_sem,exI,m0,q4],.z (one_any _ bu),.z (one_any _ bj),.g 38 0 q rfl,.z HD.out,⟨⟩⟩ ⟨.k zPnt (.t rfl),⟨⟩⟩ fun K v2 d aC ao=>?_;simp only[fzw,Kw.a];obtain⟨⟨ap,i⟩,-⟩:(wr.heap.size≤(K 13 0).2∧Vr v2 (K 13 0).2 (pnt X Y f))∧True:=ao;clear aC;replace G:=G.trans d;replace A:=A.gr d;replace q:=q.gr d;replace x:=fun k=>(x k).gr d;clear d
   go_upto_region 13 with fail
   refine wp_wS [.O,.O,.F] [1] ⟨.y (num_any _),⟨⟩⟩ fun aG v3 d C=>?_;simp only[fzw];clear C;replace G:=G.trans d;replace A:=A.gr d;replace q:=q.gr d;replace i:=i.gr d;replace x:=fun k=>(x k).gr d;clear d
   go_upto_region 15 with fail
   refine wp_wS [.c (pv ((K 13 0).2) 18),.c (.bool f)] [1] ⟨.o 4 18 i rfl (by exact pnt_18 _ _ _),⟨⟩⟩ fun aH v4 d aD=>?_;simp only[fzw];clear aD;replace G:=G.trans d;replace A:=A.gr d;replace q:=q.gr d;replace i:=i.gr d;replace x:=fun k=>(x k).gr d;clear d
   cases f with
   | false=>
    have HC:Hu (c=if vz<j+1 then 1 else 0):=fun _=>by
     have e:=of_decide_eq_false hf;rw[U]
     by_cases h:vz<j
     ·rw[if_pos h,if_pos (by omega)]
     ·rw[if_neg h,if_neg (by omega)]
    clear U hf hv cb
    go_wp2_with fail
    go_roundw
    case rel=>exact⟨j+1,c,rfl,by go_num,fun _=>hlt,HC,G,A,x,q⟩
    case measure=>simp[intOf];omega
   | true=>
    have e:=of_decide_eq_true hf;obtain rfl:c=0:=U.trans (if_neg (by omega));have HC:Hu (1=if vz<j+1 then 1 else 0):=fun _=>(if_pos (by omega)).symm;clear U hf hv cb e
    go_wp2_with fail
    go_roundw
    case rel=>exact⟨j+1,1,by go_num,by go_num,fun _=>hlt,HC,G,A,x,q⟩
    case measure=>simp[intOf];omega
  ·have j1:¬(j:Int)<m:=by omega
   obtain rfl:c=1:=U.trans (if_pos (by have:=HJ.out ();omega));clear HJ hlt U
   go_upto_region 17 with fail
   refine wp_wS [.c (.int .i64 ((1:Nat):Int)),.T,.T] [1] ⟨.s (.binOp .eql 3 (.const (.int .i64 ((1:Nat):Int))) (.const (.int .i64 1)) 3) rfl fun vv d=>by simp[go_sem,exI],⟨⟩⟩ fun aI v2 d aE=>?_;simp only[fzw];clear aE;replace G:=G.trans d;replace A:=A.gr d;replace q:=q.gr d;replace x:=fun k=>(x k).gr d;clear d
   go_wp2_with fail
   go_ret
   exact⟨rfl,G⟩
end
end
end Go.Proofs.YtffhepbppiocbadGreat