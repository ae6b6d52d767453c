import Derived.Test.YtffhepbppiocbabGreatXAAR
import Derived.Test.YtffhepbppiocbabGreatXAAT
import Derived.Test.YtffhepbppiocbabGreatXACT
namespace Go.Proofs.YtffhepbppiocbabGreat
open Go.RowKit Go.Proofs.Tryz
set_option maxRecDepth 100000
set_option maxHeartbeats 8000000
section
attribute [local go_sem ↓] uz1
attribute [local go_sem] uz2
section
attribute [local go_sem] uz7
attribute [local go_sem ↓] uz12 Go.wp_at_zero Go.wp_at_succ
attribute [local go_sem] uz13
theorem latiny_any(id:Int)(n1:Nat)(bn1:n1<18446744073709551616)(w:World):Cg 5 #[.int .i64 id,.int .u64 n1] w (.bool true):=by
 obtain⟨u,hu,ao,hk⟩:=idxT_conv id;have X:=idxT_bd id;obtain⟨k,Y⟩:=exl (idxT id);rw[Y]at hk X;obtain⟨Z,h⟩:=X
 have x:1≤k:=by omega
 have u0:(0:Int)≤u:=by omega
 have ap:(13:Int)+u%3=k:=by omega
 have aq:IntKind.i64.wrap ((u:Int)%3)=(u:Int)%3:=by rw[IntKind.wrap_i64];omega
 have ar:IntKind.u64.wrap ((u:Int)%3)=(u:Int)%3:=by rw[IntKind.wrap_u64];omega
 have au:(u:Int).tmod 3=(u:Int)%3:=by rw[Int.tmod_eq_emod_of_nonneg (by omega)]
 have k0:(1:Int)≤k:=by omega
 have k1:(k:Int)≤15:=by omega
 have av:id%18446744073709551616=(u:Int):=by rw[←hu,IntKind.wrap_u64]
 clear Y hk;have aa:Hid (∀w,Calls prog 16 #[.int .i64 k] w (GetQ k w)):=fun w=>getq_yes k x h w;have ab:Hid (∀w,Cg 15 #[] w (.bool true)):=fun w=>awake14_any w
 go_enter func5,ntmps5
 go_upto_region 6 with (first
  | (go_at_call 15;refine(ab.out _).mono ?_;rintro e WA ⟨rfl,GA⟩)
  | (go_at_call 16;refine(aa.out _).mono ?_;rintro e WB ⟨C,rfl,i,GB⟩))
 obtain⟨W,V⟩:=exl (WB.heap.size);simp only[V]
 refine gen_w (fun v=>Gr w v∧Vr v W (crA (k:Int) (nN k) C)∧∀j,Sl v (C j).1 (nN k j)) ?_ ?_
 ·subst V;exact⟨(GA.trans GB).alloc _,Vr.new _ _ _,fun j=>(i j).gr ((Gr.refl _).alloc _)⟩
 clear V GA GB i ab aa hu ao ap aq ar au av u0 k0 k1;rintro v0 ⟨G,q,i⟩;obtain⟨m,hm⟩:=exl (oN k);have hb:=tinyP k Z h;rw[hm]at hb
 have bm:m<18446744073709551616:=by omega
 have K:dl (oN k)=1:=tiny_dl k Z h;obtain⟨bp,ac,-,ae⟩:=i 3 0 (by show 0<dl (oN k);rw[K];decide)
 have aw:v0.cell? ⟨bp,0,none⟩=some (.int .u32 m):=by
  rw[cell_blk,ae]
  show some (Value.int .u32 ((dg (oN k) 0:Nat):Int))=_
  rw[hm,show dg m 0=m by unfold dg;rw[pq_zero,Nat.div_one];exact Nat.mod_eq_of_lt (by omega)]
 have k4:v0.cell? ⟨W,4,none⟩=some (.slice (some ⟨bp,0,none⟩) 1 (C 3).2):=by
  rw[q.cell,←ac,←K];rfl
 have m1:(200:Int)≤m:=by omega
 have m2:(m:Int)≤255:=by omega
 have m0:¬m=0:=by omega
 go_upto_region 7 with fail
 clear k4 aw ae ac;obtain⟨H,ax⟩:=exl (n1%m)
 have aM:H<m:=by rw[←ax];exact Nat.mod_lt _ (by omega)
 have ay:H<18446744073709551616:=by omega
 have q1:(n1:Int).tmod (m:Int)=H:=by rw[Int.tmod_eq_emod_of_nonneg (by omega)];omega
 obtain⟨P,hP⟩:=exl (mlQ k H (gQ k));have oP:OnQ k P:=hP▸mlQ_on x h _ (gQ_on x h);have bP:=ay
 have az:mlQ k m P=inf:=by rw[←hm,←hP,←mlQ_mul x h _ _ (gQ_on x h),Nat.mul_comm,mlQ_mul x h _ _ (gQ_on x h),mlQ_N x h,mlQ_inf x h]
 refine wp_v true [.c (.agg (crA (k:Int) (nN k) C)),.c (.int .u64 n1),.c (.int .u64 m),.c (.int .u64 H),.c (.agg (pnQ P)),.a,.u] [0,3,4] [⟨5,6,35,pnt 0 0 false,fun _=>pnQ P⟩] ⟨.g 27 0 q rfl,.s (.binOp .rem 22 (.const (.int .u64 n1)) (.const (.int .u64 m)) 22) rfl fun L f=>by simp[go_sem,exI,m0,q1],.k _ fun yy L f hh=>RtW.of_c (Rt.c (some_is x h bP hP C _ (fun j=>(i j).gr f))),⟨⟩⟩ ⟨.k zPnt (.t rfl),⟨⟩⟩ fun I v1 f h7 aA=>?_;simp only[fzw,Kw.a];obtain⟨⟨af,d⟩,-⟩:(v0.heap.size≤(I 5 0).2∧Vr v1 (I 5 0).2 (pnQ P))∧True:=aA;clear h7;replace G:=G.trans f;replace q:=q.gr f;replace i:=fun k=>(i k).gr f;clear f;have HV:Hid (Gr w v1∧Vr v1 W (crA (k:Int) (nN k) C)∧(∀j,Sl v1 (C j).1 (nN k j))∧Vr v1 (I 5 0).2 (pnQ P)):=⟨G,q,i,d⟩;clear G q i d af
 go_wp2_with fail
 go_loopw [9] (fun ia wr=>∃j:Nat,ia=.int .u64 j∧Hu (j≤m+4)∧Hid (Gr w wr∧Vr wr W (crA (k:Int) (nN k) C)∧(∀j,Sl wr (C j).1 (nN k j))∧Vr wr (I 5 0).2 (pnQ P))) (fun ia _=>((m:Int)+10-intOf ia).toNat)
 case atStart=>exact⟨0,rfl,fun _=>Nat.zero_le _,HV⟩
 case round=>
  clear HV;obtain⟨j,rfl,HJ,HV⟩:=hrel;obtain⟨G,q,i,d⟩:=HV.out
  have j0:(0:Int)≤j:=by omega
  clear HV
  by_cases hlt:j<m
  ·have j1:(j:Int)<m:=by omega
   have bj:j<18446744073709551616:=by omega
   obtain⟨s1,aB⟩:=exl (H+j);obtain⟨r2,ag⟩:=exl (s1%m)
   have aJ:r2<m:=by rw[←ag];exact Nat.mod_lt _ (by omega)
   have aC:r2<18446744073709551616:=by omega
   have q2:IntKind.u64.wrap ((H:Int)+j)=(s1:Int):=by rw[IntKind.wrap_u64];omega
   have q3:(s1:Int).tmod (m:Int)=r2:=by rw[Int.tmod_eq_emod_of_nonneg (by omega)];omega
   obtain⟨J,hJ⟩:=exl (mlQ k j (gQ k));have oJ:OnQ k J:=hJ▸mlQ_on x h _ (gQ_on x h);have bJ:=bj;obtain⟨D,ah⟩:=exl (plQ k P J)
   have hD:mlQ k r2 (gQ k)=D:=by rw[←ag,←hm,mlQ_mod x h,←aB,mlQ_add x h _ _ (gQ_on x h),hP,hJ,ah]
   have bD:=aC;clear HJ
   go_upto_region 11 with fail
   refine wp_v true [.c (pv W 0),.c (.int .i64 k),.c (.agg (pnQ P)),.c (.agg (crA (k:Int) (nN k) C)),.c (.int .u64 j),.c (.agg (pnQ J)),.E (.agg (pnQ D)),.E (.agg (pnQ D)),.c (.agg (pnQ D)),.O,.a,.u,.O] [1,2,3,5,6] [⟨10,11,35,pnt 0 0 false,fun _=>pnQ D⟩] ⟨.o 3 0 q rfl rfl,.g 35 0 d rfl,.g 27 0 q rfl,.k _ fun yy L f hh=>RtW.of_c (Rt.c (some_is x h bJ hJ C _ (fun j=>(i j).gr f))),.z (addQ x h (P:=P) (Q:=J) (R:=D) oP oJ ah),⟨⟩⟩ ⟨.k zPnt (.t rfl),⟨⟩⟩ fun S v2 f aD ai=>?_;simp only[fzw,Kw.a];obtain⟨⟨ak,A⟩,-⟩:(wr.heap.size≤(S 10 0).2∧Vr v2 (S 10 0).2 (pnQ D))∧True:=ai;clear aD;replace G:=G.trans f;replace q:=q.gr f;replace d:=d.gr f;replace i:=fun k=>(i k).gr f;clear f
   go_upto_region 12 with fail
   refine wp_w [.O,.O,.F,.F,.c (.agg (pnQ D)),.c (.agg (crA (k:Int) (nN k) C)),.c (.int .u64 n1),.c (.int .u64 m),.c (.int .u64 H),.c (.int .u64 j),.c (.int .u64 s1),.c (.int .u64 m),.c (.int .u64 r2),.c (.agg (pnQ D)),.F,.F] [1,4,5,8,10,12,13,14] ⟨.y (num_any _),.g 35 0 A rfl,.g 27 0 q rfl,.s (.binOp .rem 22 (.const (.int .u64 n1)) (.const (.int .u64 m)) 22) rfl fun L f=>by simp[go_sem,exI,m0,q1],.s (.binOp .add 22 (.const (.int .u64 H)) (.const (.int .u64 j)) 22) rfl fun L f=>by simp[go_sem,exI,q2],.s (.binOp .rem 22 (.const (.int .u64 s1)) (.const (.int .u64 m)) 22) rfl fun L f=>by simp[go_sem,exI,m0,q3],.k _ fun yy L f hh=>RtW.of_c (Rt.c (some_is x h bD hD C _ (fun j=>(i j).gr f))),.s (.binOp .neq 35 (.const (.agg (pnQ D))) (.const (.agg (pnQ D))) 35) rfl fun L f=>by simp[go_sem,exI,nePn,eqN_self],⟨⟩⟩ fun aK v3 f aE=>?_;simp only[fzw];clear aE;replace G:=G.trans f;replace q:=q.gr f;replace d:=d.gr f;replace A:=A.gr f;replace i:=fun k=>(i k).gr f;clear f
   go_wp2_with fail
   go_roundw
   case rel=>exact⟨j+5,by go_num,fun _=>by omega,G,q,i,d⟩
   case measure=>simp[intOf];omega
  ·have j1:¬(j:Int)<m:=by omega
   clear hlt HJ
   go_upto_region 14 with fail
   refine wp_v true [.c (pv W 0),.c (.int .i64 k),.c (.int .u64 m),.N m,.c (.agg (pnQ P)),.E (.agg (pnt 0 0 true)),.E (.agg (pnt 0 0 true)),.c (.agg (pnt 0 0 true)),.O,.a,.u,.O] [1,3,4,5] [⟨9,10,35,pnt 0 0 false,fun _=>pnt 0 0 true⟩] ⟨.o 3 0 q rfl rfl,.z (one_any _ bm),.g 35 0 d rfl,.z (mulQ x h (P:=P) (R:=inf) oP (lt_M _ bm) az),⟨⟩⟩ ⟨.k zPnt (.t rfl),⟨⟩⟩ fun U v2 f aG aj=>?_;simp only[fzw,Kw.a];obtain⟨⟨aH,B⟩,-⟩:(wr.heap.size≤(U 9 0).2∧Vr v2 (U 9 0).2 (pnt 0 0 true))∧True:=aj;clear aG;replace G:=G.trans f;replace q:=q.gr f;replace d:=d.gr f;replace i:=fun k=>(i k).gr f;clear f
   go_upto_region 15 with fail
   refine wp_wS [.O,.O,.T,.T,.c (.agg (pnt 0 0 true)),.c (.agg (pnt 0 0 true)),.T,.T,.T] [1,4,6] ⟨.y (num_any _),.g 35 0 B rfl,.s (.binOp .eql 35 (.const (.agg (pnt 0 0 true))) (.const (.agg (pnt 0 0 true))) 35) rfl fun L f=>by simp[go_sem,exI,eqPn,eqN_self],⟨⟩⟩ fun aL v3 f aI=>?_;simp only[fzw];clear aI;replace G:=G.trans f;replace q:=q.gr f;replace d:=d.gr f;replace B:=B.gr f;replace i:=fun k=>(i k).gr f;clear f
   go_wp2_with fail
   go_ret
   exact⟨rfl,G⟩
end
end
end Go.Proofs.YtffhepbppiocbabGreat