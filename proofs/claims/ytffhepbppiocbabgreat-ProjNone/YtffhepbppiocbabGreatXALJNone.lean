import Derived.Test.YtffhepbppiocbabGreatXAJH
namespace Go.Proofs.YtffhepbppiocbabGreat
open Go.RowKit Go.Proofs.Tryz
set_option maxRecDepth 100000
set_option maxHeartbeats 8000000
section
attribute [local go_sem ↓] uz1
attribute [local go_sem] uz2
section
attribute [local go_sem] uz7
attribute [local go_sem ↓] uz12 Go.wp_at_zero Go.wp_at_succ
attribute [local go_sem] uz13
attribute [local go_sem ↓] uz16
attribute [local go_sem] uz17
theorem rowJ5(x0 y0 z0 x1 y1 z1 x2 y2 z2 x3 y3 z3 x4 y4 z4:Nat)(w:World):(exI (.buildSlice 74 5 #[(0,.const (.agg (prj x0 y0 z0))),(1,.const (.agg (prj x1 y1 z1))),(2,.const (.agg (prj x2 y2 z2))),(3,.const (.agg (prj x3 y3 z3))),(4,.const (.agg (prj x4 y4 z4)))])).run prog w=.ok (.value (.slice (some ⟨w.heap.size,0,none⟩) 5 5)) (w.alloc (.cells (prj x0 y0 z0++prj x1 y1 z1++prj x2 y2 z2++prj x3 y3 z3++prj x4 y4 z4) 53)):=by kernel_rfl
theorem z_no{k x y:Nat}{Q:Q3}(h:TrQ k (x,y,0) Q):x=0:=by
 obtain⟨-,X,Y,Z,e,s⟩:=h;simp only[Prod.mk.injEq]at e;obtain⟨rfl,-,d⟩:=e
 haveI:NeZero (pN k):=⟨fun e=>by have:=X.isLt;omega⟩
 have f:Z=0:=Fin.ext (d.symm.trans (Fin.val_zero _).symm)
 revert s
 intro s;have i:=s
 match decQ (pN k) Q,i with
 | none,⟨a,_,_⟩=>rw[a];exact Fin.val_zero _
 | some (_,_),⟨a,_,_⟩=>exact absurd f a
theorem ljnone_any(id wh:Int)(n1:Nat)(bn1:n1<18446744073709551616)(w:World):Cg 11 #[.int .i64 id,.int .u64 n1,.int .i64 wh] w (.bool true):=by
 obtain⟨u,hu,ai,hk⟩:=idx_conv id;have ak:=idx_bd id;obtain⟨k,ao⟩:=exl (idx id);rw[ao]at hk ak;obtain⟨Z,h2⟩:=ak
 have u0:(0:Int)≤u:=by omega
 have aC:(1:Int)+u%15=k:=by omega
 have aD:IntKind.i64.wrap ((u:Int)%15)=(u:Int)%15:=by rw[IntKind.wrap_i64];omega
 have aE:IntKind.u64.wrap ((u:Int)%15)=(u:Int)%15:=by rw[IntKind.wrap_u64];omega
 have aG:(u:Int).tmod 15=(u:Int)%15:=by rw[Int.tmod_eq_emod_of_nonneg (by omega)]
 have k0:(1:Int)≤k:=by omega
 have k1:(k:Int)≤15:=by omega
 have aH:id%18446744073709551616=(u:Int):=by rw[←hu,IntKind.wrap_u64]
 clear ao hk;have ap:Hid (∀w,Calls prog 16 #[.int .i64 k] w (GetQ k w)):=fun w=>getq_yes k Z h2 w;have aq:Hid (∀w,Cg 30 #[] w (.bool true)):=fun w=>awake15_any w
 go_enter func11,ntmps11
 go_upto_region 4 with (first
  | (go_at_call 30;refine(aq.out _).mono ?_;rintro e WA ⟨rfl,GA⟩)
  | (go_at_call 16;refine(ap.out _).mono ?_;rintro e WB ⟨H,rfl,HQ,GB⟩))
 obtain⟨e9,aj⟩:=exl (WB.heap.size);simp only[aj]
 refine gen_w (fun v=>Gr w v∧Vr v e9 (crA (k:Int) (nN k) H)∧∀j,Sl v (H j).1 (nN k j)) ?_ ?_
 ·subst aj;exact⟨(GA.trans GB).alloc _,Vr.new _ _ _,fun j=>(HQ j).gr ((Gr.refl _).alloc _)⟩
 clear aj GA GB HQ aq ap hu ai aC aD aE aG aH u0 k0 k1;rintro v0 ⟨G,c9,HQ⟩
 have b1:1<18446744073709551616:=by decide
 obtain⟨P,hP⟩:=exl (mlQ k 1 (gQ k));have oP:OnQ k P:=hP▸mlQ_on Z h2 _ (gQ_on Z h2);have bP:=b1;obtain⟨f,ar⟩:=exl (frT P);have U:TrQ k f P:=ar▸frT_tr Z h2 oP;have lS:f.1<M∧f.2.1<M∧f.2.2<M:=⟨Nat.lt_trans U.lt.1 (pN_M k),Nat.lt_trans U.lt.2.1 (pN_M k),Nat.lt_trans U.lt.2.2 (pN_M k)⟩;obtain⟨r1,aI⟩:=exl (n1%200)
 have q1:(n1:Int).tmod 200=(r1:Int):=by rw[Int.tmod_eq_emod_of_nonneg (by omega)];omega
 obtain⟨J,aJ⟩:=exl (1+r1)
 have q2:IntKind.u64.wrap (1+(r1:Int))=(J:Int):=by rw[IntKind.wrap_u64];omega
 have au:J<18446744073709551616:=by omega
 obtain⟨u2,hu,ai,-⟩:=idx_conv wh;obtain⟨C,aK⟩:=exl (u2%5)
 have q3:(u2:Int).tmod 5=(C:Int):=by rw[Int.tmod_eq_emod_of_nonneg (by omega)];omega
 have a8:C<5:=by omega
 have aL:(0:Int)≤C:=by omega
 have aM:(C:Int)<5:=by omega
 obtain⟨T,lT,nT,av⟩:∃T:T3,(T.1<M∧T.2.1<M∧T.2.2<M)∧(∀Q,¬TrQ k T Q)∧(prj 0 0 0++prj J 1 0++prj (pN k) f.2.1 f.2.2++prj f.1 (pN k) f.2.2++prj f.1 f.2.1 (pN k)).extract (C*27) (C*27+27)=pjT T:=by
  have hp:=pN_M k;have l0:0<M:=Nat.lt_of_le_of_lt (Nat.zero_le _) hp
  obtain rfl|rfl|rfl|rfl|rfl:C=0∨C=1∨C=2∨C=3∨C=4:=by omega
  ·exact⟨(0,0,0),⟨l0,l0,l0⟩,zero_no Z h2,by kernel_rfl⟩
  ·exact⟨(J,1,0),⟨lt_M _ au,lt_M 1 (by decide),l0⟩,fun Q h=>by have:=z_no h;omega,by kernel_rfl⟩
  ·exact⟨(pN k,f.2.1,f.2.2),⟨hp,lS.2.1,lS.2.2⟩,fun Q h=>Nat.lt_irrefl _ h.lt.1,by kernel_rfl⟩
  ·exact⟨(f.1,pN k,f.2.2),⟨lS.1,hp,lS.2.2⟩,fun Q h=>Nat.lt_irrefl _ h.lt.2.1,by kernel_rfl⟩
  ·exact⟨(f.1,f.2.1,pN k),⟨lS.1,lS.2.1,hp⟩,fun Q h=>Nat.lt_irrefl _ h.lt.2.2,by kernel_rfl⟩
 have aO:∀(v:World) (b:Nat),blk v b=prj 0 0 0++prj J 1 0++prj (pN k) f.2.1 f.2.2++prj f.1 (pN k) f.2.2++prj f.1 f.2.1 (pN k)→(loadS 53 (.pointer (some ⟨b,C*27,none⟩))).run prog v=.ok (.agg (pjT T)) v:=fun v b hb=>by
  rw[loadPartJ v b (C*27) (by rw[hb];simp[prj_size];omega),hb,av]
 clear av aK ai aI aJ;refine wp_v false [.c (.agg (crA (k:Int) (nN k) H)),.c (.tuple #[.agg (pjT f),.agg (pnQ P),.bool true]),.c (.tuple #[.agg (pjT f),.agg (pnQ P),.bool true]),.c (.agg (pjT f)),.c (.agg (pnQ P)),.T,.a,.a,.u,.u,.T] [0,1] [⟨6,8,53,prj 0 0 0,fun _=>pjT f⟩,⟨7,9,35,pnt 0 0 false,fun _=>pnQ P⟩] ⟨.g 27 0 c9 rfl,.k _ fun yy vv d hh=>RtW.of_c (Rt.c (dr_is Z h2 bP hP ar H _ (fun j=>(HQ j).gr d))),⟨⟩⟩ ⟨.k zPj (.t rfl),.k zPnt (.t rfl),⟨⟩⟩ fun A v1 d h4 aP=>?_;simp only[fzw,Kw.a];obtain⟨⟨a3,i⟩,⟨a4,ac⟩,-⟩:(v0.heap.size≤(A 6 0).2∧Vr v1 (A 6 0).2 (pjT f))∧(v0.heap.size≤(A 7 0).2∧Vr v1 (A 7 0).2 (pnQ P))∧True:=aP;clear h4;have q:=d;clear d
 go_upto_region 5 with fail
 refine wp_wS [.T,.F,.F,.T,.F,.F] [] ⟨⟩ fun a9 v2 d h5=>?_;simp only[fzw];clear h5;replace q:=q.trans d;have x:=d;clear d
 go_upto_region 7 with fail
 refine wp_w [.c (.agg (prj 0 0 0)),.c (.int .u64 n1),.c (.int .u64 r1),.c (.int .u64 J),.N J,.N 1,.c (.agg (prj J 1 0)),.c (pv e9 1),.c (.slice (H 0).1 (dl (pN k)) (H 0).2),.N (pN k),.c (pv ((A 6 0).2) 9),.N f.2.1,.c (pv ((A 6 0).2) 18),.N f.2.2,.c (.agg (prj (pN k) f.2.1 f.2.2)),.c (pv ((A 6 0).2) 0),.N f.1,.c (pv e9 1),.c (.slice (H 0).1 (dl (pN k)) (H 0).2),.N (pN k),.c (pv ((A 6 0).2) 18),.N f.2.2,.c (.agg (prj f.1 (pN k) f.2.2)),.c (pv ((A 6 0).2) 0),.N f.1,.c (pv ((A 6 0).2) 9),.N f.2.1,.c (pv e9 1),.c (.slice (H 0).1 (dl (pN k)) (H 0).2),.N (pN k),.c (.agg (prj f.1 f.2.1 (pN k))),.r 5 (prj 0 0 0++prj J 1 0++prj (pN k) f.2.1 f.2.2++prj f.1 (pN k) f.2.2++prj f.1 f.2.1 (pN k)),.r 5 (prj 0 0 0++prj J 1 0++prj (pN k) f.2.1 f.2.2++prj f.1 (pN k) f.2.2++prj f.1 f.2.1 (pN k))] [2,3,4,5,8,9,11,13,16,18,19,21,24,26,28,29,31,32] ?hs3 ?hf3
 case hs3=>
  exact⟨.s (.binOp .rem 22 (.const (.int .u64 n1)) (.const (.int .u64 200)) 22) rfl fun vv d=>by simp[go_sem,exI,q1],.s (.binOp .add 22 (.const (.int .u64 1)) (.const (.int .u64 r1)) 22) rfl fun vv d=>by simp[go_sem,exI,q2],.z (one_any J au),.z (one_any 1 (by decide)),.o 25 1 (c9.gr q) rfl rfl,.k (fun yy =>#[.slice (H 0).1 (dl (pN k)) (H 0).2]) fun yy vv d hh=>RtW.of_c (nt_any ((HQ 0).gr (q.trans d))),.g 33 9 (i.gr x) rfl,.g 33 18 (i.gr x) rfl,.g 33 0 (i.gr x) rfl,.o 25 1 (c9.gr q) rfl rfl,.k (fun yy =>#[.slice (H 0).1 (dl (pN k)) (H 0).2]) fun yy vv d hh=>RtW.of_c (nt_any ((HQ 0).gr (q.trans d))),.g 33 18 (i.gr x) rfl,.g 33 0 (i.gr x) rfl,.g 33 9 (i.gr x) rfl,.o 25 1 (c9.gr q) rfl rfl,.k (fun yy =>#[.slice (H 0).1 (dl (pN k)) (H 0).2]) fun yy vv d hh=>RtW.of_c (nt_any ((HQ 0).gr (q.trans d))),.r (.buildSlice 74 5 #[(0,.const (.agg (prj 0 0 0))),(1,.const (.agg (prj J 1 0))),(2,.const (.agg (prj (pN k) f.2.1 f.2.2))),(3,.const (.agg (prj f.1 (pN k) f.2.2))),(4,.const (.agg (prj f.1 f.2.1 (pN k))))]) rfl (rowJ5 _ _ _ _ _ _ _ _ _ _ _ _ _ _ _),.m 31,⟨⟩⟩
 intro V v3 d h7;simp only[fzw,Kw.r];have I:Vr v3 (V 32 0).2 (prj 0 0 0++prj J 1 0++prj (pN k) f.2.1 f.2.2++prj f.1 (pN k) f.2.2++prj f.1 f.2.1 (pN k)):=h7 32;clear h7;replace q:=q.trans d;replace x:=x.trans d;clear d
 go_upto_region 8 with fail
 refine wp_v false [.c (.slice (some ⟨(V 32 0).2,0,none⟩) 5 5),.c (.int .i64 wh),.c (.int .u64 u2),.c (.int .u64 C),.c (pv ((V 32 0).2) (C*27)),.c (.agg (pjT T)),.a,.u] [2,3,4,5] [⟨6,7,53,prj 0 0 0,fun _=>pjT T⟩] ⟨.s (.convert 3 30 (.const (.int .i64 wh))) rfl fun vv d=>by simp[go_sem,exI,hu],.s (.binOp .rem 30 (.const (.int .u64 u2)) (.const (.int .u64 5)) 30) rfl fun vv d=>by simp[go_sem,exI,q3],.s (.indexAddr 74 (.const (.slice (some ⟨(V 32 0).2,0,none⟩) 5 5)) (.const (.int .u64 C))) rfl fun vv d=>by simp[go_sem,exI,aL,aM],.s (.load 53 (.const (pv ((V 32 0).2) (C*27)))) rfl fun vv d=>by have aa:=(I.gr d).h;simp[go_sem,exI,aO _ _ aa],⟨⟩⟩ ⟨.k zPj (.t rfl),⟨⟩⟩ fun aw v4 d h8 aQ=>?_;simp only[fzw,Kw.a];obtain⟨⟨a5,B⟩,-⟩:(v3.heap.size≤(aw 6 0).2∧Vr v4 (aw 6 0).2 (pjT T))∧True:=aQ;clear h8;replace q:=q.trans d;replace x:=x.trans d;have S:=d;clear d
 go_upto_region 9 with fail
 refine wp_v false [.c (pv e9 0),.c (.int .i64 k),.c (.agg (pjT T)),.c (.tuple #[.agg (pnt 0 0 false),.int .i64 1501]),.c (.tuple #[.agg (pnt 0 0 false),.int .i64 1501]),.c (.agg (pnt 0 0 false)),.c (.int .i64 1501),.a,.u,.c (.int .i64 1501)] [1,2,3] [⟨7,8,35,pnt 0 0 false,fun _=>pnt 0 0 false⟩] ⟨.o 3 0 (c9.gr q) rfl rfl,.g 53 0 B rfl,.z (to_off Z h2 lT nT),⟨⟩⟩ ⟨.k zPnt (.t rfl),⟨⟩⟩ fun ax v5 d h9 aR=>?_;simp only[fzw,Kw.a];obtain⟨⟨a6,ae⟩,-⟩:(v4.heap.size≤(ax 7 0).2∧Vr v5 (ax 7 0).2 (pnt 0 0 false))∧True:=aR;clear h9;replace q:=q.trans d;replace x:=x.trans d;replace S:=S.trans d;have K:=d;clear d
 go_upto_region 10 with fail
 refine wp_v false [.c (pv e9 0),.c (.int .i64 k),.c (.agg (pjT f)),.c (.agg (pjT T)),.c (.tuple #[.agg (prj 0 0 0),.int .i64 1501]),.c (.tuple #[.agg (prj 0 0 0),.int .i64 1501]),.c (.agg (prj 0 0 0)),.c (.int .i64 1501),.a,.u,.c (.int .i64 1501)] [1,2,3,4] [⟨8,9,53,prj 0 0 0,fun _=>prj 0 0 0⟩] ⟨.o 3 0 (c9.gr q) rfl rfl,.g 53 0 (i.gr x) rfl,.g 53 0 (B.gr K) rfl,.z (jadd_off Z h2 lS lT (.inr nT)),⟨⟩⟩ ⟨.k zPj (.t rfl),⟨⟩⟩ fun af v6 d aS ay=>?_;simp only[fzw,Kw.a];obtain⟨⟨aT,W⟩,-⟩:(v5.heap.size≤(af 8 0).2∧Vr v6 (af 8 0).2 (prj 0 0 0))∧True:=ay;clear aS;replace q:=q.trans d;replace x:=x.trans d;replace S:=S.trans d;replace K:=K.trans d;have D:=d;clear d
 go_upto_region 11 with fail
 refine wp_v false [.c (pv e9 0),.c (.int .i64 k),.c (.agg (pjT T)),.c (.agg (pjT f)),.c (.tuple #[.agg (prj 0 0 0),.int .i64 1501]),.c (.tuple #[.agg (prj 0 0 0),.int .i64 1501]),.c (.agg (prj 0 0 0)),.c (.int .i64 1501),.a,.u,.c (.int .i64 1501)] [1,2,3,4] [⟨8,9,53,prj 0 0 0,fun _=>prj 0 0 0⟩] ⟨.o 3 0 (c9.gr q) rfl rfl,.g 53 0 (B.gr K) rfl,.g 53 0 (i.gr x) rfl,.z (jadd_off Z h2 lT lS (.inl nT)),⟨⟩⟩ ⟨.k zPj (.t rfl),⟨⟩⟩ fun ag v7 d aU az=>?_;simp only[fzw,Kw.a];obtain⟨⟨aV,X⟩,-⟩:(v6.heap.size≤(ag 8 0).2∧Vr v7 (ag 8 0).2 (prj 0 0 0))∧True:=az;clear aU;replace D:=D.trans d;replace q:=q.trans d;replace x:=x.trans d;replace S:=S.trans d;replace K:=K.trans d;have L:=d;clear d
 go_upto_region 12 with fail
 refine wp_v false [.c (pv e9 0),.c (.int .i64 k),.c (.agg (pjT T)),.c (.tuple #[.agg (prj 0 0 0),.int .i64 1501]),.c (.tuple #[.agg (prj 0 0 0),.int .i64 1501]),.c (.agg (prj 0 0 0)),.c (.int .i64 1501),.a,.u,.c (.int .i64 1501)] [1,2,3] [⟨7,8,53,prj 0 0 0,fun _=>prj 0 0 0⟩] ⟨.o 3 0 (c9.gr q) rfl rfl,.g 53 0 (B.gr K) rfl,.z (jdbl_off Z h2 lT nT),⟨⟩⟩ ⟨.k zPj (.t rfl),⟨⟩⟩ fun ah v8 d aW aA=>?_;simp only[fzw,Kw.a];obtain⟨⟨a0,Y⟩,-⟩:(v7.heap.size≤(ah 7 0).2∧Vr v8 (ah 7 0).2 (prj 0 0 0))∧True:=aA;clear aW;replace D:=D.trans d;replace L:=L.trans d;replace q:=q.trans d;replace x:=x.trans d;replace S:=S.trans d;replace K:=K.trans d;have ab:=d;clear d
 go_upto_region 13 with fail
 refine wp_wS [.c (.int .i64 1501),.c (.int .i64 1501),.T,.T,.c (.int .i64 1501),.c (.int .i64 1501),.T,.T,.T,.c (.int .i64 1501),.c (.int .i64 1501),.T,.T,.T,.c (.int .i64 1501),.c (.int .i64 1501),.T,.T,.T] [1,5,10,15] ⟨.y (num_any _),.y (num_any _),.y (num_any _),.y (num_any _),⟨⟩⟩ fun a7 v9 d a2=>?_;simp only[fzw];clear a2;replace D:=D.trans d;replace L:=L.trans d;replace ab:=ab.trans d;replace q:=q.trans d;replace x:=x.trans d;replace S:=S.trans d;replace K:=K.trans d;have aB:=d;clear d;replace G:=G.trans q;replace c9:=c9.gr q;replace HQ:=fun k=>(HQ k).gr q;replace i:=i.gr x;replace ac:=ac.gr x;replace I:=I.gr S;replace B:=B.gr K;replace ae:=ae.gr D;replace W:=W.gr L;replace X:=X.gr ab;replace Y:=Y.gr aB;clear D L ab aB q x S K
 go_wp2_with fail
 go_ret
 exact⟨rfl,G⟩
end
end
end Go.Proofs.YtffhepbppiocbabGreat