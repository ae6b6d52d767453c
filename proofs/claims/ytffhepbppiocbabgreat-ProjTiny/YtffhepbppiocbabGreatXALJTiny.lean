import Derived.Test.YtffhepbppiocbabGreatXAJH
import Derived.Test.YtffhepbppiocbabGreatXAAT
import Derived.Test.YtffhepbppiocbabGreatXACT
namespace Go.Proofs.YtffhepbppiocbabGreat
open Go.RowKit Go.Proofs.Tryz
set_option maxRecDepth 100000
set_option maxHeartbeats 8000000
section
attribute [local go_sem ↓] uz1
attribute [local go_sem] uz2
section
attribute [local go_sem] uz7
attribute [local go_sem ↓] uz12 Go.wp_at_zero Go.wp_at_succ
attribute [local go_sem] uz13
attribute [local go_sem ↓] uz16
attribute [local go_sem] uz17
theorem nw_no(x i:Nat)(n:Int):(nw 9 x)[i]? ≠ some (Value.int .u32 n):=by
 by_cases h:i<9
 ·rw[nw_get 9 x i h];intro e
  cases e
 ·rw[Array.getElem?_eq_none (by rw[nw_size];omega)];intro e
  cases e
theorem prj_no(x y z i:Nat)(n:Int):(prj x y z)[i]? ≠ some (Value.int .u32 n):=by
 unfold prj;rw[Array.getElem?_append]
 split
 ·rw[Array.getElem?_append]
  split
  ·exact nw_no _ _ _
  ·exact nw_no _ _ _
 ·exact nw_no _ _ _
theorem ljtiny_any(id:Int)(n1:Nat)(bn1:n1<18446744073709551616)(w:World):Cg 12 #[.int .i64 id,.int .u64 n1] w (.bool true):=by
 obtain⟨u,hu,a1,hk⟩:=idxT_conv id;have aG:=idxT_bd id;obtain⟨k,aH⟩:=exl (idxT id);rw[aH]at hk aG;obtain⟨aI,W⟩:=aG
 have Z:1≤k:=by omega
 have u0:(0:Int)≤u:=by omega
 have a2:(13:Int)+u%3=k:=by omega
 have a3:IntKind.i64.wrap ((u:Int)%3)=(u:Int)%3:=by rw[IntKind.wrap_i64];omega
 have a4:IntKind.u64.wrap ((u:Int)%3)=(u:Int)%3:=by rw[IntKind.wrap_u64];omega
 have a5:(u:Int).tmod 3=(u:Int)%3:=by rw[Int.tmod_eq_emod_of_nonneg (by omega)]
 have k0:(1:Int)≤k:=by omega
 have k1:(k:Int)≤15:=by omega
 have a6:id%18446744073709551616=(u:Int):=by rw[←hu,IntKind.wrap_u64]
 clear aH hk;have aJ:Hid (∀w,Calls prog 16 #[.int .i64 k] w (GetQ k w)):=fun w=>getq_yes k Z W w;have aK:Hid (∀w,Cg 30 #[] w (.bool true)):=fun w=>awake15_any w
 go_enter func12,ntmps12
 go_upto_region 6 with (first
  | (go_at_call 30;refine(aK.out _).mono ?_;rintro e WA ⟨rfl,GA⟩)
  | (go_at_call 16;refine(aJ.out _).mono ?_;rintro e WB ⟨qc,rfl,K,GB⟩))
 obtain⟨e9,aA⟩:=exl (WB.heap.size);simp only[aA]
 refine gen_w (fun v=>Gr w v∧Vr v e9 (crA (k:Int) (nN k) qc)∧∀j,Sl v (qc j).1 (nN k j)) ?_ ?_
 ·subst aA;exact⟨(GA.trans GB).alloc _,Vr.new _ _ _,fun j=>(K j).gr ((Gr.refl _).alloc _)⟩
 clear aA GA GB K aK aJ hu a1 a2 a3 a4 a5 a6 u0 k0 k1;rintro v0 ⟨G,I,K⟩;obtain⟨m,hm⟩:=exl (oN k);have hb:=tinyP k aI W;rw[hm]at hb;have av:dl (oN k)=1:=tiny_dl k aI W;obtain⟨r1,bx⟩:=exl (n1%200)
 have q1:(n1:Int).tmod 200=(r1:Int):=by rw[Int.tmod_eq_emod_of_nonneg (by omega)];omega
 obtain⟨n2,bz⟩:=exl (1+r1)
 have q2:IntKind.u64.wrap (1+(r1:Int))=(n2:Int):=by rw[IntKind.wrap_u64];omega
 have a7:n2<18446744073709551616:=by omega
 have aL:w.heap.size≤v0.heap.size:=G.below.size;obtain⟨P,hP⟩:=exl (mlQ k n2 (gQ k));have oP:OnQ k P:=hP▸mlQ_on Z W _ (gQ_on Z W);have bP:=a7;obtain⟨S1,aM⟩:=exl (frT P);have aw:TrQ k S1 P:=aM▸frT_tr Z W oP
 have a8:mlQ k m P=inf:=by rw[←hm,←hP,←mlQ_mul Z W _ _ (gQ_on Z W),Nat.mul_comm,mlQ_mul Z W _ _ (gQ_on Z W),mlQ_N Z W,mlQ_inf Z W]
 refine wp_v false [.c (.agg (crA (k:Int) (nN k) qc)),.c (.int .u64 n1),.c (.int .u64 r1),.c (.int .u64 n2),.c (.tuple #[.agg (pjT S1),.agg (pnQ P),.bool true]),.c (.tuple #[.agg (pjT S1),.agg (pnQ P),.bool true]),.c (.agg (pjT S1)),.c (.agg (pnQ P)),.T,.a,.a,.u,.u,.T] [0,2,3,4] [⟨9,11,53,prj 0 0 0,fun _=>pjT S1⟩,⟨10,12,35,pnt 0 0 false,fun _=>pnQ P⟩] ⟨.g 27 0 I rfl,.s (.binOp .rem 22 (.const (.int .u64 n1)) (.const (.int .u64 200)) 22) rfl fun vv d=>by simp[go_sem,exI,q1],.s (.binOp .add 22 (.const (.int .u64 1)) (.const (.int .u64 r1)) 22) rfl fun vv d=>by simp[go_sem,exI,q2],.k _ fun X vv d hh=>RtW.of_c (Rt.c (dr_is Z W bP hP aM qc _ (fun j=>(K j).gr d))),⟨⟩⟩ ⟨.k zPj (.t rfl),.k zPnt (.t rfl),⟨⟩⟩ fun ab v1 d h6 a9=>?_;simp only[fzw,Kw.a];obtain⟨⟨ax,L⟩,⟨ai,D⟩,-⟩:(v0.heap.size≤(ab 9 0).2∧Vr v1 (ab 9 0).2 (pjT S1))∧(v0.heap.size≤(ab 10 0).2∧Vr v1 (ab 10 0).2 (pnQ P))∧True:=a9;clear h6;replace G:=G.trans d;replace I:=I.gr d;replace K:=fun k=>(K k).gr d;clear d
 go_upto_region 7 with fail
 refine wp_wS [.T,.F] [] ⟨⟩ fun bA v2 d h7=>?_;simp only[fzw];clear h7;replace G:=G.trans d;replace I:=I.gr d;replace L:=L.gr d;replace D:=D.gr d;replace K:=fun k=>(K k).gr d;clear d;obtain⟨bp,aO,-,aP⟩:=K 3 0 (by show 0<dl (oN k);rw[av];decide)
 have ba:v2.cell? ⟨bp,0,none⟩=some (.int .u32 m):=by
  rw[cell_blk,aP]
  show some (Value.int .u32 ((dg (oN k) 0:Nat):Int))=_
  rw[hm,show dg m 0=m by unfold dg;rw[pq_zero,Nat.div_one];exact Nat.mod_eq_of_lt (by omega)]
 have k4:v2.cell? ⟨e9,4,none⟩=some (.slice (some ⟨bp,0,none⟩) 1 (qc 3).2):=by
  rw[I.cell,←aO,←av];rfl
 have m1:(200:Int)≤m:=by omega
 have m2:(m:Int)≤255:=by omega
 go_upto_region 10 with fail
 clear k4 ba aP aO;have p9:e9+1≤v2.heap.size:=I.p;have p7:(ab 9 0).2+1≤v2.heap.size:=L.p;have p8:(ab 10 0).2+1≤v2.heap.size:=D.p;refine wp_v false [.N 1,.c (.agg (prj 0 1 0)),.a,.u] [0] [⟨2,3,53,prj 0 0 0,fun _=>prj 0 1 0⟩] ⟨.z (one_any 1 (by decide)),⟨⟩⟩ ⟨.k zPj (.t rfl),⟨⟩⟩ fun af v3 d bb aQ=>?_;simp only[fzw,Kw.a];obtain⟨⟨aj,V⟩,-⟩:(v2.heap.size≤(af 2 0).2∧Vr v3 (af 2 0).2 (prj 0 1 0))∧True:=aQ;clear bb;replace G:=G.trans d;replace I:=I.gr d;replace L:=L.gr d;replace D:=D.gr d;replace K:=fun k=>(K k).gr d;clear d;have aR:(af 2 0).2+1≤v3.heap.size:=V.p
 go_upto_region 11 with fail
 refine wp_v false [.pt (0) (0) true,.a,.u] [0] [⟨1,2,43,ptA none 0 0 none 0 0 false,fun X=>ptA (X 0 0).1 (0) (X 0 0).2 (X 0 1).1 (0) (X 0 1).2 true⟩] ⟨.p (fun X i=>match i with|0=>(none,0)|_=>(none,0)) fun X vv d hh=>⟨Sl.zero _ _,Sl.zero _ _⟩,⟨⟩⟩ ⟨.mk (fun _ _ h=>Value.agg.inj (h 0 rfl)) (fun _ v b H F=>by dsimp only at H ⊢;simp[go_sem,exI,H,F]) zPt ⟨fkp bPt,fka,fku,trivial⟩,⟨⟩⟩ fun q v4 d aS aT=>?_;simp only[fzw,Kw.a];obtain⟨bc,bd⟩:Sl v4 (q 0 0).1 (0)∧Sl v4 (q 0 1).1 (0):=aS 0;obtain⟨⟨ak,ac⟩,-⟩:(v3.heap.size≤(q 1 0).2∧Vr v4 (q 1 0).2 (ptA (q 0 0).1 (0) (q 0 0).2 (q 0 1).1 (0) (q 0 1).2 true))∧True:=aT;clear aS;replace G:=G.trans d;replace I:=I.gr d;replace L:=L.gr d;replace D:=D.gr d;replace V:=V.gr d;replace K:=fun k=>(K k).gr d;clear d;obtain⟨e7,ar⟩:=exl ((ab 9 0).2);obtain⟨e8,au⟩:=exl ((ab 10 0).2);obtain⟨aa,ag⟩:=exl ((af 2 0).2);obtain⟨ah,ao⟩:=exl ((q 1 0).2);rw[ar]at L ax;rw[au]at D ai;rw[ag]at V aj;rw[ao]at ac ak;rw[ar]at p7;rw[au]at p8;rw[ag]at aR
 go_wp2_with fail
 simp only[Nat.zero_add,Nat.reduceAdd,ar,au,ag,ao]
 have bB:e9<aa∧e7<aa∧e8<aa∧aa<ah:=by omega
 have HV:Hid (Gr w v4∧Vr v4 e9 (crA (k:Int) (nN k) qc)∧(∀j,Sl v4 (qc j).1 (nN k j))∧Vr v4 e7 (pjT S1)∧Vr v4 e8 (pnQ P)∧Vr v4 aa (prj 0 1 0)∧TrQ k (0,1,0) (mlQ k 0 P)∧Vr v4 ah (ptA (q 0 0).1 (mlQ k 0 P).1 (q 0 0).2 (q 0 1).1 (mlQ k 0 P).2.1 (q 0 1).2 (mlQ k 0 P).2.2)∧Sl v4 (q 0 0).1 (mlQ k 0 P).1∧Sl v4 (q 0 1).1 (mlQ k 0 P).2.1):=by
  rw[mlQ_zero Z W];exact⟨G,I,K,L,D,V,inf_tr Z W (prm_pN k Z W).1 (by decide),ac,Sl.zero _ _,Sl.zero _ _⟩
 have GW:Hu (w.heap.size≤aa):=fun _=>by have:=aL;omega
 clear G I K L D V ac ax ai aj ak p9 p7 p8 aR ar au ag ao aL
 go_loopw [13] (fun ia wr=>∃(j:Nat) (T:T3) (p1 p2:Option Addr) (n3 n4:Nat),ia=.int .u64 j∧Hu (j≤m)∧Hid (Gr w wr∧Vr wr e9 (crA (k:Int) (nN k) qc)∧(∀j,Sl wr (qc j).1 (nN k j))∧Vr wr e7 (pjT S1)∧Vr wr e8 (pnQ P)∧Vr wr aa (pjT T)∧TrQ k T (mlQ k j P)∧Vr wr ah (ptA p1 (mlQ k j P).1 n3 p2 (mlQ k j P).2.1 n4 (mlQ k j P).2.2)∧Sl wr p1 (mlQ k j P).1∧Sl wr p2 (mlQ k j P).2.1)) (fun ia _=>((m:Int)+10-intOf ia).toNat)
 case atStart=>exact⟨0,(0,1,0),(q 0 0).1,(q 0 1).1,(q 0 0).2,(q 0 1).2,rfl,fun _=>Nat.zero_le _,HV⟩
 case round=>
  clear HV;obtain⟨j,T,p1,p2,n3,n4,rfl,HJ,HV⟩:=hrel
  have j0:(0:Int)≤j:=by omega
  by_cases hlt:j<m
  ·have j1:(j:Int)<m:=by omega
   obtain⟨Q,hQ⟩:=exl (mlQ k j P);have oQ:OnQ k Q:=hQ▸mlQ_on Z W _ oP;rw[hQ]at HV;obtain⟨G,I,K,c7,c8,x,ap,A,B,C⟩:=HV.out;obtain⟨R,hR⟩:=exl (addT k T S1);obtain⟨Q2,aB⟩:=exl (plQ k Q P)
   have be:mlQ k (j+1) P=Q2:=by rw[←aB,←hQ,mlQ_add Z W _ _ oP,mlQ_one Z W oP]
   have bf:TrQ k R Q2:=hR▸aB▸addT_tr Z W ap aw;clear HV HJ
   go_upto_region 15 with fail
   refine wp_v false [.c (pv e9 0),.c (.int .i64 k),.c (.agg (pjT T)),.E (.agg (pnQ Q)),.E (.agg (pnQ Q)),.c (.agg (pnQ Q)),.O,.a,.u,.O] [1,2,3] [⟨7,8,35,pnt 0 0 false,fun _=>pnQ Q⟩] ⟨.o 3 0 I rfl rfl,.g 53 0 x rfl,.z (toQ Z W (T:=T) (Q:=Q) ap),⟨⟩⟩ ⟨.k zPnt (.t rfl),⟨⟩⟩ fun ay v5 d bg aU=>?_;simp only[fzw,Kw.a];obtain⟨⟨bh,J⟩,-⟩:(wr.heap.size≤(ay 7 0).2∧Vr v5 (ay 7 0).2 (pnQ Q))∧True:=aU;clear bg;replace G:=G.trans d;replace I:=I.gr d;replace c7:=c7.gr d;replace c8:=c8.gr d;replace x:=x.gr d;replace A:=A.gr d;replace K:=fun k=>(K k).gr d;replace B:=B.gr d;replace C:=C.gr d;clear d
   go_upto_region 16 with fail
   refine wp_w [.O,.O,.F,.F,.c (.agg (pnQ Q)),.c (.agg (ptA p1 (Q.1) n3 p2 (Q.2.1) n4 Q.2.2)),.c (.agg (pnQ Q)),.F,.F] [1,4,5,6,7] ⟨.y (num_any _),.g 35 0 J rfl,.g 43 0 A rfl,.k (fun X =>#[.agg (ptA p1 (Q.1) n3 p2 (Q.2.1) n4 Q.2.2)]) fun X vv d hh=>RtW.of_c (Rt.c (rout_any _ _ _ _ _ _ _ _ (B.gr d) (C.gr d))),.s (.binOp .neq 35 (.const (.agg (pnQ Q))) (.const (.agg (pnQ Q))) 35) rfl fun vv d=>by simp[go_sem,exI,nePn,eqN_self],⟨⟩⟩ fun bs v6 d bi=>?_;simp only[fzw];clear bi;replace G:=G.trans d;replace I:=I.gr d;replace c7:=c7.gr d;replace c8:=c8.gr d;replace x:=x.gr d;replace A:=A.gr d;replace J:=J.gr d;replace K:=fun k=>(K k).gr d;replace B:=B.gr d;replace C:=C.gr d;clear d
   go_upto_region 18 with fail
   refine wp_v false [.c (pv e9 0),.c (.int .i64 k),.c (.agg (pjT T)),.c (.agg (pjT S1)),.E (.agg (pjT R)),.E (.agg (pjT R)),.c (.agg (pjT R)),.O,.a,.u,.O] [1,2,3,4] [⟨8,9,53,prj 0 0 0,fun _=>pjT R⟩] ⟨.o 3 0 I rfl rfl,.g 53 0 x rfl,.g 53 0 c7 rfl,.z (jaddQ Z W (S:=T) (T:=S1) (R:=R) ap aw hR),⟨⟩⟩ ⟨.k zPj (.t rfl),⟨⟩⟩ fun az v7 d bj aV=>?_;simp only[fzw,Kw.a];obtain⟨⟨bk,Y⟩,-⟩:(v6.heap.size≤(az 8 0).2∧Vr v7 (az 8 0).2 (pjT R))∧True:=aV;clear bj;replace G:=G.trans d;replace I:=I.gr d;replace c7:=c7.gr d;replace c8:=c8.gr d;replace x:=x.gr d;replace A:=A.gr d;replace J:=J.gr d;replace K:=fun k=>(K k).gr d;replace B:=B.gr d;replace C:=C.gr d;clear d
   go_upto_region 19 with fail
   refine wp_wS [.O,.O,.F] [1] ⟨.y (num_any _),⟨⟩⟩ fun bt v8 d bm=>?_;simp only[fzw];clear bm;replace G:=G.trans d;replace I:=I.gr d;replace c7:=c7.gr d;replace c8:=c8.gr d;replace x:=x.gr d;replace A:=A.gr d;replace J:=J.gr d;replace Y:=Y.gr d;replace K:=fun k=>(K k).gr d;replace B:=B.gr d;replace C:=C.gr d;clear d
   go_upto_region 21 with fail
   refine wp_wTS 1 [.c (.agg (pjT R))] [0] ⟨.g 53 0 Y rfl,⟨⟩⟩ (.s 53 (fun X=>pv aa 0) (fun X=>.agg (pjT R)) fun bu v9 d bn=>?_);have HT:=(x.gr d).h;have FT:=(x.gr d).f;refine⟨setBlk v9 (aa) (pjT R),by simp[go_sem,exI,HT,FT],?_⟩;simp only[fzw];clear bn;replace G:=G.trans d;replace I:=I.gr d;replace c7:=c7.gr d;replace c8:=c8.gr d;replace x:=x.gr d;replace A:=A.gr d;replace J:=J.gr d;replace Y:=Y.gr d;replace K:=fun k=>(K k).gr d;replace B:=B.gr d;replace C:=C.gr d;clear d
   go_upto_region 22 with fail
   refine gen_w (fun u=>Gr w u∧Vr u e9 (crA (k:Int) (nN k) qc)∧(∀j,Sl u (qc j).1 (nN k j))∧Vr u e7 (pjT S1)∧Vr u e8 (pnQ P)∧Vr u aa (pjT R)∧Vr u ah (ptA p1 Q.1 n3 p2 Q.2.1 n4 Q.2.2)∧Sl u p1 Q.1∧Sl u p2 Q.2.1) ⟨gr_setNew G (by have:=GW.out ();omega),I.other (by omega),fun j=>Sl.set (K j) (by rw[HT];exact prj_no _ _ _),c7.other (by omega),c8.other (by omega),x.set (by rw[prj_size];decide) _,A.other (by omega),Sl.set B (by rw[HT];exact prj_no _ _ _),Sl.set C (by rw[HT];exact prj_no _ _ _)⟩ ?_;clear G I K c7 c8 x A B C HT FT;rintro u ⟨G,I,K,c7,c8,x,A,B,C⟩;refine wp_wT 5 [.c (.agg (crA (k:Int) (nN k) qc)),.c (.agg (ptA p1 (Q.1) n3 p2 (Q.2.1) n4 Q.2.2)),.c (.agg (pnQ P)),.pt (P.1) (P.2.1) P.2.2,.pt (Q2.1) (Q2.2.1) Q2.2.2] [0,1,2,3,4] ⟨.g 27 0 I rfl,.g 43 0 A rfl,.g 35 0 c8 rfl,.k _ fun X vv d hh=>RtW.of_pt (rin_any _ _ _ oP.lt.1 oP.lt.2 _),.k (fun X =>#[.agg (crA (k:Int) (nN k) qc),.agg (ptA p1 (Q.1) n3 p2 (Q.2.1) n4 Q.2.2),.agg (ptA (X 3 0).1 (P.1) (X 3 0).2 (X 3 1).1 (P.2.1) (X 3 1).2 P.2.2)]) fun X vv d hh=>RtW.of_pt (aB▸rplusQ k Z W qc oQ oP (fun j=>(K j).gr d) (B.gr d) (C.gr d) (hh 3 rfl).1 (hh 3 rfl).2),⟨⟩⟩ (.s 43 (fun X=>pv ah 0) (fun X=>.agg (ptA (X 4 0).1 (Q2.1) (X 4 0).2 (X 4 1).1 (Q2.2.1) (X 4 1).2 Q2.2.2)) fun U aC d aW=>?_);have HT:=(A.gr d).h;have FT:=(A.gr d).f;refine⟨setBlk aC (ah) (ptA (U 4 0).1 (Q2.1) (U 4 0).2 (U 4 1).1 (Q2.2.1) (U 4 1).2 Q2.2.2),by simp[go_sem,exI,HT,FT],?_⟩;simp only[fzw];obtain⟨aD,aE⟩:Sl aC (U 4 0).1 (Q2.1)∧Sl aC (U 4 1).1 (Q2.2.1):=aW 4;clear aW;replace G:=G.trans d;replace I:=I.gr d;replace c7:=c7.gr d;replace c8:=c8.gr d;replace x:=x.gr d;replace A:=A.gr d;replace K:=fun k=>(K k).gr d;replace B:=B.gr d;replace C:=C.gr d;clear d
   go_wp2_with fail
   go_roundw
   case rel=>
    refine⟨j+1,R,(U 4 0).1,(U 4 1).1,(U 4 0).2,(U 4 1).2,by go_num,fun _=>hlt,?_⟩;rw[be];exact⟨gr_setNew G (by have:=GW.out ();omega),I.other (by omega),fun j=>Sl.set (K j) (by rw[HT];exact ptA_no _ _ _ _ _ _ _),c7.other (by omega),c8.other (by omega),x.other (by omega),bf,A.set (by rw[ptA_size];decide) _,Sl.set aD (by rw[HT];exact ptA_no _ _ _ _ _ _ _),Sl.set aE (by rw[HT];exact ptA_no _ _ _ _ _ _ _)⟩
   case measure=>simp[intOf];omega
  ·have j1:¬(j:Int)<m:=by omega
   have hj:j=m:=by have:=HJ.out ();omega
   rw[hj,a8]at HV;obtain⟨G,I,K,c7,c8,x,ap,A,B,C⟩:=HV.out;clear HV HJ hlt
   go_upto_region 23 with fail
   refine wp_v false [.c (pv e9 0),.c (.int .i64 k),.c (.agg (pjT T)),.E (.agg (pnt 0 0 true)),.E (.agg (pnt 0 0 true)),.c (.agg (pnt 0 0 true)),.O,.a,.u,.O] [1,2,3] [⟨7,8,35,pnt 0 0 false,fun _=>pnt 0 0 true⟩] ⟨.o 3 0 I rfl rfl,.g 53 0 x rfl,.z (toQ Z W (Q:=inf) ap),⟨⟩⟩ ⟨.k zPnt (.t rfl),⟨⟩⟩ fun aq v5 d bo a0=>?_;simp only[fzw,Kw.a];obtain⟨⟨bq,ae⟩,-⟩:(wr.heap.size≤(aq 7 0).2∧Vr v5 (aq 7 0).2 (pnt 0 0 true))∧True:=a0;clear bo;replace G:=G.trans d;replace I:=I.gr d;replace c7:=c7.gr d;replace c8:=c8.gr d;replace x:=x.gr d;replace A:=A.gr d;replace K:=fun k=>(K k).gr d;replace B:=B.gr d;replace C:=C.gr d;clear d
   go_upto_region 24 with fail
   refine wp_wS [.O,.O,.T,.T,.c (pv ((aq 7 0).2) 18),.T,.T,.T] [1,5] ⟨.y (num_any _),.o 4 18 ae rfl (by exact pnt_18 _ _ _),⟨⟩⟩ fun bv v6 d br=>?_;simp only[fzw];clear br;replace G:=G.trans d;replace I:=I.gr d;replace c7:=c7.gr d;replace c8:=c8.gr d;replace x:=x.gr d;replace A:=A.gr d;replace ae:=ae.gr d;replace K:=fun k=>(K k).gr d;replace B:=B.gr d;replace C:=C.gr d;clear d
   go_wp2_with fail
   go_ret
   exact⟨rfl,G⟩
end
end
end Go.Proofs.YtffhepbppiocbabGreat