import Derived.Test.YtffhepbppiocbacGreatXMQG
import Derived.Test.YtffhepbppiocbacGreatXMLQTn
import Derived.Test.YtffhepbppiocbacGreatXMCT
namespace Go.Proofs.YtffhepbppiocbacGreat
open Go.RowKit Go.Proofs.Tryz
set_option maxRecDepth 100000
set_option maxHeartbeats 8000000
section
attribute [local go_sem ↓] uz1
attribute [local go_sem] uz2
section
attribute [local go_sem] uz8
attribute [local go_sem ↓] uz17 Go.wp_at_zero Go.wp_at_succ
attribute [local go_sem] uz18
theorem mnN_pos(k:Nat)(h1:13≤k)(h2:k≤15):0<mnN 4 (bl (oN k)):=by
 obtain rfl|rfl|rfl:k=13∨k=14∨k=15:=by omega
 all_goals decide +kernel
attribute [local go_sem ↓] bslU_is
theorem lqtiny_any(id:Int)(n1:Nat)(bn1:n1<18446744073709551616)(w:World):Cg 11 #[.int .i64 id,.int .u64 n1] w (.bool true):=by
 obtain⟨u,hu,a0,hk⟩:=idxT_conv id;have aG:=idxT_bd id;obtain⟨k,aH⟩:=exl (idxT id);rw[aH]at hk aG;obtain⟨aA,h2⟩:=aG
 have h1:1≤k:=by omega
 have u0:(0:Int)≤u:=by omega
 have a1:(13:Int)+u%3=k:=by omega
 have a2:IntKind.i64.wrap ((u:Int)%3)=(u:Int)%3:=by rw[IntKind.wrap_i64];omega
 have a3:IntKind.u64.wrap ((u:Int)%3)=(u:Int)%3:=by rw[IntKind.wrap_u64];omega
 have a4:(u:Int).tmod 3=(u:Int)%3:=by rw[Int.tmod_eq_emod_of_nonneg (by omega)]
 have k0:(1:Int)≤k:=by omega
 have k1:(k:Int)≤15:=by omega
 have a5:id%18446744073709551616=(u:Int):=by rw[←hu,IntKind.wrap_u64]
 clear aH hk;have aI:Hid (∀w,Calls prog 16 #[.int .i64 k] w (GetQ k w)):=fun w=>getq_yes k h1 h2 w;have aJ:Hid (∀w,Cg 34 #[] w (.bool true)):=fun w=>awake18_any w
 go_enter func11,ntmps11
 go_upto_region 6 with (first
  | (go_at_call 34;refine(aJ.out _).mono ?_;rintro e WA ⟨rfl,GA⟩)
  | (go_at_call 16;refine(aI.out _).mono ?_;rintro e WB ⟨qc,rfl,W,GB⟩))
 obtain⟨e9,aB⟩:=exl (WB.heap.size);simp only[aB]
 refine gen_w (fun v=>Gr w v∧Vr v e9 (crA (k:Int) (nN k) qc)∧(∀j,Sl v (qc j).1 (nN k j))) ?_ ?_
 ·subst aB;have g1:Gr WB (WB.alloc (.cells (crA (k:Int) (nN k) qc) 27)):=(Gr.refl _).alloc _;exact⟨(GA.trans GB).trans g1,Vr.new _ _ _,fun j=>(W j).gr g1⟩
 clear aB GA GB W aJ aI hu a0 a1 a2 a3 a4 a5 u0 k0 k1;rintro v0 ⟨G,X,W⟩;obtain⟨m,hm⟩:=exl (oN k);have hb:=tinyP k aA h2;rw[hm]at hb;have aw:dl (oN k)=1:=tiny_dl k aA h2;obtain⟨bp,aK,-,aL⟩:=W 3 0 (by show 0<dl (oN k);rw[aw];decide)
 have a6:v0.cell? ⟨bp,0,none⟩=some (.int .u32 m):=by
  rw[cell_blk,aL]
  show some (Value.int .u32 ((dg (oN k) 0:Nat):Int))=_
  rw[hm,show dg m 0=m by unfold dg;rw[pq_zero,Nat.div_one];exact Nat.mod_eq_of_lt (by omega)]
 have k4:v0.cell? ⟨e9,4,none⟩=some (.slice (some ⟨bp,0,none⟩) 1 (qc 3).2):=by
  rw[X.cell,←aK,←aw];rfl
 have m1:(200:Int)≤m:=by omega
 have m2:(m:Int)≤255:=by omega
 go_upto_region 7 with fail
 clear k4 a6 aL aK;obtain⟨r1,bi⟩:=exl (n1%200)
 have q1:(n1:Int).tmod 200=(r1:Int):=by rw[Int.tmod_eq_emod_of_nonneg (by omega)];omega
 have q2:IntKind.u32.wrap (r1:Int)=r1:=wrap_u32 _ (by omega) (by omega);obtain⟨n2,bk⟩:=exl (1+r1);have q3:IntKind.u32.wrap (1+(r1:Int))=(n2:Int):=(wrap_u32 _ (by omega) (by omega)).trans (by omega);have ax:dl n2=1:=dl_small (by omega) (by omega)
 have hd:dl n2≤400:=by omega
 have ay:n2<pq 1:=by rw[show pq 1=4294967296 by decide +kernel];omega
 have aM:=fun w=>buildU n2 (by omega) w;have a7:w.heap.size≤v0.heap.size:=G.below.size;obtain⟨P,hP⟩:=exl (mlQ k n2 (gQ k));have oP:OnQ k P:=hP▸mlQ_on h1 h2 _ (gQ_on h1 h2);have a8:mlQ k m P=inf:=hm▸ml_N h1 h2 hP;obtain⟨n,aO⟩:=exl ((evN k).length)
 have hn:((evN k).length:Int)=(n:Int):=by rw[aO]
 have n0:(0:Int)≤n:=by omega
 have a9:0<n:=by
  rw[←aO];unfold evN;rw[rpx_length];exact Nat.mul_pos (by decide) (mnN_pos k aA h2)
 have p9:e9+1≤v0.heap.size:=X.p;refine wp_v true [.c (.agg (crA (k:Int) (nN k) qc)),.c (.int .u64 n1),.c (.int .u64 r1),.c (.int .u32 r1),.c (.int .u32 n2),.n (n2),.c (.agg (crA (k:Int) (nN k) qc)),.pt (xN k) (yN k) false,.pt (P.1) (P.2.1) P.2.2,.a,.u] [0,2,3,4,5,6,7,8] [⟨9,10,38,ptA none 0 0 none 0 0 false,fun C=>ptA (C 8 0).1 (P.1) (C 8 0).2 (C 8 1).1 (P.2.1) (C 8 1).2 P.2.2⟩] ⟨.g 27 0 X rfl,.s (.binOp .rem 22 (.const (.int .u64 n1)) (.const (.int .u64 200)) 22) rfl fun vv q=>by simp[go_sem,exI,q1],.s (.convert 22 71 (.const (.int .u64 r1))) rfl fun vv q=>by simp[go_sem,exI,q2],.s (.binOp .add 71 (.const (.int .u32 1)) (.const (.int .u32 r1)) 71) rfl fun vv q=>by simp[go_sem,exI,q3],.b (.buildSlice 24 1 #[(0,.const (.int .u32 n2))]) rfl ax (fun vv=>by simp[go_sem,exI,aM]) (sl_lit n2 ay),.g 27 0 X rfl,.k _ fun C vv q hh=>RtW.of_pt (rg_any qc _ (fun j=>(W j).gr q)),.k (fun C =>#[.agg (crA (k:Int) (nN k) qc),.slice (C 5 0).1 (dl (n2)) (C 5 0).2,.agg (ptA (C 7 0).1 (xN k) (C 7 0).2 (C 7 1).1 (yN k) (C 7 1).2 false)]) fun C vv q hh=>RtW.of_pt (hP▸rtimesQ k h1 h2 qc (gQ_on h1 h2) hd (fun j=>(W j).gr q) (hh 5 rfl) (hh 7 rfl).1 (hh 7 rfl).2),⟨⟩⟩ ⟨.mk (fun _ _ h=>Value.agg.inj (h 8 rfl)) (fun _ v b H F=>by dsimp only at H ⊢;simp[go_sem,exI,H,F]) zPt ⟨fkc,fkc,fkc,fkc,fkc,fkn bPt,fkc,fkp bPt,fkp bPt,fka,fku,trivial⟩,⟨⟩⟩ fun D v1 q h7 ba=>?_;simp only[fzw,Kw.a];obtain⟨ab,ac⟩:Sl v1 (D 8 0).1 (P.1)∧Sl v1 (D 8 1).1 (P.2.1):=h7 8;obtain⟨⟨aP,Z⟩,-⟩:(v0.heap.size≤(D 9 0).2∧Vr v1 (D 9 0).2 (ptA (D 8 0).1 (P.1) (D 8 0).2 (D 8 1).1 (P.2.1) (D 8 1).2 P.2.2))∧True:=ba;clear h7;replace G:=G.trans q;replace X:=X.gr q;replace W:=fun k=>(W k).gr q;clear q;have p8:(D 9 0).2+1≤v1.heap.size:=Z.p
 go_upto_region 8 with fail
 refine wp_v false [.c (.agg (ptA (D 8 0).1 (P.1) (D 8 0).2 (D 8 1).1 (P.2.1) (D 8 1).2 P.2.2)),.c (.agg (pnQ P)),.a,.u] [0,1] [⟨2,3,35,pnt 0 0 false,fun _=>pnQ P⟩] ⟨.g 38 0 Z rfl,.k (fun C =>#[.agg (ptA (D 8 0).1 (P.1) (D 8 0).2 (D 8 1).1 (P.2.1) (D 8 1).2 P.2.2)]) fun C vv q hh=>RtW.of_c (Rt.c (rout_any _ _ _ _ _ _ _ _ (ab.gr q) (ac.gr q))),⟨⟩⟩ ⟨.k zPnt (.t rfl),⟨⟩⟩ fun av v2 q h8 bb=>?_;simp only[fzw,Kw.a];obtain⟨⟨aQ,af⟩,-⟩:(v1.heap.size≤(av 2 0).2∧Vr v2 (av 2 0).2 (pnQ P))∧True:=bb;clear h8;replace G:=G.trans q;replace X:=X.gr q;replace Z:=Z.gr q;replace W:=fun k=>(W k).gr q;replace ab:=ab.gr q;replace ac:=ac.gr q;clear q;have p7:(av 2 0).2+1≤v2.heap.size:=af.p
 go_upto_region 9 with fail
 refine wp_v false [.pt (0) (0) true,.a,.u] [0] [⟨1,2,38,ptA none 0 0 none 0 0 false,fun C=>ptA (C 0 0).1 (0) (C 0 0).2 (C 0 1).1 (0) (C 0 1).2 true⟩] ⟨.p (fun C i=>match i with|0=>(none,0)|_=>(none,0)) fun C vv q hh=>⟨Sl.zero _ _,Sl.zero _ _⟩,⟨⟩⟩ ⟨.mk (fun _ _ h=>Value.agg.inj (h 0 rfl)) (fun _ v b H F=>by dsimp only at H ⊢;simp[go_sem,exI,H,F]) zPt ⟨fkp bPt,fka,fku,trivial⟩,⟨⟩⟩ fun K v3 q h9 bc=>?_;simp only[fzw,Kw.a];obtain⟨bf,bg⟩:Sl v3 (K 0 0).1 (0)∧Sl v3 (K 0 1).1 (0):=h9 0;obtain⟨⟨aR,az⟩,-⟩:(v2.heap.size≤(K 1 0).2∧Vr v3 (K 1 0).2 (ptA (K 0 0).1 (0) (K 0 0).2 (K 0 1).1 (0) (K 0 1).2 true))∧True:=bc;clear h9;replace G:=G.trans q;replace X:=X.gr q;replace Z:=Z.gr q;replace af:=af.gr q;replace W:=fun k=>(W k).gr q;replace ab:=ab.gr q;replace ac:=ac.gr q;clear q;generalize (D 9 0).2=e8 at *;generalize (av 2 0).2=e7 at *;generalize (K 1 0).2=aa at *;generalize (D 8 0).1=ag at *;generalize (D 8 0).2=ao at *;generalize (D 8 1).1=ah at *;generalize (D 8 1).2=ap at *
 have GW:Hid (w.heap.size≤aa∧e9<aa∧e8<aa∧e7<aa):=by
  show _∧_
  omega
 have HV:Hid (Gr w v3∧Vr v3 e9 (crA (k:Int) (nN k) qc)∧(∀j,Sl v3 (qc j).1 (nN k j))∧Vr v3 e8 (ptA ag P.1 ao ah P.2.1 ap P.2.2)∧Sl v3 ag P.1∧Sl v3 ah P.2.1∧Vr v3 e7 (pnQ P)∧Vr v3 aa (ptA (K 0 0).1 (mlQ k 0 P).1 (K 0 0).2 (K 0 1).1 (mlQ k 0 P).2.1 (K 0 1).2 (mlQ k 0 P).2.2)∧Sl v3 (K 0 0).1 (mlQ k 0 P).1∧Sl v3 (K 0 1).1 (mlQ k 0 P).2.1):=by
  rw[mlQ_zero h1 h2];exact⟨G,X,W,Z,ab,ac,af,az,Sl.zero _ _,Sl.zero _ _⟩
 go_wp2_with fail
 simp only[Nat.zero_add,Nat.reduceAdd];clear G X W Z af az aP aQ aR ab ac p9 p8 p7 a7 ax aM ay hd
 go_loopw [11,12] (fun la ia wr=>∃(j:Nat) (z:Int) (p1 p2:Option Addr) (n3 n4:Nat),la=.int .i64 z∧ia=.int .u64 j∧Hu (j≤m)∧(j=0∧z = -1∨0<j∧z=(n:Int))∧Hid (Gr w wr∧Vr wr e9 (crA (k:Int) (nN k) qc)∧(∀j,Sl wr (qc j).1 (nN k j))∧Vr wr e8 (ptA ag P.1 ao ah P.2.1 ap P.2.2)∧Sl wr ag P.1∧Sl wr ah P.2.1∧Vr wr e7 (pnQ P)∧Vr wr aa (ptA p1 (mlQ k j P).1 n3 p2 (mlQ k j P).2.1 n4 (mlQ k j P).2.2)∧Sl wr p1 (mlQ k j P).1∧Sl wr p2 (mlQ k j P).2.1)) (fun _ ia _=>((m:Int)+10-intOf ia).toNat)
 case atStart=>exact⟨0,-1,(K 0 0).1,(K 0 1).1,(K 0 0).2,(K 0 1).2,rfl,rfl,fun _=>Nat.zero_le _,.inl ⟨rfl,rfl⟩,HV⟩
 case round=>
  clear HV;obtain⟨j,z,p1,p2,n3,n4,rfl,rfl,HJ,hz,HV⟩:=hrel
  have j0:(0:Int)≤j:=by omega
  by_cases hlt:j<m
  ·have j1:(j:Int)<m:=by omega
   have jN:j<oN k:=by omega
   have bj:j<18446744073709551616:=by omega
   obtain⟨Q,hQ⟩:=exl (mlQ k j P);have oQ:OnQ k Q:=hQ▸mlQ_on h1 h2 _ oP;rw[hQ]at HV;obtain⟨G,X,W,c8,U,V,c7,B,L,S⟩:=HV.out;obtain⟨Q2,aC⟩:=exl (plQ k Q P)
   have aS:mlQ k (j+1) P=Q2:=by rw[←aC,←hQ,mlQ_add h1 h2 _ _ oP,mlQ_one h1 h2 oP]
   clear HV HJ
   rcases hz with ⟨-,rfl⟩|⟨-,rfl⟩
   ·skip
    go_upto_region 14 with fail
    go_upto_region 15 with (go_at_call 27;refine(new_any _).mono ?_;rintro e w' ⟨rfl,rfl⟩)
    refine gen_w (fun v=>Gr wr v∧Tr v (wr.heap.size) (.slice none 0 0) []) ⟨grA,Tr.new _⟩ ?_;rintro vr ⟨I,J⟩;refine wp_x true [.c (pv (wr.heap.size) 0),.c (pv e9 0),.c (.int .i64 k),.c (.int .u64 j),.c (.agg (nw 9 j)),.c (.agg (pnQ P)),.c (.tuple #[.agg (pnQ Q),.int .i64 0]),.c (.tuple #[.agg (pnQ Q),.int .i64 0]),.c (.agg (pnQ Q)),.c (.int .i64 0),.vt vr.heap.size (pnt 0 0 false) 35,.u,.c (.int .i64 0)] [2,4,5,10] 6 11 (fun v u=>Kp (fun b=>b<vr.heap.size) v u) (MrI vr (wr.heap.size) (evN k)) (fun x v=>Kp (fun b=>b=wr.heap.size) vr v∧∃z,Tr v (wr.heap.size) z (evN k)∧Vr v (x 10 0).2 (pnQ Q)) 30 (fun _ =>#[.pointer (some ⟨wr.heap.size,0,none⟩),.int .i64 k,.agg (nw 9 j),.agg (pnQ P)]) 35 (fun x=>pv (x 10 0).2 0) (fun _=>.agg (pnQ Q)) (MrI.start J) (fun _ _ _ h g=>h.gr g) ?xo5 ?xm5 ?xs5 ⟨fnc,fnc,fnc,fnc,fnc,fnc,fnc,fnc,fnc,fnc,fnvt,fnu,fnc,trivial⟩ ?xf5
    case xo5=>
     rintro _ v HI;have aq:=HI.g I (Nat.le_refl _);refine .cons (.o 3 0 (X.gr aq) rfl rfl) ?_;refine .cons (.z (one_any _ bj)) ?_;refine .cons (.g 35 0 (c7.gr aq) rfl) ?_;exact .cons (.n 35 rfl HI.k.size) .nil
    case xm5=>exact fun _ _ HI _=>HI.mul J.lt fun hT=>mulR h1 h2 (P:=P) oP (d:=j) jN (Q:=Q) hQ hT
    case xs5=>
     rintro x v HI hy;obtain⟨hN,hh⟩:=hy 10 (by kernel_rfl);have HT:=(vr_vt hh).h;have FT:=(vr_vt hh).f;exact⟨setBlk v _ (pnQ Q),by simp[go_sem,exI,HT,FT],HI.set J.lt hN hh (by rw[pnt_size];decide) (by decide) _⟩
    rintro aT aU ⟨ar,bd,ai,ae⟩;simp only[fzw,Kw.vt];replace I:=gr_kp I ar (fun b hb e=>by have e:b=wr.heap.size:=e;omega);replace J:=ai;clear ai ar
    go_upto_region 16 with fail
    refine wp_w [.O,.O,.F,.F,.c (.agg (pnQ Q)),.c (.agg (ptA p1 (Q.1) n3 p2 (Q.2.1) n4 Q.2.2)),.c (.agg (pnQ Q)),.F,.F,.F,.c (.int .i64 (-1)),.F,.F,.u,.u,.u,.u,.F,.F] [1,4,5,6,7] ⟨.y (num_any _),.g 35 0 ae rfl,.g 38 0 (B.gr I) rfl,.k (fun C =>#[.agg (ptA p1 (Q.1) n3 p2 (Q.2.1) n4 Q.2.2)]) fun C vv q hh=>RtW.of_c (Rt.c (rout_any _ _ _ _ _ _ _ _ (L.gr (I.trans q)) (S.gr (I.trans q)))),.s (.binOp .neq 35 (.const (.agg (pnQ Q))) (.const (.agg (pnQ Q))) 35) rfl fun vv q=>by simp[go_sem,exI,nePn,eqN_self],⟨⟩⟩ fun aV v4 q aD=>?_;simp only[fzw];clear aD;replace I:=I.trans q;have Y:=q;clear q
    go_upto_region 18 with fail
    refine wp_wS [.c (pv (wr.heap.size) 0),.c (.int .i64 n),.c (.int .i64 n)] [1] ⟨.k _ fun C vv q hh=>RtW.of_c (Rt.same (lenT (J.gr (Y.trans q)) hn)),⟨⟩⟩ fun aW v5 q aE=>?_;simp only[fzw];clear aE;replace Y:=Y.trans q;replace I:=I.trans q;clear q;replace G:=G.trans I;replace X:=X.gr I;replace c7:=c7.gr I;replace c8:=c8.gr I;replace B:=B.gr I;replace W:=fun k=>(W k).gr I;replace U:=U.gr I;replace V:=V.gr I;replace L:=L.gr I;replace S:=S.gr I;replace ae:=ae.gr Y;replace J:=J.gr Y;clear Y I
    go_upto_region 19 with fail
    refine wp_wTS 4 [.c (.agg (crA (k:Int) (nN k) qc)),.c (.agg (ptA p1 (Q.1) n3 p2 (Q.2.1) n4 Q.2.2)),.c (.agg (ptA ag (P.1) ao ah (P.2.1) ap P.2.2)),.pt (Q2.1) (Q2.2.1) Q2.2.2] [0,1,2,3] ⟨.g 27 0 X rfl,.g 38 0 B rfl,.g 38 0 c8 rfl,.k (fun C =>#[.agg (crA (k:Int) (nN k) qc),.agg (ptA p1 (Q.1) n3 p2 (Q.2.1) n4 Q.2.2),.agg (ptA ag (P.1) ao ah (P.2.1) ap P.2.2)]) fun C vv q hh=>RtW.of_pt (aC▸rplusQ k h1 h2 qc oQ oP (fun j=>(W j).gr q) (L.gr q) (S.gr q) (U.gr q) (V.gr q)),⟨⟩⟩ (.s 38 (fun C=>pv aa 0) (fun C=>.agg (ptA (C 3 0).1 (Q2.1) (C 3 0).2 (C 3 1).1 (Q2.2.1) (C 3 1).2 Q2.2.2)) fun A v6 q au=>?_);have HT:=(B.gr q).h;have FT:=(B.gr q).f;refine⟨setBlk v6 (aa) (ptA (A 3 0).1 (Q2.1) (A 3 0).2 (A 3 1).1 (Q2.2.1) (A 3 1).2 Q2.2.2),by simp[go_sem,exI,HT,FT],?_⟩;simp only[fzw];obtain⟨aj,ak⟩:Sl v6 (A 3 0).1 (Q2.1)∧Sl v6 (A 3 1).1 (Q2.2.1):=au 3;clear au;replace G:=G.trans q;replace X:=X.gr q;replace c7:=c7.gr q;replace c8:=c8.gr q;replace B:=B.gr q;replace ae:=ae.gr q;replace W:=fun k=>(W k).gr q;replace U:=U.gr q;replace V:=V.gr q;replace L:=L.gr q;replace S:=S.gr q;replace J:=J.gr q;clear q
    go_wp2_with fail
    go_roundw
    case rel=>
     refine⟨j+1,(n:Int),(A 3 0).1,(A 3 1).1,(A 3 0).2,(A 3 1).2,rfl,by go_num,fun _=>hlt,.inr ⟨by omega,rfl⟩,?_⟩;rw[aS];exact⟨gr_setNew G (by have:=GW.out;omega),X.other (by have:=GW.out;omega),fun j=>Sl.set (W j) (by rw[HT];exact ptA_no _ _ _ _ _ _ _),c8.other (by have:=GW.out;omega),Sl.set U (by rw[HT];exact ptA_no _ _ _ _ _ _ _),Sl.set V (by rw[HT];exact ptA_no _ _ _ _ _ _ _),c7.other (by have:=GW.out;omega),B.set (by rw[ptA_size];decide) _,Sl.set aj (by rw[HT];exact ptA_no _ _ _ _ _ _ _),Sl.set ak (by rw[HT];exact ptA_no _ _ _ _ _ _ _)⟩
    case measure=>simp[intOf];omega
   ·skip
    go_upto_region 14 with fail
    go_upto_region 15 with (go_at_call 27;refine(new_any _).mono ?_;rintro e w' ⟨rfl,rfl⟩)
    refine gen_w (fun v=>Gr wr v∧Tr v (wr.heap.size) (.slice none 0 0) []) ⟨grA,Tr.new _⟩ ?_;rintro vr ⟨I,J⟩;refine wp_x true [.c (pv (wr.heap.size) 0),.c (pv e9 0),.c (.int .i64 k),.c (.int .u64 j),.c (.agg (nw 9 j)),.c (.agg (pnQ P)),.c (.tuple #[.agg (pnQ Q),.int .i64 0]),.c (.tuple #[.agg (pnQ Q),.int .i64 0]),.c (.agg (pnQ Q)),.c (.int .i64 0),.vt vr.heap.size (pnt 0 0 false) 35,.u,.c (.int .i64 0)] [2,4,5,10] 6 11 (fun v u=>Kp (fun b=>b<vr.heap.size) v u) (MrI vr (wr.heap.size) (evN k)) (fun x v=>Kp (fun b=>b=wr.heap.size) vr v∧∃z,Tr v (wr.heap.size) z (evN k)∧Vr v (x 10 0).2 (pnQ Q)) 30 (fun _ =>#[.pointer (some ⟨wr.heap.size,0,none⟩),.int .i64 k,.agg (nw 9 j),.agg (pnQ P)]) 35 (fun x=>pv (x 10 0).2 0) (fun _=>.agg (pnQ Q)) (MrI.start J) (fun _ _ _ h g=>h.gr g) ?xo9 ?xm9 ?xs9 ⟨fnc,fnc,fnc,fnc,fnc,fnc,fnc,fnc,fnc,fnc,fnvt,fnu,fnc,trivial⟩ ?xf9
    case xo9=>
     rintro _ v HI;have aq:=HI.g I (Nat.le_refl _);refine .cons (.o 3 0 (X.gr aq) rfl rfl) ?_;refine .cons (.z (one_any _ bj)) ?_;refine .cons (.g 35 0 (c7.gr aq) rfl) ?_;exact .cons (.n 35 rfl HI.k.size) .nil
    case xm9=>exact fun _ _ HI _=>HI.mul J.lt fun hT=>mulR h1 h2 (P:=P) oP (d:=j) jN (Q:=Q) hQ hT
    case xs9=>
     rintro x v HI hy;obtain⟨hN,hh⟩:=hy 10 (by kernel_rfl);have HT:=(vr_vt hh).h;have FT:=(vr_vt hh).f;exact⟨setBlk v _ (pnQ Q),by simp[go_sem,exI,HT,FT],HI.set J.lt hN hh (by rw[pnt_size];decide) (by decide) _⟩
    rintro aT aU ⟨ar,bd,ai,ae⟩;simp only[fzw,Kw.vt];replace I:=gr_kp I ar (fun b hb e=>by have e:b=wr.heap.size:=e;omega);replace J:=ai;clear ai ar
    go_upto_region 16 with fail
    refine wp_w [.O,.O,.F,.F,.c (.agg (pnQ Q)),.c (.agg (ptA p1 (Q.1) n3 p2 (Q.2.1) n4 Q.2.2)),.c (.agg (pnQ Q)),.F,.F,.F,.c (.int .i64 n),.T,.T,.c (pv (wr.heap.size) 0),.c (.int .i64 n),.c (.int .i64 n),.F,.F,.F] [1,4,5,6,7,11,14,16] ⟨.y (num_any _),.g 35 0 ae rfl,.g 38 0 (B.gr I) rfl,.k (fun C =>#[.agg (ptA p1 (Q.1) n3 p2 (Q.2.1) n4 Q.2.2)]) fun C vv q hh=>RtW.of_c (Rt.c (rout_any _ _ _ _ _ _ _ _ (L.gr (I.trans q)) (S.gr (I.trans q)))),.s (.binOp .neq 35 (.const (.agg (pnQ Q))) (.const (.agg (pnQ Q))) 35) rfl fun vv q=>by simp[go_sem,exI,nePn,eqN_self],.s (.binOp .geq 3 (.const (.int .i64 n)) (.const (.int .i64 0)) 3) rfl fun vv q=>by simp[go_sem,exI,n0],.k _ fun C vv q hh=>RtW.of_c (Rt.same (lenT (J.gr q) hn)),.s (.binOp .neq 3 (.const (.int .i64 n)) (.const (.int .i64 n)) 3) rfl fun vv q=>by simp[go_sem,exI],⟨⟩⟩ fun aV v4 q aD=>?_;simp only[fzw];clear aD;replace I:=I.trans q;have Y:=q;clear q
    go_upto_region 18 with fail
    refine wp_wS [.c (pv (wr.heap.size) 0),.c (.int .i64 n),.c (.int .i64 n)] [1] ⟨.k _ fun C vv q hh=>RtW.of_c (Rt.same (lenT (J.gr (Y.trans q)) hn)),⟨⟩⟩ fun aW v5 q aE=>?_;simp only[fzw];clear aE;replace Y:=Y.trans q;replace I:=I.trans q;clear q;replace G:=G.trans I;replace X:=X.gr I;replace c7:=c7.gr I;replace c8:=c8.gr I;replace B:=B.gr I;replace W:=fun k=>(W k).gr I;replace U:=U.gr I;replace V:=V.gr I;replace L:=L.gr I;replace S:=S.gr I;replace ae:=ae.gr Y;replace J:=J.gr Y;clear Y I
    go_upto_region 19 with fail
    refine wp_wTS 4 [.c (.agg (crA (k:Int) (nN k) qc)),.c (.agg (ptA p1 (Q.1) n3 p2 (Q.2.1) n4 Q.2.2)),.c (.agg (ptA ag (P.1) ao ah (P.2.1) ap P.2.2)),.pt (Q2.1) (Q2.2.1) Q2.2.2] [0,1,2,3] ⟨.g 27 0 X rfl,.g 38 0 B rfl,.g 38 0 c8 rfl,.k (fun C =>#[.agg (crA (k:Int) (nN k) qc),.agg (ptA p1 (Q.1) n3 p2 (Q.2.1) n4 Q.2.2),.agg (ptA ag (P.1) ao ah (P.2.1) ap P.2.2)]) fun C vv q hh=>RtW.of_pt (aC▸rplusQ k h1 h2 qc oQ oP (fun j=>(W j).gr q) (L.gr q) (S.gr q) (U.gr q) (V.gr q)),⟨⟩⟩ (.s 38 (fun C=>pv aa 0) (fun C=>.agg (ptA (C 3 0).1 (Q2.1) (C 3 0).2 (C 3 1).1 (Q2.2.1) (C 3 1).2 Q2.2.2)) fun A v6 q au=>?_);have HT:=(B.gr q).h;have FT:=(B.gr q).f;refine⟨setBlk v6 (aa) (ptA (A 3 0).1 (Q2.1) (A 3 0).2 (A 3 1).1 (Q2.2.1) (A 3 1).2 Q2.2.2),by simp[go_sem,exI,HT,FT],?_⟩;simp only[fzw];obtain⟨aj,ak⟩:Sl v6 (A 3 0).1 (Q2.1)∧Sl v6 (A 3 1).1 (Q2.2.1):=au 3;clear au;replace G:=G.trans q;replace X:=X.gr q;replace c7:=c7.gr q;replace c8:=c8.gr q;replace B:=B.gr q;replace ae:=ae.gr q;replace W:=fun k=>(W k).gr q;replace U:=U.gr q;replace V:=V.gr q;replace L:=L.gr q;replace S:=S.gr q;replace J:=J.gr q;clear q
    go_wp2_with fail
    go_roundw
    case rel=>
     refine⟨j+1,(n:Int),(A 3 0).1,(A 3 1).1,(A 3 0).2,(A 3 1).2,rfl,by go_num,fun _=>hlt,.inr ⟨by omega,rfl⟩,?_⟩;rw[aS];exact⟨gr_setNew G (by have:=GW.out;omega),X.other (by have:=GW.out;omega),fun j=>Sl.set (W j) (by rw[HT];exact ptA_no _ _ _ _ _ _ _),c8.other (by have:=GW.out;omega),Sl.set U (by rw[HT];exact ptA_no _ _ _ _ _ _ _),Sl.set V (by rw[HT];exact ptA_no _ _ _ _ _ _ _),c7.other (by have:=GW.out;omega),B.set (by rw[ptA_size];decide) _,Sl.set aj (by rw[HT];exact ptA_no _ _ _ _ _ _ _),Sl.set ak (by rw[HT];exact ptA_no _ _ _ _ _ _ _)⟩
    case measure=>simp[intOf];omega
  ·have j1:¬(j:Int)<m:=by omega
   have hj:j=m:=by have:=HJ.out ();omega
   obtain rfl:z=(n:Int):=by omega
   rw[hj,a8]at HV;obtain⟨G,X,W,c8,U,V,c7,B,L,S⟩:=HV.out;replace B:Vr wr aa (ptA p1 0 n3 p2 0 n4 true):=B;replace L:Sl wr p1 0:=L;replace S:Sl wr p2 0:=S;clear HV HJ hlt
   go_upto_region 20 with fail
   refine wp_wS [.c (pv aa 2),.T,.T,.c (.int .i64 n),.T,.T,.T] [1,4] ⟨.o 4 2 B rfl rfl,.s (.binOp .gtr 3 (.const (.int .i64 n)) (.const (.int .i64 0)) 3) rfl fun vv q=>by simp[go_sem,exI,a9],⟨⟩⟩ fun bh v4 q be=>?_;simp only[fzw];clear be;replace G:=G.trans q;replace X:=X.gr q;replace c7:=c7.gr q;replace c8:=c8.gr q;replace B:=B.gr q;replace W:=fun k=>(W k).gr q;replace U:=U.gr q;replace V:=V.gr q;replace L:=L.gr q;replace S:=S.gr q;clear q
   go_wp2_with fail
   go_ret
   exact⟨rfl,G⟩
end
end
end Go.Proofs.YtffhepbppiocbacGreat