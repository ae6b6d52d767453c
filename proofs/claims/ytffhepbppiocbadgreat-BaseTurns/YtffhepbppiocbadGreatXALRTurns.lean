import Derived.Test.YtffhepbppiocbadGreatXAQK
import Derived.Test.YtffhepbppiocbadGreatXAAV
import Derived.Test.YtffhepbppiocbadGreatXACT
namespace Go.Proofs.YtffhepbppiocbadGreat
open Go.RowKit Go.Proofs.Tryz
set_option maxRecDepth 100000
set_option maxHeartbeats 8000000
section
attribute [local go_sem ↓] uz1
attribute [local go_sem] uz2
section
attribute [local go_sem] uz8
attribute [local go_sem ↓] uz17 Go.wp_at_zero Go.wp_at_succ
attribute [local go_sem] uz18
attribute [local go_sem ↓] mkB_is
attribute [local go_sem] mkB_run eqPn eqN_self setCell_setBlk
theorem Bs.no32{c:Array Value}{f:Nat→Bool}(h:Bs c f)(i:Nat)(n:Int):c[i]? ≠ some (Value.int .u32 n):=fun e=>by
 have d:=(Array.getElem?_eq_some_iff.1 e).1;rw[h.1]at d;rw[h.2 i d]at e
 cases e
theorem lrturns_any(id:Int)(a:Nat)(la:a<M)(which:Int)(w:World):Cg 3 #[.int .i64 id,.agg (nw 9 a),.int .i64 which] w (.bool true):=by
 obtain⟨u,hu,ay,hk⟩:=idx_conv id;have Z:=idx_bd id;obtain⟨k,af⟩:=exl (idx id);rw[af]at hk Z;obtain⟨h1,I⟩:=Z
 have u0:(0:Int)≤u:=by omega
 have az:(1:Int)+u%15=k:=by omega
 have aA:IntKind.i64.wrap ((u:Int)%15)=(u:Int)%15:=by rw[IntKind.wrap_i64];omega
 have aB:IntKind.u64.wrap ((u:Int)%15)=(u:Int)%15:=by rw[IntKind.wrap_u64];omega
 have aC:(u:Int).tmod 15=(u:Int)%15:=by rw[Int.tmod_eq_emod_of_nonneg (by omega)]
 have k0:(1:Int)≤k:=by omega
 have k1:(k:Int)≤15:=by omega
 have aD:id%18446744073709551616=(u:Int):=by rw[←hu,IntKind.wrap_u64]
 clear af hk;have ag:Hid (∀w,Calls prog 10 #[.int .i64 k] w (GetQ k w)):=fun w=>getq_yes k h1 I w;have aK:Hid (∀w,Cg 9 #[] w (.bool true)):=fun w=>awake19_any w
 go_enter func3,ntmps3
 go_upto_region 1 with fail
 refine gen_w (fun v=>Hid (Gr w v∧Vr v (w.heap.size) (nw 9 a))) ⟨grA,vrA⟩ ?_;intro u0 HV
 go_upto_region 6 with (first
  | (go_at_call 9;refine(aK.out _).mono ?_;rintro e WA ⟨rfl,GA⟩)
  | (go_at_call 10;refine(ag.out _).mono ?_;rintro e WB ⟨K,rfl,L,GB⟩))
 obtain⟨e9,aE⟩:=exl (WB.heap.size);simp only[aE]
 refine gen_w (fun v=>Gr w v∧Vr v e9 (crA (k:Int) (nN k) K)∧(∀j,Sl v (K j).1 (nN k j))∧Vr v (w.heap.size) (nw 9 a)) ?_ ?_
 ·subst aE;have g1:Gr WB (WB.alloc (.cells (crA (k:Int) (nN k) K) 30)):=(Gr.refl _).alloc _;obtain⟨G,c0⟩:=HV.out;have g2:=(GA.trans GB).trans g1;exact⟨G.trans g2,Vr.new _ _ _,fun j=>(L j).gr g1,c0.gr g2⟩
 clear aE GA GB L aK ag hu ay az aA aB aC aD u0 k0 k1 HV;rintro v0 ⟨G,c9,L,c0⟩;have bc:=oN_g3 k h1 I;obtain⟨m1,aL⟩:=exl (oN k-1)
 have aM:dl a≤1000:=by have:=dl_M a la;omega
 have aG:dl (oN k)≤400:=by have:=oN_dl k;omega
 have aO:dl m1≤1000:=by have:=dl_M m1 (by have:=oN_bd k;omega);omega
 have aH:0<m1:=by omega
 obtain⟨x,dx⟩:=exl (a%m1);have qx:x<m1:=dx▸Nat.mod_lt _ aH
 have bd:dl x≤400:=by have:=dl_M x (by have:=oN_bd k;omega);omega
 obtain⟨x1,aP⟩:=exl (x+1)
 have q1:x1<oN k:=by omega
 have ah:∀w,(bslS 28 1 #[(0,.int .u32 1)]).run prog w=.ok (.slice (some ⟨w.heap.size,0,none⟩) 1 1) (w.alloc (.cells (nd 1 1) 36)):=fun w=>build1 1 (by decide) w;obtain⟨A,hA⟩:=exl (mlQ k x1 (gQ k));have oA:OnQ k A:=hA▸mlQ_on h1 I _ (gQ_on h1 I);obtain⟨y,hy⟩:=exl (oN k-x1)
 have qy:y<oN k:=by omega
 obtain⟨B,hB⟩:=exl (mlQ k y (gQ k))
 have aQ:ngQ k A=B:=by rw[←hA,←hB];exact ml_turn h1 I (by omega)
 refine wp_w [.N a,.n (a),.c (pv e9 4),.c (.slice (K 3).1 (dl (oN k)) (K 3).2),.n (1),.n (m1),.n (x),.n (1),.n (x1),.n (x1)] [0,1,3,4,5,6,7,8,9] ⟨.g 25 0 c0 rfl,.k _ fun D vv q hh=>RtW.of_n (fm_any la),.o 28 4 c9 rfl rfl,.b (.buildSlice 28 1 #[(0,.const (.int .u32 1))]) rfl rfl (fun vv=>by simp[go_sem,exI,ah];rfl) (sl_lit 1 (by decide)),.k (fun D =>#[.slice (K 3).1 (dl (oN k)) (K 3).2,.slice (D 4 0).1 (dl (1)) (D 4 0).2]) fun D vv q hh=>RtW.of_n (sb_any ((L 3).gr q) (hh 4 rfl) aG (by omega) aL),.k (fun D =>#[.slice (D 1 0).1 (dl (a)) (D 1 0).2,.slice (D 5 0).1 (dl (m1)) (D 5 0).2]) fun D vv q hh=>RtW.of_n (Rt.n (dx▸rmod_any a m1 _ _ _ _ _ (hh 1 rfl) (hh 5 rfl) aM aO aH)),.b (.buildSlice 28 1 #[(0,.const (.int .u32 1))]) rfl rfl (fun vv=>by simp[go_sem,exI,ah];rfl) (sl_lit 1 (by decide)),.k (fun D =>#[.slice (D 6 0).1 (dl (x)) (D 6 0).2,.slice (D 7 0).1 (dl (1)) (D 7 0).2]) fun D vv q hh=>RtW.of_n (Rt.n (aP▸radd_any x 1 _ _ _ _ _ (hh 6 rfl) (hh 7 rfl) (by omega) (by decide))),.m 8,⟨⟩⟩ fun V v1 q h6=>?_;simp only[fzw];have aa:Sl v1 (V 9 0).1 (x1):=h6 9;clear h6;have Y:=q;clear q
 go_upto_region 7 with fail
 refine wp_v true [.c (pv e9 0),.c (.int .i64 k),.c (.slice (V 9 0).1 (dl (x1)) (V 9 0).2),.N x1,.E (.agg (pnQ A)),.E (.agg (pnQ A)),.c (.agg (pnQ A)),.O,.a,.u,.O] [1,3,4] [⟨8,9,38,pnt 0 0 false,fun _=>pnQ A⟩] ⟨.o 3 0 (c9.gr Y) rfl rfl,.k (fun D =>#[.slice (V 9 0).1 (dl (x1)) (V 9 0).2]) fun D vv q hh=>RtW.of_c (nt_any (aa.gr q)),.z (bulM h1 I (d:=x1) q1 (Q:=A) hA),⟨⟩⟩ ⟨.k zPnt (.t rfl),⟨⟩⟩ fun aR v2 q h7 be=>?_;simp only[fzw,Kw.a];obtain⟨⟨bG,ac⟩,-⟩:(v1.heap.size≤(aR 8 0).2∧Vr v2 (aR 8 0).2 (pnQ A))∧True:=be;clear h7;replace Y:=Y.trans q;have g7:=q;clear q
 go_upto_region 8 with fail
 refine wp_v true [.c (pv e9 0),.c (.int .i64 k),.c (pv e9 4),.c (.slice (K 3).1 (dl (oN k)) (K 3).2),.c (.slice (V 9 0).1 (dl (x1)) (V 9 0).2),.n (y),.N y,.E (.agg (pnQ B)),.E (.agg (pnQ B)),.c (.agg (pnQ B)),.O,.a,.u,.O] [1,3,5,6,7] [⟨11,12,38,pnt 0 0 false,fun _=>pnQ B⟩] ⟨.o 3 0 (c9.gr Y) rfl rfl,.o 28 4 (c9.gr Y) rfl rfl,.k (fun D =>#[.slice (K 3).1 (dl (oN k)) (K 3).2,.slice (V 9 0).1 (dl (x1)) (V 9 0).2]) fun D vv q hh=>RtW.of_n (sb_any ((L 3).gr (Y.trans q)) (aa.gr (g7.trans q)) aG (by omega) hy),.k (fun D =>#[.slice (D 5 0).1 (dl (y)) (D 5 0).2]) fun D vv q hh=>RtW.of_c (nt_any (hh 5 rfl)),.z (bulM h1 I (d:=y) qy (Q:=B) hB),⟨⟩⟩ ⟨.k zPnt ⟨fkc,fkc,fkc,fkc,fkc,fkn bPnt,fkc,fkc,fkc,fkc,fkc,fka,fku,fkc,trivial⟩,⟨⟩⟩ fun aS v3 q h8 bf=>?_;simp only[fzw,Kw.a];obtain⟨⟨bg,W⟩,-⟩:(v2.heap.size≤(aS 11 0).2∧Vr v3 (aS 11 0).2 (pnQ B))∧True:=bf;clear h8;replace Y:=Y.trans q;replace g7:=g7.trans q;have g8:=q;clear q
 go_upto_region 9 with fail
 refine wp_v false [.c (pv e9 0),.c (.int .i64 k),.c (.agg (pnQ A)),.E (.agg (pnQ B)),.E (.agg (pnQ B)),.c (.agg (pnQ B)),.O,.a,.u,.O] [1,2,3] [⟨7,8,38,pnt 0 0 false,fun _=>pnQ B⟩] ⟨.o 3 0 (c9.gr Y) rfl rfl,.g 38 0 (ac.gr g8) rfl,.z (negQ h1 I (P:=A) (R:=B) oA aQ),⟨⟩⟩ ⟨.k zPnt (.t rfl),⟨⟩⟩ fun aT v4 q h9 bh=>?_;simp only[fzw,Kw.a];obtain⟨⟨bH,ae⟩,-⟩:(v3.heap.size≤(aT 7 0).2∧Vr v4 (aT 7 0).2 (pnQ B))∧True:=bh;clear h9;replace Y:=Y.trans q;replace g7:=g7.trans q;replace g8:=g8.trans q;have g9:=q;clear q
 go_upto_region 10 with fail
 refine wp_wS [.O,.O,.F,.F,.O,.O,.F,.F,.F,.O,.O,.F,.F,.F,.c (.agg (pnQ B)),.c (.agg (pnQ B)),.F,.F] [1,5,10,14,15,16] ⟨.y (num_any _),.y (num_any _),.y (num_any _),.g 38 0 ae rfl,.g 38 0 (W.gr g9) rfl,.s (.binOp .neq 38 (.const (.agg (pnQ B))) (.const (.agg (pnQ B))) 38) rfl fun vv q=>by simp[go_sem,exI,nePn,eqN_self],⟨⟩⟩ fun bI v5 q bj=>?_;simp only[fzw];clear bj;replace Y:=Y.trans q;replace g7:=g7.trans q;replace g8:=g8.trans q;replace g9:=g9.trans q;have aU:=q;clear q;replace G:=G.trans Y;replace c9:=c9.gr Y;replace c0:=c0.gr Y;replace L:=fun k=>(L k).gr Y;replace aa:=aa.gr g7;replace ac:=ac.gr g8;replace W:=W.gr g9;replace ae:=ae.gr aU;clear aU Y g7 g8 g9
 go_upto_region 12 with fail
 refine gen_w (fun v=>Gr w v) G ?_;clear c0 c9 L ac W ae aa G aQ hB hy qy oA hA q1 aP bd qx dx aH aO aG aM aL bc;intro y0 G;clear h1 I ah;obtain⟨u,hu,ay,hk⟩:=idxT_conv which;have Z:=idxT_bd which;obtain⟨k,af⟩:=exl (idxT which);rw[af]at hk Z;obtain⟨ab,I⟩:=Z
 have h1:1≤k:=by omega
 have u0:(0:Int)≤u:=by omega
 have az:(13:Int)+u%3=k:=by omega
 have aA:IntKind.i64.wrap ((u:Int)%3)=(u:Int)%3:=by rw[IntKind.wrap_i64];omega
 have aB:IntKind.u64.wrap ((u:Int)%3)=(u:Int)%3:=by rw[IntKind.wrap_u64];omega
 have aC:(u:Int).tmod 3=(u:Int)%3:=by rw[Int.tmod_eq_emod_of_nonneg (by omega)]
 have k0:(1:Int)≤k:=by omega
 have k1:(k:Int)≤15:=by omega
 have aD:which%18446744073709551616=(u:Int):=by rw[←hu,IntKind.wrap_u64]
 clear af hk;have ag:Hid (∀w,Calls prog 10 #[.int .i64 k] w (GetQ k w)):=fun w=>getq_yes k h1 I w
 go_upto_region 13 with (go_at_call 10;refine(ag.out _).mono ?_;rintro e WB ⟨K,rfl,L,GB⟩)
 obtain⟨S,ai⟩:=exl (WB.heap.size);simp only[ai]
 refine gen_w (fun v=>Hid (Gr w v∧Vr v S (crA (k:Int) (nN k) K)∧(∀j,Sl v (K j).1 (nN k j))∧w.heap.size≤S)) ?_ ?_
 ·subst ai;have g1:Gr WB (WB.alloc (.cells (crA (k:Int) (nN k) K) 30)):=(Gr.refl _).alloc _;exact⟨(G.trans GB).trans g1,Vr.new _ _ _,fun j=>(L j).gr g1,(G.trans GB).below.size⟩
 clear ai G GB L ag hu ay az aA aB aC aD u0 k0 k1;intro y1 aI;obtain⟨N,hN⟩:=exl (oN k);have aV:=tinyP k ab I;rw[hN]at aV;have au:dl (oN k)=1:=tiny_dl k ab I
 have aW:dg (oN k) 0=N:=by
  rw[hN,show dg N 0=N by unfold dg;rw[pq_zero,Nat.div_one];exact Nat.mod_eq_of_lt (by omega)]
 have N1:(200:Int)≤N:=by omega
 have N2:(N:Int)≤255:=by omega
 have aJ:Hu (oN k=N∧dl (oN k)=1∧dg (oN k) 0=N):=fun _=>⟨hN,au,aW⟩;clear hN aV au aW
 go_upto_region 14 with fail
 obtain⟨H,aj⟩:=exl (y1.heap.size);simp only[aj]
 refine gen_w (fun v=>Hid (S<H∧Gr w v∧Vr v S (crA (k:Int) (nN k) K)∧(∀j,Sl v (K j).1 (nN k j))∧∃c f,Vr v H c∧Bs c f∧∀a,f a=true→∃j,1≤j∧j<1∧atQ (mlQ k j (gQ k))=a)) ?_ ?_
 ·subst aj;obtain⟨G,J,L,hw⟩:=aI.out;have g1:Gr y1 (y1.alloc (.cells (blN 65536) 4)):=(Gr.refl _).alloc _;have bL:S+1≤y1.heap.size:=J.p;exact⟨by omega,G.trans g1,J.gr g1,fun j=>(L j).gr g1,(blN 65536),_,Vr.new _ _ _,blN_Bs,fun a h=>by cases h⟩
 have av:=aI.out.2.2.2;clear aI aj;intro y2 HV
 go_wp2_with fail
 go_loopw [19] (fun ia wr=>∃i:Nat,ia=.int .u64 i∧Hu (1≤i∧i≤N)∧Hid (Gr w wr∧Vr wr S (crA (k:Int) (nN k) K)∧(∀j,Sl wr (K j).1 (nN k j))∧∃c f,Vr wr H c∧Bs c f∧∀a,f a=true→∃j,1≤j∧j<i∧atQ (mlQ k j (gQ k))=a)) (fun ia _=>((N:Int)-intOf ia).toNat)
 case atStart=>
  obtain⟨-,a1,a2,a3,c,f,a4,a5,a6⟩:=HV.out;exact⟨1,rfl,fun _=>⟨Nat.le_refl _,by omega⟩,a1,a2,a3,c,f,a4,a5,a6⟩
 case round=>
  have GW:Hid (w.heap.size≤S∧S<H):=⟨av,HV.out.1⟩;clear HV av;obtain⟨i,rfl,HI,HR⟩:=hrel
  have i0:(0:Int)≤i:=by omega
  obtain⟨bp,aq,bk⟩:∃bp,(K 3).1=some ⟨bp,0,none⟩∧wr.cell? ⟨bp,0,none⟩=some (.int .u32 N):=by
   obtain⟨-,e1,e2⟩:=aJ.out ();obtain⟨bp,aq,-,bm⟩:=HR.out.2.2.1 3 0 (by show 0<dl (oN k);rw[e1];decide);refine⟨bp,aq,?_⟩;rw[cell_blk,bm]
   show some (Value.int .u32 ((dg (oN k) 0:Nat):Int))=_
   rw[e2]
  have k4:wr.cell? ⟨S,4,none⟩=some (.slice (some ⟨bp,0,none⟩) 1 (K 3).2):=by
   rw[HR.out.2.1.cell,←aq,←(aJ.out ()).2.1];rfl
  by_cases hlt:i<N
  ·have i1:(i:Int)<N:=by omega
   have a0:1≤i:=(HI.out ()).1
   have iN:i<oN k:=by rw[(aJ.out ()).1];exact hlt
   have bi:i<18446744073709551616:=by omega
   obtain⟨P,hP⟩:=exl (mlQ k i (gQ k));have oP:OnQ k P:=hP▸mlQ_on h1 I _ (gQ_on h1 I);have fP:P.2.2=false:=hP▸walk_ne ab I i a0 iN;obtain⟨G,J,L,c,f,U,hB,hf⟩:=HR.out;have Z:=fin_bd ab I oP
   have a7:∀j,1≤j→j<i→atQ (mlQ k j (gQ k))≠atQ P:=fun j bn bo e=>by
    have e2:=atQ_inj ab I (mlQ_on h1 I j (gQ_on h1 I)) oP (walk_ne ab I j bn (by omega)) fP e;rw[←hP]at e2;exact walk_inj ab I j i bo iN e2
   obtain⟨C,ak⟩:=exl (P.1*256+P.2.1)
   have a8:f C=false:=by
    cases hc:f C with
    | false=>rfl
    | true=>
     obtain⟨j,a1,a2,a3⟩:=hf _ hc;exact absurd (a3.trans ak.symm) (a7 j a1 a2)
   have bq:Hid (∀a,(f a || decide (a=C))=true→∃j,1≤j∧j<i+1∧atQ (mlQ k j (gQ k))=a):=fun a ha=>by
    rw[Bool.or_eq_true]at ha
    rcases ha with ha|ha
    ·obtain⟨j,a1,a2,a3⟩:=hf a ha;exact⟨j,a1,by omega,a3⟩
    ·exact⟨i,a0,by omega,by rw[hP,of_decide_eq_true ha];unfold atQ;exact ak⟩
   have br:∀(i:Nat) (n:Int),c[i]? ≠ some (Value.int .u32 n):=hB.no32;clear HR HI a7
   go_upto_region 17 with fail
   clear k4 bk aq;refine wp_v true [.c (pv S 0),.c (.int .i64 k),.c (.int .u64 i),.N i,.E (.agg (pnQ P)),.E (.agg (pnQ P)),.c (.agg (pnQ P)),.O,.a,.u,.O] [1,3,4] [⟨8,9,38,pnt 0 0 false,fun _=>pnQ P⟩] ⟨.o 3 0 J rfl rfl,.z (one_any _ bi),.z (bulM h1 I (d:=i) iN (Q:=P) hP),⟨⟩⟩ ⟨.k zPnt (.t rfl),⟨⟩⟩ fun ao v1 q bs a9=>?_;simp only[fzw,Kw.a];obtain⟨⟨bt,ap⟩,-⟩:(wr.heap.size≤(ao 8 0).2∧Vr v1 (ao 8 0).2 (pnQ P))∧True:=a9;clear bs;replace G:=G.trans q;replace J:=J.gr q;replace U:=U.gr q;replace L:=fun k=>(L k).gr q;clear q;clear hP oP;generalize (ao 8 0).2=ar at *;obtain⟨px,py,pf⟩:=P;obtain rfl:pf=false:=fP;have X:=ap;clear ap;simp only at ak Z;replace X:Vr v1 ar (pnt px py false):=X
   have bu:v1.cell? ⟨ar,0,none⟩=some (.int .u64 px):=by rw[X.cell,show (pnt px py false)[0]? = some (.int .u64 ((wd px 0:Nat):Int)) by kernel_rfl,wd_small _ (by omega)]
   have bv:v1.cell? ⟨ar,9,none⟩=some (.int .u64 py):=by rw[X.cell,show (pnt px py false)[9]? = some (.int .u64 ((wd py 0:Nat):Int)) by kernel_rfl,wd_small _ (by omega)]
   have bx:(0:Int)≤px:=by omega
   have bz:(px:Int)≤255:=by omega
   have bA:(0:Int)≤py:=by omega
   have bB:(py:Int)≤255:=by omega
   have ba:(C:Int)<65536:=by omega
   have aw:(0:Int)≤C:=by omega
   have bC:Hu (c[C]? = some (.bool false)):=fun _=>by rw[hB.2 _ (by omega),a8]
   clear hf Z a8
   go_upto_region 19 with fail
   have ax:=atW64 (x:=px) (y:=py) (a:=C) (by omega) (by omega) ak;simp only[ax];clear ak ax bu bv bx bz bA bB;have bb:=bC.out ();refine wp_wS [.O,.O,.F,.F,.c (pv ar 18),.F,.F,.F,.c (.slice (some ⟨H,0,none⟩) 65536 65536),.c (.int .i64 C),.c (pv H C),.F,.F] [1,5,10,11] ⟨.y (num_any _),.o 4 18 X rfl (by exact pnt_18 _ _ _),.s (.indexAddr 45 (.const (.slice (some ⟨H,0,none⟩) 65536 65536)) (.const (.int .i64 C))) rfl fun vv q=>by simp[go_sem,exI,ba,aw],.o 4 C U rfl (by exact bb),⟨⟩⟩ fun bJ v2 q bD=>?_;simp only[fzw];clear bD;replace G:=G.trans q;replace J:=J.gr q;replace U:=U.gr q;replace X:=X.gr q;replace L:=fun k=>(L k).gr q;clear q
   go_upto_region 21 with fail
   refine wp_wTS 3 [.c (.slice (some ⟨H,0,none⟩) 65536 65536),.c (.int .i64 C),.c (pv H C)] [2] ⟨.s (.indexAddr 45 (.const (.slice (some ⟨H,0,none⟩) 65536 65536)) (.const (.int .i64 C))) rfl fun vv q=>by simp[go_sem,exI,ba,aw],⟨⟩⟩ (.s 4 (fun D=>pv H C) (fun D=>.bool true) fun bK v3 q bE=>?_);have HT:=(U.gr q).h;have FT:=(U.gr q).f;refine⟨setBlk v3 (H) (c.setIfInBounds C (.bool true)),by simp[go_sem,exI,HT,cell_blk,bb,frz_at _ _ _ FT,setCell_setBlk],?_⟩;simp only[fzw];clear bE;replace G:=G.trans q;replace J:=J.gr q;replace U:=U.gr q;replace X:=X.gr q;replace L:=fun k=>(L k).gr q;clear q
   go_wp2_with fail
   go_roundw
   case rel=>
    refine⟨i+1,by go_num,fun _=>⟨by omega,hlt⟩,?_⟩;exact⟨gr_setNew G (by have:=GW.out;omega),J.other (by have:=GW.out;omega),fun j=>Sl.set (L j) (by rw[HT];exact br),_,_,U.set (by rw[hB.1];decide) _,hB.set C,bq.out⟩
   case measure=>simp[intOf];omega
  ·have hi:i=N:=by have:=HI.out ();omega
   have i1:¬(i:Int)<N:=by omega
   have G:=HR.out.1;clear HR HI hi hlt
   go_wp2_with fail
   go_ret
   exact⟨rfl,G⟩
end
end
end Go.Proofs.YtffhepbppiocbadGreat