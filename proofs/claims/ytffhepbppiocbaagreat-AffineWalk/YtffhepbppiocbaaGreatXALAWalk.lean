import Derived.Test.YtffhepbppiocbaaGreatXAAS
import Derived.Test.YtffhepbppiocbaaGreatXAAV
import Derived.Test.YtffhepbppiocbaaGreatXACT
namespace Go.Proofs.YtffhepbppiocbaaGreat
open Go.RowKit Go.Proofs.Tryz
set_option maxRecDepth 100000
set_option maxHeartbeats 8000000
section
attribute [local go_sem ↓] uz1
attribute [local go_sem] uz2
section
attribute [local go_sem] uz7
attribute [local go_sem ↓] uz12 Go.wp_at_zero Go.wp_at_succ
attribute [local go_sem] uz13
attribute [local go_sem ↓] mkB_is
attribute [local go_sem] mkB_run eqPn eqN_self setCell_setBlk
theorem lawalk_any(id:Int)(w:World):Cg 5 #[.int .i64 id] w (.bool true):=by
 obtain⟨u,hu,au,hk⟩:=idxT_conv id;have Q:=idxT_bd id;obtain⟨k,ag⟩:=exl (idxT id);rw[ag]at hk Q;obtain⟨I,C⟩:=Q
 have H:1≤k:=by omega
 have u0:(0:Int)≤u:=by omega
 have av:(13:Int)+u%3=k:=by omega
 have aw:IntKind.i64.wrap ((u:Int)%3)=(u:Int)%3:=by rw[IntKind.wrap_i64];omega
 have ax:IntKind.u64.wrap ((u:Int)%3)=(u:Int)%3:=by rw[IntKind.wrap_u64];omega
 have ay:(u:Int).tmod 3=(u:Int)%3:=by rw[Int.tmod_eq_emod_of_nonneg (by omega)]
 have k0:(1:Int)≤k:=by omega
 have k1:(k:Int)≤15:=by omega
 have az:id%18446744073709551616=(u:Int):=by rw[←hu,IntKind.wrap_u64]
 clear ag hk;have HG:Hid (∀w,Cg 22 #[.int .i64 k] w (.tuple #[.agg (cuK k),.int .i64 0])):=fun w=>get13_yes k H C w;have ah:Hid (∀w,Cg 13 #[] w (.bool true)):=fun w=>awake14_any w;obtain⟨N,hN⟩:=exl (oN k);have ai:=tinyP k I C;rw[hN]at ai
 have aj:(cuK k)[28]? = some (.int .u64 N):=by rw[cu_28,hN,wd_small _ (by omega)]
 have N1:(200:Int)≤N:=by omega
 have N2:(N:Int)≤255:=by omega
 have V:Hu (oN k=N):=fun _=>hN;have ak:Hu ((cuK k)[28]? = some (.int .u64 N)):=fun _=>aj
 have N3:¬(N:Int) > 255:=by omega
 have N4:¬(N:Int)<2:=by omega
 clear hN aj ai
 go_enter func5,ntmps5
 go_upto_region 5 with (first
  | (go_at_call 13;refine(ah.out _).mono ?_;rintro e WA ⟨rfl,GA⟩)
  | (go_at_call 22;refine(HG.out _).mono ?_;rintro e WB ⟨rfl,GB⟩))
 obtain⟨W,X⟩:=exl (WB.heap.size);simp only[X]
 refine gen_w (fun v=>Gr w v∧Vr v W (cuK k)∧w.heap.size≤W) ?_ ?_
 ·subst X;exact⟨(GA.trans GB).alloc _,Vr.new _ _ _,(GA.trans GB).below.size⟩
 clear X GA GB ah HG hu au av aw ax ay az u0 k0 k1;rintro S ⟨G,A,X⟩
 have aA:S.cell? ⟨W,28,none⟩=some (.int .u64 N):=by rw[A.cell];exact ak.out ()
 have⟨aB,aC,aD⟩:=A
 go_upto_region 10 with (go_at_call 12;refine(num_any _ _).mono ?_;rintro e w' ⟨rfl,hw⟩;replace hw:=hw.symm;subst hw)
 clear aA ak aB aC aD;obtain⟨J,ae⟩:=exl (S.heap.size);simp only[ae]
 refine gen_w (fun wr=>Hid (Gr w wr∧Vr wr W (cuK k)∧Vr wr J (pnt (xN k) (yN k) false)∧Vr wr (J+1) (blN 65536))) ?_ ?_
 ·subst ae;have g1:Gr S (S.alloc (.cells (pnt (xN k) (yN k) false) 27)):=(Gr.refl _).alloc _;have g2:Gr (S.alloc (.cells (pnt (xN k) (yN k) false) 27)) ((S.alloc (.cells (pnt (xN k) (yN k) false) 27)).alloc (.cells (blN 65536) 4)):=(Gr.refl _).alloc _;have hn:=Vr.new (S.alloc (.cells (pnt (xN k) (yN k) false) 27)) (blN 65536) 4;rw[show (S.alloc (.cells (pnt (xN k) (yN k) false) 27)).heap.size=S.heap.size+1 by simp]at hn;exact⟨(G.trans g1).trans g2,(A.gr g1).gr g2,(Vr.new S _ _).gr g2,hn⟩
 have bd:W<J:=by have:W+1≤S.heap.size:=A.p;omega
 clear G A ae;intro v1 HV;obtain⟨U,aE⟩:=exl (J+1);rw[aE]at HV ⊢
 go_wp2_with fail
 go_loopw [9] (fun ia wr=>∃i:Nat,ia=.int .i64 i∧Hu (1≤i∧i≤N)∧Hid (Gr w wr∧Vr wr W (cuK k)∧Vr wr J (pnt (mlQ k i (gQ k)).1 (mlQ k i (gQ k)).2.1 (mlQ k i (gQ k)).2.2)∧∃c f,Vr wr U c∧Bs c f∧∀a,f a=true→∃j,1≤j∧j<i∧atQ (mlQ k j (gQ k))=a)) (fun ia _=>((N:Int)-intOf ia).toNat)
 case atStart=>
  refine⟨1,rfl,fun _=>⟨Nat.le_refl _,by omega⟩,?_⟩;rw[mlQ_one H C (gQ_on H C)];obtain⟨a1,a2,a3,a4⟩:=HV.out;exact⟨a1,a2,a3,(blN 65536),_,a4,blN_Bs,fun a h=>by cases h⟩
 case round=>
  clear HV;obtain⟨i,rfl,HI,HR⟩:=hrel
  have i0:(0:Int)≤i:=by omega
  by_cases hlt:i<N
  ·have i1:(i:Int)<N:=by omega
   have ao:1≤i:=(HI.out ()).1;obtain⟨P,hP⟩:=exl (mlQ k i (gQ k));have oP:OnQ k P:=hP▸mlQ_on H C _ (gQ_on H C);have fP:P.2.2=false:=hP▸walk_ne I C i ao (by rw[V.out ()];omega);rw[hP]at HR;obtain⟨G,A,q,c,f,D,hB,hf⟩:=HR.out;have Q:=fin_bd I C oP
   have Y:∀j,1≤j→j<i→atQ (mlQ k j (gQ k))≠atQ P:=fun j aG aH e=>by
    have e2:=atQ_inj I C (mlQ_on H C j (gQ_on H C)) oP (walk_ne I C j aG (by rw[V.out ()];omega)) fP e;rw[←hP]at e2;exact walk_inj I C j i aH (by rw[V.out ()];omega) e2
   obtain⟨R,hR⟩:=exl (mlQ k (i+1) (gQ k))
   have aI:plQ k P (gQ k)=R:=by rw[←hR,mlQ_add H C _ _ (gQ_on H C),hP,mlQ_one H C (gQ_on H C)]
   obtain⟨K,L,pf⟩:=P;obtain rfl:pf=false:=fP;simp only[atQ]at Q Y;obtain⟨l,Z⟩:=exl (K*256+L);rw[Z]at Y
   have af:f l=false:=by
    cases hc:f l with
    | false=>rfl
    | true=>
     obtain⟨j,a1,a2,a3⟩:=hf _ hc;exact absurd a3 (Y j a1 a2)
   have aJ:Hid (∀w,Cg 23 #[.int .i64 k,.agg (pnt K L false)] w (.bool true)):=fun w=>onQ_yes H C oP w;have aK:Hid (∀w,Cg 10 #[.int .i64 k,.agg (pnt K L false),.agg (pnt (xN k) (yN k) false)] w (.tuple #[.agg (pnQ R),.int .i64 0])):=fun w=>addQ H C oP (gQ_on H C) aI w
   have aL:wr.cell? ⟨J,0,none⟩=some (.int .u64 K):=by rw[q.cell,show (pnt K L false)[0]? = some (.int .u64 ((wd K 0:Nat):Int)) by kernel_rfl,wd_small _ (by omega)]
   have aM:wr.cell? ⟨J,9,none⟩=some (.int .u64 L):=by rw[q.cell,show (pnt K L false)[9]? = some (.int .u64 ((wd L 0:Nat):Int)) by kernel_rfl,wd_small _ (by omega)]
   have k8:wr.cell? ⟨U,l,none⟩=some (.bool false):=by rw[D.cell,hB.2 _ (by omega),af]
   have aO:(0:Int)≤K:=by omega
   have aP:(K:Int)≤255:=by omega
   have aQ:(0:Int)≤L:=by omega
   have aR:(L:Int)≤255:=by omega
   have ap:(l:Int)<65536:=by omega
   have aa:(0:Int)≤l:=by omega
   have aS:Hu (c[l]? = some (.bool false)):=fun _=>by rw[hB.2 _ (by omega),af]
   have aT:Hid (∀a,(f a || decide (a=l))=true→∃j,1≤j∧j<i+1∧atQ (mlQ k j (gQ k))=a):=fun a ha=>by
    rw[Bool.or_eq_true]at ha
    rcases ha with ha|ha
    ·obtain⟨j,a1,a2,a3⟩:=hf a ha;exact⟨j,a1,by omega,a3⟩
    ·exact⟨i,ao,by omega,by rw[hP,of_decide_eq_true ha];unfold atQ;exact Z⟩
   clear HR HI hf Y hP oP Q k8 af
   go_upto_region 14 with fail
   have ab:=atW64 (x:=K) (y:=L) (a:=l) (by omega) (by omega) Z;simp only[ab];clear Z ab aL aM aO aP aQ aR;have aq:=aS.out ();refine wp_wS [.c (pv J 18),.F,.F,.c (.slice (some ⟨U,0,none⟩) 65536 65536),.c (.int .i64 l),.c (pv U l),.F,.F,.F,.c (.int .i64 k),.c (.agg (pnt K L false)),.T,.F,.F] [1,5,6,10,11] ⟨.o 4 18 q rfl (by exact pnt_18 _ _ _),.s (.indexAddr 57 (.const (.slice (some ⟨U,0,none⟩) 65536 65536)) (.const (.int .i64 l))) rfl fun vv d=>by simp[go_sem,exI,ap,aa],.o 4 l D rfl (by exact aq),.g 27 0 q rfl,.z aJ.out,⟨⟩⟩ fun a8 v1 d aU=>?_;simp only[fzw];clear aU;replace G:=G.trans d;replace A:=A.gr d;replace q:=q.gr d;replace D:=D.gr d;clear d
   go_upto_region 16 with fail
   refine wp_wTS 3 [.c (.slice (some ⟨U,0,none⟩) 65536 65536),.c (.int .i64 l),.c (pv U l)] [2] ⟨.s (.indexAddr 57 (.const (.slice (some ⟨U,0,none⟩) 65536 65536)) (.const (.int .i64 l))) rfl fun vv d=>by simp[go_sem,exI,ap,aa],⟨⟩⟩ (.s 4 (fun yy=>pv U l) (fun yy=>.bool true) fun a9 v2 d aV=>?_);have HT:=(D.gr d).h;have FT:=(D.gr d).f;refine⟨setBlk v2 (U) (c.setIfInBounds l (.bool true)),by simp[go_sem,exI,HT,cell_blk,aq,frz_at _ _ _ FT,setCell_setBlk],?_⟩;simp only[fzw];clear aV;replace G:=G.trans d;replace A:=A.gr d;replace q:=q.gr d;replace D:=D.gr d;clear d
   go_upto_region 17 with fail
   refine gen_w (fun u=>Gr w u∧Vr u W (cuK k)∧Vr u J (pnt K L false)∧Vr u U (c.setIfInBounds l (.bool true))) ⟨gr_setNew G (by omega),A.other (by omega),q.other (by omega),D.set (by rw[hB.1];decide) _⟩ ?_;clear G A q D HT FT;rintro u ⟨G,A,q,D⟩;refine wp_v false [.c (.int .i64 k),.c (.agg (pnt K L false)),.c (pv W 37),.c (.agg (pnt (xN k) (yN k) false)),.E (.agg (pnQ R)),.E (.agg (pnQ R)),.c (.agg (pnQ R)),.O,.a,.u,.O] [1,3,4] [⟨8,9,27,pnt 0 0 false,fun _=>pnQ R⟩] ⟨.g 27 0 q rfl,.g 27 37 A rfl,.z aK.out,⟨⟩⟩ ⟨.k zPnt (.t rfl),⟨⟩⟩ fun ac v3 d aW ar=>?_;simp only[fzw,Kw.a];obtain⟨⟨a0,B⟩,-⟩:(u.heap.size≤(ac 8 0).2∧Vr v3 (ac 8 0).2 (pnQ R))∧True:=ar;clear aW;replace G:=G.trans d;replace A:=A.gr d;replace q:=q.gr d;replace D:=D.gr d;clear d
   go_upto_region 18 with fail
   refine wp_wS [.O,.O,.F] [1] ⟨.y (num_any _),⟨⟩⟩ fun ba v4 d a5=>?_;simp only[fzw];clear a5;replace G:=G.trans d;replace A:=A.gr d;replace q:=q.gr d;replace D:=D.gr d;replace B:=B.gr d;clear d
   go_upto_region 20 with fail
   refine wp_wTS 1 [.c (.agg (pnQ R))] [0] ⟨.g 27 0 B rfl,⟨⟩⟩ (.s 27 (fun yy=>pv J 0) (fun yy=>.agg (pnQ R)) fun bb v5 d a6=>?_);have HT:=(q.gr d).h;have FT:=(q.gr d).f;refine⟨setBlk v5 (J) (pnQ R),by simp[go_sem,exI,HT,FT],?_⟩;simp only[fzw];clear a6;replace G:=G.trans d;replace A:=A.gr d;replace q:=q.gr d;replace D:=D.gr d;replace B:=B.gr d;clear d
   go_wp2_with fail
   go_roundw
   case rel=>
    refine⟨i+1,by go_num,fun _=>⟨by omega,hlt⟩,?_⟩;rw[hR];exact⟨gr_setNew G (by omega),A.other (by omega),q.set (by rw[pnt_size];decide) _,_,_,D.other (by omega),hB.set l,aT.out⟩
   case measure=>simp[intOf];omega
  ·have hi:i=N:=by have:=HI.out ();omega
   have i1:¬(i:Int)<N:=by omega
   rw[hi,←V.out (),mlQ_N H C]at HR;obtain⟨G,A,q,-⟩:=HR.out;replace q:Vr wr J (pnt 0 0 true):=q;clear HR HI hi hlt
   go_upto_region 21 with fail
   refine wp_wS [.c (pv J 18),.T,.T,.c (.agg (pnt 0 0 true)),.c (.agg (pnt 0 0 true)),.T,.T,.T] [1,3,5] ⟨.o 4 18 q rfl (by exact pnt_18 _ _ _),.g 27 0 q rfl,.s (.binOp .eql 27 (.const (.agg (pnt 0 0 true))) (.const (.agg (pnt 0 0 true))) 27) rfl fun vv d=>by simp[go_sem,exI,eqPn,eqN_self],⟨⟩⟩ fun bc v1 d a7=>?_;simp only[fzw];clear a7;replace G:=G.trans d;replace A:=A.gr d;replace q:=q.gr d;clear d
   go_wp2_with fail
   go_ret
   exact⟨rfl,G⟩
end
end
end Go.Proofs.YtffhepbppiocbaaGreat