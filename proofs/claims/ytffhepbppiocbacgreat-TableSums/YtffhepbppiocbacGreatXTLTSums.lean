import Derived.Test.YtffhepbppiocbacGreatXTUF
namespace Go.Proofs.YtffhepbppiocbacGreat
open Go.RowKit Go.Proofs.Tryz
set_option maxRecDepth 100000
set_option maxHeartbeats 8000000
section
attribute [local go_sem ↓] uz1
attribute [local go_sem] uz2
section
attribute [local go_sem] uz7
attribute [local go_sem ↓] uz12 Go.wp_at_zero Go.wp_at_succ
attribute [local go_sem] uz13
theorem and_7(x:Int):∃a:Nat,a<8∧bits .and .i64 x 7=(a:Int):=by
 refine⟨(BitVec.ofInt 64 x).toNat%8,Nat.mod_lt _ (by decide),?_⟩
 show IntKind.i64.wrap ((BitVec.ofInt 64 x&&&BitVec.ofInt 64 7).toNat:Int)=_
 rw[BitVec.toNat_and,show (BitVec.ofInt 64 7).toNat=2^3-1 from rfl,Nat.and_two_pow_sub_one_eq_mod,IntKind.wrap_i64]
 omega
theorem ltsums_any(id:Int)(n:Nat)(hn:n<18446744073709551616)(x y:Int)(w:World):Cg 3 #[.int .i64 id,.int .u64 n,.int .i64 x,.int .i64 y] w (.bool true):=by
 obtain⟨u,hu,az,hk⟩:=idx_conv id;have aj:=idx_bd id;obtain⟨k,ak⟩:=exl (idx id);rw[ak]at hk aj;obtain⟨K,L⟩:=aj
 have u0:(0:Int)≤u:=by omega
 have aA:(1:Int)+u%15=k:=by omega
 have aB:IntKind.i64.wrap ((u:Int)%15)=(u:Int)%15:=by rw[IntKind.wrap_i64];omega
 have aC:IntKind.u64.wrap ((u:Int)%15)=(u:Int)%15:=by rw[IntKind.wrap_u64];omega
 have aD:(u:Int).tmod 15=(u:Int)%15:=by rw[Int.tmod_eq_emod_of_nonneg (by omega)]
 have k0:(1:Int)≤k:=by omega
 have k1:(k:Int)≤15:=by omega
 have aE:id%18446744073709551616=(u:Int):=by rw[←hu,IntKind.wrap_u64]
 clear ak hk;have ao:Hid _:=getq_yes k K L;have ap:Hid _:=awake16_any
 go_enter func3,ntmps3
 go_upto_region 4 with (first
  | (go_at_call 15;refine(ap.out _).mono ?_;rintro e WA ⟨rfl,GA⟩)
  | (go_at_call 16;refine(ao.out _).mono ?_;rintro e WB ⟨qc,rfl,HQ,GB⟩))
 obtain⟨e9,ai⟩:=exl (WB.heap.size);simp only[ai]
 refine gen_w (fun v=>Gr w v∧Vr v e9 (crA (k:Int) (nN k) qc)∧∀j,Sl v (qc j).1 (nN k j)) ?_ ?_
 ·subst ai;exact⟨(GA.trans GB).alloc _,Vr.new _ _ _,fun j=>(HQ j).gr ((Gr.refl _).alloc _)⟩
 clear ai GA GB HQ ap ao hu az aA aB aC aD aE u0 k0 k1;rintro v0 ⟨G,c9,HQ⟩;obtain⟨a,la,e1⟩:=and_7 x;obtain⟨b,lb,e2⟩:=and_7 y
 have e4:IntKind.i64.wrap ((a:Int)+b)=(a:Int)+b:=by rw[IntKind.wrap_i64];omega
 have e3:((a+b:Nat):Int)=(a:Int)+b:=by omega
 obtain⟨P,hP⟩:=exl (mlQ k n (gQ k));have oP:OnQ k P:=hP▸mlQ_on K L _ (gQ_on K L);obtain⟨A,hA⟩:=exl (mlQ k a P);have oA:OnQ k A:=hA▸mlQ_on K L _ oP;obtain⟨B,hB⟩:=exl (mlQ k b P);have oB:OnQ k B:=hB▸mlQ_on K L _ oP;obtain⟨C,hC⟩:=exl (mlQ k (a+b) P)
 have aG:plQ k A B=C:=by rw[←hA,←hB,←hC,mlQ_add K L a b oP]
 have lA:a<16:=by omega
 have lB:b<16:=by omega
 have lC:a+b<16:=by omega
 have hM:n<M:=lt_M _ hn
 have hd:dl n≤400:=by have:=dl_M n hM;omega
 refine wp_v true [.c (.agg (crA (k:Int) (nN k) qc)),.c (.int .u64 n),.N n,.n (n),.c (.agg (crA (k:Int) (nN k) qc)),.pt (xN k) (yN k) false,.pt (P.1) (P.2.1) P.2.2,.c (.agg (pnQ P)),.a,.u] [0,2,3,4,5,6,7] [⟨8,9,35,pnt 0 0 false,fun _=>pnQ P⟩] ⟨.g 27 0 c9 rfl,.z (one_any _ hn),.k _ fun q Y d hh=>RtW.of_n (fm_any hM),.g 27 0 c9 rfl,.k _ fun q Y d hh=>RtW.of_pt (rg_any qc _ (fun j=>(HQ j).gr d)),.k (fun q =>#[.agg (crA (k:Int) (nN k) qc),.slice (q 3 0).1 (dl (n)) (q 3 0).2,.agg (ptA (q 5 0).1 (xN k) (q 5 0).2 (q 5 1).1 (yN k) (q 5 1).2 false)]) fun q Y d hh=>RtW.of_pt (hP▸rtimesQ k K L qc (gQ_on K L) hd (fun j=>(HQ j).gr d) (hh 3 rfl) (hh 5 rfl).1 (hh 5 rfl).2),.k (fun q =>#[.agg (ptA (q 6 0).1 (P.1) (q 6 0).2 (q 6 1).1 (P.2.1) (q 6 1).2 P.2.2)]) fun q Y d hh=>RtW.of_c (Rt.c (rout_any _ _ _ _ _ _ _ _ (hh 6 rfl).1 (hh 6 rfl).2)),⟨⟩⟩ ⟨.k zPnt ⟨fkc,fkc,fkc,fkn bPnt,fkc,fkp bPnt,fkp bPnt,fkc,fka,fku,trivial⟩,⟨⟩⟩ fun aq v1 d h4 aH=>?_;simp only[fzw,Kw.a];obtain⟨⟨aT,aa⟩,-⟩:(v0.heap.size≤(aq 8 0).2∧Vr v1 (aq 8 0).2 (pnQ P))∧True:=aH;clear h4;have f:=d;clear d
 go_upto_region 5 with fail
 refine wp_wS [.c (pv e9 0),.c (.int .i64 k),.c (.agg (pnQ P)),.tt 16 (mF k P),.tt 16 (mF k P),.tp 16 (mF k P),.O,.tp 16 (mF k P),.O] [1,2,3,4,5,6,7] ⟨.o 3 0 (c9.gr f) rfl rfl,.g 35 0 aa rfl,.k _ fun q Y d hh =>  ((new_tt K L oP (n:=16) (by decide) rfl _)),.m 3,.m 4,.m 4,.m 5,⟨⟩⟩ fun Q v2 d h5=>?_;simp only[fzw,Kw.tp,Kw.tt];have D:Tb v2 (Q 7 0).2 (Q 7 1).2 (Q 7 2).2 16 (mF k P):=h5 7;clear h5;replace f:=f.trans d;have J:=d;clear d
 go_upto_region 6 with fail
 refine wp_wS [.T,.F,.F,.O,.O,.F,.F] [4] ⟨.y (num_any _),⟨⟩⟩ fun aW v3 d h6=>?_;simp only[fzw];clear h6;replace f:=f.trans d;replace J:=J.trans d;have H:=d;clear d
 go_upto_region 8 with fail
 refine wp_wS [.c (.int .i64 x),.c (.int .i64 a),.c (.int .i64 y),.c (.int .i64 b),.c (.int .i64 a),.c (.int .i64 b)] [1,3] ⟨.s (.binOp .and 3 (.const (.int .i64 x)) (.const (.int .i64 7)) 3) rfl fun Y d=>by simp[go_sem,exI,e1],.s (.binOp .and 3 (.const (.int .i64 y)) (.const (.int .i64 7)) 3) rfl fun Y d=>by simp[go_sem,exI,e2],⟨⟩⟩ fun aX v4 d h8=>?_;simp only[fzw];clear h8;replace f:=f.trans d;replace J:=J.trans d;replace H:=H.trans d;clear d
 go_upto_region 9 with fail
 refine wp_v false [.c (pv ((Q 7 0).2) 0),.c (.int .i64 a),.E (.agg (pnQ A)),.E (.agg (pnQ A)),.c (.agg (pnQ A)),.O,.a,.u,.O] [2] [⟨6,7,35,pnt 0 0 false,fun _=>pnQ A⟩] ⟨.k _ fun q Y d hh=>RtW.of_c (Rt.c (pickM K L oP (D.gr (H.trans d)) (by decide) lA (i:=a) rfl hA)),⟨⟩⟩ ⟨.k zPnt (.t rfl),⟨⟩⟩ fun ar v5 d h9 aI=>?_;simp only[fzw,Kw.a];obtain⟨⟨aU,ab⟩,-⟩:(v4.heap.size≤(ar 6 0).2∧Vr v5 (ar 6 0).2 (pnQ A))∧True:=aI;clear h9;replace f:=f.trans d;replace J:=J.trans d;replace H:=H.trans d;clear d
 go_upto_region 10 with fail
 refine wp_v false [.c (pv ((Q 7 0).2) 0),.c (.int .i64 b),.E (.agg (pnQ B)),.E (.agg (pnQ B)),.c (.agg (pnQ B)),.O,.a,.u,.O] [2] [⟨6,7,35,pnt 0 0 false,fun _=>pnQ B⟩] ⟨.k _ fun q Y d hh=>RtW.of_c (Rt.c (pickM K L oP (D.gr (H.trans d)) (by decide) lB (i:=b) rfl hB)),⟨⟩⟩ ⟨.k zPnt (.t rfl),⟨⟩⟩ fun ae v6 d aJ au=>?_;simp only[fzw,Kw.a];obtain⟨⟨aK,S⟩,-⟩:(v5.heap.size≤(ae 6 0).2∧Vr v6 (ae 6 0).2 (pnQ B))∧True:=au;clear aJ;replace f:=f.trans d;replace J:=J.trans d;replace H:=H.trans d;have h:=d;clear d
 go_upto_region 11 with fail
 refine wp_v false [.c (pv ((Q 7 0).2) 0),.c (.int .i64 a),.c (.int .i64 b),.c (.int .i64 ((a:Int)+b)),.E (.agg (pnQ C)),.E (.agg (pnQ C)),.c (.agg (pnQ C)),.O,.a,.u,.O] [3,4] [⟨8,9,35,pnt 0 0 false,fun _=>pnQ C⟩] ⟨.s (.binOp .add 3 (.const (.int .i64 a)) (.const (.int .i64 b)) 3) rfl fun Y d=>by simp[go_sem,exI,e4],.k _ fun q Y d hh=>RtW.of_c (Rt.c (pickM K L oP (D.gr (H.trans d)) (by decide) lC (i:=a+b) e3 hC)),⟨⟩⟩ ⟨.k zPnt (.t rfl),⟨⟩⟩ fun af v7 d aL av=>?_;simp only[fzw,Kw.a];obtain⟨⟨aM,U⟩,-⟩:(v6.heap.size≤(af 8 0).2∧Vr v7 (af 8 0).2 (pnQ C))∧True:=av;clear aL;replace h:=h.trans d;replace f:=f.trans d;replace J:=J.trans d;replace H:=H.trans d;have I:=d;clear d
 go_upto_region 12 with fail
 refine wp_v false [.c (pv e9 0),.c (.int .i64 k),.c (.agg (pnQ A)),.c (.agg (pnQ B)),.E (.agg (pnQ C)),.E (.agg (pnQ C)),.c (.agg (pnQ C)),.O,.a,.u,.O] [1,2,3,4] [⟨8,9,35,pnt 0 0 false,fun _=>pnQ C⟩] ⟨.o 3 0 (c9.gr f) rfl rfl,.g 35 0 (ab.gr h) rfl,.g 35 0 (S.gr I) rfl,.z (addQ K L oA oB aG),⟨⟩⟩ ⟨.k zPnt (.t rfl),⟨⟩⟩ fun ag v8 d aO aw=>?_;simp only[fzw,Kw.a];obtain⟨⟨aP,V⟩,-⟩:(v7.heap.size≤(ag 8 0).2∧Vr v8 (ag 8 0).2 (pnQ C))∧True:=aw;clear aO;replace h:=h.trans d;replace I:=I.trans d;replace f:=f.trans d;replace J:=J.trans d;replace H:=H.trans d;have W:=d;clear d
 go_upto_region 13 with fail
 refine wp_v false [.c (pv ((Q 7 0).2) 0),.E (.agg (pnt 0 0 true)),.E (.agg (pnt 0 0 true)),.c (.agg (pnt 0 0 true)),.O,.a,.u,.O] [1] [⟨5,6,35,pnt 0 0 false,fun _=>pnt 0 0 true⟩] ⟨.k _ fun q Y d hh=>RtW.of_c (Rt.c (pickM K L oP (D.gr (H.trans d)) (by decide) (i:=0) (by decide) rfl (Z:=inf) (mlQ_zero K L P))),⟨⟩⟩ ⟨.k zPnt (.t rfl),⟨⟩⟩ fun ah v9 d aQ ax=>?_;simp only[fzw,Kw.a];obtain⟨⟨aR,X⟩,-⟩:(v8.heap.size≤(ah 5 0).2∧Vr v9 (ah 5 0).2 (pnt 0 0 true))∧True:=ax;clear aQ;replace h:=h.trans d;replace I:=I.trans d;replace W:=W.trans d;replace f:=f.trans d;replace J:=J.trans d;replace H:=H.trans d;have ac:=d;clear d
 go_upto_region 14 with fail
 refine wp_wS [.O,.O,.T,.T,.O,.O,.T,.T,.T,.O,.O,.T,.T,.T,.O,.O,.T,.T,.T,.c (.agg (pnQ C)),.c (.agg (pnQ C)),.T,.T,.T,.c (.agg (pnt 0 0 true)),.c (.agg (pnt 0 0 true)),.T,.T,.T] [1,5,10,15,19,20,21,24,26] ⟨.y (num_any _),.y (num_any _),.y (num_any _),.y (num_any _),.g 35 0 (V.gr ac) rfl,.g 35 0 (U.gr W) rfl,.s (.binOp .eql 35 (.const (.agg (pnQ C))) (.const (.agg (pnQ C))) 35) rfl fun Y d=>by simp[go_sem,exI,eqPn,eqN_self],.g 35 0 X rfl,.s (.binOp .eql 35 (.const (.agg (pnt 0 0 true))) (.const (.agg (pnt 0 0 true))) 35) rfl fun Y d=>by simp[go_sem,exI,eqPn,eqN_self],⟨⟩⟩ fun aV aY d aS=>?_;simp only[fzw];clear aS;replace h:=h.trans d;replace I:=I.trans d;replace W:=W.trans d;replace ac:=ac.trans d;replace f:=f.trans d;replace J:=J.trans d;replace H:=H.trans d;have ay:=d;clear d;replace G:=G.trans f;replace c9:=c9.gr f;replace HQ:=fun k=>(HQ k).gr f;replace aa:=aa.gr J;replace D:=D.gr H;replace ab:=ab.gr h;replace S:=S.gr I;replace U:=U.gr W;replace V:=V.gr ac;replace X:=X.gr ay;clear h I W ac ay f J H
 go_wp2_with fail
 go_ret
 exact⟨rfl,G⟩
end
end
end Go.Proofs.YtffhepbppiocbacGreat