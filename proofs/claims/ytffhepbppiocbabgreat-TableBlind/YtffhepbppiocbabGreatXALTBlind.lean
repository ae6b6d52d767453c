import Derived.Test.YtffhepbppiocbabGreatXAUF
namespace Go.Proofs.YtffhepbppiocbabGreat
open Go.RowKit Go.Proofs.Tryz
set_option maxRecDepth 100000
set_option maxHeartbeats 8000000
section
attribute [local go_sem ↓] uz1
attribute [local go_sem] uz2
section
attribute [local go_sem] uz7
attribute [local go_sem ↓] uz12 Go.wp_at_zero Go.wp_at_succ
attribute [local go_sem] uz13
theorem ltblind_any(id z y q:Int)(w:World):Cg 14 #[.int .i64 id,.int .i64 z,.int .i64 y,.int .i64 q] w (.bool true):=by
 obtain⟨u,hu,aj,hk⟩:=idx_conv id;have ab:=idx_bd id;obtain⟨k,ac⟩:=exl (idx id);rw[ac]at hk ab;obtain⟨h1,L⟩:=ab
 have u0:(0:Int)≤u:=by omega
 have ak:(1:Int)+u%15=k:=by omega
 have ao:IntKind.i64.wrap ((u:Int)%15)=(u:Int)%15:=by rw[IntKind.wrap_i64];omega
 have ap:IntKind.u64.wrap ((u:Int)%15)=(u:Int)%15:=by rw[IntKind.wrap_u64];omega
 have aq:(u:Int).tmod 15=(u:Int)%15:=by rw[Int.tmod_eq_emod_of_nonneg (by omega)]
 have k0:(1:Int)≤k:=by omega
 have k1:(k:Int)≤15:=by omega
 have ar:id%18446744073709551616=(u:Int):=by rw[←hu,IntKind.wrap_u64]
 clear ac hk;have ae:Hid _:=getq_yes k h1 L;have af:Hid _:=awake16_any
 go_enter func14,ntmps14
 go_upto_region 4 with (first
  | (go_at_call 43;refine(af.out _).mono ?_;rintro e WA ⟨rfl,GA⟩)
  | (go_at_call 16;refine(ae.out _).mono ?_;rintro e WB ⟨qc,rfl,W,GB⟩))
 obtain⟨e9,Z⟩:=exl (WB.heap.size);simp only[Z]
 refine gen_w (fun v=>Gr w v∧Vr v e9 (crA (k:Int) (nN k) qc)∧∀j,Sl v (qc j).1 (nN k j)) ?_ ?_
 ·subst Z;exact⟨(GA.trans GB).alloc _,Vr.new _ _ _,fun j=>(W j).gr ((Gr.refl _).alloc _)⟩
 clear Z GA GB W af ae hu aj ak ao ap aq ar u0 k0 k1;rintro v0 ⟨G,c9,W⟩;obtain⟨P,hP⟩:=exl (gQ k);have oP:OnQ k P:=hP▸gQ_on h1 L;obtain⟨a,la,e1⟩:=and_15 z;obtain⟨x,e2⟩:=exl (IntKind.i64.wrap (1+(a:Int)))
 have hx:((a+1:Nat):Int)=x:=by rw[←e2,IntKind.wrap_i64];omega
 obtain⟨n,ag⟩:=exl (a+1);rw[ag]at hx
 have hn:1≤n∧n≤16:=by omega
 obtain⟨m1,aB⟩:∃m:Nat,IntKind.u64.wrap y=(m:Int):=⟨(IntKind.u64.wrap y).toNat,by rw[IntKind.wrap_u64];omega⟩;obtain⟨i,di⟩:=exl (m1%n);have li:i<n:=di▸Nat.mod_lt _ (by omega)
 have ri:(m1:Int).tmod x=(i:Int):=by rw[←hx,Int.tmod_eq_emod_of_nonneg (by omega),←di];omega
 have si:IntKind.u64.wrap (i:Int)=i:=wuA;have ti:IntKind.i64.wrap (i:Int)=i:=wiA;obtain⟨m2,aC⟩:∃m:Nat,IntKind.u64.wrap q=(m:Int):=⟨(IntKind.u64.wrap q).toNat,by rw[IntKind.wrap_u64];omega⟩;obtain⟨j,dj⟩:=exl (m2%n);have lj:j<n:=dj▸Nat.mod_lt _ (by omega)
 have rj:(m2:Int).tmod x=(j:Int):=by rw[←hx,Int.tmod_eq_emod_of_nonneg (by omega),←dj];omega
 have sj:IntKind.u64.wrap (j:Int)=j:=wuA;have tj:IntKind.i64.wrap (j:Int)=j:=wiA;have wx:IntKind.u64.wrap x=x:=wuA
 have x0:¬x=0:=by omega
 obtain⟨Y,hY⟩:=exl (mlQ k i P);obtain⟨Q,hQ⟩:=exl (mlQ k j P)
 have hl:([]++ixs n).length=n:=by rw[List.nil_append,ixs_length]
 have hb:n≤1000000:=by omega
 clear ag la di dj;refine wp_wS [.c (.int .i64 z),.c (.int .i64 a),.c (.int .i64 x),.c (.int .i64 x)] [1,2] ⟨.s (.binOp .and 3 (.const (.int .i64 z)) (.const (.int .i64 15)) 3) rfl fun S d=>by simp[go_sem,exI,e1],.s (.binOp .add 3 (.const (.int .i64 1)) (.const (.int .i64 a)) 3) rfl fun S d=>by simp[go_sem,exI,e2],⟨⟩⟩ fun aD v1 d h4=>?_;simp only[fzw];clear h4;have I:=d;clear d
 go_upto_region 5 with fail
 refine wp_w [.c (pv e9 0),.c (.int .i64 k),.c (.agg (crA (k:Int) (nN k) qc)),.pt (P.1) (P.2.1) P.2.2,.c (.agg (pnQ P)),.c (.int .i64 x),.tt n (mF k P),.tt n (mF k P),.tp n (mF k P),.O,.tp n (mF k P),.O] [1,2,3,4,6,7,8,9,10] ⟨.o 3 0 (c9.gr I) rfl rfl,.g 27 0 (c9.gr I) rfl,.k _ fun C S d K=>RtW.of_pt (rgQ hP qc _ (fun j=>(W j).gr (I.trans d))),.k (fun C =>#[.agg (ptA (C 3 0).1 (P.1) (C 3 0).2 (C 3 1).1 (P.2.1) (C 3 1).2 P.2.2)]) fun C S d K=>RtW.of_c (Rt.c (rout_any _ _ _ _ _ _ _ _ (K 3 rfl).1 (K 3 rfl).2)),.k _ fun C S d K =>  ((new_tt h1 L oP hn hx _)),.m 6,.m 7,.m 7,.m 8,⟨⟩⟩ fun aa v2 d h5=>?_;simp only[fzw,Kw.tp,Kw.tt];have f:Tb v2 (aa 10 0).2 (aa 10 1).2 (aa 10 2).2 n (mF k P):=h5 10;clear h5;replace I:=I.trans d;clear d
 go_upto_region 6 with fail
 refine wp_wS [.T,.F,.F,.O,.O,.F,.F] [4] ⟨.y (num_any _),⟨⟩⟩ fun aE D d h6=>?_;simp only[fzw];clear h6;replace I:=I.trans d;have g6:=d;clear d;replace G:=G.trans I;replace c9:=c9.gr I;replace W:=fun k=>(W k).gr I;replace f:=f.gr g6;clear I g6
 go_upto_region 9 with (go_at_call 45;refine(new_any _).mono ?_;rintro e w' ⟨rfl,rfl⟩)
 refine gen_w (fun v=>Gr D v∧Tr v (D.heap.size) (.slice none 0 0) []∧Tr v (D.heap.size+1) (.slice none 0 0) []) ⟨grA,(Tr.new _).gr ((Gr.refl _).alloc _),tr_new2 _⟩ ?_;rintro vr ⟨H,A,B⟩;have au:=B.lt
 go_upto_region 10 with (go_at_call 46;refine(pickR h1 L oP f H (by omega) A (Nat.zero_le _) hn.2 li rfl hY).mono ?_;rintro e w9 ⟨rfl,z9,U,ah⟩)
 refine gen_w (fun v=>Gr D v∧Tr v (D.heap.size) z9 ([]++ixs n)∧Vr v (w9.heap.size) (pnQ Y)∧Tr v (D.heap.size+1) (.slice none 0 0) []∧¬Ow (some (D.heap.size)) z9 (D.heap.size+1)) ⟨ah.alloc _,(U.lk _ rfl).gr ((Gr.refl _).alloc _),Vr.new _ _ _,(B.far U fun c h L=>by have:=own_none h;have:=own_none L;omega).gr ((Gr.refl _).alloc _),U.no (fun⟨a,e,h⟩=>by cases e;have:=own_none h;omega) au⟩ ?_;clear H  A B;rintro aG ⟨H,A,V9,B,av⟩;clear U ah
 go_upto_region 11 with (go_at_call 46;refine(pickR h1 L oP f H (by omega) B (Nat.zero_le _) hn.2 lj rfl hQ).mono ?_;rintro e aw ⟨rfl,ax,J,X⟩)
 refine gen_w (fun v=>Gr D v∧Tr v (D.heap.size+1) ax ([]++ixs n)∧Vr v (aw.heap.size) (pnQ Q)∧Tr v (D.heap.size) z9 ([]++ixs n)) ⟨X.alloc _,(J.lk _ rfl).gr ((Gr.refl _).alloc _),Vr.new _ _ _,(A.far J fun c h L=>by have:=own_none L;subst this;exact av ⟨_,rfl,h⟩).gr ((Gr.refl _).alloc _)⟩ ?_;clear H  B A;rintro az ⟨H,B,ai,A⟩;clear J X
 go_upto_region 11 with fail
 refine wp_wS [.O,.O,.T,.T,.O,.O,.T,.T,.T,.c (pv (D.heap.size) 0),.ev n ([]++ixs n),.c (pv (D.heap.size+1) 0),.ev n ([]++ixs n),.T,.T,.T,.c (pv (D.heap.size) 0),.c (.int .i64 x),.c (.int .i64 x),.T,.T,.T] [1,5,10,12,13,17,19] ⟨.y (num_any _),.y (num_any _),.k _ fun C S d K =>  ((evT (A.gr d) hl hb)),.k _ fun C S d K =>  ((evT (B.gr d) hl hb)),.k (fun C =>#[.slice (C 10 0).1 n (C 10 0).2,.slice (C 12 0).1 n (C 12 0).2]) fun C S d K=>RtW.of_c (Rt.c (sameT (K 10 rfl) (K 12 rfl) hl hb)),.k _ fun C S d K=>RtW.of_c (Rt.same (lenT (A.gr d) (len_ixs n hx))),.s (.binOp .eql 3 (.const (.int .i64 x)) (.const (.int .i64 x)) 3) rfl fun S d=>by simp[go_sem,exI],⟨⟩⟩ fun aA v4 d ay=>?_;simp only[fzw,Kw.ev];clear ay;replace H:=H.trans d;have V:=d;clear d;replace G:=G.trans H;replace c9:=c9.gr H;replace W:=fun k=>(W k).gr H;replace f:=f.gr H;replace ai:=ai.gr V;replace A:=A.gr V;replace B:=B.gr V;clear V H
 go_wp2_with fail
 go_ret
 exact⟨rfl,G⟩
end
end
end Go.Proofs.YtffhepbppiocbabGreat