import Derived.Test.YtffhepbppiocbacGreatXTUF
namespace Go.Proofs.YtffhepbppiocbacGreat
open Go.RowKit Go.Proofs.Tryz
set_option maxRecDepth 100000
set_option maxHeartbeats 8000000
section
attribute [local go_sem ↓] uz1
attribute [local go_sem] uz2
section
attribute [local go_sem] uz7
attribute [local go_sem ↓] uz12 Go.wp_at_zero Go.wp_at_succ
attribute [local go_sem] uz13
theorem ltnil_0(id z:Int)(y:Int)(y1:y<0)(w:World):Cg 5 #[.int .i64 id,.int .i64 z,.int .i64 y] w (.bool true):=by
 obtain⟨u,hu,ae,hk⟩:=idx_conv id;have W:=idx_bd id;obtain⟨k,X⟩:=exl (idx id);rw[X]at hk W;obtain⟨h1,h2⟩:=W
 have u0:(0:Int)≤u:=by omega
 have af:(1:Int)+u%15=k:=by omega
 have ag:IntKind.i64.wrap ((u:Int)%15)=(u:Int)%15:=by rw[IntKind.wrap_i64];omega
 have ah:IntKind.u64.wrap ((u:Int)%15)=(u:Int)%15:=by rw[IntKind.wrap_u64];omega
 have ai:(u:Int).tmod 15=(u:Int)%15:=by rw[Int.tmod_eq_emod_of_nonneg (by omega)]
 have k0:(1:Int)≤k:=by omega
 have k1:(k:Int)≤15:=by omega
 have aj:id%18446744073709551616=(u:Int):=by rw[←hu,IntKind.wrap_u64]
 clear X hk;have Y:Hid _:=getq_yes k h1 h2;have Z:Hid _:=awake16_any
 go_enter func5,ntmps5
 go_upto_region 4 with (first
  | (go_at_call 15;refine(Z.out _).mono ?_;rintro e WA ⟨rfl,GA⟩)
  | (go_at_call 16;refine(Y.out _).mono ?_;rintro e WB ⟨qc,rfl,K,GB⟩))
 obtain⟨e9,Q⟩:=exl (WB.heap.size);simp only[Q]
 refine gen_w (fun v=>Gr w v∧Vr v e9 (crA (k:Int) (nN k) qc)∧∀j,Sl v (qc j).1 (nN k j)) ?_ ?_
 ·subst Q;exact⟨(GA.trans GB).alloc _,Vr.new _ _ _,fun j=>(K j).gr ((Gr.refl _).alloc _)⟩
 clear Q GA GB K Z Y hu ae af ag ah ai aj u0 k0 k1;rintro v0 ⟨G,V,K⟩;obtain⟨P,hP⟩:=exl (gQ k);have oP:OnQ k P:=hP▸gQ_on h1 h2;obtain⟨a,la,e1⟩:=and_15 z;obtain⟨x,e2⟩:=exl (IntKind.i64.wrap (1+(a:Int)))
 have hx:((a+1:Nat):Int)=x:=by rw[←e2,IntKind.wrap_i64];omega
 obtain⟨n,aa⟩:=exl (a+1);rw[aa]at hx
 have hn:1≤n∧n≤16:=by omega
 have hy:y<0∨(n:Int)≤y:=Or.inl y1;clear aa la;refine wp_wS [.c (.int .i64 z),.c (.int .i64 a),.c (.int .i64 x),.c (.int .i64 x)] [1,2] ⟨.s (.binOp .and 3 (.const (.int .i64 z)) (.const (.int .i64 15)) 3) rfl fun I d=>by simp[go_sem,exI,e1],.s (.binOp .add 3 (.const (.int .i64 1)) (.const (.int .i64 a)) 3) rfl fun I d=>by simp[go_sem,exI,e2],⟨⟩⟩ fun ax v1 d h4=>?_;simp only[fzw];clear h4;have A:=d;clear d
 go_upto_region 5 with fail
 refine wp_w [.c (pv e9 0),.c (.int .i64 k),.c (.agg (crA (k:Int) (nN k) qc)),.pt (P.1) (P.2.1) P.2.2,.c (.agg (pnQ P)),.c (.int .i64 x),.tt n (mF k P),.tt n (mF k P),.tp n (mF k P),.O,.tp n (mF k P),.O] [1,2,3,4,6,7,8,9,10] ⟨.o 3 0 (V.gr A) rfl rfl,.g 27 0 (V.gr A) rfl,.k _ fun H I d S=>RtW.of_pt (rgQ hP qc _ (fun j=>(K j).gr (A.trans d))),.k (fun H =>#[.agg (ptA (H 3 0).1 (P.1) (H 3 0).2 (H 3 1).1 (P.2.1) (H 3 1).2 P.2.2)]) fun H I d S=>RtW.of_c (Rt.c (rout_any _ _ _ _ _ _ _ _ (S 3 rfl).1 (S 3 rfl).2)),.k _ fun H I d S =>  ((new_tt h1 h2 oP hn hx _)),.m 6,.m 7,.m 7,.m 8,⟨⟩⟩ fun B v2 d h5=>?_;simp only[fzw,Kw.tp,Kw.tt];have f:Tb v2 (B 10 0).2 (B 10 1).2 (B 10 2).2 n (mF k P):=h5 10;clear h5;replace A:=A.trans d;clear d
 go_upto_region 6 with fail
 refine wp_wS [.T,.F,.F,.O,.O,.F,.F] [4] ⟨.y (num_any _),⟨⟩⟩ fun ay v3 d h6=>?_;simp only[fzw];clear h6;replace A:=A.trans d;have g6:=d;clear d;replace G:=G.trans A;replace V:=V.gr A;replace K:=fun k=>(K k).gr A;replace f:=f.gr g6;clear A g6
 go_upto_region 9 with (go_at_call 27;refine(new_any _).mono ?_;rintro e w' ⟨rfl,rfl⟩)
 refine gen_w (fun v=>Gr v3 v∧Tr v (v3.heap.size) (.slice none 0 0) []) ⟨grA,Tr.new _⟩ ?_;rintro vr ⟨h,U⟩
 go_upto_region 9 with fail
 refine wp_v false [.c (pv ((B 10 0).2) 0),.c (pv (v3.heap.size) 0),.c (.int .i64 y),.c (.tuple #[.agg (pnt 0 0 false),.int .i64 1603]),.c (.tuple #[.agg (pnt 0 0 false),.int .i64 1603]),.c (.agg (pnt 0 0 false)),.c (.int .i64 1603),.a,.u,.c (.int .i64 1603)] [3] [⟨7,8,35,pnt 0 0 false,fun _=>pnt 0 0 false⟩] ⟨.k _ fun H I d S=>RtW.of_c (Rt.c (pickE (f.gr (h.trans d)) (.pointer (some ⟨v3.heap.size,0,none⟩)) hy)),⟨⟩⟩ ⟨.k zPnt (.t rfl),⟨⟩⟩ fun ab v4 d h9 ak=>?_;simp only[fzw,Kw.a];obtain⟨⟨au,C⟩,-⟩:(vr.heap.size≤(ab 7 0).2∧Vr v4 (ab 7 0).2 (pnt 0 0 false))∧True:=ak;clear h9;replace h:=h.trans d;have J:=d;clear d
 go_upto_region 10 with fail
 refine wp_v false [.c (pv ((B 10 0).2) 0),.c (.int .i64 y),.c (.tuple #[.agg (pnt 0 0 false),.int .i64 1603]),.c (.tuple #[.agg (pnt 0 0 false),.int .i64 1603]),.c (.agg (pnt 0 0 false)),.c (.int .i64 1603),.a,.u,.c (.int .i64 1603)] [2] [⟨6,7,35,pnt 0 0 false,fun _=>pnt 0 0 false⟩] ⟨.k _ fun H I d S=>RtW.of_c (Rt.c (pickE (f.gr (h.trans d)) (Value.pointer none) hy)),⟨⟩⟩ ⟨.k zPnt (.t rfl),⟨⟩⟩ fun L v5 d ao ac=>?_;simp only[fzw,Kw.a];obtain⟨⟨ap,i⟩,-⟩:(v4.heap.size≤(L 6 0).2∧Vr v5 (L 6 0).2 (pnt 0 0 false))∧True:=ac;clear ao;replace J:=J.trans d;replace h:=h.trans d;have q:=d;clear d
 go_upto_region 11 with fail
 refine wp_wS [.c (.int .i64 y),.T,.T,.u,.u,.u,.T] [1] ⟨.s (.binOp .lss 3 (.const (.int .i64 y)) (.const (.int .i64 0)) 3) rfl fun I d=>by simp[go_sem,exI,y1],⟨⟩⟩ fun av v6 d aq=>?_;simp only[fzw];clear aq;replace q:=q.trans d;replace J:=J.trans d;replace h:=h.trans d;have D:=d;clear d
 go_upto_region 12 with fail
 refine wp_wS [.c (.int .i64 1603),.c (.int .i64 1603),.T,.T,.c (.int .i64 1603),.c (.int .i64 1603),.T,.T,.T,.c (pv (v3.heap.size) 0),.O,.T,.T,.T,.c (.agg (pnt 0 0 false)),.c (.agg (pnt 0 0 false)),.T,.T,.T] [1,5,10,14,15,16] ⟨.y (num_any _),.y (num_any _),.k _ fun H I d S=>RtW.of_c (Rt.same (lenT (U.gr (J.trans d)) rfl)),.g 35 0 (C.gr q) rfl,.g 35 0 (i.gr D) rfl,.s (.binOp .eql 35 (.const (.agg (pnt 0 0 false))) (.const (.agg (pnt 0 0 false))) 35) rfl fun I d=>by simp[go_sem,exI,eqPn,eqN_self],⟨⟩⟩ fun aw v7 d ar=>?_;simp only[fzw];clear ar;replace q:=q.trans d;replace D:=D.trans d;replace J:=J.trans d;replace h:=h.trans d;clear d;replace G:=G.trans h;replace V:=V.gr h;replace K:=fun k=>(K k).gr h;replace f:=f.gr h;replace U:=U.gr J;replace C:=C.gr q;replace i:=i.gr D;clear q D J h
 go_wp2_with fail
 go_ret
 exact⟨rfl,G⟩
theorem ltnil_1(id z:Int)(y:Int)(y1:¬y<0)(hy:∀a:Nat,a<16→bits .and .i64 z 15=(a:Int)→((a+1:Nat):Int)≤y)(w:World):Cg 5 #[.int .i64 id,.int .i64 z,.int .i64 y] w (.bool true):=by
 obtain⟨u,hu,ae,hk⟩:=idx_conv id;have X:=idx_bd id;obtain⟨k,Y⟩:=exl (idx id);rw[Y]at hk X;obtain⟨h1,h2⟩:=X
 have u0:(0:Int)≤u:=by omega
 have af:(1:Int)+u%15=k:=by omega
 have ag:IntKind.i64.wrap ((u:Int)%15)=(u:Int)%15:=by rw[IntKind.wrap_i64];omega
 have ah:IntKind.u64.wrap ((u:Int)%15)=(u:Int)%15:=by rw[IntKind.wrap_u64];omega
 have ai:(u:Int).tmod 15=(u:Int)%15:=by rw[Int.tmod_eq_emod_of_nonneg (by omega)]
 have k0:(1:Int)≤k:=by omega
 have k1:(k:Int)≤15:=by omega
 have aj:id%18446744073709551616=(u:Int):=by rw[←hu,IntKind.wrap_u64]
 clear Y hk;have Z:Hid _:=getq_yes k h1 h2;have aa:Hid _:=awake16_any
 go_enter func5,ntmps5
 go_upto_region 4 with (first
  | (go_at_call 15;refine(aa.out _).mono ?_;rintro e WA ⟨rfl,GA⟩)
  | (go_at_call 16;refine(Z.out _).mono ?_;rintro e WB ⟨qc,rfl,K,GB⟩))
 obtain⟨e9,Q⟩:=exl (WB.heap.size);simp only[Q]
 refine gen_w (fun v=>Gr w v∧Vr v e9 (crA (k:Int) (nN k) qc)∧∀j,Sl v (qc j).1 (nN k j)) ?_ ?_
 ·subst Q;exact⟨(GA.trans GB).alloc _,Vr.new _ _ _,fun j=>(K j).gr ((Gr.refl _).alloc _)⟩
 clear Q GA GB K aa Z hu ae af ag ah ai aj u0 k0 k1;rintro v0 ⟨G,W,K⟩;obtain⟨P,hP⟩:=exl (gQ k);have oP:OnQ k P:=hP▸gQ_on h1 h2;obtain⟨a,la,e1⟩:=and_15 z;obtain⟨x,e2⟩:=exl (IntKind.i64.wrap (1+(a:Int)))
 have hx:((a+1:Nat):Int)=x:=by rw[←e2,IntKind.wrap_i64];omega
 obtain⟨n,S⟩:=exl (a+1);rw[S]at hx
 have hn:1≤n∧n≤16:=by omega
 replace hy:=hy a la e1;rw[S]at hy
 have y2:x≤y:=by omega
 replace hy:y<0∨(n:Int)≤y:=Or.inr hy;clear S la;refine wp_wS [.c (.int .i64 z),.c (.int .i64 a),.c (.int .i64 x),.c (.int .i64 x)] [1,2] ⟨.s (.binOp .and 3 (.const (.int .i64 z)) (.const (.int .i64 15)) 3) rfl fun H d=>by simp[go_sem,exI,e1],.s (.binOp .add 3 (.const (.int .i64 1)) (.const (.int .i64 a)) 3) rfl fun H d=>by simp[go_sem,exI,e2],⟨⟩⟩ fun ax v1 d h4=>?_;simp only[fzw];clear h4;have A:=d;clear d
 go_upto_region 5 with fail
 refine wp_w [.c (pv e9 0),.c (.int .i64 k),.c (.agg (crA (k:Int) (nN k) qc)),.pt (P.1) (P.2.1) P.2.2,.c (.agg (pnQ P)),.c (.int .i64 x),.tt n (mF k P),.tt n (mF k P),.tp n (mF k P),.O,.tp n (mF k P),.O] [1,2,3,4,6,7,8,9,10] ⟨.o 3 0 (W.gr A) rfl rfl,.g 27 0 (W.gr A) rfl,.k _ fun I H d U=>RtW.of_pt (rgQ hP qc _ (fun j=>(K j).gr (A.trans d))),.k (fun I =>#[.agg (ptA (I 3 0).1 (P.1) (I 3 0).2 (I 3 1).1 (P.2.1) (I 3 1).2 P.2.2)]) fun I H d U=>RtW.of_c (Rt.c (rout_any _ _ _ _ _ _ _ _ (U 3 rfl).1 (U 3 rfl).2)),.k _ fun I H d U =>  ((new_tt h1 h2 oP hn hx _)),.m 6,.m 7,.m 7,.m 8,⟨⟩⟩ fun B v2 d h5=>?_;simp only[fzw,Kw.tp,Kw.tt];have f:Tb v2 (B 10 0).2 (B 10 1).2 (B 10 2).2 n (mF k P):=h5 10;clear h5;replace A:=A.trans d;clear d
 go_upto_region 6 with fail
 refine wp_wS [.T,.F,.F,.O,.O,.F,.F] [4] ⟨.y (num_any _),⟨⟩⟩ fun ay v3 d h6=>?_;simp only[fzw];clear h6;replace A:=A.trans d;have g6:=d;clear d;replace G:=G.trans A;replace W:=W.gr A;replace K:=fun k=>(K k).gr A;replace f:=f.gr g6;clear A g6
 go_upto_region 9 with (go_at_call 27;refine(new_any _).mono ?_;rintro e w' ⟨rfl,rfl⟩)
 refine gen_w (fun v=>Gr v3 v∧Tr v (v3.heap.size) (.slice none 0 0) []) ⟨grA,Tr.new _⟩ ?_;rintro vr ⟨h,V⟩
 go_upto_region 9 with fail
 refine wp_v false [.c (pv ((B 10 0).2) 0),.c (pv (v3.heap.size) 0),.c (.int .i64 y),.c (.tuple #[.agg (pnt 0 0 false),.int .i64 1603]),.c (.tuple #[.agg (pnt 0 0 false),.int .i64 1603]),.c (.agg (pnt 0 0 false)),.c (.int .i64 1603),.a,.u,.c (.int .i64 1603)] [3] [⟨7,8,35,pnt 0 0 false,fun _=>pnt 0 0 false⟩] ⟨.k _ fun I H d U=>RtW.of_c (Rt.c (pickE (f.gr (h.trans d)) (.pointer (some ⟨v3.heap.size,0,none⟩)) hy)),⟨⟩⟩ ⟨.k zPnt (.t rfl),⟨⟩⟩ fun ab v4 d h9 ak=>?_;simp only[fzw,Kw.a];obtain⟨⟨au,C⟩,-⟩:(vr.heap.size≤(ab 7 0).2∧Vr v4 (ab 7 0).2 (pnt 0 0 false))∧True:=ak;clear h9;replace h:=h.trans d;have J:=d;clear d
 go_upto_region 10 with fail
 refine wp_v false [.c (pv ((B 10 0).2) 0),.c (.int .i64 y),.c (.tuple #[.agg (pnt 0 0 false),.int .i64 1603]),.c (.tuple #[.agg (pnt 0 0 false),.int .i64 1603]),.c (.agg (pnt 0 0 false)),.c (.int .i64 1603),.a,.u,.c (.int .i64 1603)] [2] [⟨6,7,35,pnt 0 0 false,fun _=>pnt 0 0 false⟩] ⟨.k _ fun I H d U=>RtW.of_c (Rt.c (pickE (f.gr (h.trans d)) (Value.pointer none) hy)),⟨⟩⟩ ⟨.k zPnt (.t rfl),⟨⟩⟩ fun L v5 d ao ac=>?_;simp only[fzw,Kw.a];obtain⟨⟨ap,i⟩,-⟩:(v4.heap.size≤(L 6 0).2∧Vr v5 (L 6 0).2 (pnt 0 0 false))∧True:=ac;clear ao;replace J:=J.trans d;replace h:=h.trans d;have q:=d;clear d
 go_upto_region 11 with fail
 refine wp_wS [.c (.int .i64 y),.F,.F,.c (.int .i64 y),.c (.int .i64 x),.T,.T] [1,5] ⟨.s (.binOp .lss 3 (.const (.int .i64 y)) (.const (.int .i64 0)) 3) rfl fun H d=>by simp[go_sem,exI,y1],.s (.binOp .geq 3 (.const (.int .i64 y)) (.const (.int .i64 x)) 3) rfl fun H d=>by simp[go_sem,exI,y2],⟨⟩⟩ fun av v6 d aq=>?_;simp only[fzw];clear aq;replace q:=q.trans d;replace J:=J.trans d;replace h:=h.trans d;have D:=d;clear d
 go_upto_region 12 with fail
 refine wp_wS [.c (.int .i64 1603),.c (.int .i64 1603),.T,.T,.c (.int .i64 1603),.c (.int .i64 1603),.T,.T,.T,.c (pv (v3.heap.size) 0),.O,.T,.T,.T,.c (.agg (pnt 0 0 false)),.c (.agg (pnt 0 0 false)),.T,.T,.T] [1,5,10,14,15,16] ⟨.y (num_any _),.y (num_any _),.k _ fun I H d U=>RtW.of_c (Rt.same (lenT (V.gr (J.trans d)) rfl)),.g 35 0 (C.gr q) rfl,.g 35 0 (i.gr D) rfl,.s (.binOp .eql 35 (.const (.agg (pnt 0 0 false))) (.const (.agg (pnt 0 0 false))) 35) rfl fun H d=>by simp[go_sem,exI,eqPn,eqN_self],⟨⟩⟩ fun aw v7 d ar=>?_;simp only[fzw];clear ar;replace q:=q.trans d;replace D:=D.trans d;replace J:=J.trans d;replace h:=h.trans d;clear d;replace G:=G.trans h;replace W:=W.gr h;replace K:=fun k=>(K k).gr h;replace f:=f.gr h;replace V:=V.gr J;replace C:=C.gr q;replace i:=i.gr D;clear q D J h
 go_wp2_with fail
 go_ret
 exact⟨rfl,G⟩
theorem ltnil_2(id z:Int){i:Nat}{y:Int}(hy:(i:Int)=y)(hi:∀a:Nat,a<16→bits .and .i64 z 15=(a:Int)→i<a+1)(w:World):Cg 5 #[.int .i64 id,.int .i64 z,.int .i64 y] w (.bool true):=by
 obtain⟨u,hu,ai,hk⟩:=idx_conv id;have aa:=idx_bd id;obtain⟨k,ab⟩:=exl (idx id);rw[ab]at hk aa;obtain⟨X,Y⟩:=aa
 have u0:(0:Int)≤u:=by omega
 have aj:(1:Int)+u%15=k:=by omega
 have ak:IntKind.i64.wrap ((u:Int)%15)=(u:Int)%15:=by rw[IntKind.wrap_i64];omega
 have ao:IntKind.u64.wrap ((u:Int)%15)=(u:Int)%15:=by rw[IntKind.wrap_u64];omega
 have ap:(u:Int).tmod 15=(u:Int)%15:=by rw[Int.tmod_eq_emod_of_nonneg (by omega)]
 have k0:(1:Int)≤k:=by omega
 have k1:(k:Int)≤15:=by omega
 have aq:id%18446744073709551616=(u:Int):=by rw[←hu,IntKind.wrap_u64]
 clear ab hk;have ac:Hid _:=getq_yes k X Y;have ae:Hid _:=awake16_any
 go_enter func5,ntmps5
 go_upto_region 4 with (first
  | (go_at_call 15;refine(ae.out _).mono ?_;rintro e WA ⟨rfl,GA⟩)
  | (go_at_call 16;refine(ac.out _).mono ?_;rintro e WB ⟨L,rfl,K,GB⟩))
 obtain⟨e9,V⟩:=exl (WB.heap.size);simp only[V]
 refine gen_w (fun v=>Gr w v∧Vr v e9 (crA (k:Int) (nN k) L)∧∀j,Sl v (L j).1 (nN k j)) ?_ ?_
 ·subst V;exact⟨(GA.trans GB).alloc _,Vr.new _ _ _,fun j=>(K j).gr ((Gr.refl _).alloc _)⟩
 clear V GA GB K ae ac hu ai aj ak ao ap aq u0 k0 k1;rintro v0 ⟨G,S,K⟩;obtain⟨P,hP⟩:=exl (gQ k);have oP:OnQ k P:=hP▸gQ_on X Y;obtain⟨a,la,e1⟩:=and_15 z;obtain⟨x,e2⟩:=exl (IntKind.i64.wrap (1+(a:Int)))
 have hx:((a+1:Nat):Int)=x:=by rw[←e2,IntKind.wrap_i64];omega
 obtain⟨n,W⟩:=exl (a+1);rw[W]at hx
 have hn:1≤n∧n≤16:=by omega
 replace hi:=hi a la e1;rw[W]at hi
 have li:i<16:=by omega
 have y1:¬y<0:=by omega
 have y2:¬x≤y:=by omega
 obtain⟨Z,hZ⟩:=exl (mlQ k i P);clear W la;refine wp_wS [.c (.int .i64 z),.c (.int .i64 a),.c (.int .i64 x),.c (.int .i64 x)] [1,2] ⟨.s (.binOp .and 3 (.const (.int .i64 z)) (.const (.int .i64 15)) 3) rfl fun B d=>by simp[go_sem,exI,e1],.s (.binOp .add 3 (.const (.int .i64 1)) (.const (.int .i64 a)) 3) rfl fun B d=>by simp[go_sem,exI,e2],⟨⟩⟩ fun aA v1 d h4=>?_;simp only[fzw];clear h4;have I:=d;clear d
 go_upto_region 5 with fail
 refine wp_w [.c (pv e9 0),.c (.int .i64 k),.c (.agg (crA (k:Int) (nN k) L)),.pt (P.1) (P.2.1) P.2.2,.c (.agg (pnQ P)),.c (.int .i64 x),.tt n (mF k P),.tt n (mF k P),.tp n (mF k P),.O,.tp n (mF k P),.O] [1,2,3,4,6,7,8,9,10] ⟨.o 3 0 (S.gr I) rfl rfl,.g 27 0 (S.gr I) rfl,.k _ fun h B d C=>RtW.of_pt (rgQ hP L _ (fun j=>(K j).gr (I.trans d))),.k (fun h =>#[.agg (ptA (h 3 0).1 (P.1) (h 3 0).2 (h 3 1).1 (P.2.1) (h 3 1).2 P.2.2)]) fun h B d C=>RtW.of_c (Rt.c (rout_any _ _ _ _ _ _ _ _ (C 3 rfl).1 (C 3 rfl).2)),.k _ fun h B d C =>  ((new_tt X Y oP hn hx _)),.m 6,.m 7,.m 7,.m 8,⟨⟩⟩ fun Q v2 d h5=>?_;simp only[fzw,Kw.tp,Kw.tt];have f:Tb v2 (Q 10 0).2 (Q 10 1).2 (Q 10 2).2 n (mF k P):=h5 10;clear h5;replace I:=I.trans d;clear d
 go_upto_region 6 with fail
 refine wp_wS [.T,.F,.F,.O,.O,.F,.F] [4] ⟨.y (num_any _),⟨⟩⟩ fun aB v3 d h6=>?_;simp only[fzw];clear h6;replace I:=I.trans d;have g6:=d;clear d;replace G:=G.trans I;replace S:=S.gr I;replace K:=fun k=>(K k).gr I;replace f:=f.gr g6;clear I g6
 go_upto_region 9 with (go_at_call 27;refine(new_any _).mono ?_;rintro e w' ⟨rfl,rfl⟩)
 refine gen_w (fun v=>Gr v3 v∧Tr v (v3.heap.size) (.slice none 0 0) []) ⟨grA,Tr.new _⟩ ?_;rintro vr ⟨A,H⟩
 go_upto_region 10 with (go_at_call 24;refine(pickR X Y oP f A (Nat.le_refl _) H (Nat.zero_le _) hn.2 hi hy hZ).mono ?_;rintro e w9 ⟨rfl,z9,af,ag⟩)
 refine gen_w (fun v=>Gr v3 v∧Tr v (v3.heap.size) z9 ([]++ixs n)∧Vr v (w9.heap.size) (pnQ Z)) ⟨ag.alloc _,(af.lk _ rfl).gr ((Gr.refl _).alloc _),Vr.new _ _ _⟩ ?_;clear A  H;rintro ar ⟨A,H,V9⟩;clear af ag
 go_upto_region 10 with fail
 refine wp_v false [.c (pv ((Q 10 0).2) 0),.c (.int .i64 y),.E (.agg (pnQ Z)),.E (.agg (pnQ Z)),.c (.agg (pnQ Z)),.O,.a,.u,.O] [2] [⟨6,7,35,pnt 0 0 false,fun _=>pnQ Z⟩] ⟨.k _ fun h B d C=>RtW.of_c (Rt.c (pickM X Y oP (f.gr (A.trans d)) hn.2 hi hy hZ)),⟨⟩⟩ ⟨.k zPnt (.t rfl),⟨⟩⟩ fun U v4 d au ah=>?_;simp only[fzw,Kw.a];obtain⟨⟨av,D⟩,-⟩:(ar.heap.size≤(U 6 0).2∧Vr v4 (U 6 0).2 (pnQ Z))∧True:=ah;clear au;replace A:=A.trans d;have q:=d;clear d
 go_upto_region 11 with fail
 refine wp_wS [.c (.int .i64 y),.F,.F,.c (.int .i64 y),.c (.int .i64 x),.F,.F] [1,5] ⟨.s (.binOp .lss 3 (.const (.int .i64 y)) (.const (.int .i64 0)) 3) rfl fun B d=>by simp[go_sem,exI,y1],.s (.binOp .geq 3 (.const (.int .i64 y)) (.const (.int .i64 x)) 3) rfl fun B d=>by simp[go_sem,exI,y2],⟨⟩⟩ fun ay v5 d aw=>?_;simp only[fzw];clear aw;replace q:=q.trans d;replace A:=A.trans d;have J:=d;clear d
 go_upto_region 13 with fail
 refine wp_w [.O,.O,.T,.T,.O,.O,.T,.T,.T,.c (.agg (pnQ Z)),.c (.agg (pnQ Z)),.T,.T,.T,.c (.agg (pnQ Z)),.c (.agg (crA (k:Int) (nN k) L)),.c (.int .i64 y),.n (i),.c (.agg (crA (k:Int) (nN k) L)),.pt (P.1) (P.2.1) P.2.2,.pt (Z.1) (Z.2.1) Z.2.2,.c (.agg (pnQ Z)),.T,.T,.T,.c (pv (v3.heap.size) 0),.c (.int .i64 x),.c (.int .i64 x),.T,.T,.T] [1,5,9,10,11,14,15,17,18,19,20,21,22,26,28] ⟨.y (num_any _),.y (num_any _),.g 35 0 (V9.gr q) rfl,.g 35 0 (D.gr J) rfl,.s (.binOp .eql 35 (.const (.agg (pnQ Z))) (.const (.agg (pnQ Z))) 35) rfl fun B d=>by simp[go_sem,exI,eqPn,eqN_self],.g 35 0 (V9.gr q) rfl,.g 27 0 (S.gr A) rfl,.k _ fun h B d C=>RtW.of_n (rsmI li hy _),.g 27 0 (S.gr A) rfl,.k _ fun h B d C=>RtW.of_pt (rgQ hP L _ (fun j=>(K j).gr (A.trans d))),.k (fun h =>#[.agg (crA (k:Int) (nN k) L),.slice (h 17 0).1 (dl (i)) (h 17 0).2,.agg (ptA (h 19 0).1 (P.1) (h 19 0).2 (h 19 1).1 (P.2.1) (h 19 1).2 P.2.2)]) fun h B d C=>RtW.of_pt (hZ▸rtimesQ k X Y L oP (dl_16 li) (fun j=>(K j).gr (A.trans d)) (C 17 rfl) (C 19 rfl).1 (C 19 rfl).2),.k (fun h =>#[.agg (ptA (h 20 0).1 (Z.1) (h 20 0).2 (h 20 1).1 (Z.2.1) (h 20 1).2 Z.2.2)]) fun h B d C=>RtW.of_c (Rt.c (rout_any _ _ _ _ _ _ _ _ (C 20 rfl).1 (C 20 rfl).2)),.s (.binOp .eql 35 (.const (.agg (pnQ Z))) (.const (.agg (pnQ Z))) 35) rfl fun B d=>by simp[go_sem,exI,eqPn,eqN_self],.k _ fun h B d C=>RtW.of_c (Rt.same (lenT (H.gr (q.trans d)) (len_ixs n hx))),.s (.binOp .eql 3 (.const (.int .i64 x)) (.const (.int .i64 x)) 3) rfl fun B d=>by simp[go_sem,exI],⟨⟩⟩ fun az v6 d ax=>?_;simp only[fzw];clear ax;replace q:=q.trans d;replace J:=J.trans d;replace A:=A.trans d;clear d;replace G:=G.trans A;replace S:=S.gr A;replace K:=fun k=>(K k).gr A;replace f:=f.gr A;replace V9:=V9.gr q;replace H:=H.gr q;replace D:=D.gr J;clear q J A
 go_wp2_with fail
 go_ret
 exact⟨rfl,G⟩
theorem ltnil_any(id z y:Int)(w:World):Cg 5 #[.int .i64 id,.int .i64 z,.int .i64 y] w (.bool true):=by
 by_cases y1:y<0
 ·exact ltnil_0 id z y y1 w
 obtain⟨a,h,j⟩:=and_15 z
 have d:∀b:Nat,b<16→bits .and .i64 z 15=(b:Int)→b=a:=fun b _ e=>by omega
 by_cases y2:y<(a:Int)+1
 ·exact ltnil_2 id z (i:=y.toNat) (by omega) (fun b f e=>by have:=d b f e;omega) w
 ·exact ltnil_1 id z y y1 (fun b f e=>by have:=d b f e;omega) w
end
end
end Go.Proofs.YtffhepbppiocbacGreat