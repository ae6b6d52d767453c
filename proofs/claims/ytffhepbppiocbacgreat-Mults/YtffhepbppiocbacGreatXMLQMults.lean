import Derived.Test.YtffhepbppiocbacGreatXMQF
namespace Go.Proofs.YtffhepbppiocbacGreat
open Go.RowKit Go.Proofs.Tryz
set_option maxRecDepth 100000
set_option maxHeartbeats 8000000
section
attribute [local go_sem ↓] uz1
attribute [local go_sem] uz2
section
attribute [local go_sem] uz8
attribute [local go_sem ↓] uz17 Go.wp_at_zero Go.wp_at_succ
attribute [local go_sem] uz18
theorem lqmults_0(id:Int)(h:id<1∨15<id){t:Nat}{P:Q3}(w:World):Cg 6 #[.int .i64 id,.agg (nw 9 t),.agg (pnQ P)] w (.bool true):=by
 have K:Hid (∀w,Cg 16 #[.int .i64 id] w (.tuple #[.agg #[.int .i64 0,.slice none 0 0,.slice none 0 0,.slice none 0 0,.slice none 0 0,.slice none 0 0,.slice none 0 0],.bool false])):=fun w=>get_no id h w;have U:Hid (∀w,Cg 34 #[] w (.bool true)):=fun w=>awake18_any w
 go_enter func6,ntmps6
 go_upto_region 1 with fail
 refine gen_w (fun v=>Hid (Gr w v∧Vr v (w.heap.size) (nw 9 t)∧Vr v (w.heap.size+1) (pnQ P))) ⟨grA,vrA,vrA⟩ ?_;intro u0 HV
 go_upto_region 2 with (go_at_call 16;refine(K.out _).mono ?_;rintro e V ⟨rfl,S⟩)
 obtain⟨e7,C⟩:=exl (V.heap.size);simp only[C]
 refine gen_w (fun v=>Gr w v∧Vr v (w.heap.size) (nw 9 t)∧Vr v (w.heap.size+1) (pnQ P)) ?_ ?_
 ·subst C;obtain⟨G,I,J⟩:=HV.out;have W:Gr V (V.alloc (.cells (#[.int .i64 0,.slice none 0 0,.slice none 0 0,.slice none 0 0,.slice none 0 0,.slice none 0 0,.slice none 0 0]) 27)):=(Gr.refl _).alloc _;exact⟨(G.trans S).trans W,(I.gr S).gr W,(J.gr S).gr W⟩
 clear C S K HV;rintro D ⟨G,I,J⟩
 go_upto_region 3 with (go_at_call 27;refine(new_any _).mono ?_;rintro e w' ⟨rfl,rfl⟩)
 refine gen_w (fun v=>Gr D v∧Tr v (D.heap.size) (.slice none 0 0) []) ⟨grA,Tr.new _⟩ ?_;rintro vr ⟨i,H⟩;have hu:D.heap.size≤D.heap.size:=Nat.le_refl _;refine wp_v false [.c (pv (D.heap.size) 0),.c (.int .i64 id),.N t,.c (.agg (pnQ P)),.c (.tuple #[.agg (pnt 0 0 false),.int .i64 1800]),.c (.tuple #[.agg (pnt 0 0 false),.int .i64 1800]),.c (.agg (pnt 0 0 false)),.c (.int .i64 1800),.a,.u,.c (.int .i64 1800)] [2,3,4] [⟨8,9,35,pnt 0 0 false,fun _=>pnt 0 0 false⟩] ⟨.g 33 0 (I.gr i) rfl,.g 35 0 (J.gr i) rfl,.z (mmul_no id h (P:=P) (d:=t) (.pointer (some ⟨D.heap.size,0,none⟩))),⟨⟩⟩ ⟨.k zPnt (.t rfl),⟨⟩⟩ fun L v1 f h3 X=>?_;simp only[fzw,Kw.a];obtain⟨⟨ac,x⟩,-⟩:(vr.heap.size≤(L 8 0).2∧Vr v1 (L 8 0).2 (pnt 0 0 false))∧True:=X;clear h3;replace i:=i.trans f;have j:=f;clear f
 go_upto_region 4 with fail
 refine wp_v false [.c (.int .i64 id),.N t,.c (.agg (pnQ P)),.c (.tuple #[.agg (pnt 0 0 false),.int .i64 1800]),.c (.tuple #[.agg (pnt 0 0 false),.int .i64 1800]),.c (.agg (pnt 0 0 false)),.c (.int .i64 1800),.a,.u,.c (.int .i64 1800)] [1,2,3] [⟨7,8,35,pnt 0 0 false,fun _=>pnt 0 0 false⟩] ⟨.g 33 0 (I.gr i) rfl,.g 35 0 (J.gr i) rfl,.z (mmul_no id h (P:=P) (d:=t) (Value.pointer none)),⟨⟩⟩ ⟨.k zPnt (.t rfl),⟨⟩⟩ fun Q v2 f h4 Y=>?_;simp only[fzw,Kw.a];obtain⟨⟨ae,B⟩,-⟩:(v1.heap.size≤(Q 7 0).2∧Vr v2 (Q 7 0).2 (pnt 0 0 false))∧True:=Y;clear h4;replace j:=j.trans f;replace i:=i.trans f;have q:=f;clear f
 go_upto_region 5 with fail
 refine wp_wS [.O] [] ⟨⟩ fun ai v3 f h5=>?_;simp only[fzw];clear h5;replace j:=j.trans f;replace q:=q.trans f;replace i:=i.trans f;have A:=f;clear f
 go_upto_region 6 with fail
 refine wp_wS [.F,.T,.T] [] ⟨⟩ fun aj v4 f h6=>?_;simp only[fzw];clear h6;replace j:=j.trans f;replace q:=q.trans f;replace A:=A.trans f;replace i:=i.trans f;clear f
 go_upto_region 7 with fail
 refine wp_wS [.c (.int .i64 1800)] [] ⟨⟩ fun ak v5 f h7=>?_;simp only[fzw];clear h7;replace j:=j.trans f;replace q:=q.trans f;replace A:=A.trans f;replace i:=i.trans f;clear f
 go_upto_region 12 with fail
 refine wp_wS [.c (.int .i64 1800),.c (.int .i64 1800),.c (.int .i64 1800),.F,.F,.c (.int .i64 1800),.c (.int .i64 1800),.c (.int .i64 1800),.F,.F,.F,.c (.agg (pnt 0 0 false)),.c (.agg (pnt 0 0 false)),.F,.F] [1,6,11,12,13] ⟨.y (num_any _),.y (num_any _),.g 35 0 (x.gr q) rfl,.g 35 0 (B.gr A) rfl,.s (.binOp .neq 35 (.const (.agg (pnt 0 0 false))) (.const (.agg (pnt 0 0 false))) 35) rfl fun vv f=>by simp[go_sem,exI,nePn,eqN_self],⟨⟩⟩ fun af v6 f Z=>?_;simp only[fzw];clear Z;replace j:=j.trans f;replace q:=q.trans f;replace A:=A.trans f;replace i:=i.trans f;clear f
 go_upto_region 14 with fail
 refine wp_wS [.c (.int .i64 1800),.T] [] ⟨⟩ fun ag v7 f aa=>?_;simp only[fzw];clear aa;replace j:=j.trans f;replace q:=q.trans f;replace A:=A.trans f;replace i:=i.trans f;clear f
 go_upto_region 15 with fail
 refine wp_wS [.c (.agg (pnt 0 0 false)),.c (.agg (pnt 0 0 false)),.T,.T,.c (pv (D.heap.size) 0),.O,.T,.T,.T,.T,.T,.T] [0,2,5,9] ⟨.g 35 0 (x.gr q) rfl,.s (.binOp .eql 35 (.const (.agg (pnt 0 0 false))) (.const (.agg (pnt 0 0 false))) 35) rfl fun vv f=>by simp[go_sem,exI,eqPn,eqN_self],.k _ fun yy vv f hh=>RtW.of_c (Rt.same (lenT (H.gr (j.trans f)) rfl)),.z U.out,⟨⟩⟩ fun ah v8 f ab=>?_;simp only[fzw];clear ab;replace j:=j.trans f;replace q:=q.trans f;replace A:=A.trans f;replace i:=i.trans f;clear f;replace G:=G.trans i;replace I:=I.gr i;replace J:=J.gr i;replace H:=H.gr j;replace x:=x.gr q;replace B:=B.gr A;clear j q A i
 go_wp2_with fail
 go_ret
 exact⟨rfl,G⟩
theorem lqmults_1{k:Nat}(h1:1≤k)(h2:k≤15){t:Nat}{P:Q3}(lP:P.1<M∧P.2.1<M)(oP:onB k P.1 P.2.1 P.2.2=false)(w:World):Cg 6 #[.int .i64 k,.agg (nw 9 t),.agg (pnQ P)] w (.bool true):=by
 have S:Hid (∀w,Calls prog 16 #[.int .i64 k] w (GetQ k w)):=fun w=>getq_yes k h1 h2 w;have aa:Hid (∀w,Cg 34 #[] w (.bool true)):=fun w=>awake18_any w
 go_enter func6,ntmps6
 go_upto_region 1 with fail
 refine gen_w (fun v=>Hid (Gr w v∧Vr v (w.heap.size) (nw 9 t)∧Vr v (w.heap.size+1) (pnQ P))) ⟨grA,vrA,vrA⟩ ?_;intro u0 HV
 go_upto_region 2 with (go_at_call 16;refine(S.out _).mono ?_;rintro e WB ⟨K,rfl,L,W⟩)
 obtain⟨e7,C⟩:=exl (WB.heap.size);simp only[C]
 refine gen_w (fun v=>Gr w v∧Vr v (w.heap.size) (nw 9 t)∧Vr v (w.heap.size+1) (pnQ P)∧Vr v e7 (crA (k:Int) (nN k) K)∧∀j,Sl v (K j).1 (nN k j)) ?_ ?_
 ·subst C;obtain⟨G,Q,D⟩:=HV.out;have X:Gr WB (WB.alloc (.cells (crA (k:Int) (nN k) K) 27)):=(Gr.refl _).alloc _;exact⟨(G.trans W).trans X,(Q.gr W).gr X,(D.gr W).gr X,Vr.new _ _ _,fun j=>(L j).gr X⟩
 clear C W S HV L;rintro H ⟨G,Q,D,c7,L⟩
 go_upto_region 3 with (go_at_call 27;refine(new_any _).mono ?_;rintro e w' ⟨rfl,rfl⟩)
 refine gen_w (fun v=>Gr H v∧Tr v (H.heap.size) (.slice none 0 0) []) ⟨grA,Tr.new _⟩ ?_;rintro vr ⟨h,I⟩;have hu:H.heap.size≤H.heap.size:=Nat.le_refl _;refine wp_v false [.c (pv (H.heap.size) 0),.c (.int .i64 k),.N t,.c (.agg (pnQ P)),.c (.tuple #[.agg (pnt 0 0 false),.int .i64 1801]),.c (.tuple #[.agg (pnt 0 0 false),.int .i64 1801]),.c (.agg (pnt 0 0 false)),.c (.int .i64 1801),.a,.u,.c (.int .i64 1801)] [2,3,4] [⟨8,9,35,pnt 0 0 false,fun _=>pnt 0 0 false⟩] ⟨.g 33 0 (Q.gr h) rfl,.g 35 0 (D.gr h) rfl,.z (mmul_off h1 h2 (P:=P) lP oP (d:=t) (.pointer (some ⟨H.heap.size,0,none⟩))),⟨⟩⟩ ⟨.k zPnt (.t rfl),⟨⟩⟩ fun U v1 f h3 ab=>?_;simp only[fzw,Kw.a];obtain⟨⟨ah,A⟩,-⟩:(vr.heap.size≤(U 8 0).2∧Vr v1 (U 8 0).2 (pnt 0 0 false))∧True:=ab;clear h3;replace h:=h.trans f;have i:=f;clear f
 go_upto_region 4 with fail
 refine wp_v false [.c (.int .i64 k),.N t,.c (.agg (pnQ P)),.c (.tuple #[.agg (pnt 0 0 false),.int .i64 1801]),.c (.tuple #[.agg (pnt 0 0 false),.int .i64 1801]),.c (.agg (pnt 0 0 false)),.c (.int .i64 1801),.a,.u,.c (.int .i64 1801)] [1,2,3] [⟨7,8,35,pnt 0 0 false,fun _=>pnt 0 0 false⟩] ⟨.g 33 0 (Q.gr h) rfl,.g 35 0 (D.gr h) rfl,.z (mmul_off h1 h2 (P:=P) lP oP (d:=t) (Value.pointer none)),⟨⟩⟩ ⟨.k zPnt (.t rfl),⟨⟩⟩ fun V v2 f h4 ac=>?_;simp only[fzw,Kw.a];obtain⟨⟨ai,B⟩,-⟩:(v1.heap.size≤(V 7 0).2∧Vr v2 (V 7 0).2 (pnt 0 0 false))∧True:=ac;clear h4;replace i:=i.trans f;replace h:=h.trans f;have q:=f;clear f
 go_upto_region 5 with fail
 refine wp_wS [.O] [] ⟨⟩ fun ap v3 f h5=>?_;simp only[fzw];clear h5;replace i:=i.trans f;replace q:=q.trans f;replace h:=h.trans f;have x:=f;clear f
 go_upto_region 6 with fail
 refine wp_wS [.T,.F,.F] [] ⟨⟩ fun aq v4 f h6=>?_;simp only[fzw];clear h6;replace i:=i.trans f;replace q:=q.trans f;replace x:=x.trans f;replace h:=h.trans f;clear f
 go_upto_region 8 with fail
 refine wp_w [.c (.agg (crA (k:Int) (nN k) K)),.c (.agg (pnQ P)),.pt (P.1) (P.2.1) P.2.2,.F,.T,.T] [0,1,2,3] ⟨.g 27 0 (c7.gr h) rfl,.g 35 0 (D.gr h) rfl,.k _ fun J Y f Z=>RtW.of_pt (rin_any _ _ _ lP.1 lP.2 _),.k (fun J =>#[.agg (crA (k:Int) (nN k) K),.agg (ptA (J 2 0).1 (P.1) (J 2 0).2 (J 2 1).1 (P.2.1) (J 2 1).2 P.2.2)]) fun J Y f Z=>RtW.of_c (ron_is h1 h2 lP oP K (fun j=>(L j).gr (h.trans f)) (Z 2 rfl).1 (Z 2 rfl).2),⟨⟩⟩ fun ar v5 f h8=>?_;simp only[fzw];clear h8;replace i:=i.trans f;replace q:=q.trans f;replace x:=x.trans f;replace h:=h.trans f;clear f
 go_upto_region 9 with fail
 refine wp_wS [.c (.int .i64 1801)] [] ⟨⟩ fun au v6 f h9=>?_;simp only[fzw];clear h9;replace i:=i.trans f;replace q:=q.trans f;replace x:=x.trans f;replace h:=h.trans f;clear f
 go_upto_region 12 with fail
 refine wp_wS [.c (.int .i64 1801),.c (.int .i64 1801),.c (.int .i64 1801),.F,.F,.c (.int .i64 1801),.c (.int .i64 1801),.c (.int .i64 1801),.F,.F,.F,.c (.agg (pnt 0 0 false)),.c (.agg (pnt 0 0 false)),.F,.F] [1,6,11,12,13] ⟨.y (num_any _),.y (num_any _),.g 35 0 (A.gr q) rfl,.g 35 0 (B.gr x) rfl,.s (.binOp .neq 35 (.const (.agg (pnt 0 0 false))) (.const (.agg (pnt 0 0 false))) 35) rfl fun Y f=>by simp[go_sem,exI,nePn,eqN_self],⟨⟩⟩ fun aj v7 f ae=>?_;simp only[fzw];clear ae;replace i:=i.trans f;replace q:=q.trans f;replace x:=x.trans f;replace h:=h.trans f;clear f
 go_upto_region 14 with fail
 refine wp_wS [.c (.int .i64 1801),.T] [] ⟨⟩ fun ak v8 f af=>?_;simp only[fzw];clear af;replace i:=i.trans f;replace q:=q.trans f;replace x:=x.trans f;replace h:=h.trans f;clear f
 go_upto_region 15 with fail
 refine wp_wS [.c (.agg (pnt 0 0 false)),.c (.agg (pnt 0 0 false)),.T,.T,.c (pv (H.heap.size) 0),.O,.T,.T,.T,.T,.T,.T] [0,2,5,9] ⟨.g 35 0 (A.gr q) rfl,.s (.binOp .eql 35 (.const (.agg (pnt 0 0 false))) (.const (.agg (pnt 0 0 false))) 35) rfl fun Y f=>by simp[go_sem,exI,eqPn,eqN_self],.k _ fun J Y f Z=>RtW.of_c (Rt.same (lenT (I.gr (i.trans f)) rfl)),.z aa.out,⟨⟩⟩ fun ao v9 f ag=>?_;simp only[fzw];clear ag;replace i:=i.trans f;replace q:=q.trans f;replace x:=x.trans f;replace h:=h.trans f;clear f;replace G:=G.trans h;replace Q:=Q.gr h;replace D:=D.gr h;replace c7:=c7.gr h;replace L:=fun k=>(L k).gr h;replace I:=I.gr i;replace A:=A.gr q;replace B:=B.gr x;clear i q x h
 go_wp2_with fail
 go_ret
 exact⟨rfl,G⟩
theorem lqmults_2{k:Nat}(h1:1≤k)(h2:k≤15){t:Nat}(ht:t<M){P:Q3}(lP:P.1<M∧P.2.1<M)(oP:OnQ k P)(gt:oN k≤t)(w:World):Cg 6 #[.int .i64 k,.agg (nw 9 t),.agg (pnQ P)] w (.bool true):=by
 have V:Hid (∀w,Calls prog 16 #[.int .i64 k] w (GetQ k w)):=fun w=>getq_yes k h1 h2 w;have aa:Hid (∀w,Cg 34 #[] w (.bool true)):=fun w=>awake18_any w;obtain⟨z,hz⟩:=exl (cmpZ t (oN k))
 have ab:dl t≤400:=by have:=dl_M t ht;omega
 have ac:dl (oN k)≤400:=by have:=oN_dl k;omega
 have z0:0≤z:=by rw[←hz];unfold cmpZ;rw[if_neg (Nat.not_lt.2 gt)];split <;> omega
 go_enter func6,ntmps6
 go_upto_region 1 with fail
 refine gen_w (fun v=>Hid (Gr w v∧Vr v (w.heap.size) (nw 9 t)∧Vr v (w.heap.size+1) (pnQ P))) ⟨grA,vrA,vrA⟩ ?_;intro u0 HV
 go_upto_region 2 with (go_at_call 16;refine(V.out _).mono ?_;rintro e WB ⟨D,rfl,H,Y⟩)
 obtain⟨e7,I⟩:=exl (WB.heap.size);simp only[I]
 refine gen_w (fun v=>Gr w v∧Vr v (w.heap.size) (nw 9 t)∧Vr v (w.heap.size+1) (pnQ P)∧Vr v e7 (crA (k:Int) (nN k) D)∧∀j,Sl v (D j).1 (nN k j)) ?_ ?_
 ·subst I;obtain⟨G,J,K⟩:=HV.out;have Z:Gr WB (WB.alloc (.cells (crA (k:Int) (nN k) D) 27)):=(Gr.refl _).alloc _;exact⟨(G.trans Y).trans Z,(J.gr Y).gr Z,(K.gr Y).gr Z,Vr.new _ _ _,fun j=>(H j).gr Z⟩
 clear I Y V HV H;rintro L ⟨G,J,K,c7,H⟩
 go_upto_region 3 with (go_at_call 27;refine(new_any _).mono ?_;rintro e w' ⟨rfl,rfl⟩)
 refine gen_w (fun v=>Gr L v∧Tr v (L.heap.size) (.slice none 0 0) []) ⟨grA,Tr.new _⟩ ?_;rintro vr ⟨h,Q⟩;have hu:L.heap.size≤L.heap.size:=Nat.le_refl _;refine wp_v false [.c (pv (L.heap.size) 0),.c (.int .i64 k),.N t,.c (.agg (pnQ P)),.c (.tuple #[.agg (pnt 0 0 false),.int .i64 1802]),.c (.tuple #[.agg (pnt 0 0 false),.int .i64 1802]),.c (.agg (pnt 0 0 false)),.c (.int .i64 1802),.a,.u,.c (.int .i64 1802)] [2,3,4] [⟨8,9,35,pnt 0 0 false,fun _=>pnt 0 0 false⟩] ⟨.g 33 0 (J.gr h) rfl,.g 35 0 (K.gr h) rfl,.z (mmul_big h1 h2 (P:=P) oP (d:=t) ht gt (.pointer (some ⟨L.heap.size,0,none⟩))),⟨⟩⟩ ⟨.k zPnt (.t rfl),⟨⟩⟩ fun W v1 f h3 ae=>?_;simp only[fzw,Kw.a];obtain⟨⟨ao,A⟩,-⟩:(vr.heap.size≤(W 8 0).2∧Vr v1 (W 8 0).2 (pnt 0 0 false))∧True:=ae;clear h3;replace h:=h.trans f;have i:=f;clear f
 go_upto_region 4 with fail
 refine wp_v false [.c (.int .i64 k),.N t,.c (.agg (pnQ P)),.c (.tuple #[.agg (pnt 0 0 false),.int .i64 1802]),.c (.tuple #[.agg (pnt 0 0 false),.int .i64 1802]),.c (.agg (pnt 0 0 false)),.c (.int .i64 1802),.a,.u,.c (.int .i64 1802)] [1,2,3] [⟨7,8,35,pnt 0 0 false,fun _=>pnt 0 0 false⟩] ⟨.g 33 0 (J.gr h) rfl,.g 35 0 (K.gr h) rfl,.z (mmul_big h1 h2 (P:=P) oP (d:=t) ht gt (Value.pointer none)),⟨⟩⟩ ⟨.k zPnt (.t rfl),⟨⟩⟩ fun X v2 f h4 af=>?_;simp only[fzw,Kw.a];obtain⟨⟨ap,C⟩,-⟩:(v1.heap.size≤(X 7 0).2∧Vr v2 (X 7 0).2 (pnt 0 0 false))∧True:=af;clear h4;replace i:=i.trans f;replace h:=h.trans f;have q:=f;clear f
 go_upto_region 5 with fail
 refine wp_wS [.O] [] ⟨⟩ fun ax v3 f h5=>?_;simp only[fzw];clear h5;replace i:=i.trans f;replace q:=q.trans f;replace h:=h.trans f;have x:=f;clear f
 go_upto_region 6 with fail
 refine wp_wS [.T,.F,.F] [] ⟨⟩ fun ay v4 f h6=>?_;simp only[fzw];clear h6;replace i:=i.trans f;replace q:=q.trans f;replace x:=x.trans f;replace h:=h.trans f;clear f
 go_upto_region 8 with fail
 refine wp_w [.c (.agg (crA (k:Int) (nN k) D)),.c (.agg (pnQ P)),.pt (P.1) (P.2.1) P.2.2,.T,.F,.F] [0,1,2,3] ⟨.g 27 0 (c7.gr h) rfl,.g 35 0 (K.gr h) rfl,.k _ fun B S f U=>RtW.of_pt (rin_any _ _ _ lP.1 lP.2 _),.k (fun B =>#[.agg (crA (k:Int) (nN k) D),.agg (ptA (B 2 0).1 (P.1) (B 2 0).2 (B 2 1).1 (P.2.1) (B 2 1).2 P.2.2)]) fun B S f U=>RtW.of_c (ron_is h1 h2 lP oP D (fun j=>(H j).gr (h.trans f)) (U 2 rfl).1 (U 2 rfl).2),⟨⟩⟩ fun az v5 f h8=>?_;simp only[fzw];clear h8;replace i:=i.trans f;replace q:=q.trans f;replace x:=x.trans f;replace h:=h.trans f;clear f
 go_upto_region 10 with fail
 refine wp_w [.N t,.n (t),.c (pv e7 4),.c (.slice (D 3).1 (dl (oN k)) (D 3).2),.c (.int .i64 z),.T,.T] [0,1,3,4,5] ⟨.g 33 0 (J.gr h) rfl,.k _ fun B S f U=>RtW.of_n (fm_any ht),.o 25 4 (c7.gr h) rfl rfl,.k (fun B =>#[.slice (B 1 0).1 (dl (t)) (B 1 0).2,.slice (D 3).1 (dl (oN k)) (D 3).2]) fun B S f U=>RtW.of_c (cz_any (U 1 rfl) ((H 3).gr (h.trans f)) ab ac hz),.s (.binOp .geq 3 (.const (.int .i64 z)) (.const (.int .i64 0)) 3) rfl fun S f=>by simp[go_sem,exI,z0],⟨⟩⟩ fun aq v6 f ag=>?_;simp only[fzw];clear ag;replace i:=i.trans f;replace q:=q.trans f;replace x:=x.trans f;replace h:=h.trans f;clear f
 go_upto_region 11 with fail
 refine wp_wS [.c (.int .i64 1802)] [] ⟨⟩ fun ar v7 f ah=>?_;simp only[fzw];clear ah;replace i:=i.trans f;replace q:=q.trans f;replace x:=x.trans f;replace h:=h.trans f;clear f
 go_upto_region 12 with fail
 refine wp_wS [.c (.int .i64 1802),.c (.int .i64 1802),.c (.int .i64 1802),.F,.F,.c (.int .i64 1802),.c (.int .i64 1802),.c (.int .i64 1802),.F,.F,.F,.c (.agg (pnt 0 0 false)),.c (.agg (pnt 0 0 false)),.F,.F] [1,6,11,12,13] ⟨.y (num_any _),.y (num_any _),.g 35 0 (A.gr q) rfl,.g 35 0 (C.gr x) rfl,.s (.binOp .neq 35 (.const (.agg (pnt 0 0 false))) (.const (.agg (pnt 0 0 false))) 35) rfl fun S f=>by simp[go_sem,exI,nePn,eqN_self],⟨⟩⟩ fun au v8 f ai=>?_;simp only[fzw];clear ai;replace i:=i.trans f;replace q:=q.trans f;replace x:=x.trans f;replace h:=h.trans f;clear f
 go_upto_region 14 with fail
 refine wp_wS [.c (.int .i64 1802),.T] [] ⟨⟩ fun av v9 f aj=>?_;simp only[fzw];clear aj;replace i:=i.trans f;replace q:=q.trans f;replace x:=x.trans f;replace h:=h.trans f;clear f
 go_upto_region 15 with fail
 refine wp_wS [.c (.agg (pnt 0 0 false)),.c (.agg (pnt 0 0 false)),.T,.T,.c (pv (L.heap.size) 0),.O,.T,.T,.T,.T,.T,.T] [0,2,5,9] ⟨.g 35 0 (A.gr q) rfl,.s (.binOp .eql 35 (.const (.agg (pnt 0 0 false))) (.const (.agg (pnt 0 0 false))) 35) rfl fun S f=>by simp[go_sem,exI,eqPn,eqN_self],.k _ fun B S f U=>RtW.of_c (Rt.same (lenT (Q.gr (i.trans f)) rfl)),.z aa.out,⟨⟩⟩ fun aw aA f ak=>?_;simp only[fzw];clear ak;replace i:=i.trans f;replace q:=q.trans f;replace x:=x.trans f;replace h:=h.trans f;clear f;replace G:=G.trans h;replace J:=J.gr h;replace K:=K.gr h;replace c7:=c7.gr h;replace H:=fun k=>(H k).gr h;replace Q:=Q.gr i;replace A:=A.gr q;replace C:=C.gr x;clear i q x h
 go_wp2_with fail
 go_ret
 exact⟨rfl,G⟩
theorem lqmults_3{k:Nat}(h1:1≤k)(h2:k≤15){t:Nat}(ht:t<M){P:Q3}(lP:P.1<M∧P.2.1<M)(oP:OnQ k P)(lt:t<oN k)(w:World):Cg 6 #[.int .i64 k,.agg (nw 9 t),.agg (pnQ P)] w (.bool true):=by
 have Z:Hid (∀w,Calls prog 16 #[.int .i64 k] w (GetQ k w)):=fun w=>getq_yes k h1 h2 w;have af:Hid (∀w,Cg 34 #[] w (.bool true)):=fun w=>awake18_any w;obtain⟨z,hz⟩:=exl (cmpZ t (oN k))
 have aa:dl t≤400:=by have:=dl_M t ht;omega
 have ag:dl (oN k)≤400:=by have:=oN_dl k;omega
 have z0:¬0≤z:=by rw[←hz];unfold cmpZ;rw[if_pos lt];decide
 obtain⟨A,hA⟩:=exl (mlQ k t P)
 go_enter func6,ntmps6
 go_upto_region 1 with fail
 refine gen_w (fun v=>Hid (Gr w v∧Vr v (w.heap.size) (nw 9 t)∧Vr v (w.heap.size+1) (pnQ P))) ⟨grA,vrA,vrA⟩ ?_;intro u0 HV
 go_upto_region 2 with (go_at_call 16;refine(Z.out _).mono ?_;rintro e WB ⟨I,rfl,U,GB⟩)
 obtain⟨e7,X⟩:=exl (WB.heap.size);simp only[X]
 refine gen_w (fun v=>Gr w v∧Vr v (w.heap.size) (nw 9 t)∧Vr v (w.heap.size+1) (pnQ P)∧Vr v e7 (crA (k:Int) (nN k) I)∧∀j,Sl v (I j).1 (nN k j)) ?_ ?_
 ·subst X;obtain⟨G,V,W⟩:=HV.out;have g1:Gr WB (WB.alloc (.cells (crA (k:Int) (nN k) I) 27)):=(Gr.refl _).alloc _;exact⟨(G.trans GB).trans g1,(V.gr GB).gr g1,(W.gr GB).gr g1,Vr.new _ _ _,fun j=>(U j).gr g1⟩
 clear X GB Z HV U;rintro S ⟨G,V,W,c7,U⟩
 go_upto_region 3 with (go_at_call 27;refine(new_any _).mono ?_;rintro e w' ⟨rfl,rfl⟩)
 refine gen_w (fun v=>Gr S v∧Tr v (S.heap.size) (.slice none 0 0) []) ⟨grA,Tr.new _⟩ ?_;rintro vr ⟨q,J⟩;have hu:S.heap.size≤S.heap.size:=Nat.le_refl _;refine wp_x false [.c (pv (S.heap.size) 0),.c (.int .i64 k),.c (.agg (nw 9 t)),.c (.agg (pnQ P)),.c (.tuple #[.agg (pnQ A),.int .i64 0]),.c (.tuple #[.agg (pnQ A),.int .i64 0]),.c (.agg (pnQ A)),.c (.int .i64 0),.vt vr.heap.size (pnt 0 0 false) 35,.u,.c (.int .i64 0)] [2,3,8] 4 9 (fun v u=>Kp (fun b=>b<vr.heap.size) v u) (MrI vr (S.heap.size) (evN k)) (fun x v=>Kp (fun b=>b=S.heap.size) vr v∧∃z,Tr v (S.heap.size) z (evN k)∧Vr v (x 8 0).2 (pnQ A)) 30 (fun _ =>#[.pointer (some ⟨S.heap.size,0,none⟩),.int .i64 k,.agg (nw 9 t),.agg (pnQ P)]) 35 (fun x=>pv (x 8 0).2 0) (fun _=>.agg (pnQ A)) (MrI.start J) (fun _ _ _ h g=>h.gr g) ?xo28 ?xm28 ?xs28 ⟨fnc,fnc,fnc,fnc,fnc,fnc,fnc,fnc,fnvt,fnu,fnc,trivial⟩ ?xf28
 case xo28=>
  rintro _ v Y;have ab:=Y.g q hu;refine .cons (.g 33 0 (V.gr ab) rfl) ?_;refine .cons (.g 35 0 (W.gr ab) rfl) ?_;exact .cons (.n 35 rfl Y.k.size) .nil
 case xm28=>exact fun _ _ Y _=>Y.mul J.lt fun hT=>mulR h1 h2 (P:=P) oP (d:=t) lt (Q:=A) hA hT
 case xs28=>
  rintro x v Y hy;obtain⟨hN,C⟩:=hy 8 (by kernel_rfl);have HT:=(vr_vt C).h;have FT:=(vr_vt C).f;exact⟨setBlk v _ (pnQ A),by simp[go_sem,exI,HT,FT],Y.set J.lt hN C (by rw[pnt_size];decide) (by decide) _⟩
 rintro ax ah ⟨k3,z3,ac,V3⟩;simp only[fzw,Kw.vt];replace q:=gr_kp q k3 (fun b hb e=>by subst e;have:=hu;omega);replace J:=ac;clear ac k3
 go_upto_region 4 with fail
 refine wp_v false [.c (.int .i64 k),.N t,.c (.agg (pnQ P)),.E (.agg (pnQ A)),.E (.agg (pnQ A)),.c (.agg (pnQ A)),.O,.a,.u,.O] [1,2,3] [⟨7,8,35,pnt 0 0 false,fun _=>pnQ A⟩] ⟨.g 33 0 (V.gr q) rfl,.g 35 0 (W.gr q) rfl,.z (mulM h1 h2 (P:=P) oP (d:=t) lt (Q:=A) hA),⟨⟩⟩ ⟨.k zPnt (.t rfl),⟨⟩⟩ fun ae v1 i h4 ai=>?_;simp only[fzw,Kw.a];obtain⟨⟨aq,K⟩,-⟩:(ah.heap.size≤(ae 7 0).2∧Vr v1 (ae 7 0).2 (pnQ A))∧True:=ai;clear h4;replace q:=q.trans i;have D:=i;clear i
 go_upto_region 5 with fail
 refine wp_wS [.O] [] ⟨⟩ fun ay v2 i h5=>?_;simp only[fzw];clear h5;replace D:=D.trans i;replace q:=q.trans i;have H:=i;clear i
 go_upto_region 6 with fail
 refine wp_wS [.T,.F,.F] [] ⟨⟩ fun az v3 i h6=>?_;simp only[fzw];clear h6;replace D:=D.trans i;replace H:=H.trans i;replace q:=q.trans i;clear i
 go_upto_region 8 with fail
 refine wp_w [.c (.agg (crA (k:Int) (nN k) I)),.c (.agg (pnQ P)),.pt (P.1) (P.2.1) P.2.2,.T,.F,.F] [0,1,2,3] ⟨.g 27 0 (c7.gr q) rfl,.g 35 0 (W.gr q) rfl,.k _ fun B L i C=>RtW.of_pt (rin_any _ _ _ lP.1 lP.2 _),.k (fun B =>#[.agg (crA (k:Int) (nN k) I),.agg (ptA (B 2 0).1 (P.1) (B 2 0).2 (B 2 1).1 (P.2.1) (B 2 1).2 P.2.2)]) fun B L i C=>RtW.of_c (ron_is h1 h2 lP oP I (fun j=>(U j).gr (q.trans i)) (C 2 rfl).1 (C 2 rfl).2),⟨⟩⟩ fun aA v4 i h8=>?_;simp only[fzw];clear h8;replace D:=D.trans i;replace H:=H.trans i;replace q:=q.trans i;clear i
 go_upto_region 10 with fail
 refine wp_w [.N t,.n (t),.c (pv e7 4),.c (.slice (I 3).1 (dl (oN k)) (I 3).2),.c (.int .i64 z),.F,.F] [0,1,3,4,5] ⟨.g 33 0 (V.gr q) rfl,.k _ fun B L i C=>RtW.of_n (fm_any ht),.o 25 4 (c7.gr q) rfl rfl,.k (fun B =>#[.slice (B 1 0).1 (dl (t)) (B 1 0).2,.slice (I 3).1 (dl (oN k)) (I 3).2]) fun B L i C=>RtW.of_c (cz_any (C 1 rfl) ((U 3).gr (q.trans i)) aa ag hz),.s (.binOp .geq 3 (.const (.int .i64 z)) (.const (.int .i64 0)) 3) rfl fun L i=>by simp[go_sem,exI,z0],⟨⟩⟩ fun ar v5 i aj=>?_;simp only[fzw];clear aj;replace D:=D.trans i;replace H:=H.trans i;replace q:=q.trans i;clear i
 go_upto_region 12 with fail
 refine wp_wS [.O,.O,.O,.F,.F,.O,.O,.O,.F,.F,.F,.c (.agg (pnQ A)),.c (.agg (pnQ A)),.F,.F] [1,6,11,12,13] ⟨.y (num_any _),.y (num_any _),.g 35 0 (V3.gr D) rfl,.g 35 0 (K.gr H) rfl,.s (.binOp .neq 35 (.const (.agg (pnQ A))) (.const (.agg (pnQ A))) 35) rfl fun L i=>by simp[go_sem,exI,nePn,eqN_self],⟨⟩⟩ fun au v6 i ak=>?_;simp only[fzw];clear ak;replace D:=D.trans i;replace H:=H.trans i;replace q:=q.trans i;clear i
 go_upto_region 14 with fail
 refine wp_wS [.O,.F] [] ⟨⟩ fun av v7 i ao=>?_;simp only[fzw];clear ao;replace D:=D.trans i;replace H:=H.trans i;replace q:=q.trans i;clear i
 go_upto_region 16 with fail
 refine wp_w [.c (.agg (pnQ A)),.c (.agg (crA (k:Int) (nN k) I)),.N t,.n (t),.c (.agg (pnQ P)),.pt (P.1) (P.2.1) P.2.2,.pt (A.1) (A.2.1) A.2.2,.c (.agg (pnQ A)),.T,.T,.T,.T,.T] [0,1,2,3,4,5,6,7,8,10] ⟨.g 35 0 (V3.gr D) rfl,.g 27 0 (c7.gr q) rfl,.g 33 0 (V.gr q) rfl,.k _ fun B L i C=>RtW.of_n (fm_any ht),.g 35 0 (W.gr q) rfl,.k _ fun B L i C=>RtW.of_pt (rin_any _ _ _ lP.1 lP.2 _),.k (fun B =>#[.agg (crA (k:Int) (nN k) I),.slice (B 3 0).1 (dl (t)) (B 3 0).2,.agg (ptA (B 5 0).1 (P.1) (B 5 0).2 (B 5 1).1 (P.2.1) (B 5 1).2 P.2.2)]) fun B L i C=>RtW.of_pt (hA▸rtimesQ k h1 h2 I oP aa (fun j=>(U j).gr (q.trans i)) (C 3 rfl) (C 5 rfl).1 (C 5 rfl).2),.k (fun B =>#[.agg (ptA (B 6 0).1 (A.1) (B 6 0).2 (B 6 1).1 (A.2.1) (B 6 1).2 A.2.2)]) fun B L i C=>RtW.of_c (Rt.c (rout_any _ _ _ _ _ _ _ _ (C 6 rfl).1 (C 6 rfl).2)),.s (.binOp .eql 35 (.const (.agg (pnQ A))) (.const (.agg (pnQ A))) 35) rfl fun L i=>by simp[go_sem,exI,eqPn,eqN_self],.z af.out,⟨⟩⟩ fun aw v8 i ap=>?_;simp only[fzw];clear ap;replace D:=D.trans i;replace H:=H.trans i;replace q:=q.trans i;clear i;replace G:=G.trans q;replace V:=V.gr q;replace W:=W.gr q;replace c7:=c7.gr q;replace U:=fun k=>(U k).gr q;replace V3:=V3.gr D;replace J:=J.gr D;replace K:=K.gr H;clear D H q
 go_wp2_with fail
 go_ret
 exact⟨rfl,G⟩
theorem lqmults_any(id:Int)(t:Nat)(ht:t<M)(P:Q3)(lP:P.1<M∧P.2.1<M)(w:World):Cg 6 #[.int .i64 id,.agg (nw 9 t),.agg (pnQ P)] w (.bool true):=by
 by_cases h:1≤id∧id≤15
 ·obtain⟨k,rfl⟩:∃k:Nat,id=(k:Int):=⟨id.toNat,by omega⟩
  have d:1≤k:=by omega
  have f:k≤15:=by omega
  by_cases oP:onB k P.1 P.2.1 P.2.2=true
  ·by_cases lt:t<oN k
   ·exact lqmults_3 d f ht lP oP lt w
   ·exact lqmults_2 d f ht lP oP (Nat.le_of_not_lt lt) w
  ·exact lqmults_1 d f lP (Bool.eq_false_iff.2 oP) w
 ·exact lqmults_0 id (by omega) w
end
end
end Go.Proofs.YtffhepbppiocbacGreat