import Derived.Test.YtffhepbppiocbabGreatXAJH
import Derived.Test.YtffhepbppiocbabGreatXAAU
namespace Go.Proofs.YtffhepbppiocbabGreat
open Go.RowKit Go.Proofs.Tryz
set_option maxRecDepth 100000
set_option maxHeartbeats 8000000
section
attribute [local go_sem ↓] uz1
attribute [local go_sem] uz2
section
attribute [local go_sem] uz7
attribute [local go_sem ↓] uz12 Go.wp_at_zero Go.wp_at_succ
attribute [local go_sem] uz13
attribute [local go_sem ↓] uz16
attribute [local go_sem] uz17
theorem ljfrom_0(id:Int)(h:id<1∨15<id)(P:Q3)(w:World):Cg 7 #[.int .i64 id,.agg (pnQ P)] w (.bool true):=by
 have q:Hid (∀w,Cg 16 #[.int .i64 id] w (.tuple #[.agg #[.int .i64 0,.slice none 0 0,.slice none 0 0,.slice none 0 0,.slice none 0 0,.slice none 0 0,.slice none 0 0],.bool false])):=fun w=>get_no id h w;have C:Hid (∀w,Cg 30 #[] w (.bool true)):=fun w=>awake15_any w
 go_enter func7,ntmps7
 go_upto_region 1 with fail
 refine gen_w (fun v=>Hid (Gr w v∧Vr v (w.heap.size) (pnQ P))) ⟨grA,vrA⟩ ?_;intro Z J
 go_upto_region 2 with (go_at_call 16;refine(q.out _).mono ?_;rintro e D ⟨rfl,H⟩)
 obtain⟨e7,i⟩:=exl (D.heap.size);simp only[i]
 refine gen_w (fun v=>Gr w v∧Vr v (w.heap.size) (pnQ P)) ?_ ?_
 ·subst i;obtain⟨G,x⟩:=J.out;have K:Gr D (D.alloc (.cells (#[.int .i64 0,.slice none 0 0,.slice none 0 0,.slice none 0 0,.slice none 0 0,.slice none 0 0,.slice none 0 0]) 27)):=(Gr.refl _).alloc _;exact⟨(G.trans H).trans K,(x.gr H).gr K⟩
 clear i H q J;rintro Q ⟨G,x⟩;refine wp_v false [.c (.int .i64 id),.c (.agg (pnQ P)),.c (.tuple #[.agg (prj 0 0 0),.int .i64 1500]),.c (.tuple #[.agg (prj 0 0 0),.int .i64 1500]),.c (.agg (prj 0 0 0)),.c (.int .i64 1500),.a,.u,.c (.int .i64 1500)] [1,2] [⟨6,7,53,prj 0 0 0,fun _=>prj 0 0 0⟩] ⟨.g 35 0 x rfl,.z (from_no id h P),⟨⟩⟩ ⟨.k zPj (.t rfl),⟨⟩⟩ fun A S d U I=>?_;simp only[fzw,Kw.a];obtain⟨⟨L,f⟩,-⟩:(Q.heap.size≤(A 6 0).2∧Vr S (A 6 0).2 (prj 0 0 0))∧True:=I;clear U;have j:=d;clear d
 go_upto_region 3 with fail
 refine wp_wS [.F,.T,.T] [] ⟨⟩ fun V v2 d W=>?_;simp only[fzw];clear W;replace j:=j.trans d;have B:=d;clear d
 go_upto_region 4 with fail
 refine wp_wS [.c (.int .i64 1500),.c (.int .i64 1500),.T,.T,.c (.agg (prj 0 0 0)),.c (.agg (prj 0 0 0)),.T,.T,.T,.T,.T,.T] [1,4,6,9] ⟨.y (num_any _),.g 53 0 (f.gr B) rfl,.s (.binOp .eql 53 (.const (.agg (prj 0 0 0))) (.const (.agg (prj 0 0 0))) 53) rfl fun vv d=>by simp[go_sem,exI,eqPj,eqN_self],.z C.out,⟨⟩⟩ fun X v3 d Y=>?_;simp only[fzw];clear Y;replace j:=j.trans d;replace B:=B.trans d;clear d;replace G:=G.trans j;replace x:=x.gr j;replace f:=f.gr B;clear j B
 go_wp2_with fail
 go_ret
 exact⟨rfl,G⟩
theorem ljfrom_1{k:Nat}(h1:1≤k)(h2:k≤15){P:Q3}(lP:P.1<M∧P.2.1<M)(oP:onB k P.1 P.2.1 P.2.2=false)(w:World):Cg 7 #[.int .i64 k,.agg (pnQ P)] w (.bool true):=by
 have D:Hid (∀w,Calls prog 16 #[.int .i64 k] w (GetQ k w)):=fun w=>getq_yes k h1 h2 w;have I:Hid (∀w,Cg 30 #[] w (.bool true)):=fun w=>awake15_any w
 go_enter func7,ntmps7
 go_upto_region 1 with fail
 refine gen_w (fun v=>Hid (Gr w v∧Vr v (w.heap.size) (pnQ P))) ⟨grA,vrA⟩ ?_;intro u0 V
 go_upto_region 2 with (go_at_call 16;refine(D.out _).mono ?_;rintro e J ⟨x,rfl,A,K⟩)
 obtain⟨Y,i⟩:=exl (J.heap.size);simp only[i]
 refine gen_w (fun v=>Gr w v∧Vr v (w.heap.size) (pnQ P)∧Vr v Y (crA (k:Int) (nN k) x)∧∀j,Sl v (x j).1 (nN k j)) ?_ ?_
 ·subst i;obtain⟨G,B⟩:=V.out;have L:Gr J (J.alloc (.cells (crA (k:Int) (nN k) x) 27)):=(Gr.refl _).alloc _;exact⟨(G.trans K).trans L,(B.gr K).gr L,Vr.new _ _ _,fun j=>(A j).gr L⟩
 clear i K D V A;rintro Z ⟨G,B,Q,A⟩;refine wp_v false [.c (.int .i64 k),.c (.agg (pnQ P)),.c (.tuple #[.agg (prj 0 0 0),.int .i64 1501]),.c (.tuple #[.agg (prj 0 0 0),.int .i64 1501]),.c (.agg (prj 0 0 0)),.c (.int .i64 1501),.a,.u,.c (.int .i64 1501)] [1,2] [⟨6,7,53,prj 0 0 0,fun _=>prj 0 0 0⟩] ⟨.g 35 0 B rfl,.z (from_off h1 h2 lP oP),⟨⟩⟩ ⟨.k zPj (.t rfl),⟨⟩⟩ fun H v1 d h2 S=>?_;simp only[fzw,Kw.a];obtain⟨⟨W,h⟩,-⟩:(Z.heap.size≤(H 6 0).2∧Vr v1 (H 6 0).2 (prj 0 0 0))∧True:=S;clear h2;have f:=d;clear d
 go_upto_region 3 with fail
 refine wp_wS [.T,.F,.F] [] ⟨⟩ fun aa v2 d h3=>?_;simp only[fzw];clear h3;replace f:=f.trans d;have q:=d;clear d
 go_upto_region 5 with fail
 refine wp_w [.c (.agg (crA (k:Int) (nN k) x)),.c (.agg (pnQ P)),.pt (P.1) (P.2.1) P.2.2,.F,.T,.T] [0,1,2,3] ⟨.g 27 0 (Q.gr f) rfl,.g 35 0 (B.gr f) rfl,.k _ fun C X d U=>RtW.of_pt (rin_any _ _ _ lP.1 lP.2 _),.k (fun C =>#[.agg (crA (k:Int) (nN k) x),.agg (ptA (C 2 0).1 (P.1) (C 2 0).2 (C 2 1).1 (P.2.1) (C 2 1).2 P.2.2)]) fun C X d U=>RtW.of_c (ron_is h1 h2 lP oP x (fun j=>(A j).gr (f.trans d)) (U 2 rfl).1 (U 2 rfl).2),⟨⟩⟩ fun ab v3 d h5=>?_;simp only[fzw];clear h5;replace f:=f.trans d;replace q:=q.trans d;clear d
 go_upto_region 6 with fail
 refine wp_wS [.c (.int .i64 1501),.c (.int .i64 1501),.T,.T,.c (.agg (prj 0 0 0)),.c (.agg (prj 0 0 0)),.T,.T,.T,.T,.T,.T] [1,4,6,9] ⟨.y (num_any _),.g 53 0 (h.gr q) rfl,.s (.binOp .eql 53 (.const (.agg (prj 0 0 0))) (.const (.agg (prj 0 0 0))) 53) rfl fun X d=>by simp[go_sem,exI,eqPj,eqN_self],.z I.out,⟨⟩⟩ fun ac v4 d h6=>?_;simp only[fzw];clear h6;replace f:=f.trans d;replace q:=q.trans d;clear d;replace G:=G.trans f;replace B:=B.gr f;replace Q:=Q.gr f;replace A:=fun k=>(A k).gr f;replace h:=h.gr q;clear f q
 go_wp2_with fail
 go_ret
 exact⟨rfl,G⟩
theorem ljfrom_2{k:Nat}(h1:1≤k)(h2:k≤15){P:Q3}(lP:P.1<M∧P.2.1<M)(oP:onB k P.1 P.2.1 P.2.2=true)(w:World):Cg 7 #[.int .i64 k,.agg (pnQ P)] w (.bool true):=by
 have H:Hid (∀w,Calls prog 16 #[.int .i64 k] w (GetQ k w)):=fun w=>getq_yes k h1 h2 w;have K:Hid (∀w,Cg 30 #[] w (.bool true)):=fun w=>awake15_any w;obtain⟨T,Z⟩:=exl (frT P);have L:TrQ k T P:=Z▸frT_tr h1 h2 oP
 go_enter func7,ntmps7
 go_upto_region 1 with fail
 refine gen_w (fun v=>Hid (Gr w v∧Vr v (w.heap.size) (pnQ P))) ⟨grA,vrA⟩ ?_;intro u0 HV
 go_upto_region 2 with (go_at_call 16;refine(H.out _).mono ?_;rintro e Q ⟨B,rfl,C,S⟩)
 obtain⟨e7,x⟩:=exl (Q.heap.size);simp only[x]
 refine gen_w (fun v=>Gr w v∧Vr v (w.heap.size) (pnQ P)∧Vr v e7 (crA (k:Int) (nN k) B)∧∀j,Sl v (B j).1 (nN k j)) ?_ ?_
 ·subst x;obtain⟨G,A⟩:=HV.out;have U:Gr Q (Q.alloc (.cells (crA (k:Int) (nN k) B) 27)):=(Gr.refl _).alloc _;exact⟨(G.trans S).trans U,(A.gr S).gr U,Vr.new _ _ _,fun j=>(C j).gr U⟩
 clear x S H HV C;rintro v0 ⟨G,A,V,C⟩;refine wp_v false [.c (.int .i64 k),.c (.agg (pnQ P)),.E (.agg (pjT T)),.E (.agg (pjT T)),.c (.agg (pjT T)),.O,.a,.u,.O] [1,2] [⟨6,7,53,prj 0 0 0,fun _=>pjT T⟩] ⟨.g 35 0 A rfl,.z (fromQ h1 h2 oP Z),⟨⟩⟩ ⟨.k zPj (.t rfl),⟨⟩⟩ fun I v1 d h2 W=>?_;simp only[fzw,Kw.a];obtain⟨⟨aa,h⟩,-⟩:(v0.heap.size≤(I 6 0).2∧Vr v1 (I 6 0).2 (pjT T))∧True:=W;clear h2;have f:=d;clear d
 go_upto_region 3 with fail
 refine wp_wS [.T,.F,.F] [] ⟨⟩ fun ac v2 d h3=>?_;simp only[fzw];clear h3;replace f:=f.trans d;have q:=d;clear d
 go_upto_region 5 with fail
 refine wp_w [.c (.agg (crA (k:Int) (nN k) B)),.c (.agg (pnQ P)),.pt (P.1) (P.2.1) P.2.2,.T,.F,.F] [0,1,2,3] ⟨.g 27 0 (V.gr f) rfl,.g 35 0 (A.gr f) rfl,.k _ fun D vv d X=>RtW.of_pt (rin_any _ _ _ lP.1 lP.2 _),.k (fun D =>#[.agg (crA (k:Int) (nN k) B),.agg (ptA (D 2 0).1 (P.1) (D 2 0).2 (D 2 1).1 (P.2.1) (D 2 1).2 P.2.2)]) fun D vv d X=>RtW.of_c (ron_is h1 h2 lP oP B (fun j=>(C j).gr (f.trans d)) (X 2 rfl).1 (X 2 rfl).2),⟨⟩⟩ fun ae v3 d h5=>?_;simp only[fzw];clear h5;replace f:=f.trans d;replace q:=q.trans d;clear d
 go_upto_region 7 with fail
 refine wp_v false [.c (.int .i64 k),.c (.agg (pjT T)),.E (.agg (pnQ P)),.E (.agg (pnQ P)),.c (.agg (pnQ P)),.O,.a,.u,.O] [1,2] [⟨6,7,35,pnt 0 0 false,fun _=>pnQ P⟩] ⟨.g 53 0 (h.gr q) rfl,.z (toQ h1 h2 L),⟨⟩⟩ ⟨.k zPnt (.t rfl),⟨⟩⟩ fun J v4 d h7 Y=>?_;simp only[fzw,Kw.a];obtain⟨⟨ab,i⟩,-⟩:(v3.heap.size≤(J 6 0).2∧Vr v4 (J 6 0).2 (pnQ P))∧True:=Y;clear h7;replace f:=f.trans d;replace q:=q.trans d;clear d
 go_upto_region 8 with fail
 refine wp_wS [.O,.O,.T,.T,.O,.O,.T,.T,.T,.c (.agg (pnQ P)),.c (.agg (pnQ P)),.T,.T,.T,.T,.T,.T] [1,5,9,10,11,14] ⟨.y (num_any _),.y (num_any _),.g 35 0 i rfl,.g 35 0 (A.gr f) rfl,.s (.binOp .eql 35 (.const (.agg (pnQ P))) (.const (.agg (pnQ P))) 35) rfl fun vv d=>by simp[go_sem,exI,eqPn,eqN_self],.z K.out,⟨⟩⟩ fun af v5 d h8=>?_;simp only[fzw];clear h8;replace f:=f.trans d;replace q:=q.trans d;have g8:=d;clear d;replace G:=G.trans f;replace A:=A.gr f;replace V:=V.gr f;replace C:=fun k=>(C k).gr f;replace h:=h.gr q;replace i:=i.gr g8;clear f q g8
 go_wp2_with fail
 go_ret
 exact⟨rfl,G⟩
theorem ljfrom_any(id:Int)(P:Q3)(lP:P.1<M∧P.2.1<M)(w:World):Cg 7 #[.int .i64 id,.agg (pnQ P)] w (.bool true):=by
 by_cases h:1≤id∧id≤15
 ·obtain⟨k,rfl⟩:∃k:Nat,id=(k:Int):=⟨id.toNat,by omega⟩
  have d:1≤k:=by omega
  have f:k≤15:=by omega
  by_cases oP:onB k P.1 P.2.1 P.2.2=true
  ·exact ljfrom_2 d f lP oP w
  ·exact ljfrom_1 d f lP (Bool.eq_false_iff.2 oP) w
 ·exact ljfrom_0 id (by omega) P w
end
end
end Go.Proofs.YtffhepbppiocbabGreat