import Derived.Test.YtffhepbppiocbaaGreatXAAU
namespace Go.Proofs.YtffhepbppiocbaaGreat
open Go.RowKit Go.Proofs.Tryz
set_option maxRecDepth 100000
set_option maxHeartbeats 8000000
section
attribute [local go_sem ↓] uz1
attribute [local go_sem] uz2
section
attribute [local go_sem] uz7
attribute [local go_sem ↓] uz12 Go.wp_at_zero Go.wp_at_succ
attribute [local go_sem] uz13
theorem latimes_0(id:Int)(h:id<1∨15<id)(t:Nat)(P:Q3)(w:World):Cg 4 #[.int .i64 id,.agg (nw 9 t),.agg (pnQ P)] w (.bool true):=by
 have q:Hid (∀w,Cg 9 #[.int .i64 id] w (.tuple #[.agg #[.int .i64 0,.slice none 0 0,.slice none 0 0,.slice none 0 0,.slice none 0 0,.slice none 0 0,.slice none 0 0],.bool false])):=fun w=>get_no id h w;have B:Hid (∀w,Cg 13 #[] w (.bool true)):=fun w=>awake14_any w
 go_enter func4,ntmps4
 go_upto_region 1 with fail
 refine gen_w (fun v=>Hid (Gr w v∧Vr v (w.heap.size) (nw 9 t)∧Vr v (w.heap.size+1) (pnQ P))) ⟨grA,vrA,vrA⟩ ?_;intro X I
 go_upto_region 2 with (go_at_call 9;refine(q.out _).mono ?_;rintro e C ⟨rfl,A⟩)
 obtain⟨Y,l⟩:=exl (C.heap.size);simp only[l]
 refine gen_w (fun v=>Gr w v∧Vr v (w.heap.size) (nw 9 t)∧Vr v (w.heap.size+1) (pnQ P)) ?_ ?_
 ·subst l;obtain⟨G,i,j⟩:=I.out;have D:Gr C (C.alloc (.cells (#[.int .i64 0,.slice none 0 0,.slice none 0 0,.slice none 0 0,.slice none 0 0,.slice none 0 0,.slice none 0 0]) 31)):=(Gr.refl _).alloc _;exact⟨(G.trans A).trans D,(i.gr A).gr D,(j.gr A).gr D⟩
 clear l A q I;rintro K ⟨G,i,j⟩;refine wp_v false [.c (.int .i64 id),.N t,.c (.agg (pnQ P)),.c (.tuple #[.agg (pnt 0 0 false),.int .i64 1400]),.c (.tuple #[.agg (pnt 0 0 false),.int .i64 1400]),.c (.agg (pnt 0 0 false)),.c (.int .i64 1400),.a,.u,.c (.int .i64 1400)] [1,2,3] [⟨7,8,27,pnt 0 0 false,fun _=>pnt 0 0 false⟩] ⟨.g 25 0 i rfl,.g 27 0 j rfl,.z (mul_no id h P t),⟨⟩⟩ ⟨.k zPnt (.t rfl),⟨⟩⟩ fun x L d Q H=>?_;simp only[fzw,Kw.a];obtain⟨⟨J,f⟩,-⟩:(K.heap.size≤(x 7 0).2∧Vr L (x 7 0).2 (pnt 0 0 false))∧True:=H;clear Q;replace G:=G.trans d;replace i:=i.gr d;replace j:=j.gr d;clear d
 go_upto_region 3 with fail
 refine wp_wS [.F,.T,.T] [] ⟨⟩ fun S Z d U=>?_;simp only[fzw];clear U;replace G:=G.trans d;replace i:=i.gr d;replace j:=j.gr d;replace f:=f.gr d;clear d
 go_upto_region 4 with fail
 refine wp_wS [.c (.int .i64 1400),.c (.int .i64 1400),.T,.T,.c (.agg (pnt 0 0 false)),.c (.agg (pnt 0 0 false)),.T,.T,.T,.T,.T,.T] [1,4,6,9] ⟨.y (num_any _),.g 27 0 f rfl,.s (.binOp .eql 27 (.const (.agg (pnt 0 0 false))) (.const (.agg (pnt 0 0 false))) 27) rfl fun vv d=>by simp[go_sem,exI,eqPn,eqN_self],.z B.out,⟨⟩⟩ fun V v3 d W=>?_;simp only[fzw];clear W;replace G:=G.trans d;replace i:=i.gr d;replace j:=j.gr d;replace f:=f.gr d;clear d
 go_wp2_with fail
 go_ret
 exact⟨rfl,G⟩
theorem latimes_1{k:Nat}(h1:1≤k)(h2:k≤15)(t:Nat){P:Q3}(lP:P.1<M∧P.2.1<M)(oP:onB k P.1 P.2.1 P.2.2=false)(w:World):Cg 4 #[.int .i64 k,.agg (nw 9 t),.agg (pnQ P)] w (.bool true):=by
 have C:Hid (∀w,Calls prog 9 #[.int .i64 k] w (GetQ k w)):=fun w=>getq_yes k h1 h2 w;have J:Hid (∀w,Cg 13 #[] w (.bool true)):=fun w=>awake14_any w
 go_enter func4,ntmps4
 go_upto_region 1 with fail
 refine gen_w (fun v=>Hid (Gr w v∧Vr v (w.heap.size) (nw 9 t)∧Vr v (w.heap.size+1) (pnQ P))) ⟨grA,vrA,vrA⟩ ?_;intro u0 S
 go_upto_region 2 with (go_at_call 9;refine(C.out _).mono ?_;rintro e K ⟨A,rfl,h,H⟩)
 obtain⟨W,x⟩:=exl (K.heap.size);simp only[x]
 refine gen_w (fun v=>Gr w v∧Vr v (w.heap.size) (nw 9 t)∧Vr v (w.heap.size+1) (pnQ P)∧Vr v W (crA (k:Int) (nN k) A)∧∀j,Sl v (A j).1 (nN k j)) ?_ ?_
 ·subst x;obtain⟨G,l,i⟩:=S.out;have I:Gr K (K.alloc (.cells (crA (k:Int) (nN k) A) 31)):=(Gr.refl _).alloc _;exact⟨(G.trans H).trans I,(l.gr H).gr I,(i.gr H).gr I,Vr.new _ _ _,fun j=>(h j).gr I⟩
 clear x H C S h;rintro X ⟨G,l,i,q,h⟩;refine wp_v false [.c (.int .i64 k),.N t,.c (.agg (pnQ P)),.c (.tuple #[.agg (pnt 0 0 false),.int .i64 1401]),.c (.tuple #[.agg (pnt 0 0 false),.int .i64 1401]),.c (.agg (pnt 0 0 false)),.c (.int .i64 1401),.a,.u,.c (.int .i64 1401)] [1,2,3] [⟨7,8,27,pnt 0 0 false,fun _=>pnt 0 0 false⟩] ⟨.g 25 0 l rfl,.g 27 0 i rfl,.z (mul_off h1 h2 lP oP t),⟨⟩⟩ ⟨.k zPnt (.t rfl),⟨⟩⟩ fun D Y d h2 L=>?_;simp only[fzw,Kw.a];obtain⟨⟨U,f⟩,-⟩:(X.heap.size≤(D 7 0).2∧Vr Y (D 7 0).2 (pnt 0 0 false))∧True:=L;clear h2;replace G:=G.trans d;replace l:=l.gr d;replace i:=i.gr d;replace q:=q.gr d;replace h:=fun k=>(h k).gr d;clear d
 go_upto_region 3 with fail
 refine wp_wS [.T,.F,.F] [] ⟨⟩ fun Z v2 d h3=>?_;simp only[fzw];clear h3;replace G:=G.trans d;replace l:=l.gr d;replace i:=i.gr d;replace q:=q.gr d;replace f:=f.gr d;replace h:=fun k=>(h k).gr d;clear d
 go_upto_region 5 with fail
 refine wp_w [.c (.agg (crA (k:Int) (nN k) A)),.c (.agg (pnQ P)),.pt (P.1) (P.2.1) P.2.2,.F,.T,.T] [0,1,2,3] ⟨.g 31 0 q rfl,.g 27 0 i rfl,.k _ fun B V d Q=>RtW.of_pt (rin_any _ _ _ lP.1 lP.2 _),.k (fun B =>#[.agg (crA (k:Int) (nN k) A),.agg (ptA (B 2 0).1 (P.1) (B 2 0).2 (B 2 1).1 (P.2.1) (B 2 1).2 P.2.2)]) fun B V d Q=>RtW.of_c (ron_is h1 h2 lP oP A (fun j=>(h j).gr d) (Q 2 rfl).1 (Q 2 rfl).2),⟨⟩⟩ fun aa v3 d h5=>?_;simp only[fzw];clear h5;replace G:=G.trans d;replace l:=l.gr d;replace i:=i.gr d;replace q:=q.gr d;replace f:=f.gr d;replace h:=fun k=>(h k).gr d;clear d
 go_upto_region 6 with fail
 refine wp_wS [.c (.int .i64 1401),.c (.int .i64 1401),.T,.T,.c (.agg (pnt 0 0 false)),.c (.agg (pnt 0 0 false)),.T,.T,.T,.T,.T,.T] [1,4,6,9] ⟨.y (num_any _),.g 27 0 f rfl,.s (.binOp .eql 27 (.const (.agg (pnt 0 0 false))) (.const (.agg (pnt 0 0 false))) 27) rfl fun V d=>by simp[go_sem,exI,eqPn,eqN_self],.z J.out,⟨⟩⟩ fun ab v4 d h6=>?_;simp only[fzw];clear h6;replace G:=G.trans d;replace l:=l.gr d;replace i:=i.gr d;replace q:=q.gr d;replace f:=f.gr d;replace h:=fun k=>(h k).gr d;clear d
 go_wp2_with fail
 go_ret
 exact⟨rfl,G⟩
theorem latimes_2{k:Nat}(h1:1≤k)(h2:k≤15)(t:Nat){P:Q3}(lP:P.1<M∧P.2.1<M)(ht:t<M)(oP:onB k P.1 P.2.1 P.2.2=true)(w:World):Cg 4 #[.int .i64 k,.agg (nw 9 t),.agg (pnQ P)] w (.bool true):=by
 have I:Hid (∀w,Calls prog 9 #[.int .i64 k] w (GetQ k w)):=fun w=>getq_yes k h1 h2 w;have Q:Hid (∀w,Cg 13 #[] w (.bool true)):=fun w=>awake14_any w;obtain⟨A,V⟩:=exl (mlQ k t P)
 have Y:dl t≤400:=by have:=dl_M t ht;omega
 go_enter func4,ntmps4
 go_upto_region 1 with fail
 refine gen_w (fun v=>Hid (Gr w v∧Vr v (w.heap.size) (nw 9 t)∧Vr v (w.heap.size+1) (pnQ P))) ⟨grA,vrA,vrA⟩ ?_;intro u0 W
 go_upto_region 2 with (go_at_call 9;refine(I.out _).mono ?_;rintro e S ⟨C,rfl,i,K⟩)
 obtain⟨Z,D⟩:=exl (S.heap.size);simp only[D]
 refine gen_w (fun v=>Gr w v∧Vr v (w.heap.size) (nw 9 t)∧Vr v (w.heap.size+1) (pnQ P)∧Vr v Z (crA (k:Int) (nN k) C)∧∀j,Sl v (C j).1 (nN k j)) ?_ ?_
 ·subst D;obtain⟨G,q,l⟩:=W.out;have L:Gr S (S.alloc (.cells (crA (k:Int) (nN k) C) 31)):=(Gr.refl _).alloc _;exact⟨(G.trans K).trans L,(q.gr K).gr L,(l.gr K).gr L,Vr.new _ _ _,fun j=>(i j).gr L⟩
 clear D K I W i;rintro v0 ⟨G,q,l,B,i⟩;refine wp_v false [.c (.int .i64 k),.N t,.c (.agg (pnQ P)),.E (.agg (pnQ A)),.E (.agg (pnQ A)),.c (.agg (pnQ A)),.O,.a,.u,.O] [1,2,3] [⟨7,8,27,pnt 0 0 false,fun _=>pnQ A⟩] ⟨.g 25 0 q rfl,.g 27 0 l rfl,.z (mulQ h1 h2 oP ht V),⟨⟩⟩ ⟨.k zPnt (.t rfl),⟨⟩⟩ fun J v1 d h2 U=>?_;simp only[fzw,Kw.a];obtain⟨⟨X,f⟩,-⟩:(v0.heap.size≤(J 7 0).2∧Vr v1 (J 7 0).2 (pnQ A))∧True:=U;clear h2;replace G:=G.trans d;replace q:=q.gr d;replace l:=l.gr d;replace B:=B.gr d;replace i:=fun k=>(i k).gr d;clear d
 go_upto_region 3 with fail
 refine wp_wS [.T,.F,.F] [] ⟨⟩ fun aa v2 d h3=>?_;simp only[fzw];clear h3;replace G:=G.trans d;replace q:=q.gr d;replace l:=l.gr d;replace B:=B.gr d;replace f:=f.gr d;replace i:=fun k=>(i k).gr d;clear d
 go_upto_region 5 with fail
 refine wp_w [.c (.agg (crA (k:Int) (nN k) C)),.c (.agg (pnQ P)),.pt (P.1) (P.2.1) P.2.2,.T,.F,.F] [0,1,2,3] ⟨.g 31 0 B rfl,.g 27 0 l rfl,.k _ fun h H d x=>RtW.of_pt (rin_any _ _ _ lP.1 lP.2 _),.k (fun h =>#[.agg (crA (k:Int) (nN k) C),.agg (ptA (h 2 0).1 (P.1) (h 2 0).2 (h 2 1).1 (P.2.1) (h 2 1).2 P.2.2)]) fun h H d x=>RtW.of_c (ron_is h1 h2 lP oP C (fun j=>(i j).gr d) (x 2 rfl).1 (x 2 rfl).2),⟨⟩⟩ fun ab v3 d h5=>?_;simp only[fzw];clear h5;replace G:=G.trans d;replace q:=q.gr d;replace l:=l.gr d;replace B:=B.gr d;replace f:=f.gr d;replace i:=fun k=>(i k).gr d;clear d
 go_upto_region 7 with fail
 refine wp_w [.O,.O,.T,.T,.c (.agg (pnQ A)),.c (.agg (crA (k:Int) (nN k) C)),.N t,.n (t),.c (.agg (pnQ P)),.pt (P.1) (P.2.1) P.2.2,.pt (A.1) (A.2.1) A.2.2,.c (.agg (pnQ A)),.T,.T,.T,.T,.T,.T] [1,4,5,6,7,8,9,10,11,12,15] ⟨.y (num_any _),.g 27 0 f rfl,.g 31 0 B rfl,.g 25 0 q rfl,.k _ fun h H d x=>RtW.of_n (fm_any ht),.g 27 0 l rfl,.k _ fun h H d x=>RtW.of_pt (rin_any _ _ _ lP.1 lP.2 _),.k (fun h =>#[.agg (crA (k:Int) (nN k) C),.slice (h 7 0).1 (dl (t)) (h 7 0).2,.agg (ptA (h 9 0).1 (P.1) (h 9 0).2 (h 9 1).1 (P.2.1) (h 9 1).2 P.2.2)]) fun h H d x=>RtW.of_pt (V▸rtimesQ k h1 h2 C oP Y (fun j=>(i j).gr d) (x 7 rfl) (x 9 rfl).1 (x 9 rfl).2),.k (fun h =>#[.agg (ptA (h 10 0).1 (A.1) (h 10 0).2 (h 10 1).1 (A.2.1) (h 10 1).2 A.2.2)]) fun h H d x=>RtW.of_c (Rt.c (rout_any _ _ _ _ _ _ _ _ (x 10 rfl).1 (x 10 rfl).2)),.s (.binOp .eql 27 (.const (.agg (pnQ A))) (.const (.agg (pnQ A))) 27) rfl fun H d=>by simp[go_sem,exI,eqPn,eqN_self],.z Q.out,⟨⟩⟩ fun ac v4 d h7=>?_;simp only[fzw];clear h7;replace G:=G.trans d;replace q:=q.gr d;replace l:=l.gr d;replace B:=B.gr d;replace f:=f.gr d;replace i:=fun k=>(i k).gr d;clear d
 go_wp2_with fail
 go_ret
 exact⟨rfl,G⟩
theorem latimes_any(id:Int)(t:Nat)(ht:t<M)(P:Q3)(lP:P.1<M∧P.2.1<M)(w:World):Cg 4 #[.int .i64 id,.agg (nw 9 t),.agg (pnQ P)] w (.bool true):=by
 by_cases h:1≤id∧id≤15
 ·obtain⟨k,rfl⟩:∃k:Nat,id=(k:Int):=⟨id.toNat,by omega⟩
  have d:1≤k:=by omega
  have f:k≤15:=by omega
  by_cases oP:onB k P.1 P.2.1 P.2.2=true
  ·exact latimes_2 d f t lP ht oP w
  ·exact latimes_1 d f t lP (Bool.eq_false_iff.2 oP) w
 ·exact latimes_0 id (by omega) t P w
end
end
end Go.Proofs.YtffhepbppiocbaaGreat