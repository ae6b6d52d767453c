import Derived.Test.YtffhepbppiocbabGreatXAUF
namespace Go.Proofs.YtffhepbppiocbabGreat
open Go.RowKit Go.Proofs.Tryz
set_option maxRecDepth 100000
set_option maxHeartbeats 8000000
section
attribute [local go_sem ↓] uz1
attribute [local go_sem] uz2
section
attribute [local go_sem] uz7
attribute [local go_sem ↓] uz12 Go.wp_at_zero Go.wp_at_succ
attribute [local go_sem] uz13
structure Tw(u wr:World)(t:Nat)(v vw:Value)(xs ys:List (Int×Int)):Prop where
 g:Gr u wr
 tr:Tr wr t v xs
 row:wr.ownsRow (t+1) 87 2 vw ys.length (evc ys)
 ne:∀g,vw.ownBlock=some g→¬Own t v g
theorem Tw.gr{u wr w':World}{t:Nat}{v vw:Value}{xs ys:List (Int×Int)}(h:Tw u wr t v vw xs ys)(k:Gr wr w'):Tw u w' t v vw xs ys:=
 ⟨h.g.trans k,h.tr.gr k,owns_kept h.row (Kp.gr k fun _=>False) fun _ _ h=>h,h.ne⟩
theorem Tw.pick{u wr w':World}{t:Nat}{v z vw:Value}{xs xs' ys:List (Int×Int)}(h:Tw u wr t v vw xs ys)(r:RecL wr.heap.size wr w' (some t) v z xs')(g:Gr u w'):Tw u w' t z vw xs' ys:=by
 refine⟨g,r.lk t rfl,owns_kept h.row r.kp fun b d ⟨a,e,f⟩=>by cases e;exact h.ne b d f,fun b d f=>?_⟩
 rcases r.at' b ⟨t,rfl,f⟩ with ⟨a,e,h2⟩|h2
 ·cases e;exact h.ne b d h2
 ·have:=(h.row.lt b d).2
  omega
theorem Tw.push{u wr w2:World}{t N g cap:Nat}{v vw:Value}{xs ys:List (Int×Int)}{a1 a2:Int}{o:Obj}(h:Tw u wr t v vw xs ys)(hN:ys.length=N)(hg:(wr.alloc o).grownBy w2 vw.ownBlock)(ho:w2.ownsRow (t+1) 87 2 (.slice (some ⟨g,0,none⟩) (N+1) cap) (N+1) (evc ys++[.int .i64 a1,.int .i64 a2]))(hat:vw.ownBlock=some g∨g=(wr.alloc o).heap.size)(hu:u.heap.size=t:=by rfl):Tw u w2 t v (.slice (some ⟨g,0,none⟩) (N+1) cap) xs (ys++[(a1,a2)]):=by
 have f:Gr wr (wr.alloc o):=(Gr.refl _).alloc o;have far:∀b,Own t v b→vw.ownBlock≠some b:=fun b d e=>h.ne b e d
 refine⟨gr_kp (h.g.trans f) (Kp.grown hg) fun b d e=>?_,(h.tr.gr f).kept (Kp.grown hg) far,?_,fun b d i=>?_⟩
 ·have:=(h.row.lt b e).1
  omega
 ·rw[evc_append,show (ys++[(a1,a2)]).length=N+1 by simp[hN]];exact ho
 ·cases d
  rcases hat with e|e
  ·exact far _ i e
  ·have j:g<wr.heap.size:=(h.tr.own _ i).2
   have q:(wr.alloc o).heap.size=wr.heap.size+1:=by simp
   omega
theorem Ev.gr{w w':World}{p:Option Addr}{xs:List (Int×Int)}(h:Ev w p xs)(k:Gr w w'):Ev w' p xs:=h.kept (Kp.gr k fun _=>False) fun _ _ h=>h
theorem sameevT{w:World}{p q:Option Addr}{c d n:Nat}{xs:List (Int×Int)}(hp:Ev w p xs)(hq:Ev w q xs)(hl:xs.length=n)(hn:n≤1000000):Cg 48 #[.slice p n c,.slice q n d] w (.bool true):=by
 subst hl;refine(sameev_any w p q xs xs c d hp hq (by omega) (by omega)).mono ?_;rintro e h ⟨f,m,rfl⟩;exact⟨by rw[f];simp,(Gr.refl w).drewN m⟩
theorem lttab_0(id:Int)(h:id<1∨15<id){P:Q3}(lP:P.1<M∧P.2.1<M)(x:Int)(q:Option Addr)(L c:Nat)(w:World):Cg 13 #[.int .i64 id,.agg (pnQ P),.int .i64 x,.slice q L c] w (.bool true):=by
 have J:Hid _:=get_no id h;have Q:Hid _:=awake16_any
 go_enter func13,ntmps13
 go_upto_region 1 with fail
 refine gen_w (fun v=>Hid (Gr w v∧Vr v (w.heap.size) (pnQ P))) ⟨grA,vrA⟩ ?_;intro u0 X
 go_upto_region 2 with (go_at_call 16;refine(J.out _).mono ?_;rintro e S ⟨rfl,U⟩)
 obtain⟨e7,C⟩:=exl (S.heap.size);simp only[C]
 refine gen_w (fun v=>Gr w v∧Vr v (w.heap.size) (pnQ P)) ?_ ?_
 ·subst C;obtain⟨G,D⟩:=X.out;have Y:Gr S (S.alloc (.cells (#[.int .i64 0,.slice none 0 0,.slice none 0 0,.slice none 0 0,.slice none 0 0,.slice none 0 0,.slice none 0 0]) 27)):=(Gr.refl _).alloc _;exact⟨(G.trans U).trans Y,(D.gr U).gr Y⟩
 clear C U J X;rintro v0 ⟨G,D⟩
 go_upto_region 2 with fail
 refine wp_wS [.c (.int .i64 id),.c (.agg (pnQ P)),.c (.int .i64 x),.c (.tuple #[.pointer none,.int .i64 1600]),.c (.tuple #[.pointer none,.int .i64 1600]),.c (.pointer none),.c (.int .i64 1600),.c (.pointer none),.c (.int .i64 1600)] [1,3] ⟨.g 35 0 D rfl,.z (new_id id h P x),⟨⟩⟩ fun ab v1 f h2=>?_;simp only[fzw];clear h2;have i:=f;clear f
 go_upto_region 3 with fail
 refine wp_v false [.c (.agg (pnQ P)),.pt (P.1) (P.2.1) P.2.2,.a,.u] [0,1] [⟨2,3,43,ptA none 0 0 none 0 0 false,fun K=>ptA (K 1 0).1 (P.1) (K 1 0).2 (K 1 1).1 (P.2.1) (K 1 1).2 P.2.2⟩] ⟨.g 35 0 (D.gr i) rfl,.k _ fun K vv f hh=>RtW.of_pt (rin_any _ _ _ lP.1 lP.2 _),⟨⟩⟩ ⟨.mk (fun _ _ h=>Value.agg.inj (h 1 rfl)) (fun _ v b H F=>by dsimp only at H ⊢;simp[go_sem,exI,H,F]) zPt ⟨fkc,fkp bPt,fka,fku,trivial⟩,⟨⟩⟩ fun d V f Z W=>?_;simp only[fzw,Kw.a];obtain⟨j,A⟩:Sl V (d 1 0).1 (P.1)∧Sl V (d 1 1).1 (P.2.1):=Z 1;obtain⟨⟨aa,B⟩,-⟩:(v1.heap.size≤(d 2 0).2∧Vr V (d 2 0).2 (ptA (d 1 0).1 (P.1) (d 1 0).2 (d 1 1).1 (P.2.1) (d 1 1).2 P.2.2))∧True:=W;clear Z;replace i:=i.trans f;clear f
 go_upto_region 4 with fail
 refine wp_wS [.F,.T,.T] [] ⟨⟩ fun ac v3 f h4=>?_;simp only[fzw];clear h4;replace i:=i.trans f;have I:=f;clear f
 go_upto_region 5 with fail
 refine wp_wS [.c (.int .i64 1600),.c (.int .i64 1600),.T,.T,.c (.pointer none),.T,.T,.T,.T,.T,.T] [1,5,8] ⟨.y (num_any _),.s (.binOp .eql 77 (.const (.pointer none)) (.const (.pointer none)) 77) rfl fun vv f=>by simp[go_sem,exI],.z Q.out,⟨⟩⟩ fun ae v4 f h5=>?_;simp only[fzw];clear h5;replace i:=i.trans f;replace I:=I.trans f;clear f;replace G:=G.trans i;replace D:=D.gr i;replace B:=B.gr I;replace j:=j.gr I;replace A:=A.gr I;clear i I
 go_wp2_with fail
 go_ret
 exact⟨rfl,G⟩
theorem lttab_1{k:Nat}(h1:1≤k)(h2:k≤15){P:Q3}(lP:P.1<M∧P.2.1<M)(oP:onB k P.1 P.2.1 P.2.2=false)(x:Int)(q:Option Addr)(L c:Nat)(w:World):Cg 13 #[.int .i64 k,.agg (pnQ P),.int .i64 x,.slice q L c] w (.bool true):=by
 have U:Hid _:=getq_yes k h1 h2;have V:Hid _:=awake16_any
 go_enter func13,ntmps13
 go_upto_region 1 with fail
 refine gen_w (fun v=>Hid (Gr w v∧Vr v (w.heap.size) (pnQ P))) ⟨grA,vrA⟩ ?_;intro u0 HV
 go_upto_region 2 with (go_at_call 16;refine(U.out _).mono ?_;rintro e W ⟨K,rfl,Q,X⟩)
 obtain⟨e7,I⟩:=exl (W.heap.size);simp only[I]
 refine gen_w (fun v=>Gr w v∧Vr v (w.heap.size) (pnQ P)∧Vr v e7 (crA (k:Int) (nN k) K)∧∀j,Sl v (K j).1 (nN k j)) ?_ ?_
 ·subst I;obtain⟨G,S⟩:=HV.out;have Y:Gr W (W.alloc (.cells (crA (k:Int) (nN k) K) 27)):=(Gr.refl _).alloc _;exact⟨(G.trans X).trans Y,(S.gr X).gr Y,Vr.new _ _ _,fun j=>(Q j).gr Y⟩
 clear I X U HV Q;rintro v0 ⟨G,S,Z,Q⟩
 go_upto_region 2 with fail
 refine wp_wS [.c (.int .i64 k),.c (.agg (pnQ P)),.c (.int .i64 x),.c (.tuple #[.pointer none,.int .i64 1601]),.c (.tuple #[.pointer none,.int .i64 1601]),.c (.pointer none),.c (.int .i64 1601),.c (.pointer none),.c (.int .i64 1601)] [1,3] ⟨.g 35 0 S rfl,.z (new_off h1 h2 lP oP x),⟨⟩⟩ fun ac v1 f h2=>?_;simp only[fzw];clear h2;have i:=f;clear f
 go_upto_region 3 with fail
 refine wp_v false [.c (.agg (pnQ P)),.pt (P.1) (P.2.1) P.2.2,.a,.u] [0,1] [⟨2,3,43,ptA none 0 0 none 0 0 false,fun J=>ptA (J 1 0).1 (P.1) (J 1 0).2 (J 1 1).1 (P.2.1) (J 1 1).2 P.2.2⟩] ⟨.g 35 0 (S.gr i) rfl,.k _ fun J vv f hh=>RtW.of_pt (rin_any _ _ _ lP.1 lP.2 _),⟨⟩⟩ ⟨.mk (fun _ _ h=>Value.agg.inj (h 1 rfl)) (fun _ v b H F=>by dsimp only at H ⊢;simp[go_sem,exI,H,F]) zPt ⟨fkc,fkp bPt,fka,fku,trivial⟩,⟨⟩⟩ fun d v2 f h3 aa=>?_;simp only[fzw,Kw.a];obtain⟨A,B⟩:Sl v2 (d 1 0).1 (P.1)∧Sl v2 (d 1 1).1 (P.2.1):=h3 1;obtain⟨⟨ab,C⟩,-⟩:(v1.heap.size≤(d 2 0).2∧Vr v2 (d 2 0).2 (ptA (d 1 0).1 (P.1) (d 1 0).2 (d 1 1).1 (P.2.1) (d 1 1).2 P.2.2))∧True:=aa;clear h3;replace i:=i.trans f;clear f
 go_upto_region 4 with fail
 refine wp_wS [.T,.F,.F] [] ⟨⟩ fun ae v3 f h4=>?_;simp only[fzw];clear h4;replace i:=i.trans f;have D:=f;clear f
 go_upto_region 6 with fail
 refine wp_wS [.c (.agg (crA (k:Int) (nN k) K)),.c (.agg (ptA (d 1 0).1 (P.1) (d 1 0).2 (d 1 1).1 (P.2.1) (d 1 1).2 P.2.2)),.F,.T,.T] [0,1,2] ⟨.g 27 0 (Z.gr i) rfl,.g 43 0 (C.gr D) rfl,.k (fun J =>#[.agg (crA (k:Int) (nN k) K),.agg (ptA (d 1 0).1 (P.1) (d 1 0).2 (d 1 1).1 (P.2.1) (d 1 1).2 P.2.2)]) fun J vv f hh=>RtW.of_c (ron_is h1 h2 lP oP K (fun j=>(Q j).gr (i.trans f)) (A.gr (D.trans f)) (B.gr (D.trans f))),⟨⟩⟩ fun af v4 f h6=>?_;simp only[fzw];clear h6;replace i:=i.trans f;replace D:=D.trans f;clear f
 go_upto_region 7 with fail
 refine wp_wS [.c (.int .i64 1601),.c (.int .i64 1601),.T,.T,.c (.pointer none),.T,.T,.T,.T,.T,.T] [1,5,8] ⟨.y (num_any _),.s (.binOp .eql 77 (.const (.pointer none)) (.const (.pointer none)) 77) rfl fun vv f=>by simp[go_sem,exI],.z V.out,⟨⟩⟩ fun ag v5 f h7=>?_;simp only[fzw];clear h7;replace i:=i.trans f;replace D:=D.trans f;clear f;replace G:=G.trans i;replace S:=S.gr i;replace Z:=Z.gr i;replace Q:=fun k=>(Q k).gr i;replace C:=C.gr D;replace A:=A.gr D;replace B:=B.gr D;clear i D
 go_wp2_with fail
 go_ret
 exact⟨rfl,G⟩
theorem lttab_2{k:Nat}(h1:1≤k)(h2:k≤15){P:Q3}(lP:P.1<M∧P.2.1<M)(oP:OnQ k P)(x:Int)(x1:x<1)(q:Option Addr)(L c:Nat)(w:World):Cg 13 #[.int .i64 k,.agg (pnQ P),.int .i64 x,.slice q L c] w (.bool true):=by
 have U:Hid _:=getq_yes k h1 h2;have V:Hid _:=awake16_any;have hx:x<1∨16<x:=Or.inl x1
 go_enter func13,ntmps13
 go_upto_region 1 with fail
 refine gen_w (fun v=>Hid (Gr w v∧Vr v (w.heap.size) (pnQ P))) ⟨grA,vrA⟩ ?_;intro u0 HV
 go_upto_region 2 with (go_at_call 16;refine(U.out _).mono ?_;rintro e W ⟨K,rfl,Q,X⟩)
 obtain⟨e7,I⟩:=exl (W.heap.size);simp only[I]
 refine gen_w (fun v=>Gr w v∧Vr v (w.heap.size) (pnQ P)∧Vr v e7 (crA (k:Int) (nN k) K)∧∀j,Sl v (K j).1 (nN k j)) ?_ ?_
 ·subst I;obtain⟨G,S⟩:=HV.out;have Y:Gr W (W.alloc (.cells (crA (k:Int) (nN k) K) 27)):=(Gr.refl _).alloc _;exact⟨(G.trans X).trans Y,(S.gr X).gr Y,Vr.new _ _ _,fun j=>(Q j).gr Y⟩
 clear I X U HV Q;rintro v0 ⟨G,S,Z,Q⟩
 go_upto_region 2 with fail
 refine wp_wS [.c (.int .i64 k),.c (.agg (pnQ P)),.c (.int .i64 x),.c (.tuple #[.pointer none,.int .i64 1602]),.c (.tuple #[.pointer none,.int .i64 1602]),.c (.pointer none),.c (.int .i64 1602),.c (.pointer none),.c (.int .i64 1602)] [1,3] ⟨.g 35 0 S rfl,.z (new_size h1 h2 oP hx),⟨⟩⟩ fun ac v1 f h2=>?_;simp only[fzw];clear h2;have i:=f;clear f
 go_upto_region 3 with fail
 refine wp_v false [.c (.agg (pnQ P)),.pt (P.1) (P.2.1) P.2.2,.a,.u] [0,1] [⟨2,3,43,ptA none 0 0 none 0 0 false,fun J=>ptA (J 1 0).1 (P.1) (J 1 0).2 (J 1 1).1 (P.2.1) (J 1 1).2 P.2.2⟩] ⟨.g 35 0 (S.gr i) rfl,.k _ fun J vv f hh=>RtW.of_pt (rin_any _ _ _ lP.1 lP.2 _),⟨⟩⟩ ⟨.mk (fun _ _ h=>Value.agg.inj (h 1 rfl)) (fun _ v b H F=>by dsimp only at H ⊢;simp[go_sem,exI,H,F]) zPt ⟨fkc,fkp bPt,fka,fku,trivial⟩,⟨⟩⟩ fun d v2 f h3 aa=>?_;simp only[fzw,Kw.a];obtain⟨B,C⟩:Sl v2 (d 1 0).1 (P.1)∧Sl v2 (d 1 1).1 (P.2.1):=h3 1;obtain⟨⟨ab,D⟩,-⟩:(v1.heap.size≤(d 2 0).2∧Vr v2 (d 2 0).2 (ptA (d 1 0).1 (P.1) (d 1 0).2 (d 1 1).1 (P.2.1) (d 1 1).2 P.2.2))∧True:=aa;clear h3;replace i:=i.trans f;clear f
 go_upto_region 4 with fail
 refine wp_wS [.T,.F,.F] [] ⟨⟩ fun ae v3 f h4=>?_;simp only[fzw];clear h4;replace i:=i.trans f;have A:=f;clear f
 go_upto_region 6 with fail
 refine wp_wS [.c (.agg (crA (k:Int) (nN k) K)),.c (.agg (ptA (d 1 0).1 (P.1) (d 1 0).2 (d 1 1).1 (P.2.1) (d 1 1).2 P.2.2)),.T,.F,.F] [0,1,2] ⟨.g 27 0 (Z.gr i) rfl,.g 43 0 (D.gr A) rfl,.k (fun J =>#[.agg (crA (k:Int) (nN k) K),.agg (ptA (d 1 0).1 (P.1) (d 1 0).2 (d 1 1).1 (P.2.1) (d 1 1).2 P.2.2)]) fun J vv f hh=>RtW.of_c (ron_is h1 h2 lP oP K (fun j=>(Q j).gr (i.trans f)) (B.gr (A.trans f)) (C.gr (A.trans f))),⟨⟩⟩ fun af v4 f h6=>?_;simp only[fzw];clear h6;replace i:=i.trans f;replace A:=A.trans f;clear f
 go_upto_region 8 with fail
 refine wp_wS [.c (.int .i64 x),.T,.T,.u,.u,.T,.T] [1] ⟨.s (.binOp .lss 3 (.const (.int .i64 x)) (.const (.int .i64 1)) 3) rfl fun vv f=>by simp[go_sem,exI,x1],⟨⟩⟩ fun ag v5 f h8=>?_;simp only[fzw];clear h8;replace i:=i.trans f;replace A:=A.trans f;clear f
 go_upto_region 9 with fail
 refine wp_wS [.c (.int .i64 1602),.c (.int .i64 1602),.T,.T,.c (.pointer none),.T,.T,.T,.T,.T,.T] [1,5,8] ⟨.y (num_any _),.s (.binOp .eql 77 (.const (.pointer none)) (.const (.pointer none)) 77) rfl fun vv f=>by simp[go_sem,exI],.z V.out,⟨⟩⟩ fun ah v6 f h9=>?_;simp only[fzw];clear h9;replace i:=i.trans f;replace A:=A.trans f;clear f;replace G:=G.trans i;replace S:=S.gr i;replace Z:=Z.gr i;replace Q:=fun k=>(Q k).gr i;replace D:=D.gr A;replace B:=B.gr A;replace C:=C.gr A;clear i A
 go_wp2_with fail
 go_ret
 exact⟨rfl,G⟩
theorem lttab_3{k:Nat}(h1:1≤k)(h2:k≤15){P:Q3}(lP:P.1<M∧P.2.1<M)(oP:OnQ k P)(x:Int)(x1:¬x<1)(x2:16<x)(q:Option Addr)(L c:Nat)(w:World):Cg 13 #[.int .i64 k,.agg (pnQ P),.int .i64 x,.slice q L c] w (.bool true):=by
 have U:Hid _:=getq_yes k h1 h2;have W:Hid _:=awake16_any;have hx:x<1∨16<x:=Or.inr x2
 go_enter func13,ntmps13
 go_upto_region 1 with fail
 refine gen_w (fun v=>Hid (Gr w v∧Vr v (w.heap.size) (pnQ P))) ⟨grA,vrA⟩ ?_;intro u0 HV
 go_upto_region 2 with (go_at_call 16;refine(U.out _).mono ?_;rintro e X ⟨K,rfl,Q,Y⟩)
 obtain⟨e7,I⟩:=exl (X.heap.size);simp only[I]
 refine gen_w (fun v=>Gr w v∧Vr v (w.heap.size) (pnQ P)∧Vr v e7 (crA (k:Int) (nN k) K)∧∀j,Sl v (K j).1 (nN k j)) ?_ ?_
 ·subst I;obtain⟨G,S⟩:=HV.out;have Z:Gr X (X.alloc (.cells (crA (k:Int) (nN k) K) 27)):=(Gr.refl _).alloc _;exact⟨(G.trans Y).trans Z,(S.gr Y).gr Z,Vr.new _ _ _,fun j=>(Q j).gr Z⟩
 clear I Y U HV Q;rintro v0 ⟨G,S,c7,Q⟩
 go_upto_region 2 with fail
 refine wp_wS [.c (.int .i64 k),.c (.agg (pnQ P)),.c (.int .i64 x),.c (.tuple #[.pointer none,.int .i64 1602]),.c (.tuple #[.pointer none,.int .i64 1602]),.c (.pointer none),.c (.int .i64 1602),.c (.pointer none),.c (.int .i64 1602)] [1,3] ⟨.g 35 0 S rfl,.z (new_size h1 h2 oP hx),⟨⟩⟩ fun ac v1 f h2=>?_;simp only[fzw];clear h2;have i:=f;clear f
 go_upto_region 3 with fail
 refine wp_v false [.c (.agg (pnQ P)),.pt (P.1) (P.2.1) P.2.2,.a,.u] [0,1] [⟨2,3,43,ptA none 0 0 none 0 0 false,fun J=>ptA (J 1 0).1 (P.1) (J 1 0).2 (J 1 1).1 (P.2.1) (J 1 1).2 P.2.2⟩] ⟨.g 35 0 (S.gr i) rfl,.k _ fun J V f hh=>RtW.of_pt (rin_any _ _ _ lP.1 lP.2 _),⟨⟩⟩ ⟨.mk (fun _ _ h=>Value.agg.inj (h 1 rfl)) (fun _ v b H F=>by dsimp only at H ⊢;simp[go_sem,exI,H,F]) zPt ⟨fkc,fkp bPt,fka,fku,trivial⟩,⟨⟩⟩ fun d v2 f h3 aa=>?_;simp only[fzw,Kw.a];obtain⟨B,C⟩:Sl v2 (d 1 0).1 (P.1)∧Sl v2 (d 1 1).1 (P.2.1):=h3 1;obtain⟨⟨ab,D⟩,-⟩:(v1.heap.size≤(d 2 0).2∧Vr v2 (d 2 0).2 (ptA (d 1 0).1 (P.1) (d 1 0).2 (d 1 1).1 (P.2.1) (d 1 1).2 P.2.2))∧True:=aa;clear h3;replace i:=i.trans f;clear f
 go_upto_region 4 with fail
 refine wp_wS [.T,.F,.F] [] ⟨⟩ fun ae v3 f h4=>?_;simp only[fzw];clear h4;replace i:=i.trans f;have A:=f;clear f
 go_upto_region 6 with fail
 refine wp_wS [.c (.agg (crA (k:Int) (nN k) K)),.c (.agg (ptA (d 1 0).1 (P.1) (d 1 0).2 (d 1 1).1 (P.2.1) (d 1 1).2 P.2.2)),.T,.F,.F] [0,1,2] ⟨.g 27 0 (c7.gr i) rfl,.g 43 0 (D.gr A) rfl,.k (fun J =>#[.agg (crA (k:Int) (nN k) K),.agg (ptA (d 1 0).1 (P.1) (d 1 0).2 (d 1 1).1 (P.2.1) (d 1 1).2 P.2.2)]) fun J V f hh=>RtW.of_c (ron_is h1 h2 lP oP K (fun j=>(Q j).gr (i.trans f)) (B.gr (A.trans f)) (C.gr (A.trans f))),⟨⟩⟩ fun af v4 f h6=>?_;simp only[fzw];clear h6;replace i:=i.trans f;replace A:=A.trans f;clear f
 go_upto_region 8 with fail
 refine wp_wS [.c (.int .i64 x),.F,.F,.c (.int .i64 x),.T,.T,.T] [1,4] ⟨.s (.binOp .lss 3 (.const (.int .i64 x)) (.const (.int .i64 1)) 3) rfl fun V f=>by simp[go_sem,exI,x1],.s (.binOp .gtr 3 (.const (.int .i64 x)) (.const (.int .i64 16)) 3) rfl fun V f=>by simp[go_sem,exI,x2],⟨⟩⟩ fun ag v5 f h8=>?_;simp only[fzw];clear h8;replace i:=i.trans f;replace A:=A.trans f;clear f
 go_upto_region 9 with fail
 refine wp_wS [.c (.int .i64 1602),.c (.int .i64 1602),.T,.T,.c (.pointer none),.T,.T,.T,.T,.T,.T] [1,5,8] ⟨.y (num_any _),.s (.binOp .eql 77 (.const (.pointer none)) (.const (.pointer none)) 77) rfl fun V f=>by simp[go_sem,exI],.z W.out,⟨⟩⟩ fun ah v6 f h9=>?_;simp only[fzw];clear h9;replace i:=i.trans f;replace A:=A.trans f;clear f;replace G:=G.trans i;replace S:=S.gr i;replace c7:=c7.gr i;replace Q:=fun k=>(Q k).gr i;replace D:=D.gr A;replace B:=B.gr A;replace C:=C.gr A;clear i A
 go_wp2_with fail
 go_ret
 exact⟨rfl,G⟩
theorem lttab_4{k:Nat}(h1:1≤k)(h2:k≤15){P:Q3}(lP:P.1<M∧P.2.1<M)(oP:OnQ k P){n:Nat}(hn:1≤n∧n≤16){x:Int}(hx:(n:Int)=x)(q:Option Addr)(L c:Nat)(pk:Nat→Int)(w:World)(hI:Iv w q L pk):Cg 13 #[.int .i64 k,.agg (pnQ P),.int .i64 x,.slice q L c] w (.bool true):=by
 have aB:Hid _:=getq_yes k h1 h2;have aC:Hid _:=awake16_any
 have x1:¬x<1:=by omega
 have x2:¬16<x:=by omega
 obtain⟨aL,aM,aO,aP,aQ⟩:=info_parts Tryz.infoEv;have HI:Hid _:=hI;clear hI
 go_enter func13,ntmps13
 go_upto_region 1 with fail
 refine gen_w (fun v=>Hid (Gr w v∧Vr v (w.heap.size) (pnQ P))) ⟨grA,vrA⟩ ?_;intro u0 HV
 go_upto_region 2 with (go_at_call 16;refine(aB.out _).mono ?_;rintro e WB ⟨qc,rfl,HQ,GB⟩)
 obtain⟨e7,au⟩:=exl (WB.heap.size);simp only[au]
 refine gen_w (fun v=>Gr w v∧Vr v (w.heap.size) (pnQ P)∧Vr v e7 (crA (k:Int) (nN k) qc)∧∀j,Sl v (qc j).1 (nN k j)) ?_ ?_
 ·subst au;obtain⟨G,c0⟩:=HV.out;have g1:Gr WB (WB.alloc (.cells (crA (k:Int) (nN k) qc) 27)):=(Gr.refl _).alloc _;exact⟨(G.trans GB).trans g1,(c0.gr GB).gr g1,Vr.new _ _ _,fun j=>(HQ j).gr g1⟩
 clear au GB aB HV HQ;rintro v0 ⟨G,c0,c7,HQ⟩
 go_upto_region 2 with fail
 refine wp_wS [.c (.int .i64 k),.c (.agg (pnQ P)),.c (.int .i64 x),.tt n (mF k P),.tt n (mF k P),.tp n (mF k P),.O,.tp n (mF k P),.O] [1,3,4,5,6,7] ⟨.g 35 0 c0 rfl,.k _ fun I A d Y =>  ((new_tt h1 h2 oP hn hx _)),.m 3,.m 4,.m 4,.m 5,⟨⟩⟩ fun X v1 d h2=>?_;simp only[fzw,Kw.tp,Kw.tt];have D:Tb v1 (X 7 0).2 (X 7 1).2 (X 7 2).2 n (mF k P):=h2 7;clear h2;have g2:=d;clear d
 go_upto_region 3 with fail
 refine wp_v false [.c (.agg (pnQ P)),.pt (P.1) (P.2.1) P.2.2,.a,.u] [0,1] [⟨2,3,43,ptA none 0 0 none 0 0 false,fun I=>ptA (I 1 0).1 (P.1) (I 1 0).2 (I 1 1).1 (P.2.1) (I 1 1).2 P.2.2⟩] ⟨.g 35 0 (c0.gr g2) rfl,.k _ fun I A d Y=>RtW.of_pt (rin_any _ _ _ lP.1 lP.2 _),⟨⟩⟩ ⟨.mk (fun _ _ h=>Value.agg.inj (h 1 rfl)) (fun _ v b H F=>by dsimp only at H ⊢;simp[go_sem,exI,H,F]) zPt ⟨fkc,fkp bPt,fka,fku,trivial⟩,⟨⟩⟩ fun B v2 d h3 aR=>?_;simp only[fzw,Kw.a];obtain⟨Q,S⟩:Sl v2 (B 1 0).1 (P.1)∧Sl v2 (B 1 1).1 (P.2.1):=h3 1;obtain⟨⟨ba,U⟩,-⟩:(v1.heap.size≤(B 2 0).2∧Vr v2 (B 2 0).2 (ptA (B 1 0).1 (P.1) (B 1 0).2 (B 1 1).1 (P.2.1) (B 1 1).2 P.2.2))∧True:=aR;clear h3;replace g2:=g2.trans d;have g3:=d;clear d
 go_upto_region 4 with fail
 refine wp_wS [.T,.F,.F] [] ⟨⟩ fun be v3 d h4=>?_;simp only[fzw];clear h4;replace g2:=g2.trans d;replace g3:=g3.trans d;have g4:=d;clear d
 go_upto_region 6 with fail
 refine wp_wS [.c (.agg (crA (k:Int) (nN k) qc)),.c (.agg (ptA (B 1 0).1 (P.1) (B 1 0).2 (B 1 1).1 (P.2.1) (B 1 1).2 P.2.2)),.T,.F,.F] [0,1,2] ⟨.g 27 0 (c7.gr g2) rfl,.g 43 0 (U.gr g4) rfl,.k (fun I =>#[.agg (crA (k:Int) (nN k) qc),.agg (ptA (B 1 0).1 (P.1) (B 1 0).2 (B 1 1).1 (P.2.1) (B 1 1).2 P.2.2)]) fun I A d Y=>RtW.of_c (ron_is h1 h2 lP oP qc (fun j=>(HQ j).gr (g2.trans d)) (Q.gr (g4.trans d)) (S.gr (g4.trans d))),⟨⟩⟩ fun bf v4 d h6=>?_;simp only[fzw];clear h6;replace g2:=g2.trans d;replace g3:=g3.trans d;replace g4:=g4.trans d;clear d
 go_upto_region 8 with fail
 refine wp_wS [.c (.int .i64 x),.F,.F,.c (.int .i64 x),.F,.F,.F] [1,4] ⟨.s (.binOp .lss 3 (.const (.int .i64 x)) (.const (.int .i64 1)) 3) rfl fun A d=>by simp[go_sem,exI,x1],.s (.binOp .gtr 3 (.const (.int .i64 x)) (.const (.int .i64 16)) 3) rfl fun A d=>by simp[go_sem,exI,x2],⟨⟩⟩ fun bg v5 d h8=>?_;simp only[fzw];clear h8;replace g2:=g2.trans d;replace g3:=g3.trans d;replace g4:=g4.trans d;clear d
 go_upto_region 10 with fail
 refine wp_wS [.O,.O,.F,.F,.c (pv ((X 7 0).2) 0),.F,.F,.F,.c (pv ((X 7 0).2) 0),.c (.int .i64 (n:Nat)),.c (.int .i64 x),.F,.F] [1,5,9,11] ⟨.y (num_any _),.s (.binOp .eql 77 (.const (pv ((X 7 0).2) 0)) (.const (.pointer none)) 77) rfl fun A d=>by simp[go_sem,exI],.k _ fun I A d Y=>RtW.of_c (Rt.c (sizeT (D.gr (g3.trans d)))),.s (.binOp .neq 3 (.const (.int .i64 (n:Nat))) (.const (.int .i64 x)) 3) rfl fun A d=>by simp[go_sem,exI,hx],⟨⟩⟩ fun bb v6 d aS=>?_;simp only[fzw];clear aS;replace g2:=g2.trans d;replace g3:=g3.trans d;replace g4:=g4.trans d;clear d;replace G:=G.trans g2;replace c0:=c0.gr g2;replace c7:=c7.gr g2;replace HQ:=fun k=>(HQ k).gr g2;replace D:=D.gr g3;replace U:=U.gr g4;replace Q:=Q.gr g4;replace S:=S.gr g4;clear g2 g3 g4
 go_upto_region 13 with (go_at_call 45;refine(new_any _).mono ?_;rintro e w' ⟨rfl,rfl⟩)
 refine gen_w (fun v=>Gr v6 v∧Tr v (v6.heap.size) (.slice none 0 0) []) ⟨grA,Tr.new _⟩ ?_;rintro vr ⟨f,aD⟩;have J:Tw v6 vr (v6.heap.size) (.slice none 0 0) (.slice none 0 0) [] []:=⟨f,aD,World.ownsRow_nil _ _ _ _,fun g h=>by cases h⟩;have aE:Hid _:=J;clear f aD J
 go_wp2_with fail
 go_loopw [15,16] (fun vw im wr=>∃(m:Nat) (xs:List (Int×Int)) (v:Value),im=.int .i64 m∧Hu (m≤L∧m≤12)∧Hu (xs.length≤16*m)∧Hid (Tw v6 wr (v6.heap.size) v vw xs xs)) (fun _ im _=>12-(intOf im).toNat)
 case atStart=>exact⟨0,[],.slice none 0 0,rfl,fun _=>by omega,fun _=>by decide,aE⟩
 case round=>
  clear aE;obtain⟨m,xs,v,rfl,HM,HX,HT⟩:=hrel;have J:=HT.out;have hm:=HM.out ();have bh:=HX.out ()
  by_cases hlt:m<L∧m<12
  ·obtain⟨l1,l2⟩:=hlt
   have i0:(0:Int)≤m:=by omega
   have i1:(m:Int)<L:=by omega
   have i2:(m:Int)<12:=by omega
   have aT:xs.length≤900000:=by omega
   obtain⟨b,o,rfl,aU,hc⟩:∃b o,q=some ⟨b,o,none⟩∧b<w.heap.size∧∀i,i<L→w.cell? ⟨b,o+i,none⟩=some (.int .i64 (pk i)):=by
    rcases HI.out with h|h
    ·omega
    ·exact h
   have av:=hc m l1;obtain⟨a,ha⟩:=exl (pk m);rw[ha]at av;have ec:∀{v:World},Gr v6 v→v.cell? ⟨b,o+m,none⟩=some (.int .i64 a):=fun g=>(World.cell?_of_block (w:=w) ((G.trans g).below.block b aU)).trans av;have f:=J.g;clear hc ha av HT HX HM HI
   by_cases a1:a<0
   ·skip
    have y1:a<0:=by omega
    have hy:a<0∨(n:Int)≤a:=by omega
    go_upto_region 17 with fail
    refine wp_v false [.c (pv ((X 7 0).2) 0),.c (pv (v6.heap.size) 0),.c (.slice (some ⟨b,o,none⟩) L c),.c (.int .i64 m),.c (pv b (o+m)),.c (.int .i64 a),.c (.tuple #[.agg (pnt 0 0 false),.int .i64 1603]),.c (.tuple #[.agg (pnt 0 0 false),.int .i64 1603]),.c (.agg (pnt 0 0 false)),.c (.int .i64 1603),.a,.u,.c (.int .i64 1603)] [4,5,6] [⟨10,11,35,pnt 0 0 false,fun _=>pnt 0 0 false⟩] ⟨.s (.indexAddr 76 (.const (.slice (some ⟨b,o,none⟩) L c)) (.const (.int .i64 m))) rfl fun A d=>by simp[go_sem,exI,i0,i1],.s (.load 3 (.const (pv b (o+m)))) rfl fun A d=>by simp[go_sem,exI,(ec (f.trans d))],.k _ fun I A d Y=>RtW.of_c (Rt.c (pickE (D.gr (f.trans d)) (.pointer (some ⟨v6.heap.size,0,none⟩)) hy)),⟨⟩⟩ ⟨.k zPnt (.t rfl),⟨⟩⟩ fun ab v7 d aw af=>?_;simp only[fzw,Kw.a];obtain⟨⟨ao,aa⟩,-⟩:(wr.heap.size≤(ab 10 0).2∧Vr v7 (ab 10 0).2 (pnt 0 0 false))∧True:=af;clear aw;replace f:=f.trans d;have K:=d;clear d
    go_upto_region 18 with fail
    refine wp_v false [.c (pv ((X 7 0).2) 0),.c (.slice (some ⟨b,o,none⟩) L c),.c (.int .i64 m),.c (pv b (o+m)),.c (.int .i64 a),.c (.tuple #[.agg (pnt 0 0 false),.int .i64 1603]),.c (.tuple #[.agg (pnt 0 0 false),.int .i64 1603]),.c (.agg (pnt 0 0 false)),.c (.int .i64 1603),.a,.u,.c (.int .i64 1603)] [3,4,5] [⟨9,10,35,pnt 0 0 false,fun _=>pnt 0 0 false⟩] ⟨.s (.indexAddr 76 (.const (.slice (some ⟨b,o,none⟩) L c)) (.const (.int .i64 m))) rfl fun A d=>by simp[go_sem,exI,i0,i1],.s (.load 3 (.const (pv b (o+m)))) rfl fun A d=>by simp[go_sem,exI,(ec (f.trans d))],.k _ fun I A d Y=>RtW.of_c (Rt.c (pickE (D.gr (f.trans d)) (Value.pointer none) hy)),⟨⟩⟩ ⟨.k zPnt (.t rfl),⟨⟩⟩ fun V v8 d ag ac=>?_;simp only[fzw,Kw.a];obtain⟨⟨ah,ae⟩,-⟩:(v7.heap.size≤(V 9 0).2∧Vr v8 (V 9 0).2 (pnt 0 0 false))∧True:=ac;clear ag;replace K:=K.trans d;replace f:=f.trans d;have C:=d;clear d
    go_upto_region 19 with fail
    refine wp_wS [.c (.slice (some ⟨b,o,none⟩) L c),.c (.int .i64 m),.c (pv b (o+m)),.c (.int .i64 a),.T,.T,.u,.u,.u,.u,.u,.u,.T] [2,3,4] ⟨.s (.indexAddr 76 (.const (.slice (some ⟨b,o,none⟩) L c)) (.const (.int .i64 m))) rfl fun A d=>by simp[go_sem,exI,i0,i1],.s (.load 3 (.const (pv b (o+m)))) rfl fun A d=>by simp[go_sem,exI,(ec (f.trans d))],.s (.binOp .lss 3 (.const (.int .i64 a)) (.const (.int .i64 0)) 3) rfl fun A d=>by simp[go_sem,exI,y1],⟨⟩⟩ fun ap v9 d ai=>?_;simp only[fzw];clear ai;replace K:=K.trans d;replace C:=C.trans d;replace f:=f.trans d;have W:=d;clear d
    go_upto_region 20 with fail
    refine wp_wS [.c (.int .i64 1603),.c (.int .i64 1603),.F,.F,.c (.int .i64 1603),.c (.int .i64 1603),.F,.F,.F,.c (.agg (pnt 0 0 false)),.c (.agg (pnt 0 0 false)),.F,.F] [1,5,9,11] ⟨.y (num_any _),.y (num_any _),.g 35 0 (aa.gr C) rfl,.s (.binOp .neq 35 (.const (.agg (pnt 0 0 false))) (.const (.agg (pnt 0 0 false))) 35) rfl fun A d=>by simp[go_sem,exI,nePn,eqN_self],⟨⟩⟩ fun aG aH d ax=>?_;simp only[fzw];clear ax;replace K:=K.trans d;replace C:=C.trans d;replace W:=W.trans d;replace f:=f.trans d;clear d;replace J:=J.gr K
    go_wp2_with fail
    go_roundw
    case rel=>exact⟨m+1,xs,v,by go_num,fun _=>by omega,fun _=>by omega,J⟩
    case measure=>simp[intOf];omega
   by_cases a2:x≤a
   ·skip
    have y1:¬a<0:=by omega
    have y2:x≤a:=by omega
    have hy:a<0∨(n:Int)≤a:=by omega
    go_upto_region 17 with fail
    refine wp_v false [.c (pv ((X 7 0).2) 0),.c (pv (v6.heap.size) 0),.c (.slice (some ⟨b,o,none⟩) L c),.c (.int .i64 m),.c (pv b (o+m)),.c (.int .i64 a),.c (.tuple #[.agg (pnt 0 0 false),.int .i64 1603]),.c (.tuple #[.agg (pnt 0 0 false),.int .i64 1603]),.c (.agg (pnt 0 0 false)),.c (.int .i64 1603),.a,.u,.c (.int .i64 1603)] [4,5,6] [⟨10,11,35,pnt 0 0 false,fun _=>pnt 0 0 false⟩] ⟨.s (.indexAddr 76 (.const (.slice (some ⟨b,o,none⟩) L c)) (.const (.int .i64 m))) rfl fun A d=>by simp[go_sem,exI,i0,i1],.s (.load 3 (.const (pv b (o+m)))) rfl fun A d=>by simp[go_sem,exI,(ec (f.trans d))],.k _ fun I A d Y=>RtW.of_c (Rt.c (pickE (D.gr (f.trans d)) (.pointer (some ⟨v6.heap.size,0,none⟩)) hy)),⟨⟩⟩ ⟨.k zPnt (.t rfl),⟨⟩⟩ fun ab v7 d aw af=>?_;simp only[fzw,Kw.a];obtain⟨⟨ao,aa⟩,-⟩:(wr.heap.size≤(ab 10 0).2∧Vr v7 (ab 10 0).2 (pnt 0 0 false))∧True:=af;clear aw;replace f:=f.trans d;have K:=d;clear d
    go_upto_region 18 with fail
    refine wp_v false [.c (pv ((X 7 0).2) 0),.c (.slice (some ⟨b,o,none⟩) L c),.c (.int .i64 m),.c (pv b (o+m)),.c (.int .i64 a),.c (.tuple #[.agg (pnt 0 0 false),.int .i64 1603]),.c (.tuple #[.agg (pnt 0 0 false),.int .i64 1603]),.c (.agg (pnt 0 0 false)),.c (.int .i64 1603),.a,.u,.c (.int .i64 1603)] [3,4,5] [⟨9,10,35,pnt 0 0 false,fun _=>pnt 0 0 false⟩] ⟨.s (.indexAddr 76 (.const (.slice (some ⟨b,o,none⟩) L c)) (.const (.int .i64 m))) rfl fun A d=>by simp[go_sem,exI,i0,i1],.s (.load 3 (.const (pv b (o+m)))) rfl fun A d=>by simp[go_sem,exI,(ec (f.trans d))],.k _ fun I A d Y=>RtW.of_c (Rt.c (pickE (D.gr (f.trans d)) (Value.pointer none) hy)),⟨⟩⟩ ⟨.k zPnt (.t rfl),⟨⟩⟩ fun V v8 d ag ac=>?_;simp only[fzw,Kw.a];obtain⟨⟨ah,ae⟩,-⟩:(v7.heap.size≤(V 9 0).2∧Vr v8 (V 9 0).2 (pnt 0 0 false))∧True:=ac;clear ag;replace K:=K.trans d;replace f:=f.trans d;have C:=d;clear d
    go_upto_region 19 with fail
    refine wp_wS [.c (.slice (some ⟨b,o,none⟩) L c),.c (.int .i64 m),.c (pv b (o+m)),.c (.int .i64 a),.F,.F,.c (.slice (some ⟨b,o,none⟩) L c),.c (.int .i64 m),.c (pv b (o+m)),.c (.int .i64 a),.c (.int .i64 x),.T,.T] [2,3,4,8,9,11] ⟨.s (.indexAddr 76 (.const (.slice (some ⟨b,o,none⟩) L c)) (.const (.int .i64 m))) rfl fun A d=>by simp[go_sem,exI,i0,i1],.s (.load 3 (.const (pv b (o+m)))) rfl fun A d=>by simp[go_sem,exI,(ec (f.trans d))],.s (.binOp .lss 3 (.const (.int .i64 a)) (.const (.int .i64 0)) 3) rfl fun A d=>by simp[go_sem,exI,y1],.s (.indexAddr 76 (.const (.slice (some ⟨b,o,none⟩) L c)) (.const (.int .i64 m))) rfl fun A d=>by simp[go_sem,exI,i0,i1],.s (.load 3 (.const (pv b (o+m)))) rfl fun A d=>by simp[go_sem,exI,(ec (f.trans d))],.s (.binOp .geq 3 (.const (.int .i64 a)) (.const (.int .i64 x)) 3) rfl fun A d=>by simp[go_sem,exI,y2],⟨⟩⟩ fun ap v9 d ai=>?_;simp only[fzw];clear ai;replace K:=K.trans d;replace C:=C.trans d;replace f:=f.trans d;have W:=d;clear d
    go_upto_region 20 with fail
    refine wp_wS [.c (.int .i64 1603),.c (.int .i64 1603),.F,.F,.c (.int .i64 1603),.c (.int .i64 1603),.F,.F,.F,.c (.agg (pnt 0 0 false)),.c (.agg (pnt 0 0 false)),.F,.F] [1,5,9,11] ⟨.y (num_any _),.y (num_any _),.g 35 0 (aa.gr C) rfl,.s (.binOp .neq 35 (.const (.agg (pnt 0 0 false))) (.const (.agg (pnt 0 0 false))) 35) rfl fun A d=>by simp[go_sem,exI,nePn,eqN_self],⟨⟩⟩ fun aG aH d ax=>?_;simp only[fzw];clear ax;replace K:=K.trans d;replace C:=C.trans d;replace W:=W.trans d;replace f:=f.trans d;clear d;replace J:=J.gr K
    go_wp2_with fail
    go_roundw
    case rel=>exact⟨m+1,xs,v,by go_num,fun _=>by omega,fun _=>by omega,J⟩
    case measure=>simp[intOf];omega
   ·skip
    obtain⟨i,hy⟩:∃i:Nat,(i:Int)=a:=⟨a.toNat,by omega⟩
    have hi:i<n:=by omega
    have li:i<16:=by omega
    have y1:¬a<0:=by omega
    have y2:¬x≤a:=by omega
    obtain⟨Z,hZ⟩:=exl (mlQ k i P);have ew:=ec f
    go_upto_region 18 with (go_at_call 46;refine(pickR h1 h2 oP D f (Nat.le_refl _) J.tr aT hn.2 hi hy hZ).mono ?_;rintro e aV ⟨rfl,ay,hR,aq⟩)
    refine gen_w (fun v=>Tw v6 v (v6.heap.size) ay u15 (xs++ixs n) xs∧Vr v aV.heap.size (pnQ Z)) ⟨(J.pick hR aq).gr ((Gr.refl _).alloc _),Vr.new _ _ _⟩ ?_;clear f J hR aq ew;rintro aW ⟨J,a0⟩;have f:=J.g
    go_upto_region 18 with fail
    refine wp_v false [.c (pv ((X 7 0).2) 0),.c (.slice (some ⟨b,o,none⟩) L c),.c (.int .i64 m),.c (pv b (o+m)),.c (.int .i64 a),.E (.agg (pnQ Z)),.E (.agg (pnQ Z)),.c (.agg (pnQ Z)),.O,.a,.u,.O] [3,4,5] [⟨9,10,35,pnt 0 0 false,fun _=>pnQ Z⟩] ⟨.s (.indexAddr 76 (.const (.slice (some ⟨b,o,none⟩) L c)) (.const (.int .i64 m))) rfl fun A d=>by simp[go_sem,exI,i0,i1],.s (.load 3 (.const (pv b (o+m)))) rfl fun A d=>by simp[go_sem,exI,(ec (f.trans d))],.k _ fun I A d Y=>RtW.of_c (Rt.c (pickM h1 h2 oP (D.gr (f.trans d)) hn.2 hi hy hZ)),⟨⟩⟩ ⟨.k zPnt (.t rfl),⟨⟩⟩ fun V v7 d ag ac=>?_;simp only[fzw,Kw.a];obtain⟨⟨ah,ae⟩,-⟩:(aW.heap.size≤(V 9 0).2∧Vr v7 (V 9 0).2 (pnQ Z))∧True:=ac;clear ag;replace f:=f.trans d;have C:=d;clear d
    go_upto_region 19 with fail
    refine wp_wS [.c (.slice (some ⟨b,o,none⟩) L c),.c (.int .i64 m),.c (pv b (o+m)),.c (.int .i64 a),.F,.F,.c (.slice (some ⟨b,o,none⟩) L c),.c (.int .i64 m),.c (pv b (o+m)),.c (.int .i64 a),.c (.int .i64 x),.F,.F] [2,3,4,8,9,11] ⟨.s (.indexAddr 76 (.const (.slice (some ⟨b,o,none⟩) L c)) (.const (.int .i64 m))) rfl fun A d=>by simp[go_sem,exI,i0,i1],.s (.load 3 (.const (pv b (o+m)))) rfl fun A d=>by simp[go_sem,exI,(ec (f.trans d))],.s (.binOp .lss 3 (.const (.int .i64 a)) (.const (.int .i64 0)) 3) rfl fun A d=>by simp[go_sem,exI,y1],.s (.indexAddr 76 (.const (.slice (some ⟨b,o,none⟩) L c)) (.const (.int .i64 m))) rfl fun A d=>by simp[go_sem,exI,i0,i1],.s (.load 3 (.const (pv b (o+m)))) rfl fun A d=>by simp[go_sem,exI,(ec (f.trans d))],.s (.binOp .geq 3 (.const (.int .i64 a)) (.const (.int .i64 x)) 3) rfl fun A d=>by simp[go_sem,exI,y2],⟨⟩⟩ fun ap v8 d ai=>?_;simp only[fzw];clear ai;replace C:=C.trans d;replace f:=f.trans d;have W:=d;clear d
    go_upto_region 22 with fail
    refine wp_v true [.c (.agg (crA (k:Int) (nN k) qc)),.c (.slice (some ⟨b,o,none⟩) L c),.c (.int .i64 m),.c (pv b (o+m)),.c (.int .i64 a),.n (i),.c (.agg (ptA (B 1 0).1 (P.1) (B 1 0).2 (B 1 1).1 (P.2.1) (B 1 1).2 P.2.2)),.pt (Z.1) (Z.2.1) Z.2.2,.c (.agg (pnQ Z)),.a,.u] [0,3,4,5,6,7,8] [⟨9,10,35,pnt 0 0 false,fun _=>pnQ Z⟩] ⟨.g 27 0 (c7.gr f) rfl,.s (.indexAddr 76 (.const (.slice (some ⟨b,o,none⟩) L c)) (.const (.int .i64 m))) rfl fun A d=>by simp[go_sem,exI,i0,i1],.s (.load 3 (.const (pv b (o+m)))) rfl fun A d=>by simp[go_sem,exI,(ec (f.trans d))],.k _ fun I A d Y=>RtW.of_n (rsmI li hy _),.g 43 0 (U.gr f) rfl,.k (fun I =>#[.agg (crA (k:Int) (nN k) qc),.slice (I 5 0).1 (dl (i)) (I 5 0).2,.agg (ptA (B 1 0).1 (P.1) (B 1 0).2 (B 1 1).1 (P.2.1) (B 1 1).2 P.2.2)]) fun I A d Y=>RtW.of_pt (hZ▸rtimesQ k h1 h2 qc oP (dl_16 li) (fun j=>(HQ j).gr (f.trans d)) (Y 5 rfl) (Q.gr (f.trans d)) (S.gr (f.trans d))),.k (fun I =>#[.agg (ptA (I 7 0).1 (Z.1) (I 7 0).2 (I 7 1).1 (Z.2.1) (I 7 1).2 Z.2.2)]) fun I A d Y=>RtW.of_c (Rt.c (rout_any _ _ _ _ _ _ _ _ (Y 7 rfl).1 (Y 7 rfl).2)),⟨⟩⟩ ⟨.k zPnt ⟨fkc,fkc,fkc,fkc,fkc,fkn bPnt,fkc,fkp bPnt,fkc,fka,fku,trivial⟩,⟨⟩⟩ fun ar v9 d a3 aI=>?_;simp only[fzw,Kw.a];obtain⟨⟨a4,aj⟩,-⟩:(v8.heap.size≤(ar 9 0).2∧Vr v9 (ar 9 0).2 (pnQ Z))∧True:=aI;clear a3;replace C:=C.trans d;replace W:=W.trans d;replace f:=f.trans d;clear d
    go_upto_region 23 with fail
    refine wp_wS [.O,.O,.F,.F,.O,.O,.F,.F,.F,.c (.agg (pnQ Z)),.c (.agg (pnQ Z)),.F,.F,.F,.c (.agg (pnQ Z)),.c (.agg (pnQ Z)),.F,.F] [1,5,9,10,11,14,15,16] ⟨.y (num_any _),.y (num_any _),.g 35 0 (a0.gr C) rfl,.g 35 0 aj rfl,.s (.binOp .neq 35 (.const (.agg (pnQ Z))) (.const (.agg (pnQ Z))) 35) rfl fun A d=>by simp[go_sem,exI,nePn,eqN_self],.g 35 0 (ae.gr W) rfl,.g 35 0 aj rfl,.s (.binOp .neq 35 (.const (.agg (pnQ Z))) (.const (.agg (pnQ Z))) 35) rfl fun A d=>by simp[go_sem,exI,nePn,eqN_self],⟨⟩⟩ fun bc aH d a5=>?_;simp only[fzw];clear a5;replace C:=C.trans d;replace W:=W.trans d;replace f:=f.trans d;have a6:=d;clear d;replace J:=J.gr C;clear f C W a6;simp only[Nat.zero_add,Nat.reduceAdd]
    go_wp2_with fail
    go_loopw [15,22] (fun vw2 kj wr2=>∃j:Nat,kj=.int .i64 j∧Hu (j≤n)∧Hid (Tw v6 wr2 (v6.heap.size) ay vw2 (xs++ixs n) (xs++ixs j))) (fun _ kj _=>16-(intOf kj).toNat)
    case atStart=>
     refine⟨0,rfl,fun _=>Nat.zero_le _,?_⟩;rw[show ixs 0=[] from rfl,List.append_nil];exact J
    case round=>
     clear J;obtain⟨j,rfl,HJ,HT⟩:=hrel;have J:=HT.out
     have j0:(0:Int)≤j:=by omega
     by_cases hj:j<n
     ·have j1:(j:Int)<x:=by omega
      have a7:(xs++ixs j).length≤900000:=by rw[List.length_append,ixs_length];omega
      obtain⟨N,hN⟩:=exl ((xs++ixs j).length);have hr:=J.row;rw[hN]at hr a7
      go_wp2_with (at_builtin;refine wpList_append_lies _ rfl (.tmp 183) (.tmp 186) 83 rfl (v6.heap.size+1) 87 aL _ 2 16 underlying83 aM aO aP aQ rfl (by omega) _ N (evc (xs++ixs j)) rfl (hr.alloc _) ⟨wr.heap.size,0,none⟩ 1 1 [.int .i64 2,.int .i64 j] rfl rfl (World.news_of_block (cs :=#[.int .i64 2,.int .i64 j]) (t:=87) (fr:=(0,0)) (heap_alloc_new wr _)) (by simp[Value.oneCell']) (by omega) (by unfold maxLen;omega) (by omega) (by have:=J.tr.lt;simp;omega) _ rfl ?_;intro g bi w2 aJ az a8 bd)
      go_roundw
      case rel=>
       refine⟨j+1,by go_num,fun _=>hj,?_⟩;rw[ixs_succ,←List.append_assoc];exact J.push hN az aJ a8
      case measure=>simp[intOf];omega
     ·have j1:¬(j:Int)<x:=by omega
      have a9:j=n:=by have:=HJ.out ();omega
      subst a9
      go_wp2_with fail
      go_roundw
      case rel=>exact⟨m+1,xs++ixs j,ay,by go_num,fun _=>by omega,fun _=>by rw[List.length_append,ixs_length];omega,J⟩
      case measure=>simp[intOf];omega
  ·obtain⟨N,hN⟩:=exl (xs.length)
   have hb:N≤1000000:=by omega
   have hr:=J.row;have EW:=Ev.of_owns hr;obtain⟨pw,cw,rfl,-⟩:=owns_parts hr;rw[hN];replace EW:Ev wr pw xs:=EW;clear hr HT HI;have f:=J.g
   by_cases l1:m<L
   ·have i1:(m:Int)<L:=by omega
    have i2:¬(m:Int)<12:=by omega
    go_upto_region 29 with fail
    refine wp_wS [.c (pv (v6.heap.size) 0),.ev N (xs),.c (.slice pw N cw),.T,.T,.T,.T,.T] [1,3,5] ⟨.k _ fun I A d Y =>  ((evT (J.tr.gr d) hN hb)),.k (fun I =>#[.slice (I 1 0).1 N (I 1 0).2,.slice pw N cw]) fun I A d Y=>RtW.of_c (Rt.c (sameevT (Y 1 rfl) (EW.gr d) hN hb)),.z aC.out,⟨⟩⟩ fun aK v7 d aA=>?_;simp only[fzw,Kw.ev];clear aA;replace f:=f.trans d;have ak:=d;clear d;replace G:=G.trans f;replace c0:=c0.gr f;replace c7:=c7.gr f;replace U:=U.gr f;replace HQ:=fun k=>(HQ k).gr f;replace D:=D.gr f;replace Q:=Q.gr f;replace S:=S.gr f;replace J:=J.gr ak;clear ak f
    go_wp2_with fail
    go_ret
    exact⟨rfl,G⟩
   ·have i1:¬(m:Int)<L:=by omega
    go_upto_region 29 with fail
    refine wp_wS [.c (pv (v6.heap.size) 0),.ev N (xs),.c (.slice pw N cw),.T,.T,.T,.T,.T] [1,3,5] ⟨.k _ fun I A d Y =>  ((evT (J.tr.gr d) hN hb)),.k (fun I =>#[.slice (I 1 0).1 N (I 1 0).2,.slice pw N cw]) fun I A d Y=>RtW.of_c (Rt.c (sameevT (Y 1 rfl) (EW.gr d) hN hb)),.z aC.out,⟨⟩⟩ fun aK v7 d aA=>?_;simp only[fzw,Kw.ev];clear aA;replace f:=f.trans d;have ak:=d;clear d;replace G:=G.trans f;replace c0:=c0.gr f;replace c7:=c7.gr f;replace U:=U.gr f;replace HQ:=fun k=>(HQ k).gr f;replace D:=D.gr f;replace Q:=Q.gr f;replace S:=S.gr f;replace J:=J.gr ak;clear ak f
    go_wp2_with fail
    go_ret
    exact⟨rfl,G⟩
theorem lttab_any(id:Int)(P:Q3)(lP:P.1<M∧P.2.1<M)(x:Int)(q:Option Addr)(L c:Nat)(pk:Nat→Int)(w:World)(hI:Iv w q L pk):Cg 13 #[.int .i64 id,.agg (pnQ P),.int .i64 x,.slice q L c] w (.bool true):=by
 by_cases h:1≤id∧id≤15
 ·obtain⟨k,rfl⟩:∃k:Nat,id=(k:Int):=⟨id.toNat,by omega⟩
  have d:1≤k:=by omega
  have f:k≤15:=by omega
  by_cases oP:onB k P.1 P.2.1 P.2.2=true
  ·by_cases x1:x<1
   ·exact lttab_2 d f lP oP x x1 q L c w
   by_cases x2:16<x
   ·exact lttab_3 d f lP oP x x1 x2 q L c w
   ·exact lttab_4 d f lP oP (n:=x.toNat) (by omega) (by omega) q L c pk w hI
  ·exact lttab_1 d f lP (Bool.eq_false_iff.2 oP) x q L c w
 ·exact lttab_0 id (by omega) lP x q L c w
end
end
end Go.Proofs.YtffhepbppiocbabGreat