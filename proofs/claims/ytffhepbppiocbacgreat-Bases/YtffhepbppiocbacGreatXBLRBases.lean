import Derived.Test.YtffhepbppiocbacGreatXBQJ
namespace Go.Proofs.YtffhepbppiocbacGreat
open Go.RowKit Go.Proofs.Tryz
set_option maxRecDepth 100000
set_option maxHeartbeats 8000000
section
attribute [local go_sem ↓] uz1
attribute [local go_sem] uz2
section
attribute [local go_sem] uz8
attribute [local go_sem ↓] uz17 Go.wp_at_zero Go.wp_at_succ
attribute [local go_sem] uz18
theorem lrbases_0(id:Int)(h:id<1∨15<id){t:Nat}(w:World):Cg 12 #[.int .i64 id,.agg (nw 9 t)] w (.bool true):=by
 have B:Hid (∀w,Cg 16 #[.int .i64 id] w (.tuple #[.agg #[.int .i64 0,.slice none 0 0,.slice none 0 0,.slice none 0 0,.slice none 0 0,.slice none 0 0,.slice none 0 0],.bool false])):=fun w=>get_no id h w;have J:Hid (∀w,Cg 47 #[] w (.bool true)):=fun w=>awake19_any w
 go_enter func12,ntmps12
 go_upto_region 1 with fail
 refine gen_w (fun v=>Hid (Gr w v∧Vr v (w.heap.size) (nw 9 t))) ⟨grA,vrA⟩ ?_;intro u0 Q
 go_upto_region 2 with (go_at_call 16;refine(B.out _).mono ?_;rintro e K ⟨rfl,L⟩)
 obtain⟨e7,q⟩:=exl (K.heap.size);simp only[q]
 refine gen_w (fun v=>Gr w v∧Vr v (w.heap.size) (nw 9 t)) ?_ ?_
 ·subst q;obtain⟨G,C⟩:=Q.out;have S:Gr K (K.alloc (.cells (#[.int .i64 0,.slice none 0 0,.slice none 0 0,.slice none 0 0,.slice none 0 0,.slice none 0 0,.slice none 0 0]) 27)):=(Gr.refl _).alloc _;exact⟨(G.trans L).trans S,(C.gr L).gr S⟩
 clear q L B Q;rintro D ⟨G,C⟩
 go_upto_region 3 with (go_at_call 27;refine(new_any _).mono ?_;rintro e w' ⟨rfl,rfl⟩)
 refine gen_w (fun v=>Gr D v∧Tr v (D.heap.size) (.slice none 0 0) []) ⟨grA,Tr.new _⟩ ?_;rintro V ⟨j,x⟩;refine wp_v false [.c (pv (D.heap.size) 0),.c (.int .i64 id),.N t,.c (.tuple #[.agg (pnt 0 0 false),.int .i64 1900]),.c (.tuple #[.agg (pnt 0 0 false),.int .i64 1900]),.c (.agg (pnt 0 0 false)),.c (.int .i64 1900),.a,.u,.c (.int .i64 1900)] [2,3] [⟨7,8,35,pnt 0 0 false,fun _=>pnt 0 0 false⟩] ⟨.g 33 0 (C.gr j) rfl,.z (bmul_no id h (d:=t) (.pointer (some ⟨D.heap.size,0,none⟩))),⟨⟩⟩ ⟨.k zPnt (.t rfl),⟨⟩⟩ fun H W f X P=>?_;simp only[fzw,Kw.a];obtain⟨⟨U,i⟩,-⟩:(V.heap.size≤(H 7 0).2∧Vr W (H 7 0).2 (pnt 0 0 false))∧True:=P;clear X;replace j:=j.trans f;have A:=f;clear f
 go_upto_region 4 with fail
 refine wp_wS [.F,.T,.T] [] ⟨⟩ fun Y v2 f Z=>?_;simp only[fzw];clear Z;replace A:=A.trans f;replace j:=j.trans f;have I:=f;clear f
 go_upto_region 5 with fail
 refine wp_wS [.c (.int .i64 1900),.c (.int .i64 1900),.T,.T,.c (.agg (pnt 0 0 false)),.c (.agg (pnt 0 0 false)),.T,.T,.T,.c (pv (D.heap.size) 0),.O,.T,.T,.T,.T,.T,.T] [1,4,6,10,14] ⟨.y (num_any _),.g 35 0 (i.gr I) rfl,.s (.binOp .eql 35 (.const (.agg (pnt 0 0 false))) (.const (.agg (pnt 0 0 false))) 35) rfl fun vv f=>by simp[go_sem,exI,eqPn,eqN_self],.k _ fun yy vv f hh=>RtW.of_c (Rt.same (lenT (x.gr (A.trans f)) rfl)),.z J.out,⟨⟩⟩ fun aa v3 f h5=>?_;simp only[fzw];clear h5;replace A:=A.trans f;replace I:=I.trans f;replace j:=j.trans f;clear f;replace G:=G.trans j;replace C:=C.gr j;replace x:=x.gr A;replace i:=i.gr I;clear A I j
 go_wp2_with fail
 go_ret
 exact⟨rfl,G⟩
theorem lrbases_1{k:Nat}(h1:1≤k)(h2:k≤15){t:Nat}(ht:t<M)(gt:oN k≤t)(w:World):Cg 12 #[.int .i64 k,.agg (nw 9 t)] w (.bool true):=by
 have I:Hid (∀w,Calls prog 16 #[.int .i64 k] w (GetQ k w)):=fun w=>getq_yes k h1 h2 w;have Q:Hid (∀w,Cg 47 #[] w (.bool true)):=fun w=>awake19_any w;obtain⟨z,hz⟩:=exl (cmpZ t (oN k))
 have S:dl t≤400:=by have:=dl_M t ht;omega
 have U:dl (oN k)≤400:=by have:=oN_dl k;omega
 have z0:0≤z:=by rw[←hz];unfold cmpZ;rw[if_neg (Nat.not_lt.2 gt)];split <;> omega
 go_enter func12,ntmps12
 go_upto_region 1 with fail
 refine gen_w (fun v=>Hid (Gr w v∧Vr v (w.heap.size) (nw 9 t))) ⟨grA,vrA⟩ ?_;intro u0 HV
 go_upto_region 2 with (go_at_call 16;refine(I.out _).mono ?_;rintro e V ⟨x,rfl,D,W⟩)
 obtain⟨e7,A⟩:=exl (V.heap.size);simp only[A]
 refine gen_w (fun v=>Gr w v∧Vr v (w.heap.size) (nw 9 t)∧Vr v e7 (crA (k:Int) (nN k) x)∧∀j,Sl v (x j).1 (nN k j)) ?_ ?_
 ·subst A;obtain⟨G,H⟩:=HV.out;have X:Gr V (V.alloc (.cells (crA (k:Int) (nN k) x) 27)):=(Gr.refl _).alloc _;exact⟨(G.trans W).trans X,(H.gr W).gr X,Vr.new _ _ _,fun j=>(D j).gr X⟩
 clear A W I HV D;rintro J ⟨G,H,Y,D⟩
 go_upto_region 3 with (go_at_call 27;refine(new_any _).mono ?_;rintro e w' ⟨rfl,rfl⟩)
 refine gen_w (fun v=>Gr J v∧Tr v (J.heap.size) (.slice none 0 0) []) ⟨grA,Tr.new _⟩ ?_;rintro vr ⟨h,B⟩;refine wp_v false [.c (pv (J.heap.size) 0),.c (.int .i64 k),.N t,.c (.tuple #[.agg (pnt 0 0 false),.int .i64 1901]),.c (.tuple #[.agg (pnt 0 0 false),.int .i64 1901]),.c (.agg (pnt 0 0 false)),.c (.int .i64 1901),.a,.u,.c (.int .i64 1901)] [2,3] [⟨7,8,35,pnt 0 0 false,fun _=>pnt 0 0 false⟩] ⟨.g 33 0 (H.gr h) rfl,.z (bmul_big h1 h2 (d:=t) ht gt (.pointer (some ⟨J.heap.size,0,none⟩))),⟨⟩⟩ ⟨.k zPnt (.t rfl),⟨⟩⟩ fun K v1 f h3 Z=>?_;simp only[fzw,Kw.a];obtain⟨⟨aa,i⟩,-⟩:(vr.heap.size≤(K 7 0).2∧Vr v1 (K 7 0).2 (pnt 0 0 false))∧True:=Z;clear h3;replace h:=h.trans f;have q:=f;clear f
 go_upto_region 4 with fail
 refine wp_wS [.T,.F,.F] [] ⟨⟩ fun ab v2 f h4=>?_;simp only[fzw];clear h4;replace q:=q.trans f;replace h:=h.trans f;have C:=f;clear f
 go_upto_region 6 with fail
 refine wp_w [.N t,.n (t),.c (pv e7 4),.c (.slice (x 3).1 (dl (oN k)) (x 3).2),.c (.int .i64 z),.T,.T] [0,1,3,4,5] ⟨.g 33 0 (H.gr h) rfl,.k _ fun L P f hh=>RtW.of_n (fm_any ht),.o 25 4 (Y.gr h) rfl rfl,.k (fun L =>#[.slice (L 1 0).1 (dl (t)) (L 1 0).2,.slice (x 3).1 (dl (oN k)) (x 3).2]) fun L P f hh=>RtW.of_c (cz_any (hh 1 rfl) ((D 3).gr (h.trans f)) S U hz),.s (.binOp .geq 3 (.const (.int .i64 z)) (.const (.int .i64 0)) 3) rfl fun P f=>by simp[go_sem,exI,z0],⟨⟩⟩ fun ac v3 f h6=>?_;simp only[fzw];clear h6;replace q:=q.trans f;replace C:=C.trans f;replace h:=h.trans f;clear f
 go_upto_region 7 with fail
 refine wp_wS [.c (.int .i64 1901),.c (.int .i64 1901),.T,.T,.c (.agg (pnt 0 0 false)),.c (.agg (pnt 0 0 false)),.T,.T,.T,.c (pv (J.heap.size) 0),.O,.T,.T,.T,.T,.T,.T] [1,4,6,10,14] ⟨.y (num_any _),.g 35 0 (i.gr C) rfl,.s (.binOp .eql 35 (.const (.agg (pnt 0 0 false))) (.const (.agg (pnt 0 0 false))) 35) rfl fun P f=>by simp[go_sem,exI,eqPn,eqN_self],.k _ fun L P f hh=>RtW.of_c (Rt.same (lenT (B.gr (q.trans f)) rfl)),.z Q.out,⟨⟩⟩ fun ae v4 f h7=>?_;simp only[fzw];clear h7;replace q:=q.trans f;replace C:=C.trans f;replace h:=h.trans f;clear f;replace G:=G.trans h;replace H:=H.gr h;replace Y:=Y.gr h;replace D:=fun k=>(D k).gr h;replace B:=B.gr q;replace i:=i.gr C;clear q C h
 go_wp2_with fail
 go_ret
 exact⟨rfl,G⟩
theorem lrbases_2{k:Nat}(h1:1≤k)(h2:k≤15){t:Nat}(ht:t<M)(lt:t<oN k)(w:World):Cg 12 #[.int .i64 k,.agg (nw 9 t)] w (.bool true):=by
 have V:Hid (∀w,Calls prog 16 #[.int .i64 k] w (GetQ k w)):=fun w=>getq_yes k h1 h2 w;have aa:Hid (∀w,Cg 47 #[] w (.bool true)):=fun w=>awake19_any w;obtain⟨z,hz⟩:=exl (cmpZ t (oN k))
 have W:dl t≤400:=by have:=dl_M t ht;omega
 have ab:dl (oN k)≤400:=by have:=oN_dl k;omega
 have z0:¬0≤z:=by rw[←hz];unfold cmpZ;rw[if_pos lt];decide
 obtain⟨A,hA⟩:=exl (mlQ k t (gQ k))
 go_enter func12,ntmps12
 go_upto_region 1 with fail
 refine gen_w (fun v=>Hid (Gr w v∧Vr v (w.heap.size) (nw 9 t))) ⟨grA,vrA⟩ ?_;intro u0 HV
 go_upto_region 2 with (go_at_call 16;refine(V.out _).mono ?_;rintro e WB ⟨H,rfl,I,GB⟩)
 obtain⟨e7,K⟩:=exl (WB.heap.size);simp only[K]
 refine gen_w (fun v=>Gr w v∧Vr v (w.heap.size) (nw 9 t)∧Vr v e7 (crA (k:Int) (nN k) H)∧∀j,Sl v (H j).1 (nN k j)) ?_ ?_
 ·subst K;obtain⟨G,L⟩:=HV.out;have g1:Gr WB (WB.alloc (.cells (crA (k:Int) (nN k) H) 27)):=(Gr.refl _).alloc _;exact⟨(G.trans GB).trans g1,(L.gr GB).gr g1,Vr.new _ _ _,fun j=>(I j).gr g1⟩
 clear K GB V HV I;rintro P ⟨G,L,X,I⟩
 go_upto_region 3 with (go_at_call 27;refine(new_any _).mono ?_;rintro e w' ⟨rfl,rfl⟩)
 refine gen_w (fun v=>Gr P v∧Tr v (P.heap.size) (.slice none 0 0) []) ⟨grA,Tr.new _⟩ ?_;rintro Z ⟨i,C⟩;refine wp_x false [.c (pv (P.heap.size) 0),.c (.int .i64 k),.c (.agg (nw 9 t)),.c (.tuple #[.agg (pnQ A),.int .i64 0]),.c (.tuple #[.agg (pnQ A),.int .i64 0]),.c (.agg (pnQ A)),.c (.int .i64 0),.vt Z.heap.size (pnt 0 0 false) 35,.u,.c (.int .i64 0)] [2,7] 3 8 (fun v u=>Kp (fun b=>b<Z.heap.size) v u) (MrJ Z (P.heap.size) (.slice none 0 0) [] (evN k)) (fun x v=>Kp (Own (P.heap.size) (.slice none 0 0)) Z v∧∃z,Tr v (P.heap.size) z ([]++(evN k))∧Vr v (x 7 0).2 (pnQ A)) 46 (fun _ =>#[.pointer (some ⟨P.heap.size,0,none⟩),.int .i64 k,.agg (nw 9 t)]) 35 (fun x=>pv (x 7 0).2 0) (fun _=>.agg (pnQ A)) (MrJ.start C) (fun _ _ _ h g=>h.gr g) ?xo8 ?xm8 ?xs8 ⟨fnc,fnc,fnc,fnc,fnc,fnc,fnc,fnvt,fnu,fnc,trivial⟩ ?xf8
 case xo8=>
  rintro _ v U;have ac:=C.grow U.k i (Nat.le_refl _);refine .cons (.g 33 0 (L.gr ac) rfl) ?_;exact .cons (.n 35 rfl U.k.size) .nil
 case xm8=>exact fun _ _ U _=>U.mul C fun hT=>bulR h1 h2 (d:=t) lt (Q:=A) hA (by decide) hT
 case xs8=>
  rintro x v U hy;obtain⟨hN,D⟩:=hy 7 (by kernel_rfl);have HT:=(vr_vt D).h;have FT:=(vr_vt D).f;exact⟨setBlk v _ (pnQ A),by simp[go_sem,exI,HT,FT],U.set hN D (pnt_size _ _ _) _⟩
 rintro ae af ⟨k3,z3,Y,V3⟩;simp only[fzw,Kw.vt];replace i:=C.grow k3 i (Nat.le_refl _);replace C:=Y;clear Y k3
 go_upto_region 4 with fail
 refine wp_wS [.T,.F,.F] [] ⟨⟩ fun ag v1 q h4=>?_;simp only[fzw];clear h4;replace i:=i.trans q;have J:=q;clear q
 go_upto_region 6 with fail
 refine wp_w [.N t,.n (t),.c (pv e7 4),.c (.slice (H 3).1 (dl (oN k)) (H 3).2),.c (.int .i64 z),.F,.F] [0,1,3,4,5] ⟨.g 33 0 (L.gr i) rfl,.k _ fun B S q D=>RtW.of_n (fm_any ht),.o 25 4 (X.gr i) rfl rfl,.k (fun B =>#[.slice (B 1 0).1 (dl (t)) (B 1 0).2,.slice (H 3).1 (dl (oN k)) (H 3).2]) fun B S q D=>RtW.of_c (cz_any (D 1 rfl) ((I 3).gr (i.trans q)) W ab hz),.s (.binOp .geq 3 (.const (.int .i64 z)) (.const (.int .i64 0)) 3) rfl fun S q=>by simp[go_sem,exI,z0],⟨⟩⟩ fun ah v2 q h6=>?_;simp only[fzw];clear h6;replace J:=J.trans q;replace i:=i.trans q;clear q
 go_upto_region 8 with fail
 refine wp_w [.O,.O,.T,.T,.c (.agg (pnQ A)),.c (.agg (crA (k:Int) (nN k) H)),.N t,.n (t),.c (.agg (crA (k:Int) (nN k) H)),.pt (xN k) (yN k) false,.pt (A.1) (A.2.1) A.2.2,.c (.agg (pnQ A)),.T,.T,.T,.T,.T,.T] [1,4,5,6,7,8,9,10,11,12,15] ⟨.y (num_any _),.g 35 0 (V3.gr J) rfl,.g 27 0 (X.gr i) rfl,.g 33 0 (L.gr i) rfl,.k _ fun B S q D=>RtW.of_n (fm_any ht),.g 27 0 (X.gr i) rfl,.k _ fun B S q D=>RtW.of_pt (rg_any H _ (fun j=>(I j).gr (i.trans q))),.k (fun B =>#[.agg (crA (k:Int) (nN k) H),.slice (B 7 0).1 (dl (t)) (B 7 0).2,.agg (ptA (B 9 0).1 (xN k) (B 9 0).2 (B 9 1).1 (yN k) (B 9 1).2 false)]) fun B S q D=>RtW.of_pt (hA▸rtimesQ k h1 h2 H (gQ_on h1 h2) W (fun j=>(I j).gr (i.trans q)) (D 7 rfl) (D 9 rfl).1 (D 9 rfl).2),.k (fun B =>#[.agg (ptA (B 10 0).1 (A.1) (B 10 0).2 (B 10 1).1 (A.2.1) (B 10 1).2 A.2.2)]) fun B S q D=>RtW.of_c (Rt.c (rout_any _ _ _ _ _ _ _ _ (D 10 rfl).1 (D 10 rfl).2)),.s (.binOp .eql 35 (.const (.agg (pnQ A))) (.const (.agg (pnQ A))) 35) rfl fun S q=>by simp[go_sem,exI,eqPn,eqN_self],.z aa.out,⟨⟩⟩ fun ai v3 q h8=>?_;simp only[fzw];clear h8;replace J:=J.trans q;replace i:=i.trans q;clear q;replace G:=G.trans i;replace L:=L.gr i;replace X:=X.gr i;replace I:=fun k=>(I k).gr i;replace V3:=V3.gr J;replace C:=C.gr J;clear J i
 go_wp2_with fail
 go_ret
 exact⟨rfl,G⟩
theorem lrbases_any(id:Int)(t:Nat)(ht:t<M)(w:World):Cg 12 #[.int .i64 id,.agg (nw 9 t)] w (.bool true):=by
 by_cases h:1≤id∧id≤15
 ·obtain⟨k,rfl⟩:∃k:Nat,id=(k:Int):=⟨id.toNat,by omega⟩
  have d:1≤k:=by omega
  have f:k≤15:=by omega
  by_cases lt:t<oN k
  ·exact lrbases_2 d f ht lt w
  ·exact lrbases_1 d f ht (Nat.le_of_not_lt lt) w
 ·exact lrbases_0 id (by omega) w
end
end
end Go.Proofs.YtffhepbppiocbacGreat