import Derived.Test.YtffhepbppiocbadGreatXAQI
namespace Go.Proofs.YtffhepbppiocbadGreat
open Go.RowKit Go.Proofs.Tryz
set_option maxRecDepth 100000
set_option maxHeartbeats 8000000
section
attribute [local go_sem ↓] uz1
attribute [local go_sem] uz2
section
attribute [local go_sem] uz8
attribute [local go_sem ↓] uz17 Go.wp_at_zero Go.wp_at_succ
attribute [local go_sem] uz18
theorem awake19_any(w:World):Cg 9 #[] w (.bool true):=by
 have A:1≤13:=by decide
 have i:13≤15:=by decide
 obtain⟨P,I⟩:=exl (gQ 13);have J:=I▸gQ_on A i;obtain⟨D,X⟩:=exl (mlQ 13 2 P)
 have hS:plQ 13 P P=D:=by rw[←X,show 2=1+1 from rfl,mlQ_add A i 1 1 J,mlQ_one A i J]
 have L:Hid _:=getq_yes 13 A i;have HD:Hid _:=bulM A i (by decide +kernel) (I▸X);have HB:Hid (∀w,Cg 15 #[.pointer none,.int .i64 13,.agg (nw 9 223)] w (.tuple #[.agg (pnt 0 0 false),.int .i64 1901])):=fun w=>bmul_big A i (by decide +kernel) (by decide +kernel) _ w;have HN:Hid (∀w,Cg 15 #[.pointer none,.int .i64 16,.agg (nw 9 2)] w (.tuple #[.agg (pnt 0 0 false),.int .i64 1900])):=fun w=>bmul_no 16 (by decide) _ w
 go_enter func9,ntmps9
 go_upto_region 2 with (go_at_call 10;refine(L.out _).mono ?_;rintro e WB ⟨q,rfl,C,Y⟩)
 obtain⟨e1,B⟩:=exl (WB.heap.size);simp only[B]
 refine gen_w (fun v=>Gr w v∧Vr v e1 (crA 13 (nN 13) q)∧∀j,Sl v (q j).1 (nN 13 j)) ?_ ?_
 ·subst B;exact⟨Y.alloc _,Vr.new _ _ _,fun j=>(C j).gr ((Gr.refl _).alloc _)⟩
 clear B Y C;rintro v0 ⟨G,Q,C⟩;refine wp_v false [.N 2,.E (.agg (pnQ D)),.E (.agg (pnQ D)),.c (.agg (pnQ D)),.O,.a,.u,.O] [0,1] [⟨5,6,38,pnt 0 0 false,fun _=>pnQ D⟩] ⟨.z (one_any 2 (by decide)),.z HD.out,⟨⟩⟩ ⟨.k zPnt (.t rfl),⟨⟩⟩ fun af v1 d i S=>?_;simp only[fzw,Kw.a];obtain⟨⟨Z,H⟩,-⟩:=S;clear i;have h:=d;clear d
 go_upto_region 3 with fail
 refine wp_v false [.N 223,.c (.tuple #[.agg (pnt 0 0 false),.int .i64 1901]),.c (.tuple #[.agg (pnt 0 0 false),.int .i64 1901]),.c (.agg (pnt 0 0 false)),.c (.int .i64 1901),.a,.u,.c (.int .i64 1901)] [0,1] [⟨5,6,38,pnt 0 0 false,fun _=>pnt 0 0 false⟩] ⟨.z (one_any 223 (by decide)),.z HB.out,⟨⟩⟩ ⟨.k zPnt (.t rfl),⟨⟩⟩ fun ag v2 d h3 U=>?_;simp only[fzw,Kw.a];obtain⟨⟨aa,ab⟩,-⟩:=U;clear h3;replace h:=h.trans d;have V:=d;clear d
 go_upto_region 4 with fail
 refine wp_v false [.N 2,.c (.tuple #[.agg (pnt 0 0 false),.int .i64 1900]),.c (.tuple #[.agg (pnt 0 0 false),.int .i64 1900]),.c (.agg (pnt 0 0 false)),.c (.int .i64 1900),.a,.u,.c (.int .i64 1900)] [0,1] [⟨5,6,38,pnt 0 0 false,fun _=>pnt 0 0 false⟩] ⟨.z (one_any 2 (by decide)),.z HN.out,⟨⟩⟩ ⟨.k zPnt (.t rfl),⟨⟩⟩ fun ah v3 d h4 W=>?_;simp only[fzw,Kw.a];obtain⟨⟨ac,ae⟩,-⟩:=W;clear h4;replace h:=h.trans d;replace V:=V.trans d;have g4:=d;clear d
 go_upto_region 5 with fail
 refine wp_w [.O,.O,.T,.T,.c (.agg (pnQ D)),.c (.agg (crA 13 (nN 13) q)),.c (.agg (crA 13 (nN 13) q)),.pt (P.1) (P.2.1) P.2.2,.c (.agg (crA 13 (nN 13) q)),.pt (P.1) (P.2.1) P.2.2,.pt (D.1) (D.2.1) D.2.2,.c (.agg (pnQ D)),.T,.T,.T,.c (.int .i64 1901),.c (.int .i64 1901),.T,.T,.T,.c (.int .i64 1900),.c (.int .i64 1900),.T,.T,.T] [1,4,5,6,7,8,9,10,11,12,16,21] ⟨.y (num_any _),.g 38 0 (H.gr V) rfl,.g 30 0 (Q.gr h) rfl,.g 30 0 (Q.gr h) rfl,.k _ fun f K d x=>RtW.of_pt (rgQ I q _ (fun j=>(C j).gr (h.trans d))),.g 30 0 (Q.gr h) rfl,.k _ fun f K d x=>RtW.of_pt (rgQ I q _ (fun j=>(C j).gr (h.trans d))),.k (fun f =>#[.agg (crA 13 (nN 13) q),.agg (ptA (f 7 0).1 (P.1) (f 7 0).2 (f 7 1).1 (P.2.1) (f 7 1).2 P.2.2),.agg (ptA (f 9 0).1 (P.1) (f 9 0).2 (f 9 1).1 (P.2.1) (f 9 1).2 P.2.2)]) fun f K d x=>RtW.of_pt (hS▸rplusQ 13 A i q J J (fun j=>(C j).gr (h.trans d)) (x 7 rfl).1 (x 7 rfl).2 (x 9 rfl).1 (x 9 rfl).2),.k (fun f =>#[.agg (ptA (f 10 0).1 (D.1) (f 10 0).2 (f 10 1).1 (D.2.1) (f 10 1).2 D.2.2)]) fun f K d x=>RtW.of_c (Rt.c (rout_any _ _ _ _ _ _ _ _ (x 10 rfl).1 (x 10 rfl).2)),.s (.binOp .eql 38 (.const (.agg (pnQ D))) (.const (.agg (pnQ D))) 38) rfl fun K d=>by simp[go_sem,exI,eqPn,eqN_self],.y (num_any _),.y (num_any _),⟨⟩⟩ fun ai v4 d h5=>?_;simp only[fzw];replace h:=h.trans d;replace G:=G.trans h
 go_wp2_with fail
 go_ret
 exact⟨rfl,G⟩
end
end
section
theorem oN_g3(i:Nat)(h1:1≤i)(h2:i≤15):3<oN i:=by
 obtain rfl|rfl|rfl|rfl|rfl|rfl|rfl|rfl|rfl|rfl|rfl|rfl|rfl|rfl|rfl:i=1∨i=2∨i=3∨i=4∨i=5∨i=6∨i=7∨i=8∨i=9∨i=10∨i=11∨i=12∨i=13∨i=14∨i=15:=by omega
 all_goals decide +kernel
theorem evN_pos(i:Nat)(h1:1≤i)(h2:i≤15):0<(evN i).length:=by
 rw[evN,rpx_length]
 obtain rfl|rfl|rfl|rfl|rfl|rfl|rfl|rfl|rfl|rfl|rfl|rfl|rfl|rfl|rfl:i=1∨i=2∨i=3∨i=4∨i=5∨i=6∨i=7∨i=8∨i=9∨i=10∨i=11∨i=12∨i=13∨i=14∨i=15:=by omega
 all_goals decide +kernel
theorem ml_turn{k:Nat}(h1:1≤k)(h2:k≤15){x y:Nat}(h:x+y=oN k):ngQ k (mlQ k x (gQ k))=mlQ k y (gQ k):=by
 have d:=mlQ_on h1 h2 x (gQ_on h1 h2);have f:=mlQ_on h1 h2 y (gQ_on h1 h2);have i:=ngQ_on h1 h2 d
 have e:plQ k (mlQ k y (gQ k)) (mlQ k x (gQ k))=inf:=by
  rw[←mlQ_add h1 h2 y x (gQ_on h1 h2),Nat.add_comm,h];exact mlQ_N h1 h2
 have a:=plQ_assoc h1 h2 f d i;rw[e,inf_plQ h1 h2 i,plQ_ng h1 h2,plQ_inf h1 h2 f]at a;exact a
end
end Go.Proofs.YtffhepbppiocbadGreat