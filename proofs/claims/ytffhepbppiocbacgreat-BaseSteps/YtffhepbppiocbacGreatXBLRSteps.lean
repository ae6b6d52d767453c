import Derived.Test.YtffhepbppiocbacGreatXBQJ
namespace Go.Proofs.YtffhepbppiocbacGreat
open Go.RowKit Go.Proofs.Tryz
set_option maxRecDepth 100000
set_option maxHeartbeats 8000000
section
theorem oN_g3(i:Nat)(h1:1≤i)(h2:i≤15):3<oN i:=by
 obtain rfl|rfl|rfl|rfl|rfl|rfl|rfl|rfl|rfl|rfl|rfl|rfl|rfl|rfl|rfl:i=1∨i=2∨i=3∨i=4∨i=5∨i=6∨i=7∨i=8∨i=9∨i=10∨i=11∨i=12∨i=13∨i=14∨i=15:=by omega
 all_goals decide +kernel
end
section
attribute [local go_sem ↓] uz1
attribute [local go_sem] uz2
section
attribute [local go_sem] uz8
attribute [local go_sem ↓] uz17 Go.wp_at_zero Go.wp_at_succ
attribute [local go_sem] uz18
theorem lrsteps_any(id:Int)(a:Nat)(la:a<M)(w:World):Cg 14 #[.int .i64 id,.agg (nw 9 a)] w (.bool true):=by
 obtain⟨u,hu,ao,hk⟩:=idx_conv id;have aa:=idx_bd id;obtain⟨k,ab⟩:=exl (idx id);rw[ab]at hk aa;obtain⟨J,K⟩:=aa
 have u0:(0:Int)≤u:=by omega
 have ap:(1:Int)+u%15=k:=by omega
 have aq:IntKind.i64.wrap ((u:Int)%15)=(u:Int)%15:=by rw[IntKind.wrap_i64];omega
 have ar:IntKind.u64.wrap ((u:Int)%15)=(u:Int)%15:=by rw[IntKind.wrap_u64];omega
 have au:(u:Int).tmod 15=(u:Int)%15:=by rw[Int.tmod_eq_emod_of_nonneg (by omega)]
 have k0:(1:Int)≤k:=by omega
 have k1:(k:Int)≤15:=by omega
 have av:id%18446744073709551616=(u:Int):=by rw[←hu,IntKind.wrap_u64]
 clear ab hk;have ac:Hid (∀w,Calls prog 16 #[.int .i64 k] w (GetQ k w)):=fun w=>getq_yes k J K w;have ae:Hid (∀w,Cg 47 #[] w (.bool true)):=fun w=>awake19_any w
 go_enter func14,ntmps14
 go_upto_region 1 with fail
 refine gen_w (fun v=>Hid (Gr w v∧Vr v (w.heap.size) (nw 9 a))) ⟨grA,vrA⟩ ?_;intro u0 HV
 go_upto_region 6 with (first
  | (go_at_call 47;refine(ae.out _).mono ?_;rintro e WA ⟨rfl,GA⟩)
  | (go_at_call 16;refine(ac.out _).mono ?_;rintro e WB ⟨U,rfl,Y,GB⟩))
 obtain⟨e9,Z⟩:=exl (WB.heap.size);simp only[Z]
 refine gen_w (fun v=>Gr w v∧Vr v e9 (crA (k:Int) (nN k) U)∧(∀j,Sl v (U j).1 (nN k j))∧Vr v (w.heap.size) (nw 9 a)) ?_ ?_
 ·subst Z;have g1:Gr WB (WB.alloc (.cells (crA (k:Int) (nN k) U) 27)):=(Gr.refl _).alloc _;obtain⟨G,c0⟩:=HV.out;have g2:=(GA.trans GB).trans g1;exact⟨G.trans g2,Vr.new _ _ _,fun j=>(Y j).gr g1,c0.gr g2⟩
 clear Z GA GB Y ae ac hu ao ap aq ar au av u0 k0 k1 HV;rintro v0 ⟨G,c9,Y,c0⟩;have aK:=oN_g3 k J K;obtain⟨W,aw⟩:=exl (oN k-1)
 have ax:dl a≤1000:=by have:=dl_M a la;omega
 have ay:dl (oN k)≤400:=by have:=oN_dl k;omega
 have az:dl W≤1000:=by have:=dl_M W (by have:=oN_bd k;omega);omega
 have af:0<W:=by omega
 obtain⟨x,dx⟩:=exl (a%W);have qx:x<W:=dx▸Nat.mod_lt _ af
 have aL:dl x≤400:=by have:=dl_M x (by have:=oN_bd k;omega);omega
 obtain⟨x1,ag⟩:=exl (x+1)
 have q1:x1<oN k:=by omega
 have X:∀w,(bslS 25 1 #[(0,.int .u32 1)]).run prog w=.ok (.slice (some ⟨w.heap.size,0,none⟩) 1 1) (w.alloc (.cells (nd 1 1) 71)):=fun w=>build1 1 (by decide) w
 have q0:x<oN k:=by omega
 obtain⟨A,hA⟩:=exl (mlQ k x (gQ k));have oA:OnQ k A:=hA▸mlQ_on J K _ (gQ_on J K);obtain⟨B,hB⟩:=exl (mlQ k x1 (gQ k))
 have aA:plQ k A (gQ k)=B:=by rw[←hB,←ag,mlQ_add J K _ _ (gQ_on J K),hA,mlQ_one J K (gQ_on J K)]
 refine wp_w [.N a,.n (a),.c (pv e9 4),.c (.slice (U 3).1 (dl (oN k)) (U 3).2),.n (1),.n (W),.n (x),.n (x)] [0,1,3,4,5,6,7] ⟨.g 33 0 c0 rfl,.k _ fun h S f H=>RtW.of_n (fm_any la),.o 25 4 c9 rfl rfl,.b (.buildSlice 25 1 #[(0,.const (.int .u32 1))]) rfl rfl (fun S=>by simp[go_sem,exI,X];rfl) (sl_lit 1 (by decide)),.k (fun h =>#[.slice (U 3).1 (dl (oN k)) (U 3).2,.slice (h 4 0).1 (dl (1)) (h 4 0).2]) fun h S f H=>RtW.of_n (sb_any ((Y 3).gr f) (H 4 rfl) ay (by omega) aw),.k (fun h =>#[.slice (h 1 0).1 (dl (a)) (h 1 0).2,.slice (h 5 0).1 (dl (W)) (h 5 0).2]) fun h S f H=>RtW.of_n (Rt.n (dx▸rmod_any a W _ _ _ _ _ (H 1 rfl) (H 5 rfl) ax az af)),.m 6,⟨⟩⟩ fun i v1 f h6=>?_;simp only[fzw];have I:Sl v1 (i 7 0).1 (x):=h6 7;clear h6;have q:=f;clear f
 go_upto_region 7 with fail
 refine wp_v true [.c (pv e9 0),.c (.int .i64 k),.c (.slice (i 7 0).1 (dl (x)) (i 7 0).2),.N x,.E (.agg (pnQ A)),.E (.agg (pnQ A)),.c (.agg (pnQ A)),.O,.a,.u,.O] [1,3,4] [⟨8,9,35,pnt 0 0 false,fun _=>pnQ A⟩] ⟨.o 3 0 (c9.gr q) rfl rfl,.k (fun h =>#[.slice (i 7 0).1 (dl (x)) (i 7 0).2]) fun h S f H=>RtW.of_c (nt_any (I.gr f)),.z (bulM J K (d:=x) q0 (Q:=A) hA),⟨⟩⟩ ⟨.k zPnt (.t rfl),⟨⟩⟩ fun ah v2 f h7 aB=>?_;simp only[fzw,Kw.a];obtain⟨⟨aI,L⟩,-⟩:(v1.heap.size≤(ah 8 0).2∧Vr v2 (ah 8 0).2 (pnQ A))∧True:=aB;clear h7;replace q:=q.trans f;have V:=f;clear f
 go_upto_region 8 with fail
 refine wp_v true [.c (pv e9 0),.c (.int .i64 k),.c (.slice (i 7 0).1 (dl (x)) (i 7 0).2),.n (1),.n (x1),.N x1,.E (.agg (pnQ B)),.E (.agg (pnQ B)),.c (.agg (pnQ B)),.O,.a,.u,.O] [1,3,4,5,6] [⟨10,11,35,pnt 0 0 false,fun _=>pnQ B⟩] ⟨.o 3 0 (c9.gr q) rfl rfl,.b (.buildSlice 25 1 #[(0,.const (.int .u32 1))]) rfl rfl (fun S=>by simp[go_sem,exI,X];rfl) (sl_lit 1 (by decide)),.k (fun h =>#[.slice (i 7 0).1 (dl (x)) (i 7 0).2,.slice (h 3 0).1 (dl (1)) (h 3 0).2]) fun h S f H=>RtW.of_n (Rt.n (ag▸radd_any x 1 _ _ _ _ _ (I.gr (V.trans f)) (H 3 rfl) (by omega) (by decide))),.k (fun h =>#[.slice (h 4 0).1 (dl (x1)) (h 4 0).2]) fun h S f H=>RtW.of_c (nt_any (H 4 rfl)),.z (bulM J K (d:=x1) q1 (Q:=B) hB),⟨⟩⟩ ⟨.k zPnt ⟨fkc,fkc,fkc,fkn bPnt,fkn bPnt,fkc,fkc,fkc,fkc,fkc,fka,fku,fkc,trivial⟩,⟨⟩⟩ fun ai v3 f h8 aC=>?_;simp only[fzw,Kw.a];obtain⟨⟨aD,C⟩,-⟩:(v2.heap.size≤(ai 10 0).2∧Vr v3 (ai 10 0).2 (pnQ B))∧True:=aC;clear h8;replace q:=q.trans f;replace V:=V.trans f;have g8:=f;clear f
 go_upto_region 9 with fail
 refine wp_v true [.c (pv e9 0),.c (.int .i64 k),.c (.agg (pnQ A)),.c (.agg (crA (k:Int) (nN k) U)),.pt (xN k) (yN k) false,.c (.agg (pnt (xN k) (yN k) false)),.E (.agg (pnQ B)),.E (.agg (pnQ B)),.c (.agg (pnQ B)),.O,.a,.u,.O] [1,2,3,4,5,6] [⟨10,11,35,pnt 0 0 false,fun _=>pnQ B⟩] ⟨.o 3 0 (c9.gr q) rfl rfl,.g 35 0 (L.gr g8) rfl,.g 27 0 (c9.gr q) rfl,.k _ fun h S f H=>RtW.of_pt (rg_any U _ (fun j=>(Y j).gr (q.trans f))),.k (fun h =>#[.agg (ptA (h 4 0).1 (xN k) (h 4 0).2 (h 4 1).1 (yN k) (h 4 1).2 false)]) fun h S f H=>RtW.of_c (Rt.c (rout_any _ _ _ _ _ _ _ _ (H 4 rfl).1 (H 4 rfl).2)),.z (addQ J K (P:=A) (Q:=gQ k) (R:=B) oA (gQ_on J K) aA),⟨⟩⟩ ⟨.k zPnt ⟨fkc,fkc,fkc,fkc,fkp bPnt,fkc,fkc,fkc,fkc,fkc,fka,fku,fkc,trivial⟩,⟨⟩⟩ fun aj v4 f h9 aE=>?_;simp only[fzw,Kw.a];obtain⟨⟨aG,D⟩,-⟩:(v3.heap.size≤(aj 10 0).2∧Vr v4 (aj 10 0).2 (pnQ B))∧True:=aE;clear h9;replace q:=q.trans f;replace V:=V.trans f;replace g8:=g8.trans f;have g9:=f;clear f
 go_upto_region 10 with fail
 refine wp_wS [.O,.O,.T,.T,.O,.O,.T,.T,.T,.O,.O,.T,.T,.T,.c (.agg (pnQ B)),.c (.agg (pnQ B)),.T,.T,.T] [1,5,10,14,15,16] ⟨.y (num_any _),.y (num_any _),.y (num_any _),.g 35 0 D rfl,.g 35 0 (C.gr g9) rfl,.s (.binOp .eql 35 (.const (.agg (pnQ B))) (.const (.agg (pnQ B))) 35) rfl fun S f=>by simp[go_sem,exI,eqPn,eqN_self],⟨⟩⟩ fun aJ v5 f aH=>?_;simp only[fzw];clear aH;replace q:=q.trans f;replace V:=V.trans f;replace g8:=g8.trans f;replace g9:=g9.trans f;have ak:=f;clear f;replace G:=G.trans q;replace c9:=c9.gr q;replace c0:=c0.gr q;replace Y:=fun k=>(Y k).gr q;replace I:=I.gr V;replace L:=L.gr g8;replace C:=C.gr g9;replace D:=D.gr ak;clear ak q V g8 g9
 go_wp2_with fail
 go_ret
 exact⟨rfl,G⟩
end
end
end Go.Proofs.YtffhepbppiocbacGreat