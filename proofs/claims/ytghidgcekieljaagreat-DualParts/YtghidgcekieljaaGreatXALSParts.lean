import Derived.Test.YtghidgcekieljaaGreatXAQQ
namespace Go.Proofs.YtghidgcekieljaaGreat
open Go.RowKit Go.Proofs.Tryz
set_option maxRecDepth 100000
set_option maxHeartbeats 8000000
section
attribute [local go_sem ↓] uz1
attribute [local go_sem] uz2
section
attribute [local go_sem] uz8
attribute [local go_sem ↓] uz17 Go.wp_at_zero Go.wp_at_succ
attribute [local go_sem] uz18
theorem lsparts_any(id:Int)(a b n:Nat)(wa:a<18446744073709551616)(wb:b<18446744073709551616)(wn:n<18446744073709551616)(w:World):Cg 4 #[.int .i64 id,.int .u64 (a:Int),.int .u64 (b:Int),.int .u64 (n:Int)] w (.bool true):=by
 obtain⟨u,hu,hu2,hk⟩:=idx_conv id;have hbd:=idx_bd id;obtain⟨k,hkk⟩:=exl (idx id);rw[hkk]at hk hbd;obtain⟨h1,h2⟩:=hbd
 have u0:(0:Int)≤(u:Int):=by omega
 have hk2:(1:Int)+(u:Int)%15=(k:Int):=by omega
 have hk3:IntKind.i64.wrap ((u:Int)%15)=(u:Int)%15:=by rw[IntKind.wrap_i64];omega
 have hk4:IntKind.u64.wrap ((u:Int)%15)=(u:Int)%15:=by rw[IntKind.wrap_u64];omega
 have hk5:(u:Int).tmod 15=(u:Int)%15:=by rw[Int.tmod_eq_emod_of_nonneg (by omega)]
 have k0:(1:Int)≤(k:Int):=by omega
 have k1:(k:Int)≤15:=by omega
 have hu3:id%18446744073709551616=(u:Int):=by rw[←hu,IntKind.wrap_u64]
 clear hkk hk;have HGR:Hid (∀w,Calls prog 7 #[.int .i64 (k:Int)] w (GetQ k w)):=fun w=>getq_yes k h1 h2 w;have HAW:Hid (∀w,Cg 12 #[] w (.bool true)):=fun w=>awake20_any w
 go_enter func4,ntmps4
 go_upto_region 6 with (first
  | (go_at_call 12;refine(HAW.out _).mono ?_;rintro e WA ⟨rfl,GA⟩)
  | (go_at_call 7;refine(HGR.out _).mono ?_;rintro e WB ⟨qc,rfl,HQ,GB⟩))
 obtain⟨e9,he9⟩:=exl (WB.heap.size);simp only[he9]
 refine gen_w (fun v=>Gr w v∧Vr v e9 (crA (k:Int) (nN k) qc)∧(∀j,Sl v (qc j).1 (nN k j))) ?_ ?_
 ·subst he9;have g1:Gr WB (WB.alloc (.cells (crA (k:Int) (nN k) qc) 31)):=(Gr.refl _).alloc _;exact⟨(GA.trans GB).trans g1,Vr.new _ _ _,fun j=>(HQ j).gr g1⟩
 clear he9 GA GB HQ HAW HGR hu hu2 hk2 hk3 hk4 hk5 hu3 u0 k0 k1;rintro v0 ⟨G,c9,HQ⟩;have la:=lt_M _ wa;have lb:=lt_M _ wb
 have hda:dl a≤1000:=by have:=dl_M a la;omega
 have hdb:dl b≤1000:=by have:=dl_M b lb;omega
 have hdn:dl (oN k)≤1000:=by have:=oN_dl k;omega
 have hn0:0<oN k:=by have:=EC.oN_pos k h1 h2;omega
 obtain⟨x,dx⟩:=exl (a%oN k);have qx:x<oN k:=dx▸Nat.mod_lt _ hn0;obtain⟨y,dy⟩:=exl (b%oN k);have qy:y<oN k:=dy▸Nat.mod_lt _ hn0;obtain⟨Q,hQ⟩:=exl (mlQ k n (gQ k));have oQ:OnQ k Q:=hQ▸mlQ_on h1 h2 _ (gQ_on h1 h2);obtain⟨P,hP⟩:=exl (mlQ k x (gQ k));have oP:OnQ k P:=hP▸mlQ_on h1 h2 _ (gQ_on h1 h2);obtain⟨R,hR⟩:=exl (mlQ k y Q);have oR:OnQ k R:=hR▸mlQ_on h1 h2 _ oQ;obtain⟨S,hS⟩:=exl (plQ k P R)
 have hT:twQ k Q x y=S:=by rw[twQ,hP,hR,hS]
 refine wp_v true [.c (.int .u64 (a:Int)),.N a,.n (a),.c (pv e9 4),.c (.slice (qc 3).1 (dl (oN k)) (qc 3).2),.n (x),.N x,.c (.int .u64 (b:Int)),.N b,.n (b),.c (pv e9 4),.c (.slice (qc 3).1 (dl (oN k)) (qc 3).2),.n (y),.N y,.a,.a,.u,.u] [1,2,4,5,6,8,9,11,12,13] [⟨14,16,25,nw 9 0,fun _=>nw 9 x⟩,⟨15,17,25,nw 9 0,fun _=>nw 9 y⟩] ⟨.z (one_any _ wa),.k _ fun yy vv hg hh=>RtW.of_n (fm_any la),.o 29 4 c9 rfl rfl,.k (fun yy =>#[.slice (yy 2 0).1 (dl (a)) (yy 2 0).2,.slice (qc 3).1 (dl (oN k)) (qc 3).2]) fun yy vv hg hh=>RtW.of_n (Rt.n (dx▸rmod_any a (oN k) _ _ _ _ _ (hh 2 rfl) ((HQ 3).gr hg) hda hdn hn0)),.k (fun yy =>#[.slice (yy 5 0).1 (dl (x)) (yy 5 0).2]) fun yy vv hg hh=>RtW.of_c (nt_any (hh 5 rfl)),.z (one_any _ wb),.k _ fun yy vv hg hh=>RtW.of_n (fm_any lb),.o 29 4 c9 rfl rfl,.k (fun yy =>#[.slice (yy 9 0).1 (dl (b)) (yy 9 0).2,.slice (qc 3).1 (dl (oN k)) (qc 3).2]) fun yy vv hg hh=>RtW.of_n (Rt.n (dy▸rmod_any b (oN k) _ _ _ _ _ (hh 9 rfl) ((HQ 3).gr hg) hdb hdn hn0)),.k (fun yy =>#[.slice (yy 12 0).1 (dl (y)) (yy 12 0).2]) fun yy vv hg hh=>RtW.of_c (nt_any (hh 12 rfl)),⟨⟩⟩ ⟨.k zNat ⟨fkc,fkc,fkn bNat,fkc,fkc,fkn bNat,fkc,fkc,fkc,fkn bNat,fkc,fkc,fkn bNat,fkc,fka,fka,fku,fku,trivial⟩,.k zNat ⟨fkc,fkc,fkn bNat,fkc,fkc,fkn bNat,fkc,fkc,fkc,fkn bNat,fkc,fkc,fkn bNat,fkc,fka,fka,fku,fku,trivial⟩,⟨⟩⟩ fun yw6 v1 hg h6 hV6=>?_;simp only[fzw,Kw.a];obtain⟨⟨N6_14,V6_14⟩,⟨N6_15,V6_15⟩,-⟩:(v0.heap.size≤(yw6 14 0).2∧Vr v1 (yw6 14 0).2 (nw 9 x))∧(v0.heap.size≤(yw6 15 0).2∧Vr v1 (yw6 15 0).2 (nw 9 y))∧True:=hV6;clear h6;have g6:=hg;clear hg
 go_upto_region 7 with fail
 refine wp_v false [.c (.agg (crA (k:Int) (nN k) qc)),.pt (xN k) (yN k) false,.c (.agg (pnt (xN k) (yN k) false)),.a,.u] [0,1,2] [⟨3,4,27,pnt 0 0 false,fun _=>pnt (xN k) (yN k) false⟩] ⟨.g 31 0 (c9.gr g6) rfl,.k _ fun yy vv hg hh=>RtW.of_pt (rg_any qc _ (fun j=>(HQ j).gr (g6.trans hg))),.k (fun yy =>#[.agg (ptA (yy 1 0).1 (xN k) (yy 1 0).2 (yy 1 1).1 (yN k) (yy 1 1).2 false)]) fun yy vv hg hh=>RtW.of_c (Rt.c (rout_any _ _ _ _ _ _ _ _ (hh 1 rfl).1 (hh 1 rfl).2)),⟨⟩⟩ ⟨.k zPnt ⟨fkc,fkp bPnt,fkc,fka,fku,trivial⟩,⟨⟩⟩ fun yw7 v2 hg h7 hV7=>?_;simp only[fzw,Kw.a];obtain⟨⟨N7_3,V7_3⟩,-⟩:(v1.heap.size≤(yw7 3 0).2∧Vr v2 (yw7 3 0).2 (pnt (xN k) (yN k) false))∧True:=hV7;clear h7;replace g6:=g6.trans hg;have g7:=hg;clear hg
 go_upto_region 8 with fail
 refine wp_v true [.c (pv e9 0),.c (.int .i64 (k:Int)),.c (.int .u64 (n:Int)),.N n,.c (.agg (pnt (xN k) (yN k) false)),.c (.tuple #[.agg (pnt Q.1 Q.2.1 Q.2.2),.int .i64 0]),.c (.tuple #[.agg (pnt Q.1 Q.2.1 Q.2.2),.int .i64 0]),.c (.agg (pnt Q.1 Q.2.1 Q.2.2)),.O,.a,.u,.O] [1,3,4,5] [⟨9,10,27,pnt 0 0 false,fun _=>pnt Q.1 Q.2.1 Q.2.2⟩] ⟨.o 3 0 (c9.gr g6) rfl rfl,.z (one_any _ wn),.g 27 0 V7_3 rfl,.z (mulQ h1 h2 (P:=gQ k) (R:=Q) (gQ_on h1 h2) (lt_M _ wn) hQ),⟨⟩⟩ ⟨.k zPnt (.t rfl),⟨⟩⟩ fun yw8 v3 hg h8 hV8=>?_;simp only[fzw,Kw.a];obtain⟨⟨N8_9,V8_9⟩,-⟩:(v2.heap.size≤(yw8 9 0).2∧Vr v3 (yw8 9 0).2 (pnt Q.1 Q.2.1 Q.2.2))∧True:=hV8;clear h8;replace g6:=g6.trans hg;replace g7:=g7.trans hg;have g8:=hg;clear hg
 go_upto_region 9 with fail
 refine wp_v false [.c (pv e9 0),.c (.int .i64 (k:Int)),.N x,.N y,.c (.agg (pnt Q.1 Q.2.1 Q.2.2)),.c (.tuple #[.agg (pnt S.1 S.2.1 S.2.2),.int .i64 0]),.c (.tuple #[.agg (pnt S.1 S.2.1 S.2.2),.int .i64 0]),.c (.agg (pnt S.1 S.2.1 S.2.2)),.O,.a,.u,.O] [1,2,3,4,5] [⟨9,10,27,pnt 0 0 false,fun _=>pnt S.1 S.2.1 S.2.2⟩] ⟨.o 3 0 (c9.gr g6) rfl rfl,.g 25 0 (V6_14.gr g7) rfl,.g 25 0 (V6_15.gr g7) rfl,.g 27 0 V8_9 rfl,.z (dmul_yes h1 h2 (Q:=Q) oQ (x:=x) (y:=y) qx qy (R:=S) hT),⟨⟩⟩ ⟨.k zPnt (.t rfl),⟨⟩⟩ fun yw9 v4 hg h9 hV9=>?_;simp only[fzw,Kw.a];obtain⟨⟨N9_9,V9_9⟩,-⟩:(v3.heap.size≤(yw9 9 0).2∧Vr v4 (yw9 9 0).2 (pnt S.1 S.2.1 S.2.2))∧True:=hV9;clear h9;replace g6:=g6.trans hg;replace g7:=g7.trans hg;replace g8:=g8.trans hg;have g9:=hg;clear hg
 go_upto_region 10 with fail
 refine wp_v false [.c (pv e9 0),.c (.int .i64 (k:Int)),.N x,.c (.agg (pnt (xN k) (yN k) false)),.c (.tuple #[.agg (pnt P.1 P.2.1 P.2.2),.int .i64 0]),.c (.tuple #[.agg (pnt P.1 P.2.1 P.2.2),.int .i64 0]),.c (.agg (pnt P.1 P.2.1 P.2.2)),.O,.a,.u,.O] [1,2,3,4] [⟨8,9,27,pnt 0 0 false,fun _=>pnt P.1 P.2.1 P.2.2⟩] ⟨.o 3 0 (c9.gr g6) rfl rfl,.g 25 0 (V6_14.gr g7) rfl,.g 27 0 (V7_3.gr g8) rfl,.z (mulQ h1 h2 (P:=gQ k) (R:=P) (gQ_on h1 h2) (Nat.lt_trans qx (oN_bd k)) hP),⟨⟩⟩ ⟨.k zPnt (.t rfl),⟨⟩⟩ fun yw10 v5 hg h10 hV10=>?_;simp only[fzw,Kw.a];obtain⟨⟨N10_8,V10_8⟩,-⟩:(v4.heap.size≤(yw10 8 0).2∧Vr v5 (yw10 8 0).2 (pnt P.1 P.2.1 P.2.2))∧True:=hV10;clear h10;replace g6:=g6.trans hg;replace g7:=g7.trans hg;replace g8:=g8.trans hg;replace g9:=g9.trans hg;have g10:=hg;clear hg
 go_upto_region 11 with fail
 refine wp_v false [.c (pv e9 0),.c (.int .i64 (k:Int)),.N y,.c (.agg (pnt Q.1 Q.2.1 Q.2.2)),.c (.tuple #[.agg (pnt R.1 R.2.1 R.2.2),.int .i64 0]),.c (.tuple #[.agg (pnt R.1 R.2.1 R.2.2),.int .i64 0]),.c (.agg (pnt R.1 R.2.1 R.2.2)),.O,.a,.u,.O] [1,2,3,4] [⟨8,9,27,pnt 0 0 false,fun _=>pnt R.1 R.2.1 R.2.2⟩] ⟨.o 3 0 (c9.gr g6) rfl rfl,.g 25 0 (V6_15.gr g7) rfl,.g 27 0 (V8_9.gr g9) rfl,.z (mulQ h1 h2 (P:=Q) (R:=R) oQ (Nat.lt_trans qy (oN_bd k)) hR),⟨⟩⟩ ⟨.k zPnt (.t rfl),⟨⟩⟩ fun yw11 v6 hg h11 hV11=>?_;simp only[fzw,Kw.a];obtain⟨⟨N11_8,V11_8⟩,-⟩:(v5.heap.size≤(yw11 8 0).2∧Vr v6 (yw11 8 0).2 (pnt R.1 R.2.1 R.2.2))∧True:=hV11;clear h11;replace g10:=g10.trans hg;replace g6:=g6.trans hg;replace g7:=g7.trans hg;replace g8:=g8.trans hg;replace g9:=g9.trans hg;have g11:=hg;clear hg
 go_upto_region 12 with fail
 refine wp_v false [.c (pv e9 0),.c (.int .i64 (k:Int)),.c (.agg (pnt P.1 P.2.1 P.2.2)),.c (.agg (pnt R.1 R.2.1 R.2.2)),.c (.tuple #[.agg (pnt S.1 S.2.1 S.2.2),.int .i64 0]),.c (.tuple #[.agg (pnt S.1 S.2.1 S.2.2),.int .i64 0]),.c (.agg (pnt S.1 S.2.1 S.2.2)),.O,.a,.u,.O] [1,2,3,4] [⟨8,9,27,pnt 0 0 false,fun _=>pnt S.1 S.2.1 S.2.2⟩] ⟨.o 3 0 (c9.gr g6) rfl rfl,.g 27 0 (V10_8.gr g11) rfl,.g 27 0 V11_8 rfl,.z (addQ h1 h2 (P:=P) (Q:=R) (R:=S) oP oR hS),⟨⟩⟩ ⟨.k zPnt (.t rfl),⟨⟩⟩ fun yw12 v7 hg h12 hV12=>?_;simp only[fzw,Kw.a];obtain⟨⟨N12_8,V12_8⟩,-⟩:(v6.heap.size≤(yw12 8 0).2∧Vr v7 (yw12 8 0).2 (pnt S.1 S.2.1 S.2.2))∧True:=hV12;clear h12;replace g10:=g10.trans hg;replace g11:=g11.trans hg;replace g6:=g6.trans hg;replace g7:=g7.trans hg;replace g8:=g8.trans hg;replace g9:=g9.trans hg;have g12:=hg;clear hg
 go_upto_region 13 with fail
 refine wp_v false [.c (pv e9 0),.c (.int .i64 (k:Int)),.N 0,.N 0,.c (.agg (pnt Q.1 Q.2.1 Q.2.2)),.c (.tuple #[.agg (pnt 0 0 true),.int .i64 0]),.c (.tuple #[.agg (pnt 0 0 true),.int .i64 0]),.c (.agg (pnt 0 0 true)),.O,.a,.u,.O] [1,4,5] [⟨9,10,27,pnt 0 0 false,fun _=>pnt 0 0 true⟩] ⟨.o 3 0 (c9.gr g6) rfl rfl,.g 27 0 (V8_9.gr g9) rfl,.z (dmul_yes h1 h2 (Q:=Q) oQ (x:=0) (y:=0) hn0 hn0 (R:=inf) (twQ_0 h1 h2 Q)),⟨⟩⟩ ⟨.k zPnt (.t rfl),⟨⟩⟩ fun yw13 v8 hg h13 hV13=>?_;simp only[fzw,Kw.a];obtain⟨⟨N13_9,V13_9⟩,-⟩:(v7.heap.size≤(yw13 9 0).2∧Vr v8 (yw13 9 0).2 (pnt 0 0 true))∧True:=hV13;clear h13;replace g10:=g10.trans hg;replace g11:=g11.trans hg;replace g12:=g12.trans hg;replace g6:=g6.trans hg;replace g7:=g7.trans hg;replace g8:=g8.trans hg;replace g9:=g9.trans hg;have g13:=hg;clear hg
 go_upto_region 14 with fail
 refine wp_wS [.O,.O,.T,.T,.O,.O,.T,.T,.T,.O,.O,.T,.T,.T,.O,.O,.T,.T,.T,.c (.agg (pnt S.1 S.2.1 S.2.2)),.c (.agg (pnt S.1 S.2.1 S.2.2)),.T,.T,.T,.c (.agg (pnt 0 0 true)),.c (.agg (pnt 0 0 true)),.T,.T,.T] [1,5,10,15,19,20,21,24,26] ⟨.y (num_any _),.y (num_any _),.y (num_any _),.y (num_any _),.g 27 0 (V9_9.gr g10) rfl,.g 27 0 (V12_8.gr g13) rfl,.s (.binOp .eql 27 (.const (.agg (pnt S.1 S.2.1 S.2.2))) (.const (.agg (pnt S.1 S.2.1 S.2.2))) 27) rfl fun vv hg=>by simp[go_sem,exI,eqPn,eqN_self],.g 27 0 V13_9 rfl,.s (.binOp .eql 27 (.const (.agg (pnt 0 0 true))) (.const (.agg (pnt 0 0 true))) 27) rfl fun vv hg=>by simp[go_sem,exI,eqPn,eqN_self],⟨⟩⟩ fun yw14 v9 hg h14=>?_;simp only[fzw];clear h14;replace g10:=g10.trans hg;replace g11:=g11.trans hg;replace g12:=g12.trans hg;replace g13:=g13.trans hg;replace g6:=g6.trans hg;replace g7:=g7.trans hg;replace g8:=g8.trans hg;replace g9:=g9.trans hg;have g14:=hg;clear hg;replace G:=G.trans g6;replace c9:=c9.gr g6;replace HQ:=fun k=>(HQ k).gr g6;replace V6_14:=V6_14.gr g7;replace V6_15:=V6_15.gr g7;replace V7_3:=V7_3.gr g8;replace V8_9:=V8_9.gr g9;replace V9_9:=V9_9.gr g10;replace V10_8:=V10_8.gr g11;replace V11_8:=V11_8.gr g12;replace V12_8:=V12_8.gr g13;replace V13_9:=V13_9.gr g14;clear g10 g11 g12 g13 g14 g6 g7 g8 g9
 go_wp2_with fail
 go_ret
 exact⟨rfl,G⟩
end
end
end Go.Proofs.YtghidgcekieljaaGreat