import Derived.Test.YtffhepbppiocbabGreatXAVI
import Derived.Test.YtffhepbppiocbabGreatXART
namespace Go.Proofs.YtffhepbppiocbabGreat
open Go.RowKit Go.Proofs.Tryz
set_option maxRecDepth 100000
set_option maxHeartbeats 8000000
section
theorem ron_any(i:Nat)(h1:1≤i)(h2:i≤15)(x y:Nat)(f:Bool)(hx:x<M)(hy:y<M)(qc:Nat→Option Addr×Nat)(p q:Option Addr)(n m:Nat)(w:World)(HQ:∀k,Sl w (qc k).1 (nN i k))(Sx:Sl w p x)(Sy:Sl w q y):
 Calls prog 35 #[.agg (crA (i:Int) (nN i) qc),.agg (ptA p x n q y m f)] w (Rt (.c (.bool (onB i x y f))) w):=by
 have j:=pN_dl i h1 h2;have d:=dl_M x hx;have h:=dl_M y hy
 cases f with
 | true=>exact Rt.c (ron_inf i _ _ _ _ _ _ qc x y p q n m w HQ Sx Sy)
 | false=>
  by_cases lx:x<pN i
  ·by_cases ly:y<pN i
   ·have:=ron_ok i _ _ _ _ _ _ qc x y p q n m (by omega) (by omega) (by omega) lx ly (aN_lt i h1 h2) (bN_lt i h1 h2) w HQ Sx Sy;simp only[onB,lx,ly,decide_true,Bool.true_and,Bool.false_eq_true,if_false];exact Rt.c this
   ·have:=ron_y i _ _ _ _ _ _ qc x y p q n m (by omega) (by omega) (by omega) lx (by omega) w HQ Sx Sy;simp only[onB,ly,decide_false,Bool.false_and,Bool.and_false,Bool.false_eq_true,if_false];exact Rt.c this
  ·have:=ron_x i _ _ _ _ _ _ qc x y p q n m (by omega) (by omega) (by omega) w HQ Sx Sy;simp only[onB,lx,decide_false,Bool.false_and,Bool.false_eq_true,if_false];exact Rt.c this
end
section
theorem rplusQ(k:Nat)(h1:1≤k)(h2:k≤15)(qc:Nat→Option Addr×Nat){P Q:Q3}(hP:OnQ k P)(hQ:OnQ k Q){p1 q1 p2 q2:Option Addr}{n1 m1 n2 m2:Nat}{w:World}(HQ:∀j,Sl w (qc j).1 (nN k j))(Sx1:Sl w p1 P.1)(Sy1:Sl w q1 P.2.1)(Sx2:Sl w p2 Q.1)(Sy2:Sl w q2 Q.2.1):
 Calls prog 33 #[.agg (crA (k:Int) (nN k) qc),.agg (ptA p1 P.1 n1 q1 P.2.1 m1 P.2.2),.agg (ptA p2 Q.1 n2 q2 Q.2.1 m2 Q.2.2)] w (Rt (.pt (plQ k P Q).1 (plQ k P Q).2.1 (plQ k P Q).2.2) w):=by
 haveI:=EC.nzP k h1 h2
 have B:=pN_dl k h1 h2;obtain⟨d,f,x⟩:=dec3 hP;obtain⟨i,q,A⟩:=dec3 hQ;have h:=rplus_any (EC.curN k h1 h2) (by omega) (k:Int) (oN k) (xN k) (yN k) qc (decQ (pN k) P) (decQ (pN k) Q) p1 q1 n1 m1 p2 q2 n2 m2 w HQ (by rw[d];exact Sx1) (by rw[f];exact Sy1) (by rw[i];exact Sx2) (by rw[q];exact Sy2);rw[d,f,x,i,q,A]at h;rw[plQ_is h1 h2];exact h
theorem rtimesQ(k:Nat)(h1:1≤k)(h2:k≤15)(qc:Nat→Option Addr×Nat){P:Q3}(hP:OnQ k P){t nk:Nat}{pk:Option Addr}(ht:dl t≤400){p q:Option Addr}{n m:Nat}{w:World}(HQ:∀j,Sl w (qc j).1 (nN k j))(Sk:Sl w pk t)(Sx:Sl w p P.1)(Sy:Sl w q P.2.1):
 Calls prog 38 #[.agg (crA (k:Int) (nN k) qc),.slice pk (dl t) nk,.agg (ptA p P.1 n q P.2.1 m P.2.2)] w (Rt (.pt (mlQ k t P).1 (mlQ k t P).2.1 (mlQ k t P).2.2) w):=by
 haveI:=EC.nzP k h1 h2
 have x:=pN_dl k h1 h2;obtain⟨d,f,i⟩:=dec3 hP;have h:=rtimes_any (EC.curN k h1 h2) (by omega) (k:Int) (oN k) (xN k) (yN k) qc t nk pk ht (decQ (pN k) P) (on_dec h1 h2 hP) p q n m w HQ Sk (by rw[d];exact Sx) (by rw[f];exact Sy);rw[d,f,i]at h;rw[mlQ_is h1 h2];exact h
end
section
attribute [local go_sem ↓] uz1
attribute [local go_sem] uz2
section
attribute [local go_sem] uz7
attribute [local go_sem ↓] uz12 Go.wp_at_zero Go.wp_at_succ
attribute [local go_sem] uz13
theorem rg_any{k:Nat}(qc:Nat→Option Addr×Nat)(w:World)(HQ:∀j,Sl w (qc j).1 (nN k j)):Calls prog 39 #[.agg (crA (k:Int) (nN k) qc)] w (Rt (.pt (xN k) (yN k) false) w):=by
 go_enter func39,ntmps39
 go_upto_region 1 with fail
 refine gen_w (fun v=>Gr w v∧Vr v (w.heap.size) (crA (k:Int) (nN k) qc)∧Vr v (w.heap.size+1) (ptA none 0 0 none 0 0 false)) ⟨grA,vrA,vrA⟩ ?_;rintro L ⟨G,D,H⟩;replace HQ:=fun k=>(HQ k).gr G;refine wp_wTS 5 [.c (pv (w.heap.size) 5),.c (.slice (qc 4).1 (dl (xN k)) (qc 4).2),.c (pv (w.heap.size) 6),.c (.slice (qc 5).1 (dl (yN k)) (qc 5).2),.pt (xN k) (yN k) false] [1,3,4] ⟨.o 25 5 D rfl rfl,.o 25 6 D rfl rfl,.p (fun q i=>match i with|0=>((qc 4).1,(qc 4).2)|_=>((qc 5).1,(qc 5).2)) fun q P x Q=>⟨((HQ 4).gr x),((HQ 5).gr x)⟩,⟨⟩⟩ (.s 43 (fun q=>pv (w.heap.size+1) 0) (fun q=>.agg (ptA (q 4 0).1 (xN k) (q 4 0).2 (q 4 1).1 (yN k) (q 4 1).2 false)) fun d I x J=>?_);have C:=(H.gr x).h;have K:=(H.gr x).f;refine⟨setBlk I (w.heap.size+1) (ptA (d 4 0).1 (xN k) (d 4 0).2 (d 4 1).1 (yN k) (d 4 1).2 false),by simp[go_sem,exI,C,K],?_⟩;simp only[fzw];obtain⟨A,B⟩:=J 4;replace G:=G.trans x
 go_wp2_with fail
 exact bo1 results39 (rd_pt _ _ _ _ _ _ _ (by rfl) (blk_setBlk _ _ _ (by rw[C];decide))) ⟨_,rfl,⟨_,_,_,_,rfl,Sl.set A (by rw[C];exact ptA_no _ _ _ _ _ _ _),Sl.set B (by rw[C];exact ptA_no _ _ _ _ _ _ _)⟩,gr_setNew G (by omega)⟩
theorem some_is{k:Nat}(h1:1≤k)(h2:k≤15){n:Nat}(hn:n<18446744073709551616){A:Q3}(hA:mlQ k n (gQ k)=A)(qc:Nat→Option Addr×Nat)(w:World)(HQ:∀j,Sl w (qc j).1 (nN k j)):
 Cg 17 #[.agg (crA (k:Int) (nN k) qc),.int .u64 n] w (.agg (pnQ A)):=by
 have D:n<M:=lt_M _ hn
 have I:dl n≤400:=by have:=dl_M n D;omega
 go_enter func17,ntmps17
 go_upto_region 1 with fail
 refine gen_w (fun v=>Gr w v∧Vr v (w.heap.size) (crA (k:Int) (nN k) qc)∧Vr v (w.heap.size+1) (pnt 0 0 false)) ⟨grA,vrA,vrA⟩ ?_;rintro P ⟨G,x,B⟩;replace HQ:=fun k=>(HQ k).gr G;refine wp_wT 8 [.c (.agg (crA (k:Int) (nN k) qc)),.c (.int .u64 n),.N n,.n (n),.c (.agg (crA (k:Int) (nN k) qc)),.pt (xN k) (yN k) false,.pt (A.1) (A.2.1) A.2.2,.c (.agg (pnQ A))] [0,2,3,4,5,6,7] ⟨.g 27 0 x rfl,.z (one_any _ hn),.k _ fun d C i q=>RtW.of_n (fm_any D),.g 27 0 x rfl,.k _ fun d C i q=>RtW.of_pt (rg_any qc _ (fun j=>(HQ j).gr i)),.k (fun d =>#[.agg (crA (k:Int) (nN k) qc),.slice (d 3 0).1 (dl (n)) (d 3 0).2,.agg (ptA (d 5 0).1 (xN k) (d 5 0).2 (d 5 1).1 (yN k) (d 5 1).2 false)]) fun d C i q=>RtW.of_pt (hA▸rtimesQ k h1 h2 qc (gQ_on h1 h2) I (fun j=>(HQ j).gr i) (q 3 rfl) (q 5 rfl).1 (q 5 rfl).2),.k (fun d =>#[.agg (ptA (d 6 0).1 (A.1) (d 6 0).2 (d 6 1).1 (A.2.1) (d 6 1).2 A.2.2)]) fun d C i q=>RtW.of_c (Rt.c (rout_any _ _ _ _ _ _ _ _ (q 6 rfl).1 (q 6 rfl).2)),⟨⟩⟩ (.s 35 (fun d=>pv (w.heap.size+1) 0) (fun d=>.agg (pnQ A)) fun J K i h1=>?_);have H:=(B.gr i).h;have L:=(B.gr i).f;refine⟨setBlk K (w.heap.size+1) (pnQ A),by simp[go_sem,exI,H,L],?_⟩;simp only[fzw];clear h1;replace G:=G.trans i;replace x:=x.gr i;replace B:=B.gr i;replace HQ:=fun k=>(HQ k).gr i;clear i
 go_wp2_with fail
 exact bo1 results17 (rd_pn (by rfl) (blk_setBlk _ _ _ (by rw[H];decide +kernel))) ⟨rfl,gr_setNew G (by omega)⟩
theorem awake14_any(w:World):Cg 15 #[] w (.bool true):=by
 have D:1≤13:=by decide
 have C:13≤15:=by decide
 have nx:eqN 9 241 2=false:=by decide +kernel
 have Y:Hid _:=getq_yes 13 D C;have Z:Hid (∀w,Cg 18 #[.int .i64 13,.agg (pnt 2 84 false),.agg (pnt 2 84 false)] w (.tuple #[.agg (pnt 241 78 false),.int .i64 0])):=fun w=>addQ (k:=13) D C (P:=(2,84,false)) (Q:=(2,84,false)) (R:=(241,78,false)) (gQ_on D C) (gQ_on D C) (by decide +kernel) w;have aa:Hid (∀w,Cg 18 #[.int .i64 13,.agg (pnt 2 84 false),.agg (pnt 1 1 false)] w (.tuple #[.agg (pnt 0 0 false),.int .i64 1401])):=fun w=>add_off (k:=13) D C (P:=(2,84,false)) (Q:=(1,1,false)) ⟨by decide +kernel,by decide +kernel⟩ ⟨by decide +kernel,by decide +kernel⟩ (.inr (by decide +kernel)) w;have ab:Hid (∀w,Cg 25 #[.int .i64 13,.agg (nw 9 2),.agg (pnt 2 84 false)] w (.tuple #[.agg (pnt 241 78 false),.int .i64 0])):=fun w=>mulQ (k:=13) D C (P:=(2,84,false)) (R:=(241,78,false)) (gQ_on D C) (by decide +kernel) (by decide +kernel) w;have ac:Hid (∀w,Cg 25 #[.int .i64 13,.agg (nw 9 223),.agg (pnt 2 84 false)] w (.tuple #[.agg (pnt 0 0 true),.int .i64 0])):=fun w=>mulQ (k:=13) D C (P:=(2,84,false)) (R:=inf) (gQ_on D C) (by decide +kernel) (mlQ_N D C) w;have HN:Hid (∀w,Cg 19 #[.int .i64 0,.agg (pnt 2 84 false)] w (.tuple #[.agg (pnt 0 0 false),.int .i64 1400])):=fun w=>neg_no 0 (by decide) (2,84,false) w
 go_enter func15,ntmps15
 go_upto_region 2 with (go_at_call 16;refine(Y.out _).mono ?_;rintro e WB ⟨X,rfl,x,GB⟩)
 obtain⟨e1,I⟩:=exl (WB.heap.size);simp only[I]
 refine gen_w (fun v=>Gr w v∧Vr v e1 (crA 13 (nN 13) X)∧∀j,Sl v (X j).1 (nN 13 j)) ?_ ?_
 ·subst I;exact⟨GB.alloc _,Vr.new _ _ _,fun j=>(x j).gr ((Gr.refl _).alloc _)⟩
 clear I GB x;rintro v0 ⟨G,B,x⟩;refine wp_v false [.c (.agg (crA 13 (nN 13) X)),.pt (2) (84) false,.c (.agg (pnt 2 84 false)),.a,.u] [0,1,2] [⟨3,4,35,pnt 0 0 false,fun _=>pnt 2 84 false⟩] ⟨.g 27 0 B rfl,.k _ fun K vv d hh=>RtW.of_pt (rg_any (k:=13) X _ (fun j=>(x j).gr d)),.k (fun K =>#[.agg (ptA (K 1 0).1 (2) (K 1 0).2 (K 1 1).1 (84) (K 1 1).2 false)]) fun K vv d hh=>RtW.of_c (Rt.c (rout_any _ _ _ _ _ _ _ _ (hh 1 rfl).1 (hh 1 rfl).2)),⟨⟩⟩ ⟨.k zPnt ⟨fkc,fkp bPnt,fkc,fka,fku,trivial⟩,⟨⟩⟩ fun L v1 d C ae=>?_;simp only[fzw,Kw.a];obtain⟨⟨ak,f⟩,-⟩:(v0.heap.size≤(L 3 0).2∧Vr v1 (L 3 0).2 (pnt 2 84 false))∧True:=ae;clear C;replace G:=G.trans d;replace B:=B.gr d;replace x:=fun k=>(x k).gr d;clear d
 go_upto_region 3 with fail
 refine wp_v false [.c (.agg (pnt 2 84 false)),.c (.agg (pnt 2 84 false)),.E (.agg (pnt 241 78 false)),.E (.agg (pnt 241 78 false)),.c (.agg (pnt 241 78 false)),.O,.a,.u,.O] [0,1,2] [⟨6,7,35,pnt 0 0 false,fun _=>pnt 241 78 false⟩] ⟨.g 35 0 f rfl,.g 35 0 f rfl,.z Z.out,⟨⟩⟩ ⟨.k zPnt (.t rfl),⟨⟩⟩ fun S v2 d h3 af=>?_;simp only[fzw,Kw.a];obtain⟨⟨ao,h⟩,-⟩:(v1.heap.size≤(S 6 0).2∧Vr v2 (S 6 0).2 (pnt 241 78 false))∧True:=af;clear h3;replace G:=G.trans d;replace B:=B.gr d;replace f:=f.gr d;replace x:=fun k=>(x k).gr d;clear d
 go_upto_region 4 with fail
 refine wp_v true [.N 2,.c (.agg (pnt 2 84 false)),.E (.agg (pnt 241 78 false)),.E (.agg (pnt 241 78 false)),.c (.agg (pnt 241 78 false)),.O,.a,.u,.O] [0,1,2] [⟨6,7,35,pnt 0 0 false,fun _=>pnt 241 78 false⟩] ⟨.z (one_any 2 (by decide)),.g 35 0 f rfl,.z ab.out,⟨⟩⟩ ⟨.k zPnt (.t rfl),⟨⟩⟩ fun U v3 d h4 ag=>?_;simp only[fzw,Kw.a];obtain⟨⟨ap,i⟩,-⟩:(v2.heap.size≤(U 6 0).2∧Vr v3 (U 6 0).2 (pnt 241 78 false))∧True:=ag;clear h4;replace G:=G.trans d;replace B:=B.gr d;replace f:=f.gr d;replace h:=h.gr d;replace x:=fun k=>(x k).gr d;clear d
 go_upto_region 5 with fail
 refine wp_v true [.c (.agg (pnt 2 84 false)),.N 1,.N 1,.c (.agg (pnt 1 1 false)),.c (.tuple #[.agg (pnt 0 0 false),.int .i64 1401]),.c (.tuple #[.agg (pnt 0 0 false),.int .i64 1401]),.c (.agg (pnt 0 0 false)),.c (.int .i64 1401),.a,.u,.c (.int .i64 1401)] [0,1,2,4] [⟨8,9,35,pnt 0 0 false,fun _=>pnt 0 0 false⟩] ⟨.g 35 0 f rfl,.z (one_any 1 (by decide)),.z (one_any 1 (by decide)),.z aa.out,⟨⟩⟩ ⟨.k zPnt (.t rfl),⟨⟩⟩ fun V v4 d h5 ah=>?_;simp only[fzw,Kw.a];obtain⟨⟨aq,q⟩,-⟩:(v3.heap.size≤(V 8 0).2∧Vr v4 (V 8 0).2 (pnt 0 0 false))∧True:=ah;clear h5;replace G:=G.trans d;replace B:=B.gr d;replace f:=f.gr d;replace h:=h.gr d;replace i:=i.gr d;replace x:=fun k=>(x k).gr d;clear d
 go_upto_region 6 with fail
 refine wp_v true [.N 223,.c (.agg (pnt 2 84 false)),.E (.agg (pnt 0 0 true)),.E (.agg (pnt 0 0 true)),.c (.agg (pnt 0 0 true)),.O,.a,.u,.O] [0,1,2] [⟨6,7,35,pnt 0 0 false,fun _=>pnt 0 0 true⟩] ⟨.z (one_any 223 (by decide)),.g 35 0 f rfl,.z ac.out,⟨⟩⟩ ⟨.k zPnt (.t rfl),⟨⟩⟩ fun J v5 d h6 ai=>?_;simp only[fzw,Kw.a];obtain⟨⟨ar,A⟩,-⟩:(v4.heap.size≤(J 6 0).2∧Vr v5 (J 6 0).2 (pnt 0 0 true))∧True:=ai;clear h6;replace G:=G.trans d;replace B:=B.gr d;replace f:=f.gr d;replace h:=h.gr d;replace i:=i.gr d;replace q:=q.gr d;replace x:=fun k=>(x k).gr d;clear d
 go_upto_region 7 with fail
 refine wp_v false [.c (.agg (pnt 2 84 false)),.c (.tuple #[.agg (pnt 0 0 false),.int .i64 1400]),.c (.tuple #[.agg (pnt 0 0 false),.int .i64 1400]),.c (.agg (pnt 0 0 false)),.c (.int .i64 1400),.a,.u,.c (.int .i64 1400)] [0,1] [⟨5,6,35,pnt 0 0 false,fun _=>pnt 0 0 false⟩] ⟨.g 35 0 f rfl,.z HN.out,⟨⟩⟩ ⟨.k zPnt (.t rfl),⟨⟩⟩ fun W v6 d h7 aj=>?_;simp only[fzw,Kw.a];obtain⟨⟨au,H⟩,-⟩:(v5.heap.size≤(W 5 0).2∧Vr v6 (W 5 0).2 (pnt 0 0 false))∧True:=aj;clear h7;replace G:=G.trans d;replace B:=B.gr d;replace f:=f.gr d;replace h:=h.gr d;replace i:=i.gr d;replace q:=q.gr d;replace A:=A.gr d;replace x:=fun k=>(x k).gr d;clear d
 go_upto_region 8 with fail
 refine wp_wS [.O,.O,.T,.T,.c (.agg (pnt 241 78 false)),.c (.agg (pnt 241 78 false)),.T,.T,.T,.O,.O,.T,.T,.T,.c (.agg (pnt 241 78 false)),.c (.agg (pnt 2 84 false)),.T,.T,.T,.c (.int .i64 1401),.c (.int .i64 1401),.T,.T,.T,.c (pv ((J 6 0).2) 18),.T,.T,.T,.O,.O,.T,.T,.T,.c (.int .i64 1400),.c (.int .i64 1400),.T,.T,.T] [1,4,5,6,10,14,15,16,20,25,29,34] ?hs9 ?hf9
 case hs9=>
  exact⟨.y (num_any _),.g 35 0 h rfl,.g 35 0 i rfl,.s (.binOp .eql 35 (.const (.agg (pnt 241 78 false))) (.const (.agg (pnt 241 78 false))) 35) rfl fun vv d=>by simp[go_sem,exI,eqPn,eqN_self],.y (num_any _),.g 35 0 h rfl,.g 35 0 f rfl,.s (.binOp .neq 35 (.const (.agg (pnt 241 78 false))) (.const (.agg (pnt 2 84 false))) 35) rfl fun vv d=>by simp[go_sem,exI,nePn,nx],.y (num_any _),.o 4 18 A rfl (by exact pnt_18 _ _ _),.y (num_any _),.y (num_any _),⟨⟩⟩
 intro av v7 d h8;simp only[fzw];clear h8;replace G:=G.trans d;replace B:=B.gr d;replace f:=f.gr d;replace h:=h.gr d;replace i:=i.gr d;replace q:=q.gr d;replace A:=A.gr d;replace H:=H.gr d;replace x:=fun k=>(x k).gr d;clear d
 go_wp2_with fail
 go_ret
 exact⟨rfl,G⟩
end
end
end Go.Proofs.YtffhepbppiocbabGreat