import Derived.Test.YtffhepbppiocbaaXARP3
import Derived.Test.YtffhepbppiocbaaXAEJ
namespace Go.Proofs.Ytffhepbppiocbaa
open Go.RowKit Go.Proofs.Try
set_option maxRecDepth 100000
set_option maxHeartbeats 8000000
section
attribute [local go_sem ↓] uz1
attribute [local go_sem] uz2
section
attribute [local go_sem ↓] uz8 Go.wp_at_zero Go.wp_at_succ
attribute [local go_sem] uz9
theorem rplus_inf1(id:Int)(P A B N X Y:Nat)(qc:Nat→Option Addr×Nat)(x1 y1 x2 y2:Nat)(f:Bool)(p1 q1:Option Addr)(n1 m1:Nat)(p2 q2:Option Addr)(n2 m2:Nat)(w:World)(HQ:∀k,Sl w (qc k).1 (six P A B N X Y k))(Sx1:Sl w p1 x1)(Sy1:Sl w q1 y1)(Sx2:Sl w p2 x2)(Sy2:Sl w q2 y2):
 Calls prog 43 #[.agg (crA id (six P A B N X Y) qc),.agg (ptA p1 (x1) n1 q1 (y1) m1 true),.agg (ptA p2 (x2) n2 q2 (y2) m2 f)] w (Rt (.pt x2 y2 f) w):=by
 go_enter func43,ntmps43
 go_upto_region 1 with fail
 refine gen_w (fun v=>Gr w v∧Vr v (w.heap.size) (crA id (six P A B N X Y) qc)∧Vr v (w.heap.size+1) (ptA p1 (x1) n1 q1 (y1) m1 true)∧Vr v (w.heap.size+1+1) (ptA p2 (x2) n2 q2 (y2) m2 f)∧Vr v (w.heap.size+1+1+1) (ptA none 0 0 none 0 0 false)) ⟨grA,vrA,vrA,vrA,vrA⟩ ?_;rintro Q ⟨G,S,q,x,l⟩;replace HQ:=fun k=>(HQ k).gr G;replace Sx1:=Sx1.gr G;replace Sy1:=Sy1.gr G;replace Sx2:=Sx2.gr G;replace Sy2:=Sy2.gr G;refine wp_wS [.c (pv (w.heap.size+1) 2),.T] [1] ⟨.o 4 2 q rfl rfl,⟨⟩⟩ fun C U i D=>?_;simp only[fzw];clear D;have d:=i;clear i
 go_upto_region 2 with fail
 refine wp_wTS 1 [.c (.agg (ptA p2 (x2) n2 q2 (y2) m2 f))] [0] ⟨.g 49 0 (x.gr d) rfl,⟨⟩⟩ (.s 49 (fun H=>pv (w.heap.size+1+1+1) 0) (fun H=>.agg (ptA p2 (x2) n2 q2 (y2) m2 f)) fun I J i K=>?_);have j:=((l.gr d).gr i).h;have L:=((l.gr d).gr i).f;refine⟨setBlk J (w.heap.size+1+1+1) (ptA p2 (x2) n2 q2 (y2) m2 f),by simp[go_sem,exI,j,L],?_⟩;simp only[fzw];clear K;replace d:=d.trans i;replace G:=G.trans d;replace Sx2:=Sx2.gr d;replace Sy2:=Sy2.gr d
 go_wp2_with fail
 exact bo1 results43 (rd_pt _ _ _ _ _ _ _ (by rfl) (blk_setBlk _ _ _ (by rw[j];decide))) ⟨_,rfl,⟨_,_,_,_,rfl,Sl.set Sx2 (by rw[j];exact ptA_no _ _ _ _ _ _ _),Sl.set Sy2 (by rw[j];exact ptA_no _ _ _ _ _ _ _)⟩,gr_setNew G (by omega)⟩
theorem rplus_inf2(id:Int)(P A B N X Y:Nat)(qc:Nat→Option Addr×Nat)(x1 y1 x2 y2:Nat)(p1 q1:Option Addr)(n1 m1:Nat)(p2 q2:Option Addr)(n2 m2:Nat)(w:World)(HQ:∀k,Sl w (qc k).1 (six P A B N X Y k))(Sx1:Sl w p1 x1)(Sy1:Sl w q1 y1)(Sx2:Sl w p2 x2)(Sy2:Sl w q2 y2):
 Calls prog 43 #[.agg (crA id (six P A B N X Y) qc),.agg (ptA p1 (x1) n1 q1 (y1) m1 false),.agg (ptA p2 (x2) n2 q2 (y2) m2 true)] w (Rt (.pt x1 y1 false) w):=by
 go_enter func43,ntmps43
 go_upto_region 1 with fail
 refine gen_w (fun v=>Gr w v∧Vr v (w.heap.size) (crA id (six P A B N X Y) qc)∧Vr v (w.heap.size+1) (ptA p1 (x1) n1 q1 (y1) m1 false)∧Vr v (w.heap.size+1+1) (ptA p2 (x2) n2 q2 (y2) m2 true)∧Vr v (w.heap.size+1+1+1) (ptA none 0 0 none 0 0 false)) ⟨grA,vrA,vrA,vrA,vrA⟩ ?_;rintro V ⟨G,l,q,C,x⟩;replace HQ:=fun k=>(HQ k).gr G;replace Sx1:=Sx1.gr G;replace Sy1:=Sy1.gr G;replace Sx2:=Sx2.gr G;replace Sy2:=Sy2.gr G;refine wp_wS [.c (pv (w.heap.size+1) 2),.F] [1] ⟨.o 4 2 q rfl rfl,⟨⟩⟩ fun D W i H=>?_;simp only[fzw];clear H;have d:=i;clear i
 go_upto_region 3 with fail
 refine wp_wS [.c (pv (w.heap.size+1+1) 2),.T] [1] ⟨.o 4 2 (C.gr d) rfl rfl,⟨⟩⟩ fun I Z i J=>?_;simp only[fzw];clear J;replace d:=d.trans i;clear i
 go_upto_region 4 with fail
 refine wp_wTS 1 [.c (.agg (ptA p1 (x1) n1 q1 (y1) m1 false))] [0] ⟨.g 49 0 (q.gr d) rfl,⟨⟩⟩ (.s 49 (fun K=>pv (w.heap.size+1+1+1) 0) (fun K=>.agg (ptA p1 (x1) n1 q1 (y1) m1 false)) fun L Q i S=>?_);have j:=((x.gr d).gr i).h;have U:=((x.gr d).gr i).f;refine⟨setBlk Q (w.heap.size+1+1+1) (ptA p1 (x1) n1 q1 (y1) m1 false),by simp[go_sem,exI,j,U],?_⟩;simp only[fzw];clear S;replace d:=d.trans i;clear i;replace G:=G.trans d;replace l:=l.gr d;replace Sx1:=Sx1.gr d;replace Sy1:=Sy1.gr d
 go_wp2_with fail
 exact bo1 results43 (rd_pt _ _ _ _ _ _ _ (by rfl) (blk_setBlk _ _ _ (by rw[j];decide))) ⟨_,rfl,⟨_,_,_,_,rfl,Sl.set Sx1 (by rw[j];exact ptA_no _ _ _ _ _ _ _),Sl.set Sy1 (by rw[j];exact ptA_no _ _ _ _ _ _ _)⟩,gr_setNew G (by omega)⟩
theorem rplus_op(id:Int)(P A B N X Y:Nat)(qc:Nat→Option Addr×Nat)(x y1 y2:Nat)(hd:dl P≤400)(lx:x<P)(ly1:y1<P)(ly2:y2<P)(hy:y1≠y2)(p1 q1:Option Addr)(n1 m1:Nat)(p2 q2:Option Addr)(n2 m2:Nat)(w:World)(HQ:∀k,Sl w (qc k).1 (six P A B N X Y k))(Sx1:Sl w p1 x)(Sy1:Sl w q1 y1)(Sx2:Sl w p2 x)(Sy2:Sl w q2 y2):
 Calls prog 43 #[.agg (crA id (six P A B N X Y) qc),.agg (ptA p1 (x) n1 q1 (y1) m1 false),.agg (ptA p2 (x) n2 q2 (y2) m2 false)] w (Rt (.pt 0 0 true) w):=by
 obtain⟨I,Q⟩:=exl (cmpZ y1 y2)
 have V:(I != 0)=true:=by rw[bne,←Q,cmpZ_nought,decide_eq_false hy];rfl
 go_enter func43,ntmps43
 go_upto_region 1 with fail
 refine gen_w (fun v=>Gr w v∧Vr v (w.heap.size) (crA id (six P A B N X Y) qc)∧Vr v (w.heap.size+1) (ptA p1 (x) n1 q1 (y1) m1 false)∧Vr v (w.heap.size+1+1) (ptA p2 (x) n2 q2 (y2) m2 false)∧Vr v (w.heap.size+1+1+1) (ptA none 0 0 none 0 0 false)) ⟨grA,vrA,vrA,vrA,vrA⟩ ?_;rintro v0 ⟨G,c1,J,K,S⟩;replace HQ:=fun k=>(HQ k).gr G;replace Sx1:=Sx1.gr G;replace Sy1:=Sy1.gr G;replace Sx2:=Sx2.gr G;replace Sy2:=Sy2.gr G;refine wp_wS [.c (pv (w.heap.size+1) 2),.F] [1] ⟨.o 4 2 J rfl rfl,⟨⟩⟩ fun W v1 d Z=>?_;simp only[fzw];clear Z;have j:=d;clear d
 go_upto_region 3 with fail
 refine wp_wS [.c (pv (w.heap.size+1+1) 2),.F] [1] ⟨.o 4 2 (K.gr j) rfl rfl,⟨⟩⟩ fun aa v2 d h3=>?_;simp only[fzw];clear h3;replace j:=j.trans d;clear d
 go_upto_region 5 with fail
 refine wp_wS [.c (.slice none 0 0),.c (.slice none 0 0)] [] ⟨⟩ fun ab v3 d h5=>?_;simp only[fzw];clear h5;replace j:=j.trans d;clear d
 go_upto_region 6 with fail
 refine wp_wS [.c (pv (w.heap.size+1) 0),.c (.slice p1 (dl (x)) n1),.c (pv (w.heap.size+1+1) 0),.c (.slice p2 (dl (x)) n2),.O,.T] [1,3,4] ⟨.o 34 0 (J.gr j) rfl rfl,.o 34 0 (K.gr j) rfl rfl,.k (fun l =>#[.slice p1 (dl (x)) n1,.slice p2 (dl (x)) n2]) fun l L d U=>RtW.of_c (cz_any (Sx1.gr (j.trans d)) (Sx2.gr (j.trans d)) (dl_low _ P 400 (by omega) hd) (dl_low _ P 400 (by omega) hd) (by unfold cmpZ;simp)),⟨⟩⟩ fun ac v4 d h6=>?_;simp only[fzw];clear h6;replace j:=j.trans d;clear d
 go_upto_region 7 with fail
 refine wp_wS [.c (pv (w.heap.size+1) 1),.c (.slice q1 (dl (y1)) m1),.c (pv (w.heap.size+1+1) 1),.c (.slice q2 (dl (y2)) m2),.c (.int .i64 I),.T,.T,.u,.u,.u,.u,.T] [1,3,4,5] ⟨.o 34 1 (J.gr j) rfl rfl,.o 34 1 (K.gr j) rfl rfl,.k (fun l =>#[.slice q1 (dl (y1)) m1,.slice q2 (dl (y2)) m2]) fun l L d U=>RtW.of_c (cz_any (Sy1.gr (j.trans d)) (Sy2.gr (j.trans d)) (dl_low _ P 400 (by omega) hd) (dl_low _ P 400 (by omega) hd) Q),.s (.binOp .neq 3 (.const (.int .i64 I)) (.const (.int .i64 0)) 3) rfl fun L d=>by simp[go_sem,exI,V],⟨⟩⟩ fun ae v5 d h7=>?_;simp only[fzw];clear h7;replace j:=j.trans d;clear d
 go_upto_region 8 with fail
 refine wp_wTS 1 [.pt (0) (0) true] [0] ⟨.p (fun l i=>match i with|0=>(none,0)|_=>(none,0)) fun l L d U=>⟨Sl.zero _ _,Sl.zero _ _⟩,⟨⟩⟩ (.s 49 (fun l=>pv (w.heap.size+1+1+1) 0) (fun l=>.agg (ptA (l 0 0).1 (0) (l 0 0).2 (l 0 1).1 (0) (l 0 1).2 true)) fun q v6 d h8=>?_);have H:=((S.gr j).gr d).h;have FT:=((S.gr j).gr d).f;refine⟨setBlk v6 (w.heap.size+1+1+1) (ptA (q 0 0).1 (0) (q 0 0).2 (q 0 1).1 (0) (q 0 1).2 true),by simp[go_sem,exI,H,FT],?_⟩;simp only[fzw];obtain⟨C,D⟩:=h8 0;replace j:=j.trans d;replace G:=G.trans j
 go_wp2_with fail
 exact bo1 results43 (rd_pt _ _ _ _ _ _ _ (by rfl) (blk_setBlk _ _ _ (by rw[H];decide))) ⟨_,rfl,⟨_,_,_,_,rfl,Sl.set C (by rw[H];exact ptA_no _ _ _ _ _ _ _),Sl.set D (by rw[H];exact ptA_no _ _ _ _ _ _ _)⟩,gr_setNew G (by omega)⟩
theorem rplus_flat(id:Int)(P A B N X Y:Nat)(qc:Nat→Option Addr×Nat)(x:Nat)(hd:dl P≤400)(lx:x<P)(p1 q1:Option Addr)(n1 m1:Nat)(p2 q2:Option Addr)(n2 m2:Nat)(w:World)(HQ:∀k,Sl w (qc k).1 (six P A B N X Y k))(Sx1:Sl w p1 x)(Sy1:Sl w q1 0)(Sx2:Sl w p2 x)(Sy2:Sl w q2 0):
 Calls prog 43 #[.agg (crA id (six P A B N X Y) qc),.agg (ptA p1 (x) n1 q1 (0) m1 false),.agg (ptA p2 (x) n2 q2 (0) m2 false)] w (Rt (.pt 0 0 true) w):=by
 go_enter func43,ntmps43
 go_upto_region 1 with fail
 refine gen_w (fun v=>Gr w v∧Vr v (w.heap.size) (crA id (six P A B N X Y) qc)∧Vr v (w.heap.size+1) (ptA p1 (x) n1 q1 (0) m1 false)∧Vr v (w.heap.size+1+1) (ptA p2 (x) n2 q2 (0) m2 false)∧Vr v (w.heap.size+1+1+1) (ptA none 0 0 none 0 0 false)) ⟨grA,vrA,vrA,vrA,vrA⟩ ?_;rintro v0 ⟨G,c1,H,J,L⟩;replace HQ:=fun k=>(HQ k).gr G;replace Sx1:=Sx1.gr G;replace Sy1:=Sy1.gr G;replace Sx2:=Sx2.gr G;replace Sy2:=Sy2.gr G;refine wp_wS [.c (pv (w.heap.size+1) 2),.F] [1] ⟨.o 4 2 H rfl rfl,⟨⟩⟩ fun S v1 d U=>?_;simp only[fzw];clear U;have j:=d;clear d
 go_upto_region 3 with fail
 refine wp_wS [.c (pv (w.heap.size+1+1) 2),.F] [1] ⟨.o 4 2 (J.gr j) rfl rfl,⟨⟩⟩ fun V v2 d W=>?_;simp only[fzw];clear W;replace j:=j.trans d;clear d
 go_upto_region 5 with fail
 refine wp_wS [.c (.slice none 0 0),.c (.slice none 0 0)] [] ⟨⟩ fun Z v3 d h5=>?_;simp only[fzw];clear h5;replace j:=j.trans d;clear d
 go_upto_region 6 with fail
 refine wp_wS [.c (pv (w.heap.size+1) 0),.c (.slice p1 (dl (x)) n1),.c (pv (w.heap.size+1+1) 0),.c (.slice p2 (dl (x)) n2),.O,.T] [1,3,4] ⟨.o 34 0 (H.gr j) rfl rfl,.o 34 0 (J.gr j) rfl rfl,.k (fun l =>#[.slice p1 (dl (x)) n1,.slice p2 (dl (x)) n2]) fun l K d Q=>RtW.of_c (cz_any (Sx1.gr (j.trans d)) (Sx2.gr (j.trans d)) (dl_low _ P 400 (by omega) hd) (dl_low _ P 400 (by omega) hd) (by unfold cmpZ;simp)),⟨⟩⟩ fun aa v4 d h6=>?_;simp only[fzw];clear h6;replace j:=j.trans d;clear d
 go_upto_region 7 with fail
 refine wp_wS [.c (pv (w.heap.size+1) 1),.c (.slice q1 (dl (0)) m1),.c (pv (w.heap.size+1+1) 1),.c (.slice q2 (dl (0)) m2),.O,.F,.F,.c (pv (w.heap.size+1) 1),.c (.slice q1 (dl (0)) m1),.c (.int .i64 (dl (0))),.T,.T] [1,3,4,8,10] ⟨.o 34 1 (H.gr j) rfl rfl,.o 34 1 (J.gr j) rfl rfl,.k (fun l =>#[.slice q1 (dl (0)) m1,.slice q2 (dl (0)) m2]) fun l K d Q=>RtW.of_c (cz_any (Sy1.gr (j.trans d)) (Sy2.gr (j.trans d)) (dl_low _ P 400 (by omega) hd) (dl_low _ P 400 (by omega) hd) (by unfold cmpZ;simp)),.o 34 1 (H.gr j) rfl rfl,.s (.binOp .eql 3 (.const (.int .i64 (dl (0)))) (.const (.int .i64 0)) 3) rfl fun K d=>by simp[go_sem,exI,dl_zero],⟨⟩⟩ fun ab v5 d h7=>?_;simp only[fzw];clear h7;replace j:=j.trans d;clear d
 go_upto_region 8 with fail
 refine wp_wTS 1 [.pt (0) (0) true] [0] ⟨.p (fun l i=>match i with|0=>(none,0)|_=>(none,0)) fun l K d Q=>⟨Sl.zero _ _,Sl.zero _ _⟩,⟨⟩⟩ (.s 49 (fun l=>pv (w.heap.size+1+1+1) 0) (fun l=>.agg (ptA (l 0 0).1 (0) (l 0 0).2 (l 0 1).1 (0) (l 0 1).2 true)) fun q v6 d h8=>?_);have I:=((L.gr j).gr d).h;have FT:=((L.gr j).gr d).f;refine⟨setBlk v6 (w.heap.size+1+1+1) (ptA (q 0 0).1 (0) (q 0 0).2 (q 0 1).1 (0) (q 0 1).2 true),by simp[go_sem,exI,I,FT],?_⟩;simp only[fzw];obtain⟨C,D⟩:=h8 0;replace j:=j.trans d;replace G:=G.trans j
 go_wp2_with fail
 exact bo1 results43 (rd_pt _ _ _ _ _ _ _ (by rfl) (blk_setBlk _ _ _ (by rw[I];decide))) ⟨_,rfl,⟨_,_,_,_,rfl,Sl.set C (by rw[I];exact ptA_no _ _ _ _ _ _ _),Sl.set D (by rw[I];exact ptA_no _ _ _ _ _ _ _)⟩,gr_setNew G (by omega)⟩
end
section
attribute [local go_sem ↓] uz8 Go.wp_at_zero Go.wp_at_succ
attribute [local go_sem] uz9
theorem rplus_dbl(id:Int)(P A B N X Y:Nat)(qc:Nat→Option Addr×Nat)(x y:Nat)(hd:dl P≤400)(lx:x<P)(ly:y<P)(lA:A<P)(h0:y≠0)(h1P:1<P)(p1 q1:Option Addr)(n1 m1:Nat)(p2 q2:Option Addr)(n2 m2:Nat)(iv:Nat)(t1:Nat)(ht1:x*x%P=t1)(t2:Nat)(ht2:(t1+t1)%P=t2)(t3:Nat)(ht3:(t1+t2)%P=t3)(t4:Nat)(ht4:(t3+A)%P=t4)(t5:Nat)(ht5:(y+y)%P=t5)(t6:Nat)(ht6:t4*iv%P=t6)(t7:Nat)(ht7:t6*t6%P=t7)(t8:Nat)(ht8:subM t7 x P=t8)(t9:Nat)(ht9:subM t8 x P=t9)(t10:Nat)(ht10:subM x t9 P=t10)(t11:Nat)(ht11:t6*t10%P=t11)(t12:Nat)(ht12:subM t11 y P=t12)(liv:iv<P)(hiv:t5*iv%P=1)(w:World)(HQ:∀k,Sl w (qc k).1 (six P A B N X Y k))(Sx1:Sl w p1 x)(Sy1:Sl w q1 y)(Sx2:Sl w p2 x)(Sy2:Sl w q2 y):
 Calls prog 43 #[.agg (crA id (six P A B N X Y) qc),.agg (ptA p1 (x) n1 q1 (y) m1 false),.agg (ptA p2 (x) n2 q2 (y) m2 false)] w (Rt (.pt t9 t12 false) w):=by
 have hP:0<P:=by omega
 have zy:((dl y:Int)==0)=false:=by rw[dl_nought,decide_eq_false h0]
 have ai:=ht1▸Nat.mod_lt _ hP;have aG:=ht2▸Nat.mod_lt _ hP;have aH:=ht3▸Nat.mod_lt _ hP;have aI:=ht4▸Nat.mod_lt _ hP;have aJ:=ht5▸Nat.mod_lt _ hP;have aj:=ht6▸Nat.mod_lt _ hP;have au:=ht7▸Nat.mod_lt _ hP;have av:=ht8▸subM_lt au lx;have aw:=ht9▸subM_lt av lx;have ax:=ht10▸subM_lt lx aw;have ah:=ht11▸Nat.mod_lt _ hP;have aM:=ht12▸subM_lt ah ly
 go_enter func43,ntmps43
 go_upto_region 1 with fail
 refine gen_w (fun v=>Gr w v∧Vr v (w.heap.size) (crA id (six P A B N X Y) qc)∧Vr v (w.heap.size+1) (ptA p1 (x) n1 q1 (y) m1 false)∧Vr v (w.heap.size+1+1) (ptA p2 (x) n2 q2 (y) m2 false)∧Vr v (w.heap.size+1+1+1) (ptA none 0 0 none 0 0 false)) ⟨grA,vrA,vrA,vrA,vrA⟩ ?_;rintro v0 ⟨G,Q,c2,c3,c4⟩;replace HQ:=fun k=>(HQ k).gr G;replace Sx1:=Sx1.gr G;replace Sy1:=Sy1.gr G;replace Sx2:=Sx2.gr G;replace Sy2:=Sy2.gr G;refine wp_wS [.c (pv (w.heap.size+1) 2),.F] [1] ⟨.o 4 2 c2 rfl rfl,⟨⟩⟩ fun aO v1 d h1=>?_;simp only[fzw];clear h1;have j:=d;clear d
 go_upto_region 3 with fail
 refine wp_wS [.c (pv (w.heap.size+1+1) 2),.F] [1] ⟨.o 4 2 (c3.gr j) rfl rfl,⟨⟩⟩ fun aP v2 d h3=>?_;simp only[fzw];clear h3;replace j:=j.trans d;clear d
 go_upto_region 5 with fail
 refine wp_wS [.c (.slice none 0 0),.c (.slice none 0 0)] [] ⟨⟩ fun aQ v3 d h5=>?_;simp only[fzw];clear h5;replace j:=j.trans d;clear d
 go_upto_region 6 with fail
 refine wp_wS [.c (pv (w.heap.size+1) 0),.c (.slice p1 (dl (x)) n1),.c (pv (w.heap.size+1+1) 0),.c (.slice p2 (dl (x)) n2),.O,.T] [1,3,4] ⟨.o 34 0 (c2.gr j) rfl rfl,.o 34 0 (c3.gr j) rfl rfl,.k (fun l =>#[.slice p1 (dl (x)) n1,.slice p2 (dl (x)) n2]) fun l K d H=>RtW.of_c (cz_any (Sx1.gr (j.trans d)) (Sx2.gr (j.trans d)) (dl_low _ P 400 (by omega) hd) (dl_low _ P 400 (by omega) hd) (by unfold cmpZ;simp)),⟨⟩⟩ fun aR v4 d h6=>?_;simp only[fzw];clear h6;replace j:=j.trans d;clear d
 go_upto_region 7 with fail
 refine wp_wS [.c (pv (w.heap.size+1) 1),.c (.slice q1 (dl (y)) m1),.c (pv (w.heap.size+1+1) 1),.c (.slice q2 (dl (y)) m2),.O,.F,.F,.c (pv (w.heap.size+1) 1),.c (.slice q1 (dl (y)) m1),.c (.int .i64 (dl (y))),.F,.F] [1,3,4,8,10] ⟨.o 34 1 (c2.gr j) rfl rfl,.o 34 1 (c3.gr j) rfl rfl,.k (fun l =>#[.slice q1 (dl (y)) m1,.slice q2 (dl (y)) m2]) fun l K d H=>RtW.of_c (cz_any (Sy1.gr (j.trans d)) (Sy2.gr (j.trans d)) (dl_low _ P 400 (by omega) hd) (dl_low _ P 400 (by omega) hd) (by unfold cmpZ;simp)),.o 34 1 (c2.gr j) rfl rfl,.s (.binOp .eql 3 (.const (.int .i64 (dl (y)))) (.const (.int .i64 0)) 3) rfl fun K d=>by simp[go_sem,exI,zy],⟨⟩⟩ fun aS v5 d h7=>?_;simp only[fzw];clear h7;replace j:=j.trans d;clear d
 go_upto_region 9 with fail
 refine wp_wS [.c (pv (w.heap.size+1) 0),.c (.slice p1 (dl (x)) n1),.c (pv (w.heap.size+1) 0),.c (.slice p1 (dl (x)) n1),.c (pv (w.heap.size) 1),.c (.slice (qc 0).1 (dl (P)) (qc 0).2),.n (t1),.n (t1)] [1,3,5,6,7] ⟨.o 34 0 (c2.gr j) rfl rfl,.o 34 0 (c2.gr j) rfl rfl,.o 34 1 (Q.gr j) rfl rfl,.k (fun l =>#[.slice p1 (dl (x)) n1,.slice p1 (dl (x)) n1,.slice (qc 0).1 (dl (P)) (qc 0).2]) fun l K d H=>RtW.of_n (mm_any (Sx1.gr (j.trans d)) (Sx1.gr (j.trans d)) ((HQ 0).gr (j.trans d)) lx lx hd ht1),.m 6,⟨⟩⟩ fun D v6 d h9=>?_;simp only[fzw];have ac:=h9 7;clear h9;replace j:=j.trans d;clear d
 go_upto_region 10 with fail
 refine wp_w [.c (.slice (D 7 0).1 (dl (t1)) (D 7 0).2),.c (.slice (D 7 0).1 (dl (t1)) (D 7 0).2),.c (.slice (D 7 0).1 (dl (t1)) (D 7 0).2),.c (pv (w.heap.size) 1),.c (.slice (qc 0).1 (dl (P)) (qc 0).2),.n (t2),.c (pv (w.heap.size) 1),.c (.slice (qc 0).1 (dl (P)) (qc 0).2),.n (t3),.c (pv (w.heap.size) 2),.c (.slice (qc 1).1 (dl (A)) (qc 1).2),.c (pv (w.heap.size) 1),.c (.slice (qc 0).1 (dl (P)) (qc 0).2),.n (t4),.n (t4)] [4,5,7,8,10,12,13,14] ⟨.o 34 1 (Q.gr j) rfl rfl,.k (fun l =>#[.slice (D 7 0).1 (dl (t1)) (D 7 0).2,.slice (D 7 0).1 (dl (t1)) (D 7 0).2,.slice (qc 0).1 (dl (P)) (qc 0).2]) fun l K d H=>RtW.of_n (am_any (ac.gr d) (ac.gr d) ((HQ 0).gr (j.trans d)) ai ai hd ht2),.o 34 1 (Q.gr j) rfl rfl,.k (fun l =>#[.slice (D 7 0).1 (dl (t1)) (D 7 0).2,.slice (l 5 0).1 (dl (t2)) (l 5 0).2,.slice (qc 0).1 (dl (P)) (qc 0).2]) fun l K d H=>RtW.of_n (am_any (ac.gr d) (H 5 rfl) ((HQ 0).gr (j.trans d)) ai aG hd ht3),.o 34 2 (Q.gr j) rfl rfl,.o 34 1 (Q.gr j) rfl rfl,.k (fun l =>#[.slice (l 8 0).1 (dl (t3)) (l 8 0).2,.slice (qc 1).1 (dl (A)) (qc 1).2,.slice (qc 0).1 (dl (P)) (qc 0).2]) fun l K d H=>RtW.of_n (am_any (H 8 rfl) ((HQ 1).gr (j.trans d)) ((HQ 0).gr (j.trans d)) aH lA hd ht4),.m 13,⟨⟩⟩ fun S v7 d ay=>?_;simp only[fzw];have ae:=ay 14;clear ay;replace j:=j.trans d;have I:=d;clear d
 go_upto_region 11 with fail
 refine wp_wS [.c (pv (w.heap.size+1) 1),.c (.slice q1 (dl (y)) m1),.c (pv (w.heap.size+1) 1),.c (.slice q1 (dl (y)) m1),.c (pv (w.heap.size) 1),.c (.slice (qc 0).1 (dl (P)) (qc 0).2),.n (t5),.n (t5)] [1,3,5,6,7] ⟨.o 34 1 (c2.gr j) rfl rfl,.o 34 1 (c2.gr j) rfl rfl,.o 34 1 (Q.gr j) rfl rfl,.k (fun l =>#[.slice q1 (dl (y)) m1,.slice q1 (dl (y)) m1,.slice (qc 0).1 (dl (P)) (qc 0).2]) fun l K d H=>RtW.of_n (am_any (Sy1.gr (j.trans d)) (Sy1.gr (j.trans d)) ((HQ 0).gr (j.trans d)) ly ly hd ht5),.m 6,⟨⟩⟩ fun U v8 d az=>?_;simp only[fzw];have ak:=az 7;clear az;replace j:=j.trans d;replace I:=I.trans d;have J:=d;clear d
 go_upto_region 14 with fail
 refine wp_wS [.c (.slice (U 7 0).1 (dl (t5)) (U 7 0).2),.c (pv (w.heap.size) 1),.c (.slice (qc 0).1 (dl (P)) (qc 0).2),.nb (iv) true,.nb (iv) true,.n (iv),.T,.n (iv),.T] [2,3,4,5,6,7] ⟨.o 34 1 (Q.gr j) rfl rfl,.k (fun l =>#[.slice (U 7 0).1 (dl (t5)) (U 7 0).2,.slice (qc 0).1 (dl (P)) (qc 0).2]) fun l K d H=>RtW.of_nb (iv_any (ak.gr d) ((HQ 0).gr (j.trans d)) aJ hd h1P liv hiv),.m 3,.m 4,.m 4,.m 5,⟨⟩⟩ fun V v9 d aA=>?_;simp only[fzw];have ao:=aA 7;clear aA;replace j:=j.trans d;replace I:=I.trans d;replace J:=J.trans d;have ab:=d;clear d
 go_upto_region 15 with fail
 refine wp_wS [.c (.slice (S 14 0).1 (dl (t4)) (S 14 0).2),.c (.slice (V 7 0).1 (dl (iv)) (V 7 0).2),.c (pv (w.heap.size) 1),.c (.slice (qc 0).1 (dl (P)) (qc 0).2),.n (t6),.n (t6)] [3,4,5] ⟨.o 34 1 (Q.gr j) rfl rfl,.k (fun l =>#[.slice (S 14 0).1 (dl (t4)) (S 14 0).2,.slice (V 7 0).1 (dl (iv)) (V 7 0).2,.slice (qc 0).1 (dl (P)) (qc 0).2]) fun l K d H=>RtW.of_n (mm_any (ae.gr (J.trans d)) (ao.gr d) ((HQ 0).gr (j.trans d)) aI liv hd ht6),.m 4,⟨⟩⟩ fun q aT d aB=>?_;simp only[fzw];have L:=aB 5;clear aB;replace j:=j.trans d;replace I:=I.trans d;replace J:=J.trans d;replace ab:=ab.trans d;have af:=d;clear d
 go_upto_region 16 with fail
 refine wp_w [.c (.slice (q 5 0).1 (dl (t6)) (q 5 0).2),.c (.slice (q 5 0).1 (dl (t6)) (q 5 0).2),.c (pv (w.heap.size) 1),.c (.slice (qc 0).1 (dl (P)) (qc 0).2),.n (t7),.c (pv (w.heap.size+1) 0),.c (.slice p1 (dl (x)) n1),.c (pv (w.heap.size) 1),.c (.slice (qc 0).1 (dl (P)) (qc 0).2),.n (t8),.c (pv (w.heap.size+1+1) 0),.c (.slice p2 (dl (x)) n2),.c (pv (w.heap.size) 1),.c (.slice (qc 0).1 (dl (P)) (qc 0).2),.n (t9),.n (t9)] [3,4,6,8,9,11,13,14,15] ⟨.o 34 1 (Q.gr j) rfl rfl,.k (fun l =>#[.slice (q 5 0).1 (dl (t6)) (q 5 0).2,.slice (q 5 0).1 (dl (t6)) (q 5 0).2,.slice (qc 0).1 (dl (P)) (qc 0).2]) fun l K d H=>RtW.of_n (mm_any (L.gr d) (L.gr d) ((HQ 0).gr (j.trans d)) aj aj hd ht7),.o 34 0 (c2.gr j) rfl rfl,.o 34 1 (Q.gr j) rfl rfl,.k (fun l =>#[.slice (l 4 0).1 (dl (t7)) (l 4 0).2,.slice p1 (dl (x)) n1,.slice (qc 0).1 (dl (P)) (qc 0).2]) fun l K d H=>RtW.of_n (sm_any (H 4 rfl) (Sx1.gr (j.trans d)) ((HQ 0).gr (j.trans d)) au lx hd ht8),.o 34 0 (c3.gr j) rfl rfl,.o 34 1 (Q.gr j) rfl rfl,.k (fun l =>#[.slice (l 9 0).1 (dl (t8)) (l 9 0).2,.slice p2 (dl (x)) n2,.slice (qc 0).1 (dl (P)) (qc 0).2]) fun l K d H=>RtW.of_n (sm_any (H 9 rfl) (Sx2.gr (j.trans d)) ((HQ 0).gr (j.trans d)) av lx hd ht9),.m 14,⟨⟩⟩ fun C aU d aC=>?_;simp only[fzw];have W:=aC 15;clear aC;replace j:=j.trans d;replace I:=I.trans d;replace J:=J.trans d;replace ab:=ab.trans d;replace af:=af.trans d;have ap:=d;clear d
 go_upto_region 17 with fail
 refine wp_w [.c (.slice (q 5 0).1 (dl (t6)) (q 5 0).2),.c (pv (w.heap.size+1) 0),.c (.slice p1 (dl (x)) n1),.c (.slice (C 15 0).1 (dl (t9)) (C 15 0).2),.c (pv (w.heap.size) 1),.c (.slice (qc 0).1 (dl (P)) (qc 0).2),.n (t10),.c (pv (w.heap.size) 1),.c (.slice (qc 0).1 (dl (P)) (qc 0).2),.n (t11),.c (pv (w.heap.size+1) 1),.c (.slice q1 (dl (y)) m1),.c (pv (w.heap.size) 1),.c (.slice (qc 0).1 (dl (P)) (qc 0).2),.n (t12),.n (t12)] [2,5,6,8,9,11,13,14,15] ⟨.o 34 0 (c2.gr j) rfl rfl,.o 34 1 (Q.gr j) rfl rfl,.k (fun l =>#[.slice p1 (dl (x)) n1,.slice (C 15 0).1 (dl (t9)) (C 15 0).2,.slice (qc 0).1 (dl (P)) (qc 0).2]) fun l K d H=>RtW.of_n (sm_any (Sx1.gr (j.trans d)) (W.gr d) ((HQ 0).gr (j.trans d)) lx aw hd ht10),.o 34 1 (Q.gr j) rfl rfl,.k (fun l =>#[.slice (q 5 0).1 (dl (t6)) (q 5 0).2,.slice (l 6 0).1 (dl (t10)) (l 6 0).2,.slice (qc 0).1 (dl (P)) (qc 0).2]) fun l K d H=>RtW.of_n (mm_any (L.gr (ap.trans d)) (H 6 rfl) ((HQ 0).gr (j.trans d)) aj ax hd ht11),.o 34 1 (c2.gr j) rfl rfl,.o 34 1 (Q.gr j) rfl rfl,.k (fun l =>#[.slice (l 9 0).1 (dl (t11)) (l 9 0).2,.slice q1 (dl (y)) m1,.slice (qc 0).1 (dl (P)) (qc 0).2]) fun l K d H=>RtW.of_n (sm_any (H 9 rfl) (Sy1.gr (j.trans d)) ((HQ 0).gr (j.trans d)) ah ly hd ht12),.m 14,⟨⟩⟩ fun Z aV d aD=>?_;simp only[fzw];have ag:=aD 15;clear aD;replace j:=j.trans d;replace I:=I.trans d;replace J:=J.trans d;replace ab:=ab.trans d;replace af:=af.trans d;replace ap:=ap.trans d;have aK:=d;clear d
 go_upto_region 18 with fail
 refine wp_wTS 3 [.c (.slice (C 15 0).1 (dl (t9)) (C 15 0).2),.c (.slice (Z 15 0).1 (dl (t12)) (Z 15 0).2),.pt (t9) (t12) false] [2] ⟨.p (fun l i=>match i with|0=>((C 15 0).1,(C 15 0).2)|_=>((Z 15 0).1,(Z 15 0).2)) fun l K d H=>⟨(W.gr (aK.trans d)),(ag.gr d)⟩,⟨⟩⟩ (.s 49 (fun l=>pv (w.heap.size+1+1+1) 0) (fun l=>.agg (ptA (l 2 0).1 (t9) (l 2 0).2 (l 2 1).1 (t12) (l 2 1).2 false)) fun aa aL d aE=>?_);have HT:=((c4.gr j).gr d).h;have FT:=((c4.gr j).gr d).f;refine⟨setBlk aL (w.heap.size+1+1+1) (ptA (aa 2 0).1 (t9) (aa 2 0).2 (aa 2 1).1 (t12) (aa 2 1).2 false),by simp[go_sem,exI,HT,FT],?_⟩;simp only[fzw];obtain⟨aq,ar⟩:=aE 2;clear aE;replace j:=j.trans d;replace G:=G.trans j
 go_wp2_with fail
 exact bo1 results43 (rd_pt _ _ _ _ _ _ _ (by rfl) (blk_setBlk _ _ _ (by rw[HT];decide))) ⟨_,rfl,⟨_,_,_,_,rfl,Sl.set aq (by rw[HT];exact ptA_no _ _ _ _ _ _ _),Sl.set ar (by rw[HT];exact ptA_no _ _ _ _ _ _ _)⟩,gr_setNew G (by omega)⟩
end
section
attribute [local go_sem ↓] uz8 Go.wp_at_zero Go.wp_at_succ
attribute [local go_sem] uz9
theorem rplus_add(id:Int)(P A B N X Y:Nat)(qc:Nat→Option Addr×Nat)(x1 y1 x2 y2:Nat)(hd:dl P≤400)(lx1:x1<P)(ly1:y1<P)(lx2:x2<P)(ly2:y2<P)(hx:x1≠x2)(h1P:1<P)(p1 q1:Option Addr)(n1 m1:Nat)(p2 q2:Option Addr)(n2 m2:Nat)(iv:Nat)(t1:Nat)(ht1:subM y2 y1 P=t1)(t2:Nat)(ht2:subM x2 x1 P=t2)(t3:Nat)(ht3:t1*iv%P=t3)(t4:Nat)(ht4:t3*t3%P=t4)(t5:Nat)(ht5:subM t4 x1 P=t5)(t6:Nat)(ht6:subM t5 x2 P=t6)(t7:Nat)(ht7:subM x1 t6 P=t7)(t8:Nat)(ht8:t3*t7%P=t8)(t9:Nat)(ht9:subM t8 y1 P=t9)(liv:iv<P)(hiv:t2*iv%P=1)(w:World)(HQ:∀k,Sl w (qc k).1 (six P A B N X Y k))(Sx1:Sl w p1 x1)(Sy1:Sl w q1 y1)(Sx2:Sl w p2 x2)(Sy2:Sl w q2 y2):
 Calls prog 43 #[.agg (crA id (six P A B N X Y) qc),.agg (ptA p1 (x1) n1 q1 (y1) m1 false),.agg (ptA p2 (x2) n2 q2 (y2) m2 false)] w (Rt (.pt t6 t9 false) w):=by
 have hP:0<P:=by omega
 obtain⟨zz,ez⟩:=exl (cmpZ x1 x2)
 have bz:(zz==0)=false:=by rw[←ez,cmpZ_nought,decide_eq_false hx]
 have az:=ht1▸subM_lt ly2 ly1;have aA:=ht2▸subM_lt lx2 lx1;have ab:=ht3▸Nat.mod_lt _ hP;have aj:=ht4▸Nat.mod_lt _ hP;have ak:=ht5▸subM_lt aj lx1;have ao:=ht6▸subM_lt ak lx2;have aB:=ht7▸subM_lt lx1 ao;have ap:=ht8▸Nat.mod_lt _ hP;have aE:=ht9▸subM_lt ap ly1
 go_enter func43,ntmps43
 go_upto_region 1 with fail
 refine gen_w (fun v=>Gr w v∧Vr v (w.heap.size) (crA id (six P A B N X Y) qc)∧Vr v (w.heap.size+1) (ptA p1 (x1) n1 q1 (y1) m1 false)∧Vr v (w.heap.size+1+1) (ptA p2 (x2) n2 q2 (y2) m2 false)∧Vr v (w.heap.size+1+1+1) (ptA none 0 0 none 0 0 false)) ⟨grA,vrA,vrA,vrA,vrA⟩ ?_;rintro v0 ⟨G,W,c2,c3,c4⟩;replace HQ:=fun k=>(HQ k).gr G;replace Sx1:=Sx1.gr G;replace Sy1:=Sy1.gr G;replace Sx2:=Sx2.gr G;replace Sy2:=Sy2.gr G;refine wp_wS [.c (pv (w.heap.size+1) 2),.F] [1] ⟨.o 4 2 c2 rfl rfl,⟨⟩⟩ fun aG v1 d h1=>?_;simp only[fzw];clear h1;have j:=d;clear d
 go_upto_region 3 with fail
 refine wp_wS [.c (pv (w.heap.size+1+1) 2),.F] [1] ⟨.o 4 2 (c3.gr j) rfl rfl,⟨⟩⟩ fun aH v2 d h3=>?_;simp only[fzw];clear h3;replace j:=j.trans d;clear d
 go_upto_region 5 with fail
 refine wp_wS [.c (.slice none 0 0),.c (.slice none 0 0)] [] ⟨⟩ fun aI v3 d h5=>?_;simp only[fzw];clear h5;replace j:=j.trans d;clear d
 go_upto_region 6 with fail
 refine wp_wS [.c (pv (w.heap.size+1) 0),.c (.slice p1 (dl (x1)) n1),.c (pv (w.heap.size+1+1) 0),.c (.slice p2 (dl (x2)) n2),.c (.int .i64 zz),.F] [1,3,4,5] ⟨.o 34 0 (c2.gr j) rfl rfl,.o 34 0 (c3.gr j) rfl rfl,.k (fun q =>#[.slice p1 (dl (x1)) n1,.slice p2 (dl (x2)) n2]) fun q V d D=>RtW.of_c (cz_any (Sx1.gr (j.trans d)) (Sx2.gr (j.trans d)) (dl_low _ P 400 (by omega) hd) (dl_low _ P 400 (by omega) hd) ez),.s (.binOp .eql 3 (.const (.int .i64 zz)) (.const (.int .i64 0)) 3) rfl fun V d=>by simp[go_sem,exI,bz],⟨⟩⟩ fun aJ v4 d h6=>?_;simp only[fzw];clear h6;replace j:=j.trans d;clear d
 go_upto_region 12 with fail
 refine wp_wS [.c (pv (w.heap.size+1+1) 1),.c (.slice q2 (dl (y2)) m2),.c (pv (w.heap.size+1) 1),.c (.slice q1 (dl (y1)) m1),.c (pv (w.heap.size) 1),.c (.slice (qc 0).1 (dl (P)) (qc 0).2),.n (t1),.n (t1)] [1,3,5,6,7] ⟨.o 34 1 (c3.gr j) rfl rfl,.o 34 1 (c2.gr j) rfl rfl,.o 34 1 (W.gr j) rfl rfl,.k (fun q =>#[.slice q2 (dl (y2)) m2,.slice q1 (dl (y1)) m1,.slice (qc 0).1 (dl (P)) (qc 0).2]) fun q V d D=>RtW.of_n (sm_any (Sy2.gr (j.trans d)) (Sy1.gr (j.trans d)) ((HQ 0).gr (j.trans d)) ly2 ly1 hd ht1),.m 6,⟨⟩⟩ fun I v5 d aq=>?_;simp only[fzw];have ac:=aq 7;clear aq;replace j:=j.trans d;clear d
 go_upto_region 13 with fail
 refine wp_wS [.c (pv (w.heap.size+1+1) 0),.c (.slice p2 (dl (x2)) n2),.c (pv (w.heap.size+1) 0),.c (.slice p1 (dl (x1)) n1),.c (pv (w.heap.size) 1),.c (.slice (qc 0).1 (dl (P)) (qc 0).2),.n (t2),.n (t2)] [1,3,5,6,7] ⟨.o 34 0 (c3.gr j) rfl rfl,.o 34 0 (c2.gr j) rfl rfl,.o 34 1 (W.gr j) rfl rfl,.k (fun q =>#[.slice p2 (dl (x2)) n2,.slice p1 (dl (x1)) n1,.slice (qc 0).1 (dl (P)) (qc 0).2]) fun q V d D=>RtW.of_n (sm_any (Sx2.gr (j.trans d)) (Sx1.gr (j.trans d)) ((HQ 0).gr (j.trans d)) lx2 lx1 hd ht2),.m 6,⟨⟩⟩ fun J v6 d ar=>?_;simp only[fzw];have ae:=ar 7;clear ar;replace j:=j.trans d;have C:=d;clear d
 go_upto_region 14 with fail
 refine wp_wS [.c (.slice (J 7 0).1 (dl (t2)) (J 7 0).2),.c (pv (w.heap.size) 1),.c (.slice (qc 0).1 (dl (P)) (qc 0).2),.nb (iv) true,.nb (iv) true,.n (iv),.T,.n (iv),.T] [2,3,4,5,6,7] ⟨.o 34 1 (W.gr j) rfl rfl,.k (fun q =>#[.slice (J 7 0).1 (dl (t2)) (J 7 0).2,.slice (qc 0).1 (dl (P)) (qc 0).2]) fun q V d D=>RtW.of_nb (iv_any (ae.gr d) ((HQ 0).gr (j.trans d)) aA hd h1P liv hiv),.m 3,.m 4,.m 4,.m 5,⟨⟩⟩ fun K v7 d au=>?_;simp only[fzw];have af:=au 7;clear au;replace j:=j.trans d;replace C:=C.trans d;have U:=d;clear d
 go_upto_region 15 with fail
 refine wp_wS [.c (.slice (I 7 0).1 (dl (t1)) (I 7 0).2),.c (.slice (K 7 0).1 (dl (iv)) (K 7 0).2),.c (pv (w.heap.size) 1),.c (.slice (qc 0).1 (dl (P)) (qc 0).2),.n (t3),.n (t3)] [3,4,5] ⟨.o 34 1 (W.gr j) rfl rfl,.k (fun q =>#[.slice (I 7 0).1 (dl (t1)) (I 7 0).2,.slice (K 7 0).1 (dl (iv)) (K 7 0).2,.slice (qc 0).1 (dl (P)) (qc 0).2]) fun q V d D=>RtW.of_n (mm_any (ac.gr (C.trans d)) (af.gr d) ((HQ 0).gr (j.trans d)) az liv hd ht3),.m 4,⟨⟩⟩ fun l v8 d av=>?_;simp only[fzw];have H:=av 5;clear av;replace j:=j.trans d;replace C:=C.trans d;replace U:=U.trans d;have Z:=d;clear d
 go_upto_region 16 with fail
 refine wp_w [.c (.slice (l 5 0).1 (dl (t3)) (l 5 0).2),.c (.slice (l 5 0).1 (dl (t3)) (l 5 0).2),.c (pv (w.heap.size) 1),.c (.slice (qc 0).1 (dl (P)) (qc 0).2),.n (t4),.c (pv (w.heap.size+1) 0),.c (.slice p1 (dl (x1)) n1),.c (pv (w.heap.size) 1),.c (.slice (qc 0).1 (dl (P)) (qc 0).2),.n (t5),.c (pv (w.heap.size+1+1) 0),.c (.slice p2 (dl (x2)) n2),.c (pv (w.heap.size) 1),.c (.slice (qc 0).1 (dl (P)) (qc 0).2),.n (t6),.n (t6)] [3,4,6,8,9,11,13,14,15] ⟨.o 34 1 (W.gr j) rfl rfl,.k (fun q =>#[.slice (l 5 0).1 (dl (t3)) (l 5 0).2,.slice (l 5 0).1 (dl (t3)) (l 5 0).2,.slice (qc 0).1 (dl (P)) (qc 0).2]) fun q V d D=>RtW.of_n (mm_any (H.gr d) (H.gr d) ((HQ 0).gr (j.trans d)) ab ab hd ht4),.o 34 0 (c2.gr j) rfl rfl,.o 34 1 (W.gr j) rfl rfl,.k (fun q =>#[.slice (q 4 0).1 (dl (t4)) (q 4 0).2,.slice p1 (dl (x1)) n1,.slice (qc 0).1 (dl (P)) (qc 0).2]) fun q V d D=>RtW.of_n (sm_any (D 4 rfl) (Sx1.gr (j.trans d)) ((HQ 0).gr (j.trans d)) aj lx1 hd ht5),.o 34 0 (c3.gr j) rfl rfl,.o 34 1 (W.gr j) rfl rfl,.k (fun q =>#[.slice (q 9 0).1 (dl (t5)) (q 9 0).2,.slice p2 (dl (x2)) n2,.slice (qc 0).1 (dl (P)) (qc 0).2]) fun q V d D=>RtW.of_n (sm_any (D 9 rfl) (Sx2.gr (j.trans d)) ((HQ 0).gr (j.trans d)) ak lx2 hd ht6),.m 14,⟨⟩⟩ fun x v9 d aw=>?_;simp only[fzw];have L:=aw 15;clear aw;replace j:=j.trans d;replace C:=C.trans d;replace U:=U.trans d;replace Z:=Z.trans d;have ag:=d;clear d
 go_upto_region 17 with fail
 refine wp_w [.c (.slice (l 5 0).1 (dl (t3)) (l 5 0).2),.c (pv (w.heap.size+1) 0),.c (.slice p1 (dl (x1)) n1),.c (.slice (x 15 0).1 (dl (t6)) (x 15 0).2),.c (pv (w.heap.size) 1),.c (.slice (qc 0).1 (dl (P)) (qc 0).2),.n (t7),.c (pv (w.heap.size) 1),.c (.slice (qc 0).1 (dl (P)) (qc 0).2),.n (t8),.c (pv (w.heap.size+1) 1),.c (.slice q1 (dl (y1)) m1),.c (pv (w.heap.size) 1),.c (.slice (qc 0).1 (dl (P)) (qc 0).2),.n (t9),.n (t9)] [2,5,6,8,9,11,13,14,15] ⟨.o 34 0 (c2.gr j) rfl rfl,.o 34 1 (W.gr j) rfl rfl,.k (fun q =>#[.slice p1 (dl (x1)) n1,.slice (x 15 0).1 (dl (t6)) (x 15 0).2,.slice (qc 0).1 (dl (P)) (qc 0).2]) fun q V d D=>RtW.of_n (sm_any (Sx1.gr (j.trans d)) (L.gr d) ((HQ 0).gr (j.trans d)) lx1 ao hd ht7),.o 34 1 (W.gr j) rfl rfl,.k (fun q =>#[.slice (l 5 0).1 (dl (t3)) (l 5 0).2,.slice (q 6 0).1 (dl (t7)) (q 6 0).2,.slice (qc 0).1 (dl (P)) (qc 0).2]) fun q V d D=>RtW.of_n (mm_any (H.gr (ag.trans d)) (D 6 rfl) ((HQ 0).gr (j.trans d)) ab aB hd ht8),.o 34 1 (c2.gr j) rfl rfl,.o 34 1 (W.gr j) rfl rfl,.k (fun q =>#[.slice (q 9 0).1 (dl (t8)) (q 9 0).2,.slice q1 (dl (y1)) m1,.slice (qc 0).1 (dl (P)) (qc 0).2]) fun q V d D=>RtW.of_n (sm_any (D 9 rfl) (Sy1.gr (j.trans d)) ((HQ 0).gr (j.trans d)) ap ly1 hd ht9),.m 14,⟨⟩⟩ fun Q aK d ax=>?_;simp only[fzw];have aa:=ax 15;clear ax;replace j:=j.trans d;replace C:=C.trans d;replace U:=U.trans d;replace Z:=Z.trans d;replace ag:=ag.trans d;have aC:=d;clear d
 go_upto_region 18 with fail
 refine wp_wTS 3 [.c (.slice (x 15 0).1 (dl (t6)) (x 15 0).2),.c (.slice (Q 15 0).1 (dl (t9)) (Q 15 0).2),.pt (t6) (t9) false] [2] ⟨.p (fun q i=>match i with|0=>((x 15 0).1,(x 15 0).2)|_=>((Q 15 0).1,(Q 15 0).2)) fun q V d D=>⟨(L.gr (aC.trans d)),(aa.gr d)⟩,⟨⟩⟩ (.s 49 (fun q=>pv (w.heap.size+1+1+1) 0) (fun q=>.agg (ptA (q 2 0).1 (t6) (q 2 0).2 (q 2 1).1 (t9) (q 2 1).2 false)) fun S aD d ay=>?_);have HT:=((c4.gr j).gr d).h;have FT:=((c4.gr j).gr d).f;refine⟨setBlk aD (w.heap.size+1+1+1) (ptA (S 2 0).1 (t6) (S 2 0).2 (S 2 1).1 (t9) (S 2 1).2 false),by simp[go_sem,exI,HT,FT],?_⟩;simp only[fzw];obtain⟨ah,ai⟩:=ay 2;clear ay;replace j:=j.trans d;replace G:=G.trans j
 go_wp2_with fail
 exact bo1 results43 (rd_pt _ _ _ _ _ _ _ (by rfl) (blk_setBlk _ _ _ (by rw[HT];decide))) ⟨_,rfl,⟨_,_,_,_,rfl,Sl.set ah (by rw[HT];exact ptA_no _ _ _ _ _ _ _),Sl.set ai (by rw[HT];exact ptA_no _ _ _ _ _ _ _)⟩,gr_setNew G (by omega)⟩
end
end
section
def ex{p:Nat}:Option (Fin p×Fin p)→Nat
 | none=>0
 | some q=>q.1.val
def ey{p:Nat}:Option (Fin p×Fin p)→Nat
 | none=>0
 | some q=>q.2.val
def ef{p:Nat}:Option (Fin p×Fin p)→Bool
 | none=>true
 | some _=>false
theorem subM_val{p:Nat}(a b:Fin p):subM a.val b.val p=(a-b).val:=by
 have h:(a-b).val=(p-b.val+a.val)%p:=Fin.sub_def a b▸rfl;rw[h];unfold subM
 split
 ·rw[show p-b.val+a.val=a.val-b.val+p by omega,Nat.add_mod_right,Nat.mod_eq_of_lt (by omega)]
 ·rw[Nat.mod_eq_of_lt (by omega)];omega
theorem one_val{p:Nat}[NeZero p](h:1<p):(1:Fin p).val=1:=by
 exact Nat.mod_eq_of_lt h
theorem inv_val{p:Nat}[NeZero p](h:1<p){a b:Fin p}(e:b*a=1):a.val*b.val%p=1:=by
 rw[Nat.mul_comm,←Fin.val_mul,e,one_val h]
section
variable {P:Nat} [NeZero P] {i:Fin P→Fin P} {A B:Fin P}
theorem rplus_any(C:EC.Cur i A B)(hd:dl P≤400)(id:Int)(N X Y:Nat)(qc:Nat→Option Addr×Nat)(Q1 Q2:Option (Fin P×Fin P))(p1 q1:Option Addr)(n1 m1:Nat)(p2 q2:Option Addr)(n2 m2:Nat)(w:World)(HQ:∀k,Sl w (qc k).1 (six P A.val B.val N X Y k))(Sx1:Sl w p1 (ex Q1))(Sy1:Sl w q1 (ey Q1))(Sx2:Sl w p2 (ex Q2))(Sy2:Sl w q2 (ey Q2)):
 Calls prog 43 #[.agg (crA id (six P A.val B.val N X Y) qc),.agg (ptA p1 (ex Q1) n1 q1 (ey Q1) m1 (ef Q1)),.agg (ptA p2 (ex Q2) n2 q2 (ey Q2) m2 (ef Q2))] w
  (Rt (.pt (ex (EC.pl i A Q1 Q2)) (ey (EC.pl i A Q1 Q2)) (ef (EC.pl i A Q1 Q2))) w):=by
 have d:=C.pr.1
 match Q1,Q2,Sx1,Sy1,Sx2,Sy2 with
 | none,Q2,Sx1,Sy1,Sx2,Sy2=>exact rplus_inf1 id P A.val B.val N X Y qc 0 0 (ex Q2) (ey Q2) (ef Q2) p1 q1 n1 m1 p2 q2 n2 m2 w HQ Sx1 Sy1 Sx2 Sy2
 | some (x1,y1),none,Sx1,Sy1,Sx2,Sy2=>exact rplus_inf2 id P A.val B.val N X Y qc x1.val y1.val 0 0 p1 q1 n1 m1 p2 q2 n2 m2 w HQ Sx1 Sy1 Sx2 Sy2
 | some (x1,y1),some (x2,y2),Sx1,Sy1,Sx2,Sy2=>
  by_cases hx:x1=x2
  ·subst hx
   by_cases hy:y1=y2
   ·subst hy
    by_cases h0:y1=0
    ·subst h0
     have e:EC.pl i A (some (x1,0)) (some (x1,0))=none:=by simp[EC.pl]
     rw[e];have f:=Fin.val_zero P;have:=rplus_flat id P A.val B.val N X Y qc x1.val hd x1.isLt p1 q1 n1 m1 p2 q2 n2 m2 w HQ Sx1 (by have:=Sy1;simp only[ey,f]at this;exact this) Sx2 (by have:=Sy2;simp only[ey,f]at this;exact this);simp only[ex,ey,ef,f];exact this
    ·have j:y1+y1≠0:=fun h=>h0 (C.dbl h)
     have e:EC.pl i A (some (x1,y1)) (some (x1,y1))=some (EC.sx ((x1*x1+(x1*x1+x1*x1)+A)*i (y1+y1)) x1 x1,EC.sy ((x1*x1+(x1*x1+x1*x1)+A)*i (y1+y1)) x1 y1 (EC.sx ((x1*x1+(x1*x1+x1*x1)+A)*i (y1+y1)) x1 x1)):=by simp[EC.pl,h0]
     rw[e]
     exact rplus_dbl id P A.val B.val N X Y qc x1.val y1.val hd x1.isLt y1.isLt A.isLt (fun h=>h0 (Fin.ext (h.trans (Fin.val_zero P).symm))) d p1 q1 n1 m1 p2 q2 n2 m2 (i (y1+y1)).val _ (Fin.val_mul x1 x1).symm _ (Fin.val_add _ _).symm _ (Fin.val_add _ _).symm _ (Fin.val_add _ _).symm _ (Fin.val_add y1 y1).symm
      _ (Fin.val_mul _ _).symm _ (Fin.val_mul _ _).symm _ (subM_val _ _) _ (subM_val _ _) _ (subM_val _ _) _ (Fin.val_mul _ _).symm _ (subM_val _ _) (i (y1+y1)).isLt (inv_val d (C.inv _ j)) w HQ Sx1 Sy1 Sx2 Sy2
   ·have e:EC.pl i A (some (x1,y1)) (some (x1,y2))=none:=by simp[EC.pl,hy]
    rw[e];exact rplus_op id P A.val B.val N X Y qc x1.val y1.val y2.val hd x1.isLt y1.isLt y2.isLt (fun h=>hy (Fin.ext h)) p1 q1 n1 m1 p2 q2 n2 m2 w HQ Sx1 Sy1 Sx2 Sy2
  ·have j:x2-x1≠0:=fun h=>hx (EC.sub_zero_of h).symm
   have e:EC.pl i A (some (x1,y1)) (some (x2,y2))=some (EC.sx ((y2-y1)*i (x2-x1)) x1 x2,EC.sy ((y2-y1)*i (x2-x1)) x1 y1 (EC.sx ((y2-y1)*i (x2-x1)) x1 x2)):=by simp[EC.pl,hx]
   rw[e]
   exact rplus_add id P A.val B.val N X Y qc x1.val y1.val x2.val y2.val hd x1.isLt y1.isLt x2.isLt y2.isLt (fun h=>hx (Fin.ext h)) d p1 q1 n1 m1 p2 q2 n2 m2 (i (x2-x1)).val _ (subM_val y2 y1) _ (subM_val x2 x1) _ (Fin.val_mul _ _).symm _ (Fin.val_mul _ _).symm _ (subM_val _ _) _ (subM_val _ _) _ (subM_val _ _) _ (Fin.val_mul _ _).symm _ (subM_val _ _)
    (i (x2-x1)).isLt (inv_val d (C.inv _ j)) w HQ Sx1 Sy1 Sx2 Sy2
theorem neg_val{p:Nat}[NeZero p](y:Fin p)(h:y≠0):p-y.val=(-y).val:=by
 grind
end
end
section
attribute [local go_sem ↓] uz1
attribute [local go_sem] uz2
section
attribute [local go_sem ↓] uz8 Go.wp_at_zero Go.wp_at_succ
attribute [local go_sem] uz9
attribute [local go_sem] frz_setBlk blk_setBlk setBlk_setBlk
section
variable {P:Nat} [NeZero P] {i:Fin P→Fin P} {A B:Fin P}
theorem rtimes_any(C:EC.Cur i A B)(hd:dl P≤400)(id:Int)(N X Y:Nat)(qc:Nat→Option Addr×Nat)(k nk:Nat)(pk:Option Addr)(hk:dl k≤400)(Q:Option (Fin P×Fin P))(hQ:EC.On A B Q)(p q:Option Addr)(n m:Nat)(w:World)(HQ:∀k,Sl w (qc k).1 (six P A.val B.val N X Y k))(Sk:Sl w pk k)(Sx:Sl w p (ex Q))(Sy:Sl w q (ey Q)):
 Calls prog 19 #[.agg (crA id (six P A.val B.val N X Y) qc),.slice pk (dl k) nk,.agg (ptA p (ex Q) n q (ey Q) m (ef Q))] w (Rt (.pt (ex (EC.ml i A k Q)) (ey (EC.ml i A k Q)) (ef (EC.ml i A k Q))) w):=by
 obtain⟨L,hL⟩:=exl (bl k)
 have az:(L:Int)≤12800:=by
  have:(bl k+31)/32≤400:=hk
  omega
 have aA:(0:Int)≤L:=by omega
 have HB:Hid _:=fun w' g=>hL▸rbits_any k nk pk w' (Sk.gr g) (by omega);have HZ:Hu (k/2^L=0):=fun _=>Nat.div_eq_of_lt (hL▸(bl_le k (bl k)).1 (Nat.le_refl _))
 have ax:Hu (L≤12800):=fun _=>by omega
 clear hL
 go_enter func19,ntmps19
 go_upto_region 3 with (go_at_call 33;refine(HB.out _ grA).mono ?_;rintro e w' ⟨rfl,rfl⟩)
 obtain⟨V,ak⟩:=exl (w.heap.size+1+1+1);simp only[ak]
 refine gen_w (fun v=>Hid (Gr w v∧Vr v (w.heap.size) (crA id (six P A.val B.val N X Y) qc)∧Vr v (w.heap.size+1) (ptA p (ex Q) n q (ey Q) m (ef Q))∧Vr v (w.heap.size+1+1) (ptA none 0 0 none 0 0 false)∧Vr v V (ptA none 0 0 none 0 0 true))) ?_ ?_
 ·subst ak;exact⟨grA,⟨by simp[go_sem],by simp[go_sem],by simp[go_sem]⟩,⟨by simp[go_sem],by simp[go_sem],by simp[go_sem]⟩,⟨by simp[go_sem],by simp[go_sem],by simp[go_sem]⟩,⟨by simp[go_sem],by simp[go_sem],by simp[go_sem]⟩⟩
 intro v0 HV
 have ab:V≠w.heap.size:=by omega
 have ac:V≠w.heap.size+1:=by omega
 have ae:V≠w.heap.size+1+1:=by omega
 have ah:w.heap.size≤V:=by omega
 have HN:Hu (V≠w.heap.size∧V≠w.heap.size+1∧V≠w.heap.size+1+1∧w.heap.size≤V):=fun _=>⟨ab,ac,ae,ah⟩;clear ak ab ac ae ah HB
 go_loopw [8] (fun ia wr=>∃(j:Nat) (po:Option Addr) (no:Nat) (qo:Option Addr) (mo:Nat),ia=.int .i64 ((j:Int)-1)∧Hu (j≤L)∧Hid (Gr w wr∧Vr wr (w.heap.size) (crA id (six P A.val B.val N X Y) qc)∧Vr wr (w.heap.size+1) (ptA p (ex Q) n q (ey Q) m (ef Q))∧Vr wr (w.heap.size+1+1) (ptA none 0 0 none 0 0 false)∧Vr wr V (ptA po (ex (EC.ml i A (k/2^j) Q)) no qo (ey (EC.ml i A (k/2^j) Q)) mo (ef (EC.ml i A (k/2^j) Q)))∧Sl wr po (ex (EC.ml i A (k/2^j) Q))∧Sl wr qo (ey (EC.ml i A (k/2^j) Q)))) (fun ia _=>(intOf ia+1).toNat)
 case atStart=>
  refine⟨L,none,0,none,0,rfl,fun _=>Nat.le_refl _,?_⟩;rw[HZ.out ()];obtain⟨h1,h2,h3,h4,h5⟩:=HV.out;exact⟨h1,h2,h3,h4,h5,Sl.zero _ _,Sl.zero _ _⟩
 case round=>
  obtain⟨j,po,no,qo,mo,rfl,HJ,HR⟩:=hrel
  by_cases hpos:0<j
  ·obtain⟨I,rfl⟩:∃i,j=i+1:=⟨j-1,by omega⟩
   have e1:(((I+1:Nat):Int)-1)=(I:Int):=by omega
   rw[e1]
   have j0:(0:Int)≤I:=by omega
   have j1:(I:Int)<12800:=by have:=HJ.out ();have:=ax.out ();omega
   have ar:I≤L:=by have:=HJ.out ();omega
   obtain⟨R,hR⟩:=exl (EC.ml i A (k/2^(I+1)) Q);obtain⟨x,ao⟩:=exl (EC.pl i A R R);obtain⟨R2,au⟩:=exl (EC.pl i A x Q);rw[hR]at HR;obtain⟨G,U,W,Z,J,So,To⟩:=HR.out;obtain⟨ab,ac,ae,ah⟩:=HN.out ();replace HQ:=fun k=>(HQ k).gr G;replace Sk:=Sk.gr G;replace Sx:=Sx.gr G;replace Sy:=Sy.gr G
   have af:∀b,k/2^I%2=b→k/2^I=k/2^(I+1)+k/2^(I+1)+b:=fun b hb=>by
    rw[Nat.pow_succ,←Nat.div_div_eq_div_mul];omega
   have ai:EC.ml i A (k/2^(I+1)+k/2^(I+1)) Q=x:=by rw[EC.ml_add C hQ,hR,ao]
   have aj:=fun w' (s:Sl w' pk k)=>rbit_any k nk I pk w' s (by omega);clear HV HR HJ hpos e1
   obtain hb|hb:k/2^I%2=0∨k/2^I%2=1:=by omega
   ·have ap:x=EC.ml i A (k/2^I) Q:=by rw[af 0 hb,Nat.add_zero,ai]
    have ag:∀w',Sl w' pk k→Calls prog 25 #[.slice pk (dl k) nk,.int .i64 I] w' fun e aq=>e=.returned (.int .i64 0)∧aq=w':=fun w' s=>by
     have:=aj w' s;rw[show bitN k I=0 from hb]at this;exact this
    clear hb ai af aj
    go_upto_region 5 with fail
    refine wp_wTS 4 [.c (.agg (crA id (six P A.val B.val N X Y) qc)),.c (.agg (ptA po (ex R) no qo (ey R) mo (ef R))),.c (.agg (ptA po (ex R) no qo (ey R) mo (ef R))),.pt (ex x) (ey x) (ef x)] [0,1,2,3] ⟨.g 36 0 U rfl,.g 49 0 J rfl,.g 49 0 J rfl,.k (fun K =>#[.agg (crA id (six P A.val B.val N X Y) qc),.agg (ptA po (ex R) no qo (ey R) mo (ef R)),.agg (ptA po (ex R) no qo (ey R) mo (ef R))]) fun K vv d hh=>RtW.of_pt (ao▸rplus_any C hd id N X Y qc R R po qo no mo po qo no mo _ (fun k=>(HQ k).gr d) (So.gr d) (To.gr d) (So.gr d) (To.gr d)),⟨⟩⟩ (.s 49 (fun K=>pv V 0) (fun K=>.agg (ptA (K 3 0).1 (ex x) (K 3 0).2 (K 3 1).1 (ey x) (K 3 1).2 (ef x))) fun l v1 d h5=>?_);have S:=(J.gr d).h;have FT:=(J.gr d).f;refine⟨setBlk v1 (V) (ptA (l 3 0).1 (ex x) (l 3 0).2 (l 3 1).1 (ey x) (l 3 1).2 (ef x)),by simp[go_sem,exI,S,FT],?_⟩;simp only[fzw];obtain⟨D,H⟩:=h5 3;clear h5;replace G:=G.trans d;replace U:=U.gr d;replace W:=W.gr d;replace Z:=Z.gr d;replace J:=J.gr d;replace HQ:=fun k=>(HQ k).gr d;replace Sk:=Sk.gr d;replace Sx:=Sx.gr d;replace Sy:=Sy.gr d;replace So:=So.gr d;replace To:=To.gr d;clear d
    go_upto_region 6 with fail
    refine gen_w (fun u=>Gr w u∧Vr u (w.heap.size) (crA id (six P A.val B.val N X Y) qc)∧Vr u (w.heap.size+1) (ptA p (ex Q) n q (ey Q) m (ef Q))∧Vr u (w.heap.size+1+1) (ptA none 0 0 none 0 0 false)∧Vr u (V) (ptA (l 3 0).1 (ex x) (l 3 0).2 (l 3 1).1 (ey x) (l 3 1).2 (ef x))∧(∀k,Sl u (qc k).1 (six P A.val B.val N X Y k))∧Sl u pk (k)∧Sl u p (ex Q)∧Sl u q (ey Q)∧Sl u (l 3 0).1 (ex x)∧Sl u (l 3 1).1 (ey x)) ⟨gr_setNew G (by omega),U.other (ab),W.other (ac),Z.other (ae),J.set (by rw[ptA_size];decide) _,fun k=>Sl.set (HQ k) (by rw[S];exact ptA_no _ _ _ _ _ _ _),Sl.set Sk (by rw[S];exact ptA_no _ _ _ _ _ _ _),Sl.set Sx (by rw[S];exact ptA_no _ _ _ _ _ _ _),Sl.set Sy (by rw[S];exact ptA_no _ _ _ _ _ _ _),Sl.set D (by rw[S];exact ptA_no _ _ _ _ _ _ _),Sl.set H (by rw[S];exact ptA_no _ _ _ _ _ _ _)⟩ ?_;clear S FT;rintro u5 ⟨G,U,W,Z,J,HQ,Sk,Sx,Sy,D,H⟩;refine wp_wS [.c (.slice pk (dl (k)) nk),.c (.int .i64 I),.O,.F] [2] ⟨.k (fun K =>#[.slice pk (dl (k)) nk,.int .i64 I]) fun K vv d hh=>RtW.of_c (Rt.same (ag _ (Sk.gr d))),⟨⟩⟩ fun ay v2 d h6=>?_;simp only[fzw];clear h6;replace G:=G.trans d;replace U:=U.gr d;replace W:=W.gr d;replace Z:=Z.gr d;replace J:=J.gr d;replace HQ:=fun k=>(HQ k).gr d;replace Sk:=Sk.gr d;replace Sx:=Sx.gr d;replace Sy:=Sy.gr d;replace D:=D.gr d;replace H:=H.gr d;clear d
    go_wp2_with fail
    go_roundw
    case rel=>
     refine⟨I,(l 3 0).1,(l 3 0).2,(l 3 1).1,(l 3 1).2,by simp,fun _=>ar,?_⟩;rw[←ap];exact⟨G,U,W,Z,J,D,H⟩
    case measure=>simp[intOf]
   ·have ap:R2=EC.ml i A (k/2^I) Q:=by
     rw[af 1 hb]
     show R2=EC.pl i A (EC.ml i A (k/2^(I+1)+k/2^(I+1)) Q) Q
     rw[ai,au]
    have ag:∀w',Sl w' pk k→Calls prog 25 #[.slice pk (dl k) nk,.int .i64 I] w' fun e aq=>e=.returned (.int .i64 1)∧aq=w':=fun w' s=>by
     have:=aj w' s;rw[show bitN k I=1 from hb]at this;exact this
    clear hb ai af aj
    go_upto_region 5 with fail
    refine wp_wTS 4 [.c (.agg (crA id (six P A.val B.val N X Y) qc)),.c (.agg (ptA po (ex R) no qo (ey R) mo (ef R))),.c (.agg (ptA po (ex R) no qo (ey R) mo (ef R))),.pt (ex x) (ey x) (ef x)] [0,1,2,3] ⟨.g 36 0 U rfl,.g 49 0 J rfl,.g 49 0 J rfl,.k (fun K =>#[.agg (crA id (six P A.val B.val N X Y) qc),.agg (ptA po (ex R) no qo (ey R) mo (ef R)),.agg (ptA po (ex R) no qo (ey R) mo (ef R))]) fun K vv d hh=>RtW.of_pt (ao▸rplus_any C hd id N X Y qc R R po qo no mo po qo no mo _ (fun k=>(HQ k).gr d) (So.gr d) (To.gr d) (So.gr d) (To.gr d)),⟨⟩⟩ (.s 49 (fun K=>pv V 0) (fun K=>.agg (ptA (K 3 0).1 (ex x) (K 3 0).2 (K 3 1).1 (ey x) (K 3 1).2 (ef x))) fun l v1 d h5=>?_);have S:=(J.gr d).h;have FT:=(J.gr d).f;refine⟨setBlk v1 (V) (ptA (l 3 0).1 (ex x) (l 3 0).2 (l 3 1).1 (ey x) (l 3 1).2 (ef x)),by simp[go_sem,exI,S,FT],?_⟩;simp only[fzw];obtain⟨D,H⟩:=h5 3;clear h5;replace G:=G.trans d;replace U:=U.gr d;replace W:=W.gr d;replace Z:=Z.gr d;replace J:=J.gr d;replace HQ:=fun k=>(HQ k).gr d;replace Sk:=Sk.gr d;replace Sx:=Sx.gr d;replace Sy:=Sy.gr d;replace So:=So.gr d;replace To:=To.gr d;clear d
    go_upto_region 6 with fail
    refine gen_w (fun u=>Gr w u∧Vr u (w.heap.size) (crA id (six P A.val B.val N X Y) qc)∧Vr u (w.heap.size+1) (ptA p (ex Q) n q (ey Q) m (ef Q))∧Vr u (w.heap.size+1+1) (ptA none 0 0 none 0 0 false)∧Vr u (V) (ptA (l 3 0).1 (ex x) (l 3 0).2 (l 3 1).1 (ey x) (l 3 1).2 (ef x))∧(∀k,Sl u (qc k).1 (six P A.val B.val N X Y k))∧Sl u pk (k)∧Sl u p (ex Q)∧Sl u q (ey Q)∧Sl u (l 3 0).1 (ex x)∧Sl u (l 3 1).1 (ey x)) ⟨gr_setNew G (by omega),U.other (ab),W.other (ac),Z.other (ae),J.set (by rw[ptA_size];decide) _,fun k=>Sl.set (HQ k) (by rw[S];exact ptA_no _ _ _ _ _ _ _),Sl.set Sk (by rw[S];exact ptA_no _ _ _ _ _ _ _),Sl.set Sx (by rw[S];exact ptA_no _ _ _ _ _ _ _),Sl.set Sy (by rw[S];exact ptA_no _ _ _ _ _ _ _),Sl.set D (by rw[S];exact ptA_no _ _ _ _ _ _ _),Sl.set H (by rw[S];exact ptA_no _ _ _ _ _ _ _)⟩ ?_;clear S FT;rintro u5 ⟨G,U,W,Z,J,HQ,Sk,Sx,Sy,D,H⟩;refine wp_wS [.c (.slice pk (dl (k)) nk),.c (.int .i64 I),.c (.int .i64 1),.T] [2] ⟨.k (fun K =>#[.slice pk (dl (k)) nk,.int .i64 I]) fun K vv d hh=>RtW.of_c (Rt.same (ag _ (Sk.gr d))),⟨⟩⟩ fun ay v2 d h6=>?_;simp only[fzw];clear h6;replace G:=G.trans d;replace U:=U.gr d;replace W:=W.gr d;replace Z:=Z.gr d;replace J:=J.gr d;replace HQ:=fun k=>(HQ k).gr d;replace Sk:=Sk.gr d;replace Sx:=Sx.gr d;replace Sy:=Sy.gr d;replace D:=D.gr d;replace H:=H.gr d;clear d
    go_upto_region 7 with fail
    refine wp_wTS 4 [.c (.agg (crA id (six P A.val B.val N X Y) qc)),.c (.agg (ptA (l 3 0).1 (ex x) (l 3 0).2 (l 3 1).1 (ey x) (l 3 1).2 (ef x))),.c (.agg (ptA p (ex Q) n q (ey Q) m (ef Q))),.pt (ex R2) (ey R2) (ef R2)] [0,1,2,3] ⟨.g 36 0 U rfl,.g 49 0 J rfl,.g 49 0 W rfl,.k (fun K =>#[.agg (crA id (six P A.val B.val N X Y) qc),.agg (ptA (l 3 0).1 (ex x) (l 3 0).2 (l 3 1).1 (ey x) (l 3 1).2 (ef x)),.agg (ptA p (ex Q) n q (ey Q) m (ef Q))]) fun K vv d hh=>RtW.of_pt (au▸rplus_any C hd id N X Y qc x Q (l 3 0).1 (l 3 1).1 (l 3 0).2 (l 3 1).2 p q n m _ (fun k=>(HQ k).gr d) (D.gr d) (H.gr d) (Sx.gr d) (Sy.gr d)),⟨⟩⟩ (.s 49 (fun K=>pv V 0) (fun K=>.agg (ptA (K 3 0).1 (ex R2) (K 3 0).2 (K 3 1).1 (ey R2) (K 3 1).2 (ef R2))) fun aa v3 d h7=>?_);have S:=(J.gr d).h;have FT:=(J.gr d).f;refine⟨setBlk v3 (V) (ptA (aa 3 0).1 (ex R2) (aa 3 0).2 (aa 3 1).1 (ey R2) (aa 3 1).2 (ef R2)),by simp[go_sem,exI,S,FT],?_⟩;simp only[fzw];obtain⟨av,aw⟩:=h7 3;clear h7;replace G:=G.trans d;replace U:=U.gr d;replace W:=W.gr d;replace Z:=Z.gr d;replace J:=J.gr d
    go_wp2_with fail
    go_roundw
    case rel=>
     refine⟨I,(aa 3 0).1,(aa 3 0).2,(aa 3 1).1,(aa 3 1).2,by simp,fun _=>ar,?_⟩;rw[←ap];exact⟨gr_setNew G (by omega),U.other ab,W.other ac,Z.other ae,J.set (by rw[ptA_size];decide) _,Sl.set av (by rw[S];exact ptA_no _ _ _ _ _ _ _),Sl.set aw (by rw[S];exact ptA_no _ _ _ _ _ _ _)⟩
    case measure=>simp[intOf]
  ·obtain rfl:j=0:=by omega
   rw[Nat.pow_zero,Nat.div_one]at HR;obtain⟨R,hR⟩:=exl (EC.ml i A k Q);rw[hR]at HR;obtain⟨G,U,W,Z,J,So,To⟩:=HR.out;obtain⟨ab,ac,ae,ah⟩:=HN.out ();have⟨h3,f3,p3⟩:=Z;have⟨h7,f7,p7⟩:=J
   go_wp2_with fail
   refine bo1 results19 (rd_pt po (ex R) no qo (ey R) mo (ef R) (by rfl) ?_) ⟨_,rfl,?_,gr_setNew G (by omega)⟩
   ·simp[go_sem,h3]
   ·rw[hR];exact⟨_,_,_,_,rfl,Sl.set So (by rw[h3];exact ptA_no _ _ _ _ _ _ _),Sl.set To (by rw[h3];exact ptA_no _ _ _ _ _ _ _)⟩
end
end
end
end Go.Proofs.Ytffhepbppiocbaa