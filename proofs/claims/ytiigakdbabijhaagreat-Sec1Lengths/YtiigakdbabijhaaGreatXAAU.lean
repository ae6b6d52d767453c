import Derived.Deep.AppendLies
import Derived.Test.YtiigakdbabijhaaGreatXAAG
import Derived.Test.YtiigakdbabijhaaGreatXAFRt
namespace Go.Proofs.YtiigakdbabijhaaGreat
open Go.RowKit Go.Proofs.Tryz
set_option maxRecDepth 100000
set_option maxHeartbeats 8000000
section
theorem ron_any(i:Nat)(h1:1≤i)(h2:i≤15)(x y:Nat)(f:Bool)(hx:x<M)(hy:y<M)(qc:Nat→Option Addr×Nat)(p q:Option Addr)(n m:Nat)(w:World)(HQ:∀k,Sl w (qc k).1 (nN i k))(Sx:Sl w p x)(Sy:Sl w q y):
 Calls prog 38 #[.agg (crA (i:Int) (nN i) qc),.agg (ptA p x n q y m f)] w (Rt (.c (.bool (onB i x y f))) w):=by
 have j:=pN_dl i h1 h2;have d:=dl_M x hx;have h:=dl_M y hy
 cases f with
 | true=>exact Rt.c (ron_inf i _ _ _ _ _ _ qc x y p q n m w HQ Sx Sy)
 | false=>
  by_cases lx:x<pN i
  ·by_cases ly:y<pN i
   ·have:=ron_ok i _ _ _ _ _ _ qc x y p q n m (by omega) (by omega) (by omega) lx ly (aN_lt i h1 h2) (bN_lt i h1 h2) w HQ Sx Sy;simp only[onB,lx,ly,decide_true,Bool.true_and,Bool.false_eq_true,if_false];exact Rt.c this
   ·have:=ron_y i _ _ _ _ _ _ qc x y p q n m (by omega) (by omega) (by omega) lx (by omega) w HQ Sx Sy;simp only[onB,ly,decide_false,Bool.false_and,Bool.and_false,Bool.false_eq_true,if_false];exact Rt.c this
  ·have:=ron_x i _ _ _ _ _ _ qc x y p q n m (by omega) (by omega) (by omega) w HQ Sx Sy;simp only[onB,lx,decide_false,Bool.false_and,Bool.false_eq_true,if_false];exact Rt.c this
theorem rsize_yes(i:Nat)(h1:1≤i)(h2:i≤15)(qc:Nat→Option Addr×Nat)(w:World)(HQ:∀k,Sl w (qc k).1 (nN i k)):
 Calls prog 23 #[.agg (crA (i:Int) (nN i) qc)] w (Rt (.c (.int .i64 (szN i:Int))) w):=
 Rt.c (rsize_any i _ _ _ _ _ _ qc (szN i) (pN_dl i h1 h2) rfl w HQ)
end
section
theorem rnegQ(k:Nat)(h1:1≤k)(h2:k≤15)(qc:Nat→Option Addr×Nat){P:Q3}(hP:OnQ k P){p q:Option Addr}{n m:Nat}{w:World}(HQ:∀j,Sl w (qc j).1 (nN k j))(Sx:Sl w p P.1)(Sy:Sl w q P.2.1):
 Calls prog 24 #[.agg (crA (k:Int) (nN k) qc),.agg (ptA p P.1 n q P.2.1 m P.2.2)] w (Rt (.pt (ngQ k P).1 (ngQ k P).2.1 (ngQ k P).2.2) w):=by
 haveI:=EC.nzP k h1 h2
 have l:=pN_dl k h1 h2;obtain⟨d,f,i⟩:=dec3 hP;have h:=rneg_any (by omega) (k:Int) (aN k) (bN k) (oN k) (xN k) (yN k) qc (decQ (pN k) P) p q n m w HQ (by rw[d];exact Sx) (by rw[f];exact Sy);rw[d,f,i]at h;rw[ngQ_is h1 h2];exact h
theorem rtimesQ(k:Nat)(h1:1≤k)(h2:k≤15)(qc:Nat→Option Addr×Nat){P:Q3}(hP:OnQ k P){t nk:Nat}{pk:Option Addr}(ht:dl t≤400){p q:Option Addr}{n m:Nat}{w:World}(HQ:∀j,Sl w (qc j).1 (nN k j))(Sk:Sl w pk t)(Sx:Sl w p P.1)(Sy:Sl w q P.2.1):
 Calls prog 19 #[.agg (crA (k:Int) (nN k) qc),.slice pk (dl t) nk,.agg (ptA p P.1 n q P.2.1 m P.2.2)] w (Rt (.pt (mlQ k t P).1 (mlQ k t P).2.1 (mlQ k t P).2.2) w):=by
 haveI:=EC.nzP k h1 h2
 have l:=pN_dl k h1 h2;obtain⟨d,f,i⟩:=dec3 hP;have h:=rtimes_any (EC.curN k h1 h2) (by omega) (k:Int) (oN k) (xN k) (yN k) qc t nk pk ht (decQ (pN k) P) (on_dec h1 h2 hP) p q n m w HQ Sk (by rw[d];exact Sx) (by rw[f];exact Sy);rw[d,f,i]at h;rw[mlQ_is h1 h2];exact h
end
section
attribute [local go_sem ↓] uz1
attribute [local go_sem] uz2
section
attribute [local go_sem] uz8
attribute [local go_sem ↓] uz13 Go.wp_at_zero Go.wp_at_succ
attribute [local go_sem] uz14
theorem rg_any{k:Nat}(qc:Nat→Option Addr×Nat)(w:World)(HQ:∀j,Sl w (qc j).1 (nN k j)):Calls prog 22 #[.agg (crA (k:Int) (nN k) qc)] w (Rt (.pt (xN k) (yN k) false) w):=by
 go_enter func22,ntmps22
 go_upto_region 1 with fail
 refine gen_w (fun v=>Gr w v∧Vr v (w.heap.size) (crA (k:Int) (nN k) qc)∧Vr v (w.heap.size+1) (ptA none 0 0 none 0 0 false)) ⟨grA,vrA,vrA⟩ ?_;rintro K ⟨G,C,D⟩;replace HQ:=fun k=>(HQ k).gr G;refine wp_wTS 5 [.c (pv (w.heap.size) 5),.c (.slice (qc 4).1 (dl (xN k)) (qc 4).2),.c (pv (w.heap.size) 6),.c (.slice (qc 5).1 (dl (yN k)) (qc 5).2),.pt (xN k) (yN k) false] [1,3,4] ⟨.o 29 5 C rfl rfl,.o 29 6 C rfl rfl,.p (fun l i=>match i with|0=>((qc 4).1,(qc 4).2)|_=>((qc 5).1,(qc 5).2)) fun l L q P=>⟨((HQ 4).gr q),((HQ 5).gr q)⟩,⟨⟩⟩ (.s 44 (fun l=>pv (w.heap.size+1) 0) (fun l=>.agg (ptA (l 4 0).1 (xN k) (l 4 0).2 (l 4 1).1 (yN k) (l 4 1).2 false)) fun d H q I=>?_);have B:=(D.gr q).h;have J:=(D.gr q).f;refine⟨setBlk H (w.heap.size+1) (ptA (d 4 0).1 (xN k) (d 4 0).2 (d 4 1).1 (yN k) (d 4 1).2 false),by simp[go_sem,exI,B,J],?_⟩;simp only[fzw];obtain⟨x,A⟩:=I 4;replace G:=G.trans q
 go_wp2_with fail
 exact bo1 results22 (rd_pt _ _ _ _ _ _ _ (by rfl) (blk_setBlk _ _ _ (by rw[B];decide))) ⟨_,rfl,⟨_,_,_,_,rfl,Sl.set x (by rw[B];exact ptA_no _ _ _ _ _ _ _),Sl.set A (by rw[B];exact ptA_no _ _ _ _ _ _ _)⟩,gr_setNew G (by omega)⟩
end
end
section
theorem ron_is{k:Nat}(h1:1≤k)(h2:k≤15){P:Q3}{r:Bool}(lP:P.1<M∧P.2.1<M)(h:onB k P.1 P.2.1 P.2.2=r)(qc:Nat→Option Addr×Nat){p q:Option Addr}{n m:Nat}{w:World}(HQ:∀j,Sl w (qc j).1 (nN k j))(Sx:Sl w p P.1)(Sy:Sl w q P.2.1):
 Calls prog 38 #[.agg (crA (k:Int) (nN k) qc),.agg (ptA p P.1 n q P.2.1 m P.2.2)] w (Rt (.c (.bool r)) w):=by
 subst h;exact ron_any k h1 h2 _ _ _ lP.1 lP.2 qc p q n m w HQ Sx Sy
end
end Go.Proofs.YtiigakdbabijhaaGreat