import Derived.Test.YtghidgcekieljaaGreatXAVI
import Derived.Test.YtghidgcekieljaaGreatXAAQ
import Derived.Test.YtghidgcekieljaaGreatXATB
namespace Go.Proofs.YtghidgcekieljaaGreat
open Go.RowKit Go.Proofs.Tryz
set_option maxRecDepth 100000
set_option maxHeartbeats 8000000
section
theorem ron_any(i:Nat)(h1:1≤i)(h2:i≤15)(x y:Nat)(f:Bool)(hx:x<M)(hy:y<M)(qc:Nat→Option Addr×Nat)(p q:Option Addr)(n m:Nat)(w:World)(HQ:∀k,Sl w (qc k).1 (nN i k))(Sx:Sl w p x)(Sy:Sl w q y):
 Calls prog 13 #[.agg (crA (i:Int) (nN i) qc),.agg (ptA p x n q y m f)] w (Rt (.c (.bool (onB i x y f))) w):=by
 have hd:=pN_dl i h1 h2;have hx4:=dl_M x hx;have hy4:=dl_M y hy
 cases f with
 | true=>exact Rt.c (ron_inf i _ _ _ _ _ _ qc x y p q n m w HQ Sx Sy)
 | false=>
  by_cases lx:x<pN i
  ·by_cases ly:y<pN i
   ·have:=ron_ok i _ _ _ _ _ _ qc x y p q n m (by omega) (by omega) (by omega) lx ly (aN_lt i h1 h2) (bN_lt i h1 h2) w HQ Sx Sy;simp only[onB,lx,ly,decide_true,Bool.true_and,Bool.false_eq_true,if_false];exact Rt.c this
   ·have:=ron_y i _ _ _ _ _ _ qc x y p q n m (by omega) (by omega) (by omega) lx (by omega) w HQ Sx Sy;simp only[onB,ly,decide_false,Bool.false_and,Bool.and_false,Bool.false_eq_true,if_false];exact Rt.c this
  ·have:=ron_x i _ _ _ _ _ _ qc x y p q n m (by omega) (by omega) (by omega) w HQ Sx Sy;simp only[onB,lx,decide_false,Bool.false_and,Bool.false_eq_true,if_false];exact Rt.c this
theorem oN_dl(i:Nat):dl (oN i)≤18:=dl_M _ (oN_bd i)
end
section
theorem rplusQ(k:Nat)(h1:1≤k)(h2:k≤15)(qc:Nat→Option Addr×Nat){P Q:Q3}(hP:OnQ k P)(hQ:OnQ k Q){p1 q1 p2 q2:Option Addr}{n1 m1 n2 m2:Nat}{w:World}(HQ:∀j,Sl w (qc j).1 (nN k j))(Sx1:Sl w p1 P.1)(Sy1:Sl w q1 P.2.1)(Sx2:Sl w p2 Q.1)(Sy2:Sl w q2 Q.2.1):
 Calls prog 15 #[.agg (crA (k:Int) (nN k) qc),.agg (ptA p1 P.1 n1 q1 P.2.1 m1 P.2.2),.agg (ptA p2 Q.1 n2 q2 Q.2.1 m2 Q.2.2)] w (Rt (.pt (plQ k P Q).1 (plQ k P Q).2.1 (plQ k P Q).2.2) w):=by
 haveI:=EC.nzP k h1 h2
 have hd:=pN_dl k h1 h2;obtain⟨a1,a2,a3⟩:=dec3 hP;obtain⟨b1,b2,b3⟩:=dec3 hQ;have h:=rplus_any (EC.curN k h1 h2) (by omega) (k:Int) (oN k) (xN k) (yN k) qc (decQ (pN k) P) (decQ (pN k) Q) p1 q1 n1 m1 p2 q2 n2 m2 w HQ (by rw[a1];exact Sx1) (by rw[a2];exact Sy1) (by rw[b1];exact Sx2) (by rw[b2];exact Sy2);rw[a1,a2,a3,b1,b2,b3]at h;rw[plQ_is h1 h2];exact h
theorem rtimesQ(k:Nat)(h1:1≤k)(h2:k≤15)(qc:Nat→Option Addr×Nat){P:Q3}(hP:OnQ k P){t nk:Nat}{pk:Option Addr}(ht:dl t≤400){p q:Option Addr}{n m:Nat}{w:World}(HQ:∀j,Sl w (qc j).1 (nN k j))(Sk:Sl w pk t)(Sx:Sl w p P.1)(Sy:Sl w q P.2.1):
 Calls prog 16 #[.agg (crA (k:Int) (nN k) qc),.slice pk (dl t) nk,.agg (ptA p P.1 n q P.2.1 m P.2.2)] w (Rt (.pt (mlQ k t P).1 (mlQ k t P).2.1 (mlQ k t P).2.2) w):=by
 haveI:=EC.nzP k h1 h2
 have hd:=pN_dl k h1 h2;obtain⟨a1,a2,a3⟩:=dec3 hP;have h:=rtimes_any (EC.curN k h1 h2) (by omega) (k:Int) (oN k) (xN k) (yN k) qc t nk pk ht (decQ (pN k) P) (on_dec h1 h2 hP) p q n m w HQ Sk (by rw[a1];exact Sx) (by rw[a2];exact Sy);rw[a1,a2,a3]at h;rw[mlQ_is h1 h2];exact h
end
section
attribute [local go_sem ↓] uz1
attribute [local go_sem] uz2
section
attribute [local go_sem] uz8
attribute [local go_sem ↓] uz11 Go.wp_at_zero Go.wp_at_succ
attribute [local go_sem] uz12
abbrev pjT(T:T3):Array Value:=prj T.1 T.2.1 T.2.2
theorem jgf_yes{k:Nat}(h1:1≤k)(h2:k≤15)(n:Nat)(hn:n≤2)(F:Nat→T3)(c:Array Value)(hrow:∀i,i<n→c.extract (i*27) (i*27+27)=pjT (F i))(hsz:n*27≤c.size)(HO':∀i,i<n→∀w,Cg 121 #[.agg (cu (k:Int) (pN k) (aN k) (bN k) (oN k) (xN k) (yN k) (bl (oN k)) (szN k) (lgN k)),.agg (prj (F i).1 (F i).2.1 (F i).2.2)] w (.bool true))(b cap:Nat)(w:World)(hv:Vr w b c):
 Cg 82 #[.int .i64 (k:Int),.slice (some ⟨b,0,none⟩) n cap] w (.tuple #[.agg (cu (k:Int) (pN k) (aN k) (bN k) (oN k) (xN k) (yN k) (bl (oN k)) (szN k) (lgN k)),.int .i64 0]):=by
 have HG:Hid (∀w,Cg 30 #[.int .i64 (k:Int)] w (.tuple #[.agg (cu (k:Int) (pN k) (aN k) (bN k) (oN k) (xN k) (yN k) (bl (oN k)) (szN k) (lgN k)),.int .i64 0])):=fun w=>get13_yes k h1 h2 w;have HN:Hu (n≤2):=fun _=>hn;have HO:Hid _:=HO'
 have HL:Hid (∀j,j<n→∀v,Gr w v→(loadS 74 (.pointer (some ⟨b,j*27,none⟩))).run prog v=.ok (.agg (prj (F j).1 (F j).2.1 (F j).2.2)) v):=fun j hj v g=>by
  have hb:=(hv.gr g).h;rw[loadPartJ v b (j*27) (by rw[hb];omega),hb,hrow j hj]
 clear hn hrow hsz HO'
 go_enter func82,ntmps82
 go_wp2_with (go_at_call 30;refine(HG.out _).mono ?_;rintro e WA ⟨rfl,GA⟩)
 obtain⟨e6,he6⟩:=exl (WA.heap.size);simp only[he6]
 refine gen_w (fun wr=>Hid (Gr w wr∧Vr wr (w.heap.size) (cu 0 0 0 0 0 0 0 0 0 false)∧Vr wr (e6+1) (cu (k:Int) (pN k) (aN k) (bN k) (oN k) (xN k) (yN k) (bl (oN k)) (szN k) (lgN k)))) ?_ ?_
 ·subst he6;have g1:Gr WA (WA.alloc (.cells (cu (k:Int) (pN k) (aN k) (bN k) (oN k) (xN k) (yN k) (bl (oN k)) (szN k) (lgN k)) 67)):=(Gr.refl _).alloc _;have g2:Gr (WA.alloc (.cells (cu (k:Int) (pN k) (aN k) (bN k) (oN k) (xN k) (yN k) (bl (oN k)) (szN k) (lgN k)) 67)) ((WA.alloc (.cells (cu (k:Int) (pN k) (aN k) (bN k) (oN k) (xN k) (yN k) (bl (oN k)) (szN k) (lgN k)) 67)).alloc (.cells (cu (k:Int) (pN k) (aN k) (bN k) (oN k) (xN k) (yN k) (bl (oN k)) (szN k) (lgN k)) 141)):=(Gr.refl _).alloc _;have hn:=Vr.new (WA.alloc (.cells (cu (k:Int) (pN k) (aN k) (bN k) (oN k) (xN k) (yN k) (bl (oN k)) (szN k) (lgN k)) 67)) (cu (k:Int) (pN k) (aN k) (bN k) (oN k) (xN k) (yN k) (bl (oN k)) (szN k) (lgN k)) 141;rw[show (WA.alloc (.cells (cu (k:Int) (pN k) (aN k) (bN k) (oN k) (xN k) (yN k) (bl (oN k)) (szN k) (lgN k)) 67)).heap.size=WA.heap.size+1 by simp]at hn;exact⟨((((Gr.refl w).alloc _).trans GA).trans g1).trans g2,(((Vr.new w _ _).gr GA).gr g1).gr g2,hn⟩
 have hne:w.heap.size<e6+1:=by have:=GA.below.size;simp at this;omega
 have hne2:¬(w.heap.size=e6+1):=by omega
 have hne3:¬(e6+1=w.heap.size):=by omega
 clear he6 GA HG;obtain⟨e8,he8⟩:=exl (e6+1);simp only[he8]at hne hne2 hne3 ⊢;clear he8;intro v0 HV
 go_loopw [23] (fun ia wr=>∃j:Nat,ia=.int .i64 (j:Int)∧Hu (j≤n)∧Hid (Gr w wr∧Vr wr (w.heap.size) (cu 0 0 0 0 0 0 0 0 0 false)∧Vr wr e8 (cu (k:Int) (pN k) (aN k) (bN k) (oN k) (xN k) (yN k) (bl (oN k)) (szN k) (lgN k)))) (fun ia _=>(((n:Int))-intOf ia).toNat)
 case atStart=>exact⟨0,rfl,fun _=>Nat.zero_le _,HV⟩
 case round=>
  clear HV;obtain⟨j,rfl,HJ,HV⟩:=hrel;obtain⟨G,c0,c6⟩:=HV.out
  have j0:(0:Int)≤(j:Int):=by omega
  have n4:(n:Int)≤2:=by have:=HN.out ();omega
  have⟨hh0,ff0,pp0⟩:=c0;have⟨hh6,ff6,pp6⟩:=c6;have⟨p01,p02,p03,p04,p05,p06⟩:=c0.pp
  by_cases hlt:j<n
  ·have hjn:j<n:=by exact hlt
   have ld0:=HL.out j hjn wr G;have HO2:Hid _:=HO.out j hlt
   go_wp2_with (go_at_call 121;refine(HO2.out _).mono ?_;rintro e w' ⟨rfl,g,rfl⟩)
   go_roundw
   case rel=>
    refine⟨j+1,by go_num,fun _=>hlt,?_,⟨by simp[go_sem, *],by simp[go_sem, *],by simp[go_sem, *]⟩,⟨by simp[go_sem, *],by simp[go_sem, *],by simp[go_sem, *]⟩⟩;exact grB
   case measure=>simp[intOf];omega
  ·skip
   go_wp2_with fail
   refine bodyPost_ret (res_two results82 (rd_jg (by rfl) ?_) (rd_tmp (by rfl))) rfl ⟨rfl,?_⟩
   ·simp[go_sem, *]
   ·exact grB
theorem jgf_nil{k:Nat}(h1:1≤k)(h2:k≤15)(w:World):
 Cg 82 #[.int .i64 (k:Int),.slice none 0 0] w (.tuple #[.agg (cu (k:Int) (pN k) (aN k) (bN k) (oN k) (xN k) (yN k) (bl (oN k)) (szN k) (lgN k)),.int .i64 0]):=by
 have HG:Hid (∀w,Cg 30 #[.int .i64 (k:Int)] w (.tuple #[.agg (cu (k:Int) (pN k) (aN k) (bN k) (oN k) (xN k) (yN k) (bl (oN k)) (szN k) (lgN k)),.int .i64 0])):=fun w=>get13_yes k h1 h2 w
 go_enter func82,ntmps82
 go_wp2_with (go_at_call 30;refine(HG.out _).mono ?_;rintro e WA ⟨rfl,GA⟩)
 obtain⟨e6,he6⟩:=exl (WA.heap.size);simp only[he6]
 refine gen_w (fun wr=>Hid (Gr w wr∧Vr wr (w.heap.size) (cu 0 0 0 0 0 0 0 0 0 false)∧Vr wr (e6+1) (cu (k:Int) (pN k) (aN k) (bN k) (oN k) (xN k) (yN k) (bl (oN k)) (szN k) (lgN k)))) ?_ ?_
 ·subst he6;have g1:Gr WA (WA.alloc (.cells (cu (k:Int) (pN k) (aN k) (bN k) (oN k) (xN k) (yN k) (bl (oN k)) (szN k) (lgN k)) 67)):=(Gr.refl _).alloc _;have g2:Gr (WA.alloc (.cells (cu (k:Int) (pN k) (aN k) (bN k) (oN k) (xN k) (yN k) (bl (oN k)) (szN k) (lgN k)) 67)) ((WA.alloc (.cells (cu (k:Int) (pN k) (aN k) (bN k) (oN k) (xN k) (yN k) (bl (oN k)) (szN k) (lgN k)) 67)).alloc (.cells (cu (k:Int) (pN k) (aN k) (bN k) (oN k) (xN k) (yN k) (bl (oN k)) (szN k) (lgN k)) 141)):=(Gr.refl _).alloc _;have hn:=Vr.new (WA.alloc (.cells (cu (k:Int) (pN k) (aN k) (bN k) (oN k) (xN k) (yN k) (bl (oN k)) (szN k) (lgN k)) 67)) (cu (k:Int) (pN k) (aN k) (bN k) (oN k) (xN k) (yN k) (bl (oN k)) (szN k) (lgN k)) 141;rw[show (WA.alloc (.cells (cu (k:Int) (pN k) (aN k) (bN k) (oN k) (xN k) (yN k) (bl (oN k)) (szN k) (lgN k)) 67)).heap.size=WA.heap.size+1 by simp]at hn;exact⟨((((Gr.refl w).alloc _).trans GA).trans g1).trans g2,(((Vr.new w _ _).gr GA).gr g1).gr g2,hn⟩
 have hne:w.heap.size<e6+1:=by have:=GA.below.size;simp at this;omega
 have hne2:¬(w.heap.size=e6+1):=by omega
 have hne3:¬(e6+1=w.heap.size):=by omega
 obtain⟨e8,he8⟩:=exl (e6+1);simp only[he8]at hne hne2 hne3 ⊢;intro v0 HV
 go_loopw [23] (fun ia wr=>∃j:Nat,ia=.int .i64 (j:Int)∧Hu (j≤0)∧Hid (Gr w wr∧Vr wr (w.heap.size) (cu 0 0 0 0 0 0 0 0 0 false)∧Vr wr e8 (cu (k:Int) (pN k) (aN k) (bN k) (oN k) (xN k) (yN k) (bl (oN k)) (szN k) (lgN k)))) (fun ia _=>((0)-intOf ia).toNat)
 case atStart=>exact⟨0,rfl,fun _=>Nat.zero_le _,HV⟩
 case round=>
  obtain⟨j,rfl,HJ,HV⟩:=hrel;obtain⟨G,c0,c6⟩:=HV.out;have⟨hh0,ff0,pp0⟩:=c0;have⟨hh6,ff6,pp6⟩:=c6
  by_cases hlt:j<0
  ·omega
  ·skip
   go_wp2_with fail
   refine bodyPost_ret (res_two results82 (rd_jg (by rfl) ?_) (rd_tmp (by rfl))) rfl ⟨rfl,?_⟩
   ·simp[go_sem, *]
   ·exact grB
end
section
attribute [local go_sem] uz8
attribute [local go_sem ↓] uz11 Go.wp_at_zero Go.wp_at_succ
attribute [local go_sem] uz12
theorem jto_yes{k:Nat}{T:T3}{R:Q3}(HG':∀w b,Vr w b (prj T.1 T.2.1 T.2.2)→Cg 82 #[.int .i64 (k:Int),.slice (some ⟨b,0,none⟩) 1 1] w (.tuple #[.agg (cu (k:Int) (pN k) (aN k) (bN k) (oN k) (xN k) (yN k) (bl (oN k)) (szN k) (lgN k)),.int .i64 0]))(HA':∀w,Cg 84 #[.agg (cu (k:Int) (pN k) (aN k) (bN k) (oN k) (xN k) (yN k) (bl (oN k)) (szN k) (lgN k)),.agg (prj T.1 T.2.1 T.2.2)] w (.agg (pnt R.1 R.2.1 R.2.2)))(w:World):
 Cg 58 #[.int .i64 (k:Int),.agg (prj T.1 T.2.1 T.2.2)] w (.tuple #[.agg (pnt R.1 R.2.1 R.2.2),.int .i64 0]):=by
 have HG:Hid _:=HG';have HA:Hid _:=HA';clear HG' HA'
 go_enter func58,ntmps58
 go_upto_region 1 with fail
 refine gen_w (fun v=>Hid (Gr w v∧Vr v (w.heap.size) (prj T.1 T.2.1 T.2.2)∧Vr v (w.heap.size+1) (pnt 0 0 false))) ⟨grA,vrA,vrA⟩ ?_;intro v0 HV;obtain⟨G,c0,c1⟩:=HV.out;clear HV;refine wp_v false [.c (.int .i64 (k:Int)),.c (.agg (prj T.1 T.2.1 T.2.2)),.r 1 (prj T.1 T.2.1 T.2.2),.c (.tuple #[.agg (cu (k:Int) (pN k) (aN k) (bN k) (oN k) (xN k) (yN k) (bl (oN k)) (szN k) (lgN k)),.int .i64 0]),.c (.tuple #[.agg (cu (k:Int) (pN k) (aN k) (bN k) (oN k) (xN k) (yN k) (bl (oN k)) (szN k) (lgN k)),.int .i64 0]),.c (.agg (cu (k:Int) (pN k) (aN k) (bN k) (oN k) (xN k) (yN k) (bl (oN k)) (szN k) (lgN k))),.O,.a,.u,.O] [1,2,3] [⟨7,8,141,cu 0 0 0 0 0 0 0 0 0 false,fun _=>cu (k:Int) (pN k) (aN k) (bN k) (oN k) (xN k) (yN k) (bl (oN k)) (szN k) (lgN k)⟩] ⟨.g 74 0 c0 rfl,.r (.buildSlice 164 1 #[(0,.const (.agg (prj T.1 T.2.1 T.2.2)))]) rfl (rowJ1 _ _ _),.k _ fun yy vv hg hh=>RtW.of_c (Rt.c (HG.out _ _ (hh 2 rfl))),⟨⟩⟩ ⟨.k zCu ⟨fkc,fkc,fkr (by simp[cu_size,prj_size]),fkc,fkc,fkc,fkc,fka,fku,fkc,trivial⟩,⟨⟩⟩ fun yw1 v1 hg h1 hV1=>?_;simp only[fzw,Kw.a,Kw.r];obtain⟨⟨N1_7,V1_7⟩,-⟩:=hV1;clear h1;replace G:=G.trans hg;replace c0:=c0.gr hg;replace c1:=c1.gr hg;clear hg
 go_upto_region 2 with fail
 refine wp_wS [.O,.F] [] ⟨⟩ fun yw2 v2 hg h2=>?_;simp only[fzw];clear h2;replace G:=G.trans hg;replace c0:=c0.gr hg;replace c1:=c1.gr hg;replace V1_7:=V1_7.gr hg;have hh0:=c0.al;have⟨hh1,ff1,pp1⟩:=c1;have⟨hh2,ff2,pp2⟩:=V1_7
 go_wp2_with (go_at_call 84;refine(HA.out _).mono ?_;rintro e w' ⟨rfl,g,rfl⟩)
 refine bodyPost_ret (res_two results58 (rd_pn (by rfl) ?_) (rd_tmp (by rfl))) rfl ⟨rfl,?_⟩
 ·simp[go_sem, *]
 ·exact grB
theorem jto_err(id er:Int)(hne:¬er=0){T:T3}(HG':∀w b,Vr w b (prj T.1 T.2.1 T.2.2)→Cg 82 #[.int .i64 id,.slice (some ⟨b,0,none⟩) 1 1] w (.tuple #[.agg (cu 0 0 0 0 0 0 0 0 0 false),.int .i64 er]))(w:World):
 Cg 58 #[.int .i64 id,.agg (prj T.1 T.2.1 T.2.2)] w (.tuple #[.agg (pnt 0 0 false),.int .i64 er]):=by
 have HG:Hid _:=HG';clear HG'
 go_enter func58,ntmps58
 go_upto_region 1 with fail
 refine gen_w (fun v=>Hid (Gr w v∧Vr v (w.heap.size) (prj T.1 T.2.1 T.2.2)∧Vr v (w.heap.size+1) (pnt 0 0 false))) ⟨grA,vrA,vrA⟩ ?_;intro v0 HV;obtain⟨G,c0,c1⟩:=HV.out;clear HV;refine wp_v false [.c (.int .i64 id),.c (.agg (prj T.1 T.2.1 T.2.2)),.r 1 (prj T.1 T.2.1 T.2.2),.c (.tuple #[.agg (cu 0 0 0 0 0 0 0 0 0 false),.int .i64 er]),.c (.tuple #[.agg (cu 0 0 0 0 0 0 0 0 0 false),.int .i64 er]),.c (.agg (cu 0 0 0 0 0 0 0 0 0 false)),.c (.int .i64 er),.a,.u,.c (.int .i64 er)] [1,2,3] [⟨7,8,141,cu 0 0 0 0 0 0 0 0 0 false,fun _=>cu 0 0 0 0 0 0 0 0 0 false⟩] ⟨.g 74 0 c0 rfl,.r (.buildSlice 164 1 #[(0,.const (.agg (prj T.1 T.2.1 T.2.2)))]) rfl (rowJ1 _ _ _),.k _ fun yy vv hg hh=>RtW.of_c (Rt.c (HG.out _ _ (hh 2 rfl))),⟨⟩⟩ ⟨.k zCu ⟨fkc,fkc,fkr (by simp[cu_size,prj_size]),fkc,fkc,fkc,fkc,fka,fku,fkc,trivial⟩,⟨⟩⟩ fun yw1 v1 hg h1 hV1=>?_;simp only[fzw,Kw.a,Kw.r];obtain⟨⟨N1_7,V1_7⟩,-⟩:=hV1;clear h1;replace G:=G.trans hg;replace c0:=c0.gr hg;replace c1:=c1.gr hg;clear hg
 go_upto_region 2 with fail
 refine wp_wS [.c (.int .i64 er),.T] [1] ⟨.s (.binOp .neq 34 (.const (.int .i64 er)) (.const (.int .i64 0)) 34) rfl fun vv hg=>by simp[go_sem,exI,hne],⟨⟩⟩ fun yw2 v2 hg h2=>?_;simp only[fzw];clear h2;replace G:=G.trans hg;replace c1:=c1.gr hg;have hh1:=c1.al
 go_wp2_with fail
 refine bodyPost_ret (res_two results58 (rd_pn (by rfl) ?_) (rd_tmp (by rfl))) rfl ⟨rfl,?_⟩
 ·simp[go_sem, *]
 ·exact grB
theorem jadd_yes{k:Nat}{S T:T3}{R:T3}(HG':∀w b,Vr w b (prj S.1 S.2.1 S.2.2++prj T.1 T.2.1 T.2.2)→Cg 82 #[.int .i64 (k:Int),.slice (some ⟨b,0,none⟩) 2 2] w (.tuple #[.agg (cu (k:Int) (pN k) (aN k) (bN k) (oN k) (xN k) (yN k) (bl (oN k)) (szN k) (lgN k)),.int .i64 0]))(HA':∀w,Cg 83 #[.agg (cu (k:Int) (pN k) (aN k) (bN k) (oN k) (xN k) (yN k) (bl (oN k)) (szN k) (lgN k)),.agg (prj S.1 S.2.1 S.2.2),.agg (prj T.1 T.2.1 T.2.2)] w (.agg (prj R.1 R.2.1 R.2.2)))(w:World):
 Cg 57 #[.int .i64 (k:Int),.agg (prj S.1 S.2.1 S.2.2),.agg (prj T.1 T.2.1 T.2.2)] w (.tuple #[.agg (prj R.1 R.2.1 R.2.2),.int .i64 0]):=by
 have HG:Hid _:=HG';have HA:Hid _:=HA';clear HG' HA'
 go_enter func57,ntmps57
 go_upto_region 1 with fail
 refine gen_w (fun v=>Hid (Gr w v∧Vr v (w.heap.size) (prj S.1 S.2.1 S.2.2)∧Vr v (w.heap.size+1) (prj T.1 T.2.1 T.2.2)∧Vr v (w.heap.size+1+1) (prj 0 0 0))) ⟨grA,vrA,vrA,vrA⟩ ?_;intro v0 HV;obtain⟨G,c0,c1,c2⟩:=HV.out;clear HV;refine wp_v false [.c (.int .i64 (k:Int)),.c (.agg (prj S.1 S.2.1 S.2.2)),.c (.agg (prj T.1 T.2.1 T.2.2)),.r 2 (prj S.1 S.2.1 S.2.2++prj T.1 T.2.1 T.2.2),.c (.tuple #[.agg (cu (k:Int) (pN k) (aN k) (bN k) (oN k) (xN k) (yN k) (bl (oN k)) (szN k) (lgN k)),.int .i64 0]),.c (.tuple #[.agg (cu (k:Int) (pN k) (aN k) (bN k) (oN k) (xN k) (yN k) (bl (oN k)) (szN k) (lgN k)),.int .i64 0]),.c (.agg (cu (k:Int) (pN k) (aN k) (bN k) (oN k) (xN k) (yN k) (bl (oN k)) (szN k) (lgN k))),.O,.a,.u,.O] [1,2,3,4] [⟨8,9,141,cu 0 0 0 0 0 0 0 0 0 false,fun _=>cu (k:Int) (pN k) (aN k) (bN k) (oN k) (xN k) (yN k) (bl (oN k)) (szN k) (lgN k)⟩] ⟨.g 74 0 c0 rfl,.g 74 0 c1 rfl,.r (.buildSlice 164 2 #[(0,.const (.agg (prj S.1 S.2.1 S.2.2))),(1,.const (.agg (prj T.1 T.2.1 T.2.2)))]) rfl (rowJ2 _ _ _ _ _ _),.k _ fun yy vv hg hh=>RtW.of_c (Rt.c (HG.out _ _ (hh 3 rfl))),⟨⟩⟩ ⟨.k zCu ⟨fkc,fkc,fkc,fkr (by simp[cu_size,prj_size]),fkc,fkc,fkc,fkc,fka,fku,fkc,trivial⟩,⟨⟩⟩ fun yw1 v1 hg h1 hV1=>?_;simp only[fzw,Kw.a,Kw.r];obtain⟨⟨N1_8,V1_8⟩,-⟩:=hV1;clear h1;replace G:=G.trans hg;replace c0:=c0.gr hg;replace c1:=c1.gr hg;replace c2:=c2.gr hg;clear hg
 go_upto_region 2 with fail
 refine wp_wS [.O,.F] [] ⟨⟩ fun yw2 v2 hg h2=>?_;simp only[fzw];clear h2;replace G:=G.trans hg;replace c0:=c0.gr hg;replace c1:=c1.gr hg;replace c2:=c2.gr hg;replace V1_8:=V1_8.gr hg;clear hg;have hh0:=c0.al;have⟨hh1,ff1,pp1⟩:=c1;have hh2:=c2.al;have⟨hh3,ff3,pp3⟩:=V1_8
 go_wp2_with (go_at_call 83;refine(HA.out _).mono ?_;rintro e w' ⟨rfl,g,rfl⟩)
 refine bodyPost_ret (res_two results57 (rd_pj (by rfl) ?_) (rd_tmp (by rfl))) rfl ⟨rfl,?_⟩
 ·simp[go_sem, *]
 ·exact grB
theorem jdouble_yes{k:Nat}{T:T3}{R:T3}(HG':∀w b,Vr w b (prj T.1 T.2.1 T.2.2)→Cg 82 #[.int .i64 (k:Int),.slice (some ⟨b,0,none⟩) 1 1] w (.tuple #[.agg (cu (k:Int) (pN k) (aN k) (bN k) (oN k) (xN k) (yN k) (bl (oN k)) (szN k) (lgN k)),.int .i64 0]))(HA':∀w,Cg 83 #[.agg (cu (k:Int) (pN k) (aN k) (bN k) (oN k) (xN k) (yN k) (bl (oN k)) (szN k) (lgN k)),.agg (prj T.1 T.2.1 T.2.2),.agg (prj T.1 T.2.1 T.2.2)] w (.agg (prj R.1 R.2.1 R.2.2)))(w:World):
 Cg 56 #[.int .i64 (k:Int),.agg (prj T.1 T.2.1 T.2.2)] w (.tuple #[.agg (prj R.1 R.2.1 R.2.2),.int .i64 0]):=by
 have HG:Hid _:=HG';have HA:Hid _:=HA';clear HG' HA'
 go_enter func56,ntmps56
 go_upto_region 1 with fail
 refine gen_w (fun v=>Hid (Gr w v∧Vr v (w.heap.size) (prj T.1 T.2.1 T.2.2)∧Vr v (w.heap.size+1) (prj 0 0 0))) ⟨grA,vrA,vrA⟩ ?_;intro v0 HV;obtain⟨G,c0,c1⟩:=HV.out;clear HV;refine wp_v false [.c (.int .i64 (k:Int)),.c (.agg (prj T.1 T.2.1 T.2.2)),.r 1 (prj T.1 T.2.1 T.2.2),.c (.tuple #[.agg (cu (k:Int) (pN k) (aN k) (bN k) (oN k) (xN k) (yN k) (bl (oN k)) (szN k) (lgN k)),.int .i64 0]),.c (.tuple #[.agg (cu (k:Int) (pN k) (aN k) (bN k) (oN k) (xN k) (yN k) (bl (oN k)) (szN k) (lgN k)),.int .i64 0]),.c (.agg (cu (k:Int) (pN k) (aN k) (bN k) (oN k) (xN k) (yN k) (bl (oN k)) (szN k) (lgN k))),.O,.a,.u,.O] [1,2,3] [⟨7,8,141,cu 0 0 0 0 0 0 0 0 0 false,fun _=>cu (k:Int) (pN k) (aN k) (bN k) (oN k) (xN k) (yN k) (bl (oN k)) (szN k) (lgN k)⟩] ⟨.g 74 0 c0 rfl,.r (.buildSlice 164 1 #[(0,.const (.agg (prj T.1 T.2.1 T.2.2)))]) rfl (rowJ1 _ _ _),.k _ fun yy vv hg hh=>RtW.of_c (Rt.c (HG.out _ _ (hh 2 rfl))),⟨⟩⟩ ⟨.k zCu ⟨fkc,fkc,fkr (by simp[cu_size,prj_size]),fkc,fkc,fkc,fkc,fka,fku,fkc,trivial⟩,⟨⟩⟩ fun yw1 v1 hg h1 hV1=>?_;simp only[fzw,Kw.a,Kw.r];obtain⟨⟨N1_7,V1_7⟩,-⟩:=hV1;clear h1;replace G:=G.trans hg;replace c0:=c0.gr hg;replace c1:=c1.gr hg;clear hg
 go_upto_region 2 with fail
 refine wp_wS [.O,.F] [] ⟨⟩ fun yw2 v2 hg h2=>?_;simp only[fzw];clear h2;replace G:=G.trans hg;replace c0:=c0.gr hg;replace c1:=c1.gr hg;replace V1_7:=V1_7.gr hg;have hh0:=c0.al;have⟨hh1,ff1,pp1⟩:=c1;have⟨hh2,ff2,pp2⟩:=V1_7
 go_wp2_with (go_at_call 83;refine(HA.out _).mono ?_;rintro e w' ⟨rfl,g,rfl⟩)
 refine bodyPost_ret (res_two results56 (rd_pj (by rfl) ?_) (rd_tmp (by rfl))) rfl ⟨rfl,?_⟩
 ·simp[go_sem, *]
 ·exact grB
theorem jfrom_yes{k:Nat}{P:Q3}{R:T3}(HG':∀w,Cg 82 #[.int .i64 (k:Int),.slice none 0 0] w (.tuple #[.agg (cu (k:Int) (pN k) (aN k) (bN k) (oN k) (xN k) (yN k) (bl (oN k)) (szN k) (lgN k)),.int .i64 0]))(HO':∀w,Cg 31 #[.int .i64 (k:Int),.agg (pnt P.1 P.2.1 P.2.2)] w (.bool true))(HA':∀w,Cg 85 #[.agg (pnt P.1 P.2.1 P.2.2)] w (.agg (prj R.1 R.2.1 R.2.2)))(w:World):
 Cg 59 #[.int .i64 (k:Int),.agg (pnt P.1 P.2.1 P.2.2)] w (.tuple #[.agg (prj R.1 R.2.1 R.2.2),.int .i64 0]):=by
 have HG:Hid _:=HG';have HO:Hid _:=HO';have HA:Hid _:=HA';clear HG' HO' HA'
 go_enter func59,ntmps59
 go_upto_region 1 with fail
 refine gen_w (fun v=>Hid (Gr w v∧Vr v (w.heap.size) (pnt P.1 P.2.1 P.2.2)∧Vr v (w.heap.size+1) (prj 0 0 0))) ⟨grA,vrA,vrA⟩ ?_;intro v0 HV;obtain⟨G,c0,c1⟩:=HV.out;clear HV;refine wp_v false [.c (.int .i64 (k:Int)),.c (.tuple #[.agg (cu (k:Int) (pN k) (aN k) (bN k) (oN k) (xN k) (yN k) (bl (oN k)) (szN k) (lgN k)),.int .i64 0]),.c (.tuple #[.agg (cu (k:Int) (pN k) (aN k) (bN k) (oN k) (xN k) (yN k) (bl (oN k)) (szN k) (lgN k)),.int .i64 0]),.c (.agg (cu (k:Int) (pN k) (aN k) (bN k) (oN k) (xN k) (yN k) (bl (oN k)) (szN k) (lgN k))),.O,.a,.u,.O] [1] [⟨5,6,141,cu 0 0 0 0 0 0 0 0 0 false,fun _=>cu (k:Int) (pN k) (aN k) (bN k) (oN k) (xN k) (yN k) (bl (oN k)) (szN k) (lgN k)⟩] ⟨.z HG.out,⟨⟩⟩ ⟨.k zCu (.t rfl),⟨⟩⟩ fun yw1 v1 hg h1 hV1=>?_;simp only[fzw,Kw.a];obtain⟨⟨N1_5,V1_5⟩,-⟩:(v0.heap.size≤(yw1 5 0).2∧Vr v1 (yw1 5 0).2 (cu (k:Int) (pN k) (aN k) (bN k) (oN k) (xN k) (yN k) (bl (oN k)) (szN k) (lgN k)))∧True:=hV1;clear h1;replace G:=G.trans hg;replace c0:=c0.gr hg;replace c1:=c1.gr hg;clear hg
 go_upto_region 2 with fail
 refine wp_wS [.O,.F] [] ⟨⟩ fun yw2 v2 hg h2=>?_;simp only[fzw];clear h2;replace G:=G.trans hg;replace c0:=c0.gr hg;replace c1:=c1.gr hg;replace V1_5:=V1_5.gr hg;clear hg;have hh0:=c0.al;have hh1:=c1.al;have hh2:=V1_5.al;clear c0 c1 V1_5
 go_wp2_with (first|(go_at_call 31;refine(HO.out _).mono ?_;rintro e w' ⟨rfl,g,rfl⟩)|(go_at_call 85;refine(HA.out _).mono ?_;rintro e w' ⟨rfl,g2,rfl⟩))
 refine bodyPost_ret (res_two results59 (rd_pj (by rfl) ?_) (rd_tmp (by rfl))) rfl ⟨rfl,?_⟩
 ·simp[go_sem, *]
 ·exact grB
end
end
section
theorem eqF0{k:Nat}(h1:1≤k)(h2:k≤15)[NeZero (pN k)](a:Fin (pN k)):eqN 9 a.val 0=decide (a=0):=by
 rw[eqN9 _ _ (Nat.lt_trans a.isLt (pN_M k)) (Nat.lt_trans (Nat.lt_of_lt_of_le (by decide) (prm_pN k h1 h2).1) (pN_M k))];exact decide_eq_decide.2 ⟨fun e=>Fin.ext (e.trans (Fin.val_zero _).symm),fun e=>by rw[e];exact Fin.val_zero _⟩
theorem belowT{k:Nat}{N X Y:Nat}{s z:Int}{l:Bool}{A B X1 Y1 Z1:Fin (pN k)}(w:World)(q:Nat)(hv:Vr w q (nw 9 X1.val++nw 9 Y1.val++nw 9 Z1.val)):
 Cg 145 #[.agg (cu (k:Int) (pN k) A.val B.val N X Y s z l),.slice (some ⟨q,0,none⟩) 3 3] w (.bool true):=
 jbelow_yes (k:Int) (pN k) A.val B.val N X Y s z l (pN_M k) 3 (by decide) (fun i=>match i with|0=>X1.val|1=>Y1.val|_=>Z1.val)
  (fun i _=>match i with|0=>Nat.lt_trans X1.isLt (pN_M k)|1=>Nat.lt_trans Y1.isLt (pN_M k)|_+2=>Nat.lt_trans Z1.isLt (pN_M k)) _
  (fun i hi=>by
   obtain rfl|rfl|rfl:i=0∨i=1∨i=2:=by omega
   ·kernel_rfl
   ·kernel_rfl
   ·kernel_rfl) (by simp[nw_size]) (fun i _=>match i with|0=>X1.isLt|1=>Y1.isLt|_+2=>Z1.isLt) q 3 w hv
theorem holdsT{k:Nat}(h1:1≤k)(h2:k≤15){T:T3}{Q:Q3}(h:TrQ k T Q)(w:World):
 Cg 121 #[.agg (cuN k),.agg (pjT T)] w (.bool true):=by
 haveI:=EC.nzP k h1 h2
 have h':=h;obtain⟨-,X,Y,Z,rfl,-⟩:=h';obtain⟨t1,t2⟩:=tr_tri h1 h2 h
 have e:Y*Y*Z=X*X*X+EC.aF k h1 h2*X*Z*Z+EC.bF k h1 h2*Z*Z*Z:=by rw[t2];clear t2 h;grobner
 exact jholds_2 (A:=EC.aF k h1 h2) (B:=EC.bF k h1 h2) _ _ true (by
  rw[eqF0 h1 h2,eqF0 h1 h2,eqF0 h1 h2];simp only[Bool.and_eq_false_iff,decide_eq_false_iff_not]
  by_cases hx:X=0
  ·by_cases hy:Y=0
   ·exact .inr (.inr fun hz=>t1 ⟨hx,hy,hz⟩)
   ·exact .inr (.inl hy)
  ·exact .inl hx) (fun w q hv=>belowT w q hv) (fun w=>jleft h1 h2 rfl w) (fun w=>jright h1 h2 rfl rfl rfl rfl w) (by rw[e];exact eqN_self _ _) w
theorem rowT1{T:T3}(i:Nat)(hi:i<1):(pjT T).extract (i*27) (i*27+27)=pjT ((fun _=>T:Nat→T3) i):=by
 obtain rfl:i=0:=by omega
 kernel_rfl
theorem rowT2{S T:T3}(i:Nat)(hi:i<2):(pjT S++pjT T).extract (i*27) (i*27+27)=pjT ((fun i=>match i with|0=>S|_=>T:Nat→T3) i):=by
 obtain rfl|rfl:i=0∨i=1:=by omega
 ·kernel_rfl
 ·kernel_rfl
theorem jgf1{k:Nat}(h1:1≤k)(h2:k≤15){T:T3}{Q:Q3}(hT:TrQ k T Q)(w:World)(b:Nat)(hv:Vr w b (pjT T)):Cg 82 #[.int .i64 (k:Int),.slice (some ⟨b,0,none⟩) 1 1] w (.tuple #[.agg (cuN k),.int .i64 0]):=
 jgf_yes h1 h2 1 (by decide) (fun _=>T) _ rowT1 (by simp[prj_size]) (fun _ _ w=>holdsT h1 h2 hT w) b 1 w hv
theorem jgf2{k:Nat}(h1:1≤k)(h2:k≤15){S T:T3}{P Q:Q3}(hS:TrQ k S P)(hT:TrQ k T Q)(w:World)(b:Nat)(hv:Vr w b (pjT S++pjT T)):Cg 82 #[.int .i64 (k:Int),.slice (some ⟨b,0,none⟩) 2 2] w (.tuple #[.agg (cuN k),.int .i64 0]):=
 jgf_yes h1 h2 2 (by decide) (fun i=>match i with|0=>S|_=>T) _ rowT2 (by simp[prj_size]) (fun i _ w=>match i with|0=>holdsT h1 h2 hS w|_+1=>holdsT h1 h2 hT w) b 2 w hv
theorem pointQ{k:Nat}(h1:1≤k)(h2:k≤15){T:T3}{Q:Q3}(hT:TrQ k T Q)(w:World):Cg 84 #[.agg (cuN k),.agg (pjT T)] w (.agg (pnQ Q)):=by
 haveI:=EC.nzP k h1 h2
 have e:=hT.pt h1 h2;obtain⟨-,X,Y,Z,rfl,-⟩:=hT;rw[ptT_is]at e
 by_cases hz:Z=0
 ·rw[if_pos hz]at e;subst e hz;have h:=jpt_inf (k:=k) (A:=EC.aF k h1 h2) (B:=EC.bF k h1 h2) (N:=oN k) (X:=xN k) (Y:=yN k) (s:=bl (oN k)) (z:=szN k) (l:=lgN k) X.val Y.val w;rw[←Fin.val_zero (pN k)]at h;exact h
 ·rw[if_neg hz]at e;subst e;exact jpt_fin h1 h2 (A:=EC.aF k h1 h2) (B:=EC.bF k h1 h2) (by rw[eqF0 h1 h2];exact decide_eq_false hz) (fun w=>finvF h1 h2 Z hz w) rfl rfl w
theorem gaddT{k:Nat}(h1:1≤k)(h2:k≤15){S T R:T3}{P Q:Q3}(hS:TrQ k S P)(hT:TrQ k T Q)(hR:addT k S T=R)(w:World):Cg 83 #[.agg (cuN k),.agg (pjT S),.agg (pjT T)] w (.agg (pjT R)):=by
 haveI:=EC.nzP k h1 h2
 subst hR;obtain⟨-,X1,Y1,Z1,rfl,-⟩:=hS;obtain⟨-,X2,Y2,Z2,rfl,-⟩:=hT;rw[addT_is h1 h2]
 exact jadd_of h1 h2 (A:=EC.aF k h1 h2) (B:=EC.bF k h1 h2)
  rfl rfl rfl rfl rfl rfl rfl rfl rfl rfl rfl rfl rfl rfl rfl rfl rfl rfl rfl rfl rfl rfl rfl rfl rfl rfl (by unfold EC.pX;grobner) rfl rfl (by unfold EC.pY;grobner) rfl rfl (by unfold EC.pZ;grobner) w
def frT(P:Q3):T3:=cond P.2.2 (0,1,0) (P.1,P.2.1,1)
theorem frT_tr{k:Nat}(h1:1≤k)(h2:k≤15){P:Q3}(hP:OnQ k P):TrQ k (frT P) P:=by
 rcases hP.cases with rfl|⟨x,y,rfl,-⟩
 ·exact inf_tr h1 h2 (prm_pN k h1 h2).1 (by decide)
 ·exact one_tr h1 h2 hP
theorem triQ(P:Q3)(w:World):Cg 85 #[.agg (pnQ P)] w (.agg (pjT (frT P))):=by
 obtain⟨x,y,f⟩:=P
 cases f with
 | true=>exact jtri_inf x y w
 | false=>exact jtri_fin x y w
theorem fromQ{k:Nat}(h1:1≤k)(h2:k≤15){P:Q3}{T:T3}(hP:OnQ k P)(hT:frT P=T)(w:World):Cg 59 #[.int .i64 (k:Int),.agg (pnQ P)] w (.tuple #[.agg (pjT T),.int .i64 0]):=by
 subst hT;exact jfrom_yes (fun w=>jgf_nil h1 h2 w) (fun w=>(show onB k P.1 P.2.1 P.2.2=true from hP)▸on13_yes k h1 h2 _ _ P.2.2 hP.lt.1 hP.lt.2 w) (triQ P) w
theorem toQ{k:Nat}(h1:1≤k)(h2:k≤15){T:T3}{Q:Q3}(hT:TrQ k T Q)(w:World):Cg 58 #[.int .i64 (k:Int),.agg (pjT T)] w (.tuple #[.agg (pnQ Q),.int .i64 0]):=
 jto_yes (jgf1 h1 h2 hT) (pointQ h1 h2 hT) w
theorem jaddQ{k:Nat}(h1:1≤k)(h2:k≤15){S T R:T3}{P Q:Q3}(hS:TrQ k S P)(hT:TrQ k T Q)(hR:addT k S T=R)(w:World):Cg 57 #[.int .i64 (k:Int),.agg (pjT S),.agg (pjT T)] w (.tuple #[.agg (pjT R),.int .i64 0]):=
 jadd_yes (jgf2 h1 h2 hS hT) (gaddT h1 h2 hS hT hR) w
theorem jdblQ{k:Nat}(h1:1≤k)(h2:k≤15){T R:T3}{Q:Q3}(hT:TrQ k T Q)(hR:addT k T T=R)(w:World):Cg 56 #[.int .i64 (k:Int),.agg (pjT T)] w (.tuple #[.agg (pjT R),.int .i64 0]):=
 jdouble_yes (jgf1 h1 h2 hT) (gaddT h1 h2 hT hT hR) w
end
section
def twQ(k:Nat)(Q:Q3)(a b:Nat):Q3:=plQ k (mlQ k a (gQ k)) (mlQ k b Q)
theorem twQ_add{k:Nat}(h1:1≤k)(h2:k≤15){Q:Q3}(oQ:OnQ k Q)(a b c d:Nat):plQ k (twQ k Q a b) (twQ k Q c d)=twQ k Q (a+c) (b+d):=by
 have oA:=mlQ_on h1 h2 a (gQ_on h1 h2);have oB:=mlQ_on h1 h2 b oQ;have oC:=mlQ_on h1 h2 c (gQ_on h1 h2);have oD:=mlQ_on h1 h2 d oQ;unfold twQ;rw[mlQ_add h1 h2 a c (gQ_on h1 h2),mlQ_add h1 h2 b d oQ,plQ_assoc h1 h2 oA oB (plQ_on h1 h2 oC oD),←plQ_assoc h1 h2 oB oC oD,plQ_comm h1 h2 oB oC,plQ_assoc h1 h2 oC oB oD,←plQ_assoc h1 h2 oA oC (plQ_on h1 h2 oB oD)]
theorem twQ_Q{k:Nat}(h1:1≤k)(h2:k≤15){Q:Q3}(oQ:OnQ k Q):twQ k Q 0 1=Q:=by
 unfold twQ;rw[mlQ_zero h1 h2,mlQ_one h1 h2 oQ,inf_plQ h1 h2 oQ]
theorem twQ_G{k:Nat}(h1:1≤k)(h2:k≤15)(Q:Q3):twQ k Q 1 0=gQ k:=by
 unfold twQ;rw[mlQ_zero h1 h2,mlQ_one h1 h2 (gQ_on h1 h2),plQ_inf h1 h2 (gQ_on h1 h2)]
theorem twQ_0{k:Nat}(h1:1≤k)(h2:k≤15)(Q:Q3):twQ k Q 0 0=inf:=by
 unfold twQ;rw[mlQ_zero h1 h2,mlQ_zero h1 h2,plQ_inf h1 h2 (inf_on k)]
def rwT(k:Nat):Nat→T3
 | 0=>(0,1,0)
 | a+1=>addT k (rwT k a) (frT (gQ k))
def clT(k:Nat)(Q:Q3)(a:Nat):Nat→T3
 | 0=>rwT k a
 | b+1=>addT k (clT k Q a b) (frT Q)
def tbT(k:Nat)(Q:Q3)(i:Nat):T3:=clT k Q (i/4) (i%4)
theorem tbT_tr{k:Nat}(h1:1≤k)(h2:k≤15){Q:Q3}(oQ:OnQ k Q)(i:Nat):TrQ k (tbT k Q i) (twQ k Q (i/4) (i%4)):=by
 have hr:∀a,TrQ k (rwT k a) (twQ k Q a 0):=fun a=>by
  induction a with
  | zero=>rw[twQ_0 h1 h2];exact frT_tr h1 h2 (inf_on k)
  | succ a ih=>
   have h:=addT_tr h1 h2 ih (frT_tr h1 h2 (gQ_on h1 h2))
   rwa [show plQ k (twQ k Q a 0) (gQ k)=twQ k Q (a+1) 0 from(congrArg _ (twQ_G h1 h2 Q).symm).trans (twQ_add h1 h2 oQ a 0 1 0)]at h
 have hc:∀a b,TrQ k (clT k Q a b) (twQ k Q a b):=fun a b=>by
  induction b with
  | zero=>exact hr a
  | succ b ih=>
   have h:=addT_tr h1 h2 ih (frT_tr h1 h2 oQ)
   rwa [show plQ k (twQ k Q a b) Q=twQ k Q a (b+1) from(congrArg _ (twQ_Q h1 h2 oQ).symm).trans (twQ_add h1 h2 oQ a b 0 1)]at h
 exact hc _ _
theorem tbT_row(k:Nat)(Q:Q3){n m:Nat}(h:n%4=0)(hm:m+4=n):addT k (tbT k Q m) (frT (gQ k))=tbT k Q n:=by
 unfold tbT;rw[show n/4=m/4+1 by omega,h,show m%4=0 by omega]
 rfl
theorem tbT_col(k:Nat)(Q:Q3){n m:Nat}(h:n%4≠0)(hm:m+1=n):addT k (tbT k Q m) (frT Q)=tbT k Q n:=by
 unfold tbT;rw[show n/4=m/4 by omega,show n%4=m%4+1 by omega]
 rfl
def pjs(f:Nat→T3):Nat→Array Value
 | 0 =>#[]
 | n+1=>pjs f n++pjT (f n)
theorem pjs_size(f:Nat→T3):∀n,(pjs f n).size=27*n
 | 0=>rfl
 | n+1=>by rw[pjs,Array.size_append,pjs_size f n,prj_size];omega
theorem pjs_one(f:Nat→T3):∀n,(pjs f n).all (·.oneCell')=true
 | 0=>by simp[pjs]
 | n+1=>by rw[pjs];exact all_app _ _ (pjs_one f n) (prj_one _ _ _)
theorem pjs_at(f:Nat→T3):∀n j,j<27*n→(pjs f n)[j]? = (pjT (f (j/27)))[j%27]?
 | n+1,j,h=>by
  rw[pjs,Array.getElem?_append,pjs_size]
  by_cases hj:j<27*n
  ·rw[if_pos hj,pjs_at f n j hj]
  ·rw[if_neg hj,show j/27=n by omega,show j%27=j-27*n by omega]
theorem pjs_get(f:Nat→T3){n i:Nat}(h:i<n):(pjs f n).extract (i*27) (i*27+27)=pjT (f i):=by
 apply Array.ext_getElem?
 intro j;rw[Array.getElem?_extract,pjs_size]
 by_cases hj:j<27
 ·rw[if_pos (by omega),pjs_at f n _ (by omega),show (i*27+j)/27=i by omega,show (i*27+j)%27=j by omega]
 ·rw[if_neg (by omega),Array.getElem?_eq_none (by rw[prj_size];omega)]
theorem pjs_set(f:Nat→T3)(n i:Nat)(T:T3):setL (pjs f n) (i*27) (pjT T).toList=pjs (fun j=>if j=i then T else f j) n:=by
 apply Array.ext_getElem?
 intro j;rw[setL_get,Array.length_toList,prj_size,pjs_size]
 by_cases hj:j<27*n
 ·rw[pjs_at _ n j hj,pjs_at _ n j hj]
  by_cases hi:j/27=i
  ·rw[if_pos (by omega),if_pos hi,Array.getElem?_toList,show j-i*27=j%27 by omega]
  ·rw[if_neg (by omega),if_neg hi]
 ·rw[if_neg (by omega),Array.getElem?_eq_none (by rw[pjs_size];omega),Array.getElem?_eq_none (by rw[pjs_size];omega)]
theorem pjs_congr{f g:Nat→T3}:∀{n:Nat},(∀i,i<n→f i=g i)→pjs f n=pjs g n
 | 0,_=>rfl
 | n+1,h=>by rw[pjs,pjs,pjs_congr fun i hi=>h i (by omega),h n (by omega)]
theorem store_mid{P:Program}{ty:TypeId}(n:Nat)(hi:(P.info? ty).map (·.size)=some n)(w:World)(b o:Nat)(d:Array Value)(hd:d.size=n)(h1:d.all (·.oneCell')=true)(hs:o+n≤(blk w b).size)(h0:0<(blk w b).size)(hf:frz w b=(0,0)):
 (storeS ty (.pointer (some ⟨b,o,none⟩)) (.agg d)).run P w=.ok () (setBlk w b (setL (blk w b) o d.toList)):=by
 have ht:w.there b o d.size:=fun j hj=>by
  refine⟨by rw[cell_blk,Array.getElem?_eq_getElem (by omega)];rfl,?_⟩;unfold frz at hf;unfold World.frozen?
  split <;> simp_all
 simp only[storeS,Instr.storeAt,Instr.sureAddr,Sem.run_bind,Sem.run_pure,Result.andThen_ok];rw[run_storeVar_mid w b o ty d ht (by rw[hi,hd]) h1,setCells_setBlk _ _ _ _ h0]
end
section
def ent(x y z:Nat):Array Value:=nw 9 x++nw 9 y ++ #[.int .u64 (z:Int)]
def bw(f:Bool):Nat:=if f then 1 else 0
abbrev enQ(Q:Q3):Array Value:=ent Q.1 Q.2.1 (bw Q.2.2)
section
variable (x y z:Nat)
theorem ent_size:(ent x y z).size=19:=by kernel_rfl
theorem ent_X:(ent x y z).extract 0 9=nw 9 x:=by kernel_rfl
theorem ent_Y:(ent x y z).extract 9 18=nw 9 y:=by kernel_rfl
theorem ent_18:(ent x y z)[18]? = some (.int .u64 (z:Int)):=by kernel_rfl
theorem ent_set18:(ent x y z).setIfInBounds 18 (.int .u64 1)=ent x y 1:=by kernel_rfl
theorem ent_one:(ent x y z).all (·.oneCell')=true:=all_app _ _ (all_app _ _ (nw_one _ _) (nw_one _ _)) (by simp[Value.oneCell'])
end
theorem loadEn_is:LdI 175:=fun _=>rfl
theorem storeEn_is:StI 175:=fun _ _=>rfl
theorem zvEn_is:zeroValue 175=zvS 175:=rfl
theorem buildEn_is(p:Array (Nat×Value)):Instr.build 175 p=buildF 175 p:=rfl
theorem zvEn(w:World):(zvS 175).run prog w=.ok (.agg (ent 0 0 0)) w:=by kernel_rfl
theorem buildEn2(x y:Nat)(w:World):(buildF 175 #[(0,.agg (nw 9 x)),(1,.agg (nw 9 y))]).run prog w=.ok (.agg (ent x y 0)) w:=by kernel_rfl
theorem buildEn3(x y z:Nat)(w:World):(buildF 175 #[(0,.agg (nw 9 x)),(1,.agg (nw 9 y)),(2,.int .u64 (z:Int))]).run prog w=.ok (.agg (ent x y z)) w:=by kernel_rfl
theorem loadEn:LdS 175 19:=ldS
theorem loadPartE(w:World)(b o:Nat)(h:o+19≤(blk w b).size):(loadS 175 (.pointer (some ⟨b,o,none⟩))).run prog w=.ok (.agg ((blk w b).extract o (o+19))) w:=by
 have:=run_loadVar_mid w b o 175 ((blk w b).extract o (o+19)).toList _ (part_range w b o 19) underlying175 rfl (by
  have hi:(prog.info? 175).map (·.size)=some 19:=by kernel_rfl
  rw[hi];simp
  omega)
 simp only[loadS,Instr.loadAt,Instr.sureAddr,Sem.run_bind,Sem.run_pure,Result.andThen_ok];rw[Array.toArray_toList]at this;exact this
theorem storeEn(x y z:Nat):StS 175 19 (ent x y z):=stS (ent_size x y z) (ent_one x y z)
theorem rd_en{x y z:Nat}:RdC 175 (ent x y z):=rdC 19 (ent_size x y z)
theorem Vr.kp{S:Nat→Prop}{v v':World}{b:Nat}{c:Array Value}(h:Vr v b c)(k:Kp S v v')(hn:¬S b):Vr v' b c:=by
 have hb:=k.block b h.p hn;exact⟨by rw[blk_of _ _ _ hb];exact h.h,by rw[frz_of _ _ _ hb];exact h.f,Nat.le_trans h.p k.size⟩
abbrev trp(t:Option Nat):Value:=.pointer (t.map fun b=>⟨b,0,none⟩)
def Lk(w:World)(t:Option Nat)(v:Value)(xs:List (Int×Int)):Prop:=∀b,t=some b→Tr w b v xs
def Ow(t:Option Nat)(v:Value)(b:Nat):Prop:=∃a,t=some a∧Own a v b
structure RecL(n:Nat)(w w':World)(t:Option Nat)(v v':Value)(xs:List (Int×Int)):Prop where
 lk:Lk w' t v' xs
 kp:Kp (Ow t v) w w'
 at':∀b,Ow t v' b→Ow t v b∨n≤b
theorem Lk.none(w:World)(v:Value)(xs:List (Int×Int)):Lk w none v xs:=fun _ h=>by cases h
theorem Ow.none{v:Value}{b:Nat}:¬Ow none v b:=fun⟨_,h,_⟩=>by cases h
theorem Lk.own{w:World}{t:Option Nat}{v:Value}{xs:List (Int×Int)}(h:Lk w t v xs){b:Nat}(hb:Ow t v b):b<w.heap.size:=by
 obtain⟨a,e,ho⟩:=hb;exact((h a e).own b ho).2
theorem Lk.kept{S:Nat→Prop}{w w':World}{t:Option Nat}{v:Value}{xs:List (Int×Int)}(h:Lk w t v xs)(k:Kp S w w')(hn:∀b,Ow t v b→¬S b):Lk w' t v xs:=
 fun b e=>(h b e).kept k fun c hc=>hn c ⟨b,e,hc⟩
theorem Lk.gr{w w':World}{t:Option Nat}{v:Value}{xs:List (Int×Int)}(h:Lk w t v xs)(g:Gr w w'):Lk w' t v xs:=h.kept (Kp.gr g fun _=>False) fun _ _ h=>h
theorem RecL.refl{w:World}{t:Option Nat}{v:Value}{xs:List (Int×Int)}(h:Lk w t v xs)(n:Nat):RecL n w w t v v xs:=⟨h,Kp.refl _ _,fun _ hb=>Or.inl hb⟩
theorem RecL.trans{n m:Nat}{w w1 w2:World}{t:Option Nat}{v v1 v2:Value}{xs ys:List (Int×Int)}(h:RecL n w w1 t v v1 xs)(k:RecL m w1 w2 t v1 v2 ys)(hn:w.heap.size≤n)(hm:n≤m):RecL n w w2 t v v2 ys:=by
 refine⟨k.lk,⟨k.kp.os.trans h.kp.os,k.kp.tape.trans h.kp.tape,k.kp.output.trans h.kp.output,Nat.le_trans h.kp.size k.kp.size,fun i hi hn'=>?_⟩,fun b hb=>?_⟩
 ·refine(k.kp.block i (Nat.lt_of_lt_of_le hi h.kp.size) fun ho=>?_).trans (h.kp.block i hi hn')
  rcases h.at' i ho with h1|h1
  ·exact hn' h1
  ·omega
 ·rcases k.at' b hb with h1|h1
  ·exact h.at' b h1
  ·exact Or.inr (by omega)
theorem RecL.gr{n:Nat}{w w1 w2:World}{t:Option Nat}{v v1:Value}{xs:List (Int×Int)}(h:RecL n w w1 t v v1 xs)(g:Gr w1 w2):RecL n w w2 t v v1 xs:=⟨h.lk.gr g,h.kp.trans (Kp.gr g _),h.at'⟩
theorem RecL.pre{n:Nat}{u w w1:World}{t:Option Nat}{v v1:Value}{xs:List (Int×Int)}(g:Gr u w)(h:RecL n w w1 t v v1 xs):RecL n u w1 t v v1 xs:=⟨h.lk,(Kp.gr g _).trans h.kp,h.at'⟩
theorem RecL.le{n m:Nat}{w w1:World}{t:Option Nat}{v v1:Value}{xs:List (Int×Int)}(h:RecL n w w1 t v v1 xs)(hm:m≤n):RecL m w w1 t v v1 xs:=⟨h.lk,h.kp,fun b hb=>(h.at' b hb).imp id fun h=>Nat.le_trans hm h⟩
theorem RecL.set{n:Nat}{w w1:World}{t:Option Nat}{v v1:Value}{xs:List (Int×Int)}(h:RecL n w w1 t v v1 xs)(b:Nat)(d:Array Value)(hb:w.heap.size≤b)(ho:¬Ow t v1 b):RecL n w (setBlk w1 b d) t v v1 xs:=by
 have k1:Kp (fun k=>k=b) w1 (setBlk w1 b d):=(Kp.refl _ _).setBlk b d (Or.inl rfl);exact⟨h.lk.kept k1 fun c hc e=>ho (e▸hc),h.kp.setBlk b d (Or.inr hb),h.at'⟩
theorem RecL.no{n:Nat}{w w1:World}{t:Option Nat}{v v1:Value}{xs:List (Int×Int)}(h:RecL n w w1 t v v1 xs){b:Nat}(hb:¬Ow t v b)(hn:b<n):¬Ow t v1 b:=fun ho=>(h.at' b ho).elim hb fun h=>by omega
theorem Rec.l{w w':World}{t:Nat}{v v':Value}{xs:List (Int×Int)}(h:Rec w w' t v v' xs):RecL w.heap.size w w' (some t) v v' xs:=by
 refine⟨fun b e=>by cases e;exact h.tr,h.kp.mono fun b _ hb=>⟨t,rfl,hb⟩,fun b hb=>?_⟩;obtain⟨a,e,ho⟩:=hb
 cases e
 rcases ho with rfl|ho
 ·exact Or.inl ⟨_,rfl,Or.inl rfl⟩
 ·rcases h.at' with e|⟨g,e,hg⟩
  ·exact Or.inl ⟨_,rfl,Or.inr (e▸ho)⟩
  ·rw[e]at ho;cases ho;exact Or.inr hg
theorem look_any(w:World)(t:Option Nat)(v:Value)(xs:List (Int×Int))(i:Int)(h:Lk w t v xs)(hn:xs.length≤1000000):
 Calls prog 101 #[trp t,.int .i64 i] w fun e w'=>∃z v',e=.returned (.int .i64 z)∧RecL w.heap.size w w' t v v' (xs++[(2,i)]):=by
 cases t with
 | none=>exact(Index_nil w i).mono fun e w' ⟨he,g⟩=>⟨1,v,he,Lk.none _ _ _,Kp.gr g _,fun b hb=>Or.inl hb⟩
 | some b=>exact(Index_tr w b v xs i (h b rfl) hn).mono fun e w' ⟨he,v',hr⟩=>⟨0,v',he,hr.l⟩
def ixs(n:Nat):List (Int×Int):=(List.range n).map fun i:Nat=>(2,(i:Int))
theorem ixs_succ(n:Nat):ixs (n+1)=ixs n++[(2,(n:Int))]:=by simp[ixs,List.range_succ]
theorem ixs_length(n:Nat):(ixs n).length=n:=by simp[ixs]
structure Er(w:World)(g n:Nat)(f:Nat→Q3):Prop where
 lt:g<w.heap.size
 row:∀i,i<n→i*19+19≤(blk w g).size∧(blk w g).extract (i*19) (i*19+19)=enQ (f i)
theorem Er.kp{S:Nat→Prop}{w w':World}{g n:Nat}{f:Nat→Q3}(h:Er w g n f)(k:Kp S w w')(hn:¬S g):Er w' g n f:=
 ⟨Nat.lt_of_lt_of_le h.lt k.size,fun i hi=>by rw[blk_of _ _ _ (k.block g h.lt hn)];exact h.row i hi⟩
theorem Er.gr{w w':World}{g n:Nat}{f:Nat→Q3}(h:Er w g n f)(k:Gr w w'):Er w' g n f:=h.kp (Kp.gr k fun _=>False) fun h=>h
theorem Er.load{w:World}{g n:Nat}{f:Nat→Q3}(h:Er w g n f){i:Nat}(hi:i<n):(loadS 175 (.pointer (some ⟨g,i*19,none⟩))).run prog w=.ok (.agg (enQ (f i))) w:=by
 obtain⟨h1,h2⟩:=h.row i hi;rw[loadPartE w g (i*19) h1,h2]
structure Tb(w:World)(b g cap n:Nat)(f:Nat→Q3):Prop where
 vr:Vr w b #[.slice (some ⟨g,0,none⟩) n cap]
 row:Er w g n f
theorem Tb.kp{S:Nat→Prop}{w w':World}{b g cap n:Nat}{f:Nat→Q3}(h:Tb w b g cap n f)(k:Kp S w w')(h1:¬S b)(h2:¬S g):Tb w' b g cap n f:=⟨h.vr.kp k h1,h.row.kp k h2⟩
theorem Tb.gr{w w':World}{b g cap n:Nat}{f:Nat→Q3}(h:Tb w b g cap n f)(k:Gr w w'):Tb w' b g cap n f:=⟨h.vr.gr k,h.row.gr k⟩
def ens(f:Nat→Q3)(n:Nat):List Value:=(List.range n).flatMap fun i=>(enQ (f i)).toList
theorem ens_succ(f:Nat→Q3)(n:Nat):ens f (n+1)=ens f n++(enQ (f n)).toList:=by simp[ens,List.range_succ]
theorem ens_length(f:Nat→Q3):∀n,(ens f n).length=n*19
 | 0=>rfl
 | n+1=>by rw[ens_succ,List.length_append,ens_length f n,Array.length_toList,ent_size];omega
theorem ens_at(f:Nat→Q3):∀n i,i<n→((ens f n).drop (i*19)).take 19=(enQ (f i)).toList
 | 0,i,h=>by omega
 | n+1,i,h=>by
  rw[ens_succ];have hl:=ens_length f n
  by_cases e:i=n
  ·subst e;rw[List.drop_append_of_le_length (by omega),List.drop_of_length_le (by omega),List.nil_append,List.take_of_length_le (by rw[Array.length_toList,ent_size];omega)]
  ·rw[List.drop_append_of_le_length (by omega),List.take_append_of_le_length (by rw[List.length_drop];omega)];exact ens_at f n i (by omega)
theorem Er.of_owns{w:World}{base n:Nat}{v:Value}{f:Nat→Q3}(h:w.ownsRow base 175 19 v n (ens f n))(hn:0<n):∃g cap,v=.slice (some ⟨g,0,none⟩) n cap∧base≤g∧n≤cap∧Er w g n f:=by
 rcases h.2 with ⟨-,h0⟩|⟨g,cap,cur,rfl,hb,hg,h1,h2,h3,h4⟩
 ·omega
 ·refine⟨g,cap,rfl,hb,h1,(Array.getElem?_eq_some_iff.1 hg).1,fun i hi=>?_⟩
  have hc:blk w g=cur:=by unfold blk;rw[hg]
  rw[hc];refine⟨by omega,?_⟩
  apply Array.toList_inj.1
  rw[←ens_at f n i hi,←h4,Array.toList_extract,List.extract_eq_take_drop,show i*19+19-i*19=19 by omega,List.drop_take,List.take_take,show min 19 (n*19-i*19)=19 by omega]
theorem owns_first(w:World)(f:Nat→Q3):(w.alloc (.cells (enQ (f 0)) 175)).ownsRow w.heap.size 175 19 (.slice (some ⟨w.heap.size,0,none⟩) 1 1) 1 (ens f 1):=by
 refine⟨ens_length f 1,Or.inr ⟨w.heap.size,1,enQ (f 0),rfl,Nat.le_refl _,heap_alloc_new w _,Nat.le_refl _,by decide,ent_size _ _ _,?_⟩⟩;rw[ens_succ,show ens f 0=[] from rfl,List.nil_append,List.take_of_length_le (by rw[Array.length_toList,ent_size];omega)]
theorem Tryz.infoEn:(prog.info? 175).map (fun i=>(i.zero,i.size,i.bytes))=some (some (.agg (ent 0 0 0)),19,152):=by kernel_rfl
end
section
attribute [local go_sem ↓] uz1
attribute [local go_sem] uz2
section
attribute [local go_sem] uz8
attribute [local go_sem ↓] uz17 Go.wp_at_zero Go.wp_at_succ
attribute [local go_sem] uz18
theorem rg_any{k:Nat}(qc:Nat→Option Addr×Nat)(w:World)(HQ:∀j,Sl w (qc j).1 (nN k j)):Calls prog 17 #[.agg (crA (k:Int) (nN k) qc)] w (Rt (.pt (xN k) (yN k) false) w):=by
 go_enter func17,ntmps17
 go_upto_region 1 with fail
 refine gen_w (fun v=>Gr w v∧Vr v (w.heap.size) (crA (k:Int) (nN k) qc)∧Vr v (w.heap.size+1) (ptA none 0 0 none 0 0 false)) ⟨grA,vrA,vrA⟩ ?_;rintro v0 ⟨G,c1,c2⟩;replace HQ:=fun k=>(HQ k).gr G;refine wp_wTS 5 [.c (pv (w.heap.size) 5),.c (.slice (qc 4).1 (dl (xN k)) (qc 4).2),.c (pv (w.heap.size) 6),.c (.slice (qc 5).1 (dl (yN k)) (qc 5).2),.pt (xN k) (yN k) false] [1,3,4] ⟨.o 29 5 c1 rfl rfl,.o 29 6 c1 rfl rfl,.p (fun yy i=>match i with|0=>((qc 4).1,(qc 4).2)|_=>((qc 5).1,(qc 5).2)) fun yy vv hg hh=>⟨((HQ 4).gr hg),((HQ 5).gr hg)⟩,⟨⟩⟩ (.s 39 (fun yy=>.pointer (some ⟨w.heap.size+1,0,none⟩)) (fun yy=>.agg (ptA (yy 4 0).1 (xN k) (yy 4 0).2 (yy 4 1).1 (yN k) (yy 4 1).2 false)) fun yw1 v1 hg h1=>?_);have HT:=(c2.gr hg).h;have FT:=(c2.gr hg).f;refine⟨setBlk v1 (w.heap.size+1) (ptA (yw1 4 0).1 (xN k) (yw1 4 0).2 (yw1 4 1).1 (yN k) (yw1 4 1).2 false),by simp[go_sem,exI,HT,FT],?_⟩;simp only[fzw];obtain⟨S1_4,T1_4⟩:=h1 4;replace G:=G.trans hg
 go_wp2_with fail
 exact bodyPost_ret (res_one results17 (rd_pt _ _ _ _ _ _ _ (by rfl) (blk_setBlk _ _ _ (by rw[HT];decide)))) rfl ⟨_,rfl,⟨_,_,_,_,rfl,Sl.set S1_4 (by rw[HT];exact ptA_no _ _ _ _ _ _ _),Sl.set T1_4 (by rw[HT];exact ptA_no _ _ _ _ _ _ _)⟩,gr_setNew G (by omega)⟩
end
end
section
theorem ron_is{k:Nat}(h1:1≤k)(h2:k≤15){P:Q3}{r:Bool}(lP:P.1<M∧P.2.1<M)(h:onB k P.1 P.2.1 P.2.2=r)(qc:Nat→Option Addr×Nat){p q:Option Addr}{n m:Nat}{w:World}(HQ:∀j,Sl w (qc j).1 (nN k j))(Sx:Sl w p P.1)(Sy:Sl w q P.2.1):
 Calls prog 13 #[.agg (crA (k:Int) (nN k) qc),.agg (ptA p P.1 n q P.2.1 m P.2.2)] w (Rt (.c (.bool r)) w):=by
 subst h;exact ron_any k h1 h2 _ _ _ lP.1 lP.2 qc p q n m w HQ Sx Sy
end
end Go.Proofs.YtghidgcekieljaaGreat