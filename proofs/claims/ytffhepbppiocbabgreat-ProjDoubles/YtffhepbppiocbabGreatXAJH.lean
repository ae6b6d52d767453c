import Derived.Test.YtffhepbppiocbabGreatXAAY
import Derived.Test.YtffhepbppiocbabGreatXAAR
namespace Go.Proofs.YtffhepbppiocbabGreat
open Go.RowKit Go.Proofs.Tryz
set_option maxRecDepth 100000
set_option maxHeartbeats 8000000
section
attribute [local go_sem ↓] uz1
attribute [local go_sem] uz2
section
attribute [local go_sem] uz7
attribute [local go_sem ↓] uz14 Go.wp_at_zero Go.wp_at_succ
attribute [local go_sem] uz15
abbrev pjT(T:T3):Array Value:=prj T.1 T.2.1 T.2.2
theorem jgf_yes{k:Nat}(h1:1≤k)(h2:k≤15)(n:Nat)(hn:n≤2)(F:Nat→T3)(c:Array Value)(hrow:∀i,i<n→c.extract (i*27) (i*27+27)=pjT (F i))(hsz:n*27≤c.size)(HO':∀i,i<n→∀w,Cg 90 #[.agg (cuK k),.agg (prj (F i).1 (F i).2.1 (F i).2.2)] w (.bool true))(b cap:Nat)(w:World)(hv:Vr w b c):
 Cg 61 #[.int .i64 k,.slice (some ⟨b,0,none⟩) n cap] w (.tuple #[.agg (cuK k),.int .i64 0]):=by
 have K:Hid (∀w,Cg 83 #[.int .i64 k] w (.tuple #[.agg (cuK k),.int .i64 0])):=fun w=>get13_yes k h1 h2 w;have U:Hu (n≤2):=fun _=>hn;have V:Hid _:=HO'
 have W:Hid (∀j,j<n→∀v,Gr w v→(loadS 53 (.pointer (some ⟨b,j*27,none⟩))).run prog v=.ok (.agg (prj (F j).1 (F j).2.1 (F j).2.2)) v):=fun j X v g=>by
  have L:=(hv.gr g).h;rw[loadPartJ v b (j*27) (by rw[L];omega),L,hrow j X]
 clear hn hrow hsz HO'
 go_enter func61,ntmps61
 go_wp2_with (go_at_call 83;refine(K.out _).mono ?_;rintro e d ⟨rfl,C⟩)
 obtain⟨q,f⟩:=exl (d.heap.size);simp only[f]
 refine gen_w (fun wr=>Hid (Gr w wr∧Vr wr (w.heap.size) (cu 0 0 0 0 0 0 0 0 0 false)∧Vr wr (q+1) (cuK k))) ?_ ?_
 ·subst f;have P:Gr d (d.alloc (.cells (cuK k) 96)):=(Gr.refl _).alloc _;have Q:Gr (d.alloc (.cells (cuK k) 96)) ((d.alloc (.cells (cuK k) 96)).alloc (.cells (cuK k) 104)):=(Gr.refl _).alloc _;have hn:=Vr.new (d.alloc (.cells (cuK k) 96)) (cuK k) 104;rw[show (d.alloc (.cells (cuK k) 96)).heap.size=d.heap.size+1 by simp]at hn;exact⟨((((Gr.refl w).alloc _).trans C).trans P).trans Q,(((Vr.new w _ _).gr C).gr P).gr Q,hn⟩
 have H:w.heap.size<q+1:=by have:=C.below.size;simp at this;omega
 have x:¬(w.heap.size=q+1):=by omega
 have A:¬(q+1=w.heap.size):=by omega
 clear f C K;obtain⟨Y,B⟩:=exl (q+1);simp only[B]at H x A ⊢;clear B;intro v0 D
 go_loopw [23] (fun ia wr=>∃j:Nat,ia=.int .i64 j∧Hu (j≤n)∧Hid (Gr w wr∧Vr wr (w.heap.size) (cu 0 0 0 0 0 0 0 0 0 false)∧Vr wr Y (cuK k))) (fun ia _=>(((n:Int))-intOf ia).toNat)
 case atStart=>exact⟨0,rfl,fun _=>Nat.zero_le _,D⟩
 case round=>
  clear D;obtain⟨j,rfl,HJ,D⟩:=hrel;obtain⟨G,S,Z⟩:=D.out
  have j0:(0:Int)≤j:=by omega
  have n4:(n:Int)≤2:=by have:=U.out ();omega
  have⟨aa,ab,ac⟩:=S;have⟨ae,af,ag⟩:=Z;have⟨ah,ai,aj,ak,ao,ap⟩:=S.pp
  by_cases hlt:j<n
  ·have I:j<n:=by exact hlt
   have aq:=W.out j I wr G;have J:Hid _:=V.out j hlt
   go_wp2_with (go_at_call 90;refine hkA J fun g=>?_)
   go_roundw
   case rel=>
    refine⟨j+1,by go_num,fun _=>hlt,?_,⟨by simp[go_sem, *],by simp[go_sem, *],by simp[go_sem, *]⟩,⟨by simp[go_sem, *],by simp[go_sem, *],by simp[go_sem, *]⟩⟩;exact grB
   case measure=>simp[intOf];omega
  ·skip
   go_wp2_with fail
   refine bo2 results61 (rd_jg (by rfl) ?_) ⟨rfl,?_⟩
   ·simp[go_sem, *]
   ·exact grB
theorem jgf_off{k:Nat}(h1:1≤k)(h2:k≤15)(n:Nat)(hn:n≤2)(F:Nat→T3)(c:Array Value)(hrow:∀i,i<n→c.extract (i*27) (i*27+27)=pjT (F i))(hsz:n*27≤c.size)(m:Nat)(hm:m<n)(HF':∀w,Cg 90 #[.agg (cuK k),.agg (prj (F m).1 (F m).2.1 (F m).2.2)] w (.bool false))(HO':∀i,i<m→∀w,Cg 90 #[.agg (cuK k),.agg (prj (F i).1 (F i).2.1 (F i).2.2)] w (.bool true))(b cap:Nat)(w:World)(hv:Vr w b c):
 Cg 61 #[.int .i64 k,.slice (some ⟨b,0,none⟩) n cap] w (.tuple #[.agg (cu 0 0 0 0 0 0 0 0 0 false),.int .i64 1501]):=by
 have U:Hid (∀w,Cg 83 #[.int .i64 k] w (.tuple #[.agg (cuK k),.int .i64 0])):=fun w=>get13_yes k h1 h2 w;have HN:Hu (n≤2):=fun _=>hn;have HO:Hid _:=HO';have V:Hu (m<n):=fun _=>hm;have HF:Hid _:=HF'
 have W:Hid (∀j,j<n→∀v,Gr w v→(loadS 53 (.pointer (some ⟨b,j*27,none⟩))).run prog v=.ok (.agg (prj (F j).1 (F j).2.1 (F j).2.2)) v):=fun j hj v g=>by
  have X:=(hv.gr g).h;rw[loadPartJ v b (j*27) (by rw[X];omega),X,hrow j hj]
 clear hn hrow hsz HO' hm HF'
 go_enter func61,ntmps61
 go_wp2_with (go_at_call 83;refine(U.out _).mono ?_;rintro e f ⟨rfl,J⟩)
 obtain⟨B,q⟩:=exl (f.heap.size);simp only[q]
 refine gen_w (fun wr=>Hid (Gr w wr∧Vr wr (w.heap.size) (cu 0 0 0 0 0 0 0 0 0 false)∧Vr wr (B+1) (cuK k))) ?_ ?_
 ·subst q;have Y:Gr f (f.alloc (.cells (cuK k) 96)):=(Gr.refl _).alloc _;have Z:Gr (f.alloc (.cells (cuK k) 96)) ((f.alloc (.cells (cuK k) 96)).alloc (.cells (cuK k) 104)):=(Gr.refl _).alloc _;have hn:=Vr.new (f.alloc (.cells (cuK k) 96)) (cuK k) 104;rw[show (f.alloc (.cells (cuK k) 96)).heap.size=f.heap.size+1 by simp]at hn;exact⟨((((Gr.refl w).alloc _).trans J).trans Y).trans Z,(((Vr.new w _ _).gr J).gr Y).gr Z,hn⟩
 have P:w.heap.size<B+1:=by have:=J.below.size;simp at this;omega
 have C:¬(w.heap.size=B+1):=by omega
 have D:¬(B+1=w.heap.size):=by omega
 clear q J U;obtain⟨e8,H⟩:=exl (B+1);simp only[H]at P C D ⊢;clear H;intro v0 A
 go_loopw [23] (fun ia wr=>∃j:Nat,ia=.int .i64 j∧Hu (j≤m)∧Hid (Gr w wr∧Vr wr (w.heap.size) (cu 0 0 0 0 0 0 0 0 0 false)∧Vr wr e8 (cuK k))) (fun ia _=>(((n:Int))-intOf ia).toNat)
 case atStart=>exact⟨0,rfl,fun _=>Nat.zero_le _,A⟩
 case round=>
  clear A;obtain⟨j,rfl,HJ,A⟩:=hrel;obtain⟨G,K,L⟩:=A.out
  have j0:(0:Int)≤j:=by omega
  have n4:(n:Int)≤2:=by have:=HN.out ();omega
  have⟨aa,ab,ac⟩:=K;have⟨ae,af,ag⟩:=L;have⟨ah,ai,aj,ak,ao,ap⟩:=K.pp;have⟨aq,ar,au,av,aw,ax⟩:=L.pp
  by_cases hlt:j<m
  ·have d:j<n:=by have:=V.out ();omega
   have j1:(j:Int)<n:=by omega
   have Q:=W.out j d wr G;have x:Hid _:=HO.out j hlt;clear A K L d
   go_wp2_with (go_at_call 90;refine hkA x fun g=>?_)
   go_roundw
   case rel=>
    refine⟨j+1,by go_num,fun _=>hlt,?_,⟨by simp[go_sem, *],by simp[go_sem, *],by simp[go_sem, *]⟩,⟨by simp[go_sem, *],by simp[go_sem, *],by simp[go_sem, *]⟩⟩;exact grB
   case measure=>simp[intOf];omega
  ·skip
   have I:j=m:=by have:=HJ.out ();omega
   have S:=V.out ()
   have x:Hid (∀w,Cg 90 #[.agg (cuK k),.agg (prj (F j).1 (F j).2.1 (F j).2.2)] w (.bool false)):=by rw[I];exact HF
   have d:j<n:=by omega
   have j1:(j:Int)<n:=by omega
   have Q:=W.out j d wr G;clear A K L hlt d I S
   go_wp2_with (go_at_call 90;refine hkA x fun g=>?_)
   refine bo2 results61 (rd_jg (by rfl) ?_) ⟨rfl,?_⟩
   ·simp[go_sem, *]
   ·exact grB
theorem jgf_nil{k:Nat}(h1:1≤k)(h2:k≤15)(w:World):
 Cg 61 #[.int .i64 k,.slice none 0 0] w (.tuple #[.agg (cuK k),.int .i64 0]):=by
 have J:Hid (∀w,Cg 83 #[.int .i64 k] w (.tuple #[.agg (cuK k),.int .i64 0])):=fun w=>get13_yes k h1 h2 w
 go_enter func61,ntmps61
 go_wp2_with (go_at_call 83;refine(J.out _).mono ?_;rintro e d ⟨rfl,x⟩)
 obtain⟨f,h⟩:=exl (d.heap.size);simp only[h]
 refine gen_w (fun wr=>Hid (Gr w wr∧Vr wr (w.heap.size) (cu 0 0 0 0 0 0 0 0 0 false)∧Vr wr (f+1) (cuK k))) ?_ ?_
 ·subst h;have D:Gr d (d.alloc (.cells (cuK k) 96)):=(Gr.refl _).alloc _;have H:Gr (d.alloc (.cells (cuK k) 96)) ((d.alloc (.cells (cuK k) 96)).alloc (.cells (cuK k) 104)):=(Gr.refl _).alloc _;have I:=Vr.new (d.alloc (.cells (cuK k) 96)) (cuK k) 104;rw[show (d.alloc (.cells (cuK k) 96)).heap.size=d.heap.size+1 by simp]at I;exact⟨((((Gr.refl w).alloc _).trans x).trans D).trans H,(((Vr.new w _ _).gr x).gr D).gr H,I⟩
 have A:w.heap.size<f+1:=by have:=x.below.size;simp at this;omega
 have i:¬(w.heap.size=f+1):=by omega
 have q:¬(f+1=w.heap.size):=by omega
 obtain⟨K,B⟩:=exl (f+1);simp only[B]at A i q ⊢;intro Y C
 go_loopw [23] (fun ia wr=>∃j:Nat,ia=.int .i64 j∧Hu (j≤0)∧Hid (Gr w wr∧Vr wr (w.heap.size) (cu 0 0 0 0 0 0 0 0 0 false)∧Vr wr K (cuK k))) (fun ia _=>((0)-intOf ia).toNat)
 case atStart=>exact⟨0,rfl,fun _=>Nat.zero_le _,C⟩
 case round=>
  obtain⟨j,rfl,Z,C⟩:=hrel;obtain⟨G,L,P⟩:=C.out;have⟨Q,S,U⟩:=L;have⟨V,W,X⟩:=P
  by_cases hlt:j<0
  ·omega
  ·skip
   go_wp2_with fail
   refine bo2 results61 (rd_jg (by rfl) ?_) ⟨rfl,?_⟩
   ·simp[go_sem, *]
   ·exact grB
theorem jgf_no(x:Int)(h:x<1∨15<x)(q:Option Addr)(n c:Nat)(w:World):Cg 61 #[.int .i64 x,.slice q n c] w (.tuple #[.agg (cu 0 0 0 0 0 0 0 0 0 false),.int .i64 1500]):=by
 have d:Hid (∀w,Cg 83 #[.int .i64 x] w (.tuple #[.agg (cu 0 0 0 0 0 0 0 0 0 false),.int .i64 1300])):=fun w=>get13_no x h w
 go_enter func61,ntmps61
 go_wp2_with (go_at_call 83;refine hkA d fun g=>?_)
 refine bo2 results61 (rd_jg (by rfl) ?_) ⟨rfl,grA⟩;simp[go_sem]
end
section
attribute [local go_sem] uz7
attribute [local go_sem ↓] uz14 Go.wp_at_zero Go.wp_at_succ
attribute [local go_sem] uz15
theorem jto_yes{k:Nat}{T:T3}{R:Q3}(HG':∀w b,Vr w b (pjT T)→Cg 61 #[.int .i64 k,.slice (some ⟨b,0,none⟩) 1 1] w (.tuple #[.agg (cuK k),.int .i64 0]))(HA':∀w,Cg 62 #[.agg (cuK k),.agg (pjT T)] w (.agg (pnQ R)))(w:World):
 Cg 27 #[.int .i64 k,.agg (pjT T)] w (.tuple #[.agg (pnQ R),.int .i64 0]):=by
 have A:Hid _:=HG';have B:Hid _:=HA';clear HG' HA'
 go_enter func27,ntmps27
 go_upto_region 1 with fail
 refine gen_w (fun v=>Hid (Gr w v∧Vr v (w.heap.size) (pjT T)∧Vr v (w.heap.size+1) (pnt 0 0 false))) ⟨grA,vrA,vrA⟩ ?_;intro W q;obtain⟨G,h,i⟩:=q.out;clear q;refine wp_v false [.c (.int .i64 k),.c (.agg (pjT T)),.r 1 (pjT T),.E (.agg (cuK k)),.E (.agg (cuK k)),.c (.agg (cuK k)),.O,.a,.u,.O] [1,2,3] [⟨7,8,104,cu 0 0 0 0 0 0 0 0 0 false,fun _=>cuK k⟩] ⟨.g 53 0 h rfl,.r (.buildSlice 74 1 #[(0,.const (.agg (pjT T)))]) rfl (rowJ1 _ _ _),.k _ fun X Y f C=>RtW.of_c (Rt.c (A.out _ _ (C 2 rfl))),⟨⟩⟩ ⟨.k zCu ⟨fkc,fkc,fkr (by simp[cu_size,prj_size]),fkc,fkc,fkc,fkc,fka,fku,fkc,trivial⟩,⟨⟩⟩ fun D Z f H j=>?_;simp only[fzw,Kw.a,Kw.r];obtain⟨⟨x,d⟩,-⟩:=j;clear H;replace G:=G.trans f;replace h:=h.gr f;replace i:=i.gr f;clear f
 go_upto_region 2 with fail
 refine wp_wS [.O,.F] [] ⟨⟩ fun I v2 f J=>?_;simp only[fzw];clear J;replace G:=G.trans f;replace h:=h.gr f;replace i:=i.gr f;replace d:=d.gr f;have K:=h.al;have⟨L,P,Q⟩:=i;have⟨S,U,V⟩:=d
 go_wp2_with (go_at_call 62;refine hkA B fun g=>?_)
 refine bo2 results27 (rd_pn (by rfl) ?_) ⟨rfl,?_⟩
 ·simp[go_sem, *]
 ·exact grB
theorem jto_err(id er:Int)(hne:¬er=0){T:T3}(HG':∀w b,Vr w b (pjT T)→Cg 61 #[.int .i64 id,.slice (some ⟨b,0,none⟩) 1 1] w (.tuple #[.agg (cu 0 0 0 0 0 0 0 0 0 false),.int .i64 er]))(w:World):
 Cg 27 #[.int .i64 id,.agg (pjT T)] w (.tuple #[.agg (pnt 0 0 false),.int .i64 er]):=by
 have A:Hid _:=HG';clear HG'
 go_enter func27,ntmps27
 go_upto_region 1 with fail
 refine gen_w (fun v=>Hid (Gr w v∧Vr v (w.heap.size) (pjT T)∧Vr v (w.heap.size+1) (pnt 0 0 false))) ⟨grA,vrA,vrA⟩ ?_;intro L j;obtain⟨G,h,f⟩:=j.out;clear j;refine wp_v false [.c (.int .i64 id),.c (.agg (pjT T)),.r 1 (pjT T),.c (.tuple #[.agg (cu 0 0 0 0 0 0 0 0 0 false),.int .i64 er]),.c (.tuple #[.agg (cu 0 0 0 0 0 0 0 0 0 false),.int .i64 er]),.c (.agg (cu 0 0 0 0 0 0 0 0 0 false)),.c (.int .i64 er),.a,.u,.c (.int .i64 er)] [1,2,3] [⟨7,8,104,cu 0 0 0 0 0 0 0 0 0 false,fun _=>cu 0 0 0 0 0 0 0 0 0 false⟩] ⟨.g 53 0 h rfl,.r (.buildSlice 74 1 #[(0,.const (.agg (pjT T)))]) rfl (rowJ1 _ _ _),.k _ fun P B d C=>RtW.of_c (Rt.c (A.out _ _ (C 2 rfl))),⟨⟩⟩ ⟨.k zCu ⟨fkc,fkc,fkr (by simp[cu_size,prj_size]),fkc,fkc,fkc,fkc,fka,fku,fkc,trivial⟩,⟨⟩⟩ fun D Q d H i=>?_;simp only[fzw,Kw.a,Kw.r];obtain⟨⟨q,x⟩,-⟩:=i;clear H;replace G:=G.trans d;replace h:=h.gr d;replace f:=f.gr d;clear d
 go_upto_region 2 with fail
 refine wp_wS [.c (.int .i64 er),.T] [1] ⟨.s (.binOp .neq 37 (.const (.int .i64 er)) (.const (.int .i64 0)) 37) rfl fun B d=>by simp[go_sem,exI,hne],⟨⟩⟩ fun I S d J=>?_;simp only[fzw];clear J;replace G:=G.trans d;replace f:=f.gr d;have K:=f.al
 go_wp2_with fail
 refine bo2 results27 (rd_pn (by rfl) ?_) ⟨rfl,?_⟩
 ·simp[go_sem, *]
 ·exact grB
theorem jadd_yes{k:Nat}{S T:T3}{R:T3}(HG':∀w b,Vr w b (pjT S++pjT T)→Cg 61 #[.int .i64 k,.slice (some ⟨b,0,none⟩) 2 2] w (.tuple #[.agg (cuK k),.int .i64 0]))(HA':∀w,Cg 63 #[.agg (cuK k),.agg (pjT S),.agg (pjT T)] w (.agg (pjT R)))(w:World):
 Cg 28 #[.int .i64 k,.agg (pjT S),.agg (pjT T)] w (.tuple #[.agg (pjT R),.int .i64 0]):=by
 have B:Hid _:=HG';have C:Hid _:=HA';clear HG' HA'
 go_enter func28,ntmps28
 go_upto_region 1 with fail
 refine gen_w (fun v=>Hid (Gr w v∧Vr v (w.heap.size) (pjT S)∧Vr v (w.heap.size+1) (pjT T)∧Vr v (w.heap.size+1+1) (prj 0 0 0))) ⟨grA,vrA,vrA,vrA⟩ ?_;intro Z x;obtain⟨G,h,i,j⟩:=x.out;clear x;refine wp_v false [.c (.int .i64 k),.c (.agg (pjT S)),.c (.agg (pjT T)),.r 2 (pjT S++pjT T),.E (.agg (cuK k)),.E (.agg (cuK k)),.c (.agg (cuK k)),.O,.a,.u,.O] [1,2,3,4] [⟨8,9,104,cu 0 0 0 0 0 0 0 0 0 false,fun _=>cuK k⟩] ⟨.g 53 0 h rfl,.g 53 0 i rfl,.r (.buildSlice 74 2 #[(0,.const (.agg (pjT S))),(1,.const (.agg (pjT T)))]) rfl (rowJ2 _ _ _ _ _ _),.k _ fun yy vv d D=>RtW.of_c (Rt.c (B.out _ _ (D 3 rfl))),⟨⟩⟩ ⟨.k zCu ⟨fkc,fkc,fkc,fkr (by simp[cu_size,prj_size]),fkc,fkc,fkc,fkc,fka,fku,fkc,trivial⟩,⟨⟩⟩ fun H v1 d I q=>?_;simp only[fzw,Kw.a,Kw.r];obtain⟨⟨A,f⟩,-⟩:=q;clear I;replace G:=G.trans d;replace h:=h.gr d;replace i:=i.gr d;replace j:=j.gr d;clear d
 go_upto_region 2 with fail
 refine wp_wS [.O,.F] [] ⟨⟩ fun J v2 d K=>?_;simp only[fzw];clear K;replace G:=G.trans d;replace h:=h.gr d;replace i:=i.gr d;replace j:=j.gr d;replace f:=f.gr d;clear d;have L:=h.al;have⟨P,Q,U⟩:=i;have V:=j.al;have⟨W,X,Y⟩:=f
 go_wp2_with (go_at_call 63;refine hkA C fun g=>?_)
 refine bo2 results28 (rd_pj (by rfl) ?_) ⟨rfl,?_⟩
 ·simp[go_sem, *]
 ·exact grB
theorem jadd_err(id er:Int)(hne:¬er=0){S T:T3}(HG':∀w b,Vr w b (pjT S++pjT T)→Cg 61 #[.int .i64 id,.slice (some ⟨b,0,none⟩) 2 2] w (.tuple #[.agg (cu 0 0 0 0 0 0 0 0 0 false),.int .i64 er]))(w:World):
 Cg 28 #[.int .i64 id,.agg (pjT S),.agg (pjT T)] w (.tuple #[.agg (prj 0 0 0),.int .i64 er]):=by
 have B:Hid _:=HG';clear HG'
 go_enter func28,ntmps28
 go_upto_region 1 with fail
 refine gen_w (fun v=>Hid (Gr w v∧Vr v (w.heap.size) (pjT S)∧Vr v (w.heap.size+1) (pjT T)∧Vr v (w.heap.size+1+1) (prj 0 0 0))) ⟨grA,vrA,vrA,vrA⟩ ?_;intro v0 q;obtain⟨G,h,f,i⟩:=q.out;clear q;refine wp_v false [.c (.int .i64 id),.c (.agg (pjT S)),.c (.agg (pjT T)),.r 2 (pjT S++pjT T),.c (.tuple #[.agg (cu 0 0 0 0 0 0 0 0 0 false),.int .i64 er]),.c (.tuple #[.agg (cu 0 0 0 0 0 0 0 0 0 false),.int .i64 er]),.c (.agg (cu 0 0 0 0 0 0 0 0 0 false)),.c (.int .i64 er),.a,.u,.c (.int .i64 er)] [1,2,3,4] [⟨8,9,104,cu 0 0 0 0 0 0 0 0 0 false,fun _=>cu 0 0 0 0 0 0 0 0 0 false⟩] ⟨.g 53 0 h rfl,.g 53 0 f rfl,.r (.buildSlice 74 2 #[(0,.const (.agg (pjT S))),(1,.const (.agg (pjT T)))]) rfl (rowJ2 _ _ _ _ _ _),.k _ fun yy C d D=>RtW.of_c (Rt.c (B.out _ _ (D 3 rfl))),⟨⟩⟩ ⟨.k zCu ⟨fkc,fkc,fkc,fkr (by simp[cu_size,prj_size]),fkc,fkc,fkc,fkc,fka,fku,fkc,trivial⟩,⟨⟩⟩ fun H v1 d I j=>?_;simp only[fzw,Kw.a,Kw.r];obtain⟨⟨x,A⟩,-⟩:=j;clear I;replace G:=G.trans d;replace h:=h.gr d;replace f:=f.gr d;replace i:=i.gr d;clear d
 go_upto_region 2 with fail
 refine wp_wS [.c (.int .i64 er),.T] [1] ⟨.s (.binOp .neq 37 (.const (.int .i64 er)) (.const (.int .i64 0)) 37) rfl fun C d=>by simp[go_sem,exI,hne],⟨⟩⟩ fun J v2 d K=>?_;simp only[fzw];clear K;replace G:=G.trans d;replace h:=h.gr d;replace f:=f.gr d;replace i:=i.gr d;have⟨L,P,Q,U,V,W⟩:=f.pp;have⟨X,Y,Z⟩:=i
 go_wp2_with fail
 refine bo2 results28 (rd_pj (by rfl) ?_) ⟨rfl,?_⟩
 ·simp[go_sem, *]
 ·exact grB
theorem jdouble_yes{k:Nat}{T:T3}{R:T3}(HG':∀w b,Vr w b (pjT T)→Cg 61 #[.int .i64 k,.slice (some ⟨b,0,none⟩) 1 1] w (.tuple #[.agg (cuK k),.int .i64 0]))(HA':∀w,Cg 63 #[.agg (cuK k),.agg (pjT T),.agg (pjT T)] w (.agg (pjT R)))(w:World):
 Cg 29 #[.int .i64 k,.agg (pjT T)] w (.tuple #[.agg (pjT R),.int .i64 0]):=by
 have A:Hid _:=HG';have B:Hid _:=HA';clear HG' HA'
 go_enter func29,ntmps29
 go_upto_region 1 with fail
 refine gen_w (fun v=>Hid (Gr w v∧Vr v (w.heap.size) (pjT T)∧Vr v (w.heap.size+1) (prj 0 0 0))) ⟨grA,vrA,vrA⟩ ?_;intro W q;obtain⟨G,h,i⟩:=q.out;clear q;refine wp_v false [.c (.int .i64 k),.c (.agg (pjT T)),.r 1 (pjT T),.E (.agg (cuK k)),.E (.agg (cuK k)),.c (.agg (cuK k)),.O,.a,.u,.O] [1,2,3] [⟨7,8,104,cu 0 0 0 0 0 0 0 0 0 false,fun _=>cuK k⟩] ⟨.g 53 0 h rfl,.r (.buildSlice 74 1 #[(0,.const (.agg (pjT T)))]) rfl (rowJ1 _ _ _),.k _ fun X Y f C=>RtW.of_c (Rt.c (A.out _ _ (C 2 rfl))),⟨⟩⟩ ⟨.k zCu ⟨fkc,fkc,fkr (by simp[cu_size,prj_size]),fkc,fkc,fkc,fkc,fka,fku,fkc,trivial⟩,⟨⟩⟩ fun D Z f H j=>?_;simp only[fzw,Kw.a,Kw.r];obtain⟨⟨x,d⟩,-⟩:=j;clear H;replace G:=G.trans f;replace h:=h.gr f;replace i:=i.gr f;clear f
 go_upto_region 2 with fail
 refine wp_wS [.O,.F] [] ⟨⟩ fun I v2 f J=>?_;simp only[fzw];clear J;replace G:=G.trans f;replace h:=h.gr f;replace i:=i.gr f;replace d:=d.gr f;have K:=h.al;have⟨L,P,Q⟩:=i;have⟨S,U,V⟩:=d
 go_wp2_with (go_at_call 63;refine hkA B fun g=>?_)
 refine bo2 results29 (rd_pj (by rfl) ?_) ⟨rfl,?_⟩
 ·simp[go_sem, *]
 ·exact grB
theorem jdouble_err(id er:Int)(hne:¬er=0){T:T3}(HG':∀w b,Vr w b (pjT T)→Cg 61 #[.int .i64 id,.slice (some ⟨b,0,none⟩) 1 1] w (.tuple #[.agg (cu 0 0 0 0 0 0 0 0 0 false),.int .i64 er]))(w:World):
 Cg 29 #[.int .i64 id,.agg (pjT T)] w (.tuple #[.agg (prj 0 0 0),.int .i64 er]):=by
 have A:Hid _:=HG';clear HG'
 go_enter func29,ntmps29
 go_upto_region 1 with fail
 refine gen_w (fun v=>Hid (Gr w v∧Vr v (w.heap.size) (pjT T)∧Vr v (w.heap.size+1) (prj 0 0 0))) ⟨grA,vrA,vrA⟩ ?_;intro L j;obtain⟨G,h,f⟩:=j.out;clear j;refine wp_v false [.c (.int .i64 id),.c (.agg (pjT T)),.r 1 (pjT T),.c (.tuple #[.agg (cu 0 0 0 0 0 0 0 0 0 false),.int .i64 er]),.c (.tuple #[.agg (cu 0 0 0 0 0 0 0 0 0 false),.int .i64 er]),.c (.agg (cu 0 0 0 0 0 0 0 0 0 false)),.c (.int .i64 er),.a,.u,.c (.int .i64 er)] [1,2,3] [⟨7,8,104,cu 0 0 0 0 0 0 0 0 0 false,fun _=>cu 0 0 0 0 0 0 0 0 0 false⟩] ⟨.g 53 0 h rfl,.r (.buildSlice 74 1 #[(0,.const (.agg (pjT T)))]) rfl (rowJ1 _ _ _),.k _ fun P B d C=>RtW.of_c (Rt.c (A.out _ _ (C 2 rfl))),⟨⟩⟩ ⟨.k zCu ⟨fkc,fkc,fkr (by simp[cu_size,prj_size]),fkc,fkc,fkc,fkc,fka,fku,fkc,trivial⟩,⟨⟩⟩ fun D Q d H i=>?_;simp only[fzw,Kw.a,Kw.r];obtain⟨⟨q,x⟩,-⟩:=i;clear H;replace G:=G.trans d;replace h:=h.gr d;replace f:=f.gr d;clear d
 go_upto_region 2 with fail
 refine wp_wS [.c (.int .i64 er),.T] [1] ⟨.s (.binOp .neq 37 (.const (.int .i64 er)) (.const (.int .i64 0)) 37) rfl fun B d=>by simp[go_sem,exI,hne],⟨⟩⟩ fun I S d J=>?_;simp only[fzw];clear J;replace G:=G.trans d;replace f:=f.gr d;have K:=f.al
 go_wp2_with fail
 refine bo2 results29 (rd_pj (by rfl) ?_) ⟨rfl,?_⟩
 ·simp[go_sem, *]
 ·exact grB
theorem jfrom_yes{k:Nat}{P:Q3}{R:T3}(HG':∀w,Cg 61 #[.int .i64 k,.slice none 0 0] w (.tuple #[.agg (cuK k),.int .i64 0]))(HO':∀w,Cg 66 #[.int .i64 k,.agg (pnQ P)] w (.bool true))(HA':∀w,Cg 67 #[.agg (pnQ P)] w (.agg (pjT R)))(w:World):
 Cg 34 #[.int .i64 k,.agg (pnQ P)] w (.tuple #[.agg (pjT R),.int .i64 0]):=by
 have B:Hid _:=HG';have C:Hid _:=HO';have D:Hid _:=HA';clear HG' HO' HA'
 go_enter func34,ntmps34
 go_upto_region 1 with fail
 refine gen_w (fun v=>Hid (Gr w v∧Vr v (w.heap.size) (pnQ P)∧Vr v (w.heap.size+1) (prj 0 0 0))) ⟨grA,vrA,vrA⟩ ?_;intro H x;obtain⟨G,h,i⟩:=x.out;clear x;refine wp_v false [.c (.int .i64 k),.E (.agg (cuK k)),.E (.agg (cuK k)),.c (.agg (cuK k)),.O,.a,.u,.O] [1] [⟨5,6,104,cu 0 0 0 0 0 0 0 0 0 false,fun _=>cuK k⟩] ⟨.z B.out,⟨⟩⟩ ⟨.k zCu (.t rfl),⟨⟩⟩ fun j I f J q=>?_;simp only[fzw,Kw.a];obtain⟨⟨A,d⟩,-⟩:(H.heap.size≤(j 5 0).2∧Vr I (j 5 0).2 (cuK k))∧True:=q;clear J;replace G:=G.trans f;replace h:=h.gr f;replace i:=i.gr f;clear f
 go_upto_region 2 with fail
 refine wp_wS [.O,.F] [] ⟨⟩ fun K V f L=>?_;simp only[fzw];clear L;replace G:=G.trans f;replace h:=h.gr f;replace i:=i.gr f;replace d:=d.gr f;clear f;have Q:=h.al;have S:=i.al;have U:=d.al;clear h i d
 go_wp2_with (first|(go_at_call 66;refine hkA C fun g=>?_)|(go_at_call 67;refine hkA D fun W=>?_))
 refine bo2 results34 (rd_pj (by rfl) ?_) ⟨rfl,?_⟩
 ·simp[go_sem, *]
 ·exact grB
theorem jfrom_off{k:Nat}{P:Q3}(HG':∀w,Cg 61 #[.int .i64 k,.slice none 0 0] w (.tuple #[.agg (cuK k),.int .i64 0]))(HO':∀w,Cg 66 #[.int .i64 k,.agg (pnQ P)] w (.bool false))(w:World):
 Cg 34 #[.int .i64 k,.agg (pnQ P)] w (.tuple #[.agg (prj 0 0 0),.int .i64 1501]):=by
 have B:Hid _:=HG';have C:Hid _:=HO';clear HG' HO'
 go_enter func34,ntmps34
 go_upto_region 1 with fail
 refine gen_w (fun v=>Hid (Gr w v∧Vr v (w.heap.size) (pnQ P)∧Vr v (w.heap.size+1) (prj 0 0 0))) ⟨grA,vrA,vrA⟩ ?_;intro D x;obtain⟨G,h,i⟩:=x.out;clear x;refine wp_v false [.c (.int .i64 k),.E (.agg (cuK k)),.E (.agg (cuK k)),.c (.agg (cuK k)),.O,.a,.u,.O] [1] [⟨5,6,104,cu 0 0 0 0 0 0 0 0 0 false,fun _=>cuK k⟩] ⟨.z B.out,⟨⟩⟩ ⟨.k zCu (.t rfl),⟨⟩⟩ fun j H f I q=>?_;simp only[fzw,Kw.a];obtain⟨⟨A,d⟩,-⟩:(D.heap.size≤(j 5 0).2∧Vr H (j 5 0).2 (cuK k))∧True:=q;clear I;replace G:=G.trans f;replace h:=h.gr f;replace i:=i.gr f;clear f
 go_upto_region 2 with fail
 refine wp_wS [.O,.F] [] ⟨⟩ fun J U f K=>?_;simp only[fzw];clear K;replace G:=G.trans f;replace h:=h.gr f;replace i:=i.gr f;replace d:=d.gr f;clear f;have L:=h.al;have Q:=i.al;have S:=d.al;clear h i d
 go_wp2_with (go_at_call 66;refine hkA C fun g=>?_)
 refine bo2 results34 (rd_pj (by rfl) ?_) ⟨rfl,?_⟩
 ·simp[go_sem, *]
 ·exact grB
theorem jfrom_err(id er:Int)(hne:¬er=0){P:Q3}(HG':∀w,Cg 61 #[.int .i64 id,.slice none 0 0] w (.tuple #[.agg (cu 0 0 0 0 0 0 0 0 0 false),.int .i64 er]))(w:World):
 Cg 34 #[.int .i64 id,.agg (pnQ P)] w (.tuple #[.agg (prj 0 0 0),.int .i64 er]):=by
 have B:Hid _:=HG';clear HG'
 go_enter func34,ntmps34
 go_upto_region 1 with fail
 refine gen_w (fun v=>Hid (Gr w v∧Vr v (w.heap.size) (pnQ P)∧Vr v (w.heap.size+1) (prj 0 0 0))) ⟨grA,vrA,vrA⟩ ?_;intro C x;obtain⟨G,h,i⟩:=x.out;clear x;refine wp_v false [.c (.int .i64 id),.c (.tuple #[.agg (cu 0 0 0 0 0 0 0 0 0 false),.int .i64 er]),.c (.tuple #[.agg (cu 0 0 0 0 0 0 0 0 0 false),.int .i64 er]),.c (.agg (cu 0 0 0 0 0 0 0 0 0 false)),.c (.int .i64 er),.a,.u,.c (.int .i64 er)] [1] [⟨5,6,104,cu 0 0 0 0 0 0 0 0 0 false,fun _=>cu 0 0 0 0 0 0 0 0 0 false⟩] ⟨.z B.out,⟨⟩⟩ ⟨.k zCu (.t rfl),⟨⟩⟩ fun j D f H q=>?_;simp only[fzw,Kw.a];obtain⟨⟨A,d⟩,-⟩:(C.heap.size≤(j 5 0).2∧Vr D (j 5 0).2 (cu 0 0 0 0 0 0 0 0 0 false))∧True:=q;clear H;replace G:=G.trans f;replace h:=h.gr f;replace i:=i.gr f;clear f
 go_upto_region 2 with fail
 refine wp_wS [.c (.int .i64 er),.T] [1] ⟨.s (.binOp .neq 37 (.const (.int .i64 er)) (.const (.int .i64 0)) 37) rfl fun S f=>by simp[go_sem,exI,hne],⟨⟩⟩ fun I U f J=>?_;simp only[fzw];clear J;replace G:=G.trans f;replace h:=h.gr f;replace i:=i.gr f;replace d:=d.gr f;clear f;have K:=h.al;have L:=i.al;have Q:=d.al;clear h i d
 go_wp2_with fail
 refine bo2 results34 (rd_pj (by rfl) ?_) ⟨rfl,?_⟩
 ·simp[go_sem, *]
 ·exact grB
end
end
section
theorem eqF0{k:Nat}(h1:1≤k)(h2:k≤15)[NeZero (pN k)](a:Fin (pN k)):eqN 9 a.val 0=decide (a=0):=by
 rw[eqN9 _ _ (Nat.lt_trans a.isLt (pN_M k)) (Nat.lt_trans (Nat.lt_of_lt_of_le (by decide) (prm_pN k h1 h2).1) (pN_M k))];simp
theorem belowT{k:Nat}{N X Y:Nat}{s z:Int}{l:Bool}{A B X1 Y1 Z1:Fin (pN k)}(w:World)(q:Nat)(hv:Vr w q (nw 9 X1.val++nw 9 Y1.val++nw 9 Z1.val)):
 Cg 117 #[.agg (cu (k:Int) (pN k) A.val B.val N X Y s z l),.slice (some ⟨q,0,none⟩) 3 3] w (.bool true):=
 jbelow_yes (k:Int) (pN k) A.val B.val N X Y s z l (pN_M k) 3 (by decide) (fun i=>match i with|0=>X1.val|1=>Y1.val|_=>Z1.val)
  (fun i _=>match i with|0=>Nat.lt_trans X1.isLt (pN_M k)|1=>Nat.lt_trans Y1.isLt (pN_M k)|_+2=>Nat.lt_trans Z1.isLt (pN_M k)) _
  (fun i d=>by
   obtain rfl|rfl|rfl:i=0∨i=1∨i=2:=by omega
   ·kernel_rfl
   ·kernel_rfl
   ·kernel_rfl) (by simp[nw_size]) (fun i _=>match i with|0=>X1.isLt|1=>Y1.isLt|_+2=>Z1.isLt) q 3 w hv
theorem belowF{k:Nat}{N X Y:Nat}{s z:Int}{l:Bool}{A B:Fin (pN k)}(x y z1:Nat)(lx:x<M)(ly:y<M)(lz:z1<M)(h:¬(x<pN k∧y<pN k∧z1<pN k))(w:World)(q:Nat)(hv:Vr w q (nw 9 x++nw 9 y++nw 9 z1)):
 Cg 117 #[.agg (cu (k:Int) (pN k) A.val B.val N X Y s z l),.slice (some ⟨q,0,none⟩) 3 3] w (.bool false):=by
 obtain⟨m,f,j,C⟩:∃m,m<3∧pN k≤(fun i=>match i with|0=>x|1=>y|_=>z1:Nat→Nat) m∧∀i,i<m→(fun i=>match i with|0=>x|1=>y|_=>z1:Nat→Nat) i<pN k:=by
  by_cases hx:x<pN k
  ·by_cases hy:y<pN k
   ·refine⟨2,by decide,Nat.le_of_not_lt fun D=>h ⟨hx,hy,D⟩,fun i d=>?_⟩
    obtain rfl|rfl:i=0∨i=1:=by omega
    ·exact hx
    ·exact hy
   ·refine⟨1,by decide,Nat.le_of_not_lt hy,fun i d=>?_⟩
    obtain rfl:i=0:=by omega
    exact hx
  ·exact⟨0,by decide,Nat.le_of_not_lt hx,fun i d=>absurd d (Nat.not_lt_zero i)⟩
 exact jbelow_off (k:Int) (pN k) A.val B.val N X Y s z l (pN_M k) 3 (by decide) (fun i=>match i with|0=>x|1=>y|_=>z1)
  (fun i _=>match i with|0=>lx|1=>ly|_+2=>lz) _
  (fun i d=>by
   obtain rfl|rfl|rfl:i=0∨i=1∨i=2:=by omega
   ·kernel_rfl
   ·kernel_rfl
   ·kernel_rfl) (by simp[nw_size]) m f j C q 3 w hv
theorem holdsT{k:Nat}(h1:1≤k)(h2:k≤15){T:T3}{Q:Q3}(h:TrQ k T Q)(w:World):
 Cg 90 #[.agg (cuN k),.agg (pjT T)] w (.bool true):=by
 haveI:=EC.nzP k h1 h2
 have f:=h;obtain⟨-,X,Y,Z,rfl,-⟩:=f;obtain⟨i,d⟩:=tr_tri h1 h2 h
 have e:Y*Y*Z=X*X*X+EC.aF k h1 h2*X*Z*Z+EC.bF k h1 h2*Z*Z*Z:=by rw[d];clear d h;grobner
 exact jholds_2 (A:=EC.aF k h1 h2) (B:=EC.bF k h1 h2) _ _ true (by
  rw[eqF0 h1 h2,eqF0 h1 h2,eqF0 h1 h2];simp only[Bool.and_eq_false_iff,decide_eq_false_iff_not]
  by_cases hx:X=0
  ·by_cases hy:Y=0
   ·exact .inr (.inr fun j=>i ⟨hx,hy,j⟩)
   ·exact .inr (.inl hy)
  ·exact .inl hx) (fun w q x=>belowT w q x) (fun w=>jleft h1 h2 rfl w) (fun w=>jright h1 h2 rfl rfl rfl rfl w) (by rw[e];exact eqN_self _ _) w
theorem holdsF{k:Nat}(h1:1≤k)(h2:k≤15){T:T3}(lT:T.1<M∧T.2.1<M∧T.2.2<M)(h:∀Q,¬TrQ k T Q)(w:World):
 Cg 90 #[.agg (cuN k),.agg (pjT T)] w (.bool false):=by
 haveI:=EC.nzP k h1 h2
 obtain⟨x,y,z⟩:=T;obtain⟨f,D,G⟩:=lT;have i:=Nat.lt_of_le_of_lt (Nat.zero_le _) f
 by_cases h0:x=0∧y=0∧z=0
 ·obtain⟨rfl,rfl,rfl⟩:=h0;exact jholds_0 (A:=EC.aF k h1 h2) (B:=EC.bF k h1 h2) w
 have d:(eqN 9 x 0&&(eqN 9 y 0&&eqN 9 z 0))=false:=by
  rw[eqN9 _ _ f i,eqN9 _ _ D i,eqN9 _ _ G i];simp only[Bool.and_eq_false_iff,decide_eq_false_iff_not]
  by_cases hx:x=0
  ·by_cases hy:y=0
   ·exact .inr (.inr fun j=>h0 ⟨hx,hy,j⟩)
   ·exact .inr (.inl hy)
  ·exact .inl hx
 by_cases hb:x<pN k∧y<pN k∧z<pN k
 ·obtain⟨X,rfl⟩:∃X:Fin (pN k),x=X.val:=⟨⟨x,hb.1⟩,rfl⟩;obtain⟨Y,rfl⟩:∃Y:Fin (pN k),y=Y.val:=⟨⟨y,hb.2.1⟩,rfl⟩;obtain⟨Z,rfl⟩:∃Z:Fin (pN k),z=Z.val:=⟨⟨z,hb.2.2⟩,rfl⟩;have H:¬EC.Tri (EC.aF k h1 h2) (EC.bF k h1 h2) X Y Z:=fun t=>h _ (tri_tr h1 h2 t);have j:¬(X=0∧Y=0∧Z=0):=fun⟨a,b,c⟩=>h0 ⟨by rw[a];exact Fin.val_zero _,by rw[b];exact Fin.val_zero _,by rw[c];exact Fin.val_zero _⟩;refine jholds_2 (A:=EC.aF k h1 h2) (B:=EC.bF k h1 h2) _ _ false d (fun w q C=>belowT w q C) (fun w=>jleft h1 h2 rfl w) (fun w=>jright h1 h2 rfl rfl rfl rfl w) ?_ w;rw[eqN9 _ _ (Nat.lt_trans (Fin.isLt _) (pN_M k)) (Nat.lt_trans (Fin.isLt _) (pN_M k))];refine decide_eq_false fun e=>H ⟨j,?_⟩;rw[Fin.ext e]
  grobner
 ·exact jholds_1 (A:=EC.aF k h1 h2) (B:=EC.bF k h1 h2) x y z d (fun w q C=>belowF x y z f D G hb w q C) w
theorem rowT1{T:T3}(i:Nat)(hi:i<1):(pjT T).extract (i*27) (i*27+27)=pjT ((fun _=>T:Nat→T3) i):=by
 obtain rfl:i=0:=by omega
 kernel_rfl
theorem rowT2{S T:T3}(i:Nat)(hi:i<2):(pjT S++pjT T).extract (i*27) (i*27+27)=pjT ((fun i=>match i with|0=>S|_=>T:Nat→T3) i):=by
 obtain rfl|rfl:i=0∨i=1:=by omega
 ·kernel_rfl
 ·kernel_rfl
theorem jgf1{k:Nat}(h1:1≤k)(h2:k≤15){T:T3}{Q:Q3}(hT:TrQ k T Q)(w:World)(b:Nat)(hv:Vr w b (pjT T)):Cg 61 #[.int .i64 k,.slice (some ⟨b,0,none⟩) 1 1] w (.tuple #[.agg (cuN k),.int .i64 0]):=
 jgf_yes h1 h2 1 (by decide) (fun _=>T) _ rowT1 (by simp[prj_size]) (fun _ _ w=>holdsT h1 h2 hT w) b 1 w hv
theorem jgf1_off{k:Nat}(h1:1≤k)(h2:k≤15){T:T3}(lT:T.1<M∧T.2.1<M∧T.2.2<M)(hT:∀Q,¬TrQ k T Q)(w:World)(b:Nat)(hv:Vr w b (pjT T)):Cg 61 #[.int .i64 k,.slice (some ⟨b,0,none⟩) 1 1] w (.tuple #[.agg (cu 0 0 0 0 0 0 0 0 0 false),.int .i64 1501]):=
 jgf_off h1 h2 1 (by decide) (fun _=>T) _ rowT1 (by simp[prj_size]) 0 (by decide) (fun w=>holdsF h1 h2 lT hT w) (fun i h=>absurd h (Nat.not_lt_zero i)) b 1 w hv
theorem jgf2{k:Nat}(h1:1≤k)(h2:k≤15){S T:T3}{P Q:Q3}(hS:TrQ k S P)(hT:TrQ k T Q)(w:World)(b:Nat)(hv:Vr w b (pjT S++pjT T)):Cg 61 #[.int .i64 k,.slice (some ⟨b,0,none⟩) 2 2] w (.tuple #[.agg (cuN k),.int .i64 0]):=
 jgf_yes h1 h2 2 (by decide) (fun i=>match i with|0=>S|_=>T) _ rowT2 (by simp[prj_size]) (fun i _ w=>match i with|0=>holdsT h1 h2 hS w|_+1=>holdsT h1 h2 hT w) b 2 w hv
theorem jgf2_off{k:Nat}(h1:1≤k)(h2:k≤15){S T:T3}(lS:S.1<M∧S.2.1<M∧S.2.2<M)(lT:T.1<M∧T.2.1<M∧T.2.2<M)(h:(∀Q,¬TrQ k S Q)∨(∀Q,¬TrQ k T Q))(w:World)(b:Nat)(hv:Vr w b (pjT S++pjT T)):Cg 61 #[.int .i64 k,.slice (some ⟨b,0,none⟩) 2 2] w (.tuple #[.agg (cu 0 0 0 0 0 0 0 0 0 false),.int .i64 1501]):=by
 by_cases hS:∃Q,TrQ k S Q
 ·obtain⟨Q,hS⟩:=hS;have d:=h.resolve_left fun g=>g Q hS
  exact jgf_off h1 h2 2 (by decide) (fun i=>match i with|0=>S|_=>T) _ rowT2 (by simp[prj_size]) 1 (by decide) (fun w=>holdsF h1 h2 lT d w) (fun i f w=>by
   obtain rfl:i=0:=by omega
   exact holdsT h1 h2 hS w) b 2 w hv
 ·exact jgf_off h1 h2 2 (by decide) (fun i=>match i with|0=>S|_=>T) _ rowT2 (by simp[prj_size]) 0 (by decide) (fun w=>holdsF h1 h2 lS (fun Q g=>hS ⟨Q,g⟩) w) (fun i h=>absurd h (Nat.not_lt_zero i)) b 2 w hv
theorem pointQ{k:Nat}(h1:1≤k)(h2:k≤15){T:T3}{Q:Q3}(hT:TrQ k T Q)(w:World):Cg 62 #[.agg (cuN k),.agg (pjT T)] w (.agg (pnQ Q)):=by
 haveI:=EC.nzP k h1 h2
 have e:=hT.pt h1 h2;obtain⟨-,X,Y,Z,rfl,-⟩:=hT;rw[ptT_is]at e
 by_cases hz:Z=0
 ·rw[if_pos hz]at e;subst e hz;have h:=jpt_inf (k:=k) (A:=EC.aF k h1 h2) (B:=EC.bF k h1 h2) (N:=oN k) (X:=xN k) (Y:=yN k) (s:=bl (oN k)) (z:=szN k) (l:=lgN k) X.val Y.val w;rw[←Fin.val_zero (pN k)]at h;exact h
 ·rw[if_neg hz]at e;subst e;exact jpt_fin h1 h2 (A:=EC.aF k h1 h2) (B:=EC.bF k h1 h2) (by rw[eqF0 h1 h2];exact decide_eq_false hz) (fun w=>finvF h1 h2 Z hz w) rfl rfl w
theorem gaddT{k:Nat}(h1:1≤k)(h2:k≤15){S T R:T3}{P Q:Q3}(hS:TrQ k S P)(hT:TrQ k T Q)(hR:addT k S T=R)(w:World):Cg 63 #[.agg (cuN k),.agg (pjT S),.agg (pjT T)] w (.agg (pjT R)):=by
 haveI:=EC.nzP k h1 h2
 subst hR;obtain⟨-,d,f,h,rfl,-⟩:=hS;obtain⟨-,i,j,q,rfl,-⟩:=hT;rw[addT_is h1 h2]
 exact jadd_of h1 h2 (A:=EC.aF k h1 h2) (B:=EC.bF k h1 h2)
  rfl rfl rfl rfl rfl rfl rfl rfl rfl rfl rfl rfl rfl rfl rfl rfl rfl rfl rfl rfl rfl rfl rfl rfl rfl rfl (by unfold EC.pX;grobner) rfl rfl (by unfold EC.pY;grobner) rfl rfl (by unfold EC.pZ;grobner) w
def frT(P:Q3):T3:=cond P.2.2 (0,1,0) (P.1,P.2.1,1)
theorem frT_tr{k:Nat}(h1:1≤k)(h2:k≤15){P:Q3}(hP:OnQ k P):TrQ k (frT P) P:=by
 rcases hP.cases with rfl|⟨x,y,rfl,-⟩
 ·exact inf_tr h1 h2 (prm_pN k h1 h2).1 (by decide)
 ·exact one_tr h1 h2 hP
theorem triQ(P:Q3)(w:World):Cg 67 #[.agg (pnQ P)] w (.agg (pjT (frT P))):=by
 obtain⟨x,y,f⟩:=P
 cases f with
 | true=>exact jtri_inf x y w
 | false=>exact jtri_fin x y w
theorem fromQ{k:Nat}(h1:1≤k)(h2:k≤15){P:Q3}{T:T3}(hP:OnQ k P)(hT:frT P=T)(w:World):Cg 34 #[.int .i64 k,.agg (pnQ P)] w (.tuple #[.agg (pjT T),.int .i64 0]):=by
 subst hT;exact jfrom_yes (fun w=>jgf_nil h1 h2 w) (fun w=>(show onB k P.1 P.2.1 P.2.2=true from hP)▸on13_yes k h1 h2 _ _ P.2.2 hP.lt.1 hP.lt.2 w) (triQ P) w
theorem from_off{k:Nat}(h1:1≤k)(h2:k≤15){P:Q3}(lP:P.1<M∧P.2.1<M)(hP:onB k P.1 P.2.1 P.2.2=false)(w:World):Cg 34 #[.int .i64 k,.agg (pnQ P)] w (.tuple #[.agg (prj 0 0 0),.int .i64 1501]):=
 jfrom_off (fun w=>jgf_nil h1 h2 w) (fun w=>hP▸on13_yes k h1 h2 _ _ P.2.2 lP.1 lP.2 w) w
theorem toQ{k:Nat}(h1:1≤k)(h2:k≤15){T:T3}{Q:Q3}(hT:TrQ k T Q)(w:World):Cg 27 #[.int .i64 k,.agg (pjT T)] w (.tuple #[.agg (pnQ Q),.int .i64 0]):=
 jto_yes (jgf1 h1 h2 hT) (pointQ h1 h2 hT) w
theorem to_off{k:Nat}(h1:1≤k)(h2:k≤15){T:T3}(lT:T.1<M∧T.2.1<M∧T.2.2<M)(hT:∀Q,¬TrQ k T Q)(w:World):Cg 27 #[.int .i64 k,.agg (pjT T)] w (.tuple #[.agg (pnt 0 0 false),.int .i64 1501]):=
 jto_err _ _ (by decide) (jgf1_off h1 h2 lT hT) w
theorem jaddQ{k:Nat}(h1:1≤k)(h2:k≤15){S T R:T3}{P Q:Q3}(hS:TrQ k S P)(hT:TrQ k T Q)(hR:addT k S T=R)(w:World):Cg 28 #[.int .i64 k,.agg (pjT S),.agg (pjT T)] w (.tuple #[.agg (pjT R),.int .i64 0]):=
 jadd_yes (jgf2 h1 h2 hS hT) (gaddT h1 h2 hS hT hR) w
theorem jadd_off{k:Nat}(h1:1≤k)(h2:k≤15){S T:T3}(lS:S.1<M∧S.2.1<M∧S.2.2<M)(lT:T.1<M∧T.2.1<M∧T.2.2<M)(h:(∀Q,¬TrQ k S Q)∨(∀Q,¬TrQ k T Q))(w:World):Cg 28 #[.int .i64 k,.agg (pjT S),.agg (pjT T)] w (.tuple #[.agg (prj 0 0 0),.int .i64 1501]):=
 jadd_err _ _ (by decide) (jgf2_off h1 h2 lS lT h) w
theorem jdblQ{k:Nat}(h1:1≤k)(h2:k≤15){T R:T3}{Q:Q3}(hT:TrQ k T Q)(hR:addT k T T=R)(w:World):Cg 29 #[.int .i64 k,.agg (pjT T)] w (.tuple #[.agg (pjT R),.int .i64 0]):=
 jdouble_yes (jgf1 h1 h2 hT) (gaddT h1 h2 hT hT hR) w
theorem jdbl_off{k:Nat}(h1:1≤k)(h2:k≤15){T:T3}(lT:T.1<M∧T.2.1<M∧T.2.2<M)(hT:∀Q,¬TrQ k T Q)(w:World):Cg 29 #[.int .i64 k,.agg (pjT T)] w (.tuple #[.agg (prj 0 0 0),.int .i64 1501]):=
 jdouble_err _ _ (by decide) (jgf1_off h1 h2 lT hT) w
theorem from_no(x:Int)(h:x<1∨15<x)(P:Q3)(w:World):Cg 34 #[.int .i64 x,.agg (pnQ P)] w (.tuple #[.agg (prj 0 0 0),.int .i64 1500]):=jfrom_err _ _ (by decide) (fun w=>jgf_no x h _ _ _ w) w
theorem to_no(x:Int)(h:x<1∨15<x)(T:T3)(w:World):Cg 27 #[.int .i64 x,.agg (pjT T)] w (.tuple #[.agg (pnt 0 0 false),.int .i64 1500]):=jto_err _ _ (by decide) (fun w _ _=>jgf_no x h _ _ _ w) w
theorem jadd_no(x:Int)(h:x<1∨15<x)(S T:T3)(w:World):Cg 28 #[.int .i64 x,.agg (pjT S),.agg (pjT T)] w (.tuple #[.agg (prj 0 0 0),.int .i64 1500]):=jadd_err _ _ (by decide) (fun w _ _=>jgf_no x h _ _ _ w) w
theorem jdbl_no(x:Int)(h:x<1∨15<x)(T:T3)(w:World):Cg 29 #[.int .i64 x,.agg (pjT T)] w (.tuple #[.agg (prj 0 0 0),.int .i64 1500]):=jdouble_err _ _ (by decide) (fun w _ _=>jgf_no x h _ _ _ w) w
end
section
attribute [local go_sem ↓] uz1
attribute [local go_sem] uz2
section
attribute [local go_sem] uz7
attribute [local go_sem ↓] uz12 Go.wp_at_zero Go.wp_at_succ
attribute [local go_sem] uz13
attribute [local go_sem ↓] uz16
attribute [local go_sem] uz17
theorem zero_no{k:Nat}(h1:1≤k)(h2:k≤15)(Q:Q3):¬TrQ k (0,0,0) Q:=fun h=>by
 haveI:=EC.nzP k h1 h2
 have d:TrQ k ((0:Fin (pN k)).val,(0:Fin (pN k)).val,(0:Fin (pN k)).val) Q:=by rw[Fin.val_zero];exact h
 exact(tr_tri h1 h2 d).1 ⟨rfl,rfl,rfl⟩
theorem awake15_any(w:World):Cg 30 #[] w (.bool true):=by
 have J:1≤13:=by decide
 have H:13≤15:=by decide
 have oG:OnQ 13 (2,84,false):=gQ_on J H
 have hD:plQ 13 (2,84,false) (2,84,false)=(241,78,false):=by decide +kernel
 have hR:addT 13 (2,84,1) (2,84,1)=(90,51,242):=by decide +kernel
 have K:TrQ 13 (2,84,1) (2,84,false):=one_tr J H oG;have V:TrQ 13 (90,51,242) (241,78,false):=hR▸hD▸addT_tr J H K K;have ae:Hid (∀w,Calls prog 16 #[.int .i64 13] w (GetQ 13 w)):=fun w=>getq_yes 13 J H w;have af:Hid (∀w,Cg 34 #[.int .i64 13,.agg (pnt 2 84 false)] w (.tuple #[.agg (prj 2 84 1),.int .i64 0])):=fun w=>fromQ (k:=13) J H (P:=(2,84,false)) (T:=(2,84,1)) oG rfl w;have ag:Hid (∀w,Cg 34 #[.int .i64 0,.agg (pnt 2 84 false)] w (.tuple #[.agg (prj 0 0 0),.int .i64 1500])):=fun w=>from_no 0 (by decide) (2,84,false) w;have ah:Hid (∀w,Cg 27 #[.int .i64 13,.agg (prj 2 84 1)] w (.tuple #[.agg (pnt 2 84 false),.int .i64 0])):=fun w=>toQ (k:=13) J H K w;have ai:Hid (∀w,Cg 27 #[.int .i64 13,.agg (prj 90 51 242)] w (.tuple #[.agg (pnt 241 78 false),.int .i64 0])):=fun w=>toQ (k:=13) J H V w;have aj:Hid (∀w,Cg 27 #[.int .i64 13,.agg (prj 0 0 0)] w (.tuple #[.agg (pnt 0 0 false),.int .i64 1501])):=fun w=>to_off (k:=13) J H (T:=(0,0,0)) ⟨by decide +kernel,by decide +kernel,by decide +kernel⟩ (zero_no J H) w;have ak:Hid (∀w,Cg 29 #[.int .i64 13,.agg (prj 2 84 1)] w (.tuple #[.agg (prj 90 51 242),.int .i64 0])):=fun w=>jdblQ (k:=13) J H K hR w;clear K V hR
 go_enter func30,ntmps30
 go_upto_region 2 with (go_at_call 16;refine(ae.out _).mono ?_;rintro e WB ⟨L,rfl,A,GB⟩)
 obtain⟨e1,S⟩:=exl (WB.heap.size);simp only[S]
 refine gen_w (fun v=>Gr w v∧Vr v e1 (crA 13 (nN 13) L)∧∀j,Sl v (L j).1 (nN 13 j)) ?_ ?_
 ·subst S;exact⟨GB.alloc _,Vr.new _ _ _,fun j=>(A j).gr ((Gr.refl _).alloc _)⟩
 clear S GB A;rintro v0 ⟨G,C,A⟩;refine wp_v false [.c (.agg (crA 13 (nN 13) L)),.pt (2) (84) false,.c (.agg (pnt 2 84 false)),.a,.u] [0,1,2] [⟨3,4,35,pnt 0 0 false,fun _=>pnt 2 84 false⟩] ⟨.g 27 0 C rfl,.k _ fun x U d I=>RtW.of_pt (rg_any (k:=13) L _ (fun j=>(A j).gr d)),.k (fun x =>#[.agg (ptA (x 1 0).1 (2) (x 1 0).2 (x 1 1).1 (84) (x 1 1).2 false)]) fun x U d I=>RtW.of_c (Rt.c (rout_any _ _ _ _ _ _ _ _ (I 1 rfl).1 (I 1 rfl).2)),⟨⟩⟩ ⟨.k zPnt ⟨fkc,fkp bPnt,fkc,fka,fku,trivial⟩,⟨⟩⟩ fun W v1 d H ao=>?_;simp only[fzw,Kw.a];obtain⟨⟨ax,f⟩,-⟩:(v0.heap.size≤(W 3 0).2∧Vr v1 (W 3 0).2 (pnt 2 84 false))∧True:=ao;clear H;replace G:=G.trans d;replace C:=C.gr d;replace A:=fun k=>(A k).gr d;clear d
 go_upto_region 3 with fail
 refine wp_v false [.c (.agg (pnt 2 84 false)),.E (.agg (prj 2 84 1)),.E (.agg (prj 2 84 1)),.c (.agg (prj 2 84 1)),.O,.a,.u,.O] [0,1] [⟨5,6,53,prj 0 0 0,fun _=>prj 2 84 1⟩] ⟨.g 35 0 f rfl,.z af.out,⟨⟩⟩ ⟨.k zPj (.t rfl),⟨⟩⟩ fun X v2 d h3 ap=>?_;simp only[fzw,Kw.a];obtain⟨⟨ay,h⟩,-⟩:(v1.heap.size≤(X 5 0).2∧Vr v2 (X 5 0).2 (prj 2 84 1))∧True:=ap;clear h3;replace G:=G.trans d;replace C:=C.gr d;replace f:=f.gr d;replace A:=fun k=>(A k).gr d;clear d
 go_upto_region 4 with fail
 refine wp_v false [.c (.agg (prj 2 84 1)),.E (.agg (pnt 2 84 false)),.E (.agg (pnt 2 84 false)),.c (.agg (pnt 2 84 false)),.O,.a,.u,.O] [0,1] [⟨5,6,35,pnt 0 0 false,fun _=>pnt 2 84 false⟩] ⟨.g 53 0 h rfl,.z ah.out,⟨⟩⟩ ⟨.k zPnt (.t rfl),⟨⟩⟩ fun Y v3 d h4 aq=>?_;simp only[fzw,Kw.a];obtain⟨⟨az,i⟩,-⟩:(v2.heap.size≤(Y 5 0).2∧Vr v3 (Y 5 0).2 (pnt 2 84 false))∧True:=aq;clear h4;replace G:=G.trans d;replace C:=C.gr d;replace f:=f.gr d;replace h:=h.gr d;replace A:=fun k=>(A k).gr d;clear d
 go_upto_region 5 with fail
 refine wp_v false [.c (.agg (prj 2 84 1)),.E (.agg (prj 90 51 242)),.E (.agg (prj 90 51 242)),.c (.agg (prj 90 51 242)),.O,.a,.u,.O] [0,1] [⟨5,6,53,prj 0 0 0,fun _=>prj 90 51 242⟩] ⟨.g 53 0 h rfl,.z ak.out,⟨⟩⟩ ⟨.k zPj (.t rfl),⟨⟩⟩ fun Z v4 d h5 ar=>?_;simp only[fzw,Kw.a];obtain⟨⟨aA,q⟩,-⟩:(v3.heap.size≤(Z 5 0).2∧Vr v4 (Z 5 0).2 (prj 90 51 242))∧True:=ar;clear h5;replace G:=G.trans d;replace C:=C.gr d;replace f:=f.gr d;replace h:=h.gr d;replace i:=i.gr d;replace A:=fun k=>(A k).gr d;clear d
 go_upto_region 6 with fail
 refine wp_v false [.c (.agg (prj 90 51 242)),.E (.agg (pnt 241 78 false)),.E (.agg (pnt 241 78 false)),.c (.agg (pnt 241 78 false)),.O,.a,.u,.O] [0,1] [⟨5,6,35,pnt 0 0 false,fun _=>pnt 241 78 false⟩] ⟨.g 53 0 q rfl,.z ai.out,⟨⟩⟩ ⟨.k zPnt (.t rfl),⟨⟩⟩ fun aa v5 d h6 au=>?_;simp only[fzw,Kw.a];obtain⟨⟨aB,B⟩,-⟩:(v4.heap.size≤(aa 5 0).2∧Vr v5 (aa 5 0).2 (pnt 241 78 false))∧True:=au;clear h6;replace G:=G.trans d;replace C:=C.gr d;replace f:=f.gr d;replace h:=h.gr d;replace i:=i.gr d;replace q:=q.gr d;replace A:=fun k=>(A k).gr d;clear d
 go_upto_region 7 with fail
 refine wp_v false [.c (.agg (prj 0 0 0)),.c (.tuple #[.agg (pnt 0 0 false),.int .i64 1501]),.c (.tuple #[.agg (pnt 0 0 false),.int .i64 1501]),.c (.agg (pnt 0 0 false)),.c (.int .i64 1501),.a,.u,.c (.int .i64 1501)] [1] [⟨5,6,35,pnt 0 0 false,fun _=>pnt 0 0 false⟩] ⟨.z aj.out,⟨⟩⟩ ⟨.k zPnt (.t rfl),⟨⟩⟩ fun ab v6 d h7 av=>?_;simp only[fzw,Kw.a];obtain⟨⟨aC,D⟩,-⟩:(v5.heap.size≤(ab 5 0).2∧Vr v6 (ab 5 0).2 (pnt 0 0 false))∧True:=av;clear h7;replace G:=G.trans d;replace C:=C.gr d;replace f:=f.gr d;replace h:=h.gr d;replace i:=i.gr d;replace q:=q.gr d;replace B:=B.gr d;replace A:=fun k=>(A k).gr d;clear d
 go_upto_region 8 with fail
 refine wp_v false [.c (.agg (pnt 2 84 false)),.c (.tuple #[.agg (prj 0 0 0),.int .i64 1500]),.c (.tuple #[.agg (prj 0 0 0),.int .i64 1500]),.c (.agg (prj 0 0 0)),.c (.int .i64 1500),.a,.u,.c (.int .i64 1500)] [0,1] [⟨5,6,53,prj 0 0 0,fun _=>prj 0 0 0⟩] ⟨.g 35 0 f rfl,.z ag.out,⟨⟩⟩ ⟨.k zPj (.t rfl),⟨⟩⟩ fun ac v7 d h8 aw=>?_;simp only[fzw,Kw.a];obtain⟨⟨aD,Q⟩,-⟩:(v6.heap.size≤(ac 5 0).2∧Vr v7 (ac 5 0).2 (prj 0 0 0))∧True:=aw;clear h8;replace G:=G.trans d;replace C:=C.gr d;replace f:=f.gr d;replace h:=h.gr d;replace i:=i.gr d;replace q:=q.gr d;replace B:=B.gr d;replace D:=D.gr d;replace A:=fun k=>(A k).gr d;clear d
 go_upto_region 9 with fail
 refine wp_w [.O,.O,.T,.T,.c (.agg (pnt 2 84 false)),.c (.agg (pnt 2 84 false)),.T,.T,.T,.O,.O,.T,.T,.T,.O,.O,.T,.T,.T,.c (.agg (pnt 241 78 false)),.c (.agg (crA 13 (nN 13) L)),.c (.agg (crA 13 (nN 13) L)),.pt (2) (84) false,.c (.agg (crA 13 (nN 13) L)),.pt (2) (84) false,.pt (241) (78) false,.c (.agg (pnt 241 78 false)),.T,.T,.T,.c (.int .i64 1501),.c (.int .i64 1501),.T,.T,.T,.c (.int .i64 1500),.c (.int .i64 1500),.T,.T,.T] [1,4,5,6,10,15,19,20,21,22,23,24,25,26,27,31,36] ?hs8 ?hf8
 case hs8=>
  exact⟨.y (num_any _),.g 35 0 i rfl,.g 35 0 f rfl,.s (.binOp .eql 35 (.const (.agg (pnt 2 84 false))) (.const (.agg (pnt 2 84 false))) 35) rfl fun U d=>by simp[go_sem,exI,eqPn,eqN_self],.y (num_any _),.y (num_any _),.g 35 0 B rfl,.g 27 0 C rfl,.g 27 0 C rfl,.k _ fun x U d I=>RtW.of_pt (rg_any (k:=13) L _ (fun j=>(A j).gr d)),.g 27 0 C rfl,.k _ fun x U d I=>RtW.of_pt (rg_any (k:=13) L _ (fun j=>(A j).gr d)),.k (fun x =>#[.agg (crA 13 (nN 13) L),.agg (ptA (x 22 0).1 (2) (x 22 0).2 (x 22 1).1 (84) (x 22 1).2 false),.agg (ptA (x 24 0).1 (2) (x 24 0).2 (x 24 1).1 (84) (x 24 1).2 false)]) fun x U d I=>RtW.of_pt (hD▸rplusQ 13 J H L oG oG (fun j=>(A j).gr d) (I 22 rfl).1 (I 22 rfl).2 (I 24 rfl).1 (I 24 rfl).2),.k (fun x =>#[.agg (ptA (x 25 0).1 (241) (x 25 0).2 (x 25 1).1 (78) (x 25 1).2 false)]) fun x U d I=>RtW.of_c (Rt.c (rout_any _ _ _ _ _ _ _ _ (I 25 rfl).1 (I 25 rfl).2)),.s (.binOp .eql 35 (.const (.agg (pnt 241 78 false))) (.const (.agg (pnt 241 78 false))) 35) rfl fun U d=>by simp[go_sem,exI,eqPn,eqN_self],.y (num_any _),.y (num_any _),⟨⟩⟩
 intro aE v8 d h9;simp only[fzw];clear h9;replace G:=G.trans d;replace C:=C.gr d;replace f:=f.gr d;replace h:=h.gr d;replace i:=i.gr d;replace q:=q.gr d;replace B:=B.gr d;replace D:=D.gr d;replace Q:=Q.gr d;replace A:=fun k=>(A k).gr d;clear d
 go_wp2_with fail
 go_ret
 exact⟨rfl,G⟩
theorem dr_is{k:Nat}(h1:1≤k)(h2:k≤15){n:Nat}(hn:n<18446744073709551616){A:Q3}(hA:mlQ k n (gQ k)=A){T:T3}(hT:frT A=T)(qc:Nat→Option Addr×Nat)(w:World)(HQ:∀j,Sl w (qc j).1 (nN k j)):
 Cg 41 #[.agg (crA (k:Int) (nN k) qc),.int .u64 n] w (.tuple #[.agg (pjT T),.agg (pnQ A),.bool true]):=by
 have hM:n<M:=lt_M _ hn
 have hd:dl n≤400:=by have:=dl_M n hM;omega
 have oA:OnQ k A:=hA▸mlQ_on h1 h2 _ (gQ_on h1 h2)
 go_enter func41,ntmps41
 go_upto_region 1 with fail
 refine gen_w (fun v=>Gr w v∧Vr v (w.heap.size) (crA (k:Int) (nN k) qc)∧Vr v (w.heap.size+1) (prj 0 0 0)∧Vr v (w.heap.size+1+1) (pnt 0 0 false)) ⟨grA,vrA,vrA,vrA⟩ ?_;rintro Z ⟨G,B,C,D⟩;have aa:=C.p;have ab:=D.p;replace HQ:=fun k=>(HQ k).gr G;refine wp_v true [.c (.agg (crA (k:Int) (nN k) qc)),.c (.int .u64 n),.N n,.n (n),.c (.agg (crA (k:Int) (nN k) qc)),.pt (xN k) (yN k) false,.pt (A.1) (A.2.1) A.2.2,.c (.agg (pnQ A)),.a,.u] [0,2,3,4,5,6,7] [⟨8,9,35,pnt 0 0 false,fun _=>pnQ A⟩] ⟨.g 27 0 B rfl,.z (one_any _ hn),.k _ fun i X f q=>RtW.of_n (fm_any hM),.g 27 0 B rfl,.k _ fun i X f q=>RtW.of_pt (rg_any qc _ (fun j=>(HQ j).gr f)),.k (fun i =>#[.agg (crA (k:Int) (nN k) qc),.slice (i 3 0).1 (dl (n)) (i 3 0).2,.agg (ptA (i 5 0).1 (xN k) (i 5 0).2 (i 5 1).1 (yN k) (i 5 1).2 false)]) fun i X f q=>RtW.of_pt (hA▸rtimesQ k h1 h2 qc (gQ_on h1 h2) hd (fun j=>(HQ j).gr f) (q 3 rfl) (q 5 rfl).1 (q 5 rfl).2),.k (fun i =>#[.agg (ptA (i 6 0).1 (A.1) (i 6 0).2 (i 6 1).1 (A.2.1) (i 6 1).2 A.2.2)]) fun i X f q=>RtW.of_c (Rt.c (rout_any _ _ _ _ _ _ _ _ (q 6 rfl).1 (q 6 rfl).2)),⟨⟩⟩ ⟨.k zPnt ⟨fkc,fkc,fkc,fkn bPnt,fkc,fkp bPnt,fkp bPnt,fkc,fka,fku,trivial⟩,⟨⟩⟩ fun I Y f h1 ac=>?_;simp only[fzw,Kw.a];obtain⟨⟨P,h⟩,-⟩:(Z.heap.size≤(I 8 0).2∧Vr Y (I 8 0).2 (pnQ A))∧True:=ac;clear h1;replace G:=G.trans f;replace B:=B.gr f;replace C:=C.gr f;replace D:=D.gr f;replace HQ:=fun k=>(HQ k).gr f;clear f;have l4:w.heap.size+1+1≤Y.heap.size:=C.p;have l5:w.heap.size+1+1+1≤Y.heap.size:=D.p
 go_upto_region 2 with fail
 refine wp_v false [.c (pv (w.heap.size) 0),.c (.int .i64 k),.c (.agg (pnQ A)),.E (.agg (pjT T)),.E (.agg (pjT T)),.c (.agg (pjT T)),.O,.a,.u,.O] [1,2,3] [⟨7,8,53,prj 0 0 0,fun _=>pjT T⟩] ⟨.o 3 0 B rfl rfl,.g 35 0 h rfl,.z (fromQ h1 h2 oA hT),⟨⟩⟩ ⟨.k zPj (.t rfl),⟨⟩⟩ fun J v2 f h2 ae=>?_;simp only[fzw,Kw.a];obtain⟨⟨Q,x⟩,-⟩:(Y.heap.size≤(J 7 0).2∧Vr v2 (J 7 0).2 (pjT T))∧True:=ae;clear h2;replace G:=G.trans f;replace B:=B.gr f;replace C:=C.gr f;replace D:=D.gr f;replace h:=h.gr f;replace HQ:=fun k=>(HQ k).gr f;clear f;obtain⟨e7,S⟩:=exl ((I 8 0).2);obtain⟨e8,U⟩:=exl ((J 7 0).2);rw[S]at h P;rw[U]at x Q;have k4:w.heap.size+1+1≤Z.heap.size:=aa;have k5:w.heap.size+1+1+1≤Z.heap.size:=ab
 go_upto_region 3 with fail
 simp only[Nat.zero_add,Nat.reduceAdd,S,U];refine wp_u true [.c (.agg (pjT T)),.c (.agg (pnQ A)),.c (.int .i64 0),.c (.int .i64 0),.c (.bool true),.u,.u,.c (.bool true)] [0,1,3] [⟨5,53,w.heap.size+1,pjT T⟩,⟨6,35,w.heap.size+1+1,pnQ A⟩] (fun v=>Gr w v∧Vr v e7 (pnQ A)∧Vr v e8 (pjT T)∧Vs v (w.heap.size+1) 27∧Vs v (w.heap.size+1+1) 19) ⟨G,h,x,C.vs (prj_size _ _ _),D.vs (pnt_size _ _ _)⟩ (fun _ _ ⟨a,b,c,d,e⟩ g=>⟨a.trans g,b.gr g,c.gr g,d.gr g,e.gr g⟩) ?hs ?hu (by simp) ?hf
 case hs=>
  rintro X ⟨G,V,W,K,L⟩;exact⟨.g 53 0 W rfl,.g 35 0 V rfl,.y (num_any _),⟨⟩⟩
 case hu=>
  refine .cons (.mk fun v ⟨G,V,W,K,L⟩=>?_) (.cons (.mk fun v ⟨G,V,W,K,L⟩=>?_) .nil)
  ·have H:=K.1;have F:=K.2.1;refine⟨by dsimp only;simp[go_sem,exI,H,F],⟨gr_setNew G (by simp),V.other (by dsimp only;omega),W.other (by dsimp only;omega),K.set (prj_size _ _ _) (by decide),L.other (by simp)⟩,by dsimp only;rw[H];decide,K.2.2⟩
  ·have H:=L.1;have F:=L.2.1;refine⟨by dsimp only;simp[go_sem,exI,H,F],⟨gr_setNew G (by dsimp only;omega),V.other (by dsimp only;omega),W.other (by dsimp only;omega),K.other (by simp),L.set (pnt_size _ _ _) (by decide)⟩,by dsimp only;rw[H];decide,L.2.2⟩
 rintro v9 ⟨G9,-,-,-,-⟩ ⟨af,ag,-⟩;simp only[fzw]
 go_wp2_with fail
 exact bodyPost_ret (res_three results41 (rd_pj (by rfl) af) (rd_pn (by rfl) ag) (rd_tmp (by rfl))) rfl ⟨rfl,G9⟩
end
end
end Go.Proofs.YtffhepbppiocbabGreat