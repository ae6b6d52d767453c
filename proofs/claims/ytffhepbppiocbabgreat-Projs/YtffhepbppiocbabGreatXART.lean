import Derived.Test.YtffhepbppiocbabGreatXAAP
namespace Go.Proofs.YtffhepbppiocbabGreat
open Go.RowKit Go.Proofs.Tryz
set_option maxRecDepth 100000
set_option maxHeartbeats 8000000
section
attribute [local go_sem ↓] uz1
attribute [local go_sem] uz2
section
attribute [local go_sem] uz7
attribute [local go_sem ↓] uz10 Go.wp_at_zero Go.wp_at_succ
attribute [local go_sem] uz11
theorem aadd_yes{k:Nat}{P Q R:Q3}(HG':(∀w b,Vr w b (pnQ P++pnQ Q)→Cg 55 #[.int .i64 k,.slice (some ⟨b,0,none⟩) 2 2] w (.tuple #[.agg (cuK k),.int .i64 0])))(HA':∀w,Cg 56 #[.agg (cuK k),.agg (pnQ P),.agg (pnQ Q)] w (.agg (pnQ R)))(w:World):
 Cg 18 #[.int .i64 k,.agg (pnQ P),.agg (pnQ Q)] w (.tuple #[.agg (pnQ R),.int .i64 0]):=by
 have C:Hid _:=HG';have D:Hid _:=HA';clear HG' HA'
 go_enter func18,ntmps18
 go_upto_region 1 with fail
 refine gen_w (fun v=>Hid (Gr w v∧Vr v (w.heap.size) (pnQ P)∧Vr v (w.heap.size+1) (pnQ Q)∧Vr v (w.heap.size+1+1) (pnt 0 0 false))) ⟨grA,vrA,vrA,vrA⟩ ?_;intro v0 x;obtain⟨G,h,i,j⟩:=x.out;clear x;refine wp_v false [.c (.int .i64 k),.c (.agg (pnQ P)),.c (.agg (pnQ Q)),.r 2 (pnQ P++pnQ Q),.E (.agg (cuK k)),.E (.agg (cuK k)),.c (.agg (cuK k)),.O,.a,.u,.O] [1,2,3,4] [⟨8,9,98,cu 0 0 0 0 0 0 0 0 0 false,fun _=>cuK k⟩] ⟨.g 35 0 h rfl,.g 35 0 i rfl,.r (.buildSlice 133 2 #[(0,.const (.agg (pnQ P))),(1,.const (.agg (pnQ Q)))]) rfl (rowP2 _ _ _ _ _ _),.k (fun A =>#[.int .i64 k,.slice (some ⟨(A 3 0).2,0,none⟩) 2 2]) fun A vv d H=>RtW.of_c (Rt.c (C.out _ _ (H 3 rfl))),⟨⟩⟩ ⟨.k zCu ⟨fkc,fkc,fkc,fkr (by simp[cu_size,pnt_size]),fkc,fkc,fkc,fkc,fka,fku,fkc,trivial⟩,⟨⟩⟩ fun I v1 d J q=>?_;simp only[fzw,Kw.a,Kw.r];obtain⟨⟨B,f⟩,-⟩:=q;clear J;replace G:=G.trans d;replace h:=h.gr d;replace i:=i.gr d;replace j:=j.gr d;clear d
 go_upto_region 2 with fail
 refine wp_wS [.O,.F] [] ⟨⟩ fun K v2 d L=>?_;simp only[fzw];clear L;replace G:=G.trans d;replace h:=h.gr d;replace i:=i.gr d;replace j:=j.gr d;replace f:=f.gr d;clear d;have S:=h.al;have⟨U,V,W⟩:=i;have X:=j.al;have⟨Y,Z,aa⟩:=f
 go_wp2_with (go_at_call 56;refine hkA D fun g=>?_)
 refine bo2 results18 (rd_pn (by rfl) ?_) ⟨rfl,?_⟩
 ·simp[go_sem, *]
 ·exact grB
theorem aadd_err(id er:Int)(hne:¬er=0){P Q:Q3}(HG':(∀w b,Vr w b (pnQ P++pnQ Q)→Cg 55 #[.int .i64 id,.slice (some ⟨b,0,none⟩) 2 2] w (.tuple #[.agg (cu 0 0 0 0 0 0 0 0 0 false),.int .i64 er])))(w:World):
 Cg 18 #[.int .i64 id,.agg (pnQ P),.agg (pnQ Q)] w (.tuple #[.agg (pnt 0 0 false),.int .i64 er]):=by
 have C:Hid _:=HG';clear HG'
 go_enter func18,ntmps18
 go_upto_region 1 with fail
 refine gen_w (fun v=>Hid (Gr w v∧Vr v (w.heap.size) (pnQ P)∧Vr v (w.heap.size+1) (pnQ Q)∧Vr v (w.heap.size+1+1) (pnt 0 0 false))) ⟨grA,vrA,vrA,vrA⟩ ?_;intro v0 q;obtain⟨G,h,f,i⟩:=q.out;clear q;refine wp_v false [.c (.int .i64 id),.c (.agg (pnQ P)),.c (.agg (pnQ Q)),.r 2 (pnQ P++pnQ Q),.c (.tuple #[.agg (cu 0 0 0 0 0 0 0 0 0 false),.int .i64 er]),.c (.tuple #[.agg (cu 0 0 0 0 0 0 0 0 0 false),.int .i64 er]),.c (.agg (cu 0 0 0 0 0 0 0 0 0 false)),.c (.int .i64 er),.a,.u,.c (.int .i64 er)] [1,2,3,4] [⟨8,9,98,cu 0 0 0 0 0 0 0 0 0 false,fun _=>cu 0 0 0 0 0 0 0 0 0 false⟩] ⟨.g 35 0 h rfl,.g 35 0 f rfl,.r (.buildSlice 133 2 #[(0,.const (.agg (pnQ P))),(1,.const (.agg (pnQ Q)))]) rfl (rowP2 _ _ _ _ _ _),.k (fun x =>#[.int .i64 id,.slice (some ⟨(x 3 0).2,0,none⟩) 2 2]) fun x D d H=>RtW.of_c (Rt.c (C.out _ _ (H 3 rfl))),⟨⟩⟩ ⟨.k zCu ⟨fkc,fkc,fkc,fkr (by simp[cu_size,pnt_size]),fkc,fkc,fkc,fkc,fka,fku,fkc,trivial⟩,⟨⟩⟩ fun I v1 d J j=>?_;simp only[fzw,Kw.a,Kw.r];obtain⟨⟨A,B⟩,-⟩:=j;clear J;replace G:=G.trans d;replace h:=h.gr d;replace f:=f.gr d;replace i:=i.gr d;clear d
 go_upto_region 2 with fail
 refine wp_wS [.c (.int .i64 er),.T] [1] ⟨.s (.binOp .neq 37 (.const (.int .i64 er)) (.const (.int .i64 0)) 37) rfl fun D d=>by simp[go_sem,exI,hne],⟨⟩⟩ fun K v2 d L=>?_;simp only[fzw];clear L;replace G:=G.trans d;replace h:=h.gr d;replace f:=f.gr d;replace i:=i.gr d;have⟨S,U,V,W,X,Y⟩:=f.pp;have⟨Z,aa,ab⟩:=i
 go_wp2_with fail
 refine bo2 results18 (rd_pn (by rfl) ?_) ⟨rfl,?_⟩
 ·simp[go_sem, *]
 ·exact grB
theorem aneg_yes{k:Nat}{P R:Q3}(HG':(∀w b,Vr w b (pnQ P)→Cg 55 #[.int .i64 k,.slice (some ⟨b,0,none⟩) 1 1] w (.tuple #[.agg (cuK k),.int .i64 0])))(HA':∀w,Cg 57 #[.agg (cuK k),.agg (pnQ P)] w (.agg (pnQ R)))(w:World):
 Cg 19 #[.int .i64 k,.agg (pnQ P)] w (.tuple #[.agg (pnQ R),.int .i64 0]):=by
 have B:Hid _:=HG';have C:Hid _:=HA';clear HG' HA'
 go_enter func19,ntmps19
 go_upto_region 1 with fail
 refine gen_w (fun v=>Hid (Gr w v∧Vr v (w.heap.size) (pnQ P)∧Vr v (w.heap.size+1) (pnt 0 0 false))) ⟨grA,vrA,vrA⟩ ?_;intro Y q;obtain⟨G,h,i⟩:=q.out;clear q;refine wp_v false [.c (.int .i64 k),.c (.agg (pnQ P)),.r 1 (pnQ P),.E (.agg (cuK k)),.E (.agg (cuK k)),.c (.agg (cuK k)),.O,.a,.u,.O] [1,2,3] [⟨7,8,98,cu 0 0 0 0 0 0 0 0 0 false,fun _=>cuK k⟩] ⟨.g 35 0 h rfl,.r (.buildSlice 133 1 #[(0,.const (.agg (pnQ P)))]) rfl (rowP1 _ _ _),.k (fun x =>#[.int .i64 k,.slice (some ⟨(x 2 0).2,0,none⟩) 1 1]) fun x Z f D=>RtW.of_c (Rt.c (B.out _ _ (D 2 rfl))),⟨⟩⟩ ⟨.k zCu ⟨fkc,fkc,fkr (by simp[cu_size,pnt_size]),fkc,fkc,fkc,fkc,fka,fku,fkc,trivial⟩,⟨⟩⟩ fun H v1 f I j=>?_;simp only[fzw,Kw.a,Kw.r];obtain⟨⟨A,d⟩,-⟩:=j;clear I;replace G:=G.trans f;replace h:=h.gr f;replace i:=i.gr f;clear f
 go_upto_region 2 with fail
 refine wp_wS [.O,.F] [] ⟨⟩ fun J v2 f K=>?_;simp only[fzw];clear K;replace G:=G.trans f;replace h:=h.gr f;replace i:=i.gr f;replace d:=d.gr f;have L:=h.al;have⟨Q,S,U⟩:=i;have⟨V,W,X⟩:=d
 go_wp2_with (go_at_call 57;refine hkA C fun g=>?_)
 refine bo2 results19 (rd_pn (by rfl) ?_) ⟨rfl,?_⟩
 ·simp[go_sem, *]
 ·exact grB
theorem aneg_err(id er:Int)(hne:¬er=0){P:Q3}(HG':(∀w b,Vr w b (pnQ P)→Cg 55 #[.int .i64 id,.slice (some ⟨b,0,none⟩) 1 1] w (.tuple #[.agg (cu 0 0 0 0 0 0 0 0 0 false),.int .i64 er])))(w:World):
 Cg 19 #[.int .i64 id,.agg (pnQ P)] w (.tuple #[.agg (pnt 0 0 false),.int .i64 er]):=by
 have B:Hid _:=HG';clear HG'
 go_enter func19,ntmps19
 go_upto_region 1 with fail
 refine gen_w (fun v=>Hid (Gr w v∧Vr v (w.heap.size) (pnQ P)∧Vr v (w.heap.size+1) (pnt 0 0 false))) ⟨grA,vrA,vrA⟩ ?_;intro Q j;obtain⟨G,h,f⟩:=j.out;clear j;refine wp_v false [.c (.int .i64 id),.c (.agg (pnQ P)),.r 1 (pnQ P),.c (.tuple #[.agg (cu 0 0 0 0 0 0 0 0 0 false),.int .i64 er]),.c (.tuple #[.agg (cu 0 0 0 0 0 0 0 0 0 false),.int .i64 er]),.c (.agg (cu 0 0 0 0 0 0 0 0 0 false)),.c (.int .i64 er),.a,.u,.c (.int .i64 er)] [1,2,3] [⟨7,8,98,cu 0 0 0 0 0 0 0 0 0 false,fun _=>cu 0 0 0 0 0 0 0 0 0 false⟩] ⟨.g 35 0 h rfl,.r (.buildSlice 133 1 #[(0,.const (.agg (pnQ P)))]) rfl (rowP1 _ _ _),.k (fun q =>#[.int .i64 id,.slice (some ⟨(q 2 0).2,0,none⟩) 1 1]) fun q C d D=>RtW.of_c (Rt.c (B.out _ _ (D 2 rfl))),⟨⟩⟩ ⟨.k zCu ⟨fkc,fkc,fkr (by simp[cu_size,pnt_size]),fkc,fkc,fkc,fkc,fka,fku,fkc,trivial⟩,⟨⟩⟩ fun H S d I i=>?_;simp only[fzw,Kw.a,Kw.r];obtain⟨⟨x,A⟩,-⟩:=i;clear I;replace G:=G.trans d;replace h:=h.gr d;replace f:=f.gr d;clear d
 go_upto_region 2 with fail
 refine wp_wS [.c (.int .i64 er),.T] [1] ⟨.s (.binOp .neq 37 (.const (.int .i64 er)) (.const (.int .i64 0)) 37) rfl fun C d=>by simp[go_sem,exI,hne],⟨⟩⟩ fun J U d K=>?_;simp only[fzw];clear K;replace G:=G.trans d;replace f:=f.gr d;have L:=f.al
 go_wp2_with fail
 refine bo2 results19 (rd_pn (by rfl) ?_) ⟨rfl,?_⟩
 ·simp[go_sem, *]
 ·exact grB
theorem amul_yes{k:Nat}{P R:Q3}(t:Nat)(HG':(∀w b,Vr w b (pnQ P)→Cg 55 #[.int .i64 k,.slice (some ⟨b,0,none⟩) 1 1] w (.tuple #[.agg (cuK k),.int .i64 0])))(HA':∀w,Cg 60 #[.agg (cuK k),.agg (nw 9 t),.agg (pnQ P)] w (.agg (pnQ R)))(w:World):
 Cg 25 #[.int .i64 k,.agg (nw 9 t),.agg (pnQ P)] w (.tuple #[.agg (pnQ R),.int .i64 0]):=by
 have D:Hid _:=HG';have H:Hid _:=HA';clear HG' HA'
 go_enter func25,ntmps25
 go_upto_region 1 with fail
 refine gen_w (fun v=>Hid (Gr w v∧Vr v (w.heap.size) (nw 9 t)∧Vr v (w.heap.size+1) (pnQ P)∧Vr v (w.heap.size+1+1) (pnt 0 0 false))) ⟨grA,vrA,vrA,vrA⟩ ?_;intro I A;obtain⟨G,i,h,j⟩:=A.out;clear A;refine wp_v false [.c (.int .i64 k),.c (.agg (pnQ P)),.r 1 (pnQ P),.E (.agg (cuK k)),.E (.agg (cuK k)),.c (.agg (cuK k)),.O,.a,.u,.O] [1,2,3] [⟨7,8,98,cu 0 0 0 0 0 0 0 0 0 false,fun _=>cuK k⟩] ⟨.g 35 0 h rfl,.r (.buildSlice 133 1 #[(0,.const (.agg (pnQ P)))]) rfl (rowP1 _ _ _),.k (fun B =>#[.int .i64 k,.slice (some ⟨(B 2 0).2,0,none⟩) 1 1]) fun B Y f J=>RtW.of_c (Rt.c (D.out _ _ (J 2 rfl))),⟨⟩⟩ ⟨.k zCu ⟨fkc,fkc,fkr (by simp[cu_size,pnt_size]),fkc,fkc,fkc,fkc,fka,fku,fkc,trivial⟩,⟨⟩⟩ fun q K f L x=>?_;simp only[fzw,Kw.a,Kw.r];obtain⟨⟨C,d⟩,-⟩:(I.heap.size≤(q 7 0).2∧Vr K (q 7 0).2 (cuK k))∧True:=x;clear L;replace G:=G.trans f;replace i:=i.gr f;replace h:=h.gr f;replace j:=j.gr f;clear f
 go_upto_region 2 with fail
 refine wp_wS [.O,.F] [] ⟨⟩ fun Q Z f S=>?_;simp only[fzw];clear S;replace G:=G.trans f;replace i:=i.gr f;replace h:=h.gr f;replace j:=j.gr f;replace d:=d.gr f;clear f;have U:=i.al;have V:=h.al;have W:=j.al;have X:=d.al;clear i h j d
 go_wp2_with (go_at_call 60;refine hkA H fun g=>?_)
 refine bo2 results25 (rd_pn (by rfl) ?_) ⟨rfl,?_⟩
 ·simp[go_sem, *]
 ·exact grB
theorem gf1{k:Nat}(h1:1≤k)(h2:k≤15){P:Q3}(hP:OnQ k P)(w:World)(b:Nat)(hv:Vr w b (pnQ P)):Cg 55 #[.int .i64 k,.slice (some ⟨b,0,none⟩) 1 1] w (.tuple #[.agg (cuK k),.int .i64 0]):=
 gf_yes h1 h2 1 (by decide) (fun _=>P) (fun _ _=>hP.lt) _ (fun i d=>by
  obtain rfl:i=0:=by omega
  kernel_rfl) (by simp[pnt_size]) (fun _ _=>hP) b 1 w hv
theorem gf2{k:Nat}(h1:1≤k)(h2:k≤15){P Q:Q3}(hP:OnQ k P)(hQ:OnQ k Q)(w:World)(b:Nat)(hv:Vr w b (pnQ P++pnQ Q)):Cg 55 #[.int .i64 k,.slice (some ⟨b,0,none⟩) 2 2] w (.tuple #[.agg (cuK k),.int .i64 0]):=
 gf_yes h1 h2 2 (by decide) (fun i=>match i with|0=>P|_=>Q) (fun i _=>match i with|0=>hP.lt|_+1=>hQ.lt) _ (fun i d=>by
  obtain rfl|rfl:i=0∨i=1:=by omega
  ·kernel_rfl
  ·kernel_rfl) (by simp[pnt_size]) (fun i _=>match i with|0=>hP|_+1=>hQ) b 2 w hv
theorem gf2_off{k:Nat}(h1:1≤k)(h2:k≤15){P Q:Q3}(lP:P.1<M∧P.2.1<M)(lQ:Q.1<M∧Q.2.1<M)(h:onB k P.1 P.2.1 P.2.2=false∨onB k Q.1 Q.2.1 Q.2.2=false)(w:World)(b:Nat)(hv:Vr w b (pnQ P++pnQ Q)):Cg 55 #[.int .i64 k,.slice (some ⟨b,0,none⟩) 2 2] w (.tuple #[.agg (cu 0 0 0 0 0 0 0 0 0 false),.int .i64 1401]):=by
 by_cases hP:onB k P.1 P.2.1 P.2.2=true
 ·have f:=h.resolve_left (by rw[hP];decide)
  exact gf_off h1 h2 2 (by decide) (fun i=>match i with|0=>P|_=>Q) (fun i _=>match i with|0=>lP|_+1=>lQ) _ (fun i d=>by
  obtain rfl|rfl:i=0∨i=1:=by omega
  ·kernel_rfl
  ·kernel_rfl) (by simp[pnt_size]) 1 (by decide) f (fun i d=>by
   obtain rfl:i=0:=by omega
   exact hP) b 2 w hv
 ·exact gf_off h1 h2 2 (by decide) (fun i=>match i with|0=>P|_=>Q) (fun i _=>match i with|0=>lP|_+1=>lQ) _ (fun i d=>by
  obtain rfl|rfl:i=0∨i=1:=by omega
  ·kernel_rfl
  ·kernel_rfl) (by simp[pnt_size]) 0 (by decide) (Bool.eq_false_iff.2 hP) (fun i h=>absurd h (Nat.not_lt_zero i)) b 2 w hv
theorem addQ{k:Nat}(h1:1≤k)(h2:k≤15){P Q R:Q3}(hP:OnQ k P)(hQ:OnQ k Q)(hR:plQ k P Q=R)(w:World):Cg 18 #[.int .i64 k,.agg (pnQ P),.agg (pnQ Q)] w (.tuple #[.agg (pnQ R),.int .i64 0]):=aadd_yes (gf2 h1 h2 hP hQ) (gaddQ h1 h2 hP hQ hR) w
theorem negQ{k:Nat}(h1:1≤k)(h2:k≤15){P R:Q3}(hP:OnQ k P)(hR:ngQ k P=R)(w:World):Cg 19 #[.int .i64 k,.agg (pnQ P)] w (.tuple #[.agg (pnQ R),.int .i64 0]):=aneg_yes (gf1 h1 h2 hP) (gnegQ h1 h2 hP hR) w
theorem mulQ{k:Nat}(h1:1≤k)(h2:k≤15){P R:Q3}(hP:OnQ k P){t:Nat}(ht:t<M)(hR:mlQ k t P=R)(w:World):Cg 25 #[.int .i64 k,.agg (nw 9 t),.agg (pnQ P)] w (.tuple #[.agg (pnQ R),.int .i64 0]):=amul_yes t (gf1 h1 h2 hP) (hR▸gmulQ h1 h2 hP t ht) w
theorem add_off{k:Nat}(h1:1≤k)(h2:k≤15){P Q:Q3}(lP:P.1<M∧P.2.1<M)(lQ:Q.1<M∧Q.2.1<M)(h:onB k P.1 P.2.1 P.2.2=false∨onB k Q.1 Q.2.1 Q.2.2=false)(w:World):Cg 18 #[.int .i64 k,.agg (pnQ P),.agg (pnQ Q)] w (.tuple #[.agg (pnt 0 0 false),.int .i64 1401]):=aadd_err _ _ (by decide) (gf2_off h1 h2 lP lQ h) w
theorem neg_no(x:Int)(h:x<1∨15<x)(P:Q3)(w:World):Cg 19 #[.int .i64 x,.agg (pnQ P)] w (.tuple #[.agg (pnt 0 0 false),.int .i64 1400]):=aneg_err _ _ (by decide) (fun w _ _=>gf_no x h _ _ _ w) w
end
section
attribute [local go_sem ↓] uz8 Go.wp_at_zero Go.wp_at_succ
attribute [local go_sem] uz9
theorem ron_inf(id:Int)(P A B N X Y:Nat)(qc:Nat→Option Addr×Nat)(x y:Nat)(p q:Option Addr)(n m:Nat)(w:World)(HQ:∀k,Sl w (qc k).1 (six P A B N X Y k))(Sx:Sl w p x)(Sy:Sl w q y):
 Cg 35 #[.agg (crA id (six P A B N X Y) qc),.agg (ptA p x n q y m true)] w (.bool (decide (x=0)&&decide (y=0))):=by
 go_enter func35,ntmps35
 go_upto_region 1 with fail
 refine gen_w (fun v=>Gr w v∧Vr v (w.heap.size) (crA id (six P A B N X Y) qc)∧Vr v (w.heap.size+1) (ptA p x n q y m true)) ⟨grA,vrA,vrA⟩ ?_;rintro K ⟨G,j,f⟩;replace HQ:=fun k=>(HQ k).gr G;replace Sx:=Sx.gr G;replace Sy:=Sy.gr G;refine wp_wS [.c (pv (w.heap.size+1) 2),.T] [1] ⟨.o 4 2 f rfl rfl,⟨⟩⟩ fun D C d H=>?_;simp only[fzw];clear H;replace G:=G.trans d;replace j:=j.gr d;replace f:=f.gr d;replace HQ:=fun k=>(HQ k).gr d;replace Sx:=Sx.gr d;replace Sy:=Sy.gr d;clear d
 have I:C.cell? ⟨w.heap.size+1,0,none⟩=some (.slice p (dl x) n):=by rw[cell_blk,f.h];rfl
 have J:C.cell? ⟨w.heap.size+1,1,none⟩=some (.slice q (dl y) m):=by rw[cell_blk,f.h];rfl
 by_cases hx:x=0
 ·have i:=dl_nought x;rw[decide_eq_true hx]at i;have L:=dl_nought y
  go_wp2_with fail
  go_ret
  exact⟨by simp[hx],G⟩
 ·have i:=dl_nought x;rw[decide_eq_false hx]at i
  go_wp2_with fail
  go_ret
  exact⟨by simp[hx],G⟩
theorem ron_x(id:Int)(P A B N X Y:Nat)(qc:Nat→Option Addr×Nat)(x y:Nat)(p q:Option Addr)(n m:Nat)(hx4:dl x≤400)(hd:dl P≤400)(hx:P≤x)(w:World)(HQ:∀k,Sl w (qc k).1 (six P A B N X Y k))(Sx:Sl w p x)(Sy:Sl w q y):
 Cg 35 #[.agg (crA id (six P A B N X Y) qc),.agg (ptA p x n q y m false)] w (.bool false):=by
 obtain⟨i,ex⟩:=exl (cmpZ x P)
 have j:decide (0≤i)=true:=by rw[←ex];unfold cmpZ;rw[if_neg (by omega)];split <;> decide
 go_enter func35,ntmps35
 go_upto_region 1 with fail
 refine gen_w (fun v=>Gr w v∧Vr v (w.heap.size) (crA id (six P A B N X Y) qc)∧Vr v (w.heap.size+1) (ptA p x n q y m false)) ⟨grA,vrA,vrA⟩ ?_;rintro L ⟨G,h,f⟩;replace HQ:=fun k=>(HQ k).gr G;replace Sx:=Sx.gr G;replace Sy:=Sy.gr G;refine wp_wS [.c (pv (w.heap.size+1) 2),.F] [1] ⟨.o 4 2 f rfl rfl,⟨⟩⟩ fun C Q d D=>?_;simp only[fzw];clear D;replace G:=G.trans d;replace h:=h.gr d;replace f:=f.gr d;replace HQ:=fun k=>(HQ k).gr d;replace Sx:=Sx.gr d;replace Sy:=Sy.gr d;clear d
 go_upto_region 3 with fail
 refine wp_wS [.c (pv (w.heap.size+1) 0),.c (.slice p (dl (x)) n),.c (pv (w.heap.size) 1),.c (.slice (qc 0).1 (dl (P)) (qc 0).2),.c (.int .i64 i),.T,.T,.u,.u,.u,.u,.u,.u,.T] [1,3,4,5] ⟨.o 25 0 f rfl rfl,.o 25 1 h rfl rfl,.k (fun H =>#[.slice p (dl (x)) n,.slice (qc 0).1 (dl (P)) (qc 0).2]) fun H I d S=>RtW.of_c (cz_any (Sx.gr d) ((HQ 0).gr d) hx4 hd ex),.s (.binOp .geq 3 (.const (.int .i64 i)) (.const (.int .i64 0)) 3) rfl fun I d=>by simp[go_sem,exI,j],⟨⟩⟩ fun J U d K=>?_;simp only[fzw];clear K;replace G:=G.trans d;replace h:=h.gr d;replace f:=f.gr d;replace HQ:=fun k=>(HQ k).gr d;replace Sx:=Sx.gr d;replace Sy:=Sy.gr d;clear d
 go_wp2_with fail
 go_ret
 exact⟨rfl,G⟩
theorem ron_y(id:Int)(P A B N X Y:Nat)(qc:Nat→Option Addr×Nat)(x y:Nat)(p q:Option Addr)(n m:Nat)(hx4:dl x≤400)(hy4:dl y≤400)(hd:dl P≤400)(hx:x<P)(hy:P≤y)(w:World)(HQ:∀k,Sl w (qc k).1 (six P A B N X Y k))(Sx:Sl w p x)(Sy:Sl w q y):
 Cg 35 #[.agg (crA id (six P A B N X Y) qc),.agg (ptA p x n q y m false)] w (.bool false):=by
 obtain⟨i,ex⟩:=exl (cmpZ x P)
 have I:decide (0≤i)=false:=by rw[←ex];unfold cmpZ;rw[if_pos hx];decide
 obtain⟨j,ey⟩:=exl (cmpZ y P)
 have C:decide (0≤j)=true:=by rw[←ey];unfold cmpZ;rw[if_neg (by omega)];split <;> decide
 go_enter func35,ntmps35
 go_upto_region 1 with fail
 refine gen_w (fun v=>Gr w v∧Vr v (w.heap.size) (crA id (six P A B N X Y) qc)∧Vr v (w.heap.size+1) (ptA p x n q y m false)) ⟨grA,vrA,vrA⟩ ?_;rintro U ⟨G,h,f⟩;replace HQ:=fun k=>(HQ k).gr G;replace Sx:=Sx.gr G;replace Sy:=Sy.gr G;refine wp_wS [.c (pv (w.heap.size+1) 2),.F] [1] ⟨.o 4 2 f rfl rfl,⟨⟩⟩ fun J V d K=>?_;simp only[fzw];clear K;replace G:=G.trans d;replace h:=h.gr d;replace f:=f.gr d;replace HQ:=fun k=>(HQ k).gr d;replace Sx:=Sx.gr d;replace Sy:=Sy.gr d;clear d
 go_upto_region 3 with fail
 refine wp_wS [.c (pv (w.heap.size+1) 0),.c (.slice p (dl (x)) n),.c (pv (w.heap.size) 1),.c (.slice (qc 0).1 (dl (P)) (qc 0).2),.c (.int .i64 i),.F,.F,.c (pv (w.heap.size+1) 1),.c (.slice q (dl (y)) m),.c (pv (w.heap.size) 1),.c (.slice (qc 0).1 (dl (P)) (qc 0).2),.c (.int .i64 j),.T,.T] [1,3,4,5,8,10,11,12] ⟨.o 25 0 f rfl rfl,.o 25 1 h rfl rfl,.k (fun D =>#[.slice p (dl (x)) n,.slice (qc 0).1 (dl (P)) (qc 0).2]) fun D H d L=>RtW.of_c (cz_any (Sx.gr d) ((HQ 0).gr d) hx4 hd ex),.s (.binOp .geq 3 (.const (.int .i64 i)) (.const (.int .i64 0)) 3) rfl fun H d=>by simp[go_sem,exI,I],.o 25 1 f rfl rfl,.o 25 1 h rfl rfl,.k (fun D =>#[.slice q (dl (y)) m,.slice (qc 0).1 (dl (P)) (qc 0).2]) fun D H d L=>RtW.of_c (cz_any (Sy.gr d) ((HQ 0).gr d) hy4 hd ey),.s (.binOp .geq 3 (.const (.int .i64 j)) (.const (.int .i64 0)) 3) rfl fun H d=>by simp[go_sem,exI,C],⟨⟩⟩ fun Q W d S=>?_;simp only[fzw];clear S;replace G:=G.trans d;replace h:=h.gr d;replace f:=f.gr d;replace HQ:=fun k=>(HQ k).gr d;replace Sx:=Sx.gr d;replace Sy:=Sy.gr d;clear d
 go_wp2_with fail
 go_ret
 exact⟨rfl,G⟩
theorem ron_ok(id:Int)(P A B N X Y:Nat)(qc:Nat→Option Addr×Nat)(x y:Nat)(p q:Option Addr)(n m:Nat)(hx4:dl x≤400)(hy4:dl y≤400)(hd:dl P≤400)(lx:x<P)(ly:y<P)(lA:A<P)(lB:B<P)(w:World)(HQ:∀k,Sl w (qc k).1 (six P A B N X Y k))(Sx:Sl w p x)(Sy:Sl w q y):
 Cg 35 #[.agg (crA id (six P A B N X Y) qc),.agg (ptA p x n q y m false)] w (.bool (decide (y*y%P=((x*x%P+A)%P*x%P+B)%P))):=by
 have S:0<P:=by omega
 obtain⟨J,ex⟩:=exl (cmpZ x P)
 have W:decide (0≤J)=false:=by rw[←ex];unfold cmpZ;rw[if_pos lx];decide
 obtain⟨K,ey⟩:=exl (cmpZ y P)
 have L:decide (0≤K)=false:=by rw[←ey];unfold cmpZ;rw[if_pos ly];decide
 obtain⟨I,j⟩:=exl (y*y%P);have Z:I<P:=j▸Nat.mod_lt _ S;obtain⟨R,C⟩:=exl (((x*x%P+A)%P*x%P+B)%P);have lR:R<P:=C▸Nat.mod_lt _ S;rw[C,j];obtain⟨Q,U⟩:=exl (cmpZ I R);obtain⟨r,V⟩:=exl (decide (I=R))
 have bz:(Q==0)=r:=by rw[←U,←V];exact cmpZ_nought _ _
 rw[V]
 go_enter func35,ntmps35
 go_upto_region 1 with fail
 refine gen_w (fun v=>Gr w v∧Vr v (w.heap.size) (crA id (six P A B N X Y) qc)∧Vr v (w.heap.size+1) (ptA p x n q y m false)) ⟨grA,vrA,vrA⟩ ?_;rintro v0 ⟨G,i,h⟩;replace HQ:=fun k=>(HQ k).gr G;replace Sx:=Sx.gr G;replace Sy:=Sy.gr G;refine wp_wS [.c (pv (w.heap.size+1) 2),.F] [1] ⟨.o 4 2 h rfl rfl,⟨⟩⟩ fun aa v1 d h1=>?_;simp only[fzw];clear h1;replace G:=G.trans d;replace i:=i.gr d;replace h:=h.gr d;replace HQ:=fun k=>(HQ k).gr d;replace Sx:=Sx.gr d;replace Sy:=Sy.gr d;clear d
 go_upto_region 3 with fail
 refine wp_wS [.c (pv (w.heap.size+1) 0),.c (.slice p (dl (x)) n),.c (pv (w.heap.size) 1),.c (.slice (qc 0).1 (dl (P)) (qc 0).2),.c (.int .i64 J),.F,.F,.c (pv (w.heap.size+1) 1),.c (.slice q (dl (y)) m),.c (pv (w.heap.size) 1),.c (.slice (qc 0).1 (dl (P)) (qc 0).2),.c (.int .i64 K),.F,.F] [1,3,4,5,8,10,11,12] ⟨.o 25 0 h rfl rfl,.o 25 1 i rfl rfl,.k (fun f =>#[.slice p (dl (x)) n,.slice (qc 0).1 (dl (P)) (qc 0).2]) fun f D d H=>RtW.of_c (cz_any (Sx.gr d) ((HQ 0).gr d) hx4 hd ex),.s (.binOp .geq 3 (.const (.int .i64 J)) (.const (.int .i64 0)) 3) rfl fun D d=>by simp[go_sem,exI,W],.o 25 1 h rfl rfl,.o 25 1 i rfl rfl,.k (fun f =>#[.slice q (dl (y)) m,.slice (qc 0).1 (dl (P)) (qc 0).2]) fun f D d H=>RtW.of_c (cz_any (Sy.gr d) ((HQ 0).gr d) hy4 hd ey),.s (.binOp .geq 3 (.const (.int .i64 K)) (.const (.int .i64 0)) 3) rfl fun D d=>by simp[go_sem,exI,L],⟨⟩⟩ fun ab v2 d h3=>?_;simp only[fzw];clear h3;replace G:=G.trans d;replace i:=i.gr d;replace h:=h.gr d;replace HQ:=fun k=>(HQ k).gr d;replace Sx:=Sx.gr d;replace Sy:=Sy.gr d;clear d
 go_upto_region 5 with fail
 refine wp_w [.c (pv (w.heap.size+1) 1),.c (.slice q (dl (y)) m),.c (pv (w.heap.size+1) 1),.c (.slice q (dl (y)) m),.c (pv (w.heap.size) 1),.c (.slice (qc 0).1 (dl (P)) (qc 0).2),.n (I),.c (.agg (crA id (six P A B N X Y) qc)),.c (pv (w.heap.size+1) 0),.c (.slice p (dl (x)) n),.n (R),.c (.int .i64 Q),.c (.bool r),.c (.bool r)] [1,3,5,6,7,9,10,11,12] ⟨.o 25 1 h rfl rfl,.o 25 1 h rfl rfl,.o 25 1 i rfl rfl,.k (fun f =>#[.slice q (dl (y)) m,.slice q (dl (y)) m,.slice (qc 0).1 (dl (P)) (qc 0).2]) fun f D d H=>RtW.of_n (mm_any (Sy.gr d) (Sy.gr d) ((HQ 0).gr d) ly ly hd j),.g 27 0 i rfl,.o 25 0 h rfl rfl,.k (fun f =>#[.agg (crA id (six P A B N X Y) qc),.slice p (dl (x)) n]) fun f D d H=>RtW.of_n (Rt.n (C▸rright_any id P A B N X Y qc x _ _ lx lA lB hd _ (fun k=>(HQ k).gr d) (Sx.gr d))),.k (fun f =>#[.slice (f 6 0).1 (dl (I)) (f 6 0).2,.slice (f 10 0).1 (dl (R)) (f 10 0).2]) fun f D d H=>RtW.of_c (cz_any (H 6 rfl) (H 10 rfl) (dl_low _ P 400 (by omega) hd) (dl_low _ P 400 (by omega) hd) U),.s (.binOp .eql 3 (.const (.int .i64 Q)) (.const (.int .i64 0)) 3) rfl fun D d=>by simp[go_sem,exI,bz],⟨⟩⟩ fun ac v3 d h5=>?_;simp only[fzw];clear h5;replace G:=G.trans d;replace i:=i.gr d;replace h:=h.gr d;replace HQ:=fun k=>(HQ k).gr d;replace Sx:=Sx.gr d;replace Sy:=Sy.gr d;clear d
 go_wp2_with fail
 go_ret
 exact⟨rfl,G⟩
end
section
attribute [local go_sem ↓] uz8 Go.wp_at_zero Go.wp_at_succ
attribute [local go_sem] uz9
attribute [local go_sem] frz_setBlk blk_setBlk setBlk_setBlk
section
variable {P:Nat} [NeZero P] {i:Fin P→Fin P} {A B:Fin P}
theorem rtimes_any(C:EC.Cur i A B)(hd:dl P≤400)(id:Int)(N X Y:Nat)(qc:Nat→Option Addr×Nat)(k nk:Nat)(pk:Option Addr)(hk:dl k≤400)(Q:Option (Fin P×Fin P))(hQ:EC.On A B Q)(p q:Option Addr)(n m:Nat)(w:World)(HQ:∀k,Sl w (qc k).1 (six P A.val B.val N X Y k))(Sk:Sl w pk k)(Sx:Sl w p (ex Q))(Sy:Sl w q (ey Q)):
 Calls prog 38 #[.agg (crA id (six P A.val B.val N X Y) qc),.slice pk (dl k) nk,.agg (ptA p (ex Q) n q (ey Q) m (ef Q))] w (Rt (.pt (ex (EC.ml i A k Q)) (ey (EC.ml i A k Q)) (ef (EC.ml i A k Q))) w):=by
 obtain⟨L,hL⟩:=exl (bl k)
 have az:(L:Int)≤12800:=by
  have:(bl k+31)/32≤400:=hk
  omega
 have aA:(0:Int)≤L:=by omega
 have HB:Hid _:=fun w' g=>hL▸rbits_any k nk pk w' (Sk.gr g) (by omega);have HZ:Hu (k/2^L=0):=fun _=>Nat.div_eq_of_lt (hL▸(bl_le k (bl k)).1 (Nat.le_refl _))
 have ax:Hu (L≤12800):=fun _=>by omega
 clear hL
 go_enter func38,ntmps38
 go_upto_region 3 with (go_at_call 71;refine(HB.out _ grA).mono ?_;rintro e w' ⟨rfl,rfl⟩)
 obtain⟨W,ak⟩:=exl (w.heap.size+1+1+1);simp only[ak]
 refine gen_w (fun v=>Hid (Gr w v∧Vr v (w.heap.size) (crA id (six P A.val B.val N X Y) qc)∧Vr v (w.heap.size+1) (ptA p (ex Q) n q (ey Q) m (ef Q))∧Vr v (w.heap.size+1+1) (ptA none 0 0 none 0 0 false)∧Vr v W (ptA none 0 0 none 0 0 true))) ?_ ?_
 ·subst ak;exact⟨grA,⟨by simp[go_sem],by simp[go_sem],by simp[go_sem]⟩,⟨by simp[go_sem],by simp[go_sem],by simp[go_sem]⟩,⟨by simp[go_sem],by simp[go_sem],by simp[go_sem]⟩,⟨by simp[go_sem],by simp[go_sem],by simp[go_sem]⟩⟩
 intro v0 HV
 have ab:W≠w.heap.size:=by omega
 have ac:W≠w.heap.size+1:=by omega
 have ae:W≠w.heap.size+1+1:=by omega
 have ah:w.heap.size≤W:=by omega
 have HN:Hu (W≠w.heap.size∧W≠w.heap.size+1∧W≠w.heap.size+1+1∧w.heap.size≤W):=fun _=>⟨ab,ac,ae,ah⟩;clear ak ab ac ae ah HB
 go_loopw [8] (fun ia wr=>∃(j:Nat) (po:Option Addr) (no:Nat) (qo:Option Addr) (mo:Nat),ia=.int .i64 ((j:Int)-1)∧Hu (j≤L)∧Hid (Gr w wr∧Vr wr (w.heap.size) (crA id (six P A.val B.val N X Y) qc)∧Vr wr (w.heap.size+1) (ptA p (ex Q) n q (ey Q) m (ef Q))∧Vr wr (w.heap.size+1+1) (ptA none 0 0 none 0 0 false)∧Vr wr W (ptA po (ex (EC.ml i A (k/2^j) Q)) no qo (ey (EC.ml i A (k/2^j) Q)) mo (ef (EC.ml i A (k/2^j) Q)))∧Sl wr po (ex (EC.ml i A (k/2^j) Q))∧Sl wr qo (ey (EC.ml i A (k/2^j) Q)))) (fun ia _=>(intOf ia+1).toNat)
 case atStart=>
  refine⟨L,none,0,none,0,rfl,fun _=>Nat.le_refl _,?_⟩;rw[HZ.out ()];obtain⟨h1,h2,h3,h4,h5⟩:=HV.out;exact⟨h1,h2,h3,h4,h5,Sl.zero _ _,Sl.zero _ _⟩
 case round=>
  obtain⟨j,po,no,qo,mo,rfl,HJ,HR⟩:=hrel
  by_cases hpos:0<j
  ·obtain⟨J,rfl⟩:∃i,j=i+1:=⟨j-1,by omega⟩
   have e1:(((J+1:Nat):Int)-1)=(J:Int):=by omega
   rw[e1]
   have j0:(0:Int)≤J:=by omega
   have j1:(J:Int)<12800:=by have:=HJ.out ();have:=ax.out ();omega
   have ar:J≤L:=by have:=HJ.out ();omega
   obtain⟨R,hR⟩:=exl (EC.ml i A (k/2^(J+1)) Q);obtain⟨D,ao⟩:=exl (EC.pl i A R R);obtain⟨R2,au⟩:=exl (EC.pl i A D Q);rw[hR]at HR;obtain⟨G,V,Z,c3,K,So,To⟩:=HR.out;obtain⟨ab,ac,ae,ah⟩:=HN.out ();replace HQ:=fun k=>(HQ k).gr G;replace Sk:=Sk.gr G;replace Sx:=Sx.gr G;replace Sy:=Sy.gr G
   have af:∀b,k/2^J%2=b→k/2^J=k/2^(J+1)+k/2^(J+1)+b:=fun b hb=>by
    rw[Nat.pow_succ,←Nat.div_div_eq_div_mul];omega
   have ai:EC.ml i A (k/2^(J+1)+k/2^(J+1)) Q=D:=by rw[EC.ml_add C hQ,hR,ao]
   have aj:=fun w' (s:Sl w' pk k)=>rbit_any k nk J pk w' s (by omega);clear HV HR HJ hpos e1
   obtain hb|hb:k/2^J%2=0∨k/2^J%2=1:=by omega
   ·have ap:D=EC.ml i A (k/2^J) Q:=by rw[af 0 hb,Nat.add_zero,ai]
    have ag:∀w',Sl w' pk k→Calls prog 72 #[.slice pk (dl k) nk,.int .i64 J] w' fun e aq=>e=.returned (.int .i64 0)∧aq=w':=fun w' s=>by
     have:=aj w' s;rw[show bitN k J=0 from hb]at this;exact this
    clear hb ai af aj
    go_upto_region 5 with fail
    refine wp_wTS 4 [.c (.agg (crA id (six P A.val B.val N X Y) qc)),.c (.agg (ptA po (ex R) no qo (ey R) mo (ef R))),.c (.agg (ptA po (ex R) no qo (ey R) mo (ef R))),.pt (ex D) (ey D) (ef D)] [0,1,2,3] ⟨.g 27 0 V rfl,.g 43 0 K rfl,.g 43 0 K rfl,.k (fun S =>#[.agg (crA id (six P A.val B.val N X Y) qc),.agg (ptA po (ex R) no qo (ey R) mo (ef R)),.agg (ptA po (ex R) no qo (ey R) mo (ef R))]) fun S vv d hh=>RtW.of_pt (ao▸rplus_any C hd id N X Y qc R R po qo no mo po qo no mo _ (fun k=>(HQ k).gr d) (So.gr d) (To.gr d) (So.gr d) (To.gr d)),⟨⟩⟩ (.s 43 (fun S=>pv W 0) (fun S=>.agg (ptA (S 3 0).1 (ex D) (S 3 0).2 (S 3 1).1 (ey D) (S 3 1).2 (ef D))) fun x v1 d h5=>?_);have U:=(K.gr d).h;have FT:=(K.gr d).f;refine⟨setBlk v1 (W) (ptA (x 3 0).1 (ex D) (x 3 0).2 (x 3 1).1 (ey D) (x 3 1).2 (ef D)),by simp[go_sem,exI,U,FT],?_⟩;simp only[fzw];obtain⟨H,I⟩:=h5 3;clear h5;replace G:=G.trans d;replace V:=V.gr d;replace Z:=Z.gr d;replace c3:=c3.gr d;replace K:=K.gr d;replace HQ:=fun k=>(HQ k).gr d;replace Sk:=Sk.gr d;replace Sx:=Sx.gr d;replace Sy:=Sy.gr d;replace So:=So.gr d;replace To:=To.gr d;clear d
    go_upto_region 6 with fail
    refine gen_w (fun u=>Gr w u∧Vr u (w.heap.size) (crA id (six P A.val B.val N X Y) qc)∧Vr u (w.heap.size+1) (ptA p (ex Q) n q (ey Q) m (ef Q))∧Vr u (w.heap.size+1+1) (ptA none 0 0 none 0 0 false)∧Vr u (W) (ptA (x 3 0).1 (ex D) (x 3 0).2 (x 3 1).1 (ey D) (x 3 1).2 (ef D))∧(∀k,Sl u (qc k).1 (six P A.val B.val N X Y k))∧Sl u pk (k)∧Sl u p (ex Q)∧Sl u q (ey Q)∧Sl u (x 3 0).1 (ex D)∧Sl u (x 3 1).1 (ey D)) ⟨gr_setNew G (by omega),V.other (ab),Z.other (ac),c3.other (ae),K.set (by rw[ptA_size];decide) _,fun k=>Sl.set (HQ k) (by rw[U];exact ptA_no _ _ _ _ _ _ _),Sl.set Sk (by rw[U];exact ptA_no _ _ _ _ _ _ _),Sl.set Sx (by rw[U];exact ptA_no _ _ _ _ _ _ _),Sl.set Sy (by rw[U];exact ptA_no _ _ _ _ _ _ _),Sl.set H (by rw[U];exact ptA_no _ _ _ _ _ _ _),Sl.set I (by rw[U];exact ptA_no _ _ _ _ _ _ _)⟩ ?_;clear U FT;rintro u5 ⟨G,V,Z,c3,K,HQ,Sk,Sx,Sy,H,I⟩;refine wp_wS [.c (.slice pk (dl (k)) nk),.c (.int .i64 J),.O,.F] [2] ⟨.k (fun S =>#[.slice pk (dl (k)) nk,.int .i64 J]) fun S vv d hh=>RtW.of_c (Rt.same (ag _ (Sk.gr d))),⟨⟩⟩ fun ay v2 d h6=>?_;simp only[fzw];clear h6;replace G:=G.trans d;replace V:=V.gr d;replace Z:=Z.gr d;replace c3:=c3.gr d;replace K:=K.gr d;replace HQ:=fun k=>(HQ k).gr d;replace Sk:=Sk.gr d;replace Sx:=Sx.gr d;replace Sy:=Sy.gr d;replace H:=H.gr d;replace I:=I.gr d;clear d
    go_wp2_with fail
    go_roundw
    case rel=>
     refine⟨J,(x 3 0).1,(x 3 0).2,(x 3 1).1,(x 3 1).2,by simp,fun _=>ar,?_⟩;rw[←ap];exact⟨G,V,Z,c3,K,H,I⟩
    case measure=>simp[intOf]
   ·have ap:R2=EC.ml i A (k/2^J) Q:=by
     rw[af 1 hb]
     show R2=EC.pl i A (EC.ml i A (k/2^(J+1)+k/2^(J+1)) Q) Q
     rw[ai,au]
    have ag:∀w',Sl w' pk k→Calls prog 72 #[.slice pk (dl k) nk,.int .i64 J] w' fun e aq=>e=.returned (.int .i64 1)∧aq=w':=fun w' s=>by
     have:=aj w' s;rw[show bitN k J=1 from hb]at this;exact this
    clear hb ai af aj
    go_upto_region 5 with fail
    refine wp_wTS 4 [.c (.agg (crA id (six P A.val B.val N X Y) qc)),.c (.agg (ptA po (ex R) no qo (ey R) mo (ef R))),.c (.agg (ptA po (ex R) no qo (ey R) mo (ef R))),.pt (ex D) (ey D) (ef D)] [0,1,2,3] ⟨.g 27 0 V rfl,.g 43 0 K rfl,.g 43 0 K rfl,.k (fun S =>#[.agg (crA id (six P A.val B.val N X Y) qc),.agg (ptA po (ex R) no qo (ey R) mo (ef R)),.agg (ptA po (ex R) no qo (ey R) mo (ef R))]) fun S vv d hh=>RtW.of_pt (ao▸rplus_any C hd id N X Y qc R R po qo no mo po qo no mo _ (fun k=>(HQ k).gr d) (So.gr d) (To.gr d) (So.gr d) (To.gr d)),⟨⟩⟩ (.s 43 (fun S=>pv W 0) (fun S=>.agg (ptA (S 3 0).1 (ex D) (S 3 0).2 (S 3 1).1 (ey D) (S 3 1).2 (ef D))) fun x v1 d h5=>?_);have U:=(K.gr d).h;have FT:=(K.gr d).f;refine⟨setBlk v1 (W) (ptA (x 3 0).1 (ex D) (x 3 0).2 (x 3 1).1 (ey D) (x 3 1).2 (ef D)),by simp[go_sem,exI,U,FT],?_⟩;simp only[fzw];obtain⟨H,I⟩:=h5 3;clear h5;replace G:=G.trans d;replace V:=V.gr d;replace Z:=Z.gr d;replace c3:=c3.gr d;replace K:=K.gr d;replace HQ:=fun k=>(HQ k).gr d;replace Sk:=Sk.gr d;replace Sx:=Sx.gr d;replace Sy:=Sy.gr d;replace So:=So.gr d;replace To:=To.gr d;clear d
    go_upto_region 6 with fail
    refine gen_w (fun u=>Gr w u∧Vr u (w.heap.size) (crA id (six P A.val B.val N X Y) qc)∧Vr u (w.heap.size+1) (ptA p (ex Q) n q (ey Q) m (ef Q))∧Vr u (w.heap.size+1+1) (ptA none 0 0 none 0 0 false)∧Vr u (W) (ptA (x 3 0).1 (ex D) (x 3 0).2 (x 3 1).1 (ey D) (x 3 1).2 (ef D))∧(∀k,Sl u (qc k).1 (six P A.val B.val N X Y k))∧Sl u pk (k)∧Sl u p (ex Q)∧Sl u q (ey Q)∧Sl u (x 3 0).1 (ex D)∧Sl u (x 3 1).1 (ey D)) ⟨gr_setNew G (by omega),V.other (ab),Z.other (ac),c3.other (ae),K.set (by rw[ptA_size];decide) _,fun k=>Sl.set (HQ k) (by rw[U];exact ptA_no _ _ _ _ _ _ _),Sl.set Sk (by rw[U];exact ptA_no _ _ _ _ _ _ _),Sl.set Sx (by rw[U];exact ptA_no _ _ _ _ _ _ _),Sl.set Sy (by rw[U];exact ptA_no _ _ _ _ _ _ _),Sl.set H (by rw[U];exact ptA_no _ _ _ _ _ _ _),Sl.set I (by rw[U];exact ptA_no _ _ _ _ _ _ _)⟩ ?_;clear U FT;rintro u5 ⟨G,V,Z,c3,K,HQ,Sk,Sx,Sy,H,I⟩;refine wp_wS [.c (.slice pk (dl (k)) nk),.c (.int .i64 J),.c (.int .i64 1),.T] [2] ⟨.k (fun S =>#[.slice pk (dl (k)) nk,.int .i64 J]) fun S vv d hh=>RtW.of_c (Rt.same (ag _ (Sk.gr d))),⟨⟩⟩ fun ay v2 d h6=>?_;simp only[fzw];clear h6;replace G:=G.trans d;replace V:=V.gr d;replace Z:=Z.gr d;replace c3:=c3.gr d;replace K:=K.gr d;replace HQ:=fun k=>(HQ k).gr d;replace Sk:=Sk.gr d;replace Sx:=Sx.gr d;replace Sy:=Sy.gr d;replace H:=H.gr d;replace I:=I.gr d;clear d
    go_upto_region 7 with fail
    refine wp_wTS 4 [.c (.agg (crA id (six P A.val B.val N X Y) qc)),.c (.agg (ptA (x 3 0).1 (ex D) (x 3 0).2 (x 3 1).1 (ey D) (x 3 1).2 (ef D))),.c (.agg (ptA p (ex Q) n q (ey Q) m (ef Q))),.pt (ex R2) (ey R2) (ef R2)] [0,1,2,3] ⟨.g 27 0 V rfl,.g 43 0 K rfl,.g 43 0 Z rfl,.k (fun S =>#[.agg (crA id (six P A.val B.val N X Y) qc),.agg (ptA (x 3 0).1 (ex D) (x 3 0).2 (x 3 1).1 (ey D) (x 3 1).2 (ef D)),.agg (ptA p (ex Q) n q (ey Q) m (ef Q))]) fun S vv d hh=>RtW.of_pt (au▸rplus_any C hd id N X Y qc D Q (x 3 0).1 (x 3 1).1 (x 3 0).2 (x 3 1).2 p q n m _ (fun k=>(HQ k).gr d) (H.gr d) (I.gr d) (Sx.gr d) (Sy.gr d)),⟨⟩⟩ (.s 43 (fun S=>pv W 0) (fun S=>.agg (ptA (S 3 0).1 (ex R2) (S 3 0).2 (S 3 1).1 (ey R2) (S 3 1).2 (ef R2))) fun aa v3 d h7=>?_);have U:=(K.gr d).h;have FT:=(K.gr d).f;refine⟨setBlk v3 (W) (ptA (aa 3 0).1 (ex R2) (aa 3 0).2 (aa 3 1).1 (ey R2) (aa 3 1).2 (ef R2)),by simp[go_sem,exI,U,FT],?_⟩;simp only[fzw];obtain⟨av,aw⟩:=h7 3;clear h7;replace G:=G.trans d;replace V:=V.gr d;replace Z:=Z.gr d;replace c3:=c3.gr d;replace K:=K.gr d
    go_wp2_with fail
    go_roundw
    case rel=>
     refine⟨J,(aa 3 0).1,(aa 3 0).2,(aa 3 1).1,(aa 3 1).2,by simp,fun _=>ar,?_⟩;rw[←ap];exact⟨gr_setNew G (by omega),V.other ab,Z.other ac,c3.other ae,K.set (by rw[ptA_size];decide) _,Sl.set av (by rw[U];exact ptA_no _ _ _ _ _ _ _),Sl.set aw (by rw[U];exact ptA_no _ _ _ _ _ _ _)⟩
    case measure=>simp[intOf]
  ·obtain rfl:j=0:=by omega
   rw[Nat.pow_zero,Nat.div_one]at HR;obtain⟨R,hR⟩:=exl (EC.ml i A k Q);rw[hR]at HR;obtain⟨G,V,Z,c3,K,So,To⟩:=HR.out;obtain⟨ab,ac,ae,ah⟩:=HN.out ();have⟨h3,f3,p3⟩:=c3;have⟨h7,f7,p7⟩:=K
   go_wp2_with fail
   refine bo1 results38 (rd_pt po (ex R) no qo (ey R) mo (ef R) (by rfl) ?_) ⟨_,rfl,?_,gr_setNew G (by omega)⟩
   ·simp[go_sem,h3]
   ·rw[hR];exact⟨_,_,_,_,rfl,Sl.set So (by rw[h3];exact ptA_no _ _ _ _ _ _ _),Sl.set To (by rw[h3];exact ptA_no _ _ _ _ _ _ _)⟩
end
end
end
end Go.Proofs.YtffhepbppiocbabGreat