import Derived.Test.YtffhepbppiocbaaGreatXAAO
namespace Go.Proofs.YtffhepbppiocbaaGreat
open Go.RowKit Go.Proofs.Tryz
set_option maxRecDepth 100000
set_option maxHeartbeats 8000000
section
attribute [local go_sem ↓] uz1
attribute [local go_sem] uz2
section
attribute [local go_sem] uz7
attribute [local go_sem ↓] uz10 Go.wp_at_zero Go.wp_at_succ
attribute [local go_sem] uz11
theorem gf_yes{k:Nat}(h1:1≤k)(h2:k≤15)(n:Nat)(hn:n≤2)(F:Nat→Q3)(hF:∀i,i<n→(F i).1<M∧(F i).2.1<M)(c:Array Value)(hrow:∀i,i<n→c.extract (i*19) (i*19+19)=pnQ (F i))(hsz:n*19≤c.size)(hon:∀i,i<n→onB k (F i).1 (F i).2.1 (F i).2.2=true)(b cap:Nat)(w:World)(hv:Vr w b c):
 Cg 31 #[.int .i64 k,.slice (some ⟨b,0,none⟩) n cap] w (.tuple #[.agg (cuK k),.int .i64 0]):=by
 have B:Hid (∀w,Cg 22 #[.int .i64 k] w (.tuple #[.agg (cuK k),.int .i64 0])):=fun w=>get13_yes k h1 h2 w;have K:Hu (n≤2):=fun _=>hn;have C:Hid _:=hF;have L:Hid _:=hon
 have P:Hid (∀j,j<n→∀v,Gr w v→(loadS 27 (.pointer (some ⟨b,j*19,none⟩))).run prog v=.ok (.agg (pnt (F j).1 (F j).2.1 (F j).2.2)) v):=fun j Q v g=>by
  have D:=(hv.gr g).h;rw[loadPartP v b (j*19) (by rw[D];omega),D,hrow j Q]
 clear hn hF hrow hsz hon
 go_enter func31,ntmps31
 go_wp2_with (go_at_call 22;refine(B.out _).mono ?_;rintro e H ⟨rfl,q⟩)
 obtain⟨l,d⟩:=exl (H.heap.size);simp only[d]
 refine gen_w (fun wr=>Hid (Gr w wr∧Vr wr (w.heap.size) (cu 0 0 0 0 0 0 0 0 0 false)∧Vr wr l (cuK k))) ?_ ?_
 ·subst d;exact⟨(((Gr.refl w).alloc _).trans q).alloc _,((Vr.new w _ _).gr q).gr ((Gr.refl _).alloc _),Vr.new H _ _⟩
 have S:w.heap.size<l:=by have:=q.below.size;simp at this;omega
 have I:¬(w.heap.size=l):=by omega
 have J:¬(l=w.heap.size):=by omega
 clear d q B;intro v0 x
 go_loopw [20] (fun ia wr=>∃j:Nat,ia=.int .i64 j∧Hu (j≤n)∧Hid (Gr w wr∧Vr wr (w.heap.size) (cu 0 0 0 0 0 0 0 0 0 false)∧Vr wr l (cuK k))) (fun ia _=>((n:Int)-intOf ia).toNat)
 case atStart=>exact⟨0,rfl,fun _=>Nat.zero_le _,x⟩
 case round=>
  clear x;obtain⟨j,rfl,HJ,x⟩:=hrel;obtain⟨G,U,V⟩:=x.out
  have j0:(0:Int)≤j:=by omega
  have n4:(n:Int)≤2:=by have:=K.out ();omega
  have⟨W,X,Y⟩:=U;have⟨Z,aa,ab⟩:=V
  by_cases hlt:j<n
  ·have f:j<n:=by exact hlt
   have ac:=P.out j f wr G
   have A:Hid _:=fun w=>by
    have:=on13_yes k h1 h2 _ _ (F j).2.2 (C.out j f).1 (C.out j f).2 w;rw[L.out j hlt]at this;exact this
   go_wp2_with (go_at_call 23;refine hkA A fun g=>?_)
   go_roundw
   case rel=>
    refine⟨j+1,by go_num,fun _=>hlt,?_,⟨by simp[go_sem, *],by simp[go_sem, *],by simp[go_sem, *]⟩,⟨by simp[go_sem, *],by simp[go_sem, *],by simp[go_sem, *]⟩⟩;exact grB
   case measure=>simp[intOf];omega
  ·skip
   go_wp2_with fail
   refine bo2 results31 (rd_gp (by rfl) ?_) ⟨rfl,?_⟩
   ·simp[go_sem, *]
   ·exact grB
theorem gf_off{k:Nat}(h1:1≤k)(h2:k≤15)(n:Nat)(hn:n≤2)(F:Nat→Q3)(hF:∀i,i<n→(F i).1<M∧(F i).2.1<M)(c:Array Value)(hrow:∀i,i<n→c.extract (i*19) (i*19+19)=pnQ (F i))(hsz:n*19≤c.size)(m:Nat)(hm:m<n)(hoff:onB k (F m).1 (F m).2.1 (F m).2.2=false)(hon:∀i,i<m→onB k (F i).1 (F i).2.1 (F i).2.2=true)(b cap:Nat)(w:World)(hv:Vr w b c):
 Cg 31 #[.int .i64 k,.slice (some ⟨b,0,none⟩) n cap] w (.tuple #[.agg (cu 0 0 0 0 0 0 0 0 0 false),.int .i64 1401]):=by
 have L:Hid (∀w,Cg 22 #[.int .i64 k] w (.tuple #[.agg (cuK k),.int .i64 0])):=fun w=>get13_yes k h1 h2 w;have X:Hu (n≤2):=fun _=>hn;have A:Hid _:=hF;have Y:Hid _:=hon;have B:Hu (m<n):=fun _=>hm;have D:Hu (onB k (F m).1 (F m).2.1 (F m).2.2=false):=fun _=>hoff
 have P:Hid (∀j,j<n→∀v,Gr w v→(loadS 27 (.pointer (some ⟨b,j*19,none⟩))).run prog v=.ok (.agg (pnt (F j).1 (F j).2.1 (F j).2.2)) v):=fun j Z v g=>by
  have Q:=(hv.gr g).h;rw[loadPartP v b (j*19) (by rw[Q];omega),Q,hrow j Z]
 clear hn hF hrow hsz hon hm hoff
 go_enter func31,ntmps31
 go_wp2_with (go_at_call 22;refine(L.out _).mono ?_;rintro e S ⟨rfl,C⟩)
 obtain⟨q,f⟩:=exl (S.heap.size);simp only[f]
 refine gen_w (fun wr=>Hid (Gr w wr∧Vr wr (w.heap.size) (cu 0 0 0 0 0 0 0 0 0 false)∧Vr wr q (cuK k))) ?_ ?_
 ·subst f;exact⟨(((Gr.refl w).alloc _).trans C).alloc _,((Vr.new w _ _).gr C).gr ((Gr.refl _).alloc _),Vr.new S _ _⟩
 have aa:w.heap.size<q:=by have:=C.below.size;simp at this;omega
 have U:¬(w.heap.size=q):=by omega
 have V:¬(q=w.heap.size):=by omega
 clear f C L;intro v0 x
 go_loopw [20] (fun ia wr=>∃j:Nat,ia=.int .i64 j∧Hu (j≤m)∧Hid (Gr w wr∧Vr wr (w.heap.size) (cu 0 0 0 0 0 0 0 0 0 false)∧Vr wr q (cuK k))) (fun ia _=>((n:Int)-intOf ia).toNat)
 case atStart=>exact⟨0,rfl,fun _=>Nat.zero_le _,x⟩
 case round=>
  clear x;obtain⟨j,rfl,W,x⟩:=hrel;obtain⟨G,H,I⟩:=x.out
  have j0:(0:Int)≤j:=by omega
  have n4:(n:Int)≤2:=by have:=X.out ();omega
  have⟨ab,ac,ae⟩:=H;have⟨af,ag,ah⟩:=I;have⟨ai,aj,ak,ao,ap,aq⟩:=H.pp;have⟨ar,au,av,aw,ax,ay⟩:=I.pp
  by_cases hlt:j<m
  ·have d:j<n:=by have:=B.out ();omega
   have j1:(j:Int)<n:=by omega
   have J:=P.out j d wr G
   have l:Hid _:=fun w=>by
    have:=on13_yes k h1 h2 _ _ (F j).2.2 (A.out j d).1 (A.out j d).2 w;rw[Y.out j hlt]at this;exact this
   clear x H I d
   go_wp2_with (go_at_call 23;refine hkA l fun g=>?_)
   go_roundw
   case rel=>
    refine⟨j+1,by go_num,fun _=>hlt,?_,⟨by simp[go_sem, *],by simp[go_sem, *],by simp[go_sem, *]⟩,⟨by simp[go_sem, *],by simp[go_sem, *],by simp[go_sem, *]⟩⟩;exact grB
   case measure=>simp[intOf];omega
  ·skip
   have l:Hid (∀w,Cg 23 #[.int .i64 k,.agg (pnt (F j).1 (F j).2.1 (F j).2.2)] w (.bool false)):=fun w=>by
    have K:j=m:=by have:=W.out ();omega
    have:=on13_yes k h1 h2 _ _ (F m).2.2 (A.out m (B.out ())).1 (A.out m (B.out ())).2 w;rw[D.out ()]at this;rw[K];exact this
   have d:j<n:=by have:=W.out ();have:=B.out ();omega
   have J:=P.out j d wr G
   go_wp2_with (go_at_call 23;refine hkA l fun g=>?_)
   refine bo2 results31 (rd_gp (by rfl) ?_) ⟨rfl,?_⟩
   ·simp[go_sem, *]
   ·exact grB
theorem gf_no(x:Int)(h:x<1∨15<x)(q:Option Addr)(n c:Nat)(w:World):Cg 31 #[.int .i64 x,.slice q n c] w (.tuple #[.agg (cu 0 0 0 0 0 0 0 0 0 false),.int .i64 1400]):=by
 have d:Hid _:=get13_no x h
 go_enter func31,ntmps31
 go_wp2_with (go_at_call 22;refine hkA d fun g=>?_)
 refine bo2 results31 (rd_gp (by rfl) ?_) ⟨rfl,grA⟩;simp[go_sem]
end
section
attribute [local go_sem] uz7
attribute [local go_sem ↓] uz10 Go.wp_at_zero Go.wp_at_succ
attribute [local go_sem] uz11
theorem aadd_yes{k:Nat}{P Q R:Q3}(HG':(∀w b,Vr w b (pnQ P++pnQ Q)→Cg 31 #[.int .i64 k,.slice (some ⟨b,0,none⟩) 2 2] w (.tuple #[.agg (cuK k),.int .i64 0])))(HA':∀w,Cg 32 #[.agg (cuK k),.agg (pnQ P),.agg (pnQ Q)] w (.agg (pnQ R)))(w:World):
 Cg 10 #[.int .i64 k,.agg (pnQ P),.agg (pnQ Q)] w (.tuple #[.agg (pnQ R),.int .i64 0]):=by
 have B:Hid _:=HG';have C:Hid _:=HA';clear HG' HA'
 go_enter func10,ntmps10
 go_upto_region 1 with fail
 refine gen_w (fun v=>Hid (Gr w v∧Vr v (w.heap.size) (pnQ P)∧Vr v (w.heap.size+1) (pnQ Q)∧Vr v (w.heap.size+1+1) (pnt 0 0 false))) ⟨grA,vrA,vrA,vrA⟩ ?_;intro v0 q;obtain⟨G,h,i,j⟩:=q.out;clear q;refine wp_v false [.c (.int .i64 k),.c (.agg (pnQ P)),.c (.agg (pnQ Q)),.r 2 (pnQ P++pnQ Q),.E (.agg (cuK k)),.E (.agg (cuK k)),.c (.agg (cuK k)),.O,.a,.u,.O] [1,2,3,4] [⟨8,9,71,cu 0 0 0 0 0 0 0 0 0 false,fun _=>cuK k⟩] ⟨.g 27 0 h rfl,.g 27 0 i rfl,.r (.buildSlice 93 2 #[(0,.const (.agg (pnQ P))),(1,.const (.agg (pnQ Q)))]) rfl (rowP2 _ _ _ _ _ _),.k (fun x =>#[.int .i64 k,.slice (some ⟨(x 3 0).2,0,none⟩) 2 2]) fun x vv d D=>RtW.of_c (Rt.c (B.out _ _ (D 3 rfl))),⟨⟩⟩ ⟨.k zCu ⟨fkc,fkc,fkc,fkr (by simp[cu_size,pnt_size]),fkc,fkc,fkc,fkc,fka,fku,fkc,trivial⟩,⟨⟩⟩ fun H v1 d I l=>?_;simp only[fzw,Kw.a,Kw.r];obtain⟨⟨A,f⟩,-⟩:=l;clear I;replace G:=G.trans d;replace h:=h.gr d;replace i:=i.gr d;replace j:=j.gr d;clear d
 go_upto_region 2 with fail
 refine wp_wS [.O,.F] [] ⟨⟩ fun J v2 d K=>?_;simp only[fzw];clear K;replace G:=G.trans d;replace h:=h.gr d;replace i:=i.gr d;replace j:=j.gr d;replace f:=f.gr d;clear d;have L:=h.al;have⟨S,U,V⟩:=i;have W:=j.al;have⟨X,Y,Z⟩:=f
 go_wp2_with (go_at_call 32;refine hkA C fun g=>?_)
 refine bo2 results10 (rd_pn (by rfl) ?_) ⟨rfl,?_⟩
 ·simp[go_sem, *]
 ·exact grB
theorem aadd_err(id er:Int)(hne:¬er=0){P Q:Q3}(HG':(∀w b,Vr w b (pnQ P++pnQ Q)→Cg 31 #[.int .i64 id,.slice (some ⟨b,0,none⟩) 2 2] w (.tuple #[.agg (cu 0 0 0 0 0 0 0 0 0 false),.int .i64 er])))(w:World):
 Cg 10 #[.int .i64 id,.agg (pnQ P),.agg (pnQ Q)] w (.tuple #[.agg (pnt 0 0 false),.int .i64 er]):=by
 have B:Hid _:=HG';clear HG'
 go_enter func10,ntmps10
 go_upto_region 1 with fail
 refine gen_w (fun v=>Hid (Gr w v∧Vr v (w.heap.size) (pnQ P)∧Vr v (w.heap.size+1) (pnQ Q)∧Vr v (w.heap.size+1+1) (pnt 0 0 false))) ⟨grA,vrA,vrA,vrA⟩ ?_;intro v0 l;obtain⟨G,h,f,i⟩:=l.out;clear l;refine wp_v false [.c (.int .i64 id),.c (.agg (pnQ P)),.c (.agg (pnQ Q)),.r 2 (pnQ P++pnQ Q),.c (.tuple #[.agg (cu 0 0 0 0 0 0 0 0 0 false),.int .i64 er]),.c (.tuple #[.agg (cu 0 0 0 0 0 0 0 0 0 false),.int .i64 er]),.c (.agg (cu 0 0 0 0 0 0 0 0 0 false)),.c (.int .i64 er),.a,.u,.c (.int .i64 er)] [1,2,3,4] [⟨8,9,71,cu 0 0 0 0 0 0 0 0 0 false,fun _=>cu 0 0 0 0 0 0 0 0 0 false⟩] ⟨.g 27 0 h rfl,.g 27 0 f rfl,.r (.buildSlice 93 2 #[(0,.const (.agg (pnQ P))),(1,.const (.agg (pnQ Q)))]) rfl (rowP2 _ _ _ _ _ _),.k (fun q =>#[.int .i64 id,.slice (some ⟨(q 3 0).2,0,none⟩) 2 2]) fun q C d D=>RtW.of_c (Rt.c (B.out _ _ (D 3 rfl))),⟨⟩⟩ ⟨.k zCu ⟨fkc,fkc,fkc,fkr (by simp[cu_size,pnt_size]),fkc,fkc,fkc,fkc,fka,fku,fkc,trivial⟩,⟨⟩⟩ fun H v1 d I j=>?_;simp only[fzw,Kw.a,Kw.r];obtain⟨⟨x,A⟩,-⟩:=j;clear I;replace G:=G.trans d;replace h:=h.gr d;replace f:=f.gr d;replace i:=i.gr d;clear d
 go_upto_region 2 with fail
 refine wp_wS [.c (.int .i64 er),.T] [1] ⟨.s (.binOp .neq 34 (.const (.int .i64 er)) (.const (.int .i64 0)) 34) rfl fun C d=>by simp[go_sem,exI,hne],⟨⟩⟩ fun J v2 d K=>?_;simp only[fzw];clear K;replace G:=G.trans d;replace h:=h.gr d;replace f:=f.gr d;replace i:=i.gr d;have⟨L,S,U,V,W,X⟩:=f.pp;have⟨Y,Z,aa⟩:=i
 go_wp2_with fail
 refine bo2 results10 (rd_pn (by rfl) ?_) ⟨rfl,?_⟩
 ·simp[go_sem, *]
 ·exact grB
theorem aneg_yes{k:Nat}{P R:Q3}(HG':(∀w b,Vr w b (pnQ P)→Cg 31 #[.int .i64 k,.slice (some ⟨b,0,none⟩) 1 1] w (.tuple #[.agg (cuK k),.int .i64 0])))(HA':∀w,Cg 33 #[.agg (cuK k),.agg (pnQ P)] w (.agg (pnQ R)))(w:World):
 Cg 11 #[.int .i64 k,.agg (pnQ P)] w (.tuple #[.agg (pnQ R),.int .i64 0]):=by
 have A:Hid _:=HG';have B:Hid _:=HA';clear HG' HA'
 go_enter func11,ntmps11
 go_upto_region 1 with fail
 refine gen_w (fun v=>Hid (Gr w v∧Vr v (w.heap.size) (pnQ P)∧Vr v (w.heap.size+1) (pnt 0 0 false))) ⟨grA,vrA,vrA⟩ ?_;intro X l;obtain⟨G,h,i⟩:=l.out;clear l;refine wp_v false [.c (.int .i64 k),.c (.agg (pnQ P)),.r 1 (pnQ P),.E (.agg (cuK k)),.E (.agg (cuK k)),.c (.agg (cuK k)),.O,.a,.u,.O] [1,2,3] [⟨7,8,71,cu 0 0 0 0 0 0 0 0 0 false,fun _=>cuK k⟩] ⟨.g 27 0 h rfl,.r (.buildSlice 93 1 #[(0,.const (.agg (pnQ P)))]) rfl (rowP1 _ _ _),.k (fun q =>#[.int .i64 k,.slice (some ⟨(q 2 0).2,0,none⟩) 1 1]) fun q Y f C=>RtW.of_c (Rt.c (A.out _ _ (C 2 rfl))),⟨⟩⟩ ⟨.k zCu ⟨fkc,fkc,fkr (by simp[cu_size,pnt_size]),fkc,fkc,fkc,fkc,fka,fku,fkc,trivial⟩,⟨⟩⟩ fun D Z f H j=>?_;simp only[fzw,Kw.a,Kw.r];obtain⟨⟨x,d⟩,-⟩:=j;clear H;replace G:=G.trans f;replace h:=h.gr f;replace i:=i.gr f;clear f
 go_upto_region 2 with fail
 refine wp_wS [.O,.F] [] ⟨⟩ fun I v2 f J=>?_;simp only[fzw];clear J;replace G:=G.trans f;replace h:=h.gr f;replace i:=i.gr f;replace d:=d.gr f;have K:=h.al;have⟨L,Q,S⟩:=i;have⟨U,V,W⟩:=d
 go_wp2_with (go_at_call 33;refine hkA B fun g=>?_)
 refine bo2 results11 (rd_pn (by rfl) ?_) ⟨rfl,?_⟩
 ·simp[go_sem, *]
 ·exact grB
theorem aneg_err(id er:Int)(hne:¬er=0){P:Q3}(HG':(∀w b,Vr w b (pnQ P)→Cg 31 #[.int .i64 id,.slice (some ⟨b,0,none⟩) 1 1] w (.tuple #[.agg (cu 0 0 0 0 0 0 0 0 0 false),.int .i64 er])))(w:World):
 Cg 11 #[.int .i64 id,.agg (pnQ P)] w (.tuple #[.agg (pnt 0 0 false),.int .i64 er]):=by
 have A:Hid _:=HG';clear HG'
 go_enter func11,ntmps11
 go_upto_region 1 with fail
 refine gen_w (fun v=>Hid (Gr w v∧Vr v (w.heap.size) (pnQ P)∧Vr v (w.heap.size+1) (pnt 0 0 false))) ⟨grA,vrA,vrA⟩ ?_;intro L j;obtain⟨G,h,f⟩:=j.out;clear j;refine wp_v false [.c (.int .i64 id),.c (.agg (pnQ P)),.r 1 (pnQ P),.c (.tuple #[.agg (cu 0 0 0 0 0 0 0 0 0 false),.int .i64 er]),.c (.tuple #[.agg (cu 0 0 0 0 0 0 0 0 0 false),.int .i64 er]),.c (.agg (cu 0 0 0 0 0 0 0 0 0 false)),.c (.int .i64 er),.a,.u,.c (.int .i64 er)] [1,2,3] [⟨7,8,71,cu 0 0 0 0 0 0 0 0 0 false,fun _=>cu 0 0 0 0 0 0 0 0 0 false⟩] ⟨.g 27 0 h rfl,.r (.buildSlice 93 1 #[(0,.const (.agg (pnQ P)))]) rfl (rowP1 _ _ _),.k (fun l =>#[.int .i64 id,.slice (some ⟨(l 2 0).2,0,none⟩) 1 1]) fun l B d C=>RtW.of_c (Rt.c (A.out _ _ (C 2 rfl))),⟨⟩⟩ ⟨.k zCu ⟨fkc,fkc,fkr (by simp[cu_size,pnt_size]),fkc,fkc,fkc,fkc,fka,fku,fkc,trivial⟩,⟨⟩⟩ fun D Q d H i=>?_;simp only[fzw,Kw.a,Kw.r];obtain⟨⟨q,x⟩,-⟩:=i;clear H;replace G:=G.trans d;replace h:=h.gr d;replace f:=f.gr d;clear d
 go_upto_region 2 with fail
 refine wp_wS [.c (.int .i64 er),.T] [1] ⟨.s (.binOp .neq 34 (.const (.int .i64 er)) (.const (.int .i64 0)) 34) rfl fun B d=>by simp[go_sem,exI,hne],⟨⟩⟩ fun I S d J=>?_;simp only[fzw];clear J;replace G:=G.trans d;replace f:=f.gr d;have K:=f.al
 go_wp2_with fail
 refine bo2 results11 (rd_pn (by rfl) ?_) ⟨rfl,?_⟩
 ·simp[go_sem, *]
 ·exact grB
theorem amul_yes{k:Nat}{P R:Q3}(t:Nat)(HG':(∀w b,Vr w b (pnQ P)→Cg 31 #[.int .i64 k,.slice (some ⟨b,0,none⟩) 1 1] w (.tuple #[.agg (cuK k),.int .i64 0])))(HA':∀w,Cg 41 #[.agg (cuK k),.agg (nw 9 t),.agg (pnQ P)] w (.agg (pnQ R)))(w:World):
 Cg 19 #[.int .i64 k,.agg (nw 9 t),.agg (pnQ P)] w (.tuple #[.agg (pnQ R),.int .i64 0]):=by
 have C:Hid _:=HG';have D:Hid _:=HA';clear HG' HA'
 go_enter func19,ntmps19
 go_upto_region 1 with fail
 refine gen_w (fun v=>Hid (Gr w v∧Vr v (w.heap.size) (nw 9 t)∧Vr v (w.heap.size+1) (pnQ P)∧Vr v (w.heap.size+1+1) (pnt 0 0 false))) ⟨grA,vrA,vrA,vrA⟩ ?_;intro H x;obtain⟨G,i,h,j⟩:=x.out;clear x;refine wp_v false [.c (.int .i64 k),.c (.agg (pnQ P)),.r 1 (pnQ P),.E (.agg (cuK k)),.E (.agg (cuK k)),.c (.agg (cuK k)),.O,.a,.u,.O] [1,2,3] [⟨7,8,71,cu 0 0 0 0 0 0 0 0 0 false,fun _=>cuK k⟩] ⟨.g 27 0 h rfl,.r (.buildSlice 93 1 #[(0,.const (.agg (pnQ P)))]) rfl (rowP1 _ _ _),.k (fun A =>#[.int .i64 k,.slice (some ⟨(A 2 0).2,0,none⟩) 1 1]) fun A X f I=>RtW.of_c (Rt.c (C.out _ _ (I 2 rfl))),⟨⟩⟩ ⟨.k zCu ⟨fkc,fkc,fkr (by simp[cu_size,pnt_size]),fkc,fkc,fkc,fkc,fka,fku,fkc,trivial⟩,⟨⟩⟩ fun l J f K q=>?_;simp only[fzw,Kw.a,Kw.r];obtain⟨⟨B,d⟩,-⟩:(H.heap.size≤(l 7 0).2∧Vr J (l 7 0).2 (cuK k))∧True:=q;clear K;replace G:=G.trans f;replace i:=i.gr f;replace h:=h.gr f;replace j:=j.gr f;clear f
 go_upto_region 2 with fail
 refine wp_wS [.O,.F] [] ⟨⟩ fun L Y f Q=>?_;simp only[fzw];clear Q;replace G:=G.trans f;replace i:=i.gr f;replace h:=h.gr f;replace j:=j.gr f;replace d:=d.gr f;clear f;have S:=i.al;have U:=h.al;have V:=j.al;have W:=d.al;clear i h j d
 go_wp2_with (go_at_call 41;refine hkA D fun g=>?_)
 refine bo2 results19 (rd_pn (by rfl) ?_) ⟨rfl,?_⟩
 ·simp[go_sem, *]
 ·exact grB
theorem amul_err(id er:Int)(hne:¬er=0){P:Q3}(t:Nat)(HG':(∀w b,Vr w b (pnQ P)→Cg 31 #[.int .i64 id,.slice (some ⟨b,0,none⟩) 1 1] w (.tuple #[.agg (cu 0 0 0 0 0 0 0 0 0 false),.int .i64 er])))(w:World):
 Cg 19 #[.int .i64 id,.agg (nw 9 t),.agg (pnQ P)] w (.tuple #[.agg (pnt 0 0 false),.int .i64 er]):=by
 have C:Hid _:=HG';clear HG'
 go_enter func19,ntmps19
 go_upto_region 1 with fail
 refine gen_w (fun v=>Hid (Gr w v∧Vr v (w.heap.size) (nw 9 t)∧Vr v (w.heap.size+1) (pnQ P)∧Vr v (w.heap.size+1+1) (pnt 0 0 false))) ⟨grA,vrA,vrA,vrA⟩ ?_;intro D x;obtain⟨G,i,h,j⟩:=x.out;clear x;refine wp_v false [.c (.int .i64 id),.c (.agg (pnQ P)),.r 1 (pnQ P),.c (.tuple #[.agg (cu 0 0 0 0 0 0 0 0 0 false),.int .i64 er]),.c (.tuple #[.agg (cu 0 0 0 0 0 0 0 0 0 false),.int .i64 er]),.c (.agg (cu 0 0 0 0 0 0 0 0 0 false)),.c (.int .i64 er),.a,.u,.c (.int .i64 er)] [1,2,3] [⟨7,8,71,cu 0 0 0 0 0 0 0 0 0 false,fun _=>cu 0 0 0 0 0 0 0 0 0 false⟩] ⟨.g 27 0 h rfl,.r (.buildSlice 93 1 #[(0,.const (.agg (pnQ P)))]) rfl (rowP1 _ _ _),.k (fun A =>#[.int .i64 id,.slice (some ⟨(A 2 0).2,0,none⟩) 1 1]) fun A H d I=>RtW.of_c (Rt.c (C.out _ _ (I 2 rfl))),⟨⟩⟩ ⟨.k zCu ⟨fkc,fkc,fkr (by simp[cu_size,pnt_size]),fkc,fkc,fkc,fkc,fka,fku,fkc,trivial⟩,⟨⟩⟩ fun l J d K q=>?_;simp only[fzw,Kw.a,Kw.r];obtain⟨⟨B,f⟩,-⟩:(D.heap.size≤(l 7 0).2∧Vr J (l 7 0).2 (cu 0 0 0 0 0 0 0 0 0 false))∧True:=q;clear K;replace G:=G.trans d;replace i:=i.gr d;replace h:=h.gr d;replace j:=j.gr d;clear d
 go_upto_region 2 with fail
 refine wp_wS [.c (.int .i64 er),.T] [1] ⟨.s (.binOp .neq 34 (.const (.int .i64 er)) (.const (.int .i64 0)) 34) rfl fun H d=>by simp[go_sem,exI,hne],⟨⟩⟩ fun L X d Q=>?_;simp only[fzw];clear Q;replace G:=G.trans d;replace i:=i.gr d;replace h:=h.gr d;replace j:=j.gr d;replace f:=f.gr d;clear d;have S:=i.al;have U:=h.al;have V:=j.al;have W:=f.al;clear i h j f
 go_wp2_with fail
 refine bo2 results19 (rd_pn (by rfl) ?_) ⟨rfl,?_⟩
 ·simp[go_sem, *]
 ·exact grB
theorem gf1{k:Nat}(h1:1≤k)(h2:k≤15){P:Q3}(hP:OnQ k P)(w:World)(b:Nat)(hv:Vr w b (pnQ P)):Cg 31 #[.int .i64 k,.slice (some ⟨b,0,none⟩) 1 1] w (.tuple #[.agg (cuK k),.int .i64 0]):=
 gf_yes h1 h2 1 (by decide) (fun _=>P) (fun _ _=>hP.lt) _ (fun i d=>by
  obtain rfl:i=0:=by omega
  kernel_rfl) (by simp[pnt_size]) (fun _ _=>hP) b 1 w hv
theorem gf1_off{k:Nat}(h1:1≤k)(h2:k≤15){P:Q3}(lP:P.1<M∧P.2.1<M)(hP:onB k P.1 P.2.1 P.2.2=false)(w:World)(b:Nat)(hv:Vr w b (pnQ P)):Cg 31 #[.int .i64 k,.slice (some ⟨b,0,none⟩) 1 1] w (.tuple #[.agg (cu 0 0 0 0 0 0 0 0 0 false),.int .i64 1401]):=
 gf_off h1 h2 1 (by decide) (fun _=>P) (fun _ _=>lP) _ (fun i d=>by
  obtain rfl:i=0:=by omega
  kernel_rfl) (by simp[pnt_size]) 0 (by decide) hP (fun i h=>absurd h (Nat.not_lt_zero i)) b 1 w hv
theorem gf2{k:Nat}(h1:1≤k)(h2:k≤15){P Q:Q3}(hP:OnQ k P)(hQ:OnQ k Q)(w:World)(b:Nat)(hv:Vr w b (pnQ P++pnQ Q)):Cg 31 #[.int .i64 k,.slice (some ⟨b,0,none⟩) 2 2] w (.tuple #[.agg (cuK k),.int .i64 0]):=
 gf_yes h1 h2 2 (by decide) (fun i=>match i with|0=>P|_=>Q) (fun i _=>match i with|0=>hP.lt|_+1=>hQ.lt) _ (fun i d=>by
  obtain rfl|rfl:i=0∨i=1:=by omega
  ·kernel_rfl
  ·kernel_rfl) (by simp[pnt_size]) (fun i _=>match i with|0=>hP|_+1=>hQ) b 2 w hv
theorem gf2_off{k:Nat}(h1:1≤k)(h2:k≤15){P Q:Q3}(lP:P.1<M∧P.2.1<M)(lQ:Q.1<M∧Q.2.1<M)(h:onB k P.1 P.2.1 P.2.2=false∨onB k Q.1 Q.2.1 Q.2.2=false)(w:World)(b:Nat)(hv:Vr w b (pnQ P++pnQ Q)):Cg 31 #[.int .i64 k,.slice (some ⟨b,0,none⟩) 2 2] w (.tuple #[.agg (cu 0 0 0 0 0 0 0 0 0 false),.int .i64 1401]):=by
 by_cases hP:onB k P.1 P.2.1 P.2.2=true
 ·have f:=h.resolve_left (by rw[hP];decide)
  exact gf_off h1 h2 2 (by decide) (fun i=>match i with|0=>P|_=>Q) (fun i _=>match i with|0=>lP|_+1=>lQ) _ (fun i d=>by
  obtain rfl|rfl:i=0∨i=1:=by omega
  ·kernel_rfl
  ·kernel_rfl) (by simp[pnt_size]) 1 (by decide) f (fun i d=>by
   obtain rfl:i=0:=by omega
   exact hP) b 2 w hv
 ·exact gf_off h1 h2 2 (by decide) (fun i=>match i with|0=>P|_=>Q) (fun i _=>match i with|0=>lP|_+1=>lQ) _ (fun i d=>by
  obtain rfl|rfl:i=0∨i=1:=by omega
  ·kernel_rfl
  ·kernel_rfl) (by simp[pnt_size]) 0 (by decide) (Bool.eq_false_iff.2 hP) (fun i h=>absurd h (Nat.not_lt_zero i)) b 2 w hv
theorem addQ{k:Nat}(h1:1≤k)(h2:k≤15){P Q R:Q3}(hP:OnQ k P)(hQ:OnQ k Q)(hR:plQ k P Q=R)(w:World):Cg 10 #[.int .i64 k,.agg (pnQ P),.agg (pnQ Q)] w (.tuple #[.agg (pnQ R),.int .i64 0]):=aadd_yes (gf2 h1 h2 hP hQ) (gaddQ h1 h2 hP hQ hR) w
theorem negQ{k:Nat}(h1:1≤k)(h2:k≤15){P R:Q3}(hP:OnQ k P)(hR:ngQ k P=R)(w:World):Cg 11 #[.int .i64 k,.agg (pnQ P)] w (.tuple #[.agg (pnQ R),.int .i64 0]):=aneg_yes (gf1 h1 h2 hP) (gnegQ h1 h2 hP hR) w
theorem mulQ{k:Nat}(h1:1≤k)(h2:k≤15){P R:Q3}(hP:OnQ k P){t:Nat}(ht:t<M)(hR:mlQ k t P=R)(w:World):Cg 19 #[.int .i64 k,.agg (nw 9 t),.agg (pnQ P)] w (.tuple #[.agg (pnQ R),.int .i64 0]):=amul_yes t (gf1 h1 h2 hP) (hR▸gmulQ h1 h2 hP t ht) w
theorem add_off{k:Nat}(h1:1≤k)(h2:k≤15){P Q:Q3}(lP:P.1<M∧P.2.1<M)(lQ:Q.1<M∧Q.2.1<M)(h:onB k P.1 P.2.1 P.2.2=false∨onB k Q.1 Q.2.1 Q.2.2=false)(w:World):Cg 10 #[.int .i64 k,.agg (pnQ P),.agg (pnQ Q)] w (.tuple #[.agg (pnt 0 0 false),.int .i64 1401]):=aadd_err _ _ (by decide) (gf2_off h1 h2 lP lQ h) w
theorem neg_off{k:Nat}(h1:1≤k)(h2:k≤15){P:Q3}(lP:P.1<M∧P.2.1<M)(h:onB k P.1 P.2.1 P.2.2=false)(w:World):Cg 11 #[.int .i64 k,.agg (pnQ P)] w (.tuple #[.agg (pnt 0 0 false),.int .i64 1401]):=aneg_err _ _ (by decide) (gf1_off h1 h2 lP h) w
theorem mul_off{k:Nat}(h1:1≤k)(h2:k≤15){P:Q3}(lP:P.1<M∧P.2.1<M)(h:onB k P.1 P.2.1 P.2.2=false)(t:Nat)(w:World):Cg 19 #[.int .i64 k,.agg (nw 9 t),.agg (pnQ P)] w (.tuple #[.agg (pnt 0 0 false),.int .i64 1401]):=amul_err _ _ (by decide) t (gf1_off h1 h2 lP h) w
theorem add_no(x:Int)(h:x<1∨15<x)(P Q:Q3)(w:World):Cg 10 #[.int .i64 x,.agg (pnQ P),.agg (pnQ Q)] w (.tuple #[.agg (pnt 0 0 false),.int .i64 1400]):=aadd_err _ _ (by decide) (fun w _ _=>gf_no x h _ _ _ w) w
theorem neg_no(x:Int)(h:x<1∨15<x)(P:Q3)(w:World):Cg 11 #[.int .i64 x,.agg (pnQ P)] w (.tuple #[.agg (pnt 0 0 false),.int .i64 1400]):=aneg_err _ _ (by decide) (fun w _ _=>gf_no x h _ _ _ w) w
theorem mul_no(x:Int)(h:x<1∨15<x)(P:Q3)(t:Nat)(w:World):Cg 19 #[.int .i64 x,.agg (nw 9 t),.agg (pnQ P)] w (.tuple #[.agg (pnt 0 0 false),.int .i64 1400]):=amul_err _ _ (by decide) t (fun w _ _=>gf_no x h _ _ _ w) w
end
section
attribute [local go_sem ↓] uz8 Go.wp_at_zero Go.wp_at_succ
attribute [local go_sem] uz9
theorem ron_inf(id:Int)(P A B N X Y:Nat)(qc:Nat→Option Addr×Nat)(x y:Nat)(p q:Option Addr)(n m:Nat)(w:World)(HQ:∀k,Sl w (qc k).1 (six P A B N X Y k))(Sx:Sl w p x)(Sy:Sl w q y):
 Cg 15 #[.agg (crA id (six P A B N X Y) qc),.agg (ptA p x n q y m true)] w (.bool (decide (x=0)&&decide (y=0))):=by
 go_enter func15,ntmps15
 go_upto_region 1 with fail
 refine gen_w (fun v=>Gr w v∧Vr v (w.heap.size) (crA id (six P A B N X Y) qc)∧Vr v (w.heap.size+1) (ptA p x n q y m true)) ⟨grA,vrA,vrA⟩ ?_;rintro J ⟨G,j,f⟩;replace HQ:=fun k=>(HQ k).gr G;replace Sx:=Sx.gr G;replace Sy:=Sy.gr G;refine wp_wS [.c (pv (w.heap.size+1) 2),.T] [1] ⟨.o 4 2 f rfl rfl,⟨⟩⟩ fun C l d D=>?_;simp only[fzw];clear D;replace G:=G.trans d;replace j:=j.gr d;replace f:=f.gr d;replace HQ:=fun k=>(HQ k).gr d;replace Sx:=Sx.gr d;replace Sy:=Sy.gr d;clear d
 have H:l.cell? ⟨w.heap.size+1,0,none⟩=some (.slice p (dl x) n):=by rw[cell_blk,f.h];rfl
 have I:l.cell? ⟨w.heap.size+1,1,none⟩=some (.slice q (dl y) m):=by rw[cell_blk,f.h];rfl
 by_cases hx:x=0
 ·have i:=dl_nought x;rw[decide_eq_true hx]at i;have K:=dl_nought y
  go_wp2_with fail
  go_ret
  exact⟨by simp[hx],G⟩
 ·have i:=dl_nought x;rw[decide_eq_false hx]at i
  go_wp2_with fail
  go_ret
  exact⟨by simp[hx],G⟩
theorem ron_x(id:Int)(P A B N X Y:Nat)(qc:Nat→Option Addr×Nat)(x y:Nat)(p q:Option Addr)(n m:Nat)(hx4:dl x≤400)(hd:dl P≤400)(hx:P≤x)(w:World)(HQ:∀k,Sl w (qc k).1 (six P A B N X Y k))(Sx:Sl w p x)(Sy:Sl w q y):
 Cg 15 #[.agg (crA id (six P A B N X Y) qc),.agg (ptA p x n q y m false)] w (.bool false):=by
 obtain⟨i,ex⟩:=exl (cmpZ x P)
 have j:decide (0≤i)=true:=by rw[←ex];unfold cmpZ;rw[if_neg (by omega)];split <;> decide
 go_enter func15,ntmps15
 go_upto_region 1 with fail
 refine gen_w (fun v=>Gr w v∧Vr v (w.heap.size) (crA id (six P A B N X Y) qc)∧Vr v (w.heap.size+1) (ptA p x n q y m false)) ⟨grA,vrA,vrA⟩ ?_;rintro K ⟨G,h,f⟩;replace HQ:=fun k=>(HQ k).gr G;replace Sx:=Sx.gr G;replace Sy:=Sy.gr G;refine wp_wS [.c (pv (w.heap.size+1) 2),.F] [1] ⟨.o 4 2 f rfl rfl,⟨⟩⟩ fun l L d C=>?_;simp only[fzw];clear C;replace G:=G.trans d;replace h:=h.gr d;replace f:=f.gr d;replace HQ:=fun k=>(HQ k).gr d;replace Sx:=Sx.gr d;replace Sy:=Sy.gr d;clear d
 go_upto_region 3 with fail
 refine wp_wS [.c (pv (w.heap.size+1) 0),.c (.slice p (dl (x)) n),.c (pv (w.heap.size) 1),.c (.slice (qc 0).1 (dl (P)) (qc 0).2),.c (.int .i64 i),.T,.T,.u,.u,.u,.u,.u,.u,.T] [1,3,4,5] ⟨.o 29 0 f rfl rfl,.o 29 1 h rfl rfl,.k (fun D =>#[.slice p (dl (x)) n,.slice (qc 0).1 (dl (P)) (qc 0).2]) fun D H d Q=>RtW.of_c (cz_any (Sx.gr d) ((HQ 0).gr d) hx4 hd ex),.s (.binOp .geq 3 (.const (.int .i64 i)) (.const (.int .i64 0)) 3) rfl fun H d=>by simp[go_sem,exI,j],⟨⟩⟩ fun I S d J=>?_;simp only[fzw];clear J;replace G:=G.trans d;replace h:=h.gr d;replace f:=f.gr d;replace HQ:=fun k=>(HQ k).gr d;replace Sx:=Sx.gr d;replace Sy:=Sy.gr d;clear d
 go_wp2_with fail
 go_ret
 exact⟨rfl,G⟩
theorem ron_y(id:Int)(P A B N X Y:Nat)(qc:Nat→Option Addr×Nat)(x y:Nat)(p q:Option Addr)(n m:Nat)(hx4:dl x≤400)(hy4:dl y≤400)(hd:dl P≤400)(hx:x<P)(hy:P≤y)(w:World)(HQ:∀k,Sl w (qc k).1 (six P A B N X Y k))(Sx:Sl w p x)(Sy:Sl w q y):
 Cg 15 #[.agg (crA id (six P A B N X Y) qc),.agg (ptA p x n q y m false)] w (.bool false):=by
 obtain⟨i,ex⟩:=exl (cmpZ x P)
 have H:decide (0≤i)=false:=by rw[←ex];unfold cmpZ;rw[if_pos hx];decide
 obtain⟨j,ey⟩:=exl (cmpZ y P)
 have l:decide (0≤j)=true:=by rw[←ey];unfold cmpZ;rw[if_neg (by omega)];split <;> decide
 go_enter func15,ntmps15
 go_upto_region 1 with fail
 refine gen_w (fun v=>Gr w v∧Vr v (w.heap.size) (crA id (six P A B N X Y) qc)∧Vr v (w.heap.size+1) (ptA p x n q y m false)) ⟨grA,vrA,vrA⟩ ?_;rintro S ⟨G,h,f⟩;replace HQ:=fun k=>(HQ k).gr G;replace Sx:=Sx.gr G;replace Sy:=Sy.gr G;refine wp_wS [.c (pv (w.heap.size+1) 2),.F] [1] ⟨.o 4 2 f rfl rfl,⟨⟩⟩ fun I U d J=>?_;simp only[fzw];clear J;replace G:=G.trans d;replace h:=h.gr d;replace f:=f.gr d;replace HQ:=fun k=>(HQ k).gr d;replace Sx:=Sx.gr d;replace Sy:=Sy.gr d;clear d
 go_upto_region 3 with fail
 refine wp_wS [.c (pv (w.heap.size+1) 0),.c (.slice p (dl (x)) n),.c (pv (w.heap.size) 1),.c (.slice (qc 0).1 (dl (P)) (qc 0).2),.c (.int .i64 i),.F,.F,.c (pv (w.heap.size+1) 1),.c (.slice q (dl (y)) m),.c (pv (w.heap.size) 1),.c (.slice (qc 0).1 (dl (P)) (qc 0).2),.c (.int .i64 j),.T,.T] [1,3,4,5,8,10,11,12] ⟨.o 29 0 f rfl rfl,.o 29 1 h rfl rfl,.k (fun C =>#[.slice p (dl (x)) n,.slice (qc 0).1 (dl (P)) (qc 0).2]) fun C D d K=>RtW.of_c (cz_any (Sx.gr d) ((HQ 0).gr d) hx4 hd ex),.s (.binOp .geq 3 (.const (.int .i64 i)) (.const (.int .i64 0)) 3) rfl fun D d=>by simp[go_sem,exI,H],.o 29 1 f rfl rfl,.o 29 1 h rfl rfl,.k (fun C =>#[.slice q (dl (y)) m,.slice (qc 0).1 (dl (P)) (qc 0).2]) fun C D d K=>RtW.of_c (cz_any (Sy.gr d) ((HQ 0).gr d) hy4 hd ey),.s (.binOp .geq 3 (.const (.int .i64 j)) (.const (.int .i64 0)) 3) rfl fun D d=>by simp[go_sem,exI,l],⟨⟩⟩ fun L V d Q=>?_;simp only[fzw];clear Q;replace G:=G.trans d;replace h:=h.gr d;replace f:=f.gr d;replace HQ:=fun k=>(HQ k).gr d;replace Sx:=Sx.gr d;replace Sy:=Sy.gr d;clear d
 go_wp2_with fail
 go_ret
 exact⟨rfl,G⟩
theorem ron_ok(id:Int)(P A B N X Y:Nat)(qc:Nat→Option Addr×Nat)(x y:Nat)(p q:Option Addr)(n m:Nat)(hx4:dl x≤400)(hy4:dl y≤400)(hd:dl P≤400)(lx:x<P)(ly:y<P)(lA:A<P)(lB:B<P)(w:World)(HQ:∀k,Sl w (qc k).1 (six P A B N X Y k))(Sx:Sl w p x)(Sy:Sl w q y):
 Cg 15 #[.agg (crA id (six P A B N X Y) qc),.agg (ptA p x n q y m false)] w (.bool (decide (y*y%P=((x*x%P+A)%P*x%P+B)%P))):=by
 have Q:0<P:=by omega
 obtain⟨I,ex⟩:=exl (cmpZ x P)
 have V:decide (0≤I)=false:=by rw[←ex];unfold cmpZ;rw[if_pos lx];decide
 obtain⟨J,ey⟩:=exl (cmpZ y P)
 have K:decide (0≤J)=false:=by rw[←ey];unfold cmpZ;rw[if_pos ly];decide
 obtain⟨H,j⟩:=exl (y*y%P);have W:H<P:=j▸Nat.mod_lt _ Q;obtain⟨R,l⟩:=exl (((x*x%P+A)%P*x%P+B)%P);have lR:R<P:=l▸Nat.mod_lt _ Q;rw[l,j];obtain⟨L,S⟩:=exl (cmpZ H R);obtain⟨r,U⟩:=exl (decide (H=R))
 have Z:(L==0)=r:=by rw[←S,←U];exact cmpZ_nought _ _
 rw[U]
 go_enter func15,ntmps15
 go_upto_region 1 with fail
 refine gen_w (fun v=>Gr w v∧Vr v (w.heap.size) (crA id (six P A B N X Y) qc)∧Vr v (w.heap.size+1) (ptA p x n q y m false)) ⟨grA,vrA,vrA⟩ ?_;rintro v0 ⟨G,i,h⟩;replace HQ:=fun k=>(HQ k).gr G;replace Sx:=Sx.gr G;replace Sy:=Sy.gr G;refine wp_wS [.c (pv (w.heap.size+1) 2),.F] [1] ⟨.o 4 2 h rfl rfl,⟨⟩⟩ fun aa v1 d h1=>?_;simp only[fzw];clear h1;replace G:=G.trans d;replace i:=i.gr d;replace h:=h.gr d;replace HQ:=fun k=>(HQ k).gr d;replace Sx:=Sx.gr d;replace Sy:=Sy.gr d;clear d
 go_upto_region 3 with fail
 refine wp_wS [.c (pv (w.heap.size+1) 0),.c (.slice p (dl (x)) n),.c (pv (w.heap.size) 1),.c (.slice (qc 0).1 (dl (P)) (qc 0).2),.c (.int .i64 I),.F,.F,.c (pv (w.heap.size+1) 1),.c (.slice q (dl (y)) m),.c (pv (w.heap.size) 1),.c (.slice (qc 0).1 (dl (P)) (qc 0).2),.c (.int .i64 J),.F,.F] [1,3,4,5,8,10,11,12] ⟨.o 29 0 h rfl rfl,.o 29 1 i rfl rfl,.k (fun f =>#[.slice p (dl (x)) n,.slice (qc 0).1 (dl (P)) (qc 0).2]) fun f C d D=>RtW.of_c (cz_any (Sx.gr d) ((HQ 0).gr d) hx4 hd ex),.s (.binOp .geq 3 (.const (.int .i64 I)) (.const (.int .i64 0)) 3) rfl fun C d=>by simp[go_sem,exI,V],.o 29 1 h rfl rfl,.o 29 1 i rfl rfl,.k (fun f =>#[.slice q (dl (y)) m,.slice (qc 0).1 (dl (P)) (qc 0).2]) fun f C d D=>RtW.of_c (cz_any (Sy.gr d) ((HQ 0).gr d) hy4 hd ey),.s (.binOp .geq 3 (.const (.int .i64 J)) (.const (.int .i64 0)) 3) rfl fun C d=>by simp[go_sem,exI,K],⟨⟩⟩ fun ab v2 d h3=>?_;simp only[fzw];clear h3;replace G:=G.trans d;replace i:=i.gr d;replace h:=h.gr d;replace HQ:=fun k=>(HQ k).gr d;replace Sx:=Sx.gr d;replace Sy:=Sy.gr d;clear d
 go_upto_region 5 with fail
 refine wp_w [.c (pv (w.heap.size+1) 1),.c (.slice q (dl (y)) m),.c (pv (w.heap.size+1) 1),.c (.slice q (dl (y)) m),.c (pv (w.heap.size) 1),.c (.slice (qc 0).1 (dl (P)) (qc 0).2),.n (H),.c (.agg (crA id (six P A B N X Y) qc)),.c (pv (w.heap.size+1) 0),.c (.slice p (dl (x)) n),.n (R),.c (.int .i64 L),.c (.bool r),.c (.bool r)] [1,3,5,6,7,9,10,11,12] ⟨.o 29 1 h rfl rfl,.o 29 1 h rfl rfl,.o 29 1 i rfl rfl,.k (fun f =>#[.slice q (dl (y)) m,.slice q (dl (y)) m,.slice (qc 0).1 (dl (P)) (qc 0).2]) fun f C d D=>RtW.of_n (mm_any (Sy.gr d) (Sy.gr d) ((HQ 0).gr d) ly ly hd j),.g 31 0 i rfl,.o 29 0 h rfl rfl,.k (fun f =>#[.agg (crA id (six P A B N X Y) qc),.slice p (dl (x)) n]) fun f C d D=>RtW.of_n (Rt.n (l▸rright_any id P A B N X Y qc x _ _ lx lA lB hd _ (fun k=>(HQ k).gr d) (Sx.gr d))),.k (fun f =>#[.slice (f 6 0).1 (dl (H)) (f 6 0).2,.slice (f 10 0).1 (dl (R)) (f 10 0).2]) fun f C d D=>RtW.of_c (cz_any (D 6 rfl) (D 10 rfl) (dl_low _ P 400 (by omega) hd) (dl_low _ P 400 (by omega) hd) S),.s (.binOp .eql 3 (.const (.int .i64 L)) (.const (.int .i64 0)) 3) rfl fun C d=>by simp[go_sem,exI,Z],⟨⟩⟩ fun ac v3 d h5=>?_;simp only[fzw];clear h5;replace G:=G.trans d;replace i:=i.gr d;replace h:=h.gr d;replace HQ:=fun k=>(HQ k).gr d;replace Sx:=Sx.gr d;replace Sy:=Sy.gr d;clear d
 go_wp2_with fail
 go_ret
 exact⟨rfl,G⟩
end
section
attribute [local go_sem ↓] uz8 Go.wp_at_zero Go.wp_at_succ
attribute [local go_sem] uz9
attribute [local go_sem] frz_setBlk blk_setBlk setBlk_setBlk
section
variable {P:Nat} [NeZero P] {i:Fin P→Fin P} {A B:Fin P}
theorem rtimes_any(C:EC.Cur i A B)(hd:dl P≤400)(id:Int)(N X Y:Nat)(qc:Nat→Option Addr×Nat)(k nk:Nat)(pk:Option Addr)(hk:dl k≤400)(Q:Option (Fin P×Fin P))(hQ:EC.On A B Q)(p q:Option Addr)(n m:Nat)(w:World)(HQ:∀k,Sl w (qc k).1 (six P A.val B.val N X Y k))(Sk:Sl w pk k)(Sx:Sl w p (ex Q))(Sy:Sl w q (ey Q)):
 Calls prog 20 #[.agg (crA id (six P A.val B.val N X Y) qc),.slice pk (dl k) nk,.agg (ptA p (ex Q) n q (ey Q) m (ef Q))] w (Rt (.pt (ex (EC.ml i A k Q)) (ey (EC.ml i A k Q)) (ef (EC.ml i A k Q))) w):=by
 obtain⟨L,hL⟩:=exl (bl k)
 have az:(L:Int)≤12800:=by
  have:(bl k+31)/32≤400:=hk
  omega
 have aA:(0:Int)≤L:=by omega
 have HB:Hid _:=fun w' g=>hL▸rbits_any k nk pk w' (Sk.gr g) (by omega);have HZ:Hu (k/2^L=0):=fun _=>Nat.div_eq_of_lt (hL▸(bl_le k (bl k)).1 (Nat.le_refl _))
 have ax:Hu (L≤12800):=fun _=>by omega
 clear hL
 go_enter func20,ntmps20
 go_upto_region 3 with (go_at_call 42;refine(HB.out _ grA).mono ?_;rintro e w' ⟨rfl,rfl⟩)
 obtain⟨V,ak⟩:=exl (w.heap.size+1+1+1);simp only[ak]
 refine gen_w (fun v=>Hid (Gr w v∧Vr v (w.heap.size) (crA id (six P A.val B.val N X Y) qc)∧Vr v (w.heap.size+1) (ptA p (ex Q) n q (ey Q) m (ef Q))∧Vr v (w.heap.size+1+1) (ptA none 0 0 none 0 0 false)∧Vr v V (ptA none 0 0 none 0 0 true))) ?_ ?_
 ·subst ak;exact⟨grA,⟨by simp[go_sem],by simp[go_sem],by simp[go_sem]⟩,⟨by simp[go_sem],by simp[go_sem],by simp[go_sem]⟩,⟨by simp[go_sem],by simp[go_sem],by simp[go_sem]⟩,⟨by simp[go_sem],by simp[go_sem],by simp[go_sem]⟩⟩
 intro v0 HV
 have ab:V≠w.heap.size:=by omega
 have ac:V≠w.heap.size+1:=by omega
 have ae:V≠w.heap.size+1+1:=by omega
 have ah:w.heap.size≤V:=by omega
 have HN:Hu (V≠w.heap.size∧V≠w.heap.size+1∧V≠w.heap.size+1+1∧w.heap.size≤V):=fun _=>⟨ab,ac,ae,ah⟩;clear ak ab ac ae ah HB
 go_loopw [8] (fun ia wr=>∃(j:Nat) (po:Option Addr) (no:Nat) (qo:Option Addr) (mo:Nat),ia=.int .i64 ((j:Int)-1)∧Hu (j≤L)∧Hid (Gr w wr∧Vr wr (w.heap.size) (crA id (six P A.val B.val N X Y) qc)∧Vr wr (w.heap.size+1) (ptA p (ex Q) n q (ey Q) m (ef Q))∧Vr wr (w.heap.size+1+1) (ptA none 0 0 none 0 0 false)∧Vr wr V (ptA po (ex (EC.ml i A (k/2^j) Q)) no qo (ey (EC.ml i A (k/2^j) Q)) mo (ef (EC.ml i A (k/2^j) Q)))∧Sl wr po (ex (EC.ml i A (k/2^j) Q))∧Sl wr qo (ey (EC.ml i A (k/2^j) Q)))) (fun ia _=>(intOf ia+1).toNat)
 case atStart=>
  refine⟨L,none,0,none,0,rfl,fun _=>Nat.le_refl _,?_⟩;rw[HZ.out ()];obtain⟨h1,h2,h3,h4,h5⟩:=HV.out;exact⟨h1,h2,h3,h4,h5,Sl.zero _ _,Sl.zero _ _⟩
 case round=>
  obtain⟨j,po,no,qo,mo,rfl,HJ,HR⟩:=hrel
  by_cases hpos:0<j
  ·obtain⟨I,rfl⟩:∃i,j=i+1:=⟨j-1,by omega⟩
   have e1:(((I+1:Nat):Int)-1)=(I:Int):=by omega
   rw[e1]
   have j0:(0:Int)≤I:=by omega
   have j1:(I:Int)<12800:=by have:=HJ.out ();have:=ax.out ();omega
   have ar:I≤L:=by have:=HJ.out ();omega
   obtain⟨R,hR⟩:=exl (EC.ml i A (k/2^(I+1)) Q);obtain⟨x,ao⟩:=exl (EC.pl i A R R);obtain⟨R2,au⟩:=exl (EC.pl i A x Q);rw[hR]at HR;obtain⟨G,U,W,Z,J,So,To⟩:=HR.out;obtain⟨ab,ac,ae,ah⟩:=HN.out ();replace HQ:=fun k=>(HQ k).gr G;replace Sk:=Sk.gr G;replace Sx:=Sx.gr G;replace Sy:=Sy.gr G
   have af:∀b,k/2^I%2=b→k/2^I=k/2^(I+1)+k/2^(I+1)+b:=fun b hb=>by
    rw[Nat.pow_succ,←Nat.div_div_eq_div_mul];omega
   have ai:EC.ml i A (k/2^(I+1)+k/2^(I+1)) Q=x:=by rw[EC.ml_add C hQ,hR,ao]
   have aj:=fun w' (s:Sl w' pk k)=>rbit_any k nk I pk w' s (by omega);clear HV HR HJ hpos e1
   obtain hb|hb:k/2^I%2=0∨k/2^I%2=1:=by omega
   ·have ap:x=EC.ml i A (k/2^I) Q:=by rw[af 0 hb,Nat.add_zero,ai]
    have ag:∀w',Sl w' pk k→Calls prog 43 #[.slice pk (dl k) nk,.int .i64 I] w' fun e aq=>e=.returned (.int .i64 0)∧aq=w':=fun w' s=>by
     have:=aj w' s;rw[show bitN k I=0 from hb]at this;exact this
    clear hb ai af aj
    go_upto_region 5 with fail
    refine wp_wTS 4 [.c (.agg (crA id (six P A.val B.val N X Y) qc)),.c (.agg (ptA po (ex R) no qo (ey R) mo (ef R))),.c (.agg (ptA po (ex R) no qo (ey R) mo (ef R))),.pt (ex x) (ey x) (ef x)] [0,1,2,3] ⟨.g 31 0 U rfl,.g 41 0 J rfl,.g 41 0 J rfl,.k (fun K =>#[.agg (crA id (six P A.val B.val N X Y) qc),.agg (ptA po (ex R) no qo (ey R) mo (ef R)),.agg (ptA po (ex R) no qo (ey R) mo (ef R))]) fun K vv d hh=>RtW.of_pt (ao▸rplus_any C hd id N X Y qc R R po qo no mo po qo no mo _ (fun k=>(HQ k).gr d) (So.gr d) (To.gr d) (So.gr d) (To.gr d)),⟨⟩⟩ (.s 41 (fun K=>pv V 0) (fun K=>.agg (ptA (K 3 0).1 (ex x) (K 3 0).2 (K 3 1).1 (ey x) (K 3 1).2 (ef x))) fun l v1 d h5=>?_);have S:=(J.gr d).h;have FT:=(J.gr d).f;refine⟨setBlk v1 (V) (ptA (l 3 0).1 (ex x) (l 3 0).2 (l 3 1).1 (ey x) (l 3 1).2 (ef x)),by simp[go_sem,exI,S,FT],?_⟩;simp only[fzw];obtain⟨D,H⟩:=h5 3;clear h5;replace G:=G.trans d;replace U:=U.gr d;replace W:=W.gr d;replace Z:=Z.gr d;replace J:=J.gr d;replace HQ:=fun k=>(HQ k).gr d;replace Sk:=Sk.gr d;replace Sx:=Sx.gr d;replace Sy:=Sy.gr d;replace So:=So.gr d;replace To:=To.gr d;clear d
    go_upto_region 6 with fail
    refine gen_w (fun u=>Gr w u∧Vr u (w.heap.size) (crA id (six P A.val B.val N X Y) qc)∧Vr u (w.heap.size+1) (ptA p (ex Q) n q (ey Q) m (ef Q))∧Vr u (w.heap.size+1+1) (ptA none 0 0 none 0 0 false)∧Vr u (V) (ptA (l 3 0).1 (ex x) (l 3 0).2 (l 3 1).1 (ey x) (l 3 1).2 (ef x))∧(∀k,Sl u (qc k).1 (six P A.val B.val N X Y k))∧Sl u pk (k)∧Sl u p (ex Q)∧Sl u q (ey Q)∧Sl u (l 3 0).1 (ex x)∧Sl u (l 3 1).1 (ey x)) ⟨gr_setNew G (by omega),U.other (ab),W.other (ac),Z.other (ae),J.set (by rw[ptA_size];decide) _,fun k=>Sl.set (HQ k) (by rw[S];exact ptA_no _ _ _ _ _ _ _),Sl.set Sk (by rw[S];exact ptA_no _ _ _ _ _ _ _),Sl.set Sx (by rw[S];exact ptA_no _ _ _ _ _ _ _),Sl.set Sy (by rw[S];exact ptA_no _ _ _ _ _ _ _),Sl.set D (by rw[S];exact ptA_no _ _ _ _ _ _ _),Sl.set H (by rw[S];exact ptA_no _ _ _ _ _ _ _)⟩ ?_;clear S FT;rintro u5 ⟨G,U,W,Z,J,HQ,Sk,Sx,Sy,D,H⟩;refine wp_wS [.c (.slice pk (dl (k)) nk),.c (.int .i64 I),.O,.F] [2] ⟨.k (fun K =>#[.slice pk (dl (k)) nk,.int .i64 I]) fun K vv d hh=>RtW.of_c (Rt.same (ag _ (Sk.gr d))),⟨⟩⟩ fun ay v2 d h6=>?_;simp only[fzw];clear h6;replace G:=G.trans d;replace U:=U.gr d;replace W:=W.gr d;replace Z:=Z.gr d;replace J:=J.gr d;replace HQ:=fun k=>(HQ k).gr d;replace Sk:=Sk.gr d;replace Sx:=Sx.gr d;replace Sy:=Sy.gr d;replace D:=D.gr d;replace H:=H.gr d;clear d
    go_wp2_with fail
    go_roundw
    case rel=>
     refine⟨I,(l 3 0).1,(l 3 0).2,(l 3 1).1,(l 3 1).2,by simp,fun _=>ar,?_⟩;rw[←ap];exact⟨G,U,W,Z,J,D,H⟩
    case measure=>simp[intOf]
   ·have ap:R2=EC.ml i A (k/2^I) Q:=by
     rw[af 1 hb]
     show R2=EC.pl i A (EC.ml i A (k/2^(I+1)+k/2^(I+1)) Q) Q
     rw[ai,au]
    have ag:∀w',Sl w' pk k→Calls prog 43 #[.slice pk (dl k) nk,.int .i64 I] w' fun e aq=>e=.returned (.int .i64 1)∧aq=w':=fun w' s=>by
     have:=aj w' s;rw[show bitN k I=1 from hb]at this;exact this
    clear hb ai af aj
    go_upto_region 5 with fail
    refine wp_wTS 4 [.c (.agg (crA id (six P A.val B.val N X Y) qc)),.c (.agg (ptA po (ex R) no qo (ey R) mo (ef R))),.c (.agg (ptA po (ex R) no qo (ey R) mo (ef R))),.pt (ex x) (ey x) (ef x)] [0,1,2,3] ⟨.g 31 0 U rfl,.g 41 0 J rfl,.g 41 0 J rfl,.k (fun K =>#[.agg (crA id (six P A.val B.val N X Y) qc),.agg (ptA po (ex R) no qo (ey R) mo (ef R)),.agg (ptA po (ex R) no qo (ey R) mo (ef R))]) fun K vv d hh=>RtW.of_pt (ao▸rplus_any C hd id N X Y qc R R po qo no mo po qo no mo _ (fun k=>(HQ k).gr d) (So.gr d) (To.gr d) (So.gr d) (To.gr d)),⟨⟩⟩ (.s 41 (fun K=>pv V 0) (fun K=>.agg (ptA (K 3 0).1 (ex x) (K 3 0).2 (K 3 1).1 (ey x) (K 3 1).2 (ef x))) fun l v1 d h5=>?_);have S:=(J.gr d).h;have FT:=(J.gr d).f;refine⟨setBlk v1 (V) (ptA (l 3 0).1 (ex x) (l 3 0).2 (l 3 1).1 (ey x) (l 3 1).2 (ef x)),by simp[go_sem,exI,S,FT],?_⟩;simp only[fzw];obtain⟨D,H⟩:=h5 3;clear h5;replace G:=G.trans d;replace U:=U.gr d;replace W:=W.gr d;replace Z:=Z.gr d;replace J:=J.gr d;replace HQ:=fun k=>(HQ k).gr d;replace Sk:=Sk.gr d;replace Sx:=Sx.gr d;replace Sy:=Sy.gr d;replace So:=So.gr d;replace To:=To.gr d;clear d
    go_upto_region 6 with fail
    refine gen_w (fun u=>Gr w u∧Vr u (w.heap.size) (crA id (six P A.val B.val N X Y) qc)∧Vr u (w.heap.size+1) (ptA p (ex Q) n q (ey Q) m (ef Q))∧Vr u (w.heap.size+1+1) (ptA none 0 0 none 0 0 false)∧Vr u (V) (ptA (l 3 0).1 (ex x) (l 3 0).2 (l 3 1).1 (ey x) (l 3 1).2 (ef x))∧(∀k,Sl u (qc k).1 (six P A.val B.val N X Y k))∧Sl u pk (k)∧Sl u p (ex Q)∧Sl u q (ey Q)∧Sl u (l 3 0).1 (ex x)∧Sl u (l 3 1).1 (ey x)) ⟨gr_setNew G (by omega),U.other (ab),W.other (ac),Z.other (ae),J.set (by rw[ptA_size];decide) _,fun k=>Sl.set (HQ k) (by rw[S];exact ptA_no _ _ _ _ _ _ _),Sl.set Sk (by rw[S];exact ptA_no _ _ _ _ _ _ _),Sl.set Sx (by rw[S];exact ptA_no _ _ _ _ _ _ _),Sl.set Sy (by rw[S];exact ptA_no _ _ _ _ _ _ _),Sl.set D (by rw[S];exact ptA_no _ _ _ _ _ _ _),Sl.set H (by rw[S];exact ptA_no _ _ _ _ _ _ _)⟩ ?_;clear S FT;rintro u5 ⟨G,U,W,Z,J,HQ,Sk,Sx,Sy,D,H⟩;refine wp_wS [.c (.slice pk (dl (k)) nk),.c (.int .i64 I),.c (.int .i64 1),.T] [2] ⟨.k (fun K =>#[.slice pk (dl (k)) nk,.int .i64 I]) fun K vv d hh=>RtW.of_c (Rt.same (ag _ (Sk.gr d))),⟨⟩⟩ fun ay v2 d h6=>?_;simp only[fzw];clear h6;replace G:=G.trans d;replace U:=U.gr d;replace W:=W.gr d;replace Z:=Z.gr d;replace J:=J.gr d;replace HQ:=fun k=>(HQ k).gr d;replace Sk:=Sk.gr d;replace Sx:=Sx.gr d;replace Sy:=Sy.gr d;replace D:=D.gr d;replace H:=H.gr d;clear d
    go_upto_region 7 with fail
    refine wp_wTS 4 [.c (.agg (crA id (six P A.val B.val N X Y) qc)),.c (.agg (ptA (l 3 0).1 (ex x) (l 3 0).2 (l 3 1).1 (ey x) (l 3 1).2 (ef x))),.c (.agg (ptA p (ex Q) n q (ey Q) m (ef Q))),.pt (ex R2) (ey R2) (ef R2)] [0,1,2,3] ⟨.g 31 0 U rfl,.g 41 0 J rfl,.g 41 0 W rfl,.k (fun K =>#[.agg (crA id (six P A.val B.val N X Y) qc),.agg (ptA (l 3 0).1 (ex x) (l 3 0).2 (l 3 1).1 (ey x) (l 3 1).2 (ef x)),.agg (ptA p (ex Q) n q (ey Q) m (ef Q))]) fun K vv d hh=>RtW.of_pt (au▸rplus_any C hd id N X Y qc x Q (l 3 0).1 (l 3 1).1 (l 3 0).2 (l 3 1).2 p q n m _ (fun k=>(HQ k).gr d) (D.gr d) (H.gr d) (Sx.gr d) (Sy.gr d)),⟨⟩⟩ (.s 41 (fun K=>pv V 0) (fun K=>.agg (ptA (K 3 0).1 (ex R2) (K 3 0).2 (K 3 1).1 (ey R2) (K 3 1).2 (ef R2))) fun aa v3 d h7=>?_);have S:=(J.gr d).h;have FT:=(J.gr d).f;refine⟨setBlk v3 (V) (ptA (aa 3 0).1 (ex R2) (aa 3 0).2 (aa 3 1).1 (ey R2) (aa 3 1).2 (ef R2)),by simp[go_sem,exI,S,FT],?_⟩;simp only[fzw];obtain⟨av,aw⟩:=h7 3;clear h7;replace G:=G.trans d;replace U:=U.gr d;replace W:=W.gr d;replace Z:=Z.gr d;replace J:=J.gr d
    go_wp2_with fail
    go_roundw
    case rel=>
     refine⟨I,(aa 3 0).1,(aa 3 0).2,(aa 3 1).1,(aa 3 1).2,by simp,fun _=>ar,?_⟩;rw[←ap];exact⟨gr_setNew G (by omega),U.other ab,W.other ac,Z.other ae,J.set (by rw[ptA_size];decide) _,Sl.set av (by rw[S];exact ptA_no _ _ _ _ _ _ _),Sl.set aw (by rw[S];exact ptA_no _ _ _ _ _ _ _)⟩
    case measure=>simp[intOf]
  ·obtain rfl:j=0:=by omega
   rw[Nat.pow_zero,Nat.div_one]at HR;obtain⟨R,hR⟩:=exl (EC.ml i A k Q);rw[hR]at HR;obtain⟨G,U,W,Z,J,So,To⟩:=HR.out;obtain⟨ab,ac,ae,ah⟩:=HN.out ();have⟨h3,f3,p3⟩:=Z;have⟨h7,f7,p7⟩:=J
   go_wp2_with fail
   refine bo1 results20 (rd_pt po (ex R) no qo (ey R) mo (ef R) (by rfl) ?_) ⟨_,rfl,?_,gr_setNew G (by omega)⟩
   ·simp[go_sem,h3]
   ·rw[hR];exact⟨_,_,_,_,rfl,Sl.set So (by rw[h3];exact ptA_no _ _ _ _ _ _ _),Sl.set To (by rw[h3];exact ptA_no _ _ _ _ _ _ _)⟩
end
end
end
end Go.Proofs.YtffhepbppiocbaaGreat