import Derived.Test.YtffhepbppiocbacGreatXBAK
namespace Go.Proofs.YtffhepbppiocbacGreat
open Go.RowKit Go.Proofs.Tryz
set_option maxRecDepth 100000
set_option maxHeartbeats 8000000
section
attribute [local go_sem ↓] uz1
attribute [local go_sem] uz2
section
attribute [local go_sem] uz8
attribute [local go_sem ↓] uz15 Go.wp_at_zero Go.wp_at_succ
attribute [local go_sem] uz16
theorem galong_of(id:Int)(P A B N X Y:Nat)(s z:Int)(l:Bool)(m x1 y1 x2 y2 q1 q2 q3 q4 q5 q6:Nat)(H1':∀w,Cg 122 #[.agg (cu id P A B N X Y s z l),.agg (nw 9 m),.agg (nw 9 m)] w (.agg (nw 9 q1)))(H3':∀w,Cg 120 #[.agg (cu id P A B N X Y s z l),.agg (nw 9 q1),.agg (nw 9 q2)] w (.agg (nw 9 q3)))(H4':∀w,Cg 120 #[.agg (cu id P A B N X Y s z l),.agg (nw 9 x1),.agg (nw 9 q3)] w (.agg (nw 9 q4)))(H5':∀w,Cg 122 #[.agg (cu id P A B N X Y s z l),.agg (nw 9 m),.agg (nw 9 q4)] w (.agg (nw 9 q5)))(H6':∀w,Cg 120 #[.agg (cu id P A B N X Y s z l),.agg (nw 9 q5),.agg (nw 9 y1)] w (.agg (nw 9 q6)))(H2':∀w b,Vr w b (nw 9 x1++nw 9 x2)→Cg 123 #[.agg (cu id P A B N X Y s z l),.slice (some ⟨b,0,none⟩) 2 2] w (.agg (nw 9 q2)))(w:World):
 Cg 121 #[.agg (cu id P A B N X Y s z l),.agg (nw 9 m),.agg (pnt x1 y1 false),.agg (pnt x2 y2 false)] w (.agg (pnt q3 q6 false)):=by
 have V:Hid _:=H1';have W:Hid _:=H3';have Z:Hid _:=H4';have H5:Hid _:=H5';have H6:Hid _:=H6';have H2:Hid _:=H2';clear H1' H3' H4' H5' H6' H2'
 go_enter func121,ntmps121
 go_upto_region 1 with fail
 refine gen_w (fun v=>Hid (Gr w v∧Vr v (w.heap.size) (cu id P A B N X Y s z l)∧Vr v (w.heap.size+1) (nw 9 m)∧Vr v (w.heap.size+1+1) (pnt x1 y1 false)∧Vr v (w.heap.size+1+1+1) (pnt x2 y2 false)∧Vr v (w.heap.size+1+1+1+1) (pnt 0 0 false))) ⟨grA,vrA,vrA,vrA,vrA,vrA⟩ ?_;intro v0 S;obtain⟨G,j,q,x,H,D⟩:=S.out;clear S;refine wp_v true [.c (.agg (cu id P A B N X Y s z l)),.c (.agg (cu id P A B N X Y s z l)),.N m,.N m,.N q1,.c (.agg (cu id P A B N X Y s z l)),.c (pv (w.heap.size+1+1) 0),.N x1,.c (pv (w.heap.size+1+1+1) 0),.N x2,.r 2 (nw 9 x1++nw 9 x2),.N q2,.N q3,.a,.u] [0,1,2,3,4,5,7,9,10,11,12] [⟨13,14,33,nw 9 0,fun _=>nw 9 q3⟩] ⟨.g 98 0 j rfl,.g 98 0 j rfl,.g 33 0 q rfl,.g 33 0 q rfl,.z V.out,.g 98 0 j rfl,.g 33 0 x rfl,.g 33 0 H rfl,.r (.buildSlice 189 2 #[(0,.const (.agg (nw 9 x1))),(1,.const (.agg (nw 9 x2)))]) rfl (rowN2 _ _),.k (fun I =>#[.agg (cu id P A B N X Y s z l),.slice (some ⟨(I 10 0).2,0,none⟩) 2 2]) fun I vv d hh=>RtW.of_c (Rt.c (H2.out _ _ (hh 10 rfl))),.z W.out,⟨⟩⟩ ⟨.k zNat ⟨fkc,fkc,fkc,fkc,fkc,fkc,fkc,fkc,fkc,fkc,fkr (by simp[nw_size]),fkc,fkc,fka,fku,trivial⟩,⟨⟩⟩ fun aa v1 d h1 J=>?_;simp only[fzw,Kw.a,Kw.r];obtain⟨⟨K,i⟩,-⟩:=J;clear h1;replace G:=G.trans d;replace j:=j.gr d;replace q:=q.gr d;replace x:=x.gr d;replace H:=H.gr d;replace D:=D.gr d;clear d
 go_upto_region 2 with fail
 refine wp_v true [.c (.agg (cu id P A B N X Y s z l)),.c (.agg (cu id P A B N X Y s z l)),.N m,.c (.agg (cu id P A B N X Y s z l)),.c (pv (w.heap.size+1+1) 0),.N x1,.N q3,.N q4,.N q5,.c (pv (w.heap.size+1+1) 9),.N y1,.N q6,.a,.u] [0,1,2,3,5,6,7,8,10,11] [⟨12,13,33,nw 9 0,fun _=>nw 9 q6⟩] ⟨.g 98 0 j rfl,.g 98 0 j rfl,.g 33 0 q rfl,.g 98 0 j rfl,.g 33 0 x rfl,.g 33 0 i rfl,.z Z.out,.z H5.out,.g 33 9 x rfl,.z H6.out,⟨⟩⟩ ⟨.k zNat (.t rfl),⟨⟩⟩ fun ab v2 d h2 L=>?_;simp only[fzw,Kw.a];obtain⟨⟨Q,C⟩,-⟩:=L;clear h2;replace G:=G.trans d;replace j:=j.gr d;replace q:=q.gr d;replace x:=x.gr d;replace H:=H.gr d;replace D:=D.gr d;replace i:=i.gr d
 go_upto_region 3 with fail
 refine wp_wTS 3 [.N q3,.N q6,.c (.agg (pnt q3 q6 false))] [0,1] ⟨.g 33 0 i rfl,.g 33 0 C rfl,⟨⟩⟩ (.s 35 (fun I=>pv (w.heap.size+1+1+1+1) 0) (fun I=>.agg (pnt q3 q6 false)) fun ac v3 d h3=>?_);have U:=(D.gr d).h;have FT:=(D.gr d).f;refine⟨setBlk v3 (w.heap.size+1+1+1+1) (pnt q3 q6 false),by simp[go_sem,exI,U,FT],?_⟩;simp only[fzw];replace G:=G.trans d
 go_wp2_with fail
 exact bo1 results121 (rd_pn (by rfl) (blk_setBlk _ _ _ (by rw[U];decide +kernel))) ⟨rfl,gr_setNew G (by omega)⟩
theorem gchord_of(id:Int)(P A B N X Y:Nat)(s z:Int)(l:Bool)(x1 y1 x2 y2 q1 q2 q3 r1 r2:Nat)(H1':∀w,Cg 120 #[.agg (cu id P A B N X Y s z l),.agg (nw 9 y2),.agg (nw 9 y1)] w (.agg (nw 9 q1)))(H2':∀w,Cg 120 #[.agg (cu id P A B N X Y s z l),.agg (nw 9 x2),.agg (nw 9 x1)] w (.agg (nw 9 q2)))(H3':∀w,Cg 119 #[.agg (cu id P A B N X Y s z l),.agg (nw 9 q1),.agg (nw 9 q2)] w (.agg (nw 9 q3)))(HAL':∀w,Cg 121 #[.agg (cu id P A B N X Y s z l),.agg (nw 9 q3),.agg (pnt x1 y1 false),.agg (pnt x2 y2 false)] w (.agg (pnt r1 r2 false)))(w:World):
 Cg 99 #[.agg (cu id P A B N X Y s z l),.agg (pnt x1 y1 false),.agg (pnt x2 y2 false)] w (.agg (pnt r1 r2 false)):=by
 have L:Hid _:=H1';have Q:Hid _:=H2';have S:Hid _:=H3';have D:Hid _:=HAL';clear H1' H2' H3' HAL'
 go_enter func99,ntmps99
 go_upto_region 1 with fail
 refine gen_w (fun v=>Hid (Gr w v∧Vr v (w.heap.size) (cu id P A B N X Y s z l)∧Vr v (w.heap.size+1) (pnt x1 y1 false)∧Vr v (w.heap.size+1+1) (pnt x2 y2 false)∧Vr v (w.heap.size+1+1+1) (pnt 0 0 false))) ⟨grA,vrA,vrA,vrA,vrA⟩ ?_;intro v0 J;obtain⟨G,j,q,x,C⟩:=J.out;clear J;refine wp_v true [.c (.agg (cu id P A B N X Y s z l)),.c (.agg (cu id P A B N X Y s z l)),.c (pv (w.heap.size+1+1) 9),.N y2,.c (pv (w.heap.size+1) 9),.N y1,.N q1,.c (.agg (cu id P A B N X Y s z l)),.c (pv (w.heap.size+1+1) 0),.N x2,.c (pv (w.heap.size+1) 0),.N x1,.N q2,.N q3,.a,.u] [0,1,3,5,6,7,9,11,12,13] [⟨14,15,33,nw 9 0,fun _=>nw 9 q3⟩] ⟨.g 98 0 j rfl,.g 98 0 j rfl,.g 33 9 x rfl,.g 33 9 q rfl,.z L.out,.g 98 0 j rfl,.g 33 0 x rfl,.g 33 0 q rfl,.z Q.out,.z S.out,⟨⟩⟩ ⟨.k zNat (.t rfl),⟨⟩⟩ fun U v1 d V H=>?_;simp only[fzw,Kw.a];obtain⟨⟨I,i⟩,-⟩:=H;clear V;replace G:=G.trans d;replace j:=j.gr d;replace q:=q.gr d;replace x:=x.gr d;replace C:=C.gr d
 go_upto_region 2 with fail
 refine wp_wTS 5 [.c (.agg (cu id P A B N X Y s z l)),.N q3,.c (.agg (pnt x1 y1 false)),.c (.agg (pnt x2 y2 false)),.c (.agg (pnt r1 r2 false))] [0,1,2,3,4] ⟨.g 98 0 j rfl,.g 33 0 i rfl,.g 35 0 q rfl,.g 35 0 x rfl,.z D.out,⟨⟩⟩ (.s 35 (fun W=>pv (w.heap.size+1+1+1) 0) (fun W=>.agg (pnt r1 r2 false)) fun Z v2 d h2=>?_);have K:=(C.gr d).h;have FT:=(C.gr d).f;refine⟨setBlk v2 (w.heap.size+1+1+1) (pnt r1 r2 false),by simp[go_sem,exI,K,FT],?_⟩;simp only[fzw];replace G:=G.trans d
 go_wp2_with fail
 exact bo1 results99 (rd_pn (by rfl) (blk_setBlk _ _ _ (by rw[K];decide +kernel))) ⟨rfl,gr_setNew G (by omega)⟩
theorem gtang_of(id:Int)(P A B N X Y:Nat)(s z:Int)(l:Bool)(x1 y1 x2 y2 q1 q2 q3 q4 r1 r2:Nat)(H1':∀w,Cg 122 #[.agg (cu id P A B N X Y s z l),.agg (nw 9 x1),.agg (nw 9 x1)] w (.agg (nw 9 q1)))(H4':∀w,Cg 119 #[.agg (cu id P A B N X Y s z l),.agg (nw 9 q2),.agg (nw 9 q3)] w (.agg (nw 9 q4)))(H2':∀w b,Vr w b (nw 9 q1++nw 9 q1++nw 9 q1++nw 9 A)→Cg 123 #[.agg (cu id P A B N X Y s z l),.slice (some ⟨b,0,none⟩) 4 4] w (.agg (nw 9 q2)))(H3':∀w b,Vr w b (nw 9 y1++nw 9 y1)→Cg 123 #[.agg (cu id P A B N X Y s z l),.slice (some ⟨b,0,none⟩) 2 2] w (.agg (nw 9 q3)))(HAL':∀w,Cg 121 #[.agg (cu id P A B N X Y s z l),.agg (nw 9 q4),.agg (pnt x1 y1 false),.agg (pnt x2 y2 false)] w (.agg (pnt r1 r2 false)))(w:World):
 Cg 100 #[.agg (cu id P A B N X Y s z l),.agg (pnt x1 y1 false),.agg (pnt x2 y2 false)] w (.agg (pnt r1 r2 false)):=by
 have W:Hid _:=H1';have Z:Hid _:=H4';have H2:Hid _:=H2';have H3:Hid _:=H3';have I:Hid _:=HAL';clear H1' H4' H2' H3' HAL'
 go_enter func100,ntmps100
 go_upto_region 1 with fail
 refine gen_w (fun v=>Hid (Gr w v∧Vr v (w.heap.size) (cu id P A B N X Y s z l)∧Vr v (w.heap.size+1) (pnt x1 y1 false)∧Vr v (w.heap.size+1+1) (pnt x2 y2 false)∧Vr v (w.heap.size+1+1+1) (pnt 0 0 false))) ⟨grA,vrA,vrA,vrA,vrA⟩ ?_;intro v0 S;obtain⟨G,j,q,H,D⟩:=S.out;clear S;refine wp_v false [.c (.agg (cu id P A B N X Y s z l)),.c (pv (w.heap.size+1) 0),.N x1,.c (pv (w.heap.size+1) 0),.N x1,.N q1,.a,.u] [0,2,4,5] [⟨6,7,33,nw 9 0,fun _=>nw 9 q1⟩] ⟨.g 98 0 j rfl,.g 33 0 q rfl,.g 33 0 q rfl,.z W.out,⟨⟩⟩ ⟨.k zNat (.t rfl),⟨⟩⟩ fun aa v1 d h1 J=>?_;simp only[fzw,Kw.a];obtain⟨⟨U,i⟩,-⟩:=J;clear h1;replace G:=G.trans d;replace j:=j.gr d;replace q:=q.gr d;replace H:=H.gr d;replace D:=D.gr d;clear d
 go_upto_region 2 with fail
 refine wp_v true [.c (.agg (cu id P A B N X Y s z l)),.c (.agg (cu id P A B N X Y s z l)),.N q1,.N q1,.N q1,.c (pv (w.heap.size) 0),.c (pv (w.heap.size) 10),.N A,.r 4 (nw 9 q1++nw 9 q1++nw 9 q1++nw 9 A),.N q2,.c (.agg (cu id P A B N X Y s z l)),.c (pv (w.heap.size+1) 9),.N y1,.c (pv (w.heap.size+1) 9),.N y1,.r 2 (nw 9 y1++nw 9 y1),.N q3,.N q4,.a,.u] [0,1,2,3,4,7,8,9,10,12,14,15,16,17] [⟨18,19,33,nw 9 0,fun _=>nw 9 q4⟩] ⟨.g 98 0 j rfl,.g 98 0 j rfl,.g 33 0 i rfl,.g 33 0 i rfl,.g 33 0 i rfl,.g 33 10 j rfl,.r (.buildSlice 189 4 #[(0,.const (.agg (nw 9 q1))),(1,.const (.agg (nw 9 q1))),(2,.const (.agg (nw 9 q1))),(3,.const (.agg (nw 9 A)))]) rfl (rowN4 _ _ _ _),.k (fun x =>#[.agg (cu id P A B N X Y s z l),.slice (some ⟨(x 8 0).2,0,none⟩) 4 4]) fun x vv d K=>RtW.of_c (Rt.c (H2.out _ _ (K 8 rfl))),.g 98 0 j rfl,.g 33 9 q rfl,.g 33 9 q rfl,.r (.buildSlice 189 2 #[(0,.const (.agg (nw 9 y1))),(1,.const (.agg (nw 9 y1)))]) rfl (rowN2 _ _),.k (fun x =>#[.agg (cu id P A B N X Y s z l),.slice (some ⟨(x 15 0).2,0,none⟩) 2 2]) fun x vv d K=>RtW.of_c (Rt.c (H3.out _ _ (K 15 rfl))),.z Z.out,⟨⟩⟩ ⟨.k zNat ⟨fkc,fkc,fkc,fkc,fkc,fkc,fkc,fkc,fkr (by simp[nw_size]),fkc,fkc,fkc,fkc,fkc,fkc,fkr (by simp[nw_size]),fkc,fkc,fka,fku,trivial⟩,⟨⟩⟩ fun ab v2 d h2 L=>?_;simp only[fzw,Kw.a,Kw.r];obtain⟨⟨Q,C⟩,-⟩:=L;clear h2;replace G:=G.trans d;replace j:=j.gr d;replace q:=q.gr d;replace H:=H.gr d;replace D:=D.gr d
 go_upto_region 3 with fail
 refine wp_wTS 5 [.c (.agg (cu id P A B N X Y s z l)),.N q4,.c (.agg (pnt x1 y1 false)),.c (.agg (pnt x2 y2 false)),.c (.agg (pnt r1 r2 false))] [0,1,2,3,4] ⟨.g 98 0 j rfl,.g 33 0 C rfl,.g 35 0 q rfl,.g 35 0 H rfl,.z I.out,⟨⟩⟩ (.s 35 (fun x=>pv (w.heap.size+1+1+1) 0) (fun x=>.agg (pnt r1 r2 false)) fun ac v3 d h3=>?_);have V:=(D.gr d).h;have FT:=(D.gr d).f;refine⟨setBlk v3 (w.heap.size+1+1+1) (pnt r1 r2 false),by simp[go_sem,exI,V,FT],?_⟩;simp only[fzw];replace G:=G.trans d
 go_wp2_with fail
 exact bo1 results100 (rd_pn (by rfl) (blk_setBlk _ _ _ (by rw[V];decide +kernel))) ⟨rfl,gr_setNew G (by omega)⟩
end
section
theorem neNat(x y:Nat)(w:World):(binOp .neq 33 (.agg (nw 9 x)) (.agg (nw 9 y))).run prog w=.ok (.bool (!(eqN 9 x y))) w:=by
 rw[run_neq_struct,show (10000:Nat)=9997+3 from rfl,eqNatIn]
 rfl
theorem storePY(w:World)(b q:Nat)(hs:(blk w b).size=19)(hf:frz w b=(0,0)):(storeS 33 (.pointer (some ⟨b,9,none⟩)) (.agg (nw 9 q))).run prog w=.ok () (setBlk w b (setL (blk w b) 9 (nw 9 q).toList)):=by
 have d:w.there b 9 (nw 9 q).size:=fun j f=>by
  rw[nw_size]at f;exact⟨by rw[cell_blk,Array.getElem?_eq_getElem (by omega)];rfl,frz_at w b _ hf⟩
 simp only[storeS,Instr.storeAt,Instr.sureAddr,Sem.run_bind,Sem.run_pure,Result.andThen_ok];rw[run_storeVar_mid w b 9 33 (nw 9 q) d (by kernel_rfl) (nw_one 9 q),setCells_setBlk _ _ _ _ (by omega)]
theorem pnt_setY(x y q:Nat)(f:Bool):setL (pnt x y f) 9 (nw 9 q).toList=pnt x q f:=by kernel_rfl
theorem buildN0(w:World):(buildF 33 #[]).run prog w=.ok (.agg (nw 9 0)) w:=by kernel_rfl
theorem buildN_is(p:Array (Nat×Value)):Instr.build 33 p=buildF 33 p:=rfl
attribute [local go_sem] uz8
attribute [local go_sem ↓] uz15 Go.wp_at_zero Go.wp_at_succ
attribute [local go_sem] uz16
theorem rel_0(x1 y1 x2 y2:Nat)(f2:Bool)(w:World):
 Cg 82 #[.agg (pnt x1 y1 true),.agg (pnt x2 y2 f2)] w (.int .i64 0):=by
 go_enter func82,ntmps82
 go_upto_region 1 with fail
 refine gen_w (fun v=>Hid (Gr w v∧Vr v (w.heap.size) (pnt x1 y1 true)∧Vr v (w.heap.size+1) (pnt x2 y2 f2))) ⟨grA,vrA,vrA⟩ ?_;intro j d;obtain⟨G,f,q⟩:=d.out;refine wp_wS [.c (pv (w.heap.size) 18),.T,.T] [1] ⟨.o 4 18 f rfl (by exact pnt_18 _ _ _),⟨⟩⟩ fun h x i A=>?_;simp only[fzw];replace G:=G.trans i
 go_wp2_with fail
 go_ret
 exact⟨rfl,G⟩
theorem rel_1(x1 y1 x2 y2:Nat)(w:World):
 Cg 82 #[.agg (pnt x1 y1 false),.agg (pnt x2 y2 true)] w (.int .i64 1):=by
 go_enter func82,ntmps82
 go_upto_region 1 with fail
 refine gen_w (fun v=>Hid (Gr w v∧Vr v (w.heap.size) (pnt x1 y1 false)∧Vr v (w.heap.size+1) (pnt x2 y2 true))) ⟨grA,vrA,vrA⟩ ?_;intro A i;obtain⟨G,f,h⟩:=i.out;clear i;refine wp_wS [.c (pv (w.heap.size) 18),.F,.F] [1] ⟨.o 4 18 f rfl (by exact pnt_18 _ _ _),⟨⟩⟩ fun j B d q=>?_;simp only[fzw];clear q;replace G:=G.trans d;replace f:=f.gr d;replace h:=h.gr d
 go_upto_region 3 with fail
 refine wp_wS [.c (pv (w.heap.size+1) 18),.T,.T] [1] ⟨.o 4 18 h rfl (by exact pnt_18 _ _ _),⟨⟩⟩ fun x C d D=>?_;simp only[fzw];replace G:=G.trans d;replace f:=f.gr d
 go_wp2_with fail
 go_ret
 exact⟨rfl,G⟩
theorem rel_2(x1 y1 x2 y2:Nat)(e1:eqN 9 x1 x2=false)(w:World):
 Cg 82 #[.agg (pnt x1 y1 false),.agg (pnt x2 y2 false)] w (.int .i64 2):=by
 go_enter func82,ntmps82
 go_upto_region 1 with fail
 refine gen_w (fun v=>Hid (Gr w v∧Vr v (w.heap.size) (pnt x1 y1 false)∧Vr v (w.heap.size+1) (pnt x2 y2 false))) ⟨grA,vrA,vrA⟩ ?_;intro C i;obtain⟨G,f,h⟩:=i.out;clear i;refine wp_wS [.c (pv (w.heap.size) 18),.F,.F] [1] ⟨.o 4 18 f rfl (by exact pnt_18 _ _ _),⟨⟩⟩ fun j D d q=>?_;simp only[fzw];clear q;replace G:=G.trans d;replace f:=f.gr d;replace h:=h.gr d;clear d
 go_upto_region 3 with fail
 refine wp_wS [.c (pv (w.heap.size+1) 18),.F,.F] [1] ⟨.o 4 18 h rfl (by exact pnt_18 _ _ _),⟨⟩⟩ fun x H d A=>?_;simp only[fzw];clear A;replace G:=G.trans d;replace f:=f.gr d;replace h:=h.gr d
 go_upto_region 5 with fail
 refine wp_wS [.c (pv (w.heap.size) 0),.N x1,.c (pv (w.heap.size+1) 0),.N x2,.T,.T] [1,3,4] ⟨.g 33 0 f rfl,.g 33 0 h rfl,.s (.binOp .neq 33 (.const (.agg (nw 9 x1))) (.const (.agg (nw 9 x2))) 33) rfl fun I d=>by simp[go_sem,exI,neNat,e1],⟨⟩⟩ fun B J d K=>?_;simp only[fzw];replace G:=G.trans d
 go_wp2_with fail
 go_ret
 exact⟨rfl,G⟩
theorem rel_3(x1 y1 x2 y2:Nat)(e1:eqN 9 x1 x2=true)(e2:eqN 9 y1 y2=true)(e3:eqN 9 y1 0=false)(w:World):
 Cg 82 #[.agg (pnt x1 y1 false),.agg (pnt x2 y2 false)] w (.int .i64 3):=by
 go_enter func82,ntmps82
 go_upto_region 1 with fail
 refine gen_w (fun v=>Hid (Gr w v∧Vr v (w.heap.size) (pnt x1 y1 false)∧Vr v (w.heap.size+1) (pnt x2 y2 false))) ⟨grA,vrA,vrA⟩ ?_;intro I i;obtain⟨G,f,h⟩:=i.out;clear i;refine wp_wS [.c (pv (w.heap.size) 18),.F,.F] [1] ⟨.o 4 18 f rfl (by exact pnt_18 _ _ _),⟨⟩⟩ fun q J d x=>?_;simp only[fzw];clear x;replace G:=G.trans d;replace f:=f.gr d;replace h:=h.gr d;clear d
 go_upto_region 3 with fail
 refine wp_wS [.c (pv (w.heap.size+1) 18),.F,.F] [1] ⟨.o 4 18 h rfl (by exact pnt_18 _ _ _),⟨⟩⟩ fun A K d B=>?_;simp only[fzw];clear B;replace G:=G.trans d;replace f:=f.gr d;replace h:=h.gr d;clear d
 go_upto_region 5 with fail
 refine wp_wS [.c (pv (w.heap.size) 0),.N x1,.c (pv (w.heap.size+1) 0),.N x2,.F,.F] [1,3,4] ⟨.g 33 0 f rfl,.g 33 0 h rfl,.s (.binOp .neq 33 (.const (.agg (nw 9 x1))) (.const (.agg (nw 9 x2))) 33) rfl fun j d=>by simp[go_sem,exI,neNat,e1],⟨⟩⟩ fun C L d D=>?_;simp only[fzw];clear D;replace G:=G.trans d;replace f:=f.gr d;replace h:=h.gr d
 go_upto_region 7 with fail
 refine wp_wS [.c (.agg (pnt x1 y1 false)),.c (.agg (pnt x2 y2 false)),.T,.T,.c (pv (w.heap.size) 9),.N y1,.N 0,.T,.T,.T] [0,1,2,5,7] ⟨.g 35 0 f rfl,.g 35 0 h rfl,.s (.binOp .eql 35 (.const (.agg (pnt x1 y1 false))) (.const (.agg (pnt x2 y2 false))) 35) rfl fun j d=>by simp[go_sem,exI,eqPn,e1,e2],.g 33 9 f rfl,.s (.binOp .neq 33 (.const (.agg (nw 9 y1))) (.const (.agg (nw 9 0))) 33) rfl fun j d=>by simp[go_sem,exI,neNat,e3],⟨⟩⟩ fun H P d Q=>?_;simp only[fzw];replace G:=G.trans d
 go_wp2_with fail
 go_ret
 exact⟨rfl,G⟩
theorem rel_4(x1 y1 x2 y2:Nat)(e1:eqN 9 x1 x2=true)(e2:eqN 9 y1 y2=false)(w:World):
 Cg 82 #[.agg (pnt x1 y1 false),.agg (pnt x2 y2 false)] w (.int .i64 4):=by
 go_enter func82,ntmps82
 go_upto_region 1 with fail
 refine gen_w (fun v=>Hid (Gr w v∧Vr v (w.heap.size) (pnt x1 y1 false)∧Vr v (w.heap.size+1) (pnt x2 y2 false))) ⟨grA,vrA,vrA⟩ ?_;intro I i;obtain⟨G,f,h⟩:=i.out;clear i;refine wp_wS [.c (pv (w.heap.size) 18),.F,.F] [1] ⟨.o 4 18 f rfl (by exact pnt_18 _ _ _),⟨⟩⟩ fun j J d q=>?_;simp only[fzw];clear q;replace G:=G.trans d;replace f:=f.gr d;replace h:=h.gr d;clear d
 go_upto_region 3 with fail
 refine wp_wS [.c (pv (w.heap.size+1) 18),.F,.F] [1] ⟨.o 4 18 h rfl (by exact pnt_18 _ _ _),⟨⟩⟩ fun x K d A=>?_;simp only[fzw];clear A;replace G:=G.trans d;replace f:=f.gr d;replace h:=h.gr d;clear d
 go_upto_region 5 with fail
 refine wp_wS [.c (pv (w.heap.size) 0),.N x1,.c (pv (w.heap.size+1) 0),.N x2,.F,.F] [1,3,4] ⟨.g 33 0 f rfl,.g 33 0 h rfl,.s (.binOp .neq 33 (.const (.agg (nw 9 x1))) (.const (.agg (nw 9 x2))) 33) rfl fun B d=>by simp[go_sem,exI,neNat,e1],⟨⟩⟩ fun C L d D=>?_;simp only[fzw];clear D;replace G:=G.trans d;replace f:=f.gr d;replace h:=h.gr d
 go_upto_region 7 with fail
 refine wp_wS [.c (.agg (pnt x1 y1 false)),.c (.agg (pnt x2 y2 false)),.F,.F,.u,.u,.u,.u,.F,.F] [0,1,2] ⟨.g 35 0 f rfl,.g 35 0 h rfl,.s (.binOp .eql 35 (.const (.agg (pnt x1 y1 false))) (.const (.agg (pnt x2 y2 false))) 35) rfl fun B d=>by simp[go_sem,exI,eqPn,e1,e2],⟨⟩⟩ fun H P d Q=>?_;simp only[fzw];replace G:=G.trans d
 go_wp2_with fail
 go_ret
 exact⟨rfl,G⟩
theorem rel_5(x1 y1 x2 y2:Nat)(e1:eqN 9 x1 x2=true)(e2:eqN 9 y1 y2=true)(e3:eqN 9 y1 0=true)(w:World):
 Cg 82 #[.agg (pnt x1 y1 false),.agg (pnt x2 y2 false)] w (.int .i64 4):=by
 go_enter func82,ntmps82
 go_upto_region 1 with fail
 refine gen_w (fun v=>Hid (Gr w v∧Vr v (w.heap.size) (pnt x1 y1 false)∧Vr v (w.heap.size+1) (pnt x2 y2 false))) ⟨grA,vrA,vrA⟩ ?_;intro I i;obtain⟨G,f,h⟩:=i.out;clear i;refine wp_wS [.c (pv (w.heap.size) 18),.F,.F] [1] ⟨.o 4 18 f rfl (by exact pnt_18 _ _ _),⟨⟩⟩ fun q J d x=>?_;simp only[fzw];clear x;replace G:=G.trans d;replace f:=f.gr d;replace h:=h.gr d;clear d
 go_upto_region 3 with fail
 refine wp_wS [.c (pv (w.heap.size+1) 18),.F,.F] [1] ⟨.o 4 18 h rfl (by exact pnt_18 _ _ _),⟨⟩⟩ fun A K d B=>?_;simp only[fzw];clear B;replace G:=G.trans d;replace f:=f.gr d;replace h:=h.gr d;clear d
 go_upto_region 5 with fail
 refine wp_wS [.c (pv (w.heap.size) 0),.N x1,.c (pv (w.heap.size+1) 0),.N x2,.F,.F] [1,3,4] ⟨.g 33 0 f rfl,.g 33 0 h rfl,.s (.binOp .neq 33 (.const (.agg (nw 9 x1))) (.const (.agg (nw 9 x2))) 33) rfl fun j d=>by simp[go_sem,exI,neNat,e1],⟨⟩⟩ fun C L d D=>?_;simp only[fzw];clear D;replace G:=G.trans d;replace f:=f.gr d;replace h:=h.gr d
 go_upto_region 7 with fail
 refine wp_wS [.c (.agg (pnt x1 y1 false)),.c (.agg (pnt x2 y2 false)),.T,.T,.c (pv (w.heap.size) 9),.N y1,.N 0,.F,.F,.F] [0,1,2,5,7] ⟨.g 35 0 f rfl,.g 35 0 h rfl,.s (.binOp .eql 35 (.const (.agg (pnt x1 y1 false))) (.const (.agg (pnt x2 y2 false))) 35) rfl fun j d=>by simp[go_sem,exI,eqPn,e1,e2],.g 33 9 f rfl,.s (.binOp .neq 33 (.const (.agg (nw 9 y1))) (.const (.agg (nw 9 0))) 33) rfl fun j d=>by simp[go_sem,exI,neNat,e3],⟨⟩⟩ fun H P d Q=>?_;simp only[fzw];replace G:=G.trans d
 go_wp2_with fail
 go_ret
 exact⟨rfl,G⟩
theorem gadd_of(id:Int)(P A B N X Y:Nat)(s z:Int)(l:Bool)(x1 y1 x2 y2 x3 y3:Nat)(f1 f2 f3:Bool)(r:Int)(f:Nat)(hid:∀w,(Instr.index 131 (.agg tabA) (.int .i64 r)).run prog w=.ok (.func (.func f) #[] #[]) w)(hcf:∀w,(callFunc f #[.agg (cu id P A B N X Y s z l),.agg (pnt x1 y1 f1),.agg (pnt x2 y2 f2)]).run prog w=.ok (.enter f #[.agg (cu id P A B N X Y s z l),.agg (pnt x1 y1 f1),.agg (pnt x2 y2 f2)]) w)(HR':∀w,Cg 82 #[.agg (pnt x1 y1 f1),.agg (pnt x2 y2 f2)] w (.int .i64 r))(HS':∀w,Calls prog f #[.agg (cu id P A B N X Y s z l),.agg (pnt x1 y1 f1),.agg (pnt x2 y2 f2)] w fun e w'=>e=.returned (.agg (pnt x3 y3 f3))∧Gr w w')(w:World):
 Cg 59 #[.agg (cu id P A B N X Y s z l),.agg (pnt x1 y1 f1),.agg (pnt x2 y2 f2)] w (.agg (pnt x3 y3 f3)):=by
 have H:Hid _:=HR';have I:Hid _:=HS';clear HR' HS'
 go_enter func59,ntmps59
 go_upto_region 1 with fail
 refine gen_w (fun v=>Hid (Gr w v∧Vr v (w.heap.size) (cu id P A B N X Y s z l)∧Vr v (w.heap.size+1) (pnt x1 y1 f1)∧Vr v (w.heap.size+1+1) (pnt x2 y2 f2)∧Vr v (w.heap.size+1+1+1) (pnt 0 0 false))) ⟨grA,vrA,vrA,vrA,vrA⟩ ?_;intro U i;obtain⟨G,J,j,q,x⟩:=i.out;clear i;refine wp_wT 9 [.c (.agg tabA),.c (.agg (pnt x1 y1 f1)),.c (.agg (pnt x2 y2 f2)),.c (.int .i64 r),.c (.func (.func f) #[] #[]),.c (.agg (cu id P A B N X Y s z l)),.c (.agg (pnt x1 y1 f1)),.c (.agg (pnt x2 y2 f2)),.c (.agg (pnt x3 y3 f3))] [0,1,2,3,4,5,6,7,8] ⟨.z toSum_any,.g 35 0 j rfl,.g 35 0 q rfl,.z H.out,.s (.index 131 (.const (.agg tabA)) (.const (.int .i64 r))) rfl fun K d=>by simp[go_sem,exI,hid],.g 98 0 J rfl,.g 35 0 j rfl,.g 35 0 q rfl,.kf (fun _ =>#[.agg (cu id P A B N X Y s z l),.agg (pnt x1 y1 f1),.agg (pnt x2 y2 f2)]) (fun _=>hcf) fun C K d V=>RtW.of_c (Rt.c (I.out _)),⟨⟩⟩ (.s 35 (fun C=>pv (w.heap.size+1+1+1) 0) (fun C=>.agg (pnt x3 y3 f3)) fun L Q d W=>?_);have D:=(x.gr d).h;have S:=(x.gr d).f;refine⟨setBlk Q (w.heap.size+1+1+1) (pnt x3 y3 f3),by simp[go_sem,exI,D,S],?_⟩;simp only[fzw];replace G:=G.trans d
 go_wp2_with fail
 exact bo1 results59 (rd_pn (by rfl) (blk_setBlk _ _ _ (by rw[D];decide +kernel))) ⟨rfl,gr_setNew G (by omega)⟩
attribute [local go_sem ↓] buildN_is
attribute [local go_sem] storePY pnt_setY buildN0
end
end
section
theorem gdiffF{k:Nat}(h1:1≤k)(h2:k≤15)(a b:Fin (pN k))(w:World):Cg 120 #[.agg (cuK k),.agg (nw 9 a.val),.agg (nw 9 b.val)] w (.agg (nw 9 (a-b).val)):=gdiff_of _ _ _ _ _ _ _ _ _ _ _ _ _ (fsubF h1 h2 a b) w
theorem gprodF{k:Nat}(h1:1≤k)(h2:k≤15)(a b:Fin (pN k))(w:World):Cg 122 #[.agg (cuK k),.agg (nw 9 a.val),.agg (nw 9 b.val)] w (.agg (nw 9 (a*b).val)):=gprod_of _ _ _ _ _ _ _ _ _ _ _ _ _ (fmulF h1 h2 a b) w
theorem gquotF{k:Nat}(h1:1≤k)(h2:k≤15)[NeZero (pN k)](a b:Fin (pN k))(hb:b≠0)(w:World):Cg 119 #[.agg (cuK k),.agg (nw 9 a.val),.agg (nw 9 b.val)] w (.agg (nw 9 (a*EC.iP (pN k) b).val)):=gquot_of _ _ _ _ _ _ _ _ _ _ _ _ _ _ (finvF h1 h2 b hb) (gprodF h1 h2 a _) w
def accF{p:Nat}[NeZero p](F:Nat→Fin p):Nat→Fin p
 | 0=>0
 | n+1=>accF F n+F n
theorem gsumF{k:Nat}(h1:1≤k)(h2:k≤15)[NeZero (pN k)](F:Nat→Fin (pN k))(n:Nat)(hn:n≤4)(c:Array Value)(hrow:∀i,i<n→c.extract (i*9) (i*9+9)=nw 9 (F i).val)(hsz:n*9≤c.size)(b:Nat)(w:World)(hv:Vr w b c):
 Cg 123 #[.agg (cuK k),.slice (some ⟨b,0,none⟩) n n] w (.agg (nw 9 (accF F n).val)):=
 gsum_of _ _ _ _ _ _ _ _ _ _ n hn (fun i=>(F i).val) (fun i=>(accF F i).val) c (Fin.val_zero _) hrow hsz (fun _ _ w=>faddF h1 h2 _ _ w) b n w hv
theorem gsum2F{k:Nat}(h1:1≤k)(h2:k≤15)[NeZero (pN k)](x y:Fin (pN k))(w:World)(b:Nat)(hv:Vr w b (nw 9 x.val++nw 9 y.val)):
 Cg 123 #[.agg (cuK k),.slice (some ⟨b,0,none⟩) 2 2] w (.agg (nw 9 (x+y).val)):=by
 have h:=gsumF h1 h2 (fun i=>match i with|0=>x|_=>y) 2 (by decide) _ (fun i d=>by
  obtain rfl|rfl:i=0∨i=1:=by omega
  ·kernel_rfl
  ·kernel_rfl) (by simp[nw_size]) b w hv
 rw[show accF (fun i=>match i with|0=>x|_=>y) 2=x+y by show 0+x+y=x+y;grobner]at h;exact h
theorem gsum4F{k:Nat}(h1:1≤k)(h2:k≤15)[NeZero (pN k)](x y z u:Fin (pN k))(w:World)(b:Nat)(hv:Vr w b (nw 9 x.val++nw 9 y.val++nw 9 z.val++nw 9 u.val)):
 Cg 123 #[.agg (cuK k),.slice (some ⟨b,0,none⟩) 4 4] w (.agg (nw 9 (x+y+z+u).val)):=by
 have h:=gsumF h1 h2 (fun i=>match i with|0=>x|1=>y|2=>z|_=>u) 4 (by decide) _ (fun i d=>by
  obtain rfl|rfl|rfl|rfl:i=0∨i=1∨i=2∨i=3:=by omega
  ·kernel_rfl
  ·kernel_rfl
  ·kernel_rfl
  ·kernel_rfl) (by simp[nw_size]) b w hv
 rw[show accF (fun i=>match i with|0=>x|1=>y|2=>z|_=>u) 4=x+y+z+u by show 0+x+y+z+u=x+y+z+u;grobner]at h;exact h
theorem galongF{k:Nat}(h1:1≤k)(h2:k≤15)[NeZero (pN k)](m x1 y1 x2 y2:Fin (pN k))(w:World):
 Cg 121 #[.agg (cuK k),.agg (nw 9 m.val),.agg (pnt x1.val y1.val false),.agg (pnt x2.val y2.val false)] w (.agg (pnt (ex (some (EC.sx m x1 x2,EC.sy m x1 y1 (EC.sx m x1 x2)))) (ey (some (EC.sx m x1 x2,EC.sy m x1 y1 (EC.sx m x1 x2)))) (ef (some (EC.sx m x1 x2,EC.sy m x1 y1 (EC.sx m x1 x2)))))):=by
 have e:m*m-(x1+x2)=EC.sx m x1 x2:=by unfold EC.sx;grobner
 have d:=gdiffF h1 h2 (m*m) (x1+x2);rw[e]at d;exact galong_of _ _ _ _ _ _ _ _ _ _ _ _ _ _ _ _ _ _ _ _ _ (gprodF h1 h2 m m) d (gdiffF h1 h2 x1 _) (gprodF h1 h2 m _) (gdiffF h1 h2 _ y1) (gsum2F h1 h2 x1 x2) w
theorem gadd_any{k:Nat}(h1:1≤k)(h2:k≤15)[NeZero (pN k)](Q1 Q2:Option (Fin (pN k)×Fin (pN k)))(w:World):
 Cg 59 #[.agg (cuK k),.agg (pnt (ex Q1) (ey Q1) (ef Q1)),.agg (pnt (ex Q2) (ey Q2) (ef Q2))] w (.agg (pnt (ex (EC.pl (EC.iP (pN k)) (EC.aF k h1 h2) Q1 Q2)) (ey (EC.pl (EC.iP (pN k)) (EC.aF k h1 h2) Q1 Q2)) (ef (EC.pl (EC.iP (pN k)) (EC.aF k h1 h2) Q1 Q2)))):=by
 have C:=EC.curN k h1 h2;have j:=pN_M k;have z:(0:Fin (pN k)).val=0:=Fin.val_zero _
 have d:∀a b:Fin (pN k),eqN 9 a.val b.val=decide (a=b):=fun a b=>by
  rw[eqN9 _ _ (Nat.lt_trans a.isLt j) (Nat.lt_trans b.isLt j)];exact decide_eq_decide.2 Fin.ext_iff.symm
 match Q1,Q2 with
 | none,Q2=>exact gadd_of _ _ _ _ _ _ _ _ _ _ _ _ _ _ _ _ _ _ _ 0 97 (fun w=>by kernel_rfl) (fun w=>by kernel_rfl) (rel_0 _ _ _ _ _) (gright_any _ _ _ _ _ _ _ _ _ _ _ _ _ _ _ _) w
 | some (x1,y1),none=>exact gadd_of _ _ _ _ _ _ _ _ _ _ _ _ _ _ _ _ _ _ _ 1 98 (fun w=>by kernel_rfl) (fun w=>by kernel_rfl) (rel_1 _ _ _ _) (gleft_any _ _ _ _ _ _ _ _ _ _ _ _ _ _ _ _) w
 | some (x1,y1),some (x2,y2)=>
  by_cases hx:x1=x2
  ·subst hx;have f:eqN 9 x1.val x1.val=true:=eqN_self _ _
   by_cases hy:y1=y2
   ·subst hy;have q:eqN 9 y1.val y1.val=true:=eqN_self _ _
    by_cases h0:y1=0
    ·have e:EC.pl (EC.iP (pN k)) (EC.aF k h1 h2) (some (x1,y1)) (some (x1,y1))=none:=by simp[EC.pl,h0]
     rw[e];exact gadd_of _ _ _ _ _ _ _ _ _ _ _ _ _ _ _ _ _ _ _ 4 101 (fun w=>by kernel_rfl) (fun w=>by kernel_rfl) (rel_5 _ _ _ _ f q (z▸(d y1 0).trans (decide_eq_true h0))) (ginf_any _ _ _ _ _ _ _ _ _ _ _ _ _ _ _ _) w
    ·have i:y1+y1≠0:=fun h=>h0 (C.dbl h)
     have e:EC.pl (EC.iP (pN k)) (EC.aF k h1 h2) (some (x1,y1)) (some (x1,y1))=some (EC.sx ((x1*x1+(x1*x1+x1*x1)+EC.aF k h1 h2)*EC.iP (pN k) (y1+y1)) x1 x1,EC.sy ((x1*x1+(x1*x1+x1*x1)+EC.aF k h1 h2)*EC.iP (pN k) (y1+y1)) x1 y1 (EC.sx ((x1*x1+(x1*x1+x1*x1)+EC.aF k h1 h2)*EC.iP (pN k) (y1+y1)) x1 x1)):=by simp[EC.pl,h0]
     rw[e];have x:=gsum4F h1 h2 (x1*x1) (x1*x1) (x1*x1) (EC.aF k h1 h2);rw[show x1*x1+x1*x1+x1*x1+EC.aF k h1 h2=x1*x1+(x1*x1+x1*x1)+EC.aF k h1 h2 by grobner]at x;exact gadd_of _ _ _ _ _ _ _ _ _ _ _ _ _ _ _ _ _ _ _ 3 100 (fun w=>by kernel_rfl) (fun w=>by kernel_rfl) (rel_3 _ _ _ _ f q (z▸(d y1 0).trans (decide_eq_false h0))) (gtang_of _ _ _ _ _ _ _ _ _ _ _ _ _ _ _ _ _ _ _ _ (gprodF h1 h2 x1 x1) (gquotF h1 h2 _ _ i) x (gsum2F h1 h2 y1 y1) (galongF h1 h2 _ x1 y1 x1 y1)) w
   ·have e:EC.pl (EC.iP (pN k)) (EC.aF k h1 h2) (some (x1,y1)) (some (x1,y2))=none:=by simp[EC.pl,hy]
    rw[e];exact gadd_of _ _ _ _ _ _ _ _ _ _ _ _ _ _ _ _ _ _ _ 4 101 (fun w=>by kernel_rfl) (fun w=>by kernel_rfl) (rel_4 _ _ _ _ f ((d y1 y2).trans (decide_eq_false hy))) (ginf_any _ _ _ _ _ _ _ _ _ _ _ _ _ _ _ _) w
  ·have i:x2-x1≠0:=fun h=>hx (EC.sub_zero_of h).symm
   have e:EC.pl (EC.iP (pN k)) (EC.aF k h1 h2) (some (x1,y1)) (some (x2,y2))=some (EC.sx ((y2-y1)*EC.iP (pN k) (x2-x1)) x1 x2,EC.sy ((y2-y1)*EC.iP (pN k) (x2-x1)) x1 y1 (EC.sx ((y2-y1)*EC.iP (pN k) (x2-x1)) x1 x2)):=by simp[EC.pl,hx]
   rw[e];exact gadd_of _ _ _ _ _ _ _ _ _ _ _ _ _ _ _ _ _ _ _ 2 99 (fun w=>by kernel_rfl) (fun w=>by kernel_rfl) (rel_2 _ _ _ _ ((d x1 x2).trans (decide_eq_false hx))) (gchord_of _ _ _ _ _ _ _ _ _ _ _ _ _ _ _ _ _ _ _ (gdiffF h1 h2 y2 y1) (gdiffF h1 h2 x2 x1) (gquotF h1 h2 _ _ i) (galongF h1 h2 _ x1 y1 x2 y2)) w
theorem gaddQ{k:Nat}(h1:1≤k)(h2:k≤15){P Q R:Q3}(hP:OnQ k P)(hQ:OnQ k Q)(hR:plQ k P Q=R)(w:World):
 Cg 59 #[.agg (cuK k),.agg (pnQ P),.agg (pnQ Q)] w (.agg (pnQ R)):=by
 haveI:=EC.nzP k h1 h2
 obtain⟨d,f,i⟩:=dec3 hP;obtain⟨j,q,x⟩:=dec3 hQ;have h:=gadd_any h1 h2 (decQ (pN k) P) (decQ (pN k) Q) w;rw[d,f,i,j,q,x]at h;rw[←hR,plQ_is h1 h2];exact h
end
section
attribute [local go_sem ↓] uz1
attribute [local go_sem] uz2
section
attribute [local go_sem] uz8
attribute [local go_sem ↓] uz15 Go.wp_at_zero Go.wp_at_succ
attribute [local go_sem] uz16
theorem gf_yes{k:Nat}(h1:1≤k)(h2:k≤15)(n:Nat)(hn:n≤2)(F:Nat→Q3)(hF:∀i,i<n→(F i).1<M∧(F i).2.1<M)(c:Array Value)(hrow:∀i,i<n→c.extract (i*19) (i*19+19)=pnQ (F i))(hsz:n*19≤c.size)(hon:∀i,i<n→onB k (F i).1 (F i).2.1 (F i).2.2=true)(b cap:Nat)(w:World)(hv:Vr w b c):
 Cg 58 #[.int .i64 k,.slice (some ⟨b,0,none⟩) n cap] w (.tuple #[.agg (cuK k),.int .i64 0]):=by
 have C:Hid (∀w,Cg 60 #[.int .i64 k] w (.tuple #[.agg (cuK k),.int .i64 0])):=fun w=>get13_yes k h1 h2 w;have L:Hu (n≤2):=fun _=>hn;have D:Hid _:=hF;have P:Hid _:=hon
 have Q:Hid (∀j,j<n→∀v,Gr w v→(loadS 35 (.pointer (some ⟨b,j*19,none⟩))).run prog v=.ok (.agg (pnt (F j).1 (F j).2.1 (F j).2.2)) v):=fun j S v g=>by
  have H:=(hv.gr g).h;rw[loadPartP v b (j*19) (by rw[H];omega),H,hrow j S]
 clear hn hF hrow hsz hon
 go_enter func58,ntmps58
 go_wp2_with (go_at_call 60;refine(C.out _).mono ?_;rintro e I ⟨rfl,x⟩)
 obtain⟨q,d⟩:=exl (I.heap.size);simp only[d]
 refine gen_w (fun wr=>Hid (Gr w wr∧Vr wr (w.heap.size) (cu 0 0 0 0 0 0 0 0 0 false)∧Vr wr q (cuK k))) ?_ ?_
 ·subst d;exact⟨(((Gr.refl w).alloc _).trans x).alloc _,((Vr.new w _ _).gr x).gr ((Gr.refl _).alloc _),Vr.new I _ _⟩
 have U:w.heap.size<q:=by have:=x.below.size;simp at this;omega
 have J:¬(w.heap.size=q):=by omega
 have K:¬(q=w.heap.size):=by omega
 clear d x C;intro v0 A
 go_loopw [20] (fun ia wr=>∃j:Nat,ia=.int .i64 j∧Hu (j≤n)∧Hid (Gr w wr∧Vr wr (w.heap.size) (cu 0 0 0 0 0 0 0 0 0 false)∧Vr wr q (cuK k))) (fun ia _=>((n:Int)-intOf ia).toNat)
 case atStart=>exact⟨0,rfl,fun _=>Nat.zero_le _,A⟩
 case round=>
  clear A;obtain⟨j,rfl,HJ,A⟩:=hrel;obtain⟨G,V,W⟩:=A.out
  have j0:(0:Int)≤j:=by omega
  have n4:(n:Int)≤2:=by have:=L.out ();omega
  have⟨X,Y,Z⟩:=V;have⟨aa,ab,ac⟩:=W
  by_cases hlt:j<n
  ·have f:j<n:=by exact hlt
   have ae:=Q.out j f wr G
   have B:Hid _:=fun w=>by
    have:=on13_yes k h1 h2 _ _ (F j).2.2 (D.out j f).1 (D.out j f).2 w;rw[P.out j hlt]at this;exact this
   go_wp2_with (go_at_call 61;refine hkA B fun g=>?_)
   go_roundw
   case rel=>
    refine⟨j+1,by go_num,fun _=>hlt,?_,⟨by simp[go_sem, *],by simp[go_sem, *],by simp[go_sem, *]⟩,⟨by simp[go_sem, *],by simp[go_sem, *],by simp[go_sem, *]⟩⟩;exact grB
   case measure=>simp[intOf];omega
  ·skip
   go_wp2_with fail
   refine bo2 results58 (rd_gp (by rfl) ?_) ⟨rfl,?_⟩
   ·simp[go_sem, *]
   ·exact grB
end
section
attribute [local go_sem] uz8
attribute [local go_sem ↓] uz15 Go.wp_at_zero Go.wp_at_succ
attribute [local go_sem] uz16
theorem aadd_yes{k:Nat}{P Q R:Q3}(HG':(∀w b,Vr w b (pnQ P++pnQ Q)→Cg 58 #[.int .i64 k,.slice (some ⟨b,0,none⟩) 2 2] w (.tuple #[.agg (cuK k),.int .i64 0])))(HA':∀w,Cg 59 #[.agg (cuK k),.agg (pnQ P),.agg (pnQ Q)] w (.agg (pnQ R)))(w:World):
 Cg 25 #[.int .i64 k,.agg (pnQ P),.agg (pnQ Q)] w (.tuple #[.agg (pnQ R),.int .i64 0]):=by
 have C:Hid _:=HG';have D:Hid _:=HA';clear HG' HA'
 go_enter func25,ntmps25
 go_upto_region 1 with fail
 refine gen_w (fun v=>Hid (Gr w v∧Vr v (w.heap.size) (pnQ P)∧Vr v (w.heap.size+1) (pnQ Q)∧Vr v (w.heap.size+1+1) (pnt 0 0 false))) ⟨grA,vrA,vrA,vrA⟩ ?_;intro v0 x;obtain⟨G,h,i,j⟩:=x.out;clear x;refine wp_v false [.c (.int .i64 k),.c (.agg (pnQ P)),.c (.agg (pnQ Q)),.r 2 (pnQ P++pnQ Q),.E (.agg (cuK k)),.E (.agg (cuK k)),.c (.agg (cuK k)),.O,.a,.u,.O] [1,2,3,4] [⟨8,9,98,cu 0 0 0 0 0 0 0 0 0 false,fun _=>cuK k⟩] ⟨.g 35 0 h rfl,.g 35 0 i rfl,.r (.buildSlice 128 2 #[(0,.const (.agg (pnQ P))),(1,.const (.agg (pnQ Q)))]) rfl (rowP2 _ _ _ _ _ _),.k (fun A =>#[.int .i64 k,.slice (some ⟨(A 3 0).2,0,none⟩) 2 2]) fun A vv d H=>RtW.of_c (Rt.c (C.out _ _ (H 3 rfl))),⟨⟩⟩ ⟨.k zCu ⟨fkc,fkc,fkc,fkr (by simp[cu_size,pnt_size]),fkc,fkc,fkc,fkc,fka,fku,fkc,trivial⟩,⟨⟩⟩ fun I v1 d J q=>?_;simp only[fzw,Kw.a,Kw.r];obtain⟨⟨B,f⟩,-⟩:=q;clear J;replace G:=G.trans d;replace h:=h.gr d;replace i:=i.gr d;replace j:=j.gr d;clear d
 go_upto_region 2 with fail
 refine wp_wS [.O,.F] [] ⟨⟩ fun K v2 d L=>?_;simp only[fzw];clear L;replace G:=G.trans d;replace h:=h.gr d;replace i:=i.gr d;replace j:=j.gr d;replace f:=f.gr d;clear d;have S:=h.al;have⟨U,V,W⟩:=i;have X:=j.al;have⟨Y,Z,aa⟩:=f
 go_wp2_with (go_at_call 59;refine hkA D fun g=>?_)
 refine bo2 results25 (rd_pn (by rfl) ?_) ⟨rfl,?_⟩
 ·simp[go_sem, *]
 ·exact grB
theorem gf2{k:Nat}(h1:1≤k)(h2:k≤15){P Q:Q3}(hP:OnQ k P)(hQ:OnQ k Q)(w:World)(b:Nat)(hv:Vr w b (pnQ P++pnQ Q)):Cg 58 #[.int .i64 k,.slice (some ⟨b,0,none⟩) 2 2] w (.tuple #[.agg (cuK k),.int .i64 0]):=
 gf_yes h1 h2 2 (by decide) (fun i=>match i with|0=>P|_=>Q) (fun i _=>match i with|0=>hP.lt|_+1=>hQ.lt) _ (fun i d=>by
  obtain rfl|rfl:i=0∨i=1:=by omega
  ·kernel_rfl
  ·kernel_rfl) (by simp[pnt_size]) (fun i _=>match i with|0=>hP|_+1=>hQ) b 2 w hv
theorem addQ{k:Nat}(h1:1≤k)(h2:k≤15){P Q R:Q3}(hP:OnQ k P)(hQ:OnQ k Q)(hR:plQ k P Q=R)(w:World):Cg 25 #[.int .i64 k,.agg (pnQ P),.agg (pnQ Q)] w (.tuple #[.agg (pnQ R),.int .i64 0]):=aadd_yes (gf2 h1 h2 hP hQ) (gaddQ h1 h2 hP hQ hR) w
end
end
end Go.Proofs.YtffhepbppiocbacGreat