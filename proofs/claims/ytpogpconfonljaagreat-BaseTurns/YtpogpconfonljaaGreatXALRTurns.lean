import Derived.Test.YtpogpconfonljaaGreatXAQK
import Derived.Test.YtpogpconfonljaaGreatXAAV
import Derived.Test.YtpogpconfonljaaGreatXACT
namespace Go.Proofs.YtpogpconfonljaaGreat
open Go.RowKit
set_option maxRecDepth 100000
set_option maxHeartbeats 8000000
section
attribute [local go_sem ↓] uz1
attribute [local go_sem] uz2
section
attribute [local go_sem] uz8
attribute [local go_sem ↓] uz17 Go.wp_at_zero Go.wp_at_succ
attribute [local go_sem] uz18
attribute [local go_sem ↓] mkB_is
attribute [local go_sem] mkB_run eqPn eqN_self setCell_setBlk
theorem Bs.no32 {c:Array Value} {f:Nat→Bool} (h:Bs c f) (i:Nat) (n:Int):c[i]? ≠ some (Value.int .u32 n):=fun e=>by
 have hi:=(Array.getElem?_eq_some_iff.1 e).1
 rw [h.1] at hi
 rw [h.2 i hi] at e
 cases e
theorem tiny_dl (k:Nat) (h1:13≤k) (h2:k≤15):dl (oN k)=1:=by
 obtain rfl | rfl | rfl:k=13∨k=14∨k=15:=by omega
 all_goals decide +kernel
theorem lrturns_any (id:Int) (a:Nat) (la:a<M) (which:Int) (w:World):Cg 6 #[.int .i64 id,.agg (nw 9 a),.int .i64 which] w (.bool true):=by
 obtain ⟨u,hu,hu2,hk⟩:=idx_conv id
 have hbd:=idx_bd id
 obtain ⟨k,hkk⟩:=exl (idx id)
 rw [hkk] at hk hbd
 obtain ⟨h1,h2⟩:=hbd
 have u0:(0:Int)≤(u:Int):=by omega
 have hk2:(1:Int)+(u:Int)%15=(k:Int):=by omega
 have hk3:IntKind.i64.wrap ((u:Int)%15)=(u:Int)%15:=by rw [IntKind.wrap_i64]; omega
 have hk4:IntKind.u64.wrap ((u:Int)%15)=(u:Int)%15:=by rw [IntKind.wrap_u64]; omega
 have hk5:(u:Int).tmod 15=(u:Int)%15:=by rw [Int.tmod_eq_emod_of_nonneg (by omega)]
 have k0:(1:Int)≤(k:Int):=by omega
 have k1:(k:Int)≤15:=by omega
 have hu3:id%18446744073709551616=(u:Int):=by rw [← hu,IntKind.wrap_u64]
 clear hkk hk
 have HGR:Hid (∀ w,Calls Tryz.prog 8 #[.int .i64 (k:Int)] w (GetQ k w)):=fun w=>getq_yes k h1 h2 w
 have HAW:Hid (∀ w,Cg 13 #[] w (.bool true)):=fun w=>awake19_any w
 go_enter Tryz.func6,Tryz.ntmps6
 go_upto_region 1 with fail
 refine gen_w (fun v=>Hid (Gr w v∧Vr v (w.heap.size) (nw 9 a))) ⟨grA,vrA⟩ ?_
 intro u0 HV
 go_upto_region 6 with (first
  | (go_at_call 13; refine (HAW.out _).mono ?_; rintro e WA ⟨rfl,GA⟩)
  | (go_at_call 8; refine (HGR.out _).mono ?_; rintro e WB ⟨qc,rfl,HQ,GB⟩))
 obtain ⟨e9,he9⟩:=exl (WB.heap.size)
 simp only [he9]
 refine gen_w (fun v=>Gr w v∧Vr v e9 (crA (k:Int) (nN k) qc)∧(∀ j,Sl v (qc j).1 (nN k j))∧Vr v (w.heap.size) (nw 9 a)) ?_ ?_
 ·subst he9
  have g1:Gr WB (WB.alloc (.cells (crA (k:Int) (nN k) qc) 29)):=(Gr.refl _).alloc _
  obtain ⟨G,c0⟩:=HV.out
  have g2:=(GA.trans GB).trans g1
  exact ⟨G.trans g2,Vr.new _ _ _,fun j=>(HQ j).gr g1,c0.gr g2⟩
 clear he9 GA GB HQ HAW HGR hu hu2 hk2 hk3 hk4 hk5 hu3 u0 k0 k1 HV
 rintro v0 ⟨G,c9,HQ,c0⟩
 have hNp:=oN_g3 k h1 h2
 obtain ⟨m1,hm1⟩:=exl (oN k-1)
 have hda:dl a≤1000:=by have:=dl_M a la; omega
 have hdN:dl (oN k)≤400:=by have:=oN_dl k; omega
 have hdm:dl m1≤1000:=by have:=dl_M m1 (by have:=oN_bd k; omega); omega
 have hm0:0<m1:=by omega
 obtain ⟨x,dx⟩:=exl (a%m1)
 have qx:x<m1:=dx ▸ Nat.mod_lt _ hm0
 have hdx:dl x≤400:=by have:=dl_M x (by have:=oN_bd k; omega); omega
 obtain ⟨x1,hx1⟩:=exl (x+1)
 have q1:x1<oN k:=by omega
 have hbs1:∀ w,(bslS 27 1 #[(0,.int .u32 1)]).run Tryz.prog w=.ok (.slice (some ⟨w.heap.size,0,none⟩) 1 1) (w.alloc (.cells (nd 1 1) 59)):=fun w=>build1 1 (by decide) w
 obtain ⟨A,hA⟩:=exl (mlQ k x1 (gQ k))
 have oA:OnQ k A:=hA ▸ mlQ_on h1 h2 _ (gQ_on h1 h2)
 obtain ⟨y,hy⟩:=exl (oN k-x1)
 have qy:y<oN k:=by omega
 obtain ⟨B,hB⟩:=exl (mlQ k y (gQ k))
 have hAB:ngQ k A=B:=by rw [← hA,← hB]; exact ml_turn h1 h2 (by omega)
 refine wp_w [.N a,.n (a),.c (pv e9 4),.c (.slice (qc 3).1 (dl (oN k)) (qc 3).2),.n (1),.n (m1),.n (x),.n (1),.n (x1),.n (x1)] [0,1,3,4,5,6,7,8,9] ?hs6 ?hf6
 case hs6=>
  exact .cons (.g 25 0 c0 rfl)<|.cons (.k _ fun yy vv hg hh=>RtW.of_n (fm_any la))<|.cons (.o 27 4 c9 rfl rfl)<|.cons (.b (.buildSlice 27 1 #[(0,.const (.int .u32 1))]) rfl rfl (fun vv=>by simp [go_sem,exI,hbs1]; rfl) (sl_lit 1 (by decide)))<|.cons (.k (fun yy => #[.slice (qc 3).1 (dl (oN k)) (qc 3).2,.slice (yy 4 0).1 (dl (1)) (yy 4 0).2]) fun yy vv hg hh=>RtW.of_n (sb_any ((HQ 3).gr hg) (hh 4 rfl) hdN (by omega) hm1))<|.cons (.k (fun yy => #[.slice (yy 1 0).1 (dl (a)) (yy 1 0).2,.slice (yy 5 0).1 (dl (m1)) (yy 5 0).2]) fun yy vv hg hh=>RtW.of_n (Rt.n (dx ▸ rmod_any a m1 _ _ _ _ _ (hh 1 rfl) (hh 5 rfl) hda hdm hm0)))<|.cons (.b (.buildSlice 27 1 #[(0,.const (.int .u32 1))]) rfl rfl (fun vv=>by simp [go_sem,exI,hbs1]; rfl) (sl_lit 1 (by decide)))<|.cons (.k (fun yy => #[.slice (yy 6 0).1 (dl (x)) (yy 6 0).2,.slice (yy 7 0).1 (dl (1)) (yy 7 0).2]) fun yy vv hg hh=>RtW.of_n (Rt.n (hx1 ▸ radd_any x 1 _ _ _ _ _ (hh 6 rfl) (hh 7 rfl) (by omega) (by decide))))<|.cons (.m 8) .nil
 intro yw6 v1 hg h6
 simp only [fzw]
 have S6_9:Sl v1 (yw6 9 0).1 (x1):=h6 9
 clear h6
 have g6:=hg
 clear hg
 go_upto_region 7 with fail
 refine wp_v true [.c (pv e9 0),.c (.int .i64 (k:Int)),.c (.slice (yw6 9 0).1 (dl (x1)) (yw6 9 0).2),.N x1,.c (.tuple #[.agg (pnt A.1 A.2.1 A.2.2),.int .i64 0]),.c (.tuple #[.agg (pnt A.1 A.2.1 A.2.2),.int .i64 0]),.c (.agg (pnt A.1 A.2.1 A.2.2)),.O,.a,.u,.O] [1,3,4] [⟨8,9,35,pnt 0 0 false,fun _=>pnt A.1 A.2.1 A.2.2⟩] ?hs7 ?hv7 ?hf7
 case hs7=>
  exact .cons (.o 3 0 (c9.gr g6) rfl rfl)<|.cons (.k (fun yy => #[.slice (yw6 9 0).1 (dl (x1)) (yw6 9 0).2]) fun yy vv hg hh=>RtW.of_c (nt_any (S6_9.gr hg)))<|.cons (.k _ fun yy vv hg hh=>RtW.of_c (Rt.c (bulM h1 h2 (d:=x1) q1 (Q:=A) hA _))) .nil
 case hv7=>
  refine .cons (.mk (fun _ _ _=>rfl) (fun _ v b H F=>by dsimp only at H ⊢; simp [go_sem,exI,H,F]) zPnt ⟨fkc,fkc,fkc,fkc,fkc,fkc,fkc,fkc,fka,fku,fkc,trivial⟩) .nil
 intro yw7 v2 hg h7 hV7
 simp only [fzw,Kw.a]
 obtain ⟨⟨N7_8,V7_8⟩, -⟩:(v1.heap.size≤(yw7 8 0).2∧Vr v2 (yw7 8 0).2 (pnt A.1 A.2.1 A.2.2))∧True:=hV7
 clear h7
 replace g6:=g6.trans hg
 have g7:=hg
 clear hg
 go_upto_region 8 with fail
 refine wp_v true [.c (pv e9 0),.c (.int .i64 (k:Int)),.c (pv e9 4),.c (.slice (qc 3).1 (dl (oN k)) (qc 3).2),.c (.slice (yw6 9 0).1 (dl (x1)) (yw6 9 0).2),.n (y),.N y,.c (.tuple #[.agg (pnt B.1 B.2.1 B.2.2),.int .i64 0]),.c (.tuple #[.agg (pnt B.1 B.2.1 B.2.2),.int .i64 0]),.c (.agg (pnt B.1 B.2.1 B.2.2)),.O,.a,.u,.O] [1,3,5,6,7] [⟨11,12,35,pnt 0 0 false,fun _=>pnt B.1 B.2.1 B.2.2⟩] ?hs8 ?hv8 ?hf8
 case hs8=>
  exact .cons (.o 3 0 (c9.gr g6) rfl rfl)<|.cons (.o 27 4 (c9.gr g6) rfl rfl)<|.cons (.k (fun yy => #[.slice (qc 3).1 (dl (oN k)) (qc 3).2,.slice (yw6 9 0).1 (dl (x1)) (yw6 9 0).2]) fun yy vv hg hh=>RtW.of_n (sb_any ((HQ 3).gr (g6.trans hg)) (S6_9.gr (g7.trans hg)) hdN (by omega) hy))<|.cons (.k (fun yy => #[.slice (yy 5 0).1 (dl (y)) (yy 5 0).2]) fun yy vv hg hh=>RtW.of_c (nt_any (hh 5 rfl)))<|.cons (.k _ fun yy vv hg hh=>RtW.of_c (Rt.c (bulM h1 h2 (d:=y) qy (Q:=B) hB _))) .nil
 case hv8=>
  refine .cons (.mk (fun _ _ _=>rfl) (fun _ v b H F=>by dsimp only at H ⊢; simp [go_sem,exI,H,F]) zPnt ⟨fkc,fkc,fkc,fkc,fkc,fkn bPnt,fkc,fkc,fkc,fkc,fkc,fka,fku,fkc,trivial⟩) .nil
 intro yw8 v3 hg h8 hV8
 simp only [fzw,Kw.a]
 obtain ⟨⟨N8_11,V8_11⟩, -⟩:(v2.heap.size≤(yw8 11 0).2∧Vr v3 (yw8 11 0).2 (pnt B.1 B.2.1 B.2.2))∧True:=hV8
 clear h8
 replace g6:=g6.trans hg
 replace g7:=g7.trans hg
 have g8:=hg
 clear hg
 go_upto_region 9 with fail
 refine wp_v false [.c (pv e9 0),.c (.int .i64 (k:Int)),.c (.agg (pnt A.1 A.2.1 A.2.2)),.c (.tuple #[.agg (pnt B.1 B.2.1 B.2.2),.int .i64 0]),.c (.tuple #[.agg (pnt B.1 B.2.1 B.2.2),.int .i64 0]),.c (.agg (pnt B.1 B.2.1 B.2.2)),.O,.a,.u,.O] [1,2,3] [⟨7,8,35,pnt 0 0 false,fun _=>pnt B.1 B.2.1 B.2.2⟩] ?hs9 ?hv9 ?hf9
 case hs9=>
  exact .cons (.o 3 0 (c9.gr g6) rfl rfl)<|.cons (.g 35 0 (V7_8.gr g8) rfl)<|.cons (.k _ fun yy vv hg hh=>RtW.of_c (Rt.c (negQ h1 h2 (P:=A) (R:=B) oA hAB _))) .nil
 case hv9=>
  refine .cons (.mk (fun _ _ _=>rfl) (fun _ v b H F=>by dsimp only at H ⊢; simp [go_sem,exI,H,F]) zPnt ⟨fkc,fkc,fkc,fkc,fkc,fkc,fkc,fka,fku,fkc,trivial⟩) .nil
 intro yw9 v4 hg h9 hV9
 simp only [fzw,Kw.a]
 obtain ⟨⟨N9_7,V9_7⟩, -⟩:(v3.heap.size≤(yw9 7 0).2∧Vr v4 (yw9 7 0).2 (pnt B.1 B.2.1 B.2.2))∧True:=hV9
 clear h9
 replace g6:=g6.trans hg
 replace g7:=g7.trans hg
 replace g8:=g8.trans hg
 have g9:=hg
 clear hg
 go_upto_region 10 with fail
 refine wp_wS [.O,.O,.F,.F,.O,.O,.F,.F,.F,.O,.O,.F,.F,.F,.c (.agg (pnt B.1 B.2.1 B.2.2)),.c (.agg (pnt B.1 B.2.1 B.2.2)),.F,.F] [1,5,10,14,15,16] ?hs10 ?hf10
 case hs10=>
  exact .cons (.k _ fun yy vv hg hh=>RtW.of_c (Rt.same (num_any _ _)))<|.cons (.k _ fun yy vv hg hh=>RtW.of_c (Rt.same (num_any _ _)))<|.cons (.k _ fun yy vv hg hh=>RtW.of_c (Rt.same (num_any _ _)))<|.cons (.g 35 0 V9_7 rfl)<|.cons (.g 35 0 (V8_11.gr g9) rfl)<|.cons (.s (.binOp .neq 35 (.const (.agg (pnt B.1 B.2.1 B.2.2))) (.const (.agg (pnt B.1 B.2.1 B.2.2))) 35) rfl fun vv hg=>by simp [go_sem,exI,nePn,eqN_self]) .nil
 intro yw10 v5 hg h10
 simp only [fzw]
 clear h10
 replace g6:=g6.trans hg
 replace g7:=g7.trans hg
 replace g8:=g8.trans hg
 replace g9:=g9.trans hg
 have g10:=hg
 clear hg
 replace G:=G.trans g6
 replace c9:=c9.gr g6
 replace c0:=c0.gr g6
 replace HQ:=fun k=>(HQ k).gr g6
 replace S6_9:=S6_9.gr g7
 replace V7_8:=V7_8.gr g8
 replace V8_11:=V8_11.gr g9
 replace V9_7:=V9_7.gr g10
 clear g10 g6 g7 g8 g9
 go_upto_region 12 with fail
 refine gen_w (fun v=>Gr w v) G ?_
 clear c0 c9 HQ V7_8 V8_11 V9_7 S6_9 G hAB hB hy qy oA hA q1 hx1 hdx qx dx hm0 hdm hdN hda hm1 hNp
 intro y0 G
 clear h1 h2 hbs1
 obtain ⟨u,hu,hu2,hk⟩:=idxT_conv which
 have hbd:=idxT_bd which
 obtain ⟨k,hkk⟩:=exl (idxT which)
 rw [hkk] at hk hbd
 obtain ⟨h13,h2⟩:=hbd
 have h1:1≤k:=by omega
 have u0:(0:Int)≤(u:Int):=by omega
 have hk2:(13:Int)+(u:Int)%3=(k:Int):=by omega
 have hk3:IntKind.i64.wrap ((u:Int)%3)=(u:Int)%3:=by rw [IntKind.wrap_i64]; omega
 have hk4:IntKind.u64.wrap ((u:Int)%3)=(u:Int)%3:=by rw [IntKind.wrap_u64]; omega
 have hk5:(u:Int).tmod 3=(u:Int)%3:=by rw [Int.tmod_eq_emod_of_nonneg (by omega)]
 have k0:(1:Int)≤(k:Int):=by omega
 have k1:(k:Int)≤15:=by omega
 have hu3:which%18446744073709551616=(u:Int):=by rw [← hu,IntKind.wrap_u64]
 clear hkk hk
 have HGR:Hid (∀ w,Calls Tryz.prog 8 #[.int .i64 (k:Int)] w (GetQ k w)):=fun w=>getq_yes k h1 h2 w
 go_upto_region 13 with (go_at_call 8; refine (HGR.out _).mono ?_; rintro e WB ⟨qc,rfl,HQ,GB⟩)
 obtain ⟨e16,he16⟩:=exl (WB.heap.size)
 simp only [he16]
 refine gen_w (fun v=>Hid (Gr w v∧Vr v e16 (crA (k:Int) (nN k) qc)∧(∀ j,Sl v (qc j).1 (nN k j))∧w.heap.size≤e16)) ?_ ?_
 ·subst he16
  have g1:Gr WB (WB.alloc (.cells (crA (k:Int) (nN k) qc) 29)):=(Gr.refl _).alloc _
  exact ⟨(G.trans GB).trans g1,Vr.new _ _ _,fun j=>(HQ j).gr g1,(G.trans GB).below.size⟩
 clear he16 G GB HQ HGR hu hu2 hk2 hk3 hk4 hk5 hu3 u0 k0 k1
 intro y1 HV0
 obtain ⟨N,hN⟩:=exl (oN k)
 have htb:=tinyP k h13 h2
 rw [hN] at htb
 have hdl1:dl (oN k)=1:=tiny_dl k h13 h2
 have hdg:dg (oN k) 0=N:=by
  rw [hN,show dg N 0=N by unfold dg; rw [pq_zero,Nat.div_one]; exact Nat.mod_eq_of_lt (by omega)]
 have N1:(200:Int)≤(N:Int):=by omega
 have N2:(N:Int)≤255:=by omega
 have HNN:Hid (Unit→oN k=N∧dl (oN k)=1∧dg (oN k) 0=N):=fun _=>⟨hN,hdl1,hdg⟩
 clear hN htb hdl1 hdg
 go_upto_region 14 with fail
 obtain ⟨e18,he18⟩:=exl (y1.heap.size)
 simp only [he18]
 refine gen_w (fun v=>Hid (e16<e18∧Gr w v∧Vr v e16 (crA (k:Int) (nN k) qc)∧(∀ j,Sl v (qc j).1 (nN k j))∧∃ c f,Vr v e18 c∧Bs c f∧∀ a,f a=true→∃ j,1≤j∧j<1∧atQ (mlQ k j (gQ k))=a)) ?_ ?_
 ·subst he18
  obtain ⟨G,c16,HQ,hw⟩:=HV0.out
  have g1:Gr y1 (y1.alloc (.cells (blN 65536) 4)):=(Gr.refl _).alloc _
  have p16:e16+1≤y1.heap.size:=c16.p
  exact ⟨by omega,G.trans g1,c16.gr g1,fun j=>(HQ j).gr g1,(blN 65536),_,Vr.new _ _ _,blN_Bs,fun a h=>by cases h⟩
 have hw16:=HV0.out.2.2.2
 clear HV0 he18
 intro y2 HV
 go_wp2_with fail
 go_loopw [19] (fun ia wr=>∃ i:Nat,ia=.int .u64 (i:Int)∧Hid (Unit→1≤i∧i≤N)∧Hid (Gr w wr∧Vr wr e16 (crA (k:Int) (nN k) qc)∧(∀ j,Sl wr (qc j).1 (nN k j))∧∃ c f,Vr wr e18 c∧Bs c f∧∀ a,f a=true→∃ j,1≤j∧j<i∧atQ (mlQ k j (gQ k))=a)) (fun ia _=>((N:Int)-intOf ia).toNat)
 case atStart=>
  obtain ⟨-,a1,a2,a3,c,f,a4,a5,a6⟩:=HV.out
  exact ⟨1,rfl,fun _=>⟨Nat.le_refl _,by omega⟩,a1,a2,a3,c,f,a4,a5,a6⟩
 case round=>
  have GW:Hid (w.heap.size≤e16∧e16<e18):=⟨hw16,HV.out.1⟩
  clear HV hw16
  obtain ⟨i,rfl,HI,HR⟩:=hrel
  have i0:(0:Int)≤(i:Int):=by omega
  obtain ⟨bp,hq3,hbc⟩:∃ bp,(qc 3).1=some ⟨bp,0,none⟩∧wr.cell? ⟨bp,0,none⟩=some (.int .u32 (N:Int)):=by
   obtain ⟨-,e1,e2⟩:=HNN.out ()
   obtain ⟨bp,hq3, -,hb3⟩:=HR.out.2.2.1 3 0 (by show 0<dl (oN k); rw [e1]; decide)
   refine ⟨bp,hq3,?_⟩
   rw [cell_blk,hb3]
   show some (Value.int .u32 ((dg (oN k) 0:Nat):Int))=_
   rw [e2]
  have k4:wr.cell? ⟨e16,4,none⟩=some (.slice (some ⟨bp,0,none⟩) 1 (qc 3).2):=by
   rw [HR.out.2.1.cell,← hq3,← (HNN.out ()).2.1]; rfl
  by_cases hlt:i<N
  ·have i1:(i:Int)<(N:Int):=by omega
   have hi1:1≤i:=(HI.out ()).1
   have iN:i<oN k:=by rw [(HNN.out ()).1]; exact hlt
   have bi:i<18446744073709551616:=by omega
   obtain ⟨P,hP⟩:=exl (mlQ k i (gQ k))
   have oP:OnQ k P:=hP ▸ mlQ_on h1 h2 _ (gQ_on h1 h2)
   have fP:P.2.2=false:=hP ▸ walk_ne h13 h2 i hi1 iN
   obtain ⟨G,c16,HQ,c,f,c18,hB,hf⟩:=HR.out
   have hbd:=fin_bd h13 h2 oP
   have hPP:∀ j,1≤j→j<i→atQ (mlQ k j (gQ k))≠atQ P:=fun j hj1 hj2 e=>by
    have e2:=atQ_inj h13 h2 (mlQ_on h1 h2 j (gQ_on h1 h2)) oP (walk_ne h13 h2 j hj1 (by omega)) fP e
    rw [← hP] at e2
    exact walk_inj h13 h2 j i hj2 iN e2
   obtain ⟨at0,hat⟩:=exl (P.1*256+P.2.1)
   have hfa:f at0=false:=by
    cases hc:f at0 with
    | false=>rfl
    | true=>
     obtain ⟨j,a1,a2,a3⟩:=hf _ hc
     exact absurd (a3.trans hat.symm) (hPP j a1 a2)
   have HF2:Hid (∀ a,(f a || decide (a=at0))=true→∃ j,1≤j∧j<i+1∧atQ (mlQ k j (gQ k))=a):=fun a ha=>by
    rw [Bool.or_eq_true] at ha
    rcases ha with ha | ha
    ·obtain ⟨j,a1,a2,a3⟩:=hf a ha
     exact ⟨j,a1,by omega,a3⟩
    ·exact ⟨i,hi1,by omega,by rw [hP,of_decide_eq_true ha]; unfold atQ; exact hat⟩
   have hns:∀ (i:Nat) (n:Int),c[i]? ≠ some (Value.int .u32 n):=hB.no32
   clear HR HI hPP
   go_upto_region 17 with fail
   clear k4 hbc hq3
   refine wp_v true [.c (pv e16 0),.c (.int .i64 (k:Int)),.c (.int .u64 (i:Int)),.N i,.c (.tuple #[.agg (pnt P.1 P.2.1 P.2.2),.int .i64 0]),.c (.tuple #[.agg (pnt P.1 P.2.1 P.2.2),.int .i64 0]),.c (.agg (pnt P.1 P.2.1 P.2.2)),.O,.a,.u,.O] [1,3,4] [⟨8,9,35,pnt 0 0 false,fun _=>pnt P.1 P.2.1 P.2.2⟩] ?hs11 ?hv11 ?hf11
   case hs11=>
    exact .cons (.o 3 0 c16 rfl rfl)<|.cons (.k _ fun yy vv hg hh=>RtW.of_c (Rt.c (one_any _ bi _)))<|.cons (.k _ fun yy vv hg hh=>RtW.of_c (Rt.c (bulM h1 h2 (d:=i) iN (Q:=P) hP _))) .nil
   case hv11=>
    refine .cons (.mk (fun _ _ _=>rfl) (fun _ v b H F=>by dsimp only at H ⊢; simp [go_sem,exI,H,F]) zPnt ⟨fkc,fkc,fkc,fkc,fkc,fkc,fkc,fkc,fka,fku,fkc,trivial⟩) .nil
   intro yw17 v1 hg h17 hV17
   simp only [fzw,Kw.a]
   obtain ⟨⟨N17_8,V17_8⟩, -⟩:(wr.heap.size≤(yw17 8 0).2∧Vr v1 (yw17 8 0).2 (pnt P.1 P.2.1 P.2.2))∧True:=hV17
   clear h17
   replace G:=G.trans hg
   replace c16:=c16.gr hg
   replace c18:=c18.gr hg
   replace HQ:=fun k=>(HQ k).gr hg
   clear hg
   clear hP oP
   generalize (yw17 8 0).2=e20 at *
   obtain ⟨px,py,pf⟩:=P
   obtain rfl:pf=false:=fP
   have c20:=V17_8
   clear V17_8
   simp only at hat hbd
   replace c20:Vr v1 e20 (pnt px py false):=c20
   have k70:v1.cell? ⟨e20,0,none⟩=some (.int .u64 (px:Int)):=by rw [c20.cell,show (pnt px py false)[0]? = some (.int .u64 ((wd px 0:Nat):Int)) by kernel_rfl,wd_small _ (by omega)]
   have k79:v1.cell? ⟨e20,9,none⟩=some (.int .u64 (py:Int)):=by rw [c20.cell,show (pnt px py false)[9]? = some (.int .u64 ((wd py 0:Nat):Int)) by kernel_rfl,wd_small _ (by omega)]
   have px0:(0:Int)≤(px:Int):=by omega
   have px1:(px:Int)≤255:=by omega
   have py0:(0:Int)≤(py:Int):=by omega
   have py1:(py:Int)≤255:=by omega
   have at1:(at0:Int)<65536:=by omega
   have at00:(0:Int)≤(at0:Int):=by omega
   have HCA:Hid (Unit→c[at0]? = some (.bool false)):=fun _=>by rw [hB.2 _ (by omega),hfa]
   clear hf hbd hfa
   go_upto_region 19 with fail
   have hat2:=atW64 (x:=px) (y:=py) (a:=at0) (by omega) (by omega) hat
   simp only [hat2]
   clear hat hat2 k70 k79 px0 px1 py0 py1
   have hca:=HCA.out ()
   refine wp_wS [.O,.O,.F,.F,.c (pv e20 18),.F,.F,.F,.c (.slice (some ⟨e18,0,none⟩) 65536 65536),.c (.int .i64 (at0:Int)),.c (pv e18 at0),.F,.F] [1,5,10,11] ?hs12 ?hf12
   case hs12=>
    exact .cons (.k _ fun yy vv hg hh=>RtW.of_c (Rt.same (num_any _ _)))<|.cons (.o 4 18 c20 rfl (by exact pnt_18 _ _ _))<|.cons (.s (.indexAddr 62 (.const (.slice (some ⟨e18,0,none⟩) 65536 65536)) (.const (.int .i64 (at0:Int)))) rfl fun vv hg=>by simp [go_sem,exI,at1,at00])<|.cons (.o 4 at0 c18 rfl (by exact hca)) .nil
   intro yw19 v2 hg h19
   simp only [fzw]
   clear h19
   replace G:=G.trans hg
   replace c16:=c16.gr hg
   replace c18:=c18.gr hg
   replace c20:=c20.gr hg
   replace HQ:=fun k=>(HQ k).gr hg
   clear hg
   go_upto_region 21 with fail
   refine wp_wTS 3 [.c (.slice (some ⟨e18,0,none⟩) 65536 65536),.c (.int .i64 (at0:Int)),.c (pv e18 at0)] [2] ?hs13 ?hf13
   case hs13=>
    refine .cons (.s (.indexAddr 62 (.const (.slice (some ⟨e18,0,none⟩) 65536 65536)) (.const (.int .i64 (at0:Int)))) rfl fun vv hg=>by simp [go_sem,exI,at1,at00]) .nil
   refine .s 4 (fun yy=>.pointer (some ⟨e18,at0,none⟩)) (fun yy=>.bool true) fun yw21 v3 hg h21=>?_
   have HT:=(c18.gr hg).h
   have FT:=(c18.gr hg).f
   refine ⟨setBlk v3 (e18) (c.setIfInBounds at0 (.bool true)),by simp [go_sem,exI,HT,cell_blk,hca,frz_at _ _ _ FT,setCell_setBlk],?_⟩
   simp only [fzw]
   clear h21
   replace G:=G.trans hg
   replace c16:=c16.gr hg
   replace c18:=c18.gr hg
   replace c20:=c20.gr hg
   replace HQ:=fun k=>(HQ k).gr hg
   clear hg
   go_wp2_with fail
   go_roundw
   case rel=>
    refine ⟨i+1,by go_num,fun _=>⟨by omega,hlt⟩,?_⟩
    exact ⟨gr_setNew G (by have:=GW.out; omega),c16.other (by have:=GW.out; omega),fun j=>Sl.set (HQ j) (by rw [HT]; exact hns),_,_,c18.set (by rw [hB.1]; decide) _,hB.set at0,HF2.out⟩
   case measure=>simp [intOf]; omega
  ·have hi:i=N:=by have:=HI.out (); omega
   have i1:¬ (i:Int)<(N:Int):=by omega
   have G:=HR.out.1
   clear HR HI hi hlt
   go_wp2_with fail
   go_ret
   exact ⟨rfl,G⟩
end
end
end Go.Proofs.YtpogpconfonljaaGreat