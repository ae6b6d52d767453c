import Derived.Test.YtpogpconfonljaaGreatXAQK
namespace Go.Proofs.YtpogpconfonljaaGreat
open Go.RowKit
set_option maxRecDepth 100000
set_option maxHeartbeats 8000000
section
attribute [local go_sem ↓] uz1
attribute [local go_sem] uz2
section
attribute [local go_sem] uz8
attribute [local go_sem ↓] uz17 Go.wp_at_zero Go.wp_at_succ
attribute [local go_sem] uz18
theorem lrsteps_any (id:Int) (a:Nat) (la:a<M) (w:World):Cg 5 #[.int .i64 id,.agg (nw 9 a)] w (.bool true):=by
 obtain ⟨u,hu,hu2,hk⟩:=idx_conv id
 have hbd:=idx_bd id
 obtain ⟨k,hkk⟩:=exl (idx id)
 rw [hkk] at hk hbd
 obtain ⟨h1,h2⟩:=hbd
 have u0:(0:Int)≤(u:Int):=by omega
 have hk2:(1:Int)+(u:Int)%15=(k:Int):=by omega
 have hk3:IntKind.i64.wrap ((u:Int)%15)=(u:Int)%15:=by rw [IntKind.wrap_i64]; omega
 have hk4:IntKind.u64.wrap ((u:Int)%15)=(u:Int)%15:=by rw [IntKind.wrap_u64]; omega
 have hk5:(u:Int).tmod 15=(u:Int)%15:=by rw [Int.tmod_eq_emod_of_nonneg (by omega)]
 have k0:(1:Int)≤(k:Int):=by omega
 have k1:(k:Int)≤15:=by omega
 have hu3:id%18446744073709551616=(u:Int):=by rw [← hu,IntKind.wrap_u64]
 clear hkk hk
 have HGR:Hid (∀ w,Calls Tryz.prog 8 #[.int .i64 (k:Int)] w (GetQ k w)):=fun w=>getq_yes k h1 h2 w
 have HAW:Hid (∀ w,Cg 13 #[] w (.bool true)):=fun w=>awake19_any w
 go_enter Tryz.func5,Tryz.ntmps5
 go_upto_region 1 with fail
 refine gen_w (fun v=>Hid (Gr w v∧Vr v (w.heap.size) (nw 9 a))) ⟨grA,vrA⟩ ?_
 intro u0 HV
 go_upto_region 6 with (first
  | (go_at_call 13; refine (HAW.out _).mono ?_; rintro e WA ⟨rfl,GA⟩)
  | (go_at_call 8; refine (HGR.out _).mono ?_; rintro e WB ⟨qc,rfl,HQ,GB⟩))
 obtain ⟨e9,he9⟩:=exl (WB.heap.size)
 simp only [he9]
 refine gen_w (fun v=>Gr w v∧Vr v e9 (crA (k:Int) (nN k) qc)∧(∀ j,Sl v (qc j).1 (nN k j))∧Vr v (w.heap.size) (nw 9 a)) ?_ ?_
 ·subst he9
  have g1:Gr WB (WB.alloc (.cells (crA (k:Int) (nN k) qc) 29)):=(Gr.refl _).alloc _
  obtain ⟨G,c0⟩:=HV.out
  have g2:=(GA.trans GB).trans g1
  exact ⟨G.trans g2,Vr.new _ _ _,fun j=>(HQ j).gr g1,c0.gr g2⟩
 clear he9 GA GB HQ HAW HGR hu hu2 hk2 hk3 hk4 hk5 hu3 u0 k0 k1 HV
 rintro v0 ⟨G,c9,HQ,c0⟩
 have hNp:=oN_g3 k h1 h2
 obtain ⟨m1,hm1⟩:=exl (oN k-1)
 have hda:dl a≤1000:=by have:=dl_M a la; omega
 have hdN:dl (oN k)≤400:=by have:=oN_dl k; omega
 have hdm:dl m1≤1000:=by have:=dl_M m1 (by have:=oN_bd k; omega); omega
 have hm0:0<m1:=by omega
 obtain ⟨x,dx⟩:=exl (a%m1)
 have qx:x<m1:=dx ▸ Nat.mod_lt _ hm0
 have hdx:dl x≤400:=by have:=dl_M x (by have:=oN_bd k; omega); omega
 obtain ⟨x1,hx1⟩:=exl (x+1)
 have q1:x1<oN k:=by omega
 have hbs1:∀ w,(bslS 27 1 #[(0,.int .u32 1)]).run Tryz.prog w=.ok (.slice (some ⟨w.heap.size,0,none⟩) 1 1) (w.alloc (.cells (nd 1 1) 59)):=fun w=>build1 1 (by decide) w
 have q0:x<oN k:=by omega
 obtain ⟨A,hA⟩:=exl (mlQ k x (gQ k))
 have oA:OnQ k A:=hA ▸ mlQ_on h1 h2 _ (gQ_on h1 h2)
 obtain ⟨B,hB⟩:=exl (mlQ k x1 (gQ k))
 have hAB:plQ k A (gQ k)=B:=by rw [← hB,← hx1,mlQ_add h1 h2 _ _ (gQ_on h1 h2),hA,mlQ_one h1 h2 (gQ_on h1 h2)]
 refine wp_w [.N a,.n (a),.c (pv e9 4),.c (.slice (qc 3).1 (dl (oN k)) (qc 3).2),.n (1),.n (m1),.n (x),.n (x)] [0,1,3,4,5,6,7] ?hs1 ?hf1
 case hs1=>
  exact .cons (.g 25 0 c0 rfl)<|.cons (.k _ fun yy vv hg hh=>RtW.of_n (fm_any la))<|.cons (.o 27 4 c9 rfl rfl)<|.cons (.b (.buildSlice 27 1 #[(0,.const (.int .u32 1))]) rfl rfl (fun vv=>by simp [go_sem,exI,hbs1]; rfl) (sl_lit 1 (by decide)))<|.cons (.k (fun yy => #[.slice (qc 3).1 (dl (oN k)) (qc 3).2,.slice (yy 4 0).1 (dl (1)) (yy 4 0).2]) fun yy vv hg hh=>RtW.of_n (sb_any ((HQ 3).gr hg) (hh 4 rfl) hdN (by omega) hm1))<|.cons (.k (fun yy => #[.slice (yy 1 0).1 (dl (a)) (yy 1 0).2,.slice (yy 5 0).1 (dl (m1)) (yy 5 0).2]) fun yy vv hg hh=>RtW.of_n (Rt.n (dx ▸ rmod_any a m1 _ _ _ _ _ (hh 1 rfl) (hh 5 rfl) hda hdm hm0)))<|.cons (.m 6) .nil
 intro yw6 v1 hg h6
 simp only [fzw]
 have S6_7:Sl v1 (yw6 7 0).1 (x):=h6 7
 clear h6
 have g6:=hg
 clear hg
 go_upto_region 7 with fail
 refine wp_v true [.c (pv e9 0),.c (.int .i64 (k:Int)),.c (.slice (yw6 7 0).1 (dl (x)) (yw6 7 0).2),.N x,.c (.tuple #[.agg (pnt A.1 A.2.1 A.2.2),.int .i64 0]),.c (.tuple #[.agg (pnt A.1 A.2.1 A.2.2),.int .i64 0]),.c (.agg (pnt A.1 A.2.1 A.2.2)),.O,.a,.u,.O] [1,3,4] [⟨8,9,35,pnt 0 0 false,fun _=>pnt A.1 A.2.1 A.2.2⟩] ?hs2 ?hv2 ?hf2
 case hs2=>
  exact .cons (.o 3 0 (c9.gr g6) rfl rfl)<|.cons (.k (fun yy => #[.slice (yw6 7 0).1 (dl (x)) (yw6 7 0).2]) fun yy vv hg hh=>RtW.of_c (nt_any (S6_7.gr hg)))<|.cons (.k _ fun yy vv hg hh=>RtW.of_c (Rt.c (bulM h1 h2 (d:=x) q0 (Q:=A) hA _))) .nil
 case hv2=>
  refine .cons (.mk (fun _ _ _=>rfl) (fun _ v b H F=>by dsimp only at H ⊢; simp [go_sem,exI,H,F]) zPnt ⟨fkc,fkc,fkc,fkc,fkc,fkc,fkc,fkc,fka,fku,fkc,trivial⟩) .nil
 intro yw7 v2 hg h7 hV7
 simp only [fzw,Kw.a]
 obtain ⟨⟨N7_8,V7_8⟩, -⟩:(v1.heap.size≤(yw7 8 0).2∧Vr v2 (yw7 8 0).2 (pnt A.1 A.2.1 A.2.2))∧True:=hV7
 clear h7
 replace g6:=g6.trans hg
 have g7:=hg
 clear hg
 go_upto_region 8 with fail
 refine wp_v true [.c (pv e9 0),.c (.int .i64 (k:Int)),.c (.slice (yw6 7 0).1 (dl (x)) (yw6 7 0).2),.n (1),.n (x1),.N x1,.c (.tuple #[.agg (pnt B.1 B.2.1 B.2.2),.int .i64 0]),.c (.tuple #[.agg (pnt B.1 B.2.1 B.2.2),.int .i64 0]),.c (.agg (pnt B.1 B.2.1 B.2.2)),.O,.a,.u,.O] [1,3,4,5,6] [⟨10,11,35,pnt 0 0 false,fun _=>pnt B.1 B.2.1 B.2.2⟩] ?hs3 ?hv3 ?hf3
 case hs3=>
  exact .cons (.o 3 0 (c9.gr g6) rfl rfl)<|.cons (.b (.buildSlice 27 1 #[(0,.const (.int .u32 1))]) rfl rfl (fun vv=>by simp [go_sem,exI,hbs1]; rfl) (sl_lit 1 (by decide)))<|.cons (.k (fun yy => #[.slice (yw6 7 0).1 (dl (x)) (yw6 7 0).2,.slice (yy 3 0).1 (dl (1)) (yy 3 0).2]) fun yy vv hg hh=>RtW.of_n (Rt.n (hx1 ▸ radd_any x 1 _ _ _ _ _ (S6_7.gr (g7.trans hg)) (hh 3 rfl) (by omega) (by decide))))<|.cons (.k (fun yy => #[.slice (yy 4 0).1 (dl (x1)) (yy 4 0).2]) fun yy vv hg hh=>RtW.of_c (nt_any (hh 4 rfl)))<|.cons (.k _ fun yy vv hg hh=>RtW.of_c (Rt.c (bulM h1 h2 (d:=x1) q1 (Q:=B) hB _))) .nil
 case hv3=>
  refine .cons (.mk (fun _ _ _=>rfl) (fun _ v b H F=>by dsimp only at H ⊢; simp [go_sem,exI,H,F]) zPnt ⟨fkc,fkc,fkc,fkn bPnt,fkn bPnt,fkc,fkc,fkc,fkc,fkc,fka,fku,fkc,trivial⟩) .nil
 intro yw8 v3 hg h8 hV8
 simp only [fzw,Kw.a]
 obtain ⟨⟨N8_10,V8_10⟩, -⟩:(v2.heap.size≤(yw8 10 0).2∧Vr v3 (yw8 10 0).2 (pnt B.1 B.2.1 B.2.2))∧True:=hV8
 clear h8
 replace g6:=g6.trans hg
 replace g7:=g7.trans hg
 have g8:=hg
 clear hg
 go_upto_region 9 with fail
 refine wp_v true [.c (pv e9 0),.c (.int .i64 (k:Int)),.c (.agg (pnt A.1 A.2.1 A.2.2)),.c (.agg (crA (k:Int) (nN k) qc)),.pt (xN k) (yN k) false,.c (.agg (pnt (xN k) (yN k) false)),.c (.tuple #[.agg (pnt B.1 B.2.1 B.2.2),.int .i64 0]),.c (.tuple #[.agg (pnt B.1 B.2.1 B.2.2),.int .i64 0]),.c (.agg (pnt B.1 B.2.1 B.2.2)),.O,.a,.u,.O] [1,2,3,4,5,6] [⟨10,11,35,pnt 0 0 false,fun _=>pnt B.1 B.2.1 B.2.2⟩] ?hs4 ?hv4 ?hf4
 case hs4=>
  exact .cons (.o 3 0 (c9.gr g6) rfl rfl)<|.cons (.g 35 0 (V7_8.gr g8) rfl)<|.cons (.g 29 0 (c9.gr g6) rfl)<|.cons (.k _ fun yy vv hg hh=>RtW.of_pt (rg_any qc _ (fun j=>(HQ j).gr (g6.trans hg))))<|.cons (.k (fun yy => #[.agg (ptA (yy 4 0).1 (xN k) (yy 4 0).2 (yy 4 1).1 (yN k) (yy 4 1).2 false)]) fun yy vv hg hh=>RtW.of_c (Rt.c (rout_any _ _ _ _ _ _ _ _ (hh 4 rfl).1 (hh 4 rfl).2)))<|.cons (.k _ fun yy vv hg hh=>RtW.of_c (Rt.c (addQ h1 h2 (P:=A) (Q:=gQ k) (R:=B) oA (gQ_on h1 h2) hAB _))) .nil
 case hv4=>
  refine .cons (.mk (fun _ _ _=>rfl) (fun _ v b H F=>by dsimp only at H ⊢; simp [go_sem,exI,H,F]) zPnt ⟨fkc,fkc,fkc,fkc,fkp bPnt,fkc,fkc,fkc,fkc,fkc,fka,fku,fkc,trivial⟩) .nil
 intro yw9 v4 hg h9 hV9
 simp only [fzw,Kw.a]
 obtain ⟨⟨N9_10,V9_10⟩, -⟩:(v3.heap.size≤(yw9 10 0).2∧Vr v4 (yw9 10 0).2 (pnt B.1 B.2.1 B.2.2))∧True:=hV9
 clear h9
 replace g6:=g6.trans hg
 replace g7:=g7.trans hg
 replace g8:=g8.trans hg
 have g9:=hg
 clear hg
 go_upto_region 10 with fail
 refine wp_wS [.O,.O,.T,.T,.O,.O,.T,.T,.T,.O,.O,.T,.T,.T,.c (.agg (pnt B.1 B.2.1 B.2.2)),.c (.agg (pnt B.1 B.2.1 B.2.2)),.T,.T,.T] [1,5,10,14,15,16] ?hs5 ?hf5
 case hs5=>
  exact .cons (.k _ fun yy vv hg hh=>RtW.of_c (Rt.same (num_any _ _)))<|.cons (.k _ fun yy vv hg hh=>RtW.of_c (Rt.same (num_any _ _)))<|.cons (.k _ fun yy vv hg hh=>RtW.of_c (Rt.same (num_any _ _)))<|.cons (.g 35 0 V9_10 rfl)<|.cons (.g 35 0 (V8_10.gr g9) rfl)<|.cons (.s (.binOp .eql 35 (.const (.agg (pnt B.1 B.2.1 B.2.2))) (.const (.agg (pnt B.1 B.2.1 B.2.2))) 35) rfl fun vv hg=>by simp [go_sem,exI,eqPn,eqN_self]) .nil
 intro yw10 v5 hg h10
 simp only [fzw]
 clear h10
 replace g6:=g6.trans hg
 replace g7:=g7.trans hg
 replace g8:=g8.trans hg
 replace g9:=g9.trans hg
 have g10:=hg
 clear hg
 replace G:=G.trans g6
 replace c9:=c9.gr g6
 replace c0:=c0.gr g6
 replace HQ:=fun k=>(HQ k).gr g6
 replace S6_7:=S6_7.gr g7
 replace V7_8:=V7_8.gr g8
 replace V8_10:=V8_10.gr g9
 replace V9_10:=V9_10.gr g10
 clear g10 g6 g7 g8 g9
 go_wp2_with fail
 go_ret
 exact ⟨rfl,G⟩
end
end
end Go.Proofs.YtpogpconfonljaaGreat