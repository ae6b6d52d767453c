import Derived.Test.YtpogpconfonljaaGreatXAQK
namespace Go.Proofs.YtpogpconfonljaaGreat
open Go.RowKit
set_option maxRecDepth 100000
set_option maxHeartbeats 8000000
section
attribute [local go_sem ↓] uz1
attribute [local go_sem] uz2
section
attribute [local go_sem] uz8
attribute [local go_sem ↓] uz17 Go.wp_at_zero Go.wp_at_succ
attribute [local go_sem] uz18
theorem lrnil_any (id:Int) (a:Nat) (la:a<M) (w:World):Cg 7 #[.int .i64 id,.agg (nw 9 a)] w (.bool true):=by
 obtain ⟨u,hu,hu2,hk⟩:=idx_conv id
 have hbd:=idx_bd id
 obtain ⟨k,hkk⟩:=exl (idx id)
 rw [hkk] at hk hbd
 obtain ⟨h1,h2⟩:=hbd
 have u0:(0:Int)≤(u:Int):=by omega
 have hk2:(1:Int)+(u:Int)%15=(k:Int):=by omega
 have hk3:IntKind.i64.wrap ((u:Int)%15)=(u:Int)%15:=by rw [IntKind.wrap_i64]; omega
 have hk4:IntKind.u64.wrap ((u:Int)%15)=(u:Int)%15:=by rw [IntKind.wrap_u64]; omega
 have hk5:(u:Int).tmod 15=(u:Int)%15:=by rw [Int.tmod_eq_emod_of_nonneg (by omega)]
 have k0:(1:Int)≤(k:Int):=by omega
 have k1:(k:Int)≤15:=by omega
 have hu3:id%18446744073709551616=(u:Int):=by rw [← hu,IntKind.wrap_u64]
 clear hkk hk
 have HGR:Hid (∀ w,Calls Tryz.prog 8 #[.int .i64 (k:Int)] w (GetQ k w)):=fun w=>getq_yes k h1 h2 w
 have HAW:Hid (∀ w,Cg 13 #[] w (.bool true)):=fun w=>awake19_any w
 go_enter Tryz.func7,Tryz.ntmps7
 go_upto_region 1 with fail
 refine gen_w (fun v=>Hid (Gr w v∧Vr v (w.heap.size) (nw 9 a))) ⟨grA,vrA⟩ ?_
 intro u0 HV
 go_upto_region 6 with (first
  | (go_at_call 13; refine (HAW.out _).mono ?_; rintro e WA ⟨rfl,GA⟩)
  | (go_at_call 8; refine (HGR.out _).mono ?_; rintro e WB ⟨qc,rfl,HQ,GB⟩))
 obtain ⟨e9,he9⟩:=exl (WB.heap.size)
 simp only [he9]
 refine gen_w (fun v=>Gr w v∧Vr v e9 (crA (k:Int) (nN k) qc)∧(∀ j,Sl v (qc j).1 (nN k j))∧Vr v (w.heap.size) (nw 9 a)) ?_ ?_
 ·subst he9
  have g1:Gr WB (WB.alloc (.cells (crA (k:Int) (nN k) qc) 29)):=(Gr.refl _).alloc _
  obtain ⟨G,c0⟩:=HV.out
  have g2:=(GA.trans GB).trans g1
  exact ⟨G.trans g2,Vr.new _ _ _,fun j=>(HQ j).gr g1,c0.gr g2⟩
 clear he9 GA GB HQ HAW HGR hu hu2 hk2 hk3 hk4 hk5 hu3 u0 k0 k1 HV
 rintro v0 ⟨G,c9,HQ,c0⟩
 have hda:dl a≤1000:=by have:=dl_M a la; omega
 have hdn:dl (oN k)≤1000:=by have:=oN_dl k; omega
 have hn0:0<oN k:=by have:=EC.oN_pos k h1 h2; omega
 obtain ⟨x,dx⟩:=exl (a%oN k)
 have qx:x<oN k:=dx ▸ Nat.mod_lt _ hn0
 obtain ⟨P,hP⟩:=exl (mlQ k x (gQ k))
 obtain ⟨R,hR⟩:=exl (mlQ k 1 (gQ k))
 obtain ⟨n,hn⟩:=exl ((evN k).length)
 have hl0:(([]++evN k).length:Int)=(n:Int):=by rw [List.nil_append,hn]
 have nb:n≤100000:=by
  have:=bl_576 _ (oN_bd k)
  rw [← hn,evN,rpx_length]
  unfold mnN
  omega
 have l1:1<oN k:=by have:=oN_g3 k h1 h2; omega
 obtain ⟨m,hm⟩:=exl (2*n)
 have hl1:((([]++evN k)++evN k).length:Int)=(m:Int):=by rw [List.nil_append,List.length_append,hn,← hm]; omega
 have hw:IntKind.i64.wrap (2*(n:Int))=(m:Int):=by rw [IntKind.wrap_i64]; omega
 have n0:0<n:=by rw [← hn]; exact evN_pos k h1 h2
 refine wp_v true [.N a,.n (a),.c (pv e9 4),.c (.slice (qc 3).1 (dl (oN k)) (qc 3).2),.n (x),.N x,.a,.u] [0,1,3,4,5] [⟨6,7,25,nw 9 0,fun _=>nw 9 x⟩] ?hs1 ?hv1 ?hf1
 case hs1=>
  exact .cons (.g 25 0 c0 rfl)<|.cons (.k _ fun yy vv hg hh=>RtW.of_n (fm_any la))<|.cons (.o 27 4 c9 rfl rfl)<|.cons (.k (fun yy => #[.slice (yy 1 0).1 (dl (a)) (yy 1 0).2,.slice (qc 3).1 (dl (oN k)) (qc 3).2]) fun yy vv hg hh=>RtW.of_n (Rt.n (dx ▸ rmod_any a (oN k) _ _ _ _ _ (hh 1 rfl) ((HQ 3).gr hg) hda hdn hn0)))<|.cons (.k (fun yy => #[.slice (yy 4 0).1 (dl (x)) (yy 4 0).2]) fun yy vv hg hh=>RtW.of_c (nt_any (hh 4 rfl))) .nil
 case hv1=>
  refine .cons (.mk (fun _ _ _=>rfl) (fun _ v b H F=>by dsimp only at H ⊢; simp [go_sem,exI,H,F]) zNat ⟨fkc,fkn bNat,fkc,fkc,fkn bNat,fkc,fka,fku,trivial⟩) .nil
 intro yw6 v1 hg h6 hV6
 simp only [fzw,Kw.a]
 obtain ⟨⟨N6_6,V6_6⟩, -⟩:(v0.heap.size≤(yw6 6 0).2∧Vr v1 (yw6 6 0).2 (nw 9 x))∧True:=hV6
 clear h6
 have g6:=hg
 clear hg
 replace G:=G.trans g6
 replace c9:=c9.gr g6
 replace c0:=c0.gr g6
 replace HQ:=fun k=>(HQ k).gr g6
 clear g6
 go_upto_region 8 with (go_at_call 9; refine (new_any _).mono ?_; rintro e w' ⟨rfl,rfl⟩)
 refine gen_w (fun v=>Gr v1 v∧Tr v (v1.heap.size) (.slice none 0 0) []) ⟨grA,Tr.new _⟩ ?_
 rintro vr ⟨gU,TR0⟩
 refine wp_x false [.c (pv (v1.heap.size) 0),.c (pv e9 0),.c (.int .i64 (k:Int)),.c (.agg (nw 9 x)),.c (.tuple #[.agg (pnt P.1 P.2.1 P.2.2),.int .i64 0]),.c (.tuple #[.agg (pnt P.1 P.2.1 P.2.2),.int .i64 0]),.c (.agg (pnt P.1 P.2.1 P.2.2)),.c (.int .i64 0),.vt vr.heap.size (pnt 0 0 false) 35,.u,.c (.int .i64 0)] [2,3,8] 4 9 (fun v u=>Kp (fun b=>b<vr.heap.size) v u) (MrJ vr (v1.heap.size) (.slice none 0 0) [] (evN k)) (fun x v=>Kp (Own (v1.heap.size) (.slice none 0 0)) vr v∧∃ z,Tr v (v1.heap.size) z ([]++(evN k))∧Vr v (x 8 0).2 (pnt P.1 P.2.1 P.2.2)) 10 (fun _ => #[.pointer (some ⟨v1.heap.size,0,none⟩),.int .i64 (k:Int),.agg (nw 9 x)]) 35 (fun x=>pv (x 8 0).2 0) (fun _=>.agg (pnt P.1 P.2.1 P.2.2)) (MrJ.start TR0) (fun _ _ _ h g=>h.gr g) ?xo2 ?xm2 ?xs2 ⟨fnc,fnc,fnc,fnc,fnc,fnc,fnc,fnc,fnvt,fnu,fnc,trivial⟩ ?xf2
 case xo2=>
  rintro _ v HI
  have hgU:=TR0.grow HI.k gU (Nat.le_refl _)
  refine .cons (.o 3 0 (c9.gr hgU) rfl rfl) ?_
  refine .cons (.g 25 0 (V6_6.gr hgU) rfl) ?_
  exact .cons (.n 35 rfl HI.k.size) .nil
 case xm2=>exact fun _ _ HI _=>HI.mul TR0 fun hT=>bulR h1 h2 (d:=x) qx (Q:=P) hP (by decide) hT
 case xs2=>
  rintro x v HI hy
  obtain ⟨hN,hh⟩:=hy 8 (by kernel_rfl)
  have HT:=(vr_vt hh).h
  have FT:=(vr_vt hh).f
  exact ⟨setBlk v _ (pnt P.1 P.2.1 P.2.2),by simp [go_sem,exI,HT,FT],HI.set hN hh (pnt_size _ _ _) _⟩
 rintro yw8 v8r ⟨k8,z8,TN8,V8⟩
 simp only [fzw,Kw.vt]
 replace gU:=TR0.grow k8 gU (Nat.le_refl _)
 replace TR0:=TN8
 clear TN8 k8
 go_upto_region 9 with fail
 refine wp_wS [.c (pv (v1.heap.size) 0),.c (.int .i64 (n:Int)),.c (.int .i64 (n:Int))] [1] ?hs3 ?hf3
 case hs3=>
  refine .cons (.k _ fun yy vv hg hh=>RtW.of_c (Rt.same (lenT (TR0.gr hg) hl0))) .nil
 intro yw9 v2 hg h9
 simp only [fzw]
 clear h9
 replace gU:=gU.trans hg
 have g9:=hg
 clear hg
 go_upto_region 10 with fail
 refine wp_v false [.c (pv e9 0),.c (.int .i64 (k:Int)),.N x,.c (.tuple #[.agg (pnt P.1 P.2.1 P.2.2),.int .i64 0]),.c (.tuple #[.agg (pnt P.1 P.2.1 P.2.2),.int .i64 0]),.c (.agg (pnt P.1 P.2.1 P.2.2)),.O,.a,.u,.O] [1,2,3] [⟨7,8,35,pnt 0 0 false,fun _=>pnt P.1 P.2.1 P.2.2⟩] ?hs4 ?hv4 ?hf4
 case hs4=>
  exact .cons (.o 3 0 (c9.gr gU) rfl rfl)<|.cons (.g 25 0 (V6_6.gr gU) rfl)<|.cons (.k _ fun yy vv hg hh=>RtW.of_c (Rt.c (bulM h1 h2 (d:=x) qx (Q:=P) hP _))) .nil
 case hv4=>
  refine .cons (.mk (fun _ _ _=>rfl) (fun _ v b H F=>by dsimp only at H ⊢; simp [go_sem,exI,H,F]) zPnt ⟨fkc,fkc,fkc,fkc,fkc,fkc,fkc,fka,fku,fkc,trivial⟩) .nil
 intro yw10 v3 hg h10 hV10
 simp only [fzw,Kw.a]
 obtain ⟨⟨N10_7,V10_7⟩, -⟩:(v2.heap.size≤(yw10 7 0).2∧Vr v3 (yw10 7 0).2 (pnt P.1 P.2.1 P.2.2))∧True:=hV10
 clear h10
 replace g9:=g9.trans hg
 replace gU:=gU.trans hg
 clear hg
 go_upto_region 11 with fail
 refine wp_v true [.c (pv (v1.heap.size) 0),.c (pv e9 0),.c (.int .i64 (k:Int)),.c (pv e9 4),.c (.slice (qc 3).1 (dl (oN k)) (qc 3).2),.N (oN k),.c (.tuple #[.agg (pnt 0 0 false),.int .i64 1901]),.c (.tuple #[.agg (pnt 0 0 false),.int .i64 1901]),.c (.agg (pnt 0 0 false)),.c (.int .i64 1901),.a,.u,.c (.int .i64 1901)] [2,4,5,6] [⟨10,11,35,pnt 0 0 false,fun _=>pnt 0 0 false⟩] ?hs5 ?hv5 ?hf5
 case hs5=>
  exact .cons (.o 3 0 (c9.gr gU) rfl rfl)<|.cons (.o 27 4 (c9.gr gU) rfl rfl)<|.cons (.k (fun yy => #[.slice (qc 3).1 (dl (oN k)) (qc 3).2]) fun yy vv hg hh=>RtW.of_c (nt_any ((HQ 3).gr (gU.trans hg))))<|.cons (.k _ fun yy vv hg hh=>RtW.of_c (Rt.c (bmul_big h1 h2 (d:=(oN k)) (oN_bd k) (Nat.le_refl _) (.pointer (some ⟨v1.heap.size,0,none⟩)) _))) .nil
 case hv5=>
  refine .cons (.mk (fun _ _ _=>rfl) (fun _ v b H F=>by dsimp only at H ⊢; simp [go_sem,exI,H,F]) zPnt ⟨fkc,fkc,fkc,fkc,fkc,fkc,fkc,fkc,fkc,fkc,fka,fku,fkc,trivial⟩) .nil
 intro yw11 v4 hg h11 hV11
 simp only [fzw,Kw.a]
 obtain ⟨⟨N11_10,V11_10⟩, -⟩:(v3.heap.size≤(yw11 10 0).2∧Vr v4 (yw11 10 0).2 (pnt 0 0 false))∧True:=hV11
 clear h11
 replace g9:=g9.trans hg
 replace gU:=gU.trans hg
 have g11:=hg
 clear hg
 go_upto_region 12 with fail
 refine wp_wS [.c (pv (v1.heap.size) 0),.c (.int .i64 (n:Int)),.c (.int .i64 (n:Int))] [1] ?hs6 ?hf6
 case hs6=>
  refine .cons (.k _ fun yy vv hg hh=>RtW.of_c (Rt.same (lenT (TR0.gr (g9.trans hg)) hl0))) .nil
 intro yw12 v5 hg h12
 simp only [fzw]
 clear h12
 replace g11:=g11.trans hg
 replace g9:=g9.trans hg
 replace gU:=gU.trans hg
 have g12:=hg
 clear hg
 replace V8:=V8.gr g9
 replace V10_7:=V10_7.gr g11
 replace V11_10:=V11_10.gr g12
 replace TR0:=TR0.gr g9
 go_upto_region 13 with fail
 refine wp_x true [.c (pv (v1.heap.size) 0),.c (pv e9 0),.c (.int .i64 (k:Int)),.c (.agg (nw 9 1)),.c (.tuple #[.agg (pnt R.1 R.2.1 R.2.2),.int .i64 0]),.c (.tuple #[.agg (pnt R.1 R.2.1 R.2.2),.int .i64 0]),.c (.agg (pnt R.1 R.2.1 R.2.2)),.c (.int .i64 0),.vt v5.heap.size (pnt 0 0 false) 35,.u,.c (.int .i64 0)] [2,3,8] 4 9 (fun v u=>Kp (fun b=>b<v5.heap.size) v u) (MrJ v5 (v1.heap.size) z8 ([]++(evN k)) (evN k)) (fun x v=>Kp (Own (v1.heap.size) z8) v5 v∧∃ z,Tr v (v1.heap.size) z (([]++(evN k))++(evN k))∧Vr v (x 8 0).2 (pnt R.1 R.2.1 R.2.2)) 10 (fun _ => #[.pointer (some ⟨v1.heap.size,0,none⟩),.int .i64 (k:Int),.agg (nw 9 1)]) 35 (fun x=>pv (x 8 0).2 0) (fun _=>.agg (pnt R.1 R.2.1 R.2.2)) (MrJ.start TR0) (fun _ _ _ h g=>h.gr g) ?xo7 ?xm7 ?xs7 ⟨fnc,fnc,fnc,fnc,fnc,fnc,fnc,fnc,fnvt,fnu,fnc,trivial⟩ ?xf7
 case xo7=>
  rintro _ v HI
  have hgU:=TR0.grow HI.k gU (Nat.le_refl _)
  refine .cons (.o 3 0 (c9.gr hgU) rfl rfl) ?_
  refine .cons (.k _ fun yy vv hg hh=>RtW.of_c (Rt.c (one_any 1 (by decide) _))) ?_
  exact .cons (.n 35 rfl HI.k.size) .nil
 case xm7=>exact fun _ _ HI _=>HI.mul TR0 fun hT=>bulR h1 h2 (d:=1) l1 (Q:=R) hR (by rw [List.nil_append,hn]; omega) hT
 case xs7=>
  rintro x v HI hy
  obtain ⟨hN,hh⟩:=hy 8 (by kernel_rfl)
  have HT:=(vr_vt hh).h
  have FT:=(vr_vt hh).f
  exact ⟨setBlk v _ (pnt R.1 R.2.1 R.2.2),by simp [go_sem,exI,HT,FT],HI.set hN hh (pnt_size _ _ _) _⟩
 rintro yw13 v13r ⟨k13,z13,TN13,V13⟩
 simp only [fzw,Kw.vt]
 replace gU:=TR0.grow k13 gU (Nat.le_refl _)
 replace V8:=V8.kp k13 (TR0.odd V8 (pnt_size _ _ _))
 replace V10_7:=V10_7.kp k13 (TR0.odd V10_7 (pnt_size _ _ _))
 replace V11_10:=V11_10.kp k13 (TR0.odd V11_10 (pnt_size _ _ _))
 replace TR0:=TN13
 clear TN13 k13
 go_upto_region 14 with fail
 refine wp_wS [.O,.O,.T,.T,.O,.O,.T,.T,.T,.c (.int .i64 1901),.c (.int .i64 1901),.T,.T,.T,.O,.O,.T,.T,.T,.c (.agg (pnt P.1 P.2.1 P.2.2)),.c (.agg (pnt P.1 P.2.1 P.2.2)),.T,.T,.T,.c (.int .i64 (n:Int)),.c (.int .i64 (n:Int)),.T,.T,.T,.c (pv (v1.heap.size) 0),.c (.int .i64 (m:Int)),.c (.int .i64 (n:Int)),.c (.int .i64 (m:Int)),.T,.T,.T,.c (.int .i64 (n:Int)),.T,.T,.T] [1,5,10,15,19,20,21,26,30,32,33,37] ?hs8 ?hf8
 case hs8=>
  exact .cons (.k _ fun yy vv hg hh=>RtW.of_c (Rt.same (num_any _ _)))<|.cons (.k _ fun yy vv hg hh=>RtW.of_c (Rt.same (num_any _ _)))<|.cons (.k _ fun yy vv hg hh=>RtW.of_c (Rt.same (num_any _ _)))<|.cons (.k _ fun yy vv hg hh=>RtW.of_c (Rt.same (num_any _ _)))<|.cons (.g 35 0 V8 rfl)<|.cons (.g 35 0 V10_7 rfl)<|.cons (.s (.binOp .eql 35 (.const (.agg (pnt P.1 P.2.1 P.2.2))) (.const (.agg (pnt P.1 P.2.1 P.2.2))) 35) rfl fun vv hg=>by simp [go_sem,exI,eqPn,eqN_self])<|.cons (.s (.binOp .eql 3 (.const (.int .i64 (n:Int))) (.const (.int .i64 (n:Int))) 3) rfl fun vv hg=>by simp [go_sem,exI])<|.cons (.k _ fun yy vv hg hh=>RtW.of_c (Rt.same (lenT (TR0.gr hg) hl1)))<|.cons (.s (.binOp .mul 3 (.const (.int .i64 2)) (.const (.int .i64 (n:Int))) 3) rfl fun vv hg=>by simp [go_sem,exI,hw])<|.cons (.s (.binOp .eql 3 (.const (.int .i64 (m:Int))) (.const (.int .i64 (m:Int))) 3) rfl fun vv hg=>by simp [go_sem,exI])<|.cons (.s (.binOp .gtr 3 (.const (.int .i64 (n:Int))) (.const (.int .i64 0)) 3) rfl fun vv hg=>by simp [go_sem,exI,n0]) .nil
 intro yw14 v6 hg h14
 simp only [fzw]
 clear h14
 replace gU:=gU.trans hg
 have g14:=hg
 clear hg
 replace G:=G.trans gU
 replace c9:=c9.gr gU
 replace c0:=c0.gr gU
 replace V6_6:=V6_6.gr gU
 replace HQ:=fun k=>(HQ k).gr gU
 replace V8:=V8.gr g14
 replace V10_7:=V10_7.gr g14
 replace V11_10:=V11_10.gr g14
 replace V13:=V13.gr g14
 replace TR0:=TR0.gr g14
 clear g14 gU
 go_wp2_with fail
 go_ret
 exact ⟨rfl,G⟩
end
end
end Go.Proofs.YtpogpconfonljaaGreat