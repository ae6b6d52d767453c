import Derived.Test.YtpogpconfonljaaGreatXAQJ
namespace Go.Proofs.YtpogpconfonljaaGreat
open Go.RowKit
set_option maxRecDepth 100000
set_option maxHeartbeats 8000000
section
attribute [local go_sem ↓] uz1
attribute [local go_sem] uz2
section
attribute [local go_sem] uz8
attribute [local go_sem ↓] uz17 Go.wp_at_zero Go.wp_at_succ
attribute [local go_sem] uz18
theorem tr_new2 (w:World):Tr ((w.alloc (.cells #[.slice none 0 0] 69)).alloc (.cells #[.slice none 0 0] 69)) (w.heap.size+1) (.slice none 0 0) []:=by
 have h:=Tr.new (w.alloc (.cells #[.slice none 0 0] 69))
 have e:(w.alloc (.cells #[.slice none 0 0] 69)).heap.size=w.heap.size+1:=by simp
 rwa [e] at h
end
end
section
theorem Tr.apart {w:World} {t t':Nat} {v v':Value} {xs ys:List (Int×Int)} (h:Tr w t v xs) (k:Tr w t' v' ys) (ne:t≠t'):∀ b,Own t v b→¬ b=t':=by
 rintro b (rfl | hb) e
 ·exact ne e
 ·subst e
  rcases h.row.2 with ⟨rfl, -⟩ | ⟨g,cap,cur,rfl, -,hg, -⟩
  ·cases hb
  ·have e1:g=b:=Option.some.inj hb
   subst e1
   rw [k.cell] at hg
   injection hg with hg
   injection hg with _ e2 _
   exact absurd e2 (by decide)
theorem sameevT {w:World} {p q:Option Addr} {c d n:Nat} {xs:List (Int×Int)} (hp:Ev w p xs) (hq:Ev w q xs) (hl:xs.length=n) (hn:n≤1000000):Cg 22 #[.slice p n c,.slice q n d] w (.bool true):=by
 subst hl
 refine (sameev_any w p q xs xs c d hp hq (by omega) (by omega)).mono ?_
 rintro e w' ⟨he,m,rfl⟩
 exact ⟨by rw [he]; simp,(Gr.refl w).drewN m⟩
end
section
attribute [local go_sem ↓] uz1
attribute [local go_sem] uz2
section
attribute [local go_sem] uz8
attribute [local go_sem ↓] uz17 Go.wp_at_zero Go.wp_at_succ
attribute [local go_sem] uz18
theorem lrblind_any (id:Int) (a b:Nat) (la:a<M) (lb:b<M) (w:World):Cg 4 #[.int .i64 id,.agg (nw 9 a),.agg (nw 9 b)] w (.bool true):=by
 obtain ⟨u,hu,hu2,hk⟩:=idx_conv id
 have hbd:=idx_bd id
 obtain ⟨k,hkk⟩:=exl (idx id)
 rw [hkk] at hk hbd
 obtain ⟨h1,h2⟩:=hbd
 have u0:(0:Int)≤(u:Int):=by omega
 have hk2:(1:Int)+(u:Int)%15=(k:Int):=by omega
 have hk3:IntKind.i64.wrap ((u:Int)%15)=(u:Int)%15:=by rw [IntKind.wrap_i64]; omega
 have hk4:IntKind.u64.wrap ((u:Int)%15)=(u:Int)%15:=by rw [IntKind.wrap_u64]; omega
 have hk5:(u:Int).tmod 15=(u:Int)%15:=by rw [Int.tmod_eq_emod_of_nonneg (by omega)]
 have k0:(1:Int)≤(k:Int):=by omega
 have k1:(k:Int)≤15:=by omega
 have hu3:id%18446744073709551616=(u:Int):=by rw [← hu,IntKind.wrap_u64]
 clear hkk hk
 have HGR:Hid (∀ w,Calls Tryz.prog 8 #[.int .i64 (k:Int)] w (GetQ k w)):=fun w=>getq_yes k h1 h2 w
 have HAW:Hid (∀ w,Cg 13 #[] w (.bool true)):=fun w=>awake19_any w
 go_enter Tryz.func4,Tryz.ntmps4
 go_upto_region 1 with fail
 refine gen_w (fun v=>Hid (Gr w v∧Vr v (w.heap.size) (nw 9 a)∧Vr v (w.heap.size+1) (nw 9 b))) ⟨grA,vrA,vrA⟩ ?_
 intro u0 HV
 go_upto_region 6 with (first
  | (go_at_call 13; refine (HAW.out _).mono ?_; rintro e WA ⟨rfl,GA⟩)
  | (go_at_call 8; refine (HGR.out _).mono ?_; rintro e WB ⟨qc,rfl,HQ,GB⟩))
 obtain ⟨e9,he9⟩:=exl (WB.heap.size)
 simp only [he9]
 refine gen_w (fun v=>Gr w v∧Vr v e9 (crA (k:Int) (nN k) qc)∧(∀ j,Sl v (qc j).1 (nN k j))∧Vr v (w.heap.size) (nw 9 a)∧Vr v (w.heap.size+1) (nw 9 b)) ?_ ?_
 ·subst he9
  have g1:Gr WB (WB.alloc (.cells (crA (k:Int) (nN k) qc) 29)):=(Gr.refl _).alloc _
  obtain ⟨G,c0,c1⟩:=HV.out
  have g2:=(GA.trans GB).trans g1
  exact ⟨G.trans g2,Vr.new _ _ _,fun j=>(HQ j).gr g1,c0.gr g2,c1.gr g2⟩
 clear he9 GA GB HQ HAW HGR hu hu2 hk2 hk3 hk4 hk5 hu3 u0 k0 k1 HV
 rintro v0 ⟨G,c9,HQ,c0,c1⟩
 have hda:dl a≤1000:=by have:=dl_M a la; omega
 have hdb:dl b≤1000:=by have:=dl_M b lb; omega
 have hdn:dl (oN k)≤1000:=by have:=oN_dl k; omega
 have hn0:0<oN k:=by have:=EC.oN_pos k h1 h2; omega
 obtain ⟨x,dx⟩:=exl (a%oN k)
 have qx:x<oN k:=dx ▸ Nat.mod_lt _ hn0
 obtain ⟨y,dy⟩:=exl (b%oN k)
 have qy:y<oN k:=dy ▸ Nat.mod_lt _ hn0
 obtain ⟨P,hP⟩:=exl (mlQ k x (gQ k))
 obtain ⟨Q,hQ⟩:=exl (mlQ k y (gQ k))
 obtain ⟨bn,hbn⟩:=exl (bl (oN k))
 obtain ⟨m,hm⟩:=exl (mnN 4 bn)
 have hbb:bn≤576:=hbn ▸ bl_576 _ (oN_bd k)
 have hmm:m=(bn+3)/4:=by rw [← hm]; rfl
 obtain ⟨n,hn⟩:=exl (16*m)
 have hl:([]++evN k).length=n:=by rw [List.nil_append,evN,hbn,hm,rpx_length,hn]
 have hli:(([]++evN k).length:Int)=(n:Int):=by rw [hl]
 have hb:n≤1000000:=by omega
 have hdN:dl (oN k)≤400:=by have:=oN_dl k; omega
 have x1:IntKind.i64.wrap ((bn:Int)+3)=(bn:Int)+3:=by rw [IntKind.wrap_i64]; omega
 have x2:((bn:Int)+3).tdiv 4=(m:Int):=by rw [Int.tdiv_eq_ediv_of_nonneg (by omega)]; omega
 have x3:IntKind.i64.wrap (m:Int)=(m:Int):=wiA
 have x4:IntKind.i64.wrap (16*(m:Int))=(n:Int):=by rw [IntKind.wrap_i64]; omega
 refine wp_v true [.N a,.n (a),.c (pv e9 4),.c (.slice (qc 3).1 (dl (oN k)) (qc 3).2),.n (x),.N x,.N b,.n (b),.c (pv e9 4),.c (.slice (qc 3).1 (dl (oN k)) (qc 3).2),.n (y),.N y,.a,.a,.u,.u] [0,1,3,4,5,6,7,9,10,11] [⟨12,14,25,nw 9 0,fun _=>nw 9 x⟩,⟨13,15,25,nw 9 0,fun _=>nw 9 y⟩] ?hs1 ?hv1 ?hf1
 case hs1=>
  exact .cons (.g 25 0 c0 rfl)<|.cons (.k _ fun yy vv hg hh=>RtW.of_n (fm_any la))<|.cons (.o 27 4 c9 rfl rfl)<|.cons (.k (fun yy => #[.slice (yy 1 0).1 (dl (a)) (yy 1 0).2,.slice (qc 3).1 (dl (oN k)) (qc 3).2]) fun yy vv hg hh=>RtW.of_n (Rt.n (dx ▸ rmod_any a (oN k) _ _ _ _ _ (hh 1 rfl) ((HQ 3).gr hg) hda hdn hn0)))<|.cons (.k (fun yy => #[.slice (yy 4 0).1 (dl (x)) (yy 4 0).2]) fun yy vv hg hh=>RtW.of_c (nt_any (hh 4 rfl)))<|.cons (.g 25 0 c1 rfl)<|.cons (.k _ fun yy vv hg hh=>RtW.of_n (fm_any lb))<|.cons (.o 27 4 c9 rfl rfl)<|.cons (.k (fun yy => #[.slice (yy 7 0).1 (dl (b)) (yy 7 0).2,.slice (qc 3).1 (dl (oN k)) (qc 3).2]) fun yy vv hg hh=>RtW.of_n (Rt.n (dy ▸ rmod_any b (oN k) _ _ _ _ _ (hh 7 rfl) ((HQ 3).gr hg) hdb hdn hn0)))<|.cons (.k (fun yy => #[.slice (yy 10 0).1 (dl (y)) (yy 10 0).2]) fun yy vv hg hh=>RtW.of_c (nt_any (hh 10 rfl))) .nil
 case hv1=>
  exact .cons (.mk (fun _ _ _=>rfl) (fun _ v b H F=>by dsimp only at H ⊢; simp [go_sem,exI,H,F]) zNat ⟨fkc,fkn bNat,fkc,fkc,fkn bNat,fkc,fkc,fkn bNat,fkc,fkc,fkn bNat,fkc,fka,fka,fku,fku,trivial⟩)<|.cons (.mk (fun _ _ _=>rfl) (fun _ v b H F=>by dsimp only at H ⊢; simp [go_sem,exI,H,F]) zNat ⟨fkc,fkn bNat,fkc,fkc,fkn bNat,fkc,fkc,fkn bNat,fkc,fkc,fkn bNat,fkc,fka,fka,fku,fku,trivial⟩) .nil
 intro yw6 v1 hg h6 hV6
 simp only [fzw,Kw.a]
 obtain ⟨⟨N6_12,V6_12⟩,⟨N6_13,V6_13⟩, -⟩:(v0.heap.size≤(yw6 12 0).2∧Vr v1 (yw6 12 0).2 (nw 9 x))∧(v0.heap.size≤(yw6 13 0).2∧Vr v1 (yw6 13 0).2 (nw 9 y))∧True:=hV6
 clear h6
 have g6:=hg
 clear hg
 replace G:=G.trans g6
 replace c9:=c9.gr g6
 replace c0:=c0.gr g6
 replace c1:=c1.gr g6
 replace HQ:=fun k=>(HQ k).gr g6
 clear g6
 go_upto_region 8 with (go_at_call 9; refine (new_any _).mono ?_; rintro e w' ⟨rfl,rfl⟩)
 refine gen_w (fun v=>Gr v1 v∧Tr v (v1.heap.size) (.slice none 0 0) []∧Tr v (v1.heap.size+1) (.slice none 0 0) []) ⟨grA,(Tr.new _).gr ((Gr.refl _).alloc _),tr_new2 _⟩ ?_
 rintro vr ⟨gU,TR0,TR1⟩
 refine wp_x false [.c (pv (v1.heap.size) 0),.c (pv e9 0),.c (.int .i64 (k:Int)),.c (.agg (nw 9 x)),.c (.tuple #[.agg (pnt P.1 P.2.1 P.2.2),.int .i64 0]),.c (.tuple #[.agg (pnt P.1 P.2.1 P.2.2),.int .i64 0]),.c (.agg (pnt P.1 P.2.1 P.2.2)),.c (.int .i64 0),.vt vr.heap.size (pnt 0 0 false) 35,.u,.c (.int .i64 0)] [2,3,8] 4 9 (fun v u=>Kp (fun b=>b<vr.heap.size) v u) (MrJ vr (v1.heap.size) (.slice none 0 0) [] (evN k)) (fun x v=>Kp (Own (v1.heap.size) (.slice none 0 0)) vr v∧∃ z,Tr v (v1.heap.size) z ([]++(evN k))∧Vr v (x 8 0).2 (pnt P.1 P.2.1 P.2.2)) 10 (fun _ => #[.pointer (some ⟨v1.heap.size,0,none⟩),.int .i64 (k:Int),.agg (nw 9 x)]) 35 (fun x=>pv (x 8 0).2 0) (fun _=>.agg (pnt P.1 P.2.1 P.2.2)) (MrJ.start TR0) (fun _ _ _ h g=>h.gr g) ?xo2 ?xm2 ?xs2 ⟨fnc,fnc,fnc,fnc,fnc,fnc,fnc,fnc,fnvt,fnu,fnc,trivial⟩ ?xf2
 case xo2=>
  rintro _ v HI
  have hgU:=TR0.grow HI.k gU (Nat.le_refl _)
  refine .cons (.o 3 0 (c9.gr hgU) rfl rfl) ?_
  refine .cons (.g 25 0 (V6_12.gr hgU) rfl) ?_
  exact .cons (.n 35 rfl HI.k.size) .nil
 case xm2=>exact fun _ _ HI _=>HI.mul TR0 fun hT=>bulR h1 h2 (d:=x) qx (Q:=P) hP (by decide) hT
 case xs2=>
  rintro x v HI hy
  obtain ⟨hN,hh⟩:=hy 8 (by kernel_rfl)
  have HT:=(vr_vt hh).h
  have FT:=(vr_vt hh).f
  exact ⟨setBlk v _ (pnt P.1 P.2.1 P.2.2),by simp [go_sem,exI,HT,FT],HI.set hN hh (pnt_size _ _ _) _⟩
 rintro yw8 v8r ⟨k8,z8,TN8,V8⟩
 simp only [fzw,Kw.vt]
 replace gU:=TR0.grow k8 gU (Nat.le_refl _)
 replace TR1:=TR1.kept k8 (fun b hb ho=>TR1.apart TR0 (by omega) b hb (own_none ho))
 replace TR0:=TN8
 clear TN8 k8
 go_upto_region 9 with fail
 refine wp_x false [.c (pv (v1.heap.size+1) 0),.c (pv e9 0),.c (.int .i64 (k:Int)),.c (.agg (nw 9 y)),.c (.tuple #[.agg (pnt Q.1 Q.2.1 Q.2.2),.int .i64 0]),.c (.tuple #[.agg (pnt Q.1 Q.2.1 Q.2.2),.int .i64 0]),.c (.agg (pnt Q.1 Q.2.1 Q.2.2)),.c (.int .i64 0),.vt v8r.heap.size (pnt 0 0 false) 35,.u,.c (.int .i64 0)] [2,3,8] 4 9 (fun v u=>Kp (fun b=>b<v8r.heap.size) v u) (MrJ v8r (v1.heap.size+1) (.slice none 0 0) [] (evN k)) (fun x v=>Kp (Own (v1.heap.size+1) (.slice none 0 0)) v8r v∧∃ z,Tr v (v1.heap.size+1) z ([]++(evN k))∧Vr v (x 8 0).2 (pnt Q.1 Q.2.1 Q.2.2)) 10 (fun _ => #[.pointer (some ⟨v1.heap.size+1,0,none⟩),.int .i64 (k:Int),.agg (nw 9 y)]) 35 (fun x=>pv (x 8 0).2 0) (fun _=>.agg (pnt Q.1 Q.2.1 Q.2.2)) (MrJ.start TR1) (fun _ _ _ h g=>h.gr g) ?xo3 ?xm3 ?xs3 ⟨fnc,fnc,fnc,fnc,fnc,fnc,fnc,fnc,fnvt,fnu,fnc,trivial⟩ ?xf3
 case xo3=>
  rintro _ v HI
  have hgU:=TR1.grow HI.k gU (Nat.le_succ _)
  refine .cons (.o 3 0 (c9.gr hgU) rfl rfl) ?_
  refine .cons (.g 25 0 (V6_13.gr hgU) rfl) ?_
  exact .cons (.n 35 rfl HI.k.size) .nil
 case xm3=>exact fun _ _ HI _=>HI.mul TR1 fun hT=>bulR h1 h2 (d:=y) qy (Q:=Q) hQ (by decide) hT
 case xs3=>
  rintro x v HI hy
  obtain ⟨hN,hh⟩:=hy 8 (by kernel_rfl)
  have HT:=(vr_vt hh).h
  have FT:=(vr_vt hh).f
  exact ⟨setBlk v _ (pnt Q.1 Q.2.1 Q.2.2),by simp [go_sem,exI,HT,FT],HI.set hN hh (pnt_size _ _ _) _⟩
 rintro yw9 v9r ⟨k9,z9,TN9,V9⟩
 simp only [fzw,Kw.vt]
 replace gU:=TR1.grow k9 gU (Nat.le_succ _)
 replace V8:=V8.kp k9 (TR1.odd V8 (pnt_size _ _ _))
 replace TR0:=TR0.kept k9 (fun b hb ho=>TR0.apart TR1 (by omega) b hb (own_none ho))
 replace TR1:=TN9
 clear TN9 k9
 go_upto_region 10 with fail
 refine wp_v true [.c (pv e9 0),.c (.int .i64 (k:Int)),.N x,.c (.agg (crA (k:Int) (nN k) qc)),.pt (xN k) (yN k) false,.c (.agg (pnt (xN k) (yN k) false)),.c (.tuple #[.agg (pnt P.1 P.2.1 P.2.2),.int .i64 0]),.c (.tuple #[.agg (pnt P.1 P.2.1 P.2.2),.int .i64 0]),.c (.agg (pnt P.1 P.2.1 P.2.2)),.O,.a,.u,.O] [1,2,3,4,5,6] [⟨10,11,35,pnt 0 0 false,fun _=>pnt P.1 P.2.1 P.2.2⟩] ?hs4 ?hv4 ?hf4
 case hs4=>
  exact .cons (.o 3 0 (c9.gr gU) rfl rfl)<|.cons (.g 25 0 (V6_12.gr gU) rfl)<|.cons (.g 29 0 (c9.gr gU) rfl)<|.cons (.k _ fun yy vv hg hh=>RtW.of_pt (rg_any qc _ (fun j=>(HQ j).gr (gU.trans hg))))<|.cons (.k (fun yy => #[.agg (ptA (yy 4 0).1 (xN k) (yy 4 0).2 (yy 4 1).1 (yN k) (yy 4 1).2 false)]) fun yy vv hg hh=>RtW.of_c (Rt.c (rout_any _ _ _ _ _ _ _ _ (hh 4 rfl).1 (hh 4 rfl).2)))<|.cons (.k _ fun yy vv hg hh=>RtW.of_c (Rt.c (mulM h1 h2 (P:=gQ k) (gQ_on h1 h2) (d:=x) qx (Q:=P) hP _))) .nil
 case hv4=>
  refine .cons (.mk (fun _ _ _=>rfl) (fun _ v b H F=>by dsimp only at H ⊢; simp [go_sem,exI,H,F]) zPnt ⟨fkc,fkc,fkc,fkc,fkp bPnt,fkc,fkc,fkc,fkc,fkc,fka,fku,fkc,trivial⟩) .nil
 intro yw10 v2 hg h10 hV10
 simp only [fzw,Kw.a]
 obtain ⟨⟨N10_10,V10_10⟩, -⟩:(v9r.heap.size≤(yw10 10 0).2∧Vr v2 (yw10 10 0).2 (pnt P.1 P.2.1 P.2.2))∧True:=hV10
 clear h10
 replace gU:=gU.trans hg
 have g10:=hg
 clear hg
 go_upto_region 11 with fail
 refine wp_w [.O,.O,.T,.T,.O,.O,.T,.T,.T,.O,.O,.T,.T,.T,.c (.agg (pnt P.1 P.2.1 P.2.2)),.c (.agg (pnt P.1 P.2.1 P.2.2)),.T,.T,.T,.c (pv (v1.heap.size) 0),.ev n (([]++evN k)),.c (pv (v1.heap.size+1) 0),.ev n (([]++evN k)),.T,.T,.T,.c (pv (v1.heap.size) 0),.c (.int .i64 (n:Int)),.c (pv e9 4),.c (.slice (qc 3).1 (dl (oN k)) (qc 3).2),.c (.int .i64 (bn:Int)),.c (.int .i64 ((bn:Int)+3)),.c (.int .i64 (m:Int)),.c (.int .i64 (n:Int)),.T,.T,.T] [1,5,10,14,15,16,20,22,23,27,29,30,31,32,33,34] ?hs5 ?hf5
 case hs5=>
  exact .cons (.k _ fun yy vv hg hh=>RtW.of_c (Rt.same (num_any _ _)))<|.cons (.k _ fun yy vv hg hh=>RtW.of_c (Rt.same (num_any _ _)))<|.cons (.k _ fun yy vv hg hh=>RtW.of_c (Rt.same (num_any _ _)))<|.cons (.g 35 0 (V8.gr g10) rfl)<|.cons (.g 35 0 V10_10 rfl)<|.cons (.s (.binOp .eql 35 (.const (.agg (pnt P.1 P.2.1 P.2.2))) (.const (.agg (pnt P.1 P.2.1 P.2.2))) 35) rfl fun vv hg=>by simp [go_sem,exI,eqPn,eqN_self])<|.cons (.k _ fun yy vv hg hh =>  ((evT (TR0.gr (g10.trans hg)) hl hb)))<|.cons (.k _ fun yy vv hg hh =>  ((evT (TR1.gr (g10.trans hg)) hl hb)))<|.cons (.k (fun yy => #[.slice (yy 20 0).1 n (yy 20 0).2,.slice (yy 22 0).1 n (yy 22 0).2]) fun yy vv hg hh=>RtW.of_c (Rt.c (sameevT (hh 20 rfl) (hh 22 rfl) hl hb)))<|.cons (.k _ fun yy vv hg hh=>RtW.of_c (Rt.same (lenT (TR0.gr (g10.trans hg)) hli)))<|.cons (.o 27 4 (c9.gr gU) rfl rfl)<|.cons (.k (fun yy => #[.slice (qc 3).1 (dl (oN k)) (qc 3).2]) fun yy vv hg hh=>RtW.of_c (Rt.same (hbn ▸ rbits_any (oN k) _ _ _ ((HQ 3).gr (gU.trans hg)) (by omega))))<|.cons (.s (.binOp .add 3 (.const (.int .i64 (bn:Int))) (.const (.int .i64 3)) 3) rfl fun vv hg=>by simp [go_sem,exI,x1])<|.cons (.s (.binOp .quo 3 (.const (.int .i64 ((bn:Int)+3))) (.const (.int .i64 4)) 3) rfl fun vv hg=>by simp [go_sem,exI,x2,x3])<|.cons (.s (.binOp .mul 3 (.const (.int .i64 16)) (.const (.int .i64 (m:Int))) 3) rfl fun vv hg=>by simp [go_sem,exI,x4])<|.cons (.s (.binOp .geq 3 (.const (.int .i64 (n:Int))) (.const (.int .i64 (n:Int))) 3) rfl fun vv hg=>by simp [go_sem,exI]) .nil
 intro yw11 v3 hg h11
 simp only [fzw,Kw.ev]
 clear h11
 replace g10:=g10.trans hg
 replace gU:=gU.trans hg
 have g11:=hg
 clear hg
 replace G:=G.trans gU
 replace c9:=c9.gr gU
 replace c0:=c0.gr gU
 replace c1:=c1.gr gU
 replace V6_12:=V6_12.gr gU
 replace V6_13:=V6_13.gr gU
 replace HQ:=fun k=>(HQ k).gr gU
 replace V8:=V8.gr g10
 replace V9:=V9.gr g10
 replace TR0:=TR0.gr g10
 replace TR1:=TR1.gr g10
 replace V10_10:=V10_10.gr g11
 clear g10 g11 gU
 go_wp2_with fail
 go_ret
 exact ⟨rfl,G⟩
end
end
end Go.Proofs.YtpogpconfonljaaGreat