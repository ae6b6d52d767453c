import Derived.Test.YthlbckmkogkbkaaGreatXAQG
namespace Go.Proofs.YthlbckmkogkbkaaGreat
open Go.RowKit
set_option maxRecDepth 100000
set_option maxHeartbeats 8000000
section
attribute [local go_sem ↓] uz1
attribute [local go_sem] uz2
section
attribute [local go_sem] uz8
attribute [local go_sem ↓] uz17 Go.wp_at_zero Go.wp_at_succ
attribute [local go_sem] uz18
theorem tr_new2 (w:World):Tr ((w.alloc (.cells #[.slice none 0 0] 75)).alloc (.cells #[.slice none 0 0] 75)) (w.heap.size+1) (.slice none 0 0) []:=by
 have h:=Tr.new (w.alloc (.cells #[.slice none 0 0] 75))
 have e:(w.alloc (.cells #[.slice none 0 0] 75)).heap.size=w.heap.size+1:=by simp
 rwa [e] at h
end
section
attribute [local go_sem] uz8
attribute [local go_sem ↓] uz17 Go.wp_at_zero Go.wp_at_succ
attribute [local go_sem] uz18
theorem Tr.apart {w:World} {t t':Nat} {v v':Value} {xs ys:List (Int×Int)} (h:Tr w t v xs) (k:Tr w t' v' ys) (ne:t≠t'):∀ b,Own t v b→¬ b=t':=by
 rintro b (rfl | hb) e
 ·exact ne e
 ·subst e
  rcases h.row.2 with ⟨rfl, -⟩ | ⟨g,cap,cur,rfl, -,hg, -⟩
  ·cases hb
  ·have e1:g=b:=Option.some.inj hb
   subst e1
   rw [k.cell] at hg
   injection hg with hg
   injection hg with _ e2 _
   exact absurd e2 (by decide)
theorem Ev.gr {w w':World} {p:Option Addr} {xs:List (Int×Int)} (h:Ev w p xs) (k:Gr w w'):Ev w' p xs:=h.kept (Kp.gr k fun _=>False) fun _ _ h=>h
theorem sameevT {w:World} {p q:Option Addr} {c d n:Nat} {xs:List (Int×Int)} (hp:Ev w p xs) (hq:Ev w q xs) (hl:xs.length=n) (hn:n≤1000000):Cg 27 #[.slice p n c,.slice q n d] w (.bool true):=by
 subst hl
 refine (sameev_any w p q xs xs c d hp hq (by omega) (by omega)).mono ?_
 rintro e w' ⟨he,m,rfl⟩
 exact ⟨by rw [he]; simp,(Gr.refl w).drewN m⟩
theorem ixs_count (i:Nat) (hi:i<16):(ixs 16).countP (fun e=>decide (e=(2,(i:Int))))=1:=by
 obtain rfl | rfl | rfl | rfl | rfl | rfl | rfl | rfl | rfl | rfl | rfl | rfl | rfl | rfl | rfl | rfl:i=0∨i=1∨i=2∨i=3∨i=4∨i=5∨i=6∨i=7∨i=8∨i=9∨i=10∨i=11∨i=12∨i=13∨i=14∨i=15:=by omega
 all_goals decide +kernel
theorem rpx_count (i:Nat) (hi:i<16):∀ m,(rpx m).countP (fun e=>decide (e=(2,(i:Int))))=m
 | 0=>rfl
 | m+1=>by rw [rpx,List.countP_append,rpx_count i hi m,ixs_count i hi]
theorem take_count {xs:List (Int×Int)} {p:Int×Int→Bool} {j:Nat} {e:Int×Int} (h:xs[j]? = some e):(xs.take (j+1)).countP p=(xs.take j).countP p+if p e then 1 else 0:=by
 rw [List.take_add_one,h,List.countP_append]
 simp [List.countP_cons]
theorem lqblind_any (id:Int) (a b:Nat) (la:a<M) (lb:b<M) (n1 n2:Nat) (bn1:n1<18446744073709551616) (bn2:n2<18446744073709551616) (w:World):Cg 4 #[.int .i64 id,.agg (nw 9 a),.agg (nw 9 b),.int .u64 (n1:Int),.int .u64 (n2:Int)] w (.bool true):=by
 obtain ⟨u,hu,hu2,hk⟩:=idx_conv id
 have hbd:=idx_bd id
 obtain ⟨k,hkk⟩:=exl (idx id)
 rw [hkk] at hk hbd
 obtain ⟨h1,h2⟩:=hbd
 have u0:(0:Int)≤(u:Int):=by omega
 have hk2:(1:Int)+(u:Int)%15=(k:Int):=by omega
 have hk3:IntKind.i64.wrap ((u:Int)%15)=(u:Int)%15:=by rw [IntKind.wrap_i64]; omega
 have hk4:IntKind.u64.wrap ((u:Int)%15)=(u:Int)%15:=by rw [IntKind.wrap_u64]; omega
 have hk5:(u:Int).tmod 15=(u:Int)%15:=by rw [Int.tmod_eq_emod_of_nonneg (by omega)]
 have k0:(1:Int)≤(k:Int):=by omega
 have k1:(k:Int)≤15:=by omega
 have hu3:id%18446744073709551616=(u:Int):=by rw [← hu,IntKind.wrap_u64]
 clear hkk hk
 have HGR:Hid (∀ w,Calls Tryz.prog 9 #[.int .i64 (k:Int)] w (GetQ k w)):=fun w=>getq_yes k h1 h2 w
 have HAW:Hid (∀ w,Cg 18 #[] w (.bool true)):=fun w=>awake18_any w
 go_enter Tryz.func4,Tryz.ntmps4
 go_upto_region 1 with fail
 refine gen_w (fun v=>Hid (Gr w v∧Vr v (w.heap.size) (nw 9 a)∧Vr v (w.heap.size+1) (nw 9 b))) ⟨grA,vrA,vrA⟩ ?_
 intro u0 HV
 go_upto_region 4 with (first
  | (go_at_call 18; refine (HAW.out _).mono ?_; rintro e WA ⟨rfl,GA⟩)
  | (go_at_call 9; refine (HGR.out _).mono ?_; rintro e WB ⟨qc,rfl,HQ,GB⟩))
 obtain ⟨e9,he9⟩:=exl (WB.heap.size)
 simp only [he9]
 refine gen_w (fun v=>Gr w v∧Vr v e9 (crA (k:Int) (nN k) qc)∧(∀ j,Sl v (qc j).1 (nN k j))∧Vr v (w.heap.size) (nw 9 a)∧Vr v (w.heap.size+1) (nw 9 b)) ?_ ?_
 ·subst he9
  have g1:Gr WB (WB.alloc (.cells (crA (k:Int) (nN k) qc) 31)):=(Gr.refl _).alloc _
  obtain ⟨G,c0,c1⟩:=HV.out
  have g2:=(GA.trans GB).trans g1
  exact ⟨G.trans g2,Vr.new _ _ _,fun j=>(HQ j).gr g1,c0.gr g2,c1.gr g2⟩
 clear he9 GA GB HQ HAW HGR hu hu2 hk2 hk3 hk4 hk5 hu3 u0 k0 k1 HV
 rintro v0 ⟨G,c9,HQ,c0,c1⟩
 have ln1:n1<M:=lt_M _ bn1
 have hdn1:dl n1≤400:=by have:=dl_M n1 ln1; omega
 have ln2:n2<M:=lt_M _ bn2
 have hdn2:dl n2≤400:=by have:=dl_M n2 ln2; omega
 have hda:dl a≤1000:=by have:=dl_M a la; omega
 have hdb:dl b≤1000:=by have:=dl_M b lb; omega
 have hdn:dl (oN k)≤1000:=by have:=oN_dl k; omega
 have hn0:0<oN k:=by have:=EC.oN_pos k h1 h2; omega
 obtain ⟨P,hP⟩:=exl (mlQ k n1 (gQ k))
 have oP:OnQ k P:=hP ▸ mlQ_on h1 h2 _ (gQ_on h1 h2)
 obtain ⟨Q,hQ⟩:=exl (mlQ k n2 (gQ k))
 have oQ:OnQ k Q:=hQ ▸ mlQ_on h1 h2 _ (gQ_on h1 h2)
 obtain ⟨x,dx⟩:=exl (a%oN k)
 obtain ⟨y,dy⟩:=exl (b%oN k)
 have qx:x<oN k:=dx ▸ Nat.mod_lt _ hn0
 have qy:y<oN k:=dy ▸ Nat.mod_lt _ hn0
 obtain ⟨A,hA⟩:=exl (mlQ k x P)
 obtain ⟨B,hB⟩:=exl (mlQ k y Q)
 obtain ⟨bn,hbn⟩:=exl (bl (oN k))
 obtain ⟨m,hm⟩:=exl (mnN 4 bn)
 have hev:evN k=rpx m:=by unfold evN; rw [hbn,hm]
 obtain ⟨n,hn⟩:=exl ((evN k).length)
 have hl:=hn
 have hbb:bn≤576:=hbn ▸ bl_576 _ (oN_bd k)
 have hmm:m=(bn+3)/4:=by rw [← hm]; rfl
 have hb:n≤1000000:=by rw [← hn,hev,rpx_length]; omega
 have HC:Hid (∀ i:Nat,i<16→(evN k).countP (fun e=>decide (e=(2,(i:Int))))=m):=fun i hi=>by rw [hev]; exact rpx_count i hi m
 refine wp_wS [.c (.bool true),.c (.bool false)] [] ?hs1 ?hf1
 case hs1=>exact .nil
 intro yw4 v1 hg h4
 simp only [FW,putFrom,Act.put,lqA,lqB,lqC,wvals,kW,lqD,lqE,Kw.c]
 clear h4
 have g4:=hg
 clear hg
 go_upto_region 6 with fail
 refine wp_v true [.c (.agg (nw 9 a)),.n (a),.c (pv e9 4),.c (.slice (qc 3).1 (dl (oN k)) (qc 3).2),.n (x),.c (.agg (nw 9 x)),.c (.agg (nw 9 b)),.n (b),.c (pv e9 4),.c (.slice (qc 3).1 (dl (oN k)) (qc 3).2),.n (y),.c (.agg (nw 9 y)),.a,.a,.u,.u] [0,1,3,4,5,6,7,9,10,11] [⟨12,14,25,nw 9 0,fun _=>nw 9 x⟩,⟨13,15,25,nw 9 0,fun _=>nw 9 y⟩] ?hs2 ?hv2 ?hf2
 case hs2=>
  exact .cons (.g 25 0 (c0.gr g4) rfl)<|.cons (.k _ fun yy vv hg hh=>RtW.of_n (fm_any la))<|.cons (.o 29 4 (c9.gr g4) rfl rfl)<|.cons (.k (fun yy => #[.slice (yy 1 0).1 (dl (a)) (yy 1 0).2,.slice (qc 3).1 (dl (oN k)) (qc 3).2]) fun yy vv hg hh=>RtW.of_n (Rt.n (dx ▸ rmod_any a (oN k) _ _ _ _ _ (hh 1 rfl) ((HQ 3).gr (g4.trans hg)) hda hdn hn0)))<|.cons (.k (fun yy => #[.slice (yy 4 0).1 (dl (x)) (yy 4 0).2]) fun yy vv hg hh=>RtW.of_c (nt_any (hh 4 rfl)))<|.cons (.g 25 0 (c1.gr g4) rfl)<|.cons (.k _ fun yy vv hg hh=>RtW.of_n (fm_any lb))<|.cons (.o 29 4 (c9.gr g4) rfl rfl)<|.cons (.k (fun yy => #[.slice (yy 7 0).1 (dl (b)) (yy 7 0).2,.slice (qc 3).1 (dl (oN k)) (qc 3).2]) fun yy vv hg hh=>RtW.of_n (Rt.n (dy ▸ rmod_any b (oN k) _ _ _ _ _ (hh 7 rfl) ((HQ 3).gr (g4.trans hg)) hdb hdn hn0)))<|.cons (.k (fun yy => #[.slice (yy 10 0).1 (dl (y)) (yy 10 0).2]) fun yy vv hg hh=>RtW.of_c (nt_any (hh 10 rfl))) .nil
 case hv2=>
  exact .cons (.mk (fun _ _ _=>rfl) (fun _ v b H F=>by dsimp only at H ⊢; simp [go_sem,exI,H,F]) zNat ⟨fkc,fkn bNat,fkc,fkc,fkn bNat,fkc,fkc,fkn bNat,fkc,fkc,fkn bNat,fkc,fka,fka,fku,fku,trivial⟩)<|.cons (.mk (fun _ _ _=>rfl) (fun _ v b H F=>by dsimp only at H ⊢; simp [go_sem,exI,H,F]) zNat ⟨fkc,fkn bNat,fkc,fkc,fkn bNat,fkc,fkc,fkn bNat,fkc,fkc,fkn bNat,fkc,fka,fka,fku,fku,trivial⟩) .nil
 intro yw6 v2 hg h6 hV6
 simp only [FW,putFrom,Act.put,lqA,lqB,lqC,wvals,kW,lqD,lqE,Kw.c,pv,Kw.a,Kw.n,Kw.u]
 obtain ⟨⟨N6_12,V6_12⟩,⟨N6_13,V6_13⟩, -⟩:(v1.heap.size≤(yw6 12 0).2∧Vr v2 (yw6 12 0).2 (nw 9 x))∧(v1.heap.size≤(yw6 13 0).2∧Vr v2 (yw6 13 0).2 (nw 9 y))∧True:=hV6
 clear h6
 replace g4:=g4.trans hg
 clear hg
 go_upto_region 7 with fail
 refine wp_v true [.c (.agg (crA (k:Int) (nN k) qc)),.c (.int .u64 (n1:Int)),.c (.agg (nw 9 n1)),.n (n1),.c (.agg (crA (k:Int) (nN k) qc)),.pt (xN k) (yN k) false,.pt (P.1) (P.2.1) P.2.2,.c (.agg (pnt P.1 P.2.1 P.2.2)),.a,.u] [0,2,3,4,5,6,7] [⟨8,9,27,pnt 0 0 false,fun _=>pnt P.1 P.2.1 P.2.2⟩] ?hs3 ?hv3 ?hf3
 case hs3=>
  exact .cons (.g 31 0 (c9.gr g4) rfl)<|.cons (.k _ fun yy vv hg hh=>RtW.of_c (Rt.c (one_any _ bn1 _)))<|.cons (.k _ fun yy vv hg hh=>RtW.of_n (fm_any ln1))<|.cons (.g 31 0 (c9.gr g4) rfl)<|.cons (.k _ fun yy vv hg hh=>RtW.of_pt (rg_any qc _ (fun j=>(HQ j).gr (g4.trans hg))))<|.cons (.k (fun yy => #[.agg (crA (k:Int) (nN k) qc),.slice (yy 3 0).1 (dl (n1)) (yy 3 0).2,.agg (ptA (yy 5 0).1 (xN k) (yy 5 0).2 (yy 5 1).1 (yN k) (yy 5 1).2 false)]) fun yy vv hg hh=>RtW.of_pt (hP ▸ rtimesQ k h1 h2 qc (gQ_on h1 h2) hdn1 (fun j=>(HQ j).gr (g4.trans hg)) (hh 3 rfl) (hh 5 rfl).1 (hh 5 rfl).2))<|.cons (.k (fun yy => #[.agg (ptA (yy 6 0).1 (P.1) (yy 6 0).2 (yy 6 1).1 (P.2.1) (yy 6 1).2 P.2.2)]) fun yy vv hg hh=>RtW.of_c (Rt.c (rout_any _ _ _ _ _ _ _ _ (hh 6 rfl).1 (hh 6 rfl).2))) .nil
 case hv3=>
  refine .cons (.mk (fun _ _ _=>rfl) (fun _ v b H F=>by dsimp only at H ⊢; simp [go_sem,exI,H,F]) zPnt ⟨fkc,fkc,fkc,fkn bPnt,fkc,fkp bPnt,fkp bPnt,fkc,fka,fku,trivial⟩) .nil
 intro yw7 v3 hg h7 hV7
 simp only [FW,putFrom,Act.put,lqA,lqB,lqC,wvals,kW,lqD,lqE,Kw.c,Kw.a,Kw.n,Kw.pt,Kw.u]
 obtain ⟨⟨N7_8,V7_8⟩, -⟩:(v2.heap.size≤(yw7 8 0).2∧Vr v3 (yw7 8 0).2 (pnt P.1 P.2.1 P.2.2))∧True:=hV7
 clear h7
 replace g4:=g4.trans hg
 have g7:=hg
 clear hg
 go_upto_region 8 with fail
 refine wp_v true [.c (.agg (crA (k:Int) (nN k) qc)),.c (.int .u64 (n2:Int)),.c (.agg (nw 9 n2)),.n (n2),.c (.agg (crA (k:Int) (nN k) qc)),.pt (xN k) (yN k) false,.pt (Q.1) (Q.2.1) Q.2.2,.c (.agg (pnt Q.1 Q.2.1 Q.2.2)),.a,.u] [0,2,3,4,5,6,7] [⟨8,9,27,pnt 0 0 false,fun _=>pnt Q.1 Q.2.1 Q.2.2⟩] ?hs4 ?hv4 ?hf4
 case hs4=>
  exact .cons (.g 31 0 (c9.gr g4) rfl)<|.cons (.k _ fun yy vv hg hh=>RtW.of_c (Rt.c (one_any _ bn2 _)))<|.cons (.k _ fun yy vv hg hh=>RtW.of_n (fm_any ln2))<|.cons (.g 31 0 (c9.gr g4) rfl)<|.cons (.k _ fun yy vv hg hh=>RtW.of_pt (rg_any qc _ (fun j=>(HQ j).gr (g4.trans hg))))<|.cons (.k (fun yy => #[.agg (crA (k:Int) (nN k) qc),.slice (yy 3 0).1 (dl (n2)) (yy 3 0).2,.agg (ptA (yy 5 0).1 (xN k) (yy 5 0).2 (yy 5 1).1 (yN k) (yy 5 1).2 false)]) fun yy vv hg hh=>RtW.of_pt (hQ ▸ rtimesQ k h1 h2 qc (gQ_on h1 h2) hdn2 (fun j=>(HQ j).gr (g4.trans hg)) (hh 3 rfl) (hh 5 rfl).1 (hh 5 rfl).2))<|.cons (.k (fun yy => #[.agg (ptA (yy 6 0).1 (Q.1) (yy 6 0).2 (yy 6 1).1 (Q.2.1) (yy 6 1).2 Q.2.2)]) fun yy vv hg hh=>RtW.of_c (Rt.c (rout_any _ _ _ _ _ _ _ _ (hh 6 rfl).1 (hh 6 rfl).2))) .nil
 case hv4=>
  refine .cons (.mk (fun _ _ _=>rfl) (fun _ v b H F=>by dsimp only at H ⊢; simp [go_sem,exI,H,F]) zPnt ⟨fkc,fkc,fkc,fkn bPnt,fkc,fkp bPnt,fkp bPnt,fkc,fka,fku,trivial⟩) .nil
 intro yw8 v4 hg h8 hV8
 simp only [FW,putFrom,Act.put,lqA,lqB,lqC,wvals,kW,lqD,lqE,Kw.c,Kw.a,Kw.n,Kw.pt,Kw.u]
 obtain ⟨⟨N8_8,V8_8⟩, -⟩:(v3.heap.size≤(yw8 8 0).2∧Vr v4 (yw8 8 0).2 (pnt Q.1 Q.2.1 Q.2.2))∧True:=hV8
 clear h8
 replace g4:=g4.trans hg
 replace g7:=g7.trans hg
 have g8:=hg
 clear hg
 replace G:=G.trans g4
 replace c9:=c9.gr g4
 replace c0:=c0.gr g4
 replace c1:=c1.gr g4
 replace HQ:=fun k=>(HQ k).gr g4
 replace V6_12:=V6_12.gr g7
 replace V6_13:=V6_13.gr g7
 replace V7_8:=V7_8.gr g8
 clear g4 g7 g8
 go_upto_region 10 with (go_at_call 10; refine (new_any _).mono ?_; rintro e w' ⟨rfl,rfl⟩)
 refine gen_w (fun v=>Gr v4 v∧Tr v (v4.heap.size) (.slice none 0 0) []∧Tr v (v4.heap.size+1) (.slice none 0 0) []) ⟨grA,(Tr.new _).gr ((Gr.refl _).alloc _),tr_new2 _⟩ ?_
 rintro vr ⟨gU,TR0,TR1⟩
 refine wp_x false [.c (pv (v4.heap.size) 0),.c (pv e9 0),.c (.int .i64 (k:Int)),.c (.agg (nw 9 x)),.c (.agg (pnt P.1 P.2.1 P.2.2)),.c (.tuple #[.agg (pnt A.1 A.2.1 A.2.2),.int .i64 0]),.c (.tuple #[.agg (pnt A.1 A.2.1 A.2.2),.int .i64 0]),.c (.agg (pnt A.1 A.2.1 A.2.2)),.c (.int .i64 0),.vt vr.heap.size (pnt 0 0 false) 27,.u,.c (.int .i64 0)] [2,3,4,9] 5 10 (fun v u=>Kp (fun b=>b<vr.heap.size) v u) (MrI vr (v4.heap.size) (evN k)) (fun x v=>Kp (fun b=>b=v4.heap.size) vr v∧∃ z,Tr v (v4.heap.size) z (evN k)∧Vr v (x 9 0).2 (pnt A.1 A.2.1 A.2.2)) 11 (fun _ => #[.pointer (some ⟨v4.heap.size,0,none⟩),.int .i64 (k:Int),.agg (nw 9 x),.agg (pnt P.1 P.2.1 P.2.2)]) 27 (fun x=>pv (x 9 0).2 0) (fun _=>.agg (pnt A.1 A.2.1 A.2.2)) (MrI.start TR0) (fun _ _ _ h g=>h.gr g) ?xo5 ?xm5 ?xs5 ⟨fnc,fnc,fnc,fnc,fnc,fnc,fnc,fnc,fnc,fnvt,fnu,fnc,trivial⟩ ?xf5
 case xo5=>
  rintro _ v HI
  have hgU:=HI.g gU (Nat.le_refl _)
  refine .cons (.o 3 0 (c9.gr hgU) rfl rfl) ?_
  refine .cons (.g 25 0 (V6_12.gr hgU) rfl) ?_
  refine .cons (.g 27 0 (V7_8.gr hgU) rfl) ?_
  exact .cons (.n 27 rfl HI.k.size) .nil
 case xm5=>exact fun _ _ HI _=>HI.mul TR0.lt fun hT=>mulR h1 h2 (P:=P) oP (d:=x) qx (Q:=A) hA hT
 case xs5=>
  rintro x v HI hy
  obtain ⟨hN,hh⟩:=hy 9 (by kernel_rfl)
  have HT:=(vr_vt hh).h
  have FT:=(vr_vt hh).f
  exact ⟨setBlk v _ (pnt A.1 A.2.1 A.2.2),by simp [go_sem,exI,HT,FT],HI.set TR0.lt hN hh (by rw [pnt_size]; decide) (by decide) _⟩
 rintro yw10 v10r ⟨k10,z10,TN10,V10⟩
 simp only [FW,putFrom,Act.put,lqA,lqB,lqC,wvals,kW,lqD,lqE,Kw.c,Kw.u,Kw.vt,pv]
 replace gU:=gr_kp gU k10 (fun b hb e=>by have e:b=v4.heap.size:=e; omega)
 replace TR1:=TR1.kept k10 (TR1.apart TR0 (by omega))
 replace TR0:=TN10
 clear TN10 k10
 go_upto_region 11 with fail
 refine wp_x false [.c (pv (v4.heap.size+1) 0),.c (pv e9 0),.c (.int .i64 (k:Int)),.c (.agg (nw 9 y)),.c (.agg (pnt Q.1 Q.2.1 Q.2.2)),.c (.tuple #[.agg (pnt B.1 B.2.1 B.2.2),.int .i64 0]),.c (.tuple #[.agg (pnt B.1 B.2.1 B.2.2),.int .i64 0]),.c (.agg (pnt B.1 B.2.1 B.2.2)),.c (.int .i64 0),.vt v10r.heap.size (pnt 0 0 false) 27,.u,.c (.int .i64 0)] [2,3,4,9] 5 10 (fun v u=>Kp (fun b=>b<v10r.heap.size) v u) (MrI v10r (v4.heap.size+1) (evN k)) (fun x v=>Kp (fun b=>b=v4.heap.size+1) v10r v∧∃ z,Tr v (v4.heap.size+1) z (evN k)∧Vr v (x 9 0).2 (pnt B.1 B.2.1 B.2.2)) 11 (fun _ => #[.pointer (some ⟨v4.heap.size+1,0,none⟩),.int .i64 (k:Int),.agg (nw 9 y),.agg (pnt Q.1 Q.2.1 Q.2.2)]) 27 (fun x=>pv (x 9 0).2 0) (fun _=>.agg (pnt B.1 B.2.1 B.2.2)) (MrI.start TR1) (fun _ _ _ h g=>h.gr g) ?xo6 ?xm6 ?xs6 ⟨fnc,fnc,fnc,fnc,fnc,fnc,fnc,fnc,fnc,fnvt,fnu,fnc,trivial⟩ ?xf6
 case xo6=>
  rintro _ v HI
  have hgU:=HI.g gU (Nat.le_succ _)
  refine .cons (.o 3 0 (c9.gr hgU) rfl rfl) ?_
  refine .cons (.g 25 0 (V6_13.gr hgU) rfl) ?_
  refine .cons (.g 27 0 (V8_8.gr hgU) rfl) ?_
  exact .cons (.n 27 rfl HI.k.size) .nil
 case xm6=>exact fun _ _ HI _=>HI.mul TR1.lt fun hT=>mulR h1 h2 (P:=Q) oQ (d:=y) qy (Q:=B) hB hT
 case xs6=>
  rintro x v HI hy
  obtain ⟨hN,hh⟩:=hy 9 (by kernel_rfl)
  have HT:=(vr_vt hh).h
  have FT:=(vr_vt hh).f
  exact ⟨setBlk v _ (pnt B.1 B.2.1 B.2.2),by simp [go_sem,exI,HT,FT],HI.set TR1.lt hN hh (by rw [pnt_size]; decide) (by decide) _⟩
 rintro yw11 v11r ⟨k11,z11,TN11,V11⟩
 simp only [FW,putFrom,Act.put,lqA,lqB,lqC,wvals,kW,lqD,lqE,Kw.c,Kw.u,Kw.vt,pv]
 replace gU:=gr_kp gU k11 (fun b hb e=>by have e:b=v4.heap.size+1:=e; omega)
 replace TR0:=TR0.kept k11 (TR0.apart TR1 (by omega))
 replace TR1:=TN11
 clear TN11 k11
 replace G:=G.trans gU
 replace c9:=c9.gr gU
 replace c0:=c0.gr gU
 replace c1:=c1.gr gU
 replace V6_12:=V6_12.gr gU
 replace V6_13:=V6_13.gr gU
 replace V7_8:=V7_8.gr gU
 replace V8_8:=V8_8.gr gU
 replace HQ:=fun k=>(HQ k).gr gU
 clear gU
 have HEv:Hid (Calls Tryz.prog 25 #[.pointer (some ⟨v4.heap.size,0,none⟩)] v11r fun e w'=>∃ p c,e=.returned (.slice p n c)∧Ev w' p (evN k)∧Gr v11r w'):=(evT TR0 hl hb).mono fun _ _ ⟨y,e,h,g⟩=>⟨_,_,e,h,g⟩
 go_upto_region 13 with (go_at_call 25; refine HEv.out.mono ?_; rintro e w12 ⟨pe,ce,rfl,hE,g12⟩)
 have HV:Hid (Gr w w12∧Vr w12 e9 (crA (k:Int) (nN k) qc)∧(∀ j,Sl w12 (qc j).1 (nN k j))∧Tr w12 (v4.heap.size+1) z11 (evN k)):=⟨G.trans g12,c9.gr g12,fun j=>(HQ j).gr g12,TR1.gr g12⟩
 have HE:Hid (Ev w12 pe (evN k)):=hE
 have HB:Hid (Calls Tryz.prog 26 #[.slice (qc 3).1 (dl (oN k)) (qc 3).2] w12 fun e w'=>e=.returned (.int .i64 (bn:Int))∧w'=w12):=hbn ▸ rbits_any (oN k) _ _ w12 (HV.out.2.2.1 3) (by omega)
 clear G c9 HQ TR1 TR0 hE g12 HEv
 go_wp2_with fail
 go_loopw [24] (fun ia wr=>∃ i:Nat,ia=.int .i64 (i:Int)∧Hid (Unit→i≤16)∧w12=wr) (fun ia _=>16-(intOf ia).toNat)
 case atStart=>exact ⟨0,rfl,fun _=>by decide,rfl⟩
 case round=>
  obtain ⟨i,rfl,HI,rfl⟩:=hrel
  have i0:(0:Int)≤(i:Int):=by omega
  by_cases hi:i<16
  ·have i1:(i:Int)<16:=by omega
   have HC0:Hid ((evN k).countP (fun e=>decide (e=(2,(i:Int))))=m):=HC.out i hi
   go_wp2_with fail
   go_loopw [25,26] (fun ca ja wr=>∃ (c j:Nat),ca=.int .i64 (c:Int)∧ja=.int .i64 (j:Int)∧Hid (Unit→j≤n∧((evN k).take j).countP (fun e=>decide (e=(2,(i:Int))))=c)∧w12=wr) (fun _ ja _=>n-(intOf ja).toNat)
   case atStart=>exact ⟨0,0,rfl,rfl,fun _=>⟨Nat.zero_le _,rfl⟩,rfl⟩
   case round=>
    obtain ⟨c,j,rfl,rfl,HJ,rfl⟩:=hrel
    have j0:(0:Int)≤(j:Int):=by omega
    by_cases hlt:j<n
    ·have j1:(j:Int)<(n:Int):=by omega
     have hx1:j<(evN k).length:=by omega
     obtain ⟨⟨e1,e2⟩,hx2⟩:∃ x,(evN k)[j]? = some x:=⟨_,List.getElem?_eq_getElem hx1⟩
     have hcc:=(HJ.out ()).2
     have hcl:c≤j:=by rw [← hcc]; exact Nat.le_trans (List.countP_le_length ..) (by rw [List.length_take]; omega)
     have hnx0:=take_count (p:=fun e=>decide (e=(2,(i:Int)))) hx2
     rw [hcc] at hnx0
     clear HJ hcc
     ·skip
      obtain ⟨bb,o,rfl,hb0,hc⟩:∃ b o,pe=some ⟨b,o,none⟩∧b<w12.heap.size∧∀ i k' a,(evN k)[i]? = some (k',a)→w12.cell? ⟨b,o+i*2,none⟩=some (.int .i64 k')∧w12.cell? ⟨b,o+i*2+1,none⟩=some (.int .i64 a):=by
       rcases HE.out with h | h
       ·rw [h] at hx1; simp at hx1
       ·exact h
      obtain ⟨kk1,kk2⟩:=hc j e1 e2 hx2
      by_cases hab:e1=2∧e2=(i:Int)
      ·obtain ⟨rfl,rfl⟩:=hab
       have hnx:((evN k).take (j+1)).countP (fun e=>decide (e=(2,(i:Int))))=c+1:=by rw [hnx0]; simp
       clear hc HV HE HB HC0 hx2 hx1 HC
       go_wp2_with fail
       go_roundw
       case rel=>exact ⟨c+1,j+1,by go_num,by go_num,fun _=>⟨hlt,hnx⟩,trivial⟩
       case measure=>simp [intOf]; omega
      ·have hnx:((evN k).take (j+1)).countP (fun e=>decide (e=(2,(i:Int))))=c:=by
        rw [hnx0,if_neg]
        ·rfl
        ·simp only [Prod.mk.injEq,decide_eq_true_eq]; exact hab
       by_cases h1:e1=2
       ·subst h1
        have h2:(e2 == (i:Int))=false:=by simpa using hab
        clear hab
        clear hc HV HE HB HC0 hx2 hx1 HC
        go_wp2_with fail
        go_roundw
        case rel=>exact ⟨c,j+1,by go_num,by go_num,fun _=>⟨hlt,hnx⟩,trivial⟩
        case measure=>simp [intOf]; omega
       ·have h1':(e1 == 2)=false:=by simpa using h1
        clear hab h1
        clear hc HV HE HB HC0 hx2 hx1 HC
        go_wp2_with fail
        go_roundw
        case rel=>exact ⟨c,j+1,by go_num,by go_num,fun _=>⟨hlt,hnx⟩,trivial⟩
        case measure=>simp [intOf]; omega
    ·have j1:¬ (j:Int)<(n:Int):=by omega
     have hj:j=n:=by have:=(HJ.out ()).1; omega
     have hc:c=m:=by
      have h:=(HJ.out ()).2
      rw [hj,← hl,List.take_length,HC0.out] at h
      exact h.symm
     subst hc
     have kc:w12.cell? ⟨e9,4,none⟩=some (.slice (qc 3).1 (dl (oN k)) (qc 3).2):=by rw [HV.out.2.1.cell]; rfl
     have x1:IntKind.i64.wrap ((bn:Int)+3)=(bn:Int)+3:=by rw [IntKind.wrap_i64]; omega
     have x2:((bn:Int)+3).tdiv 4=(c:Int):=by rw [Int.tdiv_eq_ediv_of_nonneg (by omega)]; omega
     have x3:IntKind.i64.wrap (c:Int)=(c:Int):=wiA
     have x4:¬ (c:Int)<(c:Int):=by omega
     clear hj HJ
     go_wp2_with (go_at_call 26; refine HB.out.mono ?_; rintro e w' ⟨rfl,rfl⟩)
     go_roundw
     case rel=>exact ⟨i+1,by go_num,fun _=>hi,trivial⟩
     case measure=>simp [intOf]; omega
  ·have i1:¬ (i:Int)<16:=by omega
   obtain ⟨G,c9,HQ,TR1⟩:=HV.out
   have hE:=HE.out
   clear HV HE HB HC
   go_upto_region 24 with fail
   refine wp_wS [.c (.int .i64 0),.c (.int .i64 0),.c (.bool true),.c (.bool true),.c (.int .i64 0),.c (.int .i64 0),.c (.bool true),.c (.bool true),.c (.bool true),.c (.slice pe n ce),.c (pv (v4.heap.size+1) 0),.ev n (evN k),.c (.bool true),.c (.bool true),.c (.bool true)] [1,5,11,12] ?hs7 ?hf7
   case hs7=>
    exact .cons (.k _ fun yy vv hg hh=>RtW.of_c (Rt.same (num_any _ _)))<|.cons (.k _ fun yy vv hg hh=>RtW.of_c (Rt.same (num_any _ _)))<|.cons (.k _ fun yy vv hg hh =>  ((evT (TR1.gr hg) hl hb)))<|.cons (.k (fun yy => #[.slice pe n ce,.slice (yy 11 0).1 n (yy 11 0).2]) fun yy vv hg hh=>RtW.of_c (Rt.c (sameevT (hE.gr hg) (hh 11 rfl) hl hb))) .nil
   intro yw24 v5 hg h24
   simp only [FW,putFrom,Act.put,lqA,lqB,lqC,wvals,kW,lqD,lqE,Kw.c,pv,Kw.ev]
   clear h24
   have g24:=hg
   clear hg
   replace G:=G.trans g24
   replace c9:=c9.gr g24
   replace HQ:=fun k=>(HQ k).gr g24
   replace TR1:=TR1.gr g24
   replace hE:=hE.gr g24
   clear g24
   go_wp2_with fail
   go_ret
   exact ⟨rfl,G⟩
end
end
end Go.Proofs.YthlbckmkogkbkaaGreat